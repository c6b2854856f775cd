import PyProof.Rows.All
import Wide.All
import OpenK.AllK
import Wide.FinOn
import HandS.ForMost
import HandS.More
import HandS.Rev
import HandS.IsInst
import HandS.TupAny
import HandS.RaiseMore
import HandS.SetKeys
import HandS.SortKw
import HandS.Style
import HandS.StrMore
import KE.KRevSl
import HandS.Walk
import HandS.Conv
import HandS.TupLe
import HandS.Iter
import KE.GoesMore
import PyProof.Draws
import PySem.Challenge.RW_muffline_k34_first_open_demand
import HandS.Deep
set_option Elab.async false
set_option linter.all false
set_option maxRecDepth 100000
set_option maxHeartbeats 4000000
set_option pp.maxSteps 400
namespace Mu
open PySem PySem.Spec PyProof.Rows L2
/-! ### texts by their codes -/
def cd (z : Str) : List Nat := z.cps.toList
theorem cd_app (a b : Str) : cd (a ++ b) = cd a ++ cd b := by
  show (a.cps ++ b.cps).toList = _
  rw [Array.toList_append]; rfl
theorem cd_len (z : Str) : z.length = (cd z).length := by unfold cd Str.length; rw [Array.length_toList]
theorem cd_cut (z : Str) (lo hi : Option Int) : cd (cutS z lo hi) = ((cd z).drop (HT.sIx z.length 0 lo)).take (HT.sIx z.length z.length hi - HT.sIx z.length 0 lo) := rfl
theorem cd_pre (z : Str) (k : Nat) : cd (cutS z none (some (k : Int))) = (cd z).take k := by
  rw [cd_cut, HT.sIx_none, HT.sIx_nat, List.drop_zero, Nat.sub_zero, cd_len, ← List.take_eq_take_min]
theorem cd_suf (z : Str) (k : Nat) : cd (cutS z (some (k : Int)) none) = (cd z).drop k := by
  rw [cd_cut, HT.sIx_none, HT.sIx_nat, cd_len]
  by_cases h : k ≤ (cd z).length
  · rw [Nat.min_eq_left h]
    exact List.take_of_length_le (by rw [List.length_drop]; exact Nat.le_refl _)
  · rw [Nat.min_eq_right (by omega), Nat.sub_self, List.take_zero, List.drop_of_length_le (by omega)]
theorem join_cons2 (a x y : Str) (r : List Str) : Str.join a (x :: y :: r) = x ++ a ++ Str.join a (y :: r) := rfl
theorem cd_join (a : Str) : ∀ ys : List Str, cd (Txt.join a ys) = ((ys.map cd).intersperse (cd a)).flatten := by
  intro ys
  show cd (Builtin.Str.glued a ys) = _
  rw [StrLaws.glued_eq_join]
  induction ys with
  | nil => rfl
  | cons x r ih =>
    cases r with
    | nil => show cd x = cd x ++ []; rw [List.append_nil]
    | cons y r =>
      rw [join_cons2, cd_app, cd_app, ih]
      simp [List.intersperse, List.append_assoc]
theorem cd_join0 (ys : List Str) : cd (Txt.join "" ys) = ys.flatMap cd := by
  rw [cd_join, show cd "" = [] from rfl]
  induction ys with
  | nil => rfl
  | cons x r ih =>
    cases r with
    | nil => simp
    | cons y r =>
      simp only [List.map_cons, List.intersperse, List.flatten_cons, List.nil_append, List.flatMap_cons] at ih ⊢
      rw [ih]
theorem len_appS (a b : Str) : (a ++ b).length = a.length + b.length := by rw [cd_len, cd_len, cd_len, cd_app, List.length_append]
/-- a name: one to eight small letters -/
structure Nm (z : Str) : Prop where
  lo : 1 ≤ z.length
  hi : z.length ≤ 8
  az : ∀ c ∈ cd z, 97 ≤ c ∧ c ≤ 122
/-! ### data: texts, ints, None, tuples -/
mutual
inductive DAt (H : Hp) : V → PyData → Prop
  | str (x : Str) : DAt H (.str x) (.str x)
  | int (i : Int) : DAt H (.int i) (.int i)
  | non : DAt H .non .none
  | tup {a : Addr} {vs : List V} {ds : List PyData} : H a = some (.tup vs) → DsAt H vs ds → DAt H (.ref a) (.tuple ds)
inductive DsAt (H : Hp) : List V → List PyData → Prop
  | nil : DsAt H [] []
  | cons {v : V} {vs : List V} {d : PyData} {ds : List PyData} : DAt H v d → DsAt H vs ds → DsAt H (v :: vs) (d :: ds)
end
/-- tuples stay -/
def Tk (H H' : Hp) : Prop := ∀ a vs, H a = some (.tup vs) → H' a = some (.tup vs)
theorem Tk.refl (H : Hp) : Tk H H := fun _ _ h => h
theorem Tk.trans {H H1 H2 : Hp} (p : Tk H H1) (q : Tk H1 H2) : Tk H H2 := fun a vs h => q a vs (p a vs h)
theorem Tk.same {H H' : Hp} (s : Same H H') : Tk H H' := fun a vs h => s a _ h
theorem Tk.upd {H : Hp} {a : Addr} {o : HO} (n : ∀ vs, H a ≠ some (.tup vs)) : Tk H (L2.upd H a o) := fun b vs h => by
  have nb : b ≠ a := fun e => by subst e; exact n vs h
  rw [upd_ne nb]
  exact h
theorem Tk.new {H : Hp} {a : Addr} {o : HO} (n : H a = none) : Tk H (L2.upd H a o) := Tk.upd fun vs e => by rw [n] at e; cases e
theorem Tk.lst {H : Hp} {a : Addr} {o : HO} {xs : List V} (h : H a = some (.lst xs)) : Tk H (L2.upd H a o) := Tk.upd fun vs e => by rw [h] at e; cases e
mutual
theorem DAt.mono {H H' : Hp} (t : Tk H H') : ∀ {v d}, DAt H v d → DAt H' v d
  | _, _, .str x => .str x
  | _, _, .int i => .int i
  | _, _, .non => .non
  | _, _, .tup h r => .tup (t _ _ h) (DsAt.mono t r)
theorem DsAt.mono {H H' : Hp} (t : Tk H H') : ∀ {vs ds}, DsAt H vs ds → DsAt H' vs ds
  | _, _, .nil => .nil
  | _, _, .cons h r => .cons (DAt.mono t h) (DsAt.mono t r)
end
theorem DsAt.length {H : Hp} : ∀ {vs ds}, DsAt H vs ds → vs.length = ds.length
  | _, _, .nil => rfl
  | _, _, .cons _ r => congrArg (· + 1) (DsAt.length r)
theorem DsAt.get {H : Hp} : ∀ {vs ds} {i : Nat} {v : V}, DsAt H vs ds → vs[i]? = some v → ∃ d, ds[i]? = some d ∧ DAt H v d
  | _, _, 0, v, .cons h _, e => ⟨_, rfl, by cases e; exact h⟩
  | _, _, i + 1, v, .cons _ r, e => DsAt.get (i := i) r e
/-! all that occurs: the tuples, each ahead of what it holds -/
mutual
def occ : PyData → List PyData
  | .tuple ds => .tuple ds :: occs ds
  | _ => []
def occs : List PyData → List PyData
  | [] => []
  | d :: r => occ d ++ occs r
end
/-! the written form -/
def isTup : PyData → Bool
  | .tuple _ => true
  | _ => false
/-! ### terms -/
inductive Vt : PyData → Prop
  | nm {k z : Str} (hk : k = "host" ∨ k = "word" ∨ k = "own") (hz : Nm z) : Vt (.tuple [.str k, .str z])
  | road {n : Nat} (h : n ≤ 999999) : Vt (.tuple [.str "road", .int n])
  | both {a b : Str} (ha : Nm a) (hb : Nm b) : Vt (.tuple [.str "both", .str a, .str b])
  | ms {k z : Str} {n : Nat} (hk : k = "mark" ∨ k = "var") (hn : n ≤ 9) (hz : Nm z) : Vt (.tuple [.str k, .int n, .str z])
  | two {k : Str} {a b : PyData} (hk : k = "pair" ∨ k = "lock") (ha : Vt a) (hb : Vt b) : Vt (.tuple [.str k, a, b])
  | dig {a : PyData} (ha : Vt a) : Vt (.tuple [.str "digest", a])
  | nmd {k z : Str} {a : PyData} (hk : k = "box" ∨ k = "stamp") (ha : Vt a) (hz : Nm z) : Vt (.tuple [.str k, a, .str z])
/-! ### sizes -/
def sz (d : PyData) : Nat := (occ d).length
theorem Nm.cnt {z : Str} (h : Nm z) : (cd z).length ≤ 8 ∧ (cd z).count 40 = 0 := by
  refine ⟨by rw [← cd_len]; exact h.hi, List.count_eq_zero.mpr fun m => ?_⟩
  have := h.az 40 m
  omega
theorem Vt.tup {d : PyData} (h : Vt d) : isTup d = true := by cases h <;> rfl
/-! ### pairs of an int and a text: their order -/
/-! ### sorted, whose keys are tuples of an int and a text (behind h_sortK) -/
/-! ### sorted(t, key=f): t a tuple or a list of objects, f an own def whose values are pairs of an int and a text -/
/-- in the middle of a builtin that calls: objects of its own (U) stand untracked; what the body's heap said has changed by calls alone -/
structure Mid (X : Cx) (s : Shared) (H : Hp) (U : List (Addr × Obj)) (si : Shared) (Hi : Hp) : Prop where
  os : si.os = s.os
  bare : AllBare si.gens
  un : Un (frs X.stack) [] H Hi s.heap si.heap
  hok : HOk X.prog X.w Hi si.heap
  sm : Same H Hi
  u : ∀ p ∈ U, si.heap.get? p.1 = some p.2 ∧ Hi p.1 = none ∧ s.heap.objs.size ≤ p.1
section
open PyProof.Rows
variable {X : Cx} {pins : List (Addr × Obj)} {σ : L2.St} {s si : Shared} {H Hi : Hp} {U U' : List (Addr × Obj)}
/-- objects of the builtin's own change, or come -/
theorem Mid.heap (M : Mid X s H U si Hi) (h' : Heap) (t' : Nat) (k : ∀ b o, (∀ p ∈ U, b ≠ p.1) → si.heap.get? b = some o → h'.get? b = some o) (there : ∀ b o, si.heap.get? b = some o → ∃ o', h'.get? b = some o')
    (hu : ∀ p ∈ U', h'.get? p.1 = some p.2 ∧ Hi p.1 = none ∧ s.heap.objs.size ≤ p.1) : Mid X s H U' { si with heap := h', toks := t' } Hi := by
  have old : ∀ b o, s.heap.get? b = some o → ∀ p ∈ U, b ≠ p.1 := fun b o q p hp e => by
    have h1 := Heap.lt_size q
    rw [e] at h1
    exact Nat.not_lt.mpr (M.u p hp).2.2 h1
  have trk : ∀ b u, Hi b = some u → ∀ p ∈ U, b ≠ p.1 := fun b u q p hp e => by
    rw [e, (M.u p hp).2.1] at q
    cases q
  refine ⟨M.os, M.bare, ⟨fun b o q n hb hx => k b o (old b o q) (M.un.keep b o q n hb hx), fun b o q n hb hx => ?_, M.un.free, fun b o q hx => ?_, M.un.tups, M.un.frzs, M.un.tbls⟩, fun b u q => ?_, M.sm, hu⟩
  · obtain ⟨sl, e⟩ := M.un.slot b o q n hb hx
    exact ⟨sl, k b _ (old b o q) e⟩
  · obtain ⟨o', e⟩ := M.un.there b o q hx
    exact ⟨o', k b o' (old b o q) e⟩
  · refine (M.hok b u q).stay (fun c v hc r => k c v ?_ r) (fun _ r => r) fun _ _ r => r
    rcases hc with rfl | hc
    · exact trk _ _ q
    · exact trk _ _ hc
end
section
open PyProof.Rows
variable {X : Cx} {pins : List (Addr × Obj)} {σ : L2.St} {s : Shared} {H : Hp}
/-- key at i: an object of its own, the pair that g says of the item -/
def KeysAre (Hi : Hp) (g : Addr → Int × Str) (ks : List Value) (ts : List Addr) : Prop := Paired (fun (k : Value) (t : Addr) => ∃ p, k = .ref p ∧ Hi p = some (.tup [.int (g t).1, .str (g t).2])) ks ts
theorem KeysAre.mono {Hi Hj : Hp} {g : Addr → Int × Str} (sm : Same Hi Hj) : ∀ {ks : List Value} {ts : List Addr}, KeysAre Hi g ks ts → KeysAre Hj g ks ts
  | _, _, .nil => .nil
  | _, _, .cons ⟨p, e, h⟩ r => .cons ⟨p, e, sm _ _ h⟩ (KeysAre.mono sm r)
theorem KeysAre.len {Hi : Hp} {g : Addr → Int × Str} : ∀ {ks : List Value} {ts : List Addr}, KeysAre Hi g ks ts → ks.length = ts.length
  | _, _, .nil => rfl
  | _, _, .cons _ r => congrArg (· + 1) (KeysAre.len r)
end
/-! ### f(k = v, ..), nothing by position -/
def kwPermV (p : List Nat) (ws : List Value) : List Value := p.map fun i => ws.getD i .none
def kwPermX (p : List Nat) (zs : List V) : List V := p.map fun i => zs.getD i .non
theorem vals_getD : ∀ {zs : List V} {ws : List Value}, Vals zs ws → ∀ i, i < zs.length → RelV (zs.getD i .non) (ws.getD i .none)
  | _, _, .nil, i, h => absurd h (Nat.not_lt_zero _)
  | _, _, .cons h _, 0, _ => h
  | _, _, .cons _ r, i + 1, h => vals_getD r i (Nat.lt_of_succ_lt_succ h)
theorem kwPerm_vals {p : List Nat} {n : Nat} {zs : List V} {ws : List Value} (r : Vals zs ws) (hl : zs.length = n) (hp : p.all (· < n) = true) : Vals (kwPermX p zs) (kwPermV p ws) := by
  subst hl
  unfold kwPermX kwPermV
  induction p with
  | nil => exact .nil
  | cons i p ih =>
    rw [List.all_cons, Bool.and_eq_true] at hp
    exact .cons (vals_getD r i (of_decide_eq_true hp.1)) (ih hp.2)
section
variable {X : Cx} {CX : CXT} {k : Nat} {f : Addr} {fd : FuncData} {ps ks : List Str} {sp : Sp} {E : XK} {x : Str} {p pos : Pos} {kws : List Keyword} {tk : TA}
def tCallK0 (sp : Sp) (n : Nat) (gV : List V → List V) (E : XK) (tk : TA) : TE := fun σ H Q => tk σ H fun zs H2 => zs.length = n ∧ sp (gV zs) H2 Q E
theorem pe_callK0 {g : List Value → List Value} {gV : List V → List V} (F : FnOk X.prog X.w X.K X.mg X.base CX k f fd ps sp) (hr : Room k X.A) (hg : Gl X x) (hm : X.mg x = some (.ref f)) (hk : PySem.W.keepIn X.K (.ref f) = true)
    (hb : ∀ (s : Shared) (ws : List Value), ws.length = ks.length → BindsTo s fd ⟨[], ks.zip ws⟩ (ps.zip (g ws))) (hgl : ∀ {zs : List V} {ws : List Value}, Vals zs ws → zs.length = ks.length → Vals (gV zs) (g ws)) (hx : Passes CX X E)
    (hkw : PK X kws tk) (hall : (backToKw pos (keywordEach kws X.env)).all (·.1.isSome) = true := by rfl) (hks : (backToKw pos (keywordEach kws X.env)).filterMap (·.1) = ks := by rfl)
    (hdb : (x == ("__debug__" : Str)) = false := by decide) (hpl : ((backTo pos (starEach [] X.env)).any (·.1) || (backToKw pos (keywordEach kws X.env)).any (·.1.isNone)) = false := by rfl) :
    PE X (.Call (.Name x p) [] kws pos) (tCallK0 sp ks.length gV E tk) := by
  refine ⟨fun pins s σ H Q I h => ?_⟩
  refine wpAny_Call_Name_kw (ld_glob I hg hm ?_ hdb)
  refine PySem.W.callWith_KW0 (h₀ := X.base) I.ok.mod.kin hk hall (thn (hkw.run pos pins s σ H _ I h) fun ws s2 ⟨zs, H2, I2, rz, hl, q2⟩ => ⟨I2.kIn, ?_⟩) hpl
  rw [hks]
  have r2 := hgl rz hl
  refine wpAny_call (codeAny_mono (F.run X.A X.stack s2 H2 ⟨[], ks.zip ws⟩ (g ws) (gV zs) Q E hr I2.env0 (hb s2 ws (rz.length.symm.trans hl)) r2 q2) fun r s' hq => ?_)
  cases r with
  | error e => exact hx pins σ H2 s2 e s' I2 hq
  | ok fl =>
    cases fl with
    | ret u => exact I2.after hq
    | next => exact False.elim hq
    | brk => exact False.elim hq
    | cont => exact False.elim hq
end
/-! ### x < y of two tuples of one shape, ints and texts inside: told place by place -/
/-! ### t[::-1] of a tuple -/
def tRevT (K : PySem.W.Frag) (te : TE) : TE := fun σ H Q => te σ H fun x H1 => ∃ a xs, x = .ref a ∧ SqT K H1 a xs ∧ ∀ p, H1 p = none → Q (.ref p) (upd H1 p (.tup xs.reverse))
/-! ### enumerate(x): a new pair of place and item at each turn, from any source that the library can draw from -/
namespace EnG
open PyProof.Rows
/-- what the enumeration e finds ahead of turn i: its own count, and its source in the state S i -/
structure At (e it : Addr) (S : Nat → Heap → Prop) (i : Nat) (g : Heap) : Prop where
  cnt : ∃ v, IsEnum g e it (i : Int) v
  src : S i g
/-- a source of items: it stands at `it`; what J says of a turn is what it gives -/
structure Feeds (P : Program) (w : World) (K : PySem.W.Frag) (J : It) (e it : Addr) (S : Nat → Heap → Prop) : Prop where
  apart : e ≠ it
  live : ∀ i g, S i g → ∃ ob, g.get? it = some ob ∧ ∀ v, ob.data ≠ .cell v
  stay : ∀ i g g', S i g → (∀ ob, g.get? it = some ob → g'.get? it = some ob) → S i g'
  more : ∀ X : Cx, X.prog = P → X.w = w → X.K = K → X.calm = true → ∀ i pins s σ H, Inv X pins σ H s → S i s.heap → J.go i H →
    ∃ n fs V T, Draws P w X.A.in1 it fs n V T ∧ e ∉ fs ∧ T i s.heap ∧ i < n ∧ (∀ g, T (i + 1) g → S (i + 1) g) ∧
      ∀ v, V i v → ∃ x, RelV x v ∧ ∀ p, H p = none → J.yld i H (.ref p) (upd H p (.tup [.int (i : Nat), x]))
  last : ∀ X : Cx, X.prog = P → X.w = w → X.K = K → X.calm = true → ∀ i pins s σ H, Inv X pins σ H s → S i s.heap → J.stop i H →
    ∃ fs V T, Draws P w X.A.in1 it fs i V T ∧ T i s.heap
section
variable {P : Program} {w : World} {K : PySem.W.Frag} {J : It} {e it : Addr} {S : Nat → Heap → Prop} {X : Cx} {pins : List (Addr × Obj)} {s : Shared} {σ : L2.St} {H : Hp}
/-- the pair that a turn makes is a tuple of H -/
theorem pair_in {x : V} {v : Value} {i tk : Nat} {g g2 : Heap} (I : Inv X pins σ H s) (fp : ∀ b ∈ [e, it], FpOk X pins H b) (el : e < s.heap.objs.size) (rx : RelV x v)
    (tup : g.get? s.heap.objs.size = some { cls := .type "tuple", data := .seq #[.int i tk, v] }) (old : ∀ b o, b ≠ e → b ≠ it → s.heap.get? b = some o → g.get? b = some o) (like : Heap.SameBut e g g2) :
    Inv X pins σ (upd H s.heap.objs.size (.tup [.int (i : Nat), x])) { s with heap := g2, toks := tk + 1 } := by
  have there := (like.2 _ (Nat.ne_of_gt el)).trans tup
  refine Inv.turnedNew (ch := [e, it]) I (fun b o nb q => ?_) fp (Nat.le_refl _) ⟨(by decide : 2 ≤ sizeLine), [.int i tk, v], .cons ⟨tk, rfl⟩ (.cons rx .nil), _, there, rfl, 0, rfl⟩
  have nbe : b ≠ e := fun z => nb (z ▸ .head _)
  exact (like.2 b nbe).trans (old b o nbe (fun z => nb (z ▸ .tail _ (.head _))) q)
theorem turn {elts : List Expr} {kk : Nat} {tpos : Pos} (F : Feeds P w K J e it S) : Turn P w K (.Tuple elts kk tpos) J [e, it] e (At e it S) where
  mem := .head _
  obj := fun i g st b hb => match b, hb with
    | _, .head _ => st.cnt.elim fun v q => ⟨_, q, nofun⟩
    | _, .tail _ (.head _) => F.live i g st.src
  keep := fun i g g' st k => ⟨st.cnt.imp fun v q => k e (.head _) _ q, F.stay i g g' st.src fun ob q => k it (.tail _ (.head _)) ob q⟩
  item := fun X hP hw hK hc i pins s σ H E I fp st go => by
    cases hP; cases hw; cases hK
    have ⟨n, fs, V, T, D, nfs, t0, lt, up, out⟩ := F.more X rfl rfl rfl hc i pins s σ H I st.src go
    have ⟨v0, en⟩ := st.cnt
    have el := Heap.lt_size en
    refine wpAny_pyNext_enum_itemD D en t0 lt F.apart nfs fun v g tk hv eo t1 tup sz old => ⟨_, rfl, wpAny_letOwnedTupleGo_enum (s := { s with heap := g, toks := tk + 1 }) eo fun g2 en2 like => ?_⟩
    have ⟨x, rx, yl⟩ := out v hv
    have fresh := I.hok.fresh (Nat.le_refl s.heap.objs.size)
    have s1 : S (i + 1) g2 := F.stay _ g _ (up g t1) fun ob q => (like.2 it F.apart.symm).trans q
    have made := pair_in (s := s) I fp el rx tup old like
    refine ⟨.ref s.heap.objs.size, _, made, rfl, yl _ fresh, ⟨⟨v, by rw [Int.natCast_succ]; exact en2⟩, s1⟩, fun b hb => ?_⟩
    have low : b < s.heap.objs.size := match b, hb with
      | _, .head _ => el
      | _, .tail _ (.head _) => (F.live i _ st.src).elim fun ob q => Heap.lt_size q.1
    rw [upd_ne (Nat.ne_of_lt low)]
    exact (fp b hb).1
  done := fun X hP hw hK hc i pins s σ H E I fp st stop => by
    cases hP; cases hw; cases hK
    have ⟨fs, V, T, D, t0⟩ := F.last X rfl rfl rfl hc i pins s σ H I st.src stop
    have ⟨v0, en⟩ := st.cnt
    have ⟨a0, a1, _, a3, a4, a5⟩ := fp it (.tail _ (.head _))
    exact wpAny_pyNext_enum_endD D en t0 fun g same => ⟨rfl, Inv.turned (t' := s.toks) I (fun b o nb q => same b o nb q) a0 a1 a3 a4 a5⟩
  self := fun A i s Q E st q => st.cnt.elim fun v en => wpAny_pyIter_enum en q
/-- an enumeration has been made over a source at the end of the heap -/
theorem begun {elts : List Expr} {kk : Nat} {tpos : Pos} {g : Heap} {R : It → Hp → Prop} (I : Inv X pins σ H s) (F : Feeds X.prog X.w X.K J (s.heap.objs.size + 1) s.heap.objs.size S)
    (en : IsEnum g (s.heap.objs.size + 1) s.heap.objs.size 0 .none) (st : S 0 g) (kept : ∀ b o, s.heap.get? b = some o → g.get? b = some o) (q : R J H) :
    wpAny (model X.prog X.w) X.A (pyIter (.ref (s.heap.objs.size + 1))) (PIE X pins σ (.Tuple elts kk tpos) R) X.xe { s with heap := g } :=
  wpAny_pyIter_enum en ⟨_, _, _, J, H, rfl, Inv.kept (t' := s.toks) I kept, turn F, ⟨⟨.none, en⟩, st⟩, fun b hb => match b, hb with
    | _, .head _ => I.fpOk (Nat.le_succ _) (I.hok.fresh (Nat.le_succ _))
    | _, .tail _ (.head _) => I.fpOk (Nat.le_refl _) (I.hok.fresh (Nat.le_refl _)), q⟩
end
end EnG
/-! enumerate(text) -/
def topS (i : Nat) : Stmt := PySem.Challenge.pw_muffline_k34_first_open_demand.main.body.getD i (.Pass ⟨0, 0, 0, 0⟩)
abbrev sstart_case : Stmt := topS 1
abbrev Nstart_case : List Str := []
theorem scstart_case : FnScope Nstart_case [] (defScope sstart_case) := ⟨rfl, rfl, rfl, by decide +kernel, rfl, by decide +kernel, by decide +kernel⟩
abbrev snext_demand : Stmt := topS 2
abbrev Nnext_demand : List Str := ["demands", "at", "_", "term"]
theorem scnext_demand : FnScope Nnext_demand ["demands"] (defScope snext_demand) := ⟨rfl, rfl, rfl, by decide +kernel, rfl, by decide +kernel, by decide +kernel⟩
abbrev sis_settled : Stmt := topS 3
abbrev Nis_settled : List Str := ["case"]
theorem scis_settled : FnScope Nis_settled ["case"] (defScope sis_settled) := ⟨rfl, rfl, rfl, by decide +kernel, rfl, by decide +kernel, by decide +kernel⟩
abbrev s_law_reader : Stmt := topS 5
abbrev N_law_reader : List Str := ["script"]
theorem sc_law_reader : FnScope N_law_reader ["script"] (defScope s_law_reader) := ⟨rfl, rfl, rfl, by decide +kernel, rfl, by decide +kernel, by decide +kernel⟩
abbrev s_law_mixed : Stmt := topS 6
abbrev N_law_mixed : List Str := ["number", "turn", "many", "first", "second"]
theorem sc_law_mixed : FnScope N_law_mixed ["number", "turn", "many"] (defScope s_law_mixed) := ⟨rfl, rfl, rfl, by decide +kernel, rfl, by decide +kernel, by decide +kernel⟩
abbrev s_law_draw : Stmt := topS 7
abbrev N_law_draw : List Str := ["reader", "many", "cell", "digit"]
theorem sc_law_draw : FnScope N_law_draw ["reader", "many"] (defScope s_law_draw) := ⟨rfl, rfl, rfl, by decide +kernel, rfl, by decide +kernel, by decide +kernel⟩
abbrev s_law_names : Stmt := topS 8
abbrev N_law_names : List Str := ["reader", "letters", "many", "size", "stem", "k", "at", "start", "step"]
theorem sc_law_names : FnScope N_law_names ["reader", "letters", "many"] (defScope s_law_names) := ⟨rfl, rfl, rfl, by decide +kernel, rfl, by decide +kernel, by decide +kernel⟩
abbrev s_law_inside : Stmt := topS 9
abbrev N_law_inside : List Str := ["term", "item"]
theorem sc_law_inside : FnScope N_law_inside ["term"] (defScope s_law_inside) := ⟨rfl, rfl, rfl, by decide +kernel, rfl, by decide +kernel, by decide +kernel⟩
abbrev s_law_parts : Stmt := topS 10
abbrev N_law_parts : List Str := ["terms", "found", "term", "part"]
theorem sc_law_parts : FnScope N_law_parts ["terms"] (defScope s_law_parts) := ⟨rfl, rfl, rfl, by decide +kernel, rfl, by decide +kernel, by decide +kernel⟩
abbrev s_law_atom : Stmt := topS 11
abbrev N_law_atom : List Str := ["reader", "names", "kind", "name", "other"]
theorem sc_law_atom : FnScope N_law_atom ["reader", "names"] (defScope s_law_atom) := ⟨rfl, rfl, rfl, by decide +kernel, rfl, by decide +kernel, by decide +kernel⟩
abbrev s_law_term : Stmt := topS 12
abbrev N_law_term : List Str := ["reader", "names", "depth", "kind", "first"]
theorem sc_law_term : FnScope N_law_term ["reader", "names", "depth"] (defScope s_law_term) := ⟨rfl, rfl, rfl, by decide +kernel, rfl, by decide +kernel, by decide +kernel⟩
abbrev s_law_same : Stmt := topS 13
abbrev N_law_same : List Str := ["actual", "due", "k"]
theorem sc_law_same : FnScope N_law_same ["actual", "due"] (defScope s_law_same) := ⟨rfl, rfl, rfl, by decide +kernel, rfl, by decide +kernel, by decide +kernel⟩
abbrev s_law_demands : Stmt := topS 14
abbrev N_law_demands : List Str := ["reader", "names", "length", "style", "many", "spot", "found", "at", "k", "term"]
theorem sc_law_demands : FnScope N_law_demands ["reader", "names", "length"] (defScope s_law_demands) := ⟨rfl, rfl, rfl, by decide +kernel, rfl, by decide +kernel, by decide +kernel⟩
abbrev s_law_bound : Stmt := topS 15
abbrev N_law_bound : List Str := ["reader", "names", "row", "demands", "used", "demand", "variable"]
theorem sc_law_bound : FnScope N_law_bound ["reader", "names", "row", "demands"] (defScope s_law_bound) := ⟨rfl, rfl, rfl, by decide +kernel, rfl, by decide +kernel, by decide +kernel⟩
abbrev s_law_told : Stmt := topS 16
abbrev N_law_told : List Str := ["actual", "due"]
theorem sc_law_told : FnScope N_law_told ["actual", "due"] (defScope s_law_told) := ⟨rfl, rfl, rfl, by decide +kernel, rfl, by decide +kernel, by decide +kernel⟩
abbrev slaw : Stmt := topS 17
abbrev Nlaw : List Str := ["script", "reader", "names", "row", "k", "demands", "schedule", "open_places", "first", "due_start", "ahead", "behind", "rest", "bindings", "stage"]
theorem sclaw : FnScope Nlaw ["script"] (defScope slaw) := ⟨rfl, rfl, rfl, by decide +kernel, rfl, by decide +kernel, by decide +kernel⟩
structure Top (K : PySem.W.Frag) (mg : Str → Option Value) where
  fstart_case : Addr
  dstart_case : FuncData
  Fstart_case : Fun K "start_case" "start_case" sstart_case fstart_case dstart_case
  gstart_case : mg "start_case" = some (.ref fstart_case)
  bstart_case : Binds K dstart_case [] []
  fnext_demand : Addr
  dnext_demand : FuncData
  Fnext_demand : Fun K "next_demand" "next_demand" snext_demand fnext_demand dnext_demand
  gnext_demand : mg "next_demand" = some (.ref fnext_demand)
  bnext_demand : Binds K dnext_demand ["demands"] []
  fis_settled : Addr
  dis_settled : FuncData
  Fis_settled : Fun K "is_settled" "is_settled" sis_settled fis_settled dis_settled
  gis_settled : mg "is_settled" = some (.ref fis_settled)
  bis_settled : Binds K dis_settled ["case"] []
  f_law_reader : Addr
  d_law_reader : FuncData
  F_law_reader : Fun K "_law_reader" "_law_reader" s_law_reader f_law_reader d_law_reader
  g_law_reader : mg "_law_reader" = some (.ref f_law_reader)
  b_law_reader : Binds K d_law_reader ["script"] []
  f_law_mixed : Addr
  d_law_mixed : FuncData
  F_law_mixed : Fun K "_law_mixed" "_law_mixed" s_law_mixed f_law_mixed d_law_mixed
  g_law_mixed : mg "_law_mixed" = some (.ref f_law_mixed)
  b_law_mixed : Binds K d_law_mixed ["number", "turn", "many"] []
  f_law_draw : Addr
  d_law_draw : FuncData
  F_law_draw : Fun K "_law_draw" "_law_draw" s_law_draw f_law_draw d_law_draw
  g_law_draw : mg "_law_draw" = some (.ref f_law_draw)
  b_law_draw : Binds K d_law_draw ["reader", "many"] []
  f_law_names : Addr
  d_law_names : FuncData
  F_law_names : Fun K "_law_names" "_law_names" s_law_names f_law_names d_law_names
  g_law_names : mg "_law_names" = some (.ref f_law_names)
  b_law_names : Binds K d_law_names ["reader", "letters", "many"] []
  f_law_inside : Addr
  d_law_inside : FuncData
  F_law_inside : Fun K "_law_inside" "_law_inside" s_law_inside f_law_inside d_law_inside
  g_law_inside : mg "_law_inside" = some (.ref f_law_inside)
  b_law_inside : Binds K d_law_inside ["term"] []
  f_law_parts : Addr
  d_law_parts : FuncData
  F_law_parts : Fun K "_law_parts" "_law_parts" s_law_parts f_law_parts d_law_parts
  g_law_parts : mg "_law_parts" = some (.ref f_law_parts)
  b_law_parts : Binds K d_law_parts ["terms"] []
  f_law_atom : Addr
  d_law_atom : FuncData
  F_law_atom : Fun K "_law_atom" "_law_atom" s_law_atom f_law_atom d_law_atom
  g_law_atom : mg "_law_atom" = some (.ref f_law_atom)
  b_law_atom : Binds K d_law_atom ["reader", "names"] []
  f_law_term : Addr
  d_law_term : FuncData
  F_law_term : Fun K "_law_term" "_law_term" s_law_term f_law_term d_law_term
  g_law_term : mg "_law_term" = some (.ref f_law_term)
  b_law_term : Binds K d_law_term ["reader", "names", "depth"] []
  f_law_same : Addr
  d_law_same : FuncData
  F_law_same : Fun K "_law_same" "_law_same" s_law_same f_law_same d_law_same
  g_law_same : mg "_law_same" = some (.ref f_law_same)
  b_law_same : Binds K d_law_same ["actual", "due"] []
  f_law_demands : Addr
  d_law_demands : FuncData
  F_law_demands : Fun K "_law_demands" "_law_demands" s_law_demands f_law_demands d_law_demands
  g_law_demands : mg "_law_demands" = some (.ref f_law_demands)
  b_law_demands : Binds K d_law_demands ["reader", "names", "length"] []
  f_law_bound : Addr
  d_law_bound : FuncData
  F_law_bound : Fun K "_law_bound" "_law_bound" s_law_bound f_law_bound d_law_bound
  g_law_bound : mg "_law_bound" = some (.ref f_law_bound)
  b_law_bound : Binds K d_law_bound ["reader", "names", "row", "demands"] []
  f_law_told : Addr
  d_law_told : FuncData
  F_law_told : Fun K "_law_told" "_law_told" s_law_told f_law_told d_law_told
  g_law_told : mg "_law_told" = some (.ref f_law_told)
  b_law_told : Binds K d_law_told ["actual", "due"] []
  flaw : Addr
  dlaw : FuncData
  Flaw : Fun K "law" "law" slaw flaw dlaw
  glaw : mg "law" = some (.ref flaw)
  blaw : Binds K dlaw ["script"] []
  knext_demand_demands : ∀ (s : Shared) (ws : List Value), ws.length = (["demands"] : List Str).length → BindsTo s dnext_demand ⟨[], (["demands"] : List Str).zip ws⟩ ((["demands"] : List Str).zip (kwPermV [0] ws))
  kis_settled_case : ∀ (s : Shared) (ws : List Value), ws.length = (["case"] : List Str).length → BindsTo s dis_settled ⟨[], (["case"] : List Str).zip ws⟩ ((["case"] : List Str).zip (kwPermV [0] ws))
  z_abs : mg "abs" = none
  z_all : mg "all" = none
  z_bool : mg "bool" = none
  z_enumerate : mg "enumerate" = none
  z_int : mg "int" = none
  z_isinstance : mg "isinstance" = none
  z_len : mg "len" = none
  z_list : mg "list" = none
  z_max : mg "max" = none
  z_range : mg "range" = none
  z_str : mg "str" = none
  z_sum : mg "sum" = none
  z_tuple : mg "tuple" = none
/-! ### the hand's short words -/
/-- all but what stands at a is as it was -/
def Fr (a : Addr) (H H' : Hp) : Prop := ∀ x o, H x = some o → x ≠ a → H' x = some o
theorem Fr.refl (a : Addr) (H : Hp) : Fr a H H := fun _ _ h _ => h
theorem Fr.trans {a : Addr} {H H1 H2 : Hp} (p : Fr a H H1) (q : Fr a H1 H2) : Fr a H H2 := fun x o h n => q x o (p x o h n) n
theorem Fr.upd {a : Addr} {o : HO} (H : Hp) : Fr a H (L2.upd H a o) := fun x u h n => by rw [upd_ne n]; exact h
theorem Fr.new {a p : Addr} {o : HO} {H : Hp} (h : H p = none) : Fr a H (L2.upd H p o) := fun x u e _ => by rw [upd_ne (ne_of_none e h)]; exact e
theorem Fr.same {a : Addr} {H H' : Hp} (h : Same H H') : Fr a H H' := fun x o e _ => h x o e
theorem at_ok {α : Type} {xs : List α} {p : Int} (h0 : 0 ≤ p) (h1 : p < (xs.length : Int)) : ∃ z, atI xs p = some z ∧ z ∈ xs := by
  obtain ⟨j, rfl⟩ : ∃ j : Nat, p = (j : Int) := ⟨p.toNat, by omega⟩
  have hj : j < xs.length := by omega
  exact ⟨xs[j], atI_nat (List.getElem?_eq_getElem hj), List.getElem_mem hj⟩
theorem at_map {α β : Type} {f : α → β} {xs : List α} {p : Int} (h0 : 0 ≤ p) (h1 : p < (xs.length : Int)) : ∃ z, z ∈ xs ∧ atI (xs.map f) p = some (f z) := by
  obtain ⟨z, hz, hm⟩ := at_ok (xs := xs.map f) h0 (by rw [List.length_map]; exact h1)
  obtain ⟨y, hy, rfl⟩ := List.mem_map.mp hm
  exact ⟨y, hy, hz⟩
/-! ### one step of a reading -/
section
variable {σ : L2.St} {H : Hp} {Q : VK} {D : Ends} {K : PySem.W.Frag}
theorem w_var {i : Nat} {v : V} (h : σ[i]? = some (some v)) (q : Q v H) : tVar i σ H Q := ⟨v, h, q⟩
theorem w_c {v : V} (q : Q v H) : tC v σ H Q := q
theorem w_op {r : R2} {ta tb : TE} (q : ta σ H fun x H1 => tb σ H1 fun y H2 => r x y H2 Q) : tOp r ta tb σ H Q := q
theorem w_un {r : V → Hp → VK → Prop} {ta : TE} (q : ta σ H fun x H1 => r x H1 Q) : tUn r ta σ H Q := q
theorem w_cb {r : List V → Hp → VK → Prop} {t : TA} (q : t σ H fun vs H1 => r vs H1 Q) : tCB r t σ H Q := q
theorem w_cons {ta : TE} {tr : TA} {R : List V → Hp → Prop} (q : ta σ H fun x H1 => tr σ H1 fun xs H2 => R (x :: xs) H2) : tCons ta tr σ H R := q
theorem w_nil {R : List V → Hp → Prop} (q : R [] H) : tNil σ H R := q
theorem w_seq {t u : TS} (q : t { D with nx := u D } σ H) : tSeq t u D σ H := q
theorem w_next (q : D.nx σ H) : tNext D σ H := q
theorem w_asg {te : TE} {g : TG} (q : te σ H fun x H1 => g x σ H1 D.nx) : tAsg te g D σ H := q
theorem w_gname {i : Nat} {v : V} {R : L2.St → Hp → Prop} (q : R (σ.set i (some v)) H) : gName i v σ H R := q
theorem w_gsub {to ti : TE} {t : TSet} {v : V} {R : L2.St → Hp → Prop} (q : to σ H fun o H1 => ti σ H1 fun i H2 => t o i v H2 fun H3 => R σ H3) : gSub to ti t v σ H R := q
theorem w_drop {te : TE} (q : te σ H fun _ H1 => D.nx σ H1) : tDrop te D σ H := q
theorem w_ret {te : TE} (q : te σ H D.rt) : tRet te D σ H := q
theorem w_retN (q : D.rt .non H) : tRetN D σ H := q
theorem w_ifs {c : TT} {t u : TS} (q : c σ H fun b H1 => if b = true then t D σ H1 else u D σ H1) : tIfS c t u D σ H := q
theorem w_test {te : TE} {R : Bool → Hp → Prop} (q : te σ H fun x H' => ∃ k, x = .bl k ∧ R k H') : tTest te σ H R := q
theorem w_tB {te : TE} {R : Bool → Hp → Prop} (q : te σ H fun x H' => ∃ k, x = .bl k ∧ R k H') : tB te σ H R := q
theorem w_and {t u : TT} {R : Bool → Hp → Prop} (q : t σ H fun c H1 => if c = true then u σ H1 R else R false H1) : tAnd t u σ H R := q
theorem w_or {t u : TT} {R : Bool → Hp → Prop} (q : t σ H fun c H1 => if c = true then R true H1 else u σ H1 R) : tOr t u σ H R := q
theorem w_not {t : TT} {R : Bool → Hp → Prop} (q : t σ H fun c H1 => R (!c) H1) : tNot t σ H R := q
theorem w_k {k : Bool} {R : Bool → Prop} (q : R k) : ∃ k', V.bl k = .bl k' ∧ R k' := ⟨k, rfl, q⟩
theorem w_I0 {g : Int → Int → V} {i j : Int} (q : Q (g i j) H) : rI0 g (.int i) (.int j) H Q := ⟨i, j, rfl, rfl, q⟩
theorem w_I {C : Int → Int → Prop} {g : Int → Int → V} {i j : Int} (c : C i j) (q : Q (g i j) H) : rI C g (.int i) (.int j) H Q := ⟨i, j, rfl, rfl, c, q⟩
theorem w_U {g : Int → V} {i : Int} (q : Q (g i) H) : rU g (.int i) H Q := ⟨i, rfl, q⟩
theorem w_eqI {i j : Int} (q : Q (.bl (decide (i = j))) H) : rEq (.int i) (.int j) H Q := ⟨rfl, by
  rw [show decide (V.int i = V.int j) = decide (i = j) from decide_eq_decide.mpr ⟨fun e => V.int.inj e, fun e => e ▸ rfl⟩]
  exact q⟩
theorem w_neI {i j : Int} (q : Q (.bl (!decide (i = j))) H) : rNe (.int i) (.int j) H Q := ⟨rfl, by
  rw [show decide (V.int i = V.int j) = decide (i = j) from decide_eq_decide.mpr ⟨fun e => V.int.inj e, fun e => e ▸ rfl⟩]
  exact q⟩
theorem w_eqS {i j : Str} (q : Q (.bl (decide (i = j))) H) : rEq (.str i) (.str j) H Q := ⟨rfl, by
  rw [show decide (V.str i = V.str j) = decide (i = j) from decide_eq_decide.mpr ⟨fun e => V.str.inj e, fun e => e ▸ rfl⟩]
  exact q⟩
theorem w_neS {i j : Str} (q : Q (.bl (!decide (i = j))) H) : rNe (.str i) (.str j) H Q := ⟨rfl, by
  rw [show decide (V.str i = V.str j) = decide (i = j) from decide_eq_decide.mpr ⟨fun e => V.str.inj e, fun e => e ▸ rfl⟩]
  exact q⟩
theorem w_ixL {p : Addr} {xs : List V} {i : Int} {v : V} (h : SqL K H p xs) (e : atI xs i = some v) (q : Q v H) : rIxL K (.ref p) (.int i) H Q := ⟨p, xs, i, v, rfl, rfl, h, e, q⟩
theorem w_ixT {p : Addr} {xs : List V} {i : Int} {v : V} (h : SqT K H p xs) (e : atI xs i = some v) (q : Q v H) : rIxT K (.ref p) (.int i) H Q := ⟨p, xs, i, v, rfl, rfl, h, e, q⟩
theorem w_setL {p : Addr} {xs : List V} {k : Int} {j : Nat} {v : V} {R : Hp → Prop} (h : H p = some (.lst xs)) (e : ixN xs.length k = some j) (q : R (upd H p (.lst (xs.set j v)))) : rSetL (.ref p) (.int k) v H R := ⟨p, xs, k, j, rfl, rfl, h, e, q⟩
theorem w_call {sp : Sp} {dvs : List V} {E : XK} {t : TA} (q : t σ H fun vs H1 => sp (vs ++ dvs) H1 Q E) : tCall sp dvs E t σ H Q := q
theorem w_tup {t : TA} (q : t σ H fun xs H1 => xs.length ≤ sizeLine ∧ ∀ p, H1 p = none → Q (.ref p) (upd H1 p (.tup xs))) : tTup t σ H Q := q
theorem w_lst {t : TA} (q : t σ H fun xs H1 => xs.length ≤ sizeLine ∧ ∀ p, H1 p = none → Q (.ref p) (upd H1 p (.lst xs))) : tLst t σ H Q := q
theorem w_int {i : Int} {C : Prop} {R : Int → Prop} (q : R i) : (∃ j, [V.int i] = [.int j] ∧ R j) ∨ C := .inl ⟨i, rfl, q⟩
theorem w_bm {T : String} {r : V → List V → Hp → VK → Prop} {to : TE} {t : TA} (q : to σ H fun x H1 => tyV K T x H1 ∧ t σ H1 fun xs H2 => r x xs H2 Q) : tBM K T r to t σ H Q := q
theorem w_bm0 {T : String} {r : V → List V → Hp → VK → Prop} {to : TE} (q : to σ H fun x H1 => tyV K T x H1 ∧ r x [] H1 Q) : tBM0 K T r to σ H Q := q
theorem w_append {l : Addr} {xs : List V} {y : V} (h : H l = some (.lst xs)) (n : xs.length < sizeLine) (q : Q .non (upd H l (.lst (xs ++ [y])))) : rAppend (.ref l) [y] H Q := ⟨l, xs, y, rfl, rfl, h, n, q⟩
theorem ty_l {l : Addr} {xs : List V} (h : H l = some (.lst xs)) : tyV K "list" (.ref l) H := Or.inl ⟨rfl, _, Or.inl (Or.inl h)⟩
theorem w_tyl {l : Addr} {xs : List V} {C : Prop} (h : H l = some (.lst xs)) (q : C) : tyV K "list" (.ref l) H ∧ C := ⟨ty_l h, q⟩
theorem w_sl {r : V → Option Int → Option Int → Hp → VK → Prop} {te : TE} {tl th : TO} (q : te σ H fun x H1 => tl σ H1 fun l H2 => th σ H2 fun u H3 => r x l u H3 Q) : tSl r te tl th σ H Q := q
theorem w_no {R : Option Int → Hp → Prop} (q : R none H) : tNoPart σ H R := q
theorem w_part {t : TE} {R : Option Int → Hp → Prop} (q : t σ H fun x H1 => ∃ i, x = .int i ∧ R (some i) H1) : tPart t σ H R := q
theorem w_pi {i : Int} {R : Int → Prop} (q : R i) : ∃ j, V.int i = .int j ∧ R j := ⟨i, rfl, q⟩
theorem w_slS {z : Str} {lo hi : Option Int} (n : z.length ≤ sizeLine) (q : Q (.str (cutS z lo hi)) H) : rSlS (.str z) lo hi H Q := ⟨z, rfl, n, q⟩
theorem w_m1 {r : V → List V → Hp → VK → Prop} {to te : TE} (q : to σ H fun x H1 => (∃ a, x = .str a) ∧ te σ H1 fun y H2 => r x [y] H2 Q) : tM1 r to te σ H Q := q
theorem w_s {z : Str} {C : Prop} (q : C) : (∃ a, V.str z = .str a) ∧ C := ⟨⟨z, rfl⟩, q⟩
theorem w_len {p : Addr} {ys : List V} {R : List V → Prop} (h : SqL K H p ys) (q : R ys) : ∃ p' ys', [V.ref p] = [V.ref p'] ∧ (SqL K H p' ys' ∨ SqT K H p' ys') ∧ R ys' := ⟨p, ys, rfl, .inl h, q⟩
theorem w_lenT {p : Addr} {ys : List V} {R : List V → Prop} (h : SqT K H p ys) (q : R ys) : ∃ p' ys', [V.ref p] = [V.ref p'] ∧ (SqL K H p' ys' ∨ SqT K H p' ys') ∧ R ys' := ⟨p, ys, rfl, .inr h, q⟩
theorem w_lenS {z : Str} {R : Str → Prop} (n : z.length ≤ sizeLine) (q : R z) : ∃ z', [V.str z] = [V.str z'] ∧ z'.length ≤ sizeLine ∧ R z' := ⟨z, rfl, n, q⟩
theorem w_one {i : Int} {R : Int → Prop} (q : R i) : ∃ j, [V.int i] = [V.int j] ∧ R j := ⟨i, rfl, q⟩
theorem w_two {i j : Int} {R : Int → Int → Prop} (q : R i j) : ∃ i' j', [V.int i, V.int j] = [V.int i', V.int j'] ∧ R i' j' := ⟨i, j, rfl, q⟩
theorem w_for {wi : TI} {g : TG} {tb : TS} (q : wi σ H fun J H1 => ∃ W : Nat → Nat → L2.St → Hp → Prop, (∃ m, W 0 m σ H1) ∧ ∀ i m σ H, W i m σ H → (J.stop i H ∧ D.nx σ H) ∨ (J.go i H ∧ ∃ N : L2.St → Hp → Prop, (∀ σ' H', N σ' H' → ∃ m', m' < m ∧ W (i + 1) m' σ' H') ∧ ∀ x H', J.yld i H x H' → g x σ H' fun σ2 H2 => tb { D with nx := N, ct := N, bk := D.nx } σ2 H2)) : tFor wi g tb D σ H := q
theorem w_iList {tl : TE} {R : It → Hp → Prop} (q : tl σ H fun x H1 => ∃ a, x = .ref a ∧ (∃ xs, SqL K H1 a xs) ∧ R (Itl K a) H1) : iList K tl σ H R := q
theorem w_iTup {tl : TE} {R : It → Hp → Prop} (q : tl σ H fun x H1 => ∃ a, x = .ref a ∧ (∃ xs, SqT K H1 a xs) ∧ R (Itt K a) H1) : iTup K tl σ H R := q
theorem w_itl {a : Addr} {xs : List V} {R : Addr → Prop} (h : SqL K H a xs) (q : R a) : ∃ a', V.ref a = .ref a' ∧ (∃ xs, SqL K H a' xs) ∧ R a' := ⟨a, rfl, ⟨xs, h⟩, q⟩
theorem w_itt {a : Addr} {xs : List V} {R : Addr → Prop} (h : SqT K H a xs) (q : R a) : ∃ a', V.ref a = .ref a' ∧ (∃ xs, SqT K H a' xs) ∧ R a' := ⟨a, rfl, ⟨xs, h⟩, q⟩
theorem w_iRng1 {ta : TA} {R : It → Hp → Prop} (q : ta σ H fun vs H1 => ∃ j : Int, vs = [.int j] ∧ -(2 ^ 62) ≤ j ∧ j < 2 ^ 62 ∧ R (Itr 0 j.toNat) H1) : iRng1 ta σ H R := q
theorem w_rng {j : Int} {R : Int → Prop} (h1 : -(2 ^ 62) ≤ j) (h2 : j < 2 ^ 62) (q : R j) : ∃ j' : Int, [V.int j] = [.int j'] ∧ -(2 ^ 62) ≤ j' ∧ j' < 2 ^ 62 ∧ R j' := ⟨j, rfl, h1, h2, q⟩
theorem w_lc {wi : TI} {g : TG} {tt : TT} {te : TE} {vs : List Nat} (q : wi σ H fun J H1 => ∀ D, H1 D = none → ∃ W : Nat → Nat → Hp → Prop, (∃ m, W 0 m (upd H1 D (.lst []))) ∧ ∀ i m H, W i m H →
      (J.stop i H ∧ Q (.ref D) H) ∨ (J.go i H ∧ ∃ Nx : Hp → Prop, (∀ H', Nx H' → ∃ m', m' < m ∧ W (i + 1) m' H') ∧ ∀ x H', J.yld i H x H' → g x (wipe σ vs) H' fun σ2 H2 => wipe σ2 vs = wipe σ vs ∧ tt σ2 H2 fun b H3 =>
        if b = true then te σ2 H3 fun y H4 => ∃ acc, H4 D = some (.lst acc) ∧ acc.length < sizeLine ∧ Nx (upd H4 D (.lst (acc ++ [y]))) else Nx H3)) : tLc wi g tt te vs σ H Q := q
theorem w_yes {R : Bool → Hp → Prop} (q : R true H) : tYes σ H R := q
theorem w_wipe {σ1 σ2 : L2.St} {C : Prop} (h : σ1 = σ2) (q : C) : σ1 = σ2 ∧ C := ⟨h, q⟩
theorem w_cmpS {i j : Str} {R : Str → Str → Prop} (q : R i j) : ∃ i' j', V.str i = .str i' ∧ V.str j = .str j' ∧ R i' j' := ⟨i, j, rfl, rfl, q⟩
theorem w_truL {p : Addr} {xs : List V} {R : Bool → Prop} (h : SqL K H p xs) (q : R (!xs.isEmpty)) : ∃ k, TruV K (.ref p) H k ∧ R k := ⟨_, Or.inl ⟨xs, h, rfl⟩, q⟩
theorem w_pop {l : Addr} {xs : List V} {y : V} (h : H l = some (.lst (xs ++ [y]))) (q : Q y (upd H l (.lst xs))) : rPop (.ref l) [] H Q := ⟨l, xs ++ [y], y, rfl, rfl, h, by simp, by rw [List.dropLast_concat]; exact q⟩
theorem w_revA {te : TE} {R : It → Hp → Prop} (q : te σ H fun v H1 => ∃ (a : Addr) (xs : List V), v = .ref a ∧ ((SqL K H1 a xs ∧ R (Itv K a xs.length) H1) ∨ (SqT K H1 a xs ∧ R (RT.ItvT K a xs.length) H1))) : RT.iRevA K te σ H R := q
theorem w_rvT {a : Addr} {xs : List V} {C R : Addr → List V → Prop} (h : SqT K H a xs) (q : R a xs) : ∃ (a' : Addr) (xs' : List V), V.ref a = .ref a' ∧ (C a' xs' ∨ (SqT K H a' xs' ∧ R a' xs')) := ⟨a, xs, rfl, .inr ⟨h, q⟩⟩
theorem w_rvL {a : Addr} {xs : List V} {C R : Addr → List V → Prop} (h : SqL K H a xs) (q : R a xs) : ∃ (a' : Addr) (xs' : List V), V.ref a = .ref a' ∧ ((SqL K H a' xs' ∧ R a' xs') ∨ C a' xs') := ⟨a, xs, rfl, .inl ⟨h, q⟩⟩
theorem w_isi {v : V} {d : PyData} (h : DAt H v d) (q : Q (.bl (isTup d)) H) : rIsi K [v, .ty "tuple"] H Q := by
  cases h with
  | str x => exact ⟨_, _, _, _, false, rfl, .ty _, .base (.str x), kit_ty (by decide +kernel), q⟩
  | int x => exact ⟨_, _, _, _, false, rfl, .ty _, .base (.int x), kit_ty (by decide +kernel), q⟩
  | non => exact ⟨_, _, _, _, false, rfl, .ty _, .base .non, kit_ty (by decide +kernel), q⟩
  | tup h _ => exact ⟨_, _, _, _, true, rfl, .ty _, .base (.tup h), kit_ty (by decide +kernel), q⟩
theorem w_dg {td ty : TE} (q : td σ H fun x H1 => ty σ H1 fun y H2 => ∃ a v, x = .ref a ∧ DGet H2 a y (some v) ∧ Q v H2) : tDGet td ty σ H Q := q
theorem w_dp {td ty tv : TE} (q : tv σ H fun v H1 => td σ H1 fun x H2 => ty σ H2 fun y H3 => ∃ a H4, x = .ref a ∧ DPut H3 a y v H4 ∧ D.nx σ H4) : sDPut td ty tv D σ H := q
theorem w_it {c A B : Prop} [Decidable c] (h : c) (q : A) : if c then A else B := by rw [if_pos h]; exact q
theorem w_if {c A B : Prop} [Decidable c] (h : ¬ c) (q : B) : if c then A else B := by rw [if_neg h]; exact q
theorem w_cnt {x y : Str} {R : Str → Str → Prop} (q : R x y) : ∃ a b, V.str x = .str a ∧ [V.str y] = [.str b] ∧ R a b := ⟨x, y, rfl, rfl, q⟩
theorem w_par {i j : Nat} {ta : TA} (q : ta σ H fun vs H1 => ∃ v w, vs = [v, w] ∧ D.nx ((σ.set i (some v)).set j (some w)) H1) : tPar i j ta D σ H := q
theorem w_par2 {v w : V} {R : V → V → Prop} (q : R v w) : ∃ v' w', [v, w] = [v', w'] ∧ R v' w' := ⟨v, w, rfl, q⟩
end
theorem Nm.len {z : Str} (h : Nm z) : z.length ≤ sizeLine := Nat.le_trans h.hi (by decide)
theorem nm_len {z : Str} (h : z.length ≤ 1000000) : z.length ≤ sizeLine := Nat.le_trans h (by decide)
theorem j_ifs {c : TT} {t u : TS} {D : Ends} {σ : L2.St} {H : Hp} (k : D.nx σ H) (h : D.nx σ H → c σ H fun b H1 => if b = true then t D σ H1 else u D σ H1) : tIfS c t u D σ H := h k
theorem add_ok {m n : Nat} (h : m + n ≤ 1000000) : m + n ≤ sizeLine := Nat.le_trans h (by decide)
theorem len_app (a b : Str) : (a ++ b).length = a.length + b.length := by rw [cd_len, cd_len, cd_len, cd_app, List.length_append]
theorem len_one (x : Nat) : (⟨#[x]⟩ : Str).length = 1 := rfl
local macro_rules | `(tactic| walk_at "ne") => `(tactic| first | assumption | exact Ne.symm (by assumption) | exact ne_of_none (by assumption) (by assumption) | exact Ne.symm (ne_of_none (by assumption) (by assumption)))
local macro_rules | `(tactic| walk_at "hp") => `(tactic| first | assumption | exact upd_same | (rw [upd_ne (by walk_at "ne")]; walk_at "hp"))
local macro_rules | `(tactic| walk_at "sl") => `(tactic| first | assumption | exact SqL.of (by walk_at "hp"))
local macro_rules | `(tactic| walk_at "st") => `(tactic| first | assumption | exact SqT.of (by walk_at "hp"))
local macro_rules | `(tactic| walk_at "c") => `(tactic| first | assumption | decide | exact ⟨by omega, by omega⟩ | (show (0 : Int) < _; omega) | exact Or.inl ⟨by omega, by omega⟩ | exact Or.inr ⟨by omega, by omega⟩)
local macro_rules | `(tactic| walk_at "len") => `(tactic| (simp only [List.length_cons, List.length_nil]; decide))
local macro_rules | `(tactic| walk_at "z") => `(tactic| first | assumption | exact Nm.len (by assumption))
local macro_rules | `(tactic| walk_at "s0") => `(tactic| with_reducible first
  | (apply w_var; case h => with_unfolding_all rfl) | apply w_c | apply w_op | apply w_seq | apply w_asg | apply w_gname | apply w_cb | apply w_cons | apply w_nil | apply w_next
  | apply w_gsub | apply w_drop | apply w_ret | apply w_retN | apply w_test | apply w_tB | apply w_and | apply w_or | apply w_not | apply w_un | apply w_call | apply w_tup | apply w_lst
  | apply w_bm | apply w_bm0 | apply w_sl | apply w_no | apply w_part | apply w_m1 | apply w_dg | apply w_dp | apply w_for | apply w_iList | apply w_iTup | apply w_iRng1 | apply w_lc | apply w_yes | apply w_revA | apply w_par
  | apply w_I0 | apply w_U | apply w_eqI | apply w_neI | apply w_eqS | apply w_neS | apply w_k | apply w_pi | apply w_s | apply w_int
  | (apply w_ixL; (case h => with_unfolding_all walk_at "sl"); (case e => with_unfolding_all rfl)) | (apply w_ixT; (case h => with_unfolding_all walk_at "st"); (case e => with_unfolding_all rfl))
  | (apply w_setL; (case h => with_unfolding_all walk_at "hp"); (case e => with_unfolding_all rfl))
  | (apply w_tyl; (case h => with_unfolding_all walk_at "hp")) | (apply w_len; (case h => with_unfolding_all walk_at "sl")) | (apply w_lenT; (case h => with_unfolding_all walk_at "st"))
  | (apply w_rng; (case h1 => with_unfolding_all omega); (case h2 => with_unfolding_all omega)) | apply w_one | apply w_two
  | (apply w_I; (case c => with_unfolding_all walk_at "c"))
  | (apply w_itl; (case h => with_unfolding_all walk_at "sl")) | (apply w_itt; (case h => with_unfolding_all walk_at "st"))
  | (apply w_wipe; (case h => with_unfolding_all rfl)) | apply iteT | apply iteF | apply w_cmpS | apply w_cnt | apply w_par2
  | (apply w_slS; (case n => with_unfolding_all walk_at "z")) | (apply w_truL; (case h => with_unfolding_all walk_at "sl")) | (apply w_pop; (case h => with_unfolding_all walk_at "hp"))
  | (apply w_rvT; (case h => with_unfolding_all walk_at "st")) | (apply w_rvL; (case h => with_unfolding_all walk_at "sl")) | (apply w_isi; (case h => with_unfolding_all assumption)) | (apply w_lenS; (case n => with_unfolding_all walk_at "z")))
local macro_rules | `(tactic| walk_at "s") => `(tactic| first | walk_at "s0" | with_reducible apply w_ifs)
local macro_rules | `(tactic| walk_at "dc") => `(tactic| first | refine w_it (by decide +kernel) ?_ | refine w_if (by decide +kernel) ?_)
local macro_rules | `(tactic| walk_at "sa") => `(tactic| first | walk_at "s" | refine ⟨add_ok (by (try simp only [len_appS]); omega), ?_⟩ | walk_at "dc")
section
variable {σ : L2.St} {H : Hp} {Q : VK} {D : Ends} {K : PySem.W.Frag}
theorem w_ckw {r : List V → List V → Hp → VK → Prop} {t tk : TA} (q : t σ H fun vs H1 => tk σ H1 fun zs H2 => r vs zs H2 Q) : tCKw r t tk σ H Q := q
theorem w_ck0 {sp : Sp} {n : Nat} {gV : List V → List V} {E : XK} {tk : TA} (q : tk σ H fun zs H2 => zs.length = n ∧ sp (gV zs) H2 Q E) : tCallK0 sp n gV E tk σ H Q := q
theorem w_gtup {n : Nat} {t : TGs} {a : Addr} {xs : List V} {R : L2.St → Hp → Prop} (h : SqT K H a xs) (e : xs.length = n) (q : t xs σ H R) : gTup K n t (.ref a) σ H R := ⟨a, xs, rfl, h, e, q⟩
theorem w_gcons {t : TG} {u : TGs} {v : V} {r : List V} {R : L2.St → Hp → Prop} (q : t v σ H fun σ' H' => u r σ' H' R) : gCons t u (v :: r) σ H R := ⟨v, r, rfl, q⟩
theorem w_gnil {R : L2.St → Hp → Prop} (q : R σ H) : gNil [] σ H R := ⟨rfl, q⟩
theorem isi_s {z : Str} {n : String} {b : Bool} (k : kitB "str" n = some b) (q : Q (.bl b) H) : rIsi K [.str z, .ty n] H Q := ⟨_, _, _, _, b, rfl, .ty _, .base (.str z), kit_ty k, q⟩
theorem isi_i {z : Int} {n : String} {b : Bool} (k : kitB "int" n = some b) (q : Q (.bl b) H) : rIsi K [.int z, .ty n] H Q := ⟨_, _, _, _, b, rfl, .ty _, .base (.int z), kit_ty k, q⟩
theorem isi_t {a : Addr} {vs : List V} {n : String} {b : Bool} (h : H a = some (.tup vs)) (k : kitB "tuple" n = some b) (q : Q (.bl b) H) : rIsi K [.ref a, .ty n] H Q := ⟨_, _, _, _, b, rfl, .ty _, .base (.tup h), kit_ty k, q⟩
theorem isi_st {z : Str} (q : Q (.bl false) H) : rIsi K [.str z, .ty "tuple"] H Q := isi_s (by decide +kernel) q
theorem isi_ss {z : Str} (q : Q (.bl true) H) : rIsi K [.str z, .ty "str"] H Q := isi_s (by decide +kernel) q
theorem isi_it {z : Int} (q : Q (.bl false) H) : rIsi K [.int z, .ty "tuple"] H Q := isi_i (by decide +kernel) q
theorem isi_is {z : Int} (q : Q (.bl false) H) : rIsi K [.int z, .ty "str"] H Q := isi_i (by decide +kernel) q
theorem isi_ib {z : Int} (q : Q (.bl false) H) : rIsi K [.int z, .ty "bool"] H Q := isi_i (by decide +kernel) q
theorem isi_ii {z : Int} (q : Q (.bl true) H) : rIsi K [.int z, .ty "int"] H Q := isi_i (by decide +kernel) q
theorem isi_tt {a : Addr} {vs : List V} (h : H a = some (.tup vs)) (q : Q (.bl true) H) : rIsi K [.ref a, .ty "tuple"] H Q := isi_t h (by decide +kernel) q
theorem w_isN {C : Prop} (q : C) : V.non = V.non ∧ C := ⟨rfl, q⟩
theorem w_isB {a b : Bool} (q : Q (.bl (decide (a = b))) H) : rIsB (.bl a) (.bl b) H Q := ⟨a, b, rfl, rfl, q⟩
theorem w_notB {a b : Bool} (q : Q (.bl (!decide (a = b))) H) : rNotB (.bl a) (.bl b) H Q := ⟨a, b, rfl, rfl, q⟩
theorem w_tys {z : Str} {C : Prop} (q : C) : tyV K "str" (.str z) H ∧ C := ⟨rfl, q⟩
theorem w_revT {te : TE} (q : te σ H fun x H1 => ∃ a xs, x = .ref a ∧ SqT K H1 a xs ∧ ∀ p, H1 p = none → Q (.ref p) (upd H1 p (.tup xs.reverse))) : tRevT K te σ H Q := q
theorem w_andV {ta tb : TE} (q : ta σ H fun x H1 => ∃ c, x = .bl c ∧ if c = true then tb σ H1 Q else Q (.bl false) H1) : tAndV ta tb σ H Q := q
theorem w_orV {ta tb : TE} (q : ta σ H fun x H1 => ∃ c, x = .bl c ∧ if c = true then Q (.bl true) H1 else tb σ H1 Q) : tOrV ta tb σ H Q := q
theorem w_dnew (q : ∀ p, H p = none → Q (.ref p) (upd H p (.dK []))) : tDNewK σ H Q := q
theorem w_neB {i j : Bool} (q : Q (.bl (!decide (i = j))) H) : rNe (.bl i) (.bl j) H Q := ⟨rfl, by
  rw [show decide (V.bl i = V.bl j) = decide (i = j) from decide_eq_decide.mpr ⟨fun e => V.bl.inj e, fun e => e ▸ rfl⟩]
  exact q⟩
theorem w_chain {r1 r2 : R2} {ta tb tc : TE} (q : ta σ H fun x H1 => tb σ H1 fun y H2 => r1 x y H2 fun z H3 => ∃ k, z = .bl k ∧ if k = true then tc σ H3 fun u H4 => r2 y u H4 Q else Q (.bl false) H3) : tChain r1 r2 ta tb tc σ H Q := q
theorem sm_new {p : Addr} {o : HO} (h : H p = none) : Same H (upd H p o) := fun b u e => by rw [upd_ne (ne_of_none e h)]; exact e
end
local macro_rules | `(tactic| walk_at "s0") => `(tactic| with_reducible first
  | apply w_ckw | apply w_chain | apply w_neB | apply w_andV | apply w_orV | apply w_dnew | apply w_ck0 | apply w_gcons | apply w_gnil | apply isi_st | apply isi_ss | apply isi_it | apply isi_is | apply isi_ib | apply isi_ii | (apply isi_tt; (case h => with_unfolding_all walk_at "hp"))
  | apply w_isN | apply w_isB | apply w_notB | apply w_tys | apply w_revT | (apply w_gtup; (case h => with_unfolding_all walk_at "st"); (case e => with_unfolding_all rfl)))
/-! ### the draws of this law -/
structure Flow (N : Nat) (H : Hp) (a c : Addr) : Prop where
  ca : c ≠ a
  hc : ∃ ns : List Int, H c = some (.lst (ns.map V.int))
  ha : ∃ (p v d t o s : Int), H a = some (.lst [.ref c, .int p, .int v, .int d, .int t, .int o, .int s]) ∧ 0 ≤ p ∧ (o = 0 ∨ o = 1) ∧ 0 ≤ t ∧ t ≤ N
theorem Flow.put {N : Nat} {H : Hp} {a c D : Addr} {o : HO} (h : Flow N H a c) (n1 : D ≠ a) (n2 : D ≠ c) : Flow N (L2.upd H D o) a c := by
  obtain ⟨ca, ⟨ns, hc⟩, ⟨p, v, d, t, o', s, ha, r⟩⟩ := h
  exact ⟨ca, ⟨ns, by rw [upd_ne n2.symm]; exact hc⟩, ⟨p, v, d, t, o', s, by rw [upd_ne n1.symm]; exact ha, r⟩⟩
theorem Flow.le {N M : Nat} {H : Hp} {a c : Addr} (h : Flow N H a c) (l : N ≤ M) : Flow M H a c := by
  obtain ⟨ca, hc, ⟨p, v, d, t, o', s, ha, r1, r2, r3, r4⟩⟩ := h
  exact ⟨ca, hc, ⟨p, v, d, t, o', s, ha, r1, r2, r3, by omega⟩⟩
theorem Flow.same {N : Nat} {H H' : Hp} {a c : Addr} (h : Flow N H a c) (f : Same H H') : Flow N H' a c := by
  obtain ⟨ca, ⟨ns, hc⟩, ⟨p, v, d, t, o', s, ha, r⟩⟩ := h
  exact ⟨ca, ⟨ns, f _ _ hc⟩, ⟨p, v, d, t, o', s, f _ _ ha, r⟩⟩
theorem Flow.isl2 {N : Nat} {H : Hp} {a c : Addr} (h : Flow N H a c) : ∃ xs, H a = some (.lst xs) := by
  obtain ⟨_, _, _, _, _, _, ha, _⟩ := h.ha
  exact ⟨_, ha⟩
theorem Flow.na {N : Nat} {H : Hp} {a c D : Addr} (h : Flow N H a c) (n : H D = none) : D ≠ a := by
  obtain ⟨xs, ha⟩ := h.isl2
  exact (ne_of_none ha n).symm
theorem Flow.nc {N : Nat} {H : Hp} {a c D : Addr} (h : Flow N H a c) (n : H D = none) : D ≠ c := by
  obtain ⟨ns, hc⟩ := h.hc
  exact (ne_of_none hc n).symm
theorem Flow.new {N : Nat} {H : Hp} {a c D : Addr} {o : HO} (h : Flow N H a c) (n : H D = none) : Flow N (L2.upd H D o) a c := h.put (h.na n) (h.nc n)
/-- what a stretch of draws leaves: all but the flow as it was, the flow good, at most N draws made -/
structure Go (N : Nat) (a c : Addr) (H H' : Hp) : Prop where
  fr : Fr a H H'
  fl : Flow N H' a c
section
variable {N M : Nat} {a c p : Addr} {H H1 H2 : Hp} {o : HO}
theorem Go.le (g : Go N a c H H1) (l : N ≤ M) : Go M a c H H1 := ⟨g.fr, g.fl.le l⟩
theorem Go.trans (p : Go N a c H H1) (q : Go M a c H1 H2) : Go M a c H H2 := ⟨p.fr.trans q.fr, q.fl⟩
theorem Go.refl (h : Flow N H a c) : Go N a c H H := ⟨Fr.refl _ _, h⟩
theorem Go.new (g : Go N a c H H1) (n : H1 p = none) : Go N a c H (L2.upd H1 p o) := ⟨g.fr.trans (Fr.new n), g.fl.new n⟩
theorem Go.same (g : Go N a c H H1) (s : Same H1 H2) : Go N a c H H2 := ⟨g.fr.trans (Fr.same s), g.fl.same s⟩
theorem Fr.un (f : Fr a H H1) (na : p ≠ a) (n : H1 p = none) : H p = none := by
  cases e : H p with
  | none => rfl
  | some o => rw [f p o e na] at n; cases n
theorem Go.un (g : Go N a c H H1) (n : H1 p = none) : H p = none := g.fr.un (g.fl.na n) n
/-- an object that H does not know changes -/
theorem Go.mut (g : Go N a c H H1) (n : H p = none) (na : p ≠ a) (nc : p ≠ c) : Go N a c H (L2.upd H1 p o) := ⟨fun x u e h => by
  rw [upd_ne (ne_of_none e n)]
  exact g.fr x u e h, g.fl.put na nc⟩
theorem Go.at (g : Go N a c H H1) (h : H p = some o) (na : p ≠ a) : H1 p = some o := g.fr p o h na
theorem Go.tk (g : Go N a c H H1) (F : Flow M H a c) : Tk H H1 := fun b vs h => g.fr b _ h (by
  obtain ⟨xs, ha⟩ := F.isl2
  exact ne_of h ha (by intro z; cases z))
end
/-- what stands behind a test, as a word of its own: the walk stops there -/
theorem j_ifN {c : TT} {t u : TS} {D : Ends} {σ : L2.St} {H : Hp} (J : L2.St → Hp → Prop) (k : ∀ σ' H', J σ' H' → D.nx σ' H') (h : ∀ nx : L2.St → Hp → Prop, (∀ σ' H', J σ' H' → nx σ' H') → c σ H fun b H1 => if b = true then t { D with nx := nx } σ H1 else u { D with nx := nx } σ H1) : tIfS c t u D σ H := h D.nx k
theorem upd_self {H : Hp} {a : Addr} (_ : H a = none) (o : HO) : upd H a o a = some o := upd_same
theorem sqL_same {K : PySem.W.Frag} {H H' : Hp} {a : Addr} {xs : List V} (h : SqL K H a xs) (s : Same H H') : SqL K H' a xs :=
  h.elim (fun h => .inl (h.elim (fun h => .inl (s _ _ h)) fun ⟨o, h⟩ => .inr ⟨o, s _ _ h⟩)) fun h => .inr h
def sp_reader (K : PySem.W.Frag) : Sp := fun vs H Q _ => ∃ (a : Addr) (ns : List Int), vs = [.ref a] ∧ SqL K H a (ns.map V.int) ∧ ∀ (f c : Addr) (H' : Hp), Same H H' → Flow 0 H' f c → Q (.ref f) H'
def sp_mixed : Sp := fun vs H Q _ => ∃ n t m : Int, vs = [.int n, .int t, .int m] ∧ 1 ≤ m ∧ 0 ≤ t ∧ t < 1000000000 ∧ ∀ d : Int, 0 ≤ d → d < m → Q (.int d) H
def sp_draw : Sp := fun vs H Q _ => ∃ (a c : Addr) (n : Int) (N : Nat), vs = [.ref a, .int n] ∧ Flow N H a c ∧ 1 ≤ n ∧ n < 1073741824 ∧ N < 1000000 ∧ ∀ (d : Int) (H' : Hp), 0 ≤ d → d < n → Go (N + 1) a c H H' → Q (.int d) H'
section
variable {P : Program} {w : World} {K : PySem.W.Frag} {mg : Str → Option Value} {base : Heap}
theorem ok_law_reader (T : Top K mg) : FnOk P w K mg base CX0 1 T.f_law_reader T.d_law_reader ["script"] (sp_reader K) := by
  refine T.F_law_reader.ok sc_law_reader (fun vs H Q E h => ?_) (fun cdv A outer s H vs Q E hr h => ?_)
  · obtain ⟨a, n, rfl, _⟩ := h
    rfl
  · obtain ⟨a, ns, rfl, hS, q⟩ := h
    refine ⟨_, (pss_one (ps_ret (pe_lst (pa_cons (pe_callTy call_list_of (by rfl) T.z_list (by decide +kernel) (pa_cons (pv 0) pa_nil)) (pa_cons pe_int (pa_cons pe_int (pa_cons pe_int (pa_cons pe_int (pa_cons pe_int (pa_cons (pe_op op_mod (pe_callTy call_int1 (by rfl) T.z_int (by decide +kernel) (pa_cons (pe_callB (cr_sum rfl) (by rfl) T.z_sum (by decide +kernel) (pa_cons (pv 0) pa_nil)) pa_nil)) pe_int) pa_nil)))))))))), ?_⟩
    repeat walk_at "s"
    intro c hc
    repeat walk_at "s"
    refine ⟨a, ns, rfl, sqL_same hS (sm_new hc), ?_⟩
    repeat walk_at "s"
    refine ⟨by walk_at "len", fun p hp => ?_⟩
    have s1 := (sm_new (o := .lst (ns.map V.int)) hc)
    have hcp : c ≠ p := ne_of_none upd_same hp
    exact q p c _ (s1.trans (sm_new hp)) ⟨hcp, ⟨ns, by rw [upd_ne hcp]; exact upd_same⟩, ⟨0, 0, 0, 0, 0, _, upd_same, by omega, .inl rfl, by omega, by omega⟩⟩
theorem ok_law_mixed (T : Top K mg) : FnOk P w K mg base CX0 1 T.f_law_mixed T.d_law_mixed ["number", "turn", "many"] sp_mixed := by
  refine T.F_law_mixed.ok sc_law_mixed (fun vs H Q E h => ?_) (fun cdv A outer s H vs Q E hr h => ?_)
  · obtain ⟨a, b, c, rfl, _⟩ := h
    rfl
  · obtain ⟨n, t, m, rfl, hm, t0, t1, q⟩ := h
    refine ⟨_, (pss_cons (ps_set (i := 3) sc_law_mixed.nd rfl (Or.inl rfl) (pe_op op_mod (pe_callTy call_int1 (by rfl) T.z_int (by decide +kernel) (pa_cons (pe_op op_mul (pe_op op_add (pe_op op_mod (pe_callTy call_int1 (by rfl) T.z_int (by decide +kernel) (pa_cons (pv 0) pa_nil)) pe_int) (pe_op op_mul (pv 1) pe_int)) pe_int) pa_nil)) pe_int))
    (pss_cons (ps_set (i := 4) sc_law_mixed.nd rfl (Or.inl rfl) (pe_op op_mod (pe_callTy call_int1 (by rfl) T.z_int (by decide +kernel) (pa_cons (pe_op op_add (pe_op op_add (pe_op op_mul (pv 3) pe_int) (pe_op op_mul (pe_op op_mul (pv 1) (pv 1)) pe_int)) pe_int) pa_nil)) pe_int))
     (pss_one (ps_ret (pe_op op_mod (pe_callTy call_int1 (by rfl) T.z_int (by decide +kernel) (pa_cons (pe_op op_fdiv (pv 4) pe_int) pa_nil)) (pv 2)))))), ?_⟩
    repeat walk_at "s"
    exact q _ (Int.emod_nonneg _ (by omega)) (Int.emod_lt_of_pos _ (by omega))
theorem ok_law_draw (T : Top K mg) : FnOk P w K mg base CX0 2 T.f_law_draw T.d_law_draw ["reader", "many"] sp_draw := by
  refine T.F_law_draw.ok sc_law_draw (fun vs H Q E h => ?_) (fun cdv A outer s H vs Q E hr h => ?_)
  · obtain ⟨a, c, n, _, rfl, _⟩ := h
    rfl
  · obtain ⟨a, c, n, N, rfl, F, hn1, hn2, hN, q⟩ := h
    refine ⟨_, (pss_cons (ps_asg (pe_op op_add (pe_ix ix_list (pv 0) pe_int (fun _ _ => rfl)) pe_int) (pg_sub (pv 0) pe_int set_list))
    (pss_cons (ps_if (PW.pt (pw_and (pt_cmpR op_eq (pe_ix ix_list (pv 0) pe_int (fun _ _ => rfl)) pe_int (nomark _)) (pw_and1 (pt_cmpR op_lt (pe_ix ix_list (pv 0) pe_int (fun _ _ => rfl)) (pe_callB call_len_seq (by rfl) T.z_len (by decide +kernel) (pa_cons (pe_ix ix_list (pv 0) pe_int (fun _ _ => rfl)) pa_nil)) (nomark _)))))
     (pss_cons (ps_set (i := 2) sc_law_draw.nd rfl (Or.inl rfl) (pe_callB call_abs (by rfl) T.z_abs (by decide +kernel) (pa_cons (pe_ix ix_list (pe_ix ix_list (pv 0) pe_int (fun _ _ => rfl)) (pe_ix ix_list (pv 0) pe_int (fun _ _ => rfl)) (fun _ _ => rfl)) pa_nil)))
      (pss_cons (ps_asg (pe_op op_add (pe_ix ix_list (pv 0) pe_int (fun _ _ => rfl)) pe_int) (pg_sub (pv 0) pe_int set_list))
       (pss_cons (ps_asg (pe_op op_mod (pe_callTy call_int1 (by rfl) T.z_int (by decide +kernel) (pa_cons (pv 2) pa_nil)) pe_int) (pg_sub (pv 0) pe_int set_list))
        (pss_cons (ps_asg (pe_op op_fdiv (pv 2) (pe_op op_sub pe_int (pe_ix ix_list (pv 0) pe_int (fun _ _ => rfl)))) (pg_sub (pv 0) pe_int set_list))
         (pss_one (ps_asg (pe_op op_sub pe_int (pe_op op_mul pe_int (pe_ix ix_list (pv 0) pe_int (fun _ _ => rfl)))) (pg_sub (pv 0) pe_int set_list)))))))
     pss_nil)
     (pss_cons (ps_if (pt_cmpR op_eq (pe_ix ix_list (pv 0) pe_int (fun _ _ => rfl)) pe_int (nomark _))
      (pss_one (ps_ret (pe_call (ok_law_mixed T) hr (by rfl) T.g_law_mixed T.F_law_mixed.kp T.b_law_mixed .nil pass0 (pa_cons (pe_ix ix_list (pv 0) pe_int (fun _ _ => rfl)) (pa_cons (pe_ix ix_list (pv 0) pe_int (fun _ _ => rfl)) (pa_cons (pv 1) pa_nil))))))
      pss_nil)
      (pss_cons (ps_asg (pe_op op_sub (pe_ix ix_list (pv 0) pe_int (fun _ _ => rfl)) pe_int) (pg_sub (pv 0) pe_int set_list))
       (pss_cons (ps_if (pt_cmpR op_eq (pe_ix ix_list (pv 0) pe_int (fun _ _ => rfl)) pe_int (nomark _))
        (pss_one (ps_ret (pe_call (ok_law_mixed T) hr (by rfl) T.g_law_mixed T.F_law_mixed.kp T.b_law_mixed .nil pass0 (pa_cons (pe_ix ix_list (pv 0) pe_int (fun _ _ => rfl)) (pa_cons (pe_ix ix_list (pv 0) pe_int (fun _ _ => rfl)) (pa_cons (pv 1) pa_nil))))))
        pss_nil)
        (pss_cons (ps_set (i := 3) sc_law_draw.nd rfl (Or.inl rfl) (pe_op op_mod (pe_callTy call_int1 (by rfl) T.z_int (by decide +kernel) (pa_cons (pe_ix ix_list (pv 0) pe_int (fun _ _ => rfl)) pa_nil)) (pv 1)))
         (pss_cons (ps_asg (pe_op op_fdiv (pe_ix ix_list (pv 0) pe_int (fun _ _ => rfl)) (pv 1)) (pg_sub (pv 0) pe_int set_list))
          (pss_cons (ps_asg (pe_op op_mul (pe_ix ix_list (pv 0) pe_int (fun _ _ => rfl)) (pe_callTy call_int1 (by rfl) T.z_int (by decide +kernel) (pa_cons (pe_cmpR op_gt (pe_ix ix_list (pv 0) pe_int (fun _ _ => rfl)) pe_int (nomark _)) pa_nil))) (pg_sub (pv 0) pe_int set_list))
           (pss_one (ps_ret (pv 3))))))))))), ?_⟩
    obtain ⟨hca, ⟨ns, hc⟩, ⟨p, v, d, t, o, s', ha, hp, ho, t0, tN⟩⟩ := id F
    have hcS : ∀ o, upd H a o c = some (.lst (ns.map V.int)) := fun o => by rw [upd_ne hca]; exact hc
    have F1 : Go (N + 1) a c H (upd H a (HO.lst ([V.ref c, V.int p, V.int v, V.int d, V.int t, V.int o, V.int s'].set (Int.toNat 4) (V.int (t + 1))))) :=
      ⟨fun x u e n => by rw [upd_ne n]; exact e, hca, ⟨ns, hcS _⟩, ⟨p, v, d, t + 1, o, s', upd_same, hp, ho, by omega, by omega⟩⟩
    repeat walk_at "s0"
    refine j_ifN (fun σ' H1 => ∃ v2, σ' = [some (.ref a), some (.int n), v2, none] ∧ Go (N + 1) a c H H1) ?_ (fun nx k => ?_)
    · rintro σ' H1 ⟨v2, rfl, f1, ⟨-, ⟨ns1, hc1⟩, ⟨p1, v1, d1, t1, o1, s1, ha1, hp1, ho1, t01, tN1⟩⟩⟩
      repeat walk_at "s"
      refine ite2 (fun h => ?_) (fun h => ?_)
      · repeat walk_at "s"
        refine ⟨_, _, _, rfl, hn1, t01, by omega, fun d hd0 hd1 => ?_⟩
        exact q d _ hd0 hd1 ⟨f1, ⟨hca, ⟨ns1, hc1⟩, ⟨p1, v1, d1, t1, o1, s1, ha1, hp1, ho1, t01, tN1⟩⟩⟩
      · repeat walk_at "s"
        have F2 : ∀ v d, Go (N + 1) a c H (upd H1 a (HO.lst [V.ref c, V.int p1, V.int v, V.int d, V.int t1, V.int o1, V.int s1])) := fun v d =>
          ⟨fun x u e n => by rw [upd_ne n]; exact f1 x u e n, hca, ⟨ns1, by rw [upd_ne hca]; exact hc1⟩, ⟨p1, v, d, t1, o1, s1, upd_same, hp1, ho1, t01, tN1⟩⟩
        refine ite2 (fun h => ?_) (fun h => ?_)
        · repeat walk_at "s"
          refine ⟨_, _, _, rfl, hn1, t01, by omega, fun d hd0 hd1 => ?_⟩
          exact q d _ hd0 hd1 (F2 _ _)
        · repeat walk_at "s"
          refine .inr ⟨_, rfl, ?_⟩
          refine w_I (.inr ⟨by split <;> omega, by split <;> omega⟩) ?_
          repeat walk_at "s"
          exact q _ _ (Int.emod_nonneg _ (by omega)) (Int.emod_lt_of_pos _ (by omega)) ⟨fun x u e n => by simp only [upd_ne n]; exact f1 x u e n, hca, ⟨ns1, by simp only [upd_ne hca]; exact hc1⟩, ⟨p1, _, _, t1, o1, s1, upd_same, hp1, ho1, t01, tN1⟩⟩
    · repeat walk_at "s"
      refine ite2 (fun h => ?_) (fun h => ?_)
      · repeat walk_at "s"
        refine ite2 (fun h => ?_) (fun h => ?_)
        · have hz : p < (ns.length : Int) := by
            have h' := of_decide_eq_true h
            rw [List.length_map] at h'
            exact h'
          obtain ⟨z, -, hzz⟩ := at_map (f := V.int) hp hz
          repeat walk_at "s"
          refine w_ixL (SqL.of (hcS _)) hzz ?_
          repeat walk_at "s"
          refine k _ _ ⟨_, rfl, fun x u e n => by simp only [upd_ne n]; exact e, hca, ⟨ns, by simp only [upd_ne hca]; exact hc⟩, ⟨p + 1, _, _, t + 1, (if z < 0 then -z else z) % 2, s', upd_same, by omega, by omega, by omega, by omega⟩⟩
        · exact k _ _ ⟨none, rfl, F1⟩
      · exact k _ _ ⟨none, rfl, F1⟩
end
/-! ### names -/
def Az (z : Str) : Prop := ∀ c ∈ cd z, 97 ≤ c ∧ c ≤ 122
theorem az_ok {z : Str} (h : Az z) : PyData.strOk z = true := by
  unfold PyData.strOk
  rw [Array.all_eq_true']
  intro c hc
  exact decide_eq_true (by have := (h c (by simpa [cd] using hc)).2; omega)
def intIn (lo hi : Int) : V → Bool
  | .int i => decide (lo ≤ i) && decide (i ≤ hi)
  | _ => false
theorem pick_int {xs : List V} {d lo hi : Int} (h0 : 0 ≤ d) (h1 : d < (xs.length : Int)) (hx : xs.all (intIn lo hi) = true) : ∃ i, atI xs d = some (.int i) ∧ lo ≤ i ∧ i ≤ hi := by
  obtain ⟨z, hz, hm⟩ := at_ok h0 h1
  have := List.all_eq_true.mp hx z hm
  cases z with
  | int i =>
    have h := Bool.and_eq_true_iff.mp this
    exact ⟨i, hz, of_decide_eq_true h.1, of_decide_eq_true h.2⟩
  | _ => cases this
theorem abc_ok : ∀ c ∈ (Str.ofString "abcdefghijklmnopqrstuvwxyz").cps.toList, 97 ≤ c ∧ c ≤ 122 := by decide +kernel
theorem abc_at {d : Int} (h0 : 0 ≤ d) (h1 : d < 26) : ∃ x : Nat, atI (Str.ofString "abcdefghijklmnopqrstuvwxyz").cps.toList d = some x ∧ 97 ≤ x ∧ x ≤ 122 := by
  obtain ⟨z, hz, hm⟩ := at_ok (xs := (Str.ofString "abcdefghijklmnopqrstuvwxyz").cps.toList) h0 (by rw [show (Str.ofString "abcdefghijklmnopqrstuvwxyz").cps.toList.length = 26 by decide +kernel]; exact h1)
  exact ⟨z, hz, abc_ok z hm⟩
theorem cd_one (x : Nat) : cd ⟨#[x]⟩ = [x] := rfl
def sp_names : Sp := fun vs H Q _ => ∃ (a c : Addr) (N : Nat), vs = [.ref a, .str (Str.ofString "abcdefghijklmnopqrstuvwxyz"), .int 5] ∧ Flow N H a c ∧ N < 900000 ∧
  ∀ (l : Addr) (zs : List Str) (H' : Hp), H l = none → H' l = some (.lst (zs.map V.str)) → zs.length = 5 → (∀ z ∈ zs, Az z) → Go (N + 11) a c H H' → Q (.ref l) H'
section
variable {P : Program} {w : World} {K : PySem.W.Frag} {mg : Str → Option Value} {base : Heap}
theorem ok_law_names (T : Top K mg) : FnOk P w K mg base CX0 3 T.f_law_names T.d_law_names ["reader", "letters", "many"] sp_names := by
  refine T.F_law_names.ok sc_law_names (fun vs H Q E h => ?_) (fun cdv A outer s H vs Q E hr h => ?_)
  · obtain ⟨a, c, _, rfl, _⟩ := h
    rfl
  · obtain ⟨a, c, N, rfl, F, hN, q⟩ := h
    refine ⟨_, (pss_cons (ps_set (i := 3) sc_law_names.nd rfl (Or.inl rfl) (pe_ix ix_tup (pe_tup (pa_cons pe_int (pa_cons pe_int (pa_cons pe_int (pa_cons pe_int (pa_cons pe_int pa_nil)))))) (pe_call (ok_law_draw T) hr (by rfl) T.g_law_draw T.F_law_draw.kp T.b_law_draw .nil pass0 (pa_cons (pv 0) (pa_cons pe_int pa_nil))) (fun _ _ => rfl)))
    (pss_cons (ps_set (i := 4) sc_law_names.nd rfl (Or.inr rfl) (pe_join pe_str (pe_lc (own := [("k", 5)]) (g := gName 5) (by rfl) sc_law_names.nd (pi_range1 (by rfl) T.z_range (pa_cons (pv 3) pa_nil)) (blkOk_by (own := [("k", 5)]) (N := N_law_names) (sc := defScope s_law_names) (by decide +kernel)) (fun _ _ _ _ _ => (pg_name (i := 5) sc_law_names.nd rfl (Or.inl rfl))) (fun _ _ _ _ _ => pts_nil) (fun _ _ _ _ _ => (pe_ix ix_str (pv 1) (pe_call (ok_law_draw T) hr (by rfl) T.g_law_draw T.F_law_draw.kp T.b_law_draw .nil pass0 (pa_cons (pv 0) (pa_cons pe_int pa_nil))) (fun _ _ => rfl))))))
     (pss_cons (ps_set (i := 6) sc_law_names.nd rfl (Or.inr rfl) (pe_call (ok_law_draw T) hr (by rfl) T.g_law_draw T.F_law_draw.kp T.b_law_draw .nil pass0 (pa_cons (pv 0) (pa_cons (pe_op op_add (pv 3) pe_int) pa_nil))))
      (pss_cons (ps_set (i := 7) sc_law_names.nd rfl (Or.inr rfl) (pe_call (ok_law_draw T) hr (by rfl) T.g_law_draw T.F_law_draw.kp T.b_law_draw .nil pass0 (pa_cons (pv 0) (pa_cons pe_int pa_nil))))
       (pss_cons (ps_set (i := 8) sc_law_names.nd rfl (Or.inr rfl) (pe_ix ix_tup (pe_tup (pa_cons pe_int (pa_cons pe_int (pa_cons pe_int (pa_cons pe_int pa_nil))))) (pe_call (ok_law_draw T) hr (by rfl) T.g_law_draw T.F_law_draw.kp T.b_law_draw .nil pass0 (pa_cons (pv 0) (pa_cons pe_int pa_nil))) (fun _ _ => rfl)))
        (pss_one (ps_ret (pe_lc (own := [("k", 5)]) (g := gName 5) (by rfl) sc_law_names.nd (pi_range1 (by rfl) T.z_range (pa_cons (pv 2) pa_nil)) (blkOk_by (own := [("k", 5)]) (N := N_law_names) (sc := defScope s_law_names) (by decide +kernel)) (fun _ _ _ _ _ => (pg_name (i := 5) sc_law_names.nd rfl (Or.inl rfl))) (fun _ _ _ _ _ => pts_nil) (fun _ _ _ _ _ => (pe_op op_add_str (pe_op op_add_str (pe_slice sl_str (pv 4) po_none (po_some (pv 6))) (pe_ix ix_str (pv 1) (pe_op op_mod (pe_callTy call_int1 (by rfl) T.z_int (by decide +kernel) (pa_cons (pe_op op_add (pv 7) (pe_op op_mul (pv 5) (pv 8))) pa_nil)) pe_int) (fun _ _ => rfl))) (pe_slice sl_str (pv 4) (po_some (pv 6)) po_none))))))))))), ?_⟩
    repeat walk_at "s"
    refine ⟨by walk_at "len", fun p1 h1 => ?_⟩
    have G1 : Go N a c H (upd H p1 (.tup [.int 0, .int 0, .int 1, .int 2, .int 7])) := (Go.refl F).new h1
    repeat walk_at "s"
    refine ⟨a, c, 5, N, rfl, G1.fl, by omega, by omega, by omega, fun d1 H1 d10 d11 g1 => ?_⟩
    obtain ⟨sz, hsz, sz0, sz1⟩ := pick_int (lo := 0) (hi := 7) d10 d11 (xs := [.int 0, .int 0, .int 1, .int 2, .int 7]) (by decide +kernel)
    refine w_ixT (SqT.of (g1.at upd_same (F.na h1))) hsz ?_
    have g1' := G1.trans g1
    repeat walk_at "s"
    intro D hD
    have hD0 := g1'.un hD
    have na := g1'.fl.na hD
    have nc := g1'.fl.nc hD
    refine lc_range (lo := 0) (n := sz.toNat) (fun i H2 => ∃ zs : List Nat, H2 D = some (.lst (zs.map fun x => V.str ⟨#[x]⟩)) ∧ zs.length = i ∧ (∀ x ∈ zs, 97 ≤ x ∧ x ≤ 122) ∧ Go (N + 1 + i) a c H H2) ⟨[], upd_same, rfl, by simp, g1'.new hD⟩ ?_ ?_
    · rintro i H2 hi ⟨zs, e, hl, hz, g2⟩
      repeat walk_at "s"
      refine ⟨a, c, 26, _, rfl, g2.fl, by omega, by omega, by omega, fun d H3 d0 d1 g3 => ?_⟩
      obtain ⟨x, hx, hx1, hx2⟩ := abc_at d0 d1
      refine ⟨_, d, x, rfl, rfl, by decide +kernel, hx, ?_⟩
      refine ⟨_, g3.at e na, ?_, zs ++ [x], ?_, ?_, ?_, ((g2.trans g3).mut hD0 na nc)⟩
      · rw [List.length_map]
        exact small1000 (by omega)
      · rw [upd_same, List.map_append]
        rfl
      · rw [List.length_append, hl]
        rfl
      · intro y hy
        rcases List.mem_append.mp hy with h | h
        · exact hz y h
        · cases List.mem_singleton.mp h
          exact ⟨hx1, hx2⟩
    · rintro H2 ⟨zs, e, hl, hz, g2⟩
      have el : ∀ zs : List Nat, ((zs.map (fun x => (⟨#[x]⟩ : Str))).map (fun x => x.length)).sum = zs.length := fun zs => by
        induction zs with
        | nil => rfl
        | cons x r ih => rw [List.map_cons, List.map_cons, List.sum_cons, ih, List.length_cons, Nat.add_comm]; rfl
      have ec : ∀ zs : List Nat, (zs.map (fun x => (⟨#[x]⟩ : Str))).flatMap cd = zs := fun zs => by
        induction zs with
        | nil => rfl
        | cons x r ih => rw [List.map_cons, List.flatMap_cons, ih]; rfl
      repeat walk_at "s"
      refine ⟨_, D, zs.map (fun x => (⟨#[x]⟩ : Str)), rfl, rfl, .inl (SqL.of (by rw [e, List.map_map]; rfl)), ?_, ?_⟩
      · rw [el, show (Str.ofString "").length = 0 from rfl]
        omega
      have ecd : cd (Txt.join "" (zs.map (fun x => (⟨#[x]⟩ : Str)))) = zs := by rw [cd_join0, ec]
      have hstem : Az (Txt.join "" (zs.map (fun x => (⟨#[x]⟩ : Str)))) := by unfold Az; rw [ecd]; exact hz
      have lstem : (Txt.join "" (zs.map (fun x => (⟨#[x]⟩ : Str)))).length ≤ 7 := by rw [cd_len, ecd]; omega
      generalize Txt.join "" (zs.map (fun x => (⟨#[x]⟩ : Str))) = stem at hstem lstem ⊢
      repeat walk_at "s"
      refine ⟨a, c, _, _, rfl, g2.fl, by omega, by omega, by omega, fun at' H3 at0 at1 g3 => ?_⟩
      repeat walk_at "s"
      refine ⟨a, c, _, _, rfl, g3.fl, by omega, by omega, by omega, fun st H4 st0 st1 g4 => ?_⟩
      have g24 := (g2.trans g3).trans g4
      repeat walk_at "s"
      refine ⟨by walk_at "len", fun p2 h2 => ?_⟩
      have G5 : Go _ a c H (upd H4 p2 (.tup [.int 1, .int 3, .int 25, .int 9])) := g24.new h2
      repeat walk_at "s"
      refine ⟨a, c, _, _, rfl, G5.fl, by omega, by omega, by omega, fun d5 H5 d50 d51 g5 => ?_⟩
      obtain ⟨stp, hstp, stp0, stp1⟩ := pick_int (lo := 0) (hi := 25) d50 d51 (xs := [.int 1, .int 3, .int 25, .int 9]) (by decide +kernel)
      refine w_ixT (SqT.of (g5.at upd_same (g24.fl.na h2))) hstp ?_
      have g25 := G5.trans g5
      repeat walk_at "s"
      intro L hL
      have hL0 := g25.un hL
      have nLa := g25.fl.na hL
      have nLc := g25.fl.nc hL
      refine lc_range (lo := 0) (n := 5) (fun i H6 => ∃ zs : List Str, H6 L = some (.lst (zs.map V.str)) ∧ zs.length = i ∧ (∀ z ∈ zs, Az z) ∧ Go (N + 11) a c H H6) ⟨[], upd_same, rfl, by simp, (g25.new hL).le (by omega)⟩ ?_ ?_
      · rintro i H6 hi ⟨zs, e6, hl6, hz6, g6⟩
        repeat walk_at "s"
        refine w_slS (nm_len (by omega)) ?_
        repeat walk_at "s"
        obtain ⟨x, hx, hx1, hx2⟩ := abc_at (Int.emod_nonneg (st + (0 + (i : Int)) * stp) (show (26 : Int) ≠ 0 by omega)) (Int.emod_lt_of_pos (st + (0 + (i : Int)) * stp) (show (0 : Int) < 26 by omega))
        refine ⟨_, _, x, rfl, rfl, by decide +kernel, hx, ?_⟩
        have l1 : (cutS stem none (some at')).length ≤ stem.length := cutS_length _ _ _
        have l2 : (cutS stem (some at') none).length ≤ stem.length := cutS_length _ _ _
        refine ⟨_, _, rfl, rfl, add_ok (by have := len_one x; omega), ?_⟩
        repeat walk_at "s"
        refine w_slS (nm_len (by omega)) ?_
        refine ⟨_, _, rfl, rfl, add_ok (by rw [len_app]; have := len_one x; omega), ?_⟩
        obtain ⟨k, rfl⟩ : ∃ k : Nat, at' = (k : Int) := ⟨at'.toNat, by omega⟩
        refine ⟨_, e6, ?_, zs ++ [cutS stem none (some (k : Int)) ++ ⟨#[x]⟩ ++ cutS stem (some (k : Int)) none], ?_, ?_, ?_, g6.mut hL0 nLa nLc⟩
        · rw [List.length_map]; exact small1000 (by omega)
        · rw [upd_same, List.map_append]; rfl
        · rw [List.length_append, hl6]; rfl
        · intro y hy
          rcases List.mem_append.mp hy with h | h
          · exact hz6 y h
          · cases List.mem_singleton.mp h
            unfold Az
            simp only [cd_app, cd_pre, cd_suf, cd_one, List.mem_append, List.mem_singleton]
            rintro c ((h | rfl) | h)
            · exact hstem c (List.mem_of_mem_take h)
            · exact ⟨hx1, hx2⟩
            · exact hstem c (List.mem_of_mem_drop h)
      · rintro H6 ⟨zs, e6, hl6, hz6, g6⟩
        exact q L zs H6 hL0 e6 hl6 hz6 g6
end
/-! ### terms of a depth -/
def Fl (d : PyData) : Prop := (∃ z : Str, d = .str z ∧ PyData.strOk z = true) ∨ ∃ i : Int, d = .int i
def Tm : Nat → PyData → Prop
  | 0, _ => False
  | n + 1, d => ∃ (k : Str) (ds : List PyData), d = .tuple (.str k :: ds) ∧ PyData.strOk k = true ∧ ds.length ≤ 2 ∧ ∀ e ∈ ds, Fl e ∨ Tm n e
theorem Tm.up {n : Nat} : ∀ {d : PyData}, Tm n d → Tm (n + 1) d := by
  induction n with
  | zero => intro d h; cases h
  | succ n ih =>
    intro d h
    obtain ⟨k, ds, rfl, hk, hl, ha⟩ := h
    exact ⟨k, ds, rfl, hk, hl, fun e he => (ha e he).imp id ih⟩
theorem Tm.le {n m : Nat} {d : PyData} (h : Tm n d) (l : n ≤ m) : Tm m d := by
  induction l with
  | refl => exact h
  | step _ ih => exact ih.up
theorem Tm.mk1 {n : Nat} {k : Str} {e : PyData} (hk : PyData.strOk k = true) (he : Fl e ∨ Tm n e) : Tm (n + 1) (.tuple [.str k, e]) := ⟨k, [e], rfl, hk, by simp, fun x hx => by cases List.mem_singleton.mp hx; exact he⟩
theorem Tm.mk2 {n : Nat} {k : Str} {e f : PyData} (hk : PyData.strOk k = true) (he : Fl e ∨ Tm n e) (hf : Fl f ∨ Tm n f) : Tm (n + 1) (.tuple [.str k, e, f]) := ⟨k, [e, f], rfl, hk, by simp, fun x hx => by
  simp only [List.mem_cons, List.not_mem_nil, or_false] at hx
  rcases hx with rfl | rfl
  · exact he
  · exact hf⟩
theorem Fl.s {z : Str} (h : Az z) : Fl (.str z) := .inl ⟨z, rfl, az_ok h⟩
theorem Fl.i (i : Int) : Fl (.int i) := .inr ⟨i, rfl⟩
theorem depthAll_le {n : Nat} : ∀ {ds : List PyData}, (∀ d ∈ ds, d.depth ≤ n) → PyData.depthAll ds ≤ n
  | [], _ => by rw [PyData.depthAll]; exact Nat.zero_le _
  | d :: r, h => by
    rw [PyData.depthAll]
    exact Nat.max_le.mpr ⟨h d (List.mem_cons_self ..), depthAll_le fun e he => h e (List.mem_cons_of_mem _ he)⟩
theorem layAll {ds : List PyData} : (∀ d ∈ ds, d.canLay0 = true) → PyData.canLayAll0 ds = true := by
  induction ds with
  | nil => intro _; rw [PyData.canLayAll0]
  | cons d r ih =>
    intro h
    rw [PyData.canLayAll0, h d (List.mem_cons_self ..), ih fun e he => h e (List.mem_cons_of_mem _ he)]
    rfl
theorem fl_lay {d : PyData} (h : Fl d) : d.canLay0 = true ∧ d.depth = 0 := by
  rcases h with ⟨z, rfl, hz⟩ | ⟨i, rfl⟩
  · exact ⟨by rw [PyData.canLay0]; exact hz, by rw [PyData.depth]⟩
  · exact ⟨by rw [PyData.canLay0], by rw [PyData.depth]⟩
theorem tm_lay {n : Nat} : ∀ {d : PyData}, Tm n d → d.canLay0 = true ∧ d.depth ≤ n := by
  induction n with
  | zero => intro d h; cases h
  | succ n ih =>
    intro d h
    obtain ⟨k, ds, rfl, hk, hl, ha⟩ := h
    have all : ∀ e ∈ (.str k :: ds : List PyData), e.canLay0 = true ∧ e.depth ≤ n := by
      intro e he
      rcases List.mem_cons.mp he with rfl | he
      · exact ⟨by rw [PyData.canLay0]; exact hk, by rw [PyData.depth]; exact Nat.zero_le _⟩
      · rcases ha e he with h | h
        · exact ⟨(fl_lay h).1, by rw [(fl_lay h).2]; exact Nat.zero_le _⟩
        · exact ih h
    refine ⟨?_, ?_⟩
    · rw [PyData.canLay0]; exact layAll fun e he => (all e he).1
    · rw [PyData.depth]; exact Nat.succ_le_succ (depthAll_le fun e he => (all e he).2)
theorem tm_shaped {n : Nat} {d : PyData} (h : Tm n d) (l : n ≤ 60) : SeqAt.shaped d = true := by
  unfold SeqAt.shaped
  rw [(tm_lay h).1, decide_eq_true (by have := (tm_lay h).2; omega)]
  rfl
theorem tms_shaped {n : Nat} {ds : List PyData} (h : ∀ d ∈ ds, Tm n d) (l : n ≤ 60) : SeqAt.shaped (.list ds) = true := by
  unfold SeqAt.shaped
  rw [show (PyData.list ds).canLay0 = true from by rw [PyData.canLay0]; exact layAll fun e he => (tm_lay (h e he)).1]
  rw [decide_eq_true (show (PyData.list ds).depth ≤ 64 from by
    rw [PyData.depth]
    have := depthAll_le (n := n) (ds := ds) fun e he => (tm_lay (h e he)).2
    omega)]
  rfl
mutual
theorem dat_dp {K : PySem.W.Frag} {H : Hp} : ∀ {v d}, DAt H v d → Dp K H v d
  | _, _, .str x => .str x
  | _, _, .int i => .int i
  | _, _, .non => .non
  | _, _, .tup h r => .tup (SqT.of h) (dats_dp r)
theorem dats_dp {K : PySem.W.Frag} {H : Hp} : ∀ {vs ds}, DsAt H vs ds → DpAll K H vs ds
  | _, _, .nil => .nil
  | _, _, .cons h r => .cons (dat_dp h) (dats_dp r)
end
/-- a value that stands for a term of this depth -/
def TAt (n : Nat) (H : Hp) (v : V) : Prop := ∃ d, DAt H v d ∧ Tm n d
theorem TAt.mono {n : Nat} {H H' : Hp} {v : V} (h : TAt n H v) (t : Tk H H') : TAt n H' v := by
  obtain ⟨d, h1, h2⟩ := h
  exact ⟨d, h1.mono t, h2⟩
theorem TAt.le {n m : Nat} {H : Hp} {v : V} (h : TAt n H v) (l : n ≤ m) : TAt m H v := by
  obtain ⟨d, h1, h2⟩ := h
  exact ⟨d, h1, h2.le l⟩
theorem tats {n : Nat} {H : Hp} : ∀ {xs : List V}, (∀ x ∈ xs, TAt n H x) → ∃ ds, DsAt H xs ds ∧ ∀ d ∈ ds, Tm n d
  | [], _ => ⟨[], .nil, fun _ h => by cases h⟩
  | x :: r, h => by
    obtain ⟨d, h1, h2⟩ := h x (List.mem_cons_self ..)
    obtain ⟨ds, h3, h4⟩ := tats (xs := r) fun y hy => h y (List.mem_cons_of_mem _ hy)
    exact ⟨d :: ds, .cons h1 h3, fun e he => by
      rcases List.mem_cons.mp he with rfl | he
      · exact h2
      · exact h4 e he⟩
/-- x in xs, x not in xs: terms -/
theorem w_inD {K : PySem.W.Frag} {H : Hp} {Q : VK} {n : Nat} {p : Addr} {x : V} {xs : List V} (hn : n ≤ 60) (hx : TAt n H x) (h : H p = some (.lst xs)) (hs : ∀ x ∈ xs, TAt n H x) (q : ∀ b : Bool, Q (.bl b) H) : rInD K x (.ref p) H Q := by
  obtain ⟨d, h1, h2⟩ := hx
  obtain ⟨ds, h3, h4⟩ := tats hs
  exact ⟨d, ds, dat_dp h1, .lst (SqL.of h) (dats_dp h3), tm_shaped h2 hn, tms_shaped h4 hn, q _⟩
theorem w_ninD {K : PySem.W.Frag} {H : Hp} {Q : VK} {n : Nat} {p : Addr} {x : V} {xs : List V} (hn : n ≤ 60) (hx : TAt n H x) (h : H p = some (.lst xs)) (hs : ∀ x ∈ xs, TAt n H x) (q : ∀ b : Bool, Q (.bl b) H) : rNotInD K x (.ref p) H Q := by
  obtain ⟨d, h1, h2⟩ := hx
  obtain ⟨ds, h3, h4⟩ := tats hs
  exact ⟨d, ds, dat_dp h1, .lst (SqL.of h) (dats_dp h3), tm_shaped h2 hn, tms_shaped h4 hn, q _⟩
/-! ### building terms -/
def strV : V → Bool
  | .str z => PyData.strOk z
  | _ => false
theorem pick_str {xs : List V} {d : Int} (h0 : 0 ≤ d) (h1 : d < (xs.length : Int)) (hx : xs.all strV = true) : ∃ z, atI xs d = some (.str z) ∧ PyData.strOk z = true := by
  obtain ⟨z, hz, hm⟩ := at_ok h0 h1
  have := List.all_eq_true.mp hx z hm
  cases z with
  | str i => exact ⟨i, hz, this⟩
  | _ => cases this
theorem TAt.t2 {n : Nat} {H : Hp} {p : Addr} {k : Str} {v : V} {e : PyData} (hp : H p = none) (hk : PyData.strOk k = true) (hv : DAt H v e) (he : Fl e ∨ Tm n e) : TAt (n + 1) (upd H p (.tup [.str k, v])) (.ref p) :=
  ⟨_, .tup upd_same (.cons (.str k) (.cons (hv.mono (Tk.new hp)) .nil)), Tm.mk1 hk he⟩
theorem TAt.t3 {n : Nat} {H : Hp} {p : Addr} {k : Str} {v u : V} {e f : PyData} (hp : H p = none) (hk : PyData.strOk k = true) (hv : DAt H v e) (he : Fl e ∨ Tm n e) (hu : DAt H u f) (hf : Fl f ∨ Tm n f) : TAt (n + 1) (upd H p (.tup [.str k, v, u])) (.ref p) :=
  ⟨_, .tup upd_same (.cons (.str k) (.cons (hv.mono (Tk.new hp)) (.cons (hu.mono (Tk.new hp)) .nil))), Tm.mk2 hk he hf⟩
/-- the five names -/
structure Nms (H : Hp) (a nl : Addr) (zs : List Str) : Prop where
  at' : H nl = some (.lst (zs.map V.str))
  len : zs.length = 5
  az : ∀ z ∈ zs, Az z
  na : nl ≠ a
theorem Nms.go {H H' : Hp} {a c nl : Addr} {zs : List Str} {N : Nat} (h : Nms H a nl zs) (g : Go N a c H H') : Nms H' a nl zs := ⟨g.at h.at' h.na, h.len, h.az, h.na⟩
theorem Nms.same {H H' : Hp} {a nl : Addr} {zs : List Str} (h : Nms H a nl zs) (s : Same H H') : Nms H' a nl zs := ⟨s _ _ h.at', h.len, h.az, h.na⟩
theorem Nms.get {H : Hp} {a nl : Addr} {zs : List Str} (h : Nms H a nl zs) {d : Int} (h0 : 0 ≤ d) (h1 : d < 5) : ∃ z, atI (zs.map V.str) d = some (.str z) ∧ Az z := by
  obtain ⟨z, hm, hz⟩ := at_map (f := V.str) (xs := zs) h0 (by rw [h.len]; exact h1)
  exact ⟨z, hz, h.az z hm⟩
def sp_inside : Sp := fun vs H Q _ => ∃ (t : Addr) (n : Nat), vs = [.ref t] ∧ TAt (n + 1) H (.ref t) ∧ ∀ (l : Addr) (xs : List V) (H' : Hp), Same H H' → H l = none → H' l = some (.lst xs) → xs.length ≤ 2 → (∀ x ∈ xs, TAt n H' x) → Q (.ref l) H'
def sp_atom : Sp := fun vs H Q _ => ∃ (a c nl : Addr) (zs : List Str) (N : Nat), vs = [.ref a, .ref nl] ∧ Flow N H a c ∧ N < 900000 ∧ Nms H a nl zs ∧ ∀ (t : Addr) (H' : Hp), TAt 1 H' (.ref t) → Go (N + 4) a c H H' → Q (.ref t) H'
section
variable {P : Program} {w : World} {K : PySem.W.Frag} {mg : Str → Option Value} {base : Heap}
theorem ok_law_inside (T : Top K mg) : FnOk P w K mg base CX0 1 T.f_law_inside T.d_law_inside ["term"] sp_inside := by
  refine T.F_law_inside.ok sc_law_inside (fun vs H Q E h => ?_) (fun cdv A outer s H vs Q E hr h => ?_)
  · obtain ⟨t, n, rfl, _⟩ := h
    rfl
  · obtain ⟨t, n, rfl, ⟨d, hd, k, ds, rfl, hk, hl, ha⟩, q⟩ := h
    cases hd with
    | @tup _ us _ hu hus =>
    have hlen := hus.length
    refine ⟨_, (pss_one (ps_ret (pe_lc (own := [("item", 1)]) (g := gName 1) (by rfl) sc_law_inside.nd (pi_tup (pv 0)) (blkOk_by (own := [("item", 1)]) (N := N_law_inside) (sc := defScope s_law_inside) (by decide +kernel)) (fun _ _ _ _ _ => (pg_name (i := 1) sc_law_inside.nd rfl (Or.inl rfl))) (fun _ _ _ _ _ => (pts_one (pt_val (pe_callB (id := "isinstance") (r := rIsi K) call_isi (by rfl) T.z_isinstance (by decide +kernel) (pa_cons (pv 1) (pa_cons (pe_bltn (v := .ty "tuple") (by rfl) T.z_tuple (by decide +kernel) rfl) pa_nil)))))) (fun _ _ _ _ _ => (pv 1))))), ?_⟩
    repeat walk_at "s"
    intro D hD
    have s0 : Same H (upd H D (.lst [])) := sm_new hD
    refine lc_tup (K := K) (a := t) (xs := us) (fun i H1 => ∃ ys, H1 D = some (.lst ys) ∧ ys.length ≤ i - 1 ∧ (∀ y ∈ ys, TAt n H1 y) ∧ Same H H1) ⟨[], upd_same, Nat.zero_le _, (fun _ h => by cases h), s0⟩ (fun i H1 _ ⟨_, _, _, _, s1⟩ => SqT.of (s1 _ _ hu)) ?_ ?_
    · rintro i x H1 hi ⟨ys, e1, l1, a1, s1⟩
      obtain ⟨e, he, hx⟩ := hus.get hi
      have hx1 := hx.mono (Tk.same s1)
      repeat walk_at "s"
      cases i with
      | zero =>
        cases he
        refine iteF ?_
        exact ⟨ys, e1, by omega, a1, s1⟩
      | succ i =>
        have hm : e ∈ ds := List.mem_of_getElem? (by simpa using he)
        have hi2 : i + 1 < us.length := (List.getElem?_eq_some_iff.mp hi).1
        rcases ha e hm with hf | ht
        · have : isTup e = false := by rcases hf with ⟨z, rfl, _⟩ | ⟨z, rfl⟩ <;> rfl
          rw [this]
          refine iteF ?_
          exact ⟨ys, e1, by omega, a1, s1⟩
        · have : isTup e = true := by
            cases n with
            | zero => cases ht
            | succ n => obtain ⟨_, _, rfl, _⟩ := ht; rfl
          rw [this]
          refine iteT ?_
          repeat walk_at "s"
          have tk : ∀ o, Tk H1 (upd H1 D o) := fun o => Tk.lst e1
          rw [List.length_cons] at hlen
          refine ⟨ys, e1, small1000 (by omega), ys ++ [x], upd_same, by rw [List.length_append, List.length_singleton]; omega, fun y hy => ?_, fun b o h => by rw [upd_ne (ne_of_none h hD)]; exact s1 b o h⟩
          rcases List.mem_append.mp hy with h | h
          · exact (a1 y h).mono (tk _)
          · cases List.mem_singleton.mp h
            exact ⟨e, hx1.mono (tk _), ht⟩
    · rintro H1 ⟨ys, e1, l1, a1, s1⟩
      rw [List.length_cons] at hlen
      exact q D ys H1 s1 hD e1 (by omega) a1
theorem ok_law_atom (T : Top K mg) : FnOk P w K mg base CX0 3 T.f_law_atom T.d_law_atom ["reader", "names"] sp_atom := by
  refine T.F_law_atom.ok sc_law_atom (fun vs H Q E h => ?_) (fun cdv A outer s H vs Q E hr h => ?_)
  · obtain ⟨a, c, nl, zs, N, rfl, _⟩ := h
    rfl
  · obtain ⟨a, c, nl, zs, N, rfl, F, hN, hn, q⟩ := h
    refine ⟨_, (pss_cons (ps_set (i := 2) sc_law_atom.nd rfl (Or.inl rfl) (pe_call (ok_law_draw T) hr (by rfl) T.g_law_draw T.F_law_draw.kp T.b_law_draw .nil pass0 (pa_cons (pv 0) (pa_cons pe_int pa_nil))))
    (pss_cons (ps_set (i := 3) sc_law_atom.nd rfl (Or.inl rfl) (pe_ix ix_list (pv 1) (pe_call (ok_law_draw T) hr (by rfl) T.g_law_draw T.F_law_draw.kp T.b_law_draw .nil pass0 (pa_cons (pv 0) (pa_cons pe_int pa_nil))) (fun _ _ => rfl)))
     (pss_cons (ps_set (i := 4) sc_law_atom.nd rfl (Or.inl rfl) (pe_ix ix_list (pv 1) (pe_call (ok_law_draw T) hr (by rfl) T.g_law_draw T.F_law_draw.kp T.b_law_draw .nil pass0 (pa_cons (pv 0) (pa_cons pe_int pa_nil))) (fun _ _ => rfl)))
      (pss_cons (ps_if (pt_cmpR op_eq (pv 2) pe_int (nomark _))
       (pss_one (ps_ret (pe_tup (pa_cons pe_str (pa_cons (pe_call (ok_law_draw T) hr (by rfl) T.g_law_draw T.F_law_draw.kp T.b_law_draw .nil pass0 (pa_cons (pv 0) (pa_cons pe_int pa_nil))) pa_nil)))))
       pss_nil)
       (pss_cons (ps_if (pt_cmpR op_eq (pv 2) pe_int (nomark _))
        (pss_one (ps_ret (pe_tup (pa_cons pe_str (pa_cons (pe_call (ok_law_draw T) hr (by rfl) T.g_law_draw T.F_law_draw.kp T.b_law_draw .nil pass0 (pa_cons (pv 0) (pa_cons pe_int pa_nil))) (pa_cons (pv 3) pa_nil))))))
        pss_nil)
        (pss_cons (ps_if (PW.pt (pw_and (pt_cmpR op_eq (pv 2) pe_int (nomark _)) (pw_and1 (pt_cmpR op_lt_str (pv 3) (pv 4) (nomark _)))))
         (pss_one (ps_ret (pe_tup (pa_cons pe_str (pa_cons (pv 3) (pa_cons (pv 4) pa_nil))))))
         pss_nil)
         (pss_cons (ps_if (pt_cmpR op_eq (pv 2) pe_int (nomark _))
          (pss_one (ps_ret (pe_tup (pa_cons pe_str (pa_cons (pv 4) (pa_cons (pv 3) pa_nil))))))
          pss_nil)
          (pss_cons (ps_if (pt_cmpR op_lt (pv 2) pe_int (nomark _))
           (pss_one (ps_ret (pe_tup (pa_cons pe_str (pa_cons (pe_call (ok_law_draw T) hr (by rfl) T.g_law_draw T.F_law_draw.kp T.b_law_draw .nil pass0 (pa_cons (pv 0) (pa_cons pe_int pa_nil))) (pa_cons (pv 3) pa_nil))))))
           pss_nil)
           (pss_one (ps_ret (pe_tup (pa_cons (pe_ix ix_tup (pe_tup (pa_cons pe_str (pa_cons pe_str (pa_cons pe_str pa_nil)))) (pe_op op_sub (pv 2) pe_int) (fun _ _ => rfl)) (pa_cons (pv 3) pa_nil))))))))))))), ?_⟩
    repeat walk_at "s"
    refine ⟨a, c, 8, N, rfl, F, by omega, by omega, by omega, fun kd H1 kd0 kd1 g1 => ?_⟩
    have n1 := hn.go g1
    repeat walk_at "s"
    refine ⟨a, c, 4, _, rfl, g1.fl, by omega, by omega, by omega, fun d2 H2 d20 d21 g2 => ?_⟩
    have n2 := n1.go g2
    obtain ⟨z, hz, az⟩ := n2.get d20 (by omega)
    refine w_ixL (SqL.of n2.at') hz ?_
    repeat walk_at "s"
    refine ⟨a, c, 4, _, rfl, g2.fl, by omega, by omega, by omega, fun d3 H3 d30 d31 g3 => ?_⟩
    have n3 := n2.go g3
    obtain ⟨y, hy, ay⟩ := n3.get d30 (by omega)
    refine w_ixL (SqL.of n3.at') hy ?_
    have g13 := (g1.trans g2).trans g3
    repeat walk_at "s"
    refine ite2 (fun h => ?_) (fun h => ?_)
    · repeat walk_at "s"
      refine ⟨a, c, 1000000, _, rfl, g3.fl, by omega, by omega, by omega, fun d4 H4 d40 d41 g4 => ?_⟩
      refine ⟨by walk_at "len", fun p hp => ?_⟩
      exact q p _ (TAt.t2 hp (by decide +kernel) (.int d4) (.inl (Fl.i _))) ((g13.trans g4).new hp)
    · have h0 : ¬ kd = 0 := fun e => h (decide_eq_true e)
      repeat walk_at "s"
      refine ite2 (fun h => ?_) (fun h => ?_)
      · repeat walk_at "s"
        refine ⟨a, c, 10, _, rfl, g3.fl, by omega, by omega, by omega, fun d4 H4 d40 d41 g4 => ?_⟩
        repeat walk_at "s"
        refine ⟨by walk_at "len", fun p hp => ?_⟩
        exact q p _ (TAt.t3 hp (by decide +kernel) (.int d4) (.inl (Fl.i _)) (.str z) (.inl (Fl.s az))) ((g13.trans g4).new hp)
      · have h1 : ¬ kd = 1 := fun e => h (decide_eq_true e)
        repeat walk_at "s0"
        refine j_ifs ?_ (fun k2 => ?_)
        · repeat walk_at "s"
          refine ite2 (fun h => ?_) (fun h => ?_)
          · repeat walk_at "s"
            refine ⟨by walk_at "len", fun p hp => ?_⟩
            exact q p _ (TAt.t3 hp (by decide +kernel) (.str y) (.inl (Fl.s ay)) (.str z) (.inl (Fl.s az))) ((g13.new hp).le (by omega))
          · have h2 : ¬ kd = 2 := fun e => h (decide_eq_true e)
            repeat walk_at "s"
            refine ite2 (fun h => ?_) (fun h => ?_)
            · repeat walk_at "s"
              refine ⟨a, c, 10, _, rfl, g3.fl, by omega, by omega, by omega, fun d4 H4 d40 d41 g4 => ?_⟩
              repeat walk_at "s"
              refine ⟨by walk_at "len", fun p hp => ?_⟩
              exact q p _ (TAt.t3 hp (by decide +kernel) (.int d4) (.inl (Fl.i _)) (.str z) (.inl (Fl.s az))) ((g13.trans g4).new hp)
            · have h5 : ¬ kd < 5 := fun e => h (decide_eq_true e)
              repeat walk_at "s"
              refine ⟨by walk_at "len", fun p hp => ?_⟩
              obtain ⟨kz, hkz, okz⟩ := pick_str (xs := [.str "host", .str "word", .str "own"]) (d := kd - 5) (by omega) (by show kd - 5 < 3; omega) (by decide +kernel)
              repeat walk_at "s"
              refine w_ixT (SqT.of upd_same) hkz ?_
              repeat walk_at "s"
              refine ⟨by walk_at "len", fun p2 hp2 => ?_⟩
              exact q p2 _ (TAt.t2 hp2 okz (.str z) (.inl (Fl.s az))) (((g13.new hp).new hp2).le (by omega))
        · repeat walk_at "s"
          refine ite2 (fun h => ?_) (fun h => iteF k2)
          repeat walk_at "s"
          refine ite2 (fun h' => ?_) (fun h' => k2)
          repeat walk_at "s"
          refine ⟨by walk_at "len", fun p hp => ?_⟩
          exact q p _ (TAt.t3 hp (by decide +kernel) (.str z) (.inl (Fl.s az)) (.str y) (.inl (Fl.s ay))) ((g13.new hp).le (by omega))
end
/-! ### the defs that call themselves -/
def tc : Nat → Nat
  | 0 => 5
  | n + 1 => 5 + 2 * tc n
def pb : Nat → Nat
  | 0 => 0
  | n + 1 => 1 + 2 * pb n
theorem hu65 {A : Around} {k : Nat} (hr : Room k A) : A.units + 65 < cLine := by have := hr.un; omega
theorem big_ok {n : Nat} (h : n ≤ 200000) : n < sizeLine := Nat.lt_of_le_of_lt h (by decide)
def spNo : Sp := fun _ _ _ _ => False
def sp_term (n : Nat) : Sp := fun vs H Q _ => ∃ (a c nl : Addr) (zs : List Str) (N : Nat), vs = [.ref a, .ref nl, .int n] ∧ Flow N H a c ∧ N + tc n < 900000 ∧ Nms H a nl zs ∧ ∀ (t : Addr) (H' : Hp), TAt (n + 1) H' (.ref t) → Go (N + tc n) a c H H' → Q (.ref t) H'
def sp_parts (n : Nat) : Sp := fun vs H Q _ => ∃ (tl : Addr) (xs : List V), vs = [.ref tl] ∧ n ≤ 60 ∧ H tl = some (.lst xs) ∧ (∀ x ∈ xs, TAt n H x) ∧ xs.length * pb n ≤ 100000 ∧
  ∀ (l : Addr) (ys : List V) (H' : Hp), Same H H' → H l = none → H' l = some (.lst ys) → (∀ y ∈ ys, TAt n H' y) → ys.length ≤ xs.length * pb n → Q (.ref l) H'
section
variable {P : Program} {w : World} {K : PySem.W.Frag} {mg : Str → Option Value} {base : Heap}
theorem term_step (T : Top K mg) (k n : Nat) (spr : Sp) (ih : FnOk P w K mg base CX0 (k + 3) T.f_law_term T.d_law_term ["reader", "names", "depth"] spr) (hn : ∀ m, n = m + 1 → spr = sp_term m) : FnOk P w K mg base CX0 (k + 4) T.f_law_term T.d_law_term ["reader", "names", "depth"] (sp_term n) := by
  refine T.F_law_term.ok sc_law_term (fun vs H Q E h => ?_) (fun cdv A outer s H vs Q E hr h => ?_)
  · obtain ⟨a, c, nl, zs, N, rfl, _⟩ := h
    rfl
  · obtain ⟨a, c, nl, zs, N, rfl, F, hN, hz, q⟩ := h
    refine ⟨_, (pss_cons (ps_set (i := 3) sc_law_term.nd rfl (Or.inl rfl) (pe_call (ok_law_draw T) (hr.mono (by omega)) (by rfl) T.g_law_draw T.F_law_draw.kp T.b_law_draw .nil pass0 (pa_cons (pv 0) (pa_cons pe_int pa_nil))))
    (pss_cons (ps_if (PW.pt (pw_or (pt_cmpR op_eq (pv 2) pe_int (nomark _)) (pw_or1 (pt_cmpR op_lt (pv 3) pe_int (nomark _)))))
     (pss_one (ps_ret (pe_call (ok_law_atom T) (hr.mono (by omega)) (by rfl) T.g_law_atom T.F_law_atom.kp T.b_law_atom .nil pass0 (pa_cons (pv 0) (pa_cons (pv 1) pa_nil)))))
     pss_nil)
     (pss_cons (ps_set (i := 4) sc_law_term.nd rfl (Or.inl rfl) (pe_call ih hr (by rfl) T.g_law_term T.F_law_term.kp T.b_law_term .nil pass0 (pa_cons (pv 0) (pa_cons (pv 1) (pa_cons (pe_op op_sub (pv 2) pe_int) pa_nil)))))
      (pss_cons (ps_if (pt_cmpR op_eq (pv 3) pe_int (nomark _))
       (pss_one (ps_ret (pe_tup (pa_cons pe_str (pa_cons (pv 4) pa_nil)))))
       pss_nil)
       (pss_cons (ps_if (pt_cmpR op_lt (pv 3) pe_int (nomark _))
        (pss_one (ps_ret (pe_tup (pa_cons (pe_ix ix_tup (pe_tup (pa_cons pe_str (pa_cons pe_str pa_nil))) (pe_op op_sub (pv 3) pe_int) (fun _ _ => rfl)) (pa_cons (pv 4) (pa_cons (pe_ix ix_list (pv 1) (pe_call (ok_law_draw T) (hr.mono (by omega)) (by rfl) T.g_law_draw T.F_law_draw.kp T.b_law_draw .nil pass0 (pa_cons (pv 0) (pa_cons pe_int pa_nil))) (fun _ _ => rfl)) pa_nil))))))
        pss_nil)
        (pss_one (ps_ret (pe_tup (pa_cons (pe_ix ix_tup (pe_tup (pa_cons pe_str (pa_cons pe_str pa_nil))) (pe_op op_sub (pv 3) pe_int) (fun _ _ => rfl)) (pa_cons (pv 4) (pa_cons (pe_call ih hr (by rfl) T.g_law_term T.F_law_term.kp T.b_law_term .nil pass0 (pa_cons (pv 0) (pa_cons (pv 1) (pa_cons (pe_op op_sub (pv 2) pe_int) pa_nil)))) pa_nil))))))))))), ?_⟩
    have t5 : 5 ≤ tc n := by cases n with
      | zero => exact Nat.le_refl _
      | succ n => show 5 ≤ 5 + 2 * tc n; omega
    repeat walk_at "s"
    refine ⟨a, c, 7, N, rfl, F, by omega, by omega, by omega, fun kd H1 kd0 kd1 g1 => ?_⟩
    have z1 := hz.go g1
    have at' : sp_atom [.ref a, .ref nl] H1 Q E0 := ⟨a, c, nl, zs, _, rfl, g1.fl, by omega, z1, fun t H2 ht g2 => q t H2 (ht.le (by omega)) ((g1.trans g2).le (by omega))⟩
    repeat walk_at "s"
    refine ite2 (fun h => ?_) (fun h => ?_)
    · repeat walk_at "s"
      exact at'
    · obtain ⟨m, rfl⟩ : ∃ m, n = m + 1 := by
        cases n with
        | zero => exact absurd (decide_eq_true rfl) h
        | succ m => exact ⟨m, rfl⟩
      have e := hn m rfl
      subst e
      have et : tc (m + 1) = 5 + 2 * tc m := rfl
      have em : (((m + 1 : Nat) : Int) - 1) = (m : Int) := by omega
      repeat walk_at "s"
      refine ite2 (fun h => ?_) (fun h => ?_)
      · repeat walk_at "s"
        exact at'
      · have h2 : ¬ kd < 2 := fun e => h (decide_eq_true e)
        clear at'
        repeat walk_at "s"
        rw [em]
        refine ⟨a, c, nl, zs, _, rfl, g1.fl, by omega, z1, fun t H2 ht g2 => ?_⟩
        have z2 := z1.go g2
        obtain ⟨d, hd, htm⟩ := id ht
        have g12 := g1.trans g2
        repeat walk_at "s"
        refine ite2 (fun h => ?_) (fun h => ?_)
        · repeat walk_at "s"
          refine ⟨by walk_at "len", fun p hp => ?_⟩
          exact q p _ (TAt.t2 hp (by decide +kernel) hd (.inr htm)) ((g12.new hp).le (by omega))
        · have h3 : ¬ kd = 2 := fun e => h (decide_eq_true e)
          repeat walk_at "s"
          refine ite2 (fun h => ?_) (fun h => ?_)
          · have h4 := of_decide_eq_true h
            repeat walk_at "s"
            refine ⟨by walk_at "len", fun p hp => ?_⟩
            obtain ⟨kz, hkz, okz⟩ := pick_str (xs := [.str "box", .str "stamp"]) (d := kd - 3) (by omega) (by show kd - 3 < 2; omega) (by decide +kernel)
            have g3 : Go _ a c H (upd H2 p (.tup [.str "box", .str "stamp"])) := g12.new hp
            have z3 := z2.same (sm_new hp (o := .tup [.str "box", .str "stamp"]))
            have hd3 := hd.mono (Tk.new hp (o := .tup [.str "box", .str "stamp"]))
            repeat walk_at "s"
            refine w_ixT (SqT.of upd_same) hkz ?_
            repeat walk_at "s"
            refine ⟨a, c, 4, _, rfl, g3.fl, by omega, by omega, by omega, fun d4 H4 d40 d41 g4 => ?_⟩
            have z4 := z3.go g4
            obtain ⟨z, hz, az⟩ := z4.get d40 (by omega)
            refine w_ixL (SqL.of z4.at') hz ?_
            repeat walk_at "s"
            refine ⟨by walk_at "len", fun p2 hp2 => ?_⟩
            exact q p2 _ (TAt.t3 hp2 okz (hd3.mono (g4.tk g3.fl)) (.inr htm) (.str z) (.inl (Fl.s az))) (((g3.trans g4).new hp2).le (by omega))
          · have h4 : ¬ kd < 5 := fun e => h (decide_eq_true e)
            repeat walk_at "s"
            refine ⟨by walk_at "len", fun p hp => ?_⟩
            obtain ⟨kz, hkz, okz⟩ := pick_str (xs := [.str "pair", .str "lock"]) (d := kd - 5) (by omega) (by show kd - 5 < 2; omega) (by decide +kernel)
            have g3 : Go _ a c H (upd H2 p (.tup [.str "pair", .str "lock"])) := g12.new hp
            have z3 := z2.same (sm_new hp (o := .tup [.str "pair", .str "lock"]))
            have hd3 := hd.mono (Tk.new hp (o := .tup [.str "pair", .str "lock"]))
            repeat walk_at "s"
            refine w_ixT (SqT.of upd_same) hkz ?_
            repeat walk_at "s"
            rw [em]
            refine ⟨a, c, nl, zs, _, rfl, g3.fl, by omega, z3, fun t4 H4 ht4 g4 => ?_⟩
            obtain ⟨d4, hd4, htm4⟩ := ht4
            repeat walk_at "s"
            refine ⟨by walk_at "len", fun p2 hp2 => ?_⟩
            exact q p2 _ (TAt.t3 hp2 okz (hd3.mono (g4.tk g3.fl)) (.inr htm) hd4 (.inr htm4)) (((g3.trans g4).new hp2).le (by omega))
theorem ok_law_term (T : Top K mg) : ∀ n : Nat, FnOk P w K mg base CX0 (n + 4) T.f_law_term T.d_law_term ["reader", "names", "depth"] (sp_term n)
  | 0 => term_step T 0 0 spNo (T.F_law_term.ok sc_law_term (fun _ _ _ _ h => h.elim) (fun _ _ _ _ _ _ _ _ _ h => h.elim)) (fun _ h => by cases h)
  | n + 1 => term_step T (n + 1) (n + 1) (sp_term n) (ok_law_term T n) (fun m h => by cases h; rfl)
theorem parts_step (T : Top K mg) (k n : Nat) (spr : Sp) (ih : FnOk P w K mg base CX0 (k + 1) T.f_law_parts T.d_law_parts ["terms"] spr) (hn : ∀ m, n = m + 1 → spr = sp_parts m) : FnOk P w K mg base CX0 (k + 2) T.f_law_parts T.d_law_parts ["terms"] (sp_parts n) := by
  refine T.F_law_parts.ok sc_law_parts (fun vs H Q E h => ?_) (fun cdv A outer s H vs Q E hr h => ?_)
  · obtain ⟨tl, xs, rfl, _⟩ := h
    rfl
  · obtain ⟨tl, xs, rfl, h60, htl, hxs, hb, q⟩ := h
    have hu := hu65 hr
    refine ⟨_, (pss_cons (ps_set (i := 1) sc_law_parts.nd rfl (Or.inl rfl) (pe_lst pa_nil))
    (pss_cons (ps_for PassesOwn.never rfl (pi_list (pv 0)) (pg_name (i := 2) sc_law_parts.nd rfl (Or.inl rfl))
     (pss_one (ps_for PassesOwn.never rfl (pi_list (pe_op op_cat (pe_lst (pa_cons (pv 2) pa_nil)) (pe_call ih hr (by rfl) T.g_law_parts T.F_law_parts.kp T.b_law_parts .nil pass0 (pa_cons (pe_call (ok_law_inside T) (hr.mono (by omega)) (by rfl) T.g_law_inside T.F_law_inside.kp T.b_law_inside .nil pass0 (pa_cons (pv 2) pa_nil)) pa_nil)))) (pg_name (i := 3) sc_law_parts.nd rfl (Or.inl rfl))
      (pss_one (ps_if (pt_cmpR (op_notInD hu) (pv 3) (pv 1) (by rfl))
       (pss_one (ps_expr (pe_bm PySem.F.plainAttrs_list PySem.F.slot_list_append PySem.F.type_list_append mt_append (pv 1) (pa_cons (pv 3) pa_nil))))
       pss_nil)))))
     (pss_one (ps_ret (pv 1))))), ?_⟩
    repeat walk_at "s"
    refine ⟨by walk_at "len", fun fo hfo => ?_⟩
    repeat walk_at "s"
    refine for_list (K := K) (a := tl) (xs := xs) (fun i σ H1 => ∃ (ys : List V) (v2 v3 : Option V), σ = [some (.ref tl), some (.ref fo), v2, v3] ∧ H1 fo = some (.lst ys) ∧ ys.length ≤ i * pb n ∧ (∀ y ∈ ys, TAt n H1 y) ∧ Same H H1) ⟨[], none, none, rfl, upd_same, Nat.zero_le _, (fun _ h => by cases h), sm_new hfo⟩ (fun i σ H1 _ ⟨_, _, _, _, _, _, _, s1⟩ => SqL.of (s1 _ _ htl)) ?_ ?_
    · rintro i x σ H1 hi ⟨ys, v2, v3, rfl, e1, l1, a1, s1⟩
      have hx := (hxs x (List.mem_of_getElem? hi)).mono (Tk.same s1)
      have hil : i < xs.length := (List.getElem?_eq_some_iff.mp hi).1
      obtain ⟨m, rfl⟩ : ∃ m, n = m + 1 := by
        cases n with
        | zero => obtain ⟨_, _, h⟩ := hx; cases h
        | succ m => exact ⟨m, rfl⟩
      have e := hn m rfl
      subst e
      have et : pb (m + 1) = 1 + 2 * pb m := rfl
      have hb1 : (i + 1) * pb (m + 1) ≤ 100000 := Nat.le_trans (Nat.mul_le_mul_right _ (show i + 1 ≤ xs.length by omega)) hb
      have hb2 : (i + 1) * pb (m + 1) = i * pb (m + 1) + pb (m + 1) := Nat.succ_mul _ _
      obtain ⟨t, rfl⟩ : ∃ t, x = .ref t := by
        obtain ⟨_, h, _, _, rfl, _⟩ := hx
        cases h
        exact ⟨_, rfl⟩
      repeat walk_at "s"
      refine ⟨by walk_at "len", fun p1 h1 => ?_⟩
      have s2 := sm_new (o := .lst [.ref t]) h1
      have hp1 := upd_self h1 (.lst [.ref t])
      generalize upd H1 p1 (.lst [.ref t]) = H2 at s2 hp1 ⊢
      repeat walk_at "s"
      refine ⟨t, m, rfl, hx.mono (Tk.same s2), fun l xs1 H3 s3 hl3 e3 l3 a3 => ?_⟩
      refine ⟨l, xs1, rfl, by omega, e3, a3, ?_, fun l4 ys4 H4 s4 hl4 e4 a4 b4 => ?_⟩
      · exact Nat.le_trans (Nat.mul_le_mul_right _ l3) (by omega)
      have b4' : ys4.length ≤ 2 * pb m := Nat.le_trans b4 (Nat.mul_le_mul_right _ l3)
      have s14 := (s2.trans s3).trans s4
      have hp4 := s4 _ _ (s3 _ _ hp1)
      repeat walk_at "s"
      refine ⟨p1, l4, _, _, rfl, rfl, hp4, e4, Nat.le_of_lt (big_ok (by rw [List.length_singleton]; omega)), fun p5 h5 => ?_⟩
      have s5 := sm_new (o := .lst ([.ref t] ++ ys4)) h5
      have e5 := upd_self h5 (.lst ([.ref t] ++ ys4))
      generalize upd H4 p5 (.lst ([.ref t] ++ ys4)) = H5 at s5 e5 ⊢
      have s15 := s14.trans s5
      have hall : ∀ y ∈ ([.ref t] ++ ys4), TAt (m + 1) H5 y := by
        intro y hy
        rcases List.mem_append.mp hy with h | h
        · cases List.mem_singleton.mp h; exact hx.mono (Tk.same s15)
        · exact ((a4 y h).mono (Tk.same s5)).le (by omega)
      have ell : ([V.ref t] ++ ys4).length = 1 + ys4.length := by rw [List.length_append]; rfl
      have e15 := s15 _ _ e1
      have nfo : p5 ≠ fo := by intro z; subst z; rw [s14 _ _ e1] at h5; cases h5
      generalize [V.ref t] ++ ys4 = zs at e5 hall ell
      repeat walk_at "s"
      refine for_list (K := K) (a := p5) (xs := zs) (fun j σ H6 => ∃ (ys' : List V) (v3 : Option V), σ = [some (.ref tl), some (.ref fo), some (.ref t), v3] ∧ H6 fo = some (.lst ys') ∧ H6 p5 = some (.lst zs) ∧ ys'.length ≤ i * pb (m + 1) + j ∧ (∀ y ∈ ys', TAt (m + 1) H6 y) ∧ (∀ y ∈ zs, TAt (m + 1) H6 y) ∧ Same H H6) ⟨ys, _, rfl, e15, e5, by omega, fun y hy => (a1 y hy).mono (Tk.same s15), hall, s1.trans s15⟩ (fun j σ H6 _ ⟨_, _, _, _, e6, _⟩ => SqL.of e6) ?_ ?_
      · rintro j y σ H6 hj ⟨ys', v3, rfl, e6, z6, l6, a6, b6, s6⟩
        have hjl : j < zs.length := (List.getElem?_eq_some_iff.mp hj).1
        have hy := b6 y (List.mem_of_getElem? hj)
        repeat walk_at "s"
        refine w_ninD h60 hy e6 a6 fun b => ?_
        repeat walk_at "s"
        refine ite2 (fun h => ?_) (fun h => ?_)
        · repeat walk_at "s"
          refine w_append e6 (big_ok (by omega)) ?_
          repeat walk_at "s"
          have tk : ∀ o, Tk H6 (upd H6 fo o) := fun o => Tk.lst e6
          refine ⟨ys' ++ [y], _, rfl, upd_same, by rw [upd_ne nfo]; exact z6, by rw [List.length_append, List.length_singleton]; omega, fun u hu => ?_, fun u hu => (b6 u hu).mono (tk _), fun b o h => by rw [upd_ne (ne_of_none h hfo)]; exact s6 b o h⟩
          rcases List.mem_append.mp hu with h | h
          · exact (a6 u h).mono (tk _)
          · cases List.mem_singleton.mp h; exact hy.mono (tk _)
        · exact ⟨ys', _, rfl, e6, z6, by omega, a6, b6, s6⟩
      · rintro σ H6 ⟨ys', v3, rfl, e6, z6, l6, a6, b6, s6⟩
        exact ⟨ys', _, _, rfl, e6, by omega, a6, s6⟩
    · rintro σ H1 ⟨ys, v2, v3, rfl, e1, l1, a1, s1⟩
      repeat walk_at "s"
      exact q fo ys H1 s1 hfo e1 a1 l1
theorem ok_law_parts (T : Top K mg) : ∀ n : Nat, FnOk P w K mg base CX0 (n + 2) T.f_law_parts T.d_law_parts ["terms"] (sp_parts n)
  | 0 => parts_step T 0 0 spNo (T.F_law_parts.ok sc_law_parts (fun _ _ _ _ h => h.elim) (fun _ _ _ _ _ _ _ _ _ h => h.elim)) (fun _ h => by cases h)
  | n + 1 => parts_step T (n + 1) (n + 1) (sp_parts n) (ok_law_parts T n) (fun m h => by cases h; rfl)
end
/-! enumerate(tuple) (behind h_enumG) -/
/-- a drawer's start for enumerate: whichever way the call came, the two new cells are the same -/
theorem enum_made (l : Addr) (items : Array Value) : Meets (Builtin.«enumerate.__new__» ⟨[.type "enumerate", .ref l], []⟩) (fun _ R s => s.heap.IsTuple l items ∧
    ∀ g, g = (s.heap.push { cls := .type "tuple_iterator", data := .fields #[.ref l, .int 0 0] }).push { cls := .type "enumerate", data := .fields #[.none, .bool false, .ref s.heap.objs.size, rawInt 0, .none, .none] } →
      R (.ok (.ret (.ref (s.heap.objs.size + 1)))) { s with heap := g }) := by
  refine .of_wp fun prog w A R s ⟨tup, out⟩ => ?_
  rcases s with ⟨hp, g, d, tk, os⟩
  have sub := sub_enumerate
  have start := fun {A' : Around} {E : Value → Shared → Prop} {Q : Value → Shared → Prop} (q : Q (.ref hp.objs.size) ⟨hp.push { cls := .type "tuple_iterator", data := .fields #[.ref l, .int 0 0] }, g, d, tk, os⟩) =>
    (wpAny_pyIter_tuple (prog := prog) (w := w) (A := A') (E := E) (s := ⟨hp, g, d, tk, os⟩) tup q)
  have way := out _ rfl
  rw [← Heap.size_push] at way
  wp_walk using start
  refine wpAny_stack_any fun st => wpAny_pure ?_
  split <;> try (rename_i c _ _ _ _ _; generalize (c == Value.type "enumerate") = thr; cases thr)
  all_goals (wp_walk using start; exact ⟨_, rfl, way⟩)
/-- the tuple xs at a, each item in a new pair with its place -/
def IteT (K : PySem.W.Frag) (a : Addr) (xs : List V) : It where
  go := fun i H => SqT K H a xs ∧ i < xs.length
  yld := fun i H v H' => YPair (fun i => some (.int (i : Nat))) (fun i => xs[i]?) i H v H'
  stop := fun i H => SqT K H a xs ∧ xs.length ≤ i
theorem feeds_tuple {P : Program} {w : World} {K : PySem.W.Frag} {a : Addr} {xs : List V} {e it : Addr} (ne : e ≠ it) (nae : a ≠ e) (nai : a ≠ it) :
    EnG.Feeds P w K (IteT K a xs) e it (fun i g => g.IsTupleIter it a i ∧ i ≤ xs.length) where
  apart := ne
  live := fun i g ⟨⟨ob, q, _, d⟩, _⟩ => ⟨ob, q, fun v z => by rw [d] at z; exact nomatch z⟩
  stay := fun i g g' ⟨st, l⟩ k => ⟨st.at k, l⟩
  more := fun X hP hw hK hc i pins s σ H I ⟨st, _⟩ ⟨sq, lt⟩ => by
    cases hP; cases hw; cases hK
    have ⟨its, rel, tup, _⟩ := I.tuple sq
    have len := rel.length
    refine ⟨_, _, _, _, Draws.tuple (A := X.A.in1) (I.ok.hd hc) it a nai its.toArray, fun h => ?_, ⟨st, tup⟩, by rw [List.size_toArray]; omega, fun g q => ⟨q.1, lt⟩, fun v hv => ?_⟩
    · cases h with
      | head => exact ne rfl
      | tail _ h => exact nae (List.mem_singleton.mp h).symm
    · have hx := List.getElem?_eq_getElem lt
      have ⟨u, hu, ru⟩ := rel.get hx
      have : v = u := Option.some.inj ((show its[i]? = some v by simpa using hv).symm.trans hu)
      exact ⟨xs[i], this ▸ ru, fun p np => ⟨p, _, _, rfl, np, rfl, rfl, hx⟩⟩
  last := fun X hP hw hK hc i pins s σ H I ⟨st, l⟩ ⟨sq, ge⟩ => by
    cases hP; cases hw; cases hK
    have ⟨its, rel, tup, _⟩ := I.tuple sq
    have ei : its.toArray.size = i := by rw [List.size_toArray, ← rel.length]; omega
    exact ⟨_, _, _, ei ▸ Draws.tuple (A := X.A.in1) (I.ok.hd hc) it a nai its.toArray, st, tup⟩
def iEnumT (K : PySem.W.Frag) (ta : TA) : TI := fun σ H R => ta σ H fun vs H1 => ∃ a xs, vs = [.ref a] ∧ SqT K H1 a xs ∧ R (IteT K a xs) H1
theorem pi_enumT {X : Cx} {e : Expr} {ta : TA} {p pos tpos : Pos} {elts : List Expr} {kk : Nat} (hg : Gl X "enumerate") (hm : X.mg "enumerate" = none) (ha : PA X [e] ta) (hs : starEach [e] X.env = [(false, eval e X.env)] := by rfl) :
    PI X (.Tuple elts kk tpos) (.Call (.Name "enumerate" p) [e] [] pos) (iEnumT X.K ta) where
  run := fun pins s σ H R I h => Call_ (ld_blt I hg hm boot_enumerate (PyProof.Rows.callWith_type1 (thn (ha.run pos pins s σ H _ I h) fun us u vs => by
    obtain ⟨vs, H1, J1, rel, a, xs, rfl, sq, q⟩ := vs
    obtain rfl : us = [.ref a] := by cases rel with | cons r rr => cases rr; exact congrArg (· :: []) r
    have ⟨its, _, tup, _⟩ := J1.tuple sq
    have al : a < u.heap.objs.size := tup.lt
    refine callType_new PySem.F.called_enumerate rfl (PySem.F.typeCall_enumerate_1 _) (PySem.F.newCall_enumerate_1 _) (fun ob => PySem.F.args_object_init_2 ob _) PySem.F.entry_enumerate_new (enum_made a its.toArray) ⟨tup, fun g eg => ?_⟩
    subst eg
    have top : ∀ (hp : Heap) (o1 o2 : Obj), o2.isFreed = false → ((hp.push o1).push o2).get? (hp.objs.size + 1) = some o2 := fun hp o1 o2 f => (Heap.size_push hp o1) ▸ Heap.get?_push_size (hp.push o1) f
    refine ⟨⟨_, top _ _ _ rfl, rfl⟩, EnG.begun J1 (feeds_tuple (Nat.succ_ne_self _) (Nat.ne_of_lt (Nat.lt_succ_of_lt al)) (Nat.ne_of_lt al)) (top _ _ _ rfl) ⟨⟨_, Heap.get?_push_of_some _ (Heap.get?_push_size _ rfl), rfl, rfl⟩, Nat.zero_le _⟩ (fun b o q => Heap.get?_push_of_some _ (Heap.get?_push_of_some _ q)) q⟩) hs rfl))
theorem walk_enumT {K : PySem.W.Frag} {a : Addr} {xs : List V} : Walk (IteT K a xs) xs.length (fun H => SqT K H a xs) (YPair (fun i => some (.int (i : Nat))) (fun i => xs[i]?)) where
  goes := fun _ _ lt sq => ⟨sq, lt⟩
  stops := fun _ sq => ⟨sq, Nat.le_refl _⟩
  yields := fun _ _ _ _ _ _ y => y
/-! ### what is asked, what is said -/
def Dq : Nat → PyData → Prop
  | 0, _ => False
  | n + 1, d => (∃ z, d = .str z) ∨ (∃ i, d = .int i) ∨ ∃ ds, d = .tuple ds ∧ ds.length ≤ 500 ∧ ∀ e ∈ ds, Dq n e
def sp_same (n : Nat) : Sp := fun vs H Q _ => ∃ (x y : V) (d : PyData), vs = [x, y] ∧ DAt H x d ∧ DAt H y d ∧ Dq n d ∧ ∀ H', Same H H' → Q (.bl true) H'
def sp_told : Sp := fun vs H Q _ => ∃ b : Bool, vs = [.bl b, .bl b] ∧ Q (.bl true) H
def startD : PyData := .tuple [.str "state", .tuple [], .tuple [], .tuple [], .tuple []]
theorem startD_q : Dq 2 startD := by
  refine .inr (.inr ⟨_, rfl, by decide, fun e he => ?_⟩)
  simp only [List.mem_cons, List.not_mem_nil, or_false] at he
  rcases he with rfl | rfl | rfl | rfl | rfl
  · exact .inl ⟨_, rfl⟩
  all_goals exact .inr (.inr ⟨[], rfl, by decide, fun _ h => by cases h⟩)
def sp_start : Sp := fun vs H Q _ => vs = [] ∧ ∀ (p : Addr) (H' : Hp), Same H H' → DAt H' (.ref p) startD → Q (.ref p) H'
/-- a demand: its place and its term; k is the term's word -/
def Dem (H : Hp) (v : V) (k : Str) : Prop := ∃ (q : Addr) (i : Int) (t : Addr) (r : List V), v = .ref q ∧ H q = some (.tup [.int i, .ref t]) ∧ H t = some (.tup (.str k :: r)) ∧ TAt 4 H (.ref t)
theorem Dem.mono {H H' : Hp} {v : V} {k : Str} (h : Dem H v k) (t : Tk H H') : Dem H' v k := by
  obtain ⟨q, i, u, r, rfl, h1, h2, h3⟩ := h
  exact ⟨q, i, u, r, rfl, t _ _ h1, t _ _ h2, h3.mono t⟩
structure Dems (H : Hp) (xs : List V) (ks : List Str) : Prop where
  len : xs.length = ks.length
  at' : ∀ (i : Nat) (x : V), xs[i]? = some x → ∃ k, ks[i]? = some k ∧ Dem H x k
theorem Dems.mono {H H' : Hp} {xs : List V} {ks : List Str} (h : Dems H xs ks) (t : Tk H H') : Dems H' xs ks := ⟨h.len, fun i x hx => by
  obtain ⟨k, h1, h2⟩ := h.at' i x hx
  exact ⟨k, h1, h2.mono t⟩⟩
theorem Dems.nil {H : Hp} : Dems H [] [] := ⟨rfl, fun i x h => by simp at h⟩
theorem Dems.snoc {H : Hp} {xs : List V} {ks : List Str} {x : V} {k : Str} (h : Dems H xs ks) (hx : Dem H x k) : Dems H (xs ++ [x]) (ks ++ [k]) := ⟨by rw [List.length_append, List.length_append, h.len]; rfl, fun i y hy => by
  by_cases hi : i < xs.length
  · rw [List.getElem?_append_left hi] at hy
    obtain ⟨j, h1, h2⟩ := h.at' i y hy
    exact ⟨j, by rw [List.getElem?_append_left (by rw [← h.len]; exact hi)]; exact h1, h2⟩
  · rw [List.getElem?_append_right (by omega)] at hy
    have e : i - xs.length = 0 := by
      cases hj : i - xs.length with
      | zero => rfl
      | succ j => rw [hj] at hy; simp at hy
    rw [e] at hy
    cases hy
    exact ⟨k, by rw [List.getElem?_append_right (by rw [← h.len]; omega), ← h.len, e]; rfl, hx⟩⟩
theorem Dems.drop {H : Hp} {xs : List V} {ks : List Str} (h : Dems H xs ks) (j : Nat) : Dems H (xs.drop j) (ks.drop j) := ⟨by rw [List.length_drop, List.length_drop, h.len], fun i x hx => by
  rw [List.getElem?_drop] at hx
  obtain ⟨k, h1, h2⟩ := h.at' _ x hx
  exact ⟨k, by rw [List.getElem?_drop]; exact h1, h2⟩⟩
theorem Dems.take {H : Hp} {xs : List V} {ks : List Str} (h : Dems H xs ks) (j : Nat) : Dems H (xs.take j) (ks.take j) := ⟨by rw [List.length_take, List.length_take, h.len], fun i x hx => by
  rw [List.getElem?_take] at hx
  split at hx
  · rename_i hi
    obtain ⟨k, h1, h2⟩ := h.at' _ x hx
    exact ⟨k, by rw [List.getElem?_take, if_pos hi]; exact h1, h2⟩
  · cases hx⟩
/-- the place of the first that is no variable, or -1 -/
def Fst (ks : List Str) (r : Int) : Prop := (r = -1 ∧ ∀ (j : Nat) (k : Str), ks[j]? = some k → k = "var") ∨ ∃ (i : Nat) (k : Str), r = i ∧ ks[i]? = some k ∧ k ≠ "var" ∧ ∀ (j : Nat) (k' : Str), j < i → ks[j]? = some k' → k' = "var"
theorem Fst.uniq {ks : List Str} {r s : Int} (h : Fst ks r) (g : Fst ks s) : r = s := by
  rcases h with ⟨rfl, h⟩ | ⟨i, k, rfl, hi, hk, h⟩
  · rcases g with ⟨rfl, _⟩ | ⟨j, l, rfl, hj, hl, _⟩
    · rfl
    · exact absurd (h _ _ hj) hl
  · rcases g with ⟨rfl, g⟩ | ⟨j, l, rfl, hj, hl, g⟩
    · exact absurd (g _ _ hi) hk
    · have h1 : ¬ i < j := fun lt => hk (g _ _ lt hi)
      have h2 : ¬ j < i := fun lt => hl (h _ _ lt hj)
      omega
def sp_next : Sp := fun vs H Q _ => ∃ (p : Addr) (xs : List V) (ks : List Str), vs = [.ref p] ∧ H p = some (.tup xs) ∧ Dems H xs ks ∧ ∀ (r : Int) (H' : Hp), Same H H' → Fst ks r → Q (.int r) H'
def sp_settled : Sp := fun vs H Q _ => ∃ (cs p : Addr) (u0 u1 u2 u4 : V) (xs : List V) (ks : List Str), vs = [.ref cs] ∧ H cs = some (.tup [u0, u1, u2, .ref p, u4]) ∧ H p = some (.tup xs) ∧ Dems H xs ks ∧ ∀ (r : Int) (H' : Hp), Same H H' → Fst ks r → Q (.bl (decide (r = -1))) H'
section
variable {σ : L2.St} {H : Hp} {Q : VK} {D : Ends} {K : PySem.W.Frag}
theorem isi_ts {a : Addr} {vs : List V} (h : H a = some (.tup vs)) (q : Q (.bl false) H) : rIsi K [.ref a, .ty "str"] H Q := isi_t h (by decide +kernel) q
theorem isi_bb {b : Bool} (q : Q (.bl true) H) : rIsi K [.bl b, .ty "bool"] H Q := ⟨_, _, _, _, true, rfl, .ty _, .base (.bl b), kit_ty (by decide +kernel), q⟩
theorem w_notV {t : TE} (q : t σ H fun x H1 => ∃ k, x = .bl k ∧ Q (.bl (!k)) H1) : tNotV t σ H Q := q
theorem w_eqB {i j : Bool} (q : Q (.bl (decide (i = j))) H) : rEq (.bl i) (.bl j) H Q := ⟨rfl, by
  rw [show decide (V.bl i = V.bl j) = decide (i = j) from decide_eq_decide.mpr ⟨fun e => V.bl.inj e, fun e => e ▸ rfl⟩]
  exact q⟩
end
section
variable {P : Program} {w : World} {K : PySem.W.Frag} {mg : Str → Option Value} {base : Heap}
theorem ok_law_told (T : Top K mg) : FnOk P w K mg base CX0 1 T.f_law_told T.d_law_told ["actual", "due"] sp_told := by
  refine T.F_law_told.ok sc_law_told (fun vs H Q E h => ?_) (fun cdv A outer s H vs Q E hr h => ?_)
  · obtain ⟨b, rfl, _⟩ := h
    rfl
  · obtain ⟨b, rfl, q⟩ := h
    refine ⟨_, (pss_one (ps_ret (pe_and (pe_callB call_isi (by rfl) T.z_isinstance (by decide +kernel) (pa_cons (pv 0) (pa_cons (pe_bltn (v := .ty "bool") (by rfl) T.z_bool (by decide +kernel) rfl) pa_nil))) (pe_one (pe_cmpR op_eq (pv 0) (pv 1) (nomark _)))))), ?_⟩
    repeat walk_at "s"
    refine isi_bb ?_
    repeat walk_at "s"
    refine w_eqB ?_
    rw [decide_eq_true rfl]
    exact q
theorem okstart_case (T : Top K mg) : FnOk P w K mg base CX0 1 T.fstart_case T.dstart_case [] sp_start := by
  refine T.Fstart_case.ok scstart_case (fun vs H Q E h => ?_) (fun cdv A outer s H vs Q E hr h => ?_)
  · obtain ⟨rfl, _⟩ := h
    rfl
  · obtain ⟨rfl, q⟩ := h
    refine ⟨_, (pss_one (ps_ret (pe_tup (pa_cons pe_str (pa_cons (pe_tup pa_nil) (pa_cons (pe_tup pa_nil) (pa_cons (pe_tup pa_nil) (pa_cons (pe_tup pa_nil) pa_nil)))))))), ?_⟩
    repeat walk_at "s"
    refine ⟨by walk_at "len", fun p1 h1 => ?_⟩
    repeat walk_at "s"
    refine ⟨by walk_at "len", fun p2 h2 => ?_⟩
    repeat walk_at "s"
    refine ⟨by walk_at "len", fun p3 h3 => ?_⟩
    repeat walk_at "s"
    refine ⟨by walk_at "len", fun p4 h4 => ?_⟩
    repeat walk_at "s"
    refine ⟨by walk_at "len", fun p5 h5 => ?_⟩
    have s1 := sm_new (o := .tup []) h1
    have s2 := sm_new (o := .tup []) h2
    have s3 := sm_new (o := .tup []) h3
    have s4 := sm_new (o := .tup []) h4
    have s5 := sm_new (o := .tup [.str "state", .ref p1, .ref p2, .ref p3, .ref p4]) h5
    exact q p5 _ ((((s1.trans s2).trans s3).trans s4).trans s5) (.tup upd_same (.cons (.str _) (.cons (.tup (s5 _ _ (s4 _ _ (s3 _ _ (s2 _ _ upd_same)))) .nil) (.cons (.tup (s5 _ _ (s4 _ _ (s3 _ _ upd_same))) .nil) (.cons (.tup (s5 _ _ (s4 _ _ upd_same)) .nil) (.cons (.tup (s5 _ _ upd_same) .nil) .nil))))))
theorem oknext_demand (T : Top K mg) : FnOk P w K mg base CX0 1 T.fnext_demand T.dnext_demand ["demands"] sp_next := by
  refine T.Fnext_demand.ok scnext_demand (fun vs H Q E h => ?_) (fun cdv A outer s H vs Q E hr h => ?_)
  · obtain ⟨p, xs, ks, rfl, _⟩ := h
    rfl
  · obtain ⟨p, xs, ks, rfl, hp, hd, q⟩ := h
    refine ⟨_, (pss_cons (ps_for PassesOwn.never rfl (pi_enumT (by rfl) T.z_enumerate (pa_cons (pv 0) pa_nil)) (pg_tup (by rfl) (pgs_cons (pg_name (i := 1) scnext_demand.nd rfl (Or.inl rfl)) (pgs_cons (pg_tup (by rfl) (pgs_cons (pg_name (i := 2) scnext_demand.nd rfl (Or.inl rfl)) (pgs_cons (pg_name (i := 3) scnext_demand.nd rfl (Or.inl rfl)) pgs_nil))) pgs_nil)))
    (pss_one (ps_if (pt_cmpR op_ne (pe_ix ix_tup (pv 3) pe_int (fun _ _ => rfl)) pe_str (nomark _))
     (pss_one (ps_ret (pv 1)))
     pss_nil)))
    (pss_one (ps_ret (pe_un un_neg pe_int)))), ?_⟩
    repeat walk_at "s"
    refine ⟨.ref p, rfl, p, xs, rfl, SqT.of hp, ?_⟩
    refine for_it (walk_enumT (K := K) (a := p) (xs := xs)) (fun i σ H3 => ∃ v1 v2 v3 : Option V, σ = [some (.ref p), v1, v2, v3] ∧ (∀ (j : Nat) (k : Str), j < i → ks[j]? = some k → k = "var") ∧ Same H H3) ⟨none, none, none, rfl, (fun j k hj => by omega), Same.refl _⟩ (fun i σ H3 _ ⟨_, _, _, _, _, s3⟩ => SqT.of (s3 _ _ hp)) ?_ ?_
    · rintro i x σ H3 H4 hi ⟨v1, v2, v3, rfl, av, s3⟩ ⟨T', x1, y1, rfl, hT, rfl, hx1, hy1⟩
      cases hx1
      replace hy1 : xs[i]? = some y1 := hy1
      obtain ⟨k, hk, u, i', t, r, rfl, hu, ht, _⟩ := hd.at' i y1 hy1
      have s4 := s3.trans (sm_new (o := .tup [.int (i : Nat), .ref u]) hT)
      have hu4 := s4 _ _ hu
      have ht4 := s4 _ _ ht
      refine w_gtup (SqT.of upd_same) rfl ?_
      repeat walk_at "s"
      refine w_ixT (SqT.of ht4) (atI_nat (j := 0) rfl) ?_
      repeat walk_at "s"
      refine ite2 (fun h => ?_) (fun h => ?_)
      · have hne : k ≠ "var" := fun e => by rw [decide_eq_true e] at h; cases h
        repeat walk_at "s"
        exact q _ _ s4 (.inr ⟨i, k, rfl, hk, hne, av⟩)
      · have he : k = "var" := by
          by_cases e : k = "var"
          · exact e
          · rw [decide_eq_false e] at h; exact absurd rfl h
        refine ⟨_, _, _, rfl, fun j k' hj hk' => ?_, s4⟩
        by_cases hji : j = i
        · subst hji
          rw [hk] at hk'
          cases hk'
          exact he
        · exact av j k' (by omega) hk'
    · rintro σ H3 ⟨v1, v2, v3, rfl, av, s3⟩
      repeat walk_at "s"
      refine q _ H3 s3 (.inl ⟨rfl, fun j k hj => av j k ?_ hj⟩)
      rw [hd.len]
      exact (List.getElem?_eq_some_iff.mp hj).1
theorem okis_settled (T : Top K mg) : FnOk P w K mg base CX0 2 T.fis_settled T.dis_settled ["case"] sp_settled := by
  refine T.Fis_settled.ok scis_settled (fun vs H Q E h => ?_) (fun cdv A outer s H vs Q E hr h => ?_)
  · obtain ⟨cs, p, u0, u1, u2, u4, xs, ks, rfl, _⟩ := h
    rfl
  · obtain ⟨cs, p, u0, u1, u2, u4, xs, ks, rfl, hc, hp, hd, q⟩ := h
    refine ⟨_, (pss_one (ps_ret (pe_cmpR op_eq (pe_call (oknext_demand T) hr (by rfl) T.gnext_demand T.Fnext_demand.kp T.bnext_demand .nil pass0 (pa_cons (pe_ix ix_tup (pv 0) pe_int (fun _ _ => rfl)) pa_nil)) (pe_un un_neg pe_int) (nomark _)))), ?_⟩
    repeat walk_at "s"
    refine ⟨p, xs, ks, rfl, hp, hd, fun r H1 s1 f => ?_⟩
    repeat walk_at "s"
    exact q r H1 s1 f
theorem DsAt.at' {H : Hp} {vs : List V} {ds : List PyData} (h : DsAt H vs ds) {i : Nat} (hi : i < vs.length) : ∃ v d, vs[i]? = some v ∧ ds[i]? = some d ∧ DAt H v d := by
  obtain ⟨d, h1, h2⟩ := h.get (List.getElem?_eq_getElem hi)
  exact ⟨_, d, List.getElem?_eq_getElem hi, h1, h2⟩
theorem same_step (T : Top K mg) (k n : Nat) (spr : Sp) (ih : FnOk P w K mg base CX0 (k + 1) T.f_law_same T.d_law_same ["actual", "due"] spr) (hn : ∀ m, n = m + 1 → spr = sp_same m) : FnOk P w K mg base CX0 (k + 2) T.f_law_same T.d_law_same ["actual", "due"] (sp_same n) := by
  refine T.F_law_same.ok sc_law_same (fun vs H Q E h => ?_) (fun cdv A outer s H vs Q E hr h => ?_)
  · obtain ⟨x, y, d, rfl, _⟩ := h
    rfl
  · obtain ⟨x, y, d, rfl, hx, hy, hq, q⟩ := h
    obtain ⟨m, rfl⟩ : ∃ m, n = m + 1 := by
      cases n with
      | zero => cases hq
      | succ m => exact ⟨m, rfl⟩
    have e := hn m rfl
    subst e
    refine ⟨_, (pss_cons (ps_if (pt_cmpR op_isN (pv 1) pe_non (nomark _))
    (pss_one (ps_ret (pe_cmpR op_isN (pv 0) pe_non (nomark _))))
    pss_nil)
    (pss_cons (ps_if (pt_val (pe_callB call_isi (by rfl) T.z_isinstance (by decide +kernel) (pa_cons (pv 1) (pa_cons (pe_bltn (v := .ty "str") (by rfl) T.z_str (by decide +kernel) rfl) pa_nil))))
     (pss_one (ps_ret (pe_and (pe_callB call_isi (by rfl) T.z_isinstance (by decide +kernel) (pa_cons (pv 0) (pa_cons (pe_bltn (v := .ty "str") (by rfl) T.z_str (by decide +kernel) rfl) pa_nil))) (pe_one (pe_cmpR op_eq (pv 0) (pv 1) (nomark _))))))
     pss_nil)
     (pss_cons (ps_if (pt_not (pt_val (pe_callB call_isi (by rfl) T.z_isinstance (by decide +kernel) (pa_cons (pv 1) (pa_cons (pe_bltn (v := .ty "tuple") (by rfl) T.z_tuple (by decide +kernel) rfl) pa_nil)))))
      (pss_one (ps_ret (pe_and (pe_callB call_isi (by rfl) T.z_isinstance (by decide +kernel) (pa_cons (pv 0) (pa_cons (pe_bltn (v := .ty "int") (by rfl) T.z_int (by decide +kernel) rfl) pa_nil))) (pe_and (pe_not (pe_callB call_isi (by rfl) T.z_isinstance (by decide +kernel) (pa_cons (pv 0) (pa_cons (pe_bltn (v := .ty "bool") (by rfl) T.z_bool (by decide +kernel) rfl) pa_nil)))) (pe_one (pe_cmpR op_eq (pv 0) (pv 1) (nomark _)))))))
      pss_nil)
      (pss_cons (ps_if (PW.pt (pw_or (pt_not (pt_val (pe_callB call_isi (by rfl) T.z_isinstance (by decide +kernel) (pa_cons (pv 0) (pa_cons (pe_bltn (v := .ty "tuple") (by rfl) T.z_tuple (by decide +kernel) rfl) pa_nil))))) (pw_or1 (pt_cmpR op_ne (pe_callB call_len_seq (by rfl) T.z_len (by decide +kernel) (pa_cons (pv 0) pa_nil)) (pe_callB call_len_seq (by rfl) T.z_len (by decide +kernel) (pa_cons (pv 1) pa_nil)) (nomark _)))))
       (pss_one (ps_ret pe_bl))
       pss_nil)
       (pss_one (ps_ret (pe_callB (cr_all rfl) (by rfl) T.z_all (by decide +kernel) (pa_cons (pe_lc (own := [("k", 2)]) (g := gName 2) (by rfl) sc_law_same.nd (pi_range1 (by rfl) T.z_range (pa_cons (pe_callB call_len_seq (by rfl) T.z_len (by decide +kernel) (pa_cons (pv 1) pa_nil)) pa_nil)) (blkOk_by (own := [("k", 2)]) (N := N_law_same) (sc := defScope s_law_same) (by decide +kernel)) (fun _ _ _ _ _ => (pg_name (i := 2) sc_law_same.nd rfl (Or.inl rfl))) (fun _ _ _ _ _ => pts_nil) (fun _ _ _ _ _ => (pe_call ih hr (by rfl) T.g_law_same T.F_law_same.kp T.b_law_same .nil pass0 (pa_cons (pe_ix (r := rIxT K) ix_tup (pv 0) (pv 2) (fun _ _ => rfl)) (pa_cons (pe_ix (r := rIxT K) ix_tup (pv 1) (pv 2) (fun _ _ => rfl)) pa_nil))))) pa_nil)))))))), ?_⟩
    repeat walk_at "s"
    rcases hq with ⟨z, rfl⟩ | ⟨z, rfl⟩ | ⟨ds, rfl, hl, ha⟩
    · cases hx
      cases hy
      rw [decide_eq_false (fun h => by cases h)]
      refine iteF ?_
      repeat walk_at "s"
      rw [decide_eq_true rfl]
      exact q H (Same.refl H)
    · cases hx
      cases hy
      rw [decide_eq_false (fun h => by cases h)]
      refine iteF ?_
      repeat walk_at "s"
      refine w_it rfl ?_
      repeat walk_at "s"
      refine w_notV ?_
      repeat walk_at "s"
      refine w_it rfl ?_
      repeat walk_at "s"
      rw [decide_eq_true rfl]
      exact q H (Same.refl H)
    · cases hx with
      | @tup xa xvs _ hxa hxs =>
      cases hy with
      | @tup ya yvs _ hya hys =>
      have lx := hxs.length
      have ly := hys.length
      rw [decide_eq_false (fun h => by cases h)]
      refine iteF ?_
      repeat walk_at "s"
      refine isi_ts hya ?_
      repeat walk_at "s"
      refine w_if (by decide) ?_
      repeat walk_at "s"
      refine w_if (by decide) ?_
      repeat walk_at "s"
      rw [show (!decide ((xvs.length : Int) = (yvs.length : Int))) = false by rw [lx, ly, decide_eq_true rfl]; rfl]
      refine iteF ?_
      have hys5 : yvs.length ≤ 500 := by rw [ly]; exact hl
      repeat walk_at "s"
      intro D hD
      refine lc_range (lo := 0) (n := ((yvs.length : Int)).toNat) (fun i H2 => H2 D = some (.lst ((List.replicate i true).map V.bl)) ∧ Same H H2) ⟨upd_same, sm_new hD⟩ ?_ ?_
      · rintro i H2 hi ⟨e2, s2⟩
        have hiy : i < yvs.length := by omega
        obtain ⟨y, e, hy1, hy2, hy3⟩ := hys.at' hiy
        obtain ⟨x, e', hx1, hx2, hx3⟩ := hxs.at' (i := i) (by omega)
        rw [hy2] at hx2
        cases hx2
        repeat walk_at "s"
        refine w_ixT (SqT.of (s2 _ _ hxa)) (by rw [show (0 : Int) + (i : Int) = (i : Int) by omega]; exact atI_nat hx1) ?_
        repeat walk_at "s"
        refine w_ixT (SqT.of (s2 _ _ hya)) (by rw [show (0 : Int) + (i : Int) = (i : Int) by omega]; exact atI_nat hy1) ?_
        refine ⟨x, y, e, rfl, hx3.mono (Tk.same s2), hy3.mono (Tk.same s2), ha e (List.mem_of_getElem? hy2), fun H3 s3 => ?_⟩
        refine ⟨_, s3 _ _ e2, ?_, ?_, fun b o h => ?_⟩
        · rw [List.length_map, List.length_replicate]; exact small1000 (by omega)
        · rw [upd_same, List.replicate_succ', List.map_append]; rfl
        · rw [upd_ne (ne_of_none h hD)]; exact s3 _ _ (s2 _ _ h)
      · rintro H2 ⟨e2, s2⟩
        repeat walk_at "s"
        refine ⟨D, _, rfl, SqL.of e2, ?_⟩
        rw [show ((List.replicate ((yvs.length : Int)).toNat true).all id) = true by rw [List.all_eq_true]; intro b hb; exact (List.mem_replicate.mp hb).2]
        exact q H2 s2
theorem ok_law_same (T : Top K mg) : ∀ n : Nat, FnOk P w K mg base CX0 (n + 2) T.f_law_same T.d_law_same ["actual", "due"] (sp_same n)
  | 0 => same_step T 0 0 spNo (T.F_law_same.ok sc_law_same (fun _ _ _ _ h => h.elim) (fun _ _ _ _ _ _ _ _ _ h => h.elim)) (fun _ h => by cases h)
  | n + 1 => same_step T (n + 1) (n + 1) (sp_same n) (ok_law_same T n) (fun m h => by cases h; rfl)
end
/-! ### demands, a binding -/
theorem TAt.head {n : Nat} {H : Hp} {t : Addr} (h : TAt n H (.ref t)) : ∃ (k : Str) (r : List V), H t = some (.tup (.str k :: r)) := by
  obtain ⟨d, hd, hm⟩ := h
  cases n with
  | zero => cases hm
  | succ n =>
    obtain ⟨k, ds, rfl, _⟩ := hm
    cases hd with
    | tup h1 h2 =>
      cases h2 with
      | cons h3 h4 =>
        cases h3
        exact ⟨k, _, h1⟩
def sp_demands : Sp := fun vs H Q _ => ∃ (a c nl : Addr) (zs : List Str) (N : Nat) (L : Int), vs = [.ref a, .ref nl, .int L] ∧ Flow N H a c ∧ N < 800000 ∧ Nms H a nl zs ∧
  ∀ (p : Addr) (xs : List V) (ks : List Str) (H' : Hp), H' p = some (.tup xs) → Dems H' xs ks → xs.length ≤ 40 → Go (N + 2000) a c H H' → Q (.ref p) H'
def sp_bound : Sp := fun vs H Q _ => ∃ (a c nl rp dp : Addr) (zs : List Str) (N : Nat) (rs xs : List V) (ks : List Str), vs = [.ref a, .ref nl, .ref rp, .ref dp] ∧ Flow N H a c ∧ N < 800000 ∧ Nms H a nl zs ∧
  H rp = some (.tup rs) ∧ (∀ x ∈ rs, TAt 4 H x) ∧ rs.length ≤ 40 ∧ H dp = some (.tup xs) ∧ Dems H xs ks ∧ xs.length ≤ 40 ∧ ∀ (p : Addr) (H' : Hp), Go (N + 4) a c H H' → Q (.ref p) H'
section
variable {P : Program} {w : World} {K : PySem.W.Frag} {mg : Str → Option Value} {base : Heap}
theorem ok_law_demands (T : Top K mg) : FnOk P w K mg base CX0 7 T.f_law_demands T.d_law_demands ["reader", "names", "length"] sp_demands := by
  refine T.F_law_demands.ok sc_law_demands (fun vs H Q E h => ?_) (fun cdv A outer s H vs Q E hr h => ?_)
  · obtain ⟨a, c, nl, zs, N, L, rfl, _⟩ := h
    rfl
  · obtain ⟨a, c, nl, zs, N, L, rfl, F, hN, hz, q⟩ := h
    refine ⟨_, (pss_cons (ps_set (i := 3) sc_law_demands.nd rfl (Or.inl rfl) (pe_call (ok_law_draw T) (hr.mono (by decide)) (by rfl) T.g_law_draw T.F_law_draw.kp T.b_law_draw .nil pass0 (pa_cons (pv 0) (pa_cons pe_int pa_nil))))
    (pss_cons (ps_set (i := 4) sc_law_demands.nd rfl (Or.inl rfl) (pe_ix ix_tup (pe_tup (pa_cons pe_int (pa_cons pe_int (pa_cons pe_int (pa_cons pe_int (pa_cons pe_int pa_nil)))))) (pe_call (ok_law_draw T) (hr.mono (by decide)) (by rfl) T.g_law_draw T.F_law_draw.kp T.b_law_draw .nil pass0 (pa_cons (pv 0) (pa_cons pe_int pa_nil))) (fun _ _ => rfl)))
     (pss_cons (ps_set (i := 5) sc_law_demands.nd rfl (Or.inl rfl) (pe_call (ok_law_draw T) (hr.mono (by decide)) (by rfl) T.g_law_draw T.F_law_draw.kp T.b_law_draw .nil pass0 (pa_cons (pv 0) (pa_cons (pe_op op_add (pv 4) pe_int) pa_nil))))
      (pss_cons (ps_set (i := 6) sc_law_demands.nd rfl (Or.inl rfl) (pe_lst pa_nil))
       (pss_cons (ps_set (i := 7) sc_law_demands.nd rfl (Or.inl rfl) pe_int)
        (pss_cons (ps_for PassesOwn.never rfl (pi_range1 (by rfl) T.z_range (pa_cons (pv 4) pa_nil)) (pg_name (i := 8) sc_law_demands.nd rfl (Or.inl rfl))
         (pss_cons (ps_set (i := 7) sc_law_demands.nd rfl (Or.inl rfl) (pe_op op_add (pv 7) (pe_op op_mul (pe_ix ix_tup (pe_tup (pa_cons pe_int (pa_cons pe_int (pa_cons pe_int (pa_cons (pe_op op_sub (pv 2) (pv 7)) pa_nil))))) (pe_call (ok_law_draw T) (hr.mono (by decide)) (by rfl) T.g_law_draw T.F_law_draw.kp T.b_law_draw .nil pass0 (pa_cons (pv 0) (pa_cons pe_int pa_nil))) (fun _ _ => rfl)) (pe_callTy call_int1 (by rfl) T.z_int (by decide +kernel) (pa_cons (pe_cmpR op_lt (pv 7) (pv 2) (nomark _)) pa_nil)))))
          (pss_cons (ps_set (i := 9) sc_law_demands.nd rfl (Or.inl rfl) (pe_tup (pa_cons pe_str (pa_cons (pe_call (ok_law_draw T) (hr.mono (by decide)) (by rfl) T.g_law_draw T.F_law_draw.kp T.b_law_draw .nil pass0 (pa_cons (pv 0) (pa_cons pe_int pa_nil))) (pa_cons (pe_ix ix_list (pv 1) (pe_call (ok_law_draw T) (hr.mono (by decide)) (by rfl) T.g_law_draw T.F_law_draw.kp T.b_law_draw .nil pass0 (pa_cons (pv 0) (pa_cons pe_int pa_nil))) (fun _ _ => rfl)) pa_nil)))))
           (pss_cons (ps_if (PW.pt (pw_or (pt_cmpR op_eq (pv 3) pe_int (nomark _)) (pw_or1 (PW.pt (pw_and (pt_cmpR op_eq (pv 3) pe_int (nomark _)) (pw_and1 (pt_cmpR op_eq (pv 8) (pv 5) (nomark _))))))))
            (pss_one (ps_set (i := 9) sc_law_demands.nd rfl (Or.inl rfl) (pe_call (ok_law_term T 2) hr (by rfl) T.g_law_term T.F_law_term.kp T.b_law_term .nil pass0 (pa_cons (pv 0) (pa_cons (pv 1) (pa_cons pe_int pa_nil))))))
            pss_nil)
            (pss_cons (ps_if (PW.pt (pw_and (pt_cmpR op_eq (pv 3) pe_int (nomark _)) (pw_and (pt_cmpR op_eq (pv 8) (pv 5) (nomark _)) (pw_and1 (pt_cmpR op_eq (pe_ix ix_tup (pv 9) pe_int (fun _ _ => rfl)) pe_str (nomark _))))))
             (pss_one (ps_set (i := 9) sc_law_demands.nd rfl (Or.inl rfl) (pe_tup (pa_cons pe_str (pa_cons (pv 9) pa_nil)))))
             pss_nil)
             (pss_one (ps_expr (pe_bm PySem.F.plainAttrs_list PySem.F.slot_list_append PySem.F.type_list_append mt_append (pv 6) (pa_cons (pe_tup (pa_cons (pv 7) (pa_cons (pv 9) pa_nil))) pa_nil)))))))))
         (pss_one (ps_ret (pe_callTy call_tuple_of (by rfl) T.z_tuple (by decide +kernel) (pa_cons (pv 6) pa_nil)))))))))), ?_⟩
    repeat walk_at "s"
    refine ⟨a, c, 3, N, rfl, F, by omega, by omega, by omega, fun st H1 st0 st1 g1 => ?_⟩
    repeat walk_at "s"
    refine ⟨by walk_at "len", fun p1 h1 => ?_⟩
    have G1 : Go _ a c H (upd H1 p1 (.tup [.int 0, .int 1, .int 2, .int 5, .int 40])) := g1.new h1
    repeat walk_at "s"
    refine ⟨a, c, 5, _, rfl, G1.fl, by omega, by omega, by omega, fun d2 H2 d20 d21 g2 => ?_⟩
    obtain ⟨mn, hmn, mn0, mn1⟩ := pick_int (lo := 0) (hi := 40) d20 d21 (xs := [.int 0, .int 1, .int 2, .int 5, .int 40]) (by decide +kernel)
    refine w_ixT (SqT.of (g2.at upd_same (g1.fl.na h1))) hmn ?_
    have G2 := G1.trans g2
    repeat walk_at "s"
    refine ⟨a, c, _, _, rfl, g2.fl, by omega, by omega, by omega, fun sp H3 sp0 sp1 g3 => ?_⟩
    have G3 := G2.trans g3
    repeat walk_at "s"
    refine ⟨by walk_at "len", fun fo hfo => ?_⟩
    have fo0 := G3.un hfo
    have fna := G3.fl.na hfo
    have fnc := G3.fl.nc hfo
    have G4 : Go _ a c H (upd H3 fo (.lst [])) := G3.new hfo
    have e4 := upd_self hfo (.lst [])
    generalize upd H3 fo (.lst []) = H4 at G4 e4 ⊢
    repeat walk_at "s"
    refine for_range (lo := 0) (n := mn.toNat) (fun i σ H5 => ∃ (t : Int) (ys : List V) (ks : List Str) (v8 v9 : Option V), σ = [some (.ref a), some (.ref nl), some (.int L), some (.int st), some (.int mn), some (.int sp), some (.ref fo), some (.int t), v8, v9] ∧ H5 fo = some (.lst ys) ∧ Dems H5 ys ks ∧ ys.length = i ∧ Go (N + 3 + 45 * i) a c H H5) ⟨0, [], [], none, none, rfl, e4, .nil, rfl, G4.le (by omega)⟩ ?_ ?_
    · rintro i σ H5 hi ⟨t, ys, ks, v8, v9, rfl, e5, D5, l5, G5⟩
      have Z5 := hz.go G5
      have tku : ∀ {H' : Hp}, H' fo = some (.lst ys) → ∀ o, Tk H' (upd H' fo o) := fun e o => Tk.lst e
      repeat walk_at "s"
      refine ⟨by walk_at "len", fun p6 h6 => ?_⟩
      have s6 := sm_new (o := .tup [.int 0, .int 0, .int 1, .int (L - t)]) h6
      have e6 := upd_self h6 (.tup [.int 0, .int 0, .int 1, .int (L - t)])
      generalize upd H5 p6 (.tup [.int 0, .int 0, .int 1, .int (L - t)]) = H6 at s6 e6 ⊢
      have G6 := G5.same s6
      have p6a : p6 ≠ a := G5.fl.na h6
      have fo6 := s6 _ _ e5
      have D6 := D5.mono (Tk.same s6)
      have Z6 := Z5.same s6
      repeat walk_at "s"
      refine ⟨a, c, 4, _, rfl, G6.fl, by omega, by omega, by omega, fun d7 H7 d70 d71 g7 => ?_⟩
      obtain ⟨z, hzz, hzm⟩ := at_ok (xs := [V.int 0, .int 0, .int 1, .int (L - t)]) d70 d71
      obtain ⟨zi, rfl⟩ : ∃ zi : Int, z = .int zi := by
        simp only [List.mem_cons, List.not_mem_nil, or_false] at hzm
        rcases hzm with rfl | rfl | rfl | rfl <;> exact ⟨_, rfl⟩
      refine w_ixT (SqT.of (g7.at e6 p6a)) hzz ?_
      have G7 := G6.trans g7
      have fo7 := g7.at fo6 fna
      have D7 := D6.mono (g7.tk G6.fl)
      have Z7 := Z6.go g7
      repeat walk_at "s"
      refine .inr ⟨_, rfl, ?_⟩
      refine w_I (.inr ⟨by split <;> omega, by split <;> omega⟩) ?_
      repeat walk_at "s"
      refine ⟨a, c, 10, _, rfl, g7.fl, by omega, by omega, by omega, fun d8 H8 d80 d81 g8 => ?_⟩
      repeat walk_at "s"
      refine ⟨a, c, 4, _, rfl, g8.fl, by omega, by omega, by omega, fun d9 H9 d90 d91 g9 => ?_⟩
      have g79 := g8.trans g9
      have Z9 := Z7.go g79
      obtain ⟨nm, hnm, anm⟩ := Z9.get d90 (by omega)
      refine w_ixL (SqL.of Z9.at') hnm ?_
      repeat walk_at "s0"
      refine ⟨by walk_at "len", fun p10 h10 => ?_⟩
      have G10 : Go (N + 3 + 45 * i + 4) a c H (upd H9 p10 (.tup [.str "var", .int d8, .str nm])) := ((G7.trans g79).new h10).le (by omega)
      have T10 : TAt 3 (upd H9 p10 (.tup [.str "var", .int d8, .str nm])) (.ref p10) := (TAt.t3 (n := 0) h10 (by decide +kernel) (.int d8) (.inl (Fl.i _)) (.str nm) (.inl (Fl.s anm))).le (by omega)
      have fo10 := sm_new (o := .tup [.str "var", .int d8, .str nm]) h10 _ _ (g79.at fo7 fna)
      have D10 := (D7.mono (g79.tk g7.fl)).mono (Tk.new (o := .tup [.str "var", .int d8, .str nm]) h10)
      have Z10 := Z9.same (sm_new (o := .tup [.str "var", .int d8, .str nm]) h10)
      generalize upd H9 p10 (.tup [.str "var", .int d8, .str nm]) = H10 at G10 T10 fo10 D10 Z10 ⊢
      repeat walk_at "s0"
      refine j_ifN (fun σ' H' => ∃ (u : Addr) (t' : Int), σ' = [some (.ref a), some (.ref nl), some (.int L), some (.int st), some (.int mn), some (.int sp), some (.ref fo), some (.int t'), some (.int (0 + i)), some (.ref u)] ∧ H' fo = some (.lst ys) ∧ Dems H' ys ks ∧ TAt 3 H' (.ref u) ∧ Go (N + 3 + 45 * i + 39) a c H H') ?_ (fun nx k => ?_)
      · rintro σ' H11 ⟨u, t', rfl, fo11, D11, T11, G11⟩
        obtain ⟨kk, r, hu⟩ := T11.head
        repeat walk_at "s0"
        refine j_ifN (fun σ' H' => ∃ (u : Addr), σ' = [some (.ref a), some (.ref nl), some (.int L), some (.int st), some (.int mn), some (.int sp), some (.ref fo), some (.int t'), some (.int (0 + i)), some (.ref u)] ∧ H' fo = some (.lst ys) ∧ Dems H' ys ks ∧ TAt 4 H' (.ref u) ∧ Go (N + 3 + 45 * i + 39) a c H H') ?_ (fun nx k => ?_)
        · rintro σ' H12 ⟨u, rfl, fo12, D12, T12, G12⟩
          obtain ⟨kk, r, hu⟩ := T12.head
          repeat walk_at "s"
          refine ⟨by walk_at "len", fun p13 h13 => ?_⟩
          have s13 := sm_new (o := .tup [.int t', .ref u]) h13
          have e13 := upd_self h13 (.tup [.int t', .ref u])
          generalize upd H12 p13 (.tup [.int t', .ref u]) = H13 at s13 e13 ⊢
          have G13 := G12.same s13
          have fo13 := s13 _ _ fo12
          have D13 := D12.mono (Tk.same s13)
          have dm : Dem H13 (.ref p13) kk := ⟨p13, t', u, r, rfl, e13, s13 _ _ hu, T12.mono (Tk.same s13)⟩
          repeat walk_at "s"
          refine w_append fo13 (small1000 (by omega)) ?_
          repeat walk_at "s"
          refine ⟨t', ys ++ [.ref p13], ks ++ [kk], _, _, rfl, upd_same, (D13.snoc dm).mono (Tk.lst fo13), by rw [List.length_append, l5]; rfl, (G13.mut fo0 fna fnc).le (by omega)⟩
        · repeat walk_at "s"
          refine ite2 (fun h => ?_) (fun h => ?_)
          · repeat walk_at "s"
            refine ite2 (fun h => ?_) (fun h => ?_)
            · repeat walk_at "s"
              refine w_ixT (SqT.of hu) (atI_nat (j := 0) rfl) ?_
              repeat walk_at "s"
              refine ite2 (fun h => ?_) (fun h => ?_)
              · repeat walk_at "s"
                refine ⟨by walk_at "len", fun p13 h13 => ?_⟩
                obtain ⟨d, hd, htm⟩ := T11
                exact k _ _ ⟨p13, rfl, sm_new h13 _ _ fo11, D11.mono (Tk.new h13), TAt.t2 h13 (by decide +kernel) hd (.inr htm), G11.new h13⟩
              · exact k _ _ ⟨u, rfl, fo11, D11, T11.le (by omega), G11⟩
            · exact k _ _ ⟨u, rfl, fo11, D11, T11.le (by omega), G11⟩
          · exact k _ _ ⟨u, rfl, fo11, D11, T11.le (by omega), G11⟩
      · have k0 := k _ _ ⟨p10, t + zi * (if decide (t < L) = true then 1 else 0), rfl, fo10, D10, T10, G10.le (by omega)⟩
        have tm : sp_term 2 [.ref a, .ref nl, .int 2] H10 (fun x H' => nx ([some (.ref a), some (.ref nl), some (.int L), some (.int st), some (.int mn), some (.int sp), some (.ref fo), some (.int (t + zi * (if decide (t < L) = true then 1 else 0))), some (.int (0 + i)), some x]) H') E0 :=
          ⟨a, c, nl, zs, _, rfl, G10.fl, by show _ + 35 < _; omega, Z10, fun u H11 T11 g11 => k _ _ ⟨u, _, rfl, g11.at fo10 fna, D10.mono (g11.tk G10.fl), T11, (G10.trans g11).le (by show _ + 35 ≤ _; omega)⟩⟩
        repeat walk_at "s"
        refine ite2 (fun h => ?_) (fun h => ?_)
        · repeat walk_at "s"
          exact tm
        · repeat walk_at "s"
          refine ite2 (fun h => ?_) (fun h => ?_)
          · repeat walk_at "s"
            refine ite2 (fun h => ?_) (fun h => ?_)
            · repeat walk_at "s"
              exact tm
            · exact k0
          · exact k0
    · rintro σ H5 ⟨t, ys, ks, v8, v9, rfl, e5, D5, l5, G5⟩
      repeat walk_at "s"
      refine ⟨fo, ys, rfl, .inl ⟨SqL.of e5, fun p hp => ?_⟩⟩
      exact q p ys ks _ upd_same (D5.mono (Tk.new hp)) (by omega) ((G5.new hp).le (by omega))
theorem ok_law_bound (T : Top K mg) : FnOk P w K mg base CX0 7 T.f_law_bound T.d_law_bound ["reader", "names", "row", "demands"] sp_bound := by
  refine T.F_law_bound.ok sc_law_bound (fun vs H Q E h => ?_) (fun cdv A outer s H vs Q E hr h => ?_)
  · obtain ⟨a, c, nl, rp, dp, zs, N, rs, xs, ks, rfl, _⟩ := h
    rfl
  · obtain ⟨a, c, nl, rp, dp, zs, N, rs, xs, ks, rfl, F, hN, hz, hrp, hrs, lrs, hdp, hD, lxs, q⟩ := h
    have hu := hu65 hr
    refine ⟨_, (pss_cons (ps_set (i := 4) sc_law_bound.nd rfl (Or.inl rfl) (pe_call (ok_law_parts T 4) hr (by rfl) T.g_law_parts T.F_law_parts.kp T.b_law_parts .nil pass0 (pa_cons (pe_op op_cat (pe_callTy call_list_of (by rfl) T.z_list (by decide +kernel) (pa_cons (pv 2) pa_nil)) (pe_lc (own := [("demand", 5)]) (g := gName 5) (by rfl) sc_law_bound.nd (pi_tup (pv 3)) (blkOk_by (own := [("demand", 5)]) (N := N_law_bound) (sc := defScope s_law_bound) (by decide +kernel)) (fun _ _ _ _ _ => (pg_name (i := 5) sc_law_bound.nd rfl (Or.inl rfl))) (fun _ _ _ _ _ => pts_nil) (fun _ _ _ _ _ => (pe_ix (r := rIxT K) ix_tup (pv 5) pe_int (fun _ _ => rfl))))) pa_nil)))
    (pss_cons (ps_set (i := 6) sc_law_bound.nd rfl (Or.inl rfl) (pe_tup (pa_cons pe_str (pa_cons (pe_call (ok_law_draw T) (hr.mono (by decide)) (by rfl) T.g_law_draw T.F_law_draw.kp T.b_law_draw .nil pass0 (pa_cons (pv 0) (pa_cons pe_int pa_nil))) (pa_cons (pe_ix ix_list (pv 1) pe_int (fun _ _ => rfl)) pa_nil)))))
     (pss_cons (ps_if (PW.pt (pw_or (pt_cmpR (op_inD hu) (pv 6) (pv 4) (by rfl)) (pw_or1 (pt_cmpR op_eq (pe_call (ok_law_draw T) (hr.mono (by decide)) (by rfl) T.g_law_draw T.F_law_draw.kp T.b_law_draw .nil pass0 (pa_cons (pv 0) (pa_cons pe_int pa_nil))) pe_int (nomark _)))))
      (pss_one (ps_ret (pe_tup pa_nil)))
      pss_nil)
      (pss_one (ps_ret (pe_tup (pa_cons (pe_tup (pa_cons (pv 6) (pa_cons (pe_tup (pa_cons pe_str (pa_cons (pe_tup (pa_cons pe_str (pa_cons (pe_call (ok_law_draw T) (hr.mono (by decide)) (by rfl) T.g_law_draw T.F_law_draw.kp T.b_law_draw .nil pass0 (pa_cons (pv 0) (pa_cons pe_int pa_nil))) pa_nil))) pa_nil))) pa_nil))) pa_nil))))))), ?_⟩
    repeat walk_at "s"
    intro l1 hl1
    have s1 := sm_new (o := .lst rs) hl1
    have e1 := upd_self hl1 (.lst rs)
    generalize upd H l1 (.lst rs) = H1 at s1 e1 ⊢
    have hdp1 := s1 _ _ hdp
    have hD1 := hD.mono (Tk.same s1)
    repeat walk_at "s"
    intro D hnD
    refine lc_tup (K := K) (a := dp) (xs := xs) (fun i H2 => ∃ ys : List V, H2 D = some (.lst ys) ∧ ys.length = i ∧ (∀ y ∈ ys, TAt 4 H2 y) ∧ Same H1 H2) ⟨[], upd_same, rfl, (fun _ h => by cases h), sm_new hnD⟩ (fun i H2 _ ⟨_, _, _, _, s2⟩ => SqT.of (s2 _ _ hdp1)) ?_ ?_
    · rintro i x H2 hi ⟨ys, e2, l2, a2, s2⟩
      obtain ⟨kk, hkk, qq, ii, t, r, rfl, h1, h2, h3⟩ := hD1.at' i x hi
      have hil : i < xs.length := (List.getElem?_eq_some_iff.mp hi).1
      repeat walk_at "s"
      refine w_ixT (SqT.of (s2 _ _ h1)) (atI_nat (j := 1) rfl) ?_
      have tk : ∀ o, Tk H2 (upd H2 D o) := fun o => Tk.lst e2
      refine ⟨ys, e2, small1000 (by omega), ys ++ [.ref t], upd_same, by rw [List.length_append, l2]; rfl, fun y hy => ?_, fun b o h => by rw [upd_ne (ne_of_none h hnD)]; exact s2 b o h⟩
      rcases List.mem_append.mp hy with h | h
      · exact (a2 y h).mono (tk _)
      · cases List.mem_singleton.mp h
        exact (h3.mono (Tk.same s2)).mono (tk _)
    · rintro H2 ⟨ys, e2, l2, a2, s2⟩
      refine ⟨l1, D, _, _, rfl, rfl, s2 _ _ e1, e2, Nat.le_of_lt (small1000 (by omega)), fun p3 h3 => ?_⟩
      have s3 := sm_new (o := .lst (rs ++ ys)) h3
      have e3 := upd_self h3 (.lst (rs ++ ys))
      generalize upd H2 p3 (.lst (rs ++ ys)) = H3 at s3 e3 ⊢
      have s13 := (s1.trans s2).trans s3
      have hall : ∀ y ∈ rs ++ ys, TAt 4 H3 y := by
        intro y hy
        rcases List.mem_append.mp hy with h | h
        · exact (hrs y h).mono (Tk.same s13)
        · exact (a2 y h).mono (Tk.same s3)
      have hln : (rs ++ ys).length ≤ 80 := by rw [List.length_append]; omega
      have e15 : pb 4 = 15 := rfl
      repeat walk_at "s"
      refine ⟨p3, rs ++ ys, rfl, by omega, e3, hall, by rw [e15]; omega, fun ul us H4 s4 hul e4 a4 l4 => ?_⟩
      have s14 := s13.trans s4
      have F4 := F.same s14
      have G4 : Go N a c H H4 := (Go.refl F).same s14
      have Z4 := hz.same s14
      have ula : ul ≠ a := (F.same s13).na hul
      repeat walk_at "s"
      refine ⟨a, c, 10, _, rfl, F4, by omega, by omega, by omega, fun d5 H5 d50 d51 g5 => ?_⟩
      have Z5 := Z4.go g5
      have G5 := G4.trans g5
      have e5 := g5.at e4 ula
      have a5 : ∀ y ∈ us, TAt 4 H5 y := fun y hy => (a4 y hy).mono (g5.tk F4)
      obtain ⟨nm, hnm, anm⟩ := Z5.get (d := 4) (by omega) (by omega)
      repeat walk_at "s"
      refine w_ixL (SqL.of Z5.at') hnm ?_
      repeat walk_at "s"
      refine ⟨by walk_at "len", fun p6 h6 => ?_⟩
      have T6 : TAt 4 (upd H5 p6 (.tup [.str "var", .int d5, .str nm])) (.ref p6) := (TAt.t3 (n := 0) h6 (by decide +kernel) (.int d5) (.inl (Fl.i _)) (.str nm) (.inl (Fl.s anm))).le (by omega)
      have s6 := sm_new (o := .tup [.str "var", .int d5, .str nm]) h6
      generalize upd H5 p6 (.tup [.str "var", .int d5, .str nm]) = H6 at T6 s6 ⊢
      have G6 := G5.same s6
      have e6 := s6 _ _ e5
      have a6 : ∀ y ∈ us, TAt 4 H6 y := fun y hy => (a5 y hy).mono (Tk.same s6)
      repeat walk_at "s"
      refine w_inD (by omega) T6 e6 a6 fun b => ?_
      repeat walk_at "s"
      have fin : ∀ (H7 : Hp), Go (N + 2) a c H H7 → ∀ p, H7 p = none → Q (.ref p) (upd H7 p (.tup [])) := fun H7 G7 p hp => q p _ ((G7.new hp).le (by omega))
      refine ite2 (fun h => ?_) (fun h => ?_)
      · repeat walk_at "s"
        exact ⟨by walk_at "len", fun p hp => fin H6 (G6.le (by omega)) p hp⟩
      · repeat walk_at "s"
        refine ⟨a, c, 2, _, rfl, G6.fl, by omega, by omega, by omega, fun d7 H7 d70 d71 g7 => ?_⟩
        have G7 := G6.trans g7
        repeat walk_at "s"
        refine ite2 (fun h => ?_) (fun h => ?_)
        · repeat walk_at "s"
          exact ⟨by walk_at "len", fun p hp => fin H7 (G7.le (by omega)) p hp⟩
        · repeat walk_at "s"
          refine ⟨a, c, 1000000, _, rfl, g7.fl, by omega, by omega, by omega, fun d8 H8 d80 d81 g8 => ?_⟩
          have G8 := G7.trans g8
          repeat walk_at "s"
          refine ⟨by walk_at "len", fun q1 k1 => ?_⟩
          repeat walk_at "s"
          refine ⟨by walk_at "len", fun q2 k2 => ?_⟩
          repeat walk_at "s"
          refine ⟨by walk_at "len", fun q3 k3 => ?_⟩
          repeat walk_at "s"
          refine ⟨by walk_at "len", fun q4 k4 => ?_⟩
          exact q q4 _ (((((G8.new k1).new k2).new k3).new k4).le (by omega))
end
/-! ### the law -/
def spLaw (K : PySem.W.Frag) : Sp := fun vs H Q _ => ∃ (a : Addr) (ns : List Int), vs = [.ref a] ∧ SqL K H a (ns.map V.int) ∧ ns.length ≤ 63 ∧ ∀ H', Q (.bl true) H'
theorem cutV_pre (xs : List V) (k : Nat) : cutV xs none (some (k : Int)) = xs.take k := by
  unfold cutV
  rw [HT.sIx_none, HT.sIx_nat, List.drop_zero, Nat.sub_zero, ← List.take_eq_take_min]
theorem cutV_suf (xs : List V) (k : Nat) : cutV xs (some (k : Int)) none = xs.drop k := by
  unfold cutV
  rw [HT.sIx_none, HT.sIx_nat]
  by_cases h : k ≤ xs.length
  · rw [Nat.min_eq_left h]
    exact List.take_of_length_le (by rw [List.length_drop]; exact Nat.le_refl _)
  · rw [Nat.min_eq_right (by omega), Nat.sub_self, List.take_zero, List.drop_of_length_le (by omega)]
theorem w_slA {K : PySem.W.Frag} {H : Hp} {Q : VK} {a : Addr} {xs : List V} {lo hi : Option Int} (h : H a = some (.tup xs)) (q : ∀ (p : Addr) (H' : Hp), Same H H' → H' p = some (.tup (cutV xs lo hi)) → Q (.ref p) H') : rSlA K (.ref a) lo hi H Q :=
  ⟨a, xs, rfl, SqT.of h, fun ⟨e1, e2⟩ => q a H (Same.refl H) (by
    unfold cutV
    rw [e1, e2, List.drop_zero, Nat.sub_zero, List.take_length]
    exact h), fun _ p hp => q p _ (sm_new hp) upd_same⟩
/-- the places that are no variables, up to i -/
def Ops (ks : List Str) (i : Nat) (xs : List V) : Prop := (xs = [] ∧ ∀ (j : Nat) (k : Str), j < i → ks[j]? = some k → k = "var") ∨ ∃ (j : Nat) (k : Str) (r : List V), xs = V.int (j : Nat) :: r ∧ ks[j]? = some k ∧ k ≠ "var" ∧ ∀ (l : Nat) (k' : Str), l < j → ks[l]? = some k' → k' = "var"
theorem Ops.skip {ks : List Str} {i : Nat} {xs : List V} {k : Str} (h : Ops ks i xs) (hk : ks[i]? = some k) (e : k = "var") : Ops ks (i + 1) xs := by
  rcases h with ⟨rfl, h⟩ | h
  · refine .inl ⟨rfl, fun j k' hj hk' => ?_⟩
    by_cases hji : j = i
    · subst hji; rw [hk] at hk'; cases hk'; exact e
    · exact h j k' (by omega) hk'
  · exact .inr h
theorem Ops.add {ks : List Str} {i : Nat} {xs : List V} {k : Str} (h : Ops ks i xs) (hk : ks[i]? = some k) (e : k ≠ "var") : Ops ks (i + 1) (xs ++ [V.int (i : Nat)]) := by
  rcases h with ⟨rfl, h⟩ | ⟨j, k', r, rfl, h⟩
  · exact .inr ⟨i, k, [], rfl, hk, e, h⟩
  · exact .inr ⟨j, k', r ++ [V.int (i : Nat)], rfl, h⟩
theorem Ops.fst {ks : List Str} {n : Nat} {xs : List V} (h : Ops ks n xs) (hn : n = ks.length) : ∃ r : Int, atI (xs ++ [V.int (-1)]) 0 = some (.int r) ∧ Fst ks r ∧ decide ((xs.length : Int) = 0) = decide (r = -1) := by
  rcases h with ⟨rfl, h⟩ | ⟨j, k, r, rfl, h1, h2, h3⟩
  · exact ⟨-1, rfl, .inl ⟨rfl, fun j k hk => h j k (by rw [hn]; exact (List.getElem?_eq_some_iff.mp hk).1) hk⟩, by simp⟩
  · refine ⟨j, atI_nat (j := 0) rfl, .inr ⟨j, k, rfl, h1, h2, h3⟩, ?_⟩
    rw [decide_eq_false (by rw [List.length_cons]; omega), decide_eq_false (by omega)]
theorem Fst.neg {ks : List Str} {r : Int} (h : Fst ks r) : decide (r < 0) = decide (r = -1) := by
  rcases h with ⟨rfl, _⟩ | ⟨i, k, rfl, _⟩
  · rfl
  · rw [decide_eq_false (by omega), decide_eq_false (by omega)]
theorem Fst.lo {ks : List Str} {r : Int} (h : Fst ks r) : -1 ≤ r := by
  rcases h with ⟨rfl, _⟩ | ⟨i, k, rfl, _⟩ <;> omega
theorem Fst.none' {r : Int} (h : Fst [] r) : r = -1 := by
  rcases h with ⟨rfl, _⟩ | ⟨i, k, rfl, h, _⟩
  · rfl
  · simp at h
theorem Fst.ahead {ks : List Str} {r s : Int} {m : Nat} (h : Fst ks r) (hm : (m : Int) = if r > 0 then r else 0) (g : Fst (ks.take m) s) : s = -1 := by
  refine g.uniq (.inl ⟨rfl, fun j k hk => ?_⟩)
  rw [List.getElem?_take] at hk
  split at hk
  · rename_i hj
    rcases h with ⟨rfl, _⟩ | ⟨i, k', rfl, _, _, h⟩
    · rw [if_neg (by omega)] at hm; omega
    · refine h j k ?_ hk
      split at hm <;> omega
  · cases hk
theorem start_get {H : Hp} {p : Addr} (h : DAt H (.ref p) startD) : ∃ p1 p2 p3 p4 : Addr, H p = some (.tup [.str "state", .ref p1, .ref p2, .ref p3, .ref p4]) ∧ H p3 = some (.tup []) := by
  cases h with
  | tup h1 h2 =>
  cases h2 with
  | cons a1 h2 =>
  cases a1
  cases h2 with
  | cons a1 h2 =>
  cases a1 with
  | tup b1 c1 =>
  cases h2 with
  | cons a2 h2 =>
  cases a2 with
  | tup b2 c2 =>
  cases h2 with
  | cons a3 h2 =>
  cases a3 with
  | tup b3 c3 =>
  cases h2 with
  | cons a4 h2 =>
  cases a4 with
  | tup b4 c4 =>
  cases h2
  cases c3
  exact ⟨_, _, _, _, h1, b3⟩
structure Kp (a c nl rp dp : Addr) (zs : List Str) (rs xs : List V) (ks : List Str) (H : Hp) : Prop where
  F : Flow 5000 H a c
  Z : Nms H a nl zs
  rp : H rp = some (.tup rs)
  R : ∀ y ∈ rs, TAt 4 H y
  dp : H dp = some (.tup xs)
  D : Dems H xs ks
theorem Kp.same {a c nl rp dp : Addr} {zs : List Str} {rs xs : List V} {ks : List Str} {H H' : Hp} (h : Kp a c nl rp dp zs rs xs ks H) (s : Same H H') : Kp a c nl rp dp zs rs xs ks H' :=
  ⟨h.F.same s, h.Z.same s, s _ _ h.rp, fun y hy => (h.R y hy).mono (Tk.same s), s _ _ h.dp, h.D.mono (Tk.same s)⟩
theorem isi_nn {n : Int} : Dq 2 (.int n) := .inr (.inl ⟨n, rfl⟩)
section
variable {P : Program} {w : World} {K : PySem.W.Frag} {mg : Str → Option Value} {base : Heap}
theorem oklaw (T : Top K mg) : FnOk P w K mg base CX0 8 T.flaw T.dlaw ["script"] (spLaw K) := by
  refine T.Flaw.ok sclaw (fun vs H Q E h => ?_) (fun cdv A outer s H vs Q E hr h => ?_)
  · obtain ⟨a, ns, rfl, _⟩ := h
    rfl
  · obtain ⟨sc, ns, rfl, hS, hns, q⟩ := h
    refine ⟨_, (pss_cons (ps_set (i := 1) sclaw.nd rfl (Or.inr rfl) (pe_call (ok_law_reader T) (hr.mono (by decide)) (by rfl) T.g_law_reader T.F_law_reader.kp T.b_law_reader .nil pass0 (pa_cons (pv 0) pa_nil)))
    (pss_cons (ps_set (i := 2) sclaw.nd rfl (Or.inr rfl) (pe_call (ok_law_names T) (hr.mono (by decide)) (by rfl) T.g_law_names T.F_law_names.kp T.b_law_names .nil pass0 (pa_cons (pv 1) (pa_cons pe_str (pa_cons pe_int pa_nil)))))
     (pss_cons (ps_set (i := 3) sclaw.nd rfl (Or.inl rfl) (pe_callTy call_tuple_of (by rfl) T.z_tuple (by decide +kernel) (pa_cons (pe_lc (own := [("k", 4)]) (g := gName 4) (by rfl) sclaw.nd (pi_range1 (by rfl) T.z_range (pa_cons (pe_ix ix_tup (pe_tup (pa_cons pe_int (pa_cons pe_int (pa_cons pe_int (pa_cons pe_int pa_nil))))) (pe_call (ok_law_draw T) (hr.mono (by decide)) (by rfl) T.g_law_draw T.F_law_draw.kp T.b_law_draw .nil pass0 (pa_cons (pv 1) (pa_cons pe_int pa_nil))) (fun _ _ => rfl)) pa_nil)) (blkOk_by (own := [("k", 4)]) (N := Nlaw) (sc := defScope slaw) (by decide +kernel)) (fun _ _ _ _ _ => (pg_name (i := 4) sclaw.nd rfl (Or.inl rfl))) (fun _ _ _ _ _ => pts_nil) (fun _ _ _ _ _ => (pe_call (ok_law_term T 2) (hr.mono (by decide)) (by rfl) T.g_law_term T.F_law_term.kp T.b_law_term .nil pass0 (pa_cons (pv 1) (pa_cons (pv 2) (pa_cons pe_int pa_nil)))))) pa_nil)))
      (pss_cons (ps_set (i := 5) sclaw.nd rfl (Or.inr rfl) (pe_call (ok_law_demands T) hr (by rfl) T.g_law_demands T.F_law_demands.kp T.b_law_demands .nil pass0 (pa_cons (pv 1) (pa_cons (pv 2) (pa_cons (pe_callB call_len_seq (by rfl) T.z_len (by decide +kernel) (pa_cons (pv 3) pa_nil)) pa_nil)))))
       (pss_cons (ps_set (i := 6) sclaw.nd rfl (Or.inl rfl) (pe_callTy call_tuple_of (by rfl) T.z_tuple (by decide +kernel) (pa_cons (pe_lc (own := [("k", 4)]) (g := gName 4) (by rfl) sclaw.nd (pi_range1 (by rfl) T.z_range (pa_cons (pe_call (ok_law_draw T) (hr.mono (by decide)) (by rfl) T.g_law_draw T.F_law_draw.kp T.b_law_draw .nil pass0 (pa_cons (pv 1) (pa_cons pe_int pa_nil))) pa_nil)) (blkOk_by (own := [("k", 4)]) (N := Nlaw) (sc := defScope slaw) (by decide +kernel)) (fun _ _ _ _ _ => (pg_name (i := 4) sclaw.nd rfl (Or.inl rfl))) (fun _ _ _ _ _ => pts_nil) (fun _ _ _ _ _ => (pe_call (ok_law_draw T) (hr.mono (by decide)) (by rfl) T.g_law_draw T.F_law_draw.kp T.b_law_draw .nil pass0 (pa_cons (pv 1) (pa_cons pe_int pa_nil))))) pa_nil)))
        (pss_cons (ps_setLc (i := 7) (own := [("k", 4)]) (g := gName 4) (by rfl) sclaw.nd rfl rfl (sw_true rfl rfl rfl (by decide +kernel)) (pi_range1 (by rfl) T.z_range (pa_cons (pe_callB call_len_seq (by rfl) T.z_len (by decide +kernel) (pa_cons (pv 5) pa_nil)) pa_nil)) (blkOk_by (own := [("k", 4)]) (N := Nlaw) (sc := defScope slaw) (by decide +kernel)) (fun _ _ _ _ _ => (pg_name (i := 4) sclaw.nd rfl (Or.inl rfl))) (fun _ _ _ _ _ => (pts_one (pt_cmpR op_ne (pe_ix (r := rIxT K) ix_tup (pe_ix (r := rIxT K) ix_tup (pe_ix (r := rIxT K) ix_tup (pv 5) (pv 4) (fun _ _ => rfl)) pe_int (fun _ _ => rfl)) pe_int (fun _ _ => rfl)) pe_str (nomark _)))) (fun _ _ _ _ _ => (pv 4)))
         (pss_cons (ps_set (i := 8) sclaw.nd rfl (Or.inl rfl) (pe_ix ix_list (pe_op op_cat (pv 7) (pe_lst (pa_cons (pe_un un_neg pe_int) pa_nil))) pe_int (fun _ _ => rfl)))
          (pss_cons (ps_set (i := 9) sclaw.nd rfl (Or.inl rfl) (pe_tup (pa_cons pe_str (pa_cons (pe_tup pa_nil) (pa_cons (pe_tup pa_nil) (pa_cons (pe_tup pa_nil) (pa_cons (pe_tup pa_nil) pa_nil)))))))
           (pss_cons (ps_if (PW.pt (pw_or (pt_not (pt_val (pe_call (ok_law_same T 2) (hr.mono (by decide)) (by rfl) T.g_law_same T.F_law_same.kp T.b_law_same .nil pass0 (pa_cons (pe_call0 (okstart_case T) (hr.mono (by decide)) (by rfl) T.gstart_case T.Fstart_case.kp T.bstart_case .nil pass0) (pa_cons (pv 9) pa_nil))))) (pw_or1 (pt_not (pt_val (pe_call (ok_law_same T 2) (hr.mono (by decide)) (by rfl) T.g_law_same T.F_law_same.kp T.b_law_same .nil pass0 (pa_cons (pe_call (oknext_demand T) (hr.mono (by decide)) (by rfl) T.gnext_demand T.Fnext_demand.kp T.bnext_demand .nil pass0 (pa_cons (pe_tup pa_nil) pa_nil)) (pa_cons (pe_un un_neg pe_int) pa_nil))))))))
            (pss_one (ps_ret pe_bl))
            pss_nil)
            (pss_cons (ps_if (pt_not (pt_val (pe_call (ok_law_same T 2) (hr.mono (by decide)) (by rfl) T.g_law_same T.F_law_same.kp T.b_law_same .nil pass0 (pa_cons (pe_call (oknext_demand T) (hr.mono (by decide)) (by rfl) T.gnext_demand T.Fnext_demand.kp T.bnext_demand .nil pass0 (pa_cons (pv 5) pa_nil)) (pa_cons (pv 8) pa_nil)))))
             (pss_one (ps_ret pe_bl))
             pss_nil)
             (pss_cons (ps_set (i := 10) sclaw.nd rfl (Or.inl rfl) (pe_slice sl_tupA (pv 5) po_none (po_some (pe_callB (call_max2 rfl) (by rfl) T.z_max (by decide +kernel) (pa_cons pe_int (pa_cons (pv 8) pa_nil))))))
              (pss_cons (ps_set (i := 11) sclaw.nd rfl (Or.inr rfl) (pe_slice sl_tupA (pv 5) (po_some (pe_op op_add (pv 8) pe_int)) po_none))
               (pss_cons (ps_setLc (i := 12) (own := [("k", 4)]) (g := gName 4) (by rfl) sclaw.nd rfl rfl (sw_true rfl rfl rfl (by decide +kernel)) (pi_range1 (by rfl) T.z_range (pa_cons (pe_callB call_len_seq (by rfl) T.z_len (by decide +kernel) (pa_cons (pv 11) pa_nil)) pa_nil)) (blkOk_by (own := [("k", 4)]) (N := Nlaw) (sc := defScope slaw) (by decide +kernel)) (fun _ _ _ _ _ => (pg_name (i := 4) sclaw.nd rfl (Or.inl rfl))) (fun _ _ _ _ _ => (pts_one (pt_cmpR op_ne (pe_ix (r := rIxT K) ix_tup (pe_ix (r := rIxT K) ix_tup (pe_ix (r := rIxT K) ix_tup (pv 11) (pv 4) (fun _ _ => rfl)) pe_int (fun _ _ => rfl)) pe_int (fun _ _ => rfl)) pe_str (nomark _)))) (fun _ _ _ _ _ => (pv 4)))
                (pss_cons (ps_if (PW.pt (pw_or (pt_not (pt_val (pe_call (ok_law_same T 2) (hr.mono (by decide)) (by rfl) T.g_law_same T.F_law_same.kp T.b_law_same .nil pass0 (pa_cons (pe_callK0 (ks := ["demands"]) (g := kwPermV [0]) (gV := kwPermX [0]) (oknext_demand T) (hr.mono (by decide)) (by rfl) T.gnext_demand T.Fnext_demand.kp T.knext_demand_demands (fun r hl => kwPerm_vals r hl (by decide)) pass0 (pk_cons (pv 11) pk_nil)) (pa_cons (pe_ix ix_list (pe_op op_cat (pv 12) (pe_lst (pa_cons (pe_un un_neg pe_int) pa_nil))) pe_int (fun _ _ => rfl)) pa_nil))))) (pw_or1 (pt_not (pt_val (pe_call (ok_law_same T 2) (hr.mono (by decide)) (by rfl) T.g_law_same T.F_law_same.kp T.b_law_same .nil pass0 (pa_cons (pe_call (oknext_demand T) (hr.mono (by decide)) (by rfl) T.gnext_demand T.Fnext_demand.kp T.bnext_demand .nil pass0 (pa_cons (pv 10) pa_nil)) (pa_cons (pe_un un_neg pe_int) pa_nil))))))))
                 (pss_one (ps_ret pe_bl))
                 pss_nil)
                 (pss_cons (ps_set (i := 13) sclaw.nd rfl (Or.inl rfl) (pe_call (ok_law_bound T) hr (by rfl) T.g_law_bound T.F_law_bound.kp T.b_law_bound .nil pass0 (pa_cons (pv 1) (pa_cons (pv 2) (pa_cons (pv 3) (pa_cons (pv 5) pa_nil))))))
                  (pss_cons (ps_for PassesOwn.never rfl (pi_tup (pe_tup (pa_cons pe_str (pa_cons pe_str (pa_cons pe_str pa_nil))))) (pg_name (i := 14) sclaw.nd rfl (Or.inl rfl))
                   (pss_cons (ps_if (pt_not (pt_val (pe_call (ok_law_told T) (hr.mono (by decide)) (by rfl) T.g_law_told T.F_law_told.kp T.b_law_told .nil pass0 (pa_cons (pe_call (okis_settled T) (hr.mono (by decide)) (by rfl) T.gis_settled T.Fis_settled.kp T.bis_settled .nil pass0 (pa_cons (pe_tup (pa_cons (pv 14) (pa_cons (pv 6) (pa_cons (pv 3) (pa_cons (pv 5) (pa_cons (pv 13) pa_nil)))))) pa_nil)) (pa_cons (pe_cmpR op_lt (pv 8) pe_int (nomark _)) pa_nil)))))
                    (pss_one (ps_ret pe_bl))
                    pss_nil)
                    (pss_cons (ps_if (pt_not (pt_val (pe_call (ok_law_told T) (hr.mono (by decide)) (by rfl) T.g_law_told T.F_law_told.kp T.b_law_told .nil pass0 (pa_cons (pe_callK0 (ks := ["case"]) (g := kwPermV [0]) (gV := kwPermX [0]) (okis_settled T) (hr.mono (by decide)) (by rfl) T.gis_settled T.Fis_settled.kp T.kis_settled_case (fun r hl => kwPerm_vals r hl (by decide)) pass0 (pk_cons (pe_tup (pa_cons (pv 14) (pa_cons (pv 6) (pa_cons (pv 3) (pa_cons (pv 11) (pa_cons (pv 13) pa_nil)))))) pk_nil)) (pa_cons (pe_cmpR op_eq (pe_callB call_len_seq (by rfl) T.z_len (by decide +kernel) (pa_cons (pv 12) pa_nil)) pe_int (nomark _)) pa_nil)))))
                     (pss_one (ps_ret pe_bl))
                     pss_nil)
                     (pss_one (ps_if (pt_cmpR op_notBl (pe_call (okis_settled T) (hr.mono (by decide)) (by rfl) T.gis_settled T.Fis_settled.kp T.bis_settled .nil pass0 (pa_cons (pe_tup (pa_cons (pv 14) (pa_cons (pv 6) (pa_cons (pv 3) (pa_cons (pv 10) (pa_cons (pv 13) pa_nil)))))) pa_nil)) pe_bl (nomark _))
                      (pss_one (ps_ret pe_bl))
                      pss_nil)))))
                   (pss_one (ps_ret (pe_and (pe_cmpR op_isBl (pe_call (okis_settled T) (hr.mono (by decide)) (by rfl) T.gis_settled T.Fis_settled.kp T.bis_settled .nil pass0 (pa_cons (pv 9) pa_nil)) pe_bl (nomark _)) (pe_one (pe_call (ok_law_same T 2) (hr.mono (by decide)) (by rfl) T.g_law_same T.F_law_same.kp T.b_law_same .nil pass0 (pa_cons (pe_call0 (okstart_case T) (hr.mono (by decide)) (by rfl) T.gstart_case T.Fstart_case.kp T.bstart_case .nil pass0) (pa_cons (pv 9) pa_nil))))))))))))))))))))))), ?_⟩
    repeat walk_at "s"
    refine ⟨sc, ns, rfl, hS, fun a c H1 s1 F => ?_⟩
    repeat walk_at "s"
    refine ⟨a, c, 0, rfl, F, by omega, fun nl zs H2 hnl0 hnl lzs hzs g2 => ?_⟩
    have Z2 : Nms H2 a nl zs := ⟨hnl, lzs, hzs, by obtain ⟨xs, h⟩ := F.isl2; exact (ne_of_none h hnl0).symm⟩
    repeat walk_at "s"
    refine ⟨by walk_at "len", fun p3 h3 => ?_⟩
    have s3 := sm_new (o := .tup [.int 0, .int 1, .int 3, .int 40]) h3
    have e3 := upd_self h3 (.tup [.int 0, .int 1, .int 3, .int 40])
    generalize upd H2 p3 (.tup [.int 0, .int 1, .int 3, .int 40]) = H3 at s3 e3 ⊢
    have F3 := g2.fl.same s3
    have Z3 := Z2.same s3
    have p3a : p3 ≠ a := g2.fl.na h3
    repeat walk_at "s"
    refine ⟨a, c, 4, _, rfl, F3, by omega, by omega, by omega, fun d4 H4 d40 d41 g4 => ?_⟩
    obtain ⟨m4, hm4, m40, m41⟩ := pick_int (lo := 0) (hi := 40) d40 d41 (xs := [.int 0, .int 1, .int 3, .int 40]) (by decide +kernel)
    refine w_ixT (SqT.of (g4.at e3 p3a)) hm4 ?_
    have Z4 := Z3.go g4
    repeat walk_at "s"
    intro D5 hD5
    have D5a := g4.fl.na hD5
    have D5c := g4.fl.nc hD5
    refine lc_range (lo := 0) (n := m4.toNat) (fun i H5 => ∃ ys : List V, H5 D5 = some (.lst ys) ∧ ys.length = i ∧ (∀ y ∈ ys, TAt 3 H5 y) ∧ Go (12 + 35 * i) a c H4 H5) ⟨[], upd_same, rfl, (fun _ h => by cases h), (Go.refl (g4.fl.le (by omega))).new hD5⟩ ?_ ?_
    · rintro i H5 hi ⟨ys, e5, l5, a5, g5⟩
      repeat walk_at "s"
      refine ⟨a, c, nl, zs, _, rfl, g5.fl, by show _ + 35 < _; omega, Z4.go g5, fun t H6 T6 g6 => ?_⟩
      have e6 := g6.at e5 D5a
      refine ⟨ys, e6, small1000 (by omega), ys ++ [.ref t], upd_same, by rw [List.length_append, l5]; rfl, fun y hy => ?_, ((g5.trans g6).mut hD5 D5a D5c).le (by show _ + 35 ≤ _; omega)⟩
      have tk : Tk H6 (upd H6 D5 (.lst (ys ++ [.ref t]))) := Tk.lst e6
      rcases List.mem_append.mp hy with h | h
      · exact ((a5 y h).mono (g6.tk g5.fl)).mono tk
      · cases List.mem_singleton.mp h; exact T6.mono tk
    rintro H5 ⟨rs, e5, l5, a5, g5⟩
    have Z5 := Z4.go g5
    repeat walk_at "s"
    refine ⟨D5, rs, rfl, .inl ⟨SqL.of e5, fun rp hrp => ?_⟩⟩
    have s6 := sm_new (o := .tup rs) hrp
    have e6 := upd_self hrp (.tup rs)
    generalize upd H5 rp (.tup rs) = H6 at s6 e6 ⊢
    have F6 := g5.fl.same s6
    have Z6 := Z5.same s6
    have R6 : ∀ y ∈ rs, TAt 4 H6 y := fun y hy => ((a5 y hy).mono (Tk.same s6)).le (by omega)
    have lrs : rs.length ≤ 40 := by omega
    clear a5 e5 g5 s6 e3 g4 Z4 Z5 Z3 hm4 p3a F3
    repeat walk_at "s"
    refine ⟨a, c, nl, zs, _, _, rfl, F6.le (show _ ≤ 2000 by omega), by omega, Z6, fun dp xs ks H7 e7 D7 l7 g7 => ?_⟩
    have rp7 := g7.tk F6 _ _ e6
    have R7 : ∀ y ∈ rs, TAt 4 H7 y := fun y hy => (R6 y hy).mono (g7.tk F6)
    have Z7 := Z6.go g7
    have F7 := g7.fl
    clear R6 Z6 F6 e6 g7
    repeat walk_at "s"
    refine ⟨a, c, 4, _, rfl, F7, by omega, by omega, by omega, fun d8 H8 d80 d81 g8 => ?_⟩
    have rp8 := g8.tk F7 _ _ rp7
    have R8 : ∀ y ∈ rs, TAt 4 H8 y := fun y hy => (R7 y hy).mono (g8.tk F7)
    have dp8 := g8.tk F7 _ _ e7
    have D8 := D7.mono (g8.tk F7)
    have Z8 := Z7.go g8
    have F8 := g8.fl
    clear R7 rp7 e7 D7 Z7 F7 g8
    repeat walk_at "s"
    intro D9 hD9
    have D9a := F8.na hD9
    have D9c := F8.nc hD9
    refine lc_range (lo := 0) (n := d8.toNat) (fun i H9 => ∃ ys : List V, H9 D9 = some (.lst ys) ∧ ys.length = i ∧ Go (4001 + i) a c H8 H9) ⟨[], upd_same, rfl, (Go.refl F8).new hD9⟩ ?_ ?_
    · rintro i H9 hi ⟨ys, e9, l9, g9⟩
      repeat walk_at "s"
      refine ⟨a, c, 4, _, rfl, g9.fl, by omega, by omega, by omega, fun d10 H10 d100 d101 g10 => ?_⟩
      exact ⟨ys, g10.at e9 D9a, small1000 (by omega), ys ++ [.int d10], upd_same, by rw [List.length_append, l9]; rfl, ((g9.trans g10).mut hD9 D9a D9c).le (by omega)⟩
    rintro H9 ⟨sc9, e9, l9, g9⟩
    repeat walk_at "s"
    refine ⟨D9, sc9, rfl, .inl ⟨SqL.of e9, fun sp hsp => ?_⟩⟩
    have s10 := sm_new (o := .tup sc9) hsp
    generalize upd H9 sp (.tup sc9) = H10 at s10 ⊢
    have tk10 : Tk H8 H10 := (g9.tk F8).trans (Tk.same s10)
    have rp10 := tk10 _ _ rp8
    have R10 : ∀ y ∈ rs, TAt 4 H10 y := fun y hy => (R8 y hy).mono tk10
    have dp10 := tk10 _ _ dp8
    have D10 := D8.mono tk10
    have Z10 := (Z8.go g9).same s10
    have F10 := g9.fl.same s10
    have k10 : Kp a c nl rp dp zs rs xs ks H10 := ⟨F10.le (by omega), Z10, rp10, R10, dp10, D10⟩
    clear R8 rp8 dp8 D8 Z8 F8 g9 tk10 e9 s10 F10 Z10 rp10 R10 D10
    repeat walk_at "s"
    intro D11 hD11
    refine lc_range (lo := 0) (n := ((xs.length : Int)).toNat) (fun i H11 => ∃ ys : List V, H11 D11 = some (.lst ys) ∧ ys.length ≤ i ∧ Ops ks i ys ∧ Same H10 H11) ⟨[], upd_same, Nat.zero_le _, .inl ⟨rfl, fun j k h => by omega⟩, sm_new hD11⟩ ?_ ?_
    · rintro i H11 hi ⟨ys, e11, l11, o11, s11⟩
      have hix : i < xs.length := by omega
      obtain ⟨kk, hkk, qq, ii, t, r, ex, h1, h2, h3⟩ := k10.D.at' i _ (List.getElem?_eq_getElem hix)
      repeat walk_at "s"
      refine w_ixT (SqT.of (s11 _ _ k10.dp)) (by rw [show (0 : Int) + (i : Int) = (i : Int) by omega]; exact atI_nat ((List.getElem?_eq_getElem hix).trans (congrArg some ex))) ?_
      repeat walk_at "s"
      refine w_ixT (SqT.of (s11 _ _ h1)) (atI_nat (j := 1) rfl) ?_
      repeat walk_at "s"
      refine w_ixT (SqT.of (s11 _ _ h2)) (atI_nat (j := 0) rfl) ?_
      repeat walk_at "s"
      refine ite2 (fun h => ?_) (fun h => ?_)
      · have hne : kk ≠ "var" := fun e => by rw [decide_eq_true e] at h; cases h
        repeat walk_at "s"
        refine ⟨ys, e11, small1000 (by omega), ys ++ [.int (0 + (i : Nat))], upd_same, by rw [List.length_append, List.length_singleton]; omega, by rw [Int.zero_add]; exact o11.add hkk hne, fun b o h => by rw [upd_ne (ne_of_none h hD11)]; exact s11 b o h⟩
      · have he : kk = "var" := by
          by_cases e : kk = "var"
          · exact e
          · rw [decide_eq_false e] at h; exact absurd rfl h
        exact ⟨ys, e11, by omega, o11.skip hkk he, s11⟩
    rintro H11 ⟨op, e11, l11, o11, s11⟩
    obtain ⟨f, hf, Ff, -⟩ := o11.fst (by rw [← k10.D.len]; omega)
    have k11 := k10.same s11
    clear k10 s11 o11
    repeat walk_at "s"
    refine ⟨by walk_at "len", fun p12 h12 => ?_⟩
    have s12 := sm_new (o := .lst [.int (-1)]) h12
    refine ⟨D11, p12, _, _, rfl, rfl, s12 _ _ e11, upd_same, Nat.le_of_lt (small1000 (by rw [List.length_singleton]; omega)), fun p13 h13 => ?_⟩
    have s13 := s12.trans (sm_new (o := .lst (op ++ [.int (-1)])) h13)
    have e13 := upd_self h13 (.lst (op ++ [.int (-1)]))
    generalize upd (upd H11 p12 (.lst [.int (-1)])) p13 (.lst (op ++ [.int (-1)])) = H13 at s13 e13 ⊢
    have k13 := k11.same s13
    clear k11 s13 s12 h13
    repeat walk_at "s"
    refine w_ixL (SqL.of e13) hf ?_
    repeat walk_at "s"
    refine ⟨by walk_at "len", fun q1 h1 => ?_⟩
    repeat walk_at "s"
    refine ⟨by walk_at "len", fun q2 h2 => ?_⟩
    repeat walk_at "s"
    refine ⟨by walk_at "len", fun q3 h3 => ?_⟩
    repeat walk_at "s"
    refine ⟨by walk_at "len", fun q4 h4 => ?_⟩
    repeat walk_at "s"
    refine ⟨by walk_at "len", fun q5 h5 => ?_⟩
    have s1 := sm_new (o := .tup []) h1
    have s2 := sm_new (o := .tup []) h2
    have s3 := sm_new (o := .tup []) h3
    have s4 := sm_new (o := .tup []) h4
    have s5 := sm_new (o := .tup [.str "state", .ref q1, .ref q2, .ref q3, .ref q4]) h5
    have s14 := (((s1.trans s2).trans s3).trans s4).trans s5
    have ds14 : DAt (upd (upd (upd (upd (upd H13 q1 (.tup [])) q2 (.tup [])) q3 (.tup [])) q4 (.tup [])) q5 (.tup [.str "state", .ref q1, .ref q2, .ref q3, .ref q4])) (.ref q5) startD :=
      .tup upd_same (.cons (.str _) (.cons (.tup (s5 _ _ (s4 _ _ (s3 _ _ (s2 _ _ upd_same)))) .nil) (.cons (.tup (s5 _ _ (s4 _ _ (s3 _ _ upd_same))) .nil) (.cons (.tup (s5 _ _ (s4 _ _ upd_same)) .nil) (.cons (.tup (s5 _ _ upd_same) .nil) .nil)))))
    generalize upd (upd (upd (upd (upd H13 q1 (.tup [])) q2 (.tup [])) q3 (.tup [])) q4 (.tup [])) q5 (.tup [.str "state", .ref q1, .ref q2, .ref q3, .ref q4]) = H14 at s14 ds14 ⊢
    have k14 := k13.same s14
    clear k13 s14 s1 s2 s3 s4 s5
    repeat walk_at "s"
    refine ⟨rfl, fun p15 H15 s15 ds15 => ?_⟩
    repeat walk_at "s"
    refine ⟨_, _, _, rfl, ds15, ds14.mono (Tk.same s15), startD_q, fun H16 s16 => ?_⟩
    repeat walk_at "s"
    refine iteF ?_
    repeat walk_at "s"
    refine ⟨by walk_at "len", fun p17 h17 => ?_⟩
    repeat walk_at "s"
    refine ⟨p17, [], [], rfl, upd_same, Dems.nil, fun r18 H18 s18 f18 => ?_⟩
    have := f18.none'
    subst this
    repeat walk_at "s"
    refine ⟨_, _, _, rfl, .int _, .int _, isi_nn, fun H19 s19 => ?_⟩
    have s149 := (((s15.trans s16).trans (sm_new h17)).trans s18).trans s19
    have k19 := k14.same s149
    have ds19 := ds14.mono (Tk.same s149)
    clear k14 ds14 s149 s15 s16 s18 s19
    repeat walk_at "s"
    refine iteF ?_
    repeat walk_at "s"
    refine ⟨dp, xs, ks, rfl, k19.dp, k19.D, fun r20 H20 s20 f20 => ?_⟩
    have := f20.uniq Ff
    subst this
    repeat walk_at "s"
    refine ⟨_, _, _, rfl, .int _, .int _, isi_nn, fun H21 s21 => ?_⟩
    have k21 := k19.same (s20.trans s21)
    have ds21 := ds19.mono (Tk.same (s20.trans s21))
    clear k19 ds19 s20 s21
    repeat walk_at "s"
    refine iteF ?_
    repeat walk_at "s"
    obtain ⟨m, hm⟩ : ∃ m : Nat, (m : Int) = if r20 > 0 then r20 else 0 := ⟨(if r20 > 0 then r20 else 0).toNat, by split <;> omega⟩
    rw [← hm]
    refine w_slA k21.dp (fun pa H22 s22 ea => ?_)
    rw [cutV_pre] at ea
    have k22 := k21.same s22
    have ds22 := ds21.mono (Tk.same s22)
    have DA := k22.D.take m
    repeat walk_at "s"
    obtain ⟨m2, hm2⟩ : ∃ m2 : Nat, (m2 : Int) = r20 + 1 := ⟨(r20 + 1).toNat, by have := Ff.lo; omega⟩
    rw [← hm2]
    refine w_slA k22.dp (fun pb H23 s23 eb => ?_)
    rw [cutV_suf] at eb
    have k23 := k22.same s23
    have ds23 := ds22.mono (Tk.same s23)
    have DA23 := DA.mono (Tk.same s23)
    have ea23 := s23 _ _ ea
    have DB := k23.D.drop m2
    have lxb : (xs.drop m2).length ≤ 40 := by rw [List.length_drop]; omega
    clear k21 ds21 k22 ds22 s22 s23 DA ea dp10
    generalize xs.drop m2 = xb at eb DB lxb
    generalize ks.drop m2 = kb at DB
    repeat walk_at "s"
    intro D24 hD24
    refine lc_range (lo := 0) (n := ((xb.length : Int)).toNat) (fun i H11 => ∃ ys : List V, H11 D24 = some (.lst ys) ∧ ys.length ≤ i ∧ Ops kb i ys ∧ Same H23 H11) ⟨[], upd_same, Nat.zero_le _, .inl ⟨rfl, fun j k h => by omega⟩, sm_new hD24⟩ ?_ ?_
    · rintro i H11 hi ⟨ys, e11, l11, o11, s11⟩
      have hix : i < xb.length := by omega
      obtain ⟨kk, hkk, qq, ii, t, r, ex, h1, h2, h3⟩ := DB.at' i _ (List.getElem?_eq_getElem hix)
      repeat walk_at "s"
      refine w_ixT (SqT.of (s11 _ _ eb)) (by rw [show (0 : Int) + (i : Int) = (i : Int) by omega]; exact atI_nat ((List.getElem?_eq_getElem hix).trans (congrArg some ex))) ?_
      repeat walk_at "s"
      refine w_ixT (SqT.of (s11 _ _ h1)) (atI_nat (j := 1) rfl) ?_
      repeat walk_at "s"
      refine w_ixT (SqT.of (s11 _ _ h2)) (atI_nat (j := 0) rfl) ?_
      repeat walk_at "s"
      refine ite2 (fun h => ?_) (fun h => ?_)
      · have hne : kk ≠ "var" := fun e => by rw [decide_eq_true e] at h; cases h
        repeat walk_at "s"
        refine ⟨ys, e11, small1000 (by omega), ys ++ [.int (0 + (i : Nat))], upd_same, by rw [List.length_append, List.length_singleton]; omega, by rw [Int.zero_add]; exact o11.add hkk hne, fun b o h => by rw [upd_ne (ne_of_none h hD24)]; exact s11 b o h⟩
      · have he : kk = "var" := by
          by_cases e : kk = "var"
          · exact e
          · rw [decide_eq_false e] at h; exact absurd rfl h
        exact ⟨ys, e11, by omega, o11.skip hkk he, s11⟩
    rintro H24 ⟨rst, e24, l24, o24, s24⟩
    obtain ⟨fb, hfb, Fb, lenb⟩ := o24.fst (by rw [← DB.len]; omega)
    have D24a : D24 ≠ a := k23.F.na hD24
    have k24 := k23.same s24
    have ds24 := ds23.mono (Tk.same s24)
    have DA24 := DA23.mono (Tk.same s24)
    have ea24 := s24 _ _ ea23
    have DB24 := DB.mono (Tk.same s24)
    have eb24 := s24 _ _ eb
    clear k23 ds23 DA23 ea23 DB eb s24 o24
    repeat walk_at "s"
    refine ⟨rfl, pb, xb, kb, rfl, eb24, DB24, fun r25 H25 s25 f25 => ?_⟩
    have := f25.uniq Fb
    subst this
    have e25 := s25 _ _ e24
    repeat walk_at "s"
    refine ⟨by walk_at "len", fun p26 h26 => ?_⟩
    have s26 := sm_new (o := .lst [.int (-1)]) h26
    refine ⟨D24, p26, _, _, rfl, rfl, s26 _ _ e25, upd_same, Nat.le_of_lt (small1000 (by rw [List.length_singleton]; omega)), fun p27 h27 => ?_⟩
    have s27 := s26.trans (sm_new (o := .lst (rst ++ [.int (-1)])) h27)
    have e27 := upd_self h27 (.lst (rst ++ [.int (-1)]))
    generalize upd (upd H25 p26 (.lst [.int (-1)])) p27 (.lst (rst ++ [.int (-1)])) = H27 at s27 e27 ⊢
    repeat walk_at "s"
    refine w_ixL (SqL.of e27) hfb ?_
    repeat walk_at "s"
    refine ⟨_, _, _, rfl, .int _, .int _, isi_nn, fun H28 s28 => ?_⟩
    repeat walk_at "s"
    refine iteF ?_
    have s248 := (s25.trans s27).trans s28
    have k28 := k24.same s248
    have DA28 := DA24.mono (Tk.same s248)
    have ea28 := s248 _ _ ea24
    repeat walk_at "s"
    refine ⟨pa, _, _, rfl, ea28, DA28, fun r29 H29 s29 f29 => ?_⟩
    have := Ff.ahead hm f29
    subst this
    repeat walk_at "s"
    refine ⟨_, _, _, rfl, .int _, .int _, isi_nn, fun H30 s30 => ?_⟩
    have s2430 := s248.trans (s29.trans s30)
    have k30 := k24.same s2430
    have ds30 := ds24.mono (Tk.same s2430)
    have DA30 := DA24.mono (Tk.same s2430)
    have ea30 := s2430 _ _ ea24
    have DB30 := DB24.mono (Tk.same s2430)
    have eb30 := s2430 _ _ eb24
    have e30 := s2430 _ _ e24
    clear k24 ds24 DA24 ea24 DB24 eb24 e24 s2430 s248 s25 s26 s27 s28 s29 s30 e25 e27 k28 DA28 ea28 hfb hf
    repeat walk_at "s"
    refine iteF ?_
    repeat walk_at "s"
    refine ⟨a, c, nl, rp, dp, zs, _, rs, xs, ks, rfl, k30.F, by omega, k30.Z, k30.rp, k30.R, lrs, k30.dp, k30.D, l7, fun bp H31 g31 => ?_⟩
    have tk := g31.tk k30.F
    have dp31 := tk _ _ k30.dp
    have D31 := k30.D.mono tk
    have ds31 := ds30.mono tk
    have DA31 := DA30.mono tk
    have ea31 := tk _ _ ea30
    have DB31 := DB30.mono tk
    have eb31 := tk _ _ eb30
    have e31 := g31.at e30 D24a
    clear k30 ds30 DA30 ea30 DB30 eb30 e30 tk g31
    repeat walk_at "s"
    refine ⟨by walk_at "len", fun p32 h32 => ?_⟩
    have s32 := sm_new (o := .tup [.str "state", .str "move", .str "goal"]) h32
    have e32 := upd_self h32 (.tup [.str "state", .str "move", .str "goal"])
    generalize upd H31 p32 (.tup [.str "state", .str "move", .str "goal"]) = H32 at s32 e32 ⊢
    generalize [V.str "state", V.str "move", V.str "goal"] = stg at e32
    repeat walk_at "s"
    refine for_tup (K := K) (a := p32) (xs := stg) (fun i σ H33 => ∃ v14 : Option V, σ = [some (.ref sc), some (.ref a), some (.ref nl), some (.ref rp), none, some (.ref dp), some (.ref sp), some (.ref D11), some (.int r20), some (.ref q5), some (.ref pa), some (.ref pb), some (.ref D24), some (.ref bp), v14] ∧ Same H32 H33) ⟨none, rfl, Same.refl _⟩ (fun i σ H33 _ ⟨_, _, s33⟩ => SqT.of (s33 _ _ e32)) ?_ ?_
    · rintro i x σ H33 hi ⟨v14, rfl, s33⟩
      have S33 := s32.trans s33
      repeat walk_at "s"
      refine ⟨by walk_at "len", fun p1 h1 => ?_⟩
      have S34 := S33.trans (sm_new (o := .tup [x, .ref sp, .ref rp, .ref dp, .ref bp]) h1)
      refine ⟨p1, dp, _, _, _, _, xs, ks, rfl, upd_same, S34 _ _ dp31, D31.mono (Tk.same S34), fun r1 H35 s35 f1 => ?_⟩
      have := f1.uniq Ff
      subst this
      have S35 := S34.trans s35
      repeat walk_at "s"
      refine ⟨decide (r1 = -1), by rw [Ff.neg]; rfl, ?_⟩
      repeat walk_at "s"
      refine iteF ?_
      repeat walk_at "s"
      refine ⟨by walk_at "len", fun p2 h2 => ?_⟩
      have S36 := S35.trans (sm_new (o := .tup [x, .ref sp, .ref rp, .ref pb, .ref bp]) h2)
      repeat walk_at "s"
      refine ⟨rfl, p2, pb, _, _, _, _, xb, kb, rfl, upd_same, S36 _ _ eb31, DB31.mono (Tk.same S36), fun r2 H37 s37 f2 => ?_⟩
      have := f2.uniq Fb
      subst this
      have S37 := S36.trans s37
      have e37 := S37 _ _ e31
      repeat walk_at "s"
      refine ⟨decide (r2 = -1), by rw [lenb]; rfl, ?_⟩
      repeat walk_at "s"
      refine iteF ?_
      repeat walk_at "s"
      refine ⟨by walk_at "len", fun p3 h3 => ?_⟩
      have S38 := S37.trans (sm_new (o := .tup [x, .ref sp, .ref rp, .ref pa, .ref bp]) h3)
      repeat walk_at "s"
      refine ⟨p3, pa, _, _, _, _, _, _, rfl, upd_same, S38 _ _ ea31, DA31.mono (Tk.same S38), fun r3 H39 s39 f3 => ?_⟩
      have := Ff.ahead hm f3
      subst this
      repeat walk_at "s"
      refine w_if (by decide) ?_
      exact ⟨_, rfl, s33.trans ((sm_new h1).trans (s35.trans ((sm_new h2).trans (s37.trans ((sm_new h3).trans s39)))))⟩
    · rintro σ H33 ⟨v14, rfl, s33⟩
      have S33 := s32.trans s33
      have ds33 := ds31.mono (Tk.same S33)
      obtain ⟨w1, w2, w3, w4, hw, hw3⟩ := start_get ds33
      repeat walk_at "s"
      refine ⟨q5, w3, _, _, _, _, [], [], rfl, hw, hw3, Dems.nil, fun r34 H34 s34 f34 => ?_⟩
      have := f34.none'
      subst this
      repeat walk_at "s"
      refine w_it (by decide) ?_
      repeat walk_at "s"
      refine ⟨rfl, fun p35 H35 s35 ds35 => ?_⟩
      repeat walk_at "s"
      refine ⟨_, _, _, rfl, ds35, ds33.mono (Tk.same (s34.trans s35)), startD_q, fun H36 s36 => ?_⟩
      exact q _
end
theorem all_mk {l : PySem.W.OpenLaw} {w : World} {K : PySem.W.Frag} {h : Heap} {mg : Str → Option Value} {fa : Addr} (X : K.In h) (G : h.Ns mainGlobals mg) (hfa : mg "law" = some (.ref fa))
    {f0 f1 f2 f3 f4 f5 f6 f7 f8 f9 f10 f11 f12 f13 f14 f15 : Addr} {od0 an0 od1 an1 od2 an2 od3 an3 od4 an4 od5 an5 od6 an6 od7 an7 od8 an8 od9 an9 od10 an10 od11 an11 od12 an12 od13 an13 od14 an14 od15 an15 : Option Addr} {sl0 sl1 sl2 sl3 sl4 sl5 sl6 sl7 sl8 sl9 sl10 sl11 sl12 sl13 sl14 sl15 : Array (Option Value)}
    {oc0 kV0 dc0 pm0 cd0 ct0 oc1 kV1 dc1 pm1 cd1 ct1 oc2 kV2 dc2 pm2 cd2 ct2 oc3 kV3 dc3 pm3 cd3 ct3 oc4 kV4 dc4 pm4 cd4 ct4 oc5 kV5 dc5 pm5 cd5 ct5 oc6 kV6 dc6 pm6 cd6 ct6 oc7 kV7 dc7 pm7 cd7 ct7 oc8 kV8 dc8 pm8 cd8 ct8 oc9 kV9 dc9 pm9 cd9 ct9 oc10 kV10 dc10 pm10 cd10 ct10 oc11 kV11 dc11 pm11 cd11 ct11 oc12 kV12 dc12 pm12 cd12 ct12 oc13 kV13 dc13 pm13 cd13 ct13 oc14 kV14 dc14 pm14 cd14 ct14 oc15 kV15 dc15 pm15 cd15 ct15 : Value}
    (a0 : PySem.W.nsIn K mainGlobals "start_case" = some (some (.ref f0))) (l0 : K.lookup f0 = some ⟨oc0, od0, .func (PySem.W.fnOf "start_case" "start_case" (defArgs sstart_case) (defBody sstart_case) (defScope sstart_case) .none kV0 dc0 pm0 an0 cd0 ct0), sl0⟩) (c0 : PySem.W.codeIn K cd0 "start_case" = true) (k0 : PySem.W.keepIn K (.ref f0) = true)
    (a1 : PySem.W.nsIn K mainGlobals "next_demand" = some (some (.ref f1))) (l1 : K.lookup f1 = some ⟨oc1, od1, .func (PySem.W.fnOf "next_demand" "next_demand" (defArgs snext_demand) (defBody snext_demand) (defScope snext_demand) .none kV1 dc1 pm1 an1 cd1 ct1), sl1⟩) (c1 : PySem.W.codeIn K cd1 "next_demand" = true) (k1 : PySem.W.keepIn K (.ref f1) = true)
    (a2 : PySem.W.nsIn K mainGlobals "is_settled" = some (some (.ref f2))) (l2 : K.lookup f2 = some ⟨oc2, od2, .func (PySem.W.fnOf "is_settled" "is_settled" (defArgs sis_settled) (defBody sis_settled) (defScope sis_settled) .none kV2 dc2 pm2 an2 cd2 ct2), sl2⟩) (c2 : PySem.W.codeIn K cd2 "is_settled" = true) (k2 : PySem.W.keepIn K (.ref f2) = true)
    (a3 : PySem.W.nsIn K mainGlobals "_law_reader" = some (some (.ref f3))) (l3 : K.lookup f3 = some ⟨oc3, od3, .func (PySem.W.fnOf "_law_reader" "_law_reader" (defArgs s_law_reader) (defBody s_law_reader) (defScope s_law_reader) .none kV3 dc3 pm3 an3 cd3 ct3), sl3⟩) (c3 : PySem.W.codeIn K cd3 "_law_reader" = true) (k3 : PySem.W.keepIn K (.ref f3) = true)
    (a4 : PySem.W.nsIn K mainGlobals "_law_mixed" = some (some (.ref f4))) (l4 : K.lookup f4 = some ⟨oc4, od4, .func (PySem.W.fnOf "_law_mixed" "_law_mixed" (defArgs s_law_mixed) (defBody s_law_mixed) (defScope s_law_mixed) .none kV4 dc4 pm4 an4 cd4 ct4), sl4⟩) (c4 : PySem.W.codeIn K cd4 "_law_mixed" = true) (k4 : PySem.W.keepIn K (.ref f4) = true)
    (a5 : PySem.W.nsIn K mainGlobals "_law_draw" = some (some (.ref f5))) (l5 : K.lookup f5 = some ⟨oc5, od5, .func (PySem.W.fnOf "_law_draw" "_law_draw" (defArgs s_law_draw) (defBody s_law_draw) (defScope s_law_draw) .none kV5 dc5 pm5 an5 cd5 ct5), sl5⟩) (c5 : PySem.W.codeIn K cd5 "_law_draw" = true) (k5 : PySem.W.keepIn K (.ref f5) = true)
    (a6 : PySem.W.nsIn K mainGlobals "_law_names" = some (some (.ref f6))) (l6 : K.lookup f6 = some ⟨oc6, od6, .func (PySem.W.fnOf "_law_names" "_law_names" (defArgs s_law_names) (defBody s_law_names) (defScope s_law_names) .none kV6 dc6 pm6 an6 cd6 ct6), sl6⟩) (c6 : PySem.W.codeIn K cd6 "_law_names" = true) (k6 : PySem.W.keepIn K (.ref f6) = true)
    (a7 : PySem.W.nsIn K mainGlobals "_law_inside" = some (some (.ref f7))) (l7 : K.lookup f7 = some ⟨oc7, od7, .func (PySem.W.fnOf "_law_inside" "_law_inside" (defArgs s_law_inside) (defBody s_law_inside) (defScope s_law_inside) .none kV7 dc7 pm7 an7 cd7 ct7), sl7⟩) (c7 : PySem.W.codeIn K cd7 "_law_inside" = true) (k7 : PySem.W.keepIn K (.ref f7) = true)
    (a8 : PySem.W.nsIn K mainGlobals "_law_parts" = some (some (.ref f8))) (l8 : K.lookup f8 = some ⟨oc8, od8, .func (PySem.W.fnOf "_law_parts" "_law_parts" (defArgs s_law_parts) (defBody s_law_parts) (defScope s_law_parts) .none kV8 dc8 pm8 an8 cd8 ct8), sl8⟩) (c8 : PySem.W.codeIn K cd8 "_law_parts" = true) (k8 : PySem.W.keepIn K (.ref f8) = true)
    (a9 : PySem.W.nsIn K mainGlobals "_law_atom" = some (some (.ref f9))) (l9 : K.lookup f9 = some ⟨oc9, od9, .func (PySem.W.fnOf "_law_atom" "_law_atom" (defArgs s_law_atom) (defBody s_law_atom) (defScope s_law_atom) .none kV9 dc9 pm9 an9 cd9 ct9), sl9⟩) (c9 : PySem.W.codeIn K cd9 "_law_atom" = true) (k9 : PySem.W.keepIn K (.ref f9) = true)
    (a10 : PySem.W.nsIn K mainGlobals "_law_term" = some (some (.ref f10))) (l10 : K.lookup f10 = some ⟨oc10, od10, .func (PySem.W.fnOf "_law_term" "_law_term" (defArgs s_law_term) (defBody s_law_term) (defScope s_law_term) .none kV10 dc10 pm10 an10 cd10 ct10), sl10⟩) (c10 : PySem.W.codeIn K cd10 "_law_term" = true) (k10 : PySem.W.keepIn K (.ref f10) = true)
    (a11 : PySem.W.nsIn K mainGlobals "_law_same" = some (some (.ref f11))) (l11 : K.lookup f11 = some ⟨oc11, od11, .func (PySem.W.fnOf "_law_same" "_law_same" (defArgs s_law_same) (defBody s_law_same) (defScope s_law_same) .none kV11 dc11 pm11 an11 cd11 ct11), sl11⟩) (c11 : PySem.W.codeIn K cd11 "_law_same" = true) (k11 : PySem.W.keepIn K (.ref f11) = true)
    (a12 : PySem.W.nsIn K mainGlobals "_law_demands" = some (some (.ref f12))) (l12 : K.lookup f12 = some ⟨oc12, od12, .func (PySem.W.fnOf "_law_demands" "_law_demands" (defArgs s_law_demands) (defBody s_law_demands) (defScope s_law_demands) .none kV12 dc12 pm12 an12 cd12 ct12), sl12⟩) (c12 : PySem.W.codeIn K cd12 "_law_demands" = true) (k12 : PySem.W.keepIn K (.ref f12) = true)
    (a13 : PySem.W.nsIn K mainGlobals "_law_bound" = some (some (.ref f13))) (l13 : K.lookup f13 = some ⟨oc13, od13, .func (PySem.W.fnOf "_law_bound" "_law_bound" (defArgs s_law_bound) (defBody s_law_bound) (defScope s_law_bound) .none kV13 dc13 pm13 an13 cd13 ct13), sl13⟩) (c13 : PySem.W.codeIn K cd13 "_law_bound" = true) (k13 : PySem.W.keepIn K (.ref f13) = true)
    (a14 : PySem.W.nsIn K mainGlobals "_law_told" = some (some (.ref f14))) (l14 : K.lookup f14 = some ⟨oc14, od14, .func (PySem.W.fnOf "_law_told" "_law_told" (defArgs s_law_told) (defBody s_law_told) (defScope s_law_told) .none kV14 dc14 pm14 an14 cd14 ct14), sl14⟩) (c14 : PySem.W.codeIn K cd14 "_law_told" = true) (k14 : PySem.W.keepIn K (.ref f14) = true)
    (a15 : PySem.W.nsIn K mainGlobals "law" = some (some (.ref f15))) (l15 : K.lookup f15 = some ⟨oc15, od15, .func (PySem.W.fnOf "law" "law" (defArgs slaw) (defBody slaw) (defScope slaw) .none kV15 dc15 pm15 an15 cd15 ct15), sl15⟩) (c15 : PySem.W.codeIn K cd15 "law" = true) (k15 : PySem.W.keepIn K (.ref f15) = true)
    (z_abs : PySem.W.nsIn K mainGlobals "abs" = some none)
    (z_all : PySem.W.nsIn K mainGlobals "all" = some none)
    (z_bool : PySem.W.nsIn K mainGlobals "bool" = some none)
    (z_enumerate : PySem.W.nsIn K mainGlobals "enumerate" = some none)
    (z_int : PySem.W.nsIn K mainGlobals "int" = some none)
    (z_isinstance : PySem.W.nsIn K mainGlobals "isinstance" = some none)
    (z_len : PySem.W.nsIn K mainGlobals "len" = some none)
    (z_list : PySem.W.nsIn K mainGlobals "list" = some none)
    (z_max : PySem.W.nsIn K mainGlobals "max" = some none)
    (z_range : PySem.W.nsIn K mainGlobals "range" = some none)
    (z_str : PySem.W.nsIn K mainGlobals "str" = some none)
    (z_sum : PySem.W.nsIn K mainGlobals "sum" = some none)
    (z_tuple : PySem.W.nsIn K mainGlobals "tuple" = some none)
    : ∃ fd : FuncData, (∀ (s : Shared) (v : Value), BindsTo s fd ⟨[v], []⟩ [("script", v)]) ∧ ∀ base : Heap, K.In base → base.Ns mainGlobals mg → FnOk l.prog w K mg base CX0 8 fa fd ["script"] (spLaw K) := by
  have e := hfa.symm.trans (PySem.W.mg_of X G a15)
  cases e
  let T : Top K mg := {
    fstart_case := f0, dstart_case := _, Fstart_case := fun_mk (st := sstart_case) l0 c0 k0, gstart_case := PySem.W.mg_of X G a0, bstart_case := (fun_mk (st := sstart_case) l0 c0 k0).binds (ps := []) fun _ _ _ _ _ _ us hl => match us, hl with | [], _ => rfl,
    fnext_demand := f1, dnext_demand := _, Fnext_demand := fun_mk (st := snext_demand) l1 c1 k1, gnext_demand := PySem.W.mg_of X G a1, bnext_demand := (fun_mk (st := snext_demand) l1 c1 k1).binds (ps := ["demands"]) fun _ _ _ _ _ _ us hl => match us, hl with | [_], _ => rfl,
    fis_settled := f2, dis_settled := _, Fis_settled := fun_mk (st := sis_settled) l2 c2 k2, gis_settled := PySem.W.mg_of X G a2, bis_settled := (fun_mk (st := sis_settled) l2 c2 k2).binds (ps := ["case"]) fun _ _ _ _ _ _ us hl => match us, hl with | [_], _ => rfl,
    f_law_reader := f3, d_law_reader := _, F_law_reader := fun_mk (st := s_law_reader) l3 c3 k3, g_law_reader := PySem.W.mg_of X G a3, b_law_reader := (fun_mk (st := s_law_reader) l3 c3 k3).binds (ps := ["script"]) fun _ _ _ _ _ _ us hl => match us, hl with | [_], _ => rfl,
    f_law_mixed := f4, d_law_mixed := _, F_law_mixed := fun_mk (st := s_law_mixed) l4 c4 k4, g_law_mixed := PySem.W.mg_of X G a4, b_law_mixed := (fun_mk (st := s_law_mixed) l4 c4 k4).binds (ps := ["number", "turn", "many"]) fun _ _ _ _ _ _ us hl => match us, hl with | [_, _, _], _ => rfl,
    f_law_draw := f5, d_law_draw := _, F_law_draw := fun_mk (st := s_law_draw) l5 c5 k5, g_law_draw := PySem.W.mg_of X G a5, b_law_draw := (fun_mk (st := s_law_draw) l5 c5 k5).binds (ps := ["reader", "many"]) fun _ _ _ _ _ _ us hl => match us, hl with | [_, _], _ => rfl,
    f_law_names := f6, d_law_names := _, F_law_names := fun_mk (st := s_law_names) l6 c6 k6, g_law_names := PySem.W.mg_of X G a6, b_law_names := (fun_mk (st := s_law_names) l6 c6 k6).binds (ps := ["reader", "letters", "many"]) fun _ _ _ _ _ _ us hl => match us, hl with | [_, _, _], _ => rfl,
    f_law_inside := f7, d_law_inside := _, F_law_inside := fun_mk (st := s_law_inside) l7 c7 k7, g_law_inside := PySem.W.mg_of X G a7, b_law_inside := (fun_mk (st := s_law_inside) l7 c7 k7).binds (ps := ["term"]) fun _ _ _ _ _ _ us hl => match us, hl with | [_], _ => rfl,
    f_law_parts := f8, d_law_parts := _, F_law_parts := fun_mk (st := s_law_parts) l8 c8 k8, g_law_parts := PySem.W.mg_of X G a8, b_law_parts := (fun_mk (st := s_law_parts) l8 c8 k8).binds (ps := ["terms"]) fun _ _ _ _ _ _ us hl => match us, hl with | [_], _ => rfl,
    f_law_atom := f9, d_law_atom := _, F_law_atom := fun_mk (st := s_law_atom) l9 c9 k9, g_law_atom := PySem.W.mg_of X G a9, b_law_atom := (fun_mk (st := s_law_atom) l9 c9 k9).binds (ps := ["reader", "names"]) fun _ _ _ _ _ _ us hl => match us, hl with | [_, _], _ => rfl,
    f_law_term := f10, d_law_term := _, F_law_term := fun_mk (st := s_law_term) l10 c10 k10, g_law_term := PySem.W.mg_of X G a10, b_law_term := (fun_mk (st := s_law_term) l10 c10 k10).binds (ps := ["reader", "names", "depth"]) fun _ _ _ _ _ _ us hl => match us, hl with | [_, _, _], _ => rfl,
    f_law_same := f11, d_law_same := _, F_law_same := fun_mk (st := s_law_same) l11 c11 k11, g_law_same := PySem.W.mg_of X G a11, b_law_same := (fun_mk (st := s_law_same) l11 c11 k11).binds (ps := ["actual", "due"]) fun _ _ _ _ _ _ us hl => match us, hl with | [_, _], _ => rfl,
    f_law_demands := f12, d_law_demands := _, F_law_demands := fun_mk (st := s_law_demands) l12 c12 k12, g_law_demands := PySem.W.mg_of X G a12, b_law_demands := (fun_mk (st := s_law_demands) l12 c12 k12).binds (ps := ["reader", "names", "length"]) fun _ _ _ _ _ _ us hl => match us, hl with | [_, _, _], _ => rfl,
    f_law_bound := f13, d_law_bound := _, F_law_bound := fun_mk (st := s_law_bound) l13 c13 k13, g_law_bound := PySem.W.mg_of X G a13, b_law_bound := (fun_mk (st := s_law_bound) l13 c13 k13).binds (ps := ["reader", "names", "row", "demands"]) fun _ _ _ _ _ _ us hl => match us, hl with | [_, _, _, _], _ => rfl,
    f_law_told := f14, d_law_told := _, F_law_told := fun_mk (st := s_law_told) l14 c14 k14, g_law_told := PySem.W.mg_of X G a14, b_law_told := (fun_mk (st := s_law_told) l14 c14 k14).binds (ps := ["actual", "due"]) fun _ _ _ _ _ _ us hl => match us, hl with | [_, _], _ => rfl,
    flaw := fa, dlaw := _, Flaw := fun_mk (st := slaw) l15 c15 k15, glaw := PySem.W.mg_of X G a15, blaw := (fun_mk (st := slaw) l15 c15 k15).binds (ps := ["script"]) fun _ _ _ _ _ _ us hl => match us, hl with | [_], _ => rfl,
    knext_demand_demands := fun s ws hl => match ws, hl with | [w0], _ => .of_eq rfl,
    kis_settled_case := fun s ws hl => match ws, hl with | [w0], _ => .of_eq rfl,
    z_abs := PySem.W.mg_none_of X G z_abs, z_all := PySem.W.mg_none_of X G z_all, z_bool := PySem.W.mg_none_of X G z_bool, z_enumerate := PySem.W.mg_none_of X G z_enumerate, z_int := PySem.W.mg_none_of X G z_int, z_isinstance := PySem.W.mg_none_of X G z_isinstance, z_len := PySem.W.mg_none_of X G z_len, z_list := PySem.W.mg_none_of X G z_list, z_max := PySem.W.mg_none_of X G z_max, z_range := PySem.W.mg_none_of X G z_range, z_str := PySem.W.mg_none_of X G z_str, z_sum := PySem.W.mg_none_of X G z_sum, z_tuple := PySem.W.mg_none_of X G z_tuple }
  exact ⟨PySem.W.fnOf "law" "law" (defArgs slaw) (defBody slaw) (defScope slaw) .none kV15 dc15 pm15 an15 cd15 ct15, fun s v => .of_eq rfl, fun base _ _ => oklaw T⟩
end Mu
open PySem PySem.W PyProof.Rows
set_option maxHeartbeats 0 in
theorem PySem.Challenge.cw_muffline_k34_first_open_demand_holds : PySem.Challenge.rw_muffline_k34_first_open_demand.Holds := by
  w_on; o_law; k_head; (case hw => w_witness2)
  k_fill
  refine L2.walk_of (l := PySem.Challenge.rw_muffline_k34_first_open_demand) (n := 63) (k := 8) (x := "script") (CX := fun _ => L2.CX0) (sp := fun w => Mu.spLaw _) rfl (by decide) rfl ⟨rfl, by decide, by decide⟩ (fun w h Y => PySem.W.kIn_of Y) ?F (fun _ _ a ns hl _ hS => ⟨a, ns, rfl, hS, hl, fun _ => rfl⟩) (fun _ _ _ _ _ h => h)
  case F =>
    intro w mg fa h KX G hmg
    refine' Mu.all_mk KX G hmg ?a0 ?l0 ?c0 ?k0 ?a1 ?l1 ?c1 ?k1 ?a2 ?l2 ?c2 ?k2 ?a3 ?l3 ?c3 ?k3 ?a4 ?l4 ?c4 ?k4 ?a5 ?l5 ?c5 ?k5 ?a6 ?l6 ?c6 ?k6 ?a7 ?l7 ?c7 ?k7 ?a8 ?l8 ?c8 ?k8 ?a9 ?l9 ?c9 ?k9 ?a10 ?l10 ?c10 ?k10 ?a11 ?l11 ?c11 ?k11 ?a12 ?l12 ?c12 ?k12 ?a13 ?l13 ?c13 ?k13 ?a14 ?l14 ?c14 ?k14 ?a15 ?l15 ?c15 ?k15 ?z_abs ?z_all ?z_bool ?z_enumerate ?z_int ?z_isinstance ?z_len ?z_list ?z_max ?z_range ?z_str ?z_sum ?z_tuple
    (case a0 => k_is); (case l0 => k_is); (case c0 => k_is); (case k0 => k_is); (case a1 => k_is); (case l1 => k_is); (case c1 => k_is); (case k1 => k_is); (case a2 => k_is); (case l2 => k_is); (case c2 => k_is); (case k2 => k_is); (case a3 => k_is); (case l3 => k_is); (case c3 => k_is); (case k3 => k_is); (case a4 => k_is); (case l4 => k_is); (case c4 => k_is); (case k4 => k_is); (case a5 => k_is); (case l5 => k_is); (case c5 => k_is); (case k5 => k_is); (case a6 => k_is); (case l6 => k_is); (case c6 => k_is); (case k6 => k_is); (case a7 => k_is); (case l7 => k_is); (case c7 => k_is); (case k7 => k_is); (case a8 => k_is); (case l8 => k_is); (case c8 => k_is); (case k8 => k_is); (case a9 => k_is); (case l9 => k_is); (case c9 => k_is); (case k9 => k_is); (case a10 => k_is); (case l10 => k_is); (case c10 => k_is); (case k10 => k_is); (case a11 => k_is); (case l11 => k_is); (case c11 => k_is); (case k11 => k_is); (case a12 => k_is); (case l12 => k_is); (case c12 => k_is); (case k12 => k_is); (case a13 => k_is); (case l13 => k_is); (case c13 => k_is); (case k13 => k_is); (case a14 => k_is); (case l14 => k_is); (case c14 => k_is); (case k14 => k_is); (case a15 => k_is); (case l15 => k_is); (case c15 => k_is); (case k15 => k_is); (case z_abs => k_is); (case z_all => k_is); (case z_bool => k_is); (case z_enumerate => k_is); (case z_int => k_is); (case z_isinstance => k_is); (case z_len => k_is); (case z_list => k_is); (case z_max => k_is); (case z_range => k_is); (case z_str => k_is); (case z_sum => k_is); (case z_tuple => k_is)
