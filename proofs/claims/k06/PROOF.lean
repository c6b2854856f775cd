import PyProof.Rows.All
import Wide.All
import OpenK.AllK
import Wide.FinOn
import HandS.ForMost
import HandS.More
import HandS.Rev
import HandS.IsInst
import HandS.TupAny
import HandS.RaiseMore
import HandS.SetKeys
import HandS.SortKw
import HandS.Style
import HandS.StrMore
import KE.KRevSl
import HandS.Walk
import HandS.Conv
import HandS.TupLe
import HandS.Iter
import KE.GoesMore
import PyProof.Draws
import PySem.Challenge.RW_muffline_k06_free_atoms
set_option Elab.async false
set_option linter.all false
set_option maxRecDepth 100000
set_option maxHeartbeats 4000000
set_option pp.maxSteps 400
namespace Mu
open PySem PySem.Spec PyProof.Rows L2
/-! ### texts by their codes -/
def cd (z : Str) : List Nat := z.cps.toList
theorem cd_app (a b : Str) : cd (a ++ b) = cd a ++ cd b := by
  show (a.cps ++ b.cps).toList = _
  rw [Array.toList_append]; rfl
theorem cd_len (z : Str) : z.length = (cd z).length := by unfold cd Str.length; rw [Array.length_toList]
theorem cd_cut (z : Str) (lo hi : Option Int) : cd (cutS z lo hi) = ((cd z).drop (HT.sIx z.length 0 lo)).take (HT.sIx z.length z.length hi - HT.sIx z.length 0 lo) := rfl
theorem cd_pre (z : Str) (k : Nat) : cd (cutS z none (some (k : Int))) = (cd z).take k := by
  rw [cd_cut, HT.sIx_none, HT.sIx_nat, List.drop_zero, Nat.sub_zero, cd_len, ← List.take_eq_take_min]
theorem cd_suf (z : Str) (k : Nat) : cd (cutS z (some (k : Int)) none) = (cd z).drop k := by
  rw [cd_cut, HT.sIx_none, HT.sIx_nat, cd_len]
  by_cases h : k ≤ (cd z).length
  · rw [Nat.min_eq_left h]
    exact List.take_of_length_le (by rw [List.length_drop]; exact Nat.le_refl _)
  · rw [Nat.min_eq_right (by omega), Nat.sub_self, List.take_zero, List.drop_of_length_le (by omega)]
theorem join_cons2 (a x y : Str) (r : List Str) : Str.join a (x :: y :: r) = x ++ a ++ Str.join a (y :: r) := rfl
theorem cd_join (a : Str) : ∀ ys : List Str, cd (Txt.join a ys) = ((ys.map cd).intersperse (cd a)).flatten := by
  intro ys
  show cd (Builtin.Str.glued a ys) = _
  rw [StrLaws.glued_eq_join]
  induction ys with
  | nil => rfl
  | cons x r ih =>
    cases r with
    | nil => show cd x = cd x ++ []; rw [List.append_nil]
    | cons y r =>
      rw [join_cons2, cd_app, cd_app, ih]
      simp [List.intersperse, List.append_assoc]
theorem cd_join0 (ys : List Str) : cd (Txt.join "" ys) = ys.flatMap cd := by
  rw [cd_join, show cd "" = [] from rfl]
  induction ys with
  | nil => rfl
  | cons x r ih =>
    cases r with
    | nil => simp
    | cons y r =>
      simp only [List.map_cons, List.intersperse, List.flatten_cons, List.nil_append, List.flatMap_cons] at ih ⊢
      rw [ih]
theorem len_appS (a b : Str) : (a ++ b).length = a.length + b.length := by rw [cd_len, cd_len, cd_len, cd_app, List.length_append]
/-- a name: one to eight small letters -/
structure Nm (z : Str) : Prop where
  lo : 1 ≤ z.length
  hi : z.length ≤ 8
  az : ∀ c ∈ cd z, 97 ≤ c ∧ c ≤ 122
/-! ### data: texts, ints, None, tuples -/
mutual
inductive DAt (H : Hp) : V → PyData → Prop
  | str (x : Str) : DAt H (.str x) (.str x)
  | int (i : Int) : DAt H (.int i) (.int i)
  | non : DAt H .non .none
  | tup {a : Addr} {vs : List V} {ds : List PyData} : H a = some (.tup vs) → DsAt H vs ds → DAt H (.ref a) (.tuple ds)
inductive DsAt (H : Hp) : List V → List PyData → Prop
  | nil : DsAt H [] []
  | cons {v : V} {vs : List V} {d : PyData} {ds : List PyData} : DAt H v d → DsAt H vs ds → DsAt H (v :: vs) (d :: ds)
end
/-- tuples stay -/
def Tk (H H' : Hp) : Prop := ∀ a vs, H a = some (.tup vs) → H' a = some (.tup vs)
theorem Tk.refl (H : Hp) : Tk H H := fun _ _ h => h
theorem Tk.trans {H H1 H2 : Hp} (p : Tk H H1) (q : Tk H1 H2) : Tk H H2 := fun a vs h => q a vs (p a vs h)
theorem Tk.same {H H' : Hp} (s : Same H H') : Tk H H' := fun a vs h => s a _ h
theorem Tk.upd {H : Hp} {a : Addr} {o : HO} (n : ∀ vs, H a ≠ some (.tup vs)) : Tk H (L2.upd H a o) := fun b vs h => by
  have nb : b ≠ a := fun e => by subst e; exact n vs h
  rw [upd_ne nb]
  exact h
theorem Tk.new {H : Hp} {a : Addr} {o : HO} (n : H a = none) : Tk H (L2.upd H a o) := Tk.upd fun vs e => by rw [n] at e; cases e
theorem Tk.lst {H : Hp} {a : Addr} {o : HO} {xs : List V} (h : H a = some (.lst xs)) : Tk H (L2.upd H a o) := Tk.upd fun vs e => by rw [h] at e; cases e
mutual
theorem DAt.mono {H H' : Hp} (t : Tk H H') : ∀ {v d}, DAt H v d → DAt H' v d
  | _, _, .str x => .str x
  | _, _, .int i => .int i
  | _, _, .non => .non
  | _, _, .tup h r => .tup (t _ _ h) (DsAt.mono t r)
theorem DsAt.mono {H H' : Hp} (t : Tk H H') : ∀ {vs ds}, DsAt H vs ds → DsAt H' vs ds
  | _, _, .nil => .nil
  | _, _, .cons h r => .cons (DAt.mono t h) (DsAt.mono t r)
end
theorem DsAt.length {H : Hp} : ∀ {vs ds}, DsAt H vs ds → vs.length = ds.length
  | _, _, .nil => rfl
  | _, _, .cons _ r => congrArg (· + 1) (DsAt.length r)
/-! all that occurs: the tuples, each ahead of what it holds -/
/-! the written form -/
def isTup : PyData → Bool
  | .tuple _ => true
  | _ => false
/-! ### terms -/
inductive Vt : PyData → Prop
  | nm {k z : Str} (hk : k = "host" ∨ k = "word" ∨ k = "own") (hz : Nm z) : Vt (.tuple [.str k, .str z])
  | road {n : Nat} (h : n ≤ 999999) : Vt (.tuple [.str "road", .int n])
  | both {a b : Str} (ha : Nm a) (hb : Nm b) : Vt (.tuple [.str "both", .str a, .str b])
  | ms {k z : Str} {n : Nat} (hk : k = "mark" ∨ k = "var") (hn : n ≤ 9) (hz : Nm z) : Vt (.tuple [.str k, .int n, .str z])
  | two {k : Str} {a b : PyData} (hk : k = "pair" ∨ k = "lock") (ha : Vt a) (hb : Vt b) : Vt (.tuple [.str k, a, b])
  | dig {a : PyData} (ha : Vt a) : Vt (.tuple [.str "digest", a])
  | nmd {k z : Str} {a : PyData} (hk : k = "box" ∨ k = "stamp") (ha : Vt a) (hz : Nm z) : Vt (.tuple [.str k, a, .str z])
/-! ### sizes -/
theorem Vt.tup {d : PyData} (h : Vt d) : isTup d = true := by cases h <;> rfl
/-! ### pairs of an int and a text: their order -/
/-! ### sorted, whose keys are tuples of an int and a text (behind h_sortK) -/
/-! ### sorted(t, key=f): t a tuple or a list of objects, f an own def whose values are pairs of an int and a text -/
section
open PyProof.Rows
variable {X : Cx} {pins : List (Addr × Obj)} {σ : L2.St} {s : Shared} {H : Hp}
/-- key at i: an object of its own, the pair that g says of the item -/
def KeysAre (Hi : Hp) (g : Addr → Int × Str) (ks : List Value) (ts : List Addr) : Prop := Paired (fun (k : Value) (t : Addr) => ∃ p, k = .ref p ∧ Hi p = some (.tup [.int (g t).1, .str (g t).2])) ks ts
theorem KeysAre.mono {Hi Hj : Hp} {g : Addr → Int × Str} (sm : Same Hi Hj) : ∀ {ks : List Value} {ts : List Addr}, KeysAre Hi g ks ts → KeysAre Hj g ks ts
  | _, _, .nil => .nil
  | _, _, .cons ⟨p, e, h⟩ r => .cons ⟨p, e, sm _ _ h⟩ (KeysAre.mono sm r)
theorem KeysAre.len {Hi : Hp} {g : Addr → Int × Str} : ∀ {ks : List Value} {ts : List Addr}, KeysAre Hi g ks ts → ks.length = ts.length
  | _, _, .nil => rfl
  | _, _, .cons _ r => congrArg (· + 1) (KeysAre.len r)
end
/-! ### f(k = v, ..), nothing by position -/
def kwPermV (p : List Nat) (ws : List Value) : List Value := p.map fun i => ws.getD i .none
def kwPermX (p : List Nat) (zs : List V) : List V := p.map fun i => zs.getD i .non
theorem vals_getD : ∀ {zs : List V} {ws : List Value}, Vals zs ws → ∀ i, i < zs.length → RelV (zs.getD i .non) (ws.getD i .none)
  | _, _, .nil, i, h => absurd h (Nat.not_lt_zero _)
  | _, _, .cons h _, 0, _ => h
  | _, _, .cons _ r, i + 1, h => vals_getD r i (Nat.lt_of_succ_lt_succ h)
theorem kwPerm_vals {p : List Nat} {n : Nat} {zs : List V} {ws : List Value} (r : Vals zs ws) (hl : zs.length = n) (hp : p.all (· < n) = true) : Vals (kwPermX p zs) (kwPermV p ws) := by
  subst hl
  unfold kwPermX kwPermV
  induction p with
  | nil => exact .nil
  | cons i p ih =>
    rw [List.all_cons, Bool.and_eq_true] at hp
    exact .cons (vals_getD r i (of_decide_eq_true hp.1)) (ih hp.2)
section
variable {X : Cx} {CX : CXT} {k : Nat} {f : Addr} {fd : FuncData} {ps ks : List Str} {sp : Sp} {E : XK} {x : Str} {p pos : Pos} {kws : List Keyword} {tk : TA}
def tCallK0 (sp : Sp) (n : Nat) (gV : List V → List V) (E : XK) (tk : TA) : TE := fun σ H Q => tk σ H fun zs H2 => zs.length = n ∧ sp (gV zs) H2 Q E
theorem pe_callK0 {g : List Value → List Value} {gV : List V → List V} (F : FnOk X.prog X.w X.K X.mg X.base CX k f fd ps sp) (hr : Room k X.A) (hg : Gl X x) (hm : X.mg x = some (.ref f)) (hk : PySem.W.keepIn X.K (.ref f) = true)
    (hb : ∀ (s : Shared) (ws : List Value), ws.length = ks.length → BindsTo s fd ⟨[], ks.zip ws⟩ (ps.zip (g ws))) (hgl : ∀ {zs : List V} {ws : List Value}, Vals zs ws → zs.length = ks.length → Vals (gV zs) (g ws)) (hx : Passes CX X E)
    (hkw : PK X kws tk) (hall : (backToKw pos (keywordEach kws X.env)).all (·.1.isSome) = true := by rfl) (hks : (backToKw pos (keywordEach kws X.env)).filterMap (·.1) = ks := by rfl)
    (hdb : (x == ("__debug__" : Str)) = false := by decide) (hpl : ((backTo pos (starEach [] X.env)).any (·.1) || (backToKw pos (keywordEach kws X.env)).any (·.1.isNone)) = false := by rfl) :
    PE X (.Call (.Name x p) [] kws pos) (tCallK0 sp ks.length gV E tk) := by
  refine ⟨fun pins s σ H Q I h => ?_⟩
  refine wpAny_Call_Name_kw (ld_glob I hg hm ?_ hdb)
  refine PySem.W.callWith_KW0 (h₀ := X.base) I.ok.mod.kin hk hall (thn (hkw.run pos pins s σ H _ I h) fun ws s2 ⟨zs, H2, I2, rz, hl, q2⟩ => ⟨I2.kIn, ?_⟩) hpl
  rw [hks]
  have r2 := hgl rz hl
  refine wpAny_call (codeAny_mono (F.run X.A X.stack s2 H2 ⟨[], ks.zip ws⟩ (g ws) (gV zs) Q E hr I2.env0 (hb s2 ws (rz.length.symm.trans hl)) r2 q2) fun r s' hq => ?_)
  cases r with
  | error e => exact hx pins σ H2 s2 e s' I2 hq
  | ok fl =>
    cases fl with
    | ret u => exact I2.after hq
    | next => exact False.elim hq
    | brk => exact False.elim hq
    | cont => exact False.elim hq
end
/-! ### x < y of two tuples of one shape, ints and texts inside: told place by place -/
/-! ### t[::-1] of a tuple -/
def tRevT (K : PySem.W.Frag) (te : TE) : TE := fun σ H Q => te σ H fun x H1 => ∃ a xs, x = .ref a ∧ SqT K H1 a xs ∧ ∀ p, H1 p = none → Q (.ref p) (upd H1 p (.tup xs.reverse))
/-! ### enumerate(x): a new pair of place and item at each turn, from any source that the library can draw from -/
/-! enumerate(text) -/
def topS (i : Nat) : Stmt := PySem.Challenge.pw_muffline_k06_free_atoms.main.body.getD i (.Pass ⟨0, 0, 0, 0⟩)
abbrev sis_free : Stmt := topS 1
abbrev Nis_free : List Str := ["good", "atom", "kind"]
theorem scis_free : FnScope Nis_free ["good", "atom"] (defScope sis_free) := ⟨rfl, rfl, rfl, by decide +kernel, rfl, by decide +kernel, by decide +kernel⟩
abbrev s_law_flow : Stmt := topS 3
abbrev N_law_flow : List Str := ["script", "mixed", "cell"]
theorem sc_law_flow : FnScope N_law_flow ["script"] (defScope s_law_flow) := ⟨rfl, rfl, rfl, by decide +kernel, rfl, by decide +kernel, by decide +kernel⟩
abbrev s_law_load : Stmt := topS 4
abbrev N_law_load : List Str := ["flow", "cell"]
theorem sc_law_load : FnScope N_law_load ["flow"] (defScope s_law_load) := ⟨rfl, rfl, rfl, by decide +kernel, rfl, by decide +kernel, by decide +kernel⟩
abbrev s_law_draw : Stmt := topS 5
abbrev N_law_draw : List Str := ["flow", "many", "drawn"]
theorem sc_law_draw : FnScope N_law_draw ["flow", "many"] (defScope s_law_draw) := ⟨rfl, rfl, rfl, by decide +kernel, rfl, by decide +kernel, by decide +kernel⟩
abbrev s_law_pick : Stmt := topS 6
abbrev N_law_pick : List Str := ["flow", "things"]
theorem sc_law_pick : FnScope N_law_pick ["flow", "things"] (defScope s_law_pick) := ⟨rfl, rfl, rfl, by decide +kernel, rfl, by decide +kernel, by decide +kernel⟩
abbrev s_law_letter : Stmt := topS 7
abbrev N_law_letter : List Str := ["flow"]
theorem sc_law_letter : FnScope N_law_letter ["flow"] (defScope s_law_letter) := ⟨rfl, rfl, rfl, by decide +kernel, rfl, by decide +kernel, by decide +kernel⟩
abbrev s_law_name : Stmt := topS 8
abbrev N_law_name : List Str := ["flow", "k"]
theorem sc_law_name : FnScope N_law_name ["flow"] (defScope s_law_name) := ⟨rfl, rfl, rfl, by decide +kernel, rfl, by decide +kernel, by decide +kernel⟩
abbrev s_law_near : Stmt := topS 9
abbrev N_law_near : List Str := ["flow", "name", "at", "kind"]
theorem sc_law_near : FnScope N_law_near ["flow", "name"] (defScope s_law_near) := ⟨rfl, rfl, rfl, by decide +kernel, rfl, by decide +kernel, by decide +kernel⟩
abbrev s_law_names : Stmt := topS 10
abbrev N_law_names : List Str := ["flow", "many", "names", "k"]
theorem sc_law_names : FnScope N_law_names ["flow", "many"] (defScope s_law_names) := ⟨rfl, rfl, rfl, by decide +kernel, rfl, by decide +kernel, by decide +kernel⟩
abbrev s_law_good : Stmt := topS 11
abbrev N_law_good : List Str := ["flow", "names", "good", "name", "k", "ascending"]
theorem sc_law_good : FnScope N_law_good ["flow", "names"] (defScope s_law_good) := ⟨rfl, rfl, rfl, by decide +kernel, rfl, by decide +kernel, by decide +kernel⟩
abbrev s_law_says : Stmt := topS 12
abbrev N_law_says : List Str := ["good", "term", "due", "actual"]
theorem sc_law_says : FnScope N_law_says ["good", "term", "due"] (defScope s_law_says) := ⟨rfl, rfl, rfl, by decide +kernel, rfl, by decide +kernel, by decide +kernel⟩
abbrev s_law_composed : Stmt := topS 13
abbrev N_law_composed : List Str := ["term", "name"]
theorem sc_law_composed : FnScope N_law_composed ["term", "name"] (defScope s_law_composed) := ⟨rfl, rfl, rfl, by decide +kernel, rfl, by decide +kernel, by decide +kernel⟩
abbrev s_law_name_right : Stmt := topS 14
abbrev N_law_name_right : List Str := ["flow", "good", "name", "session", "bad", "cases", "term", "due", "whole"]
theorem sc_law_name_right : FnScope N_law_name_right ["flow", "good", "name"] (defScope s_law_name_right) := ⟨rfl, rfl, rfl, by decide +kernel, rfl, by decide +kernel, by decide +kernel⟩
abbrev s_law_keys_right : Stmt := topS 15
abbrev N_law_keys_right : List Str := ["good", "names", "one", "two", "due"]
theorem sc_law_keys_right : FnScope N_law_keys_right ["good", "names"] (defScope s_law_keys_right) := ⟨rfl, rfl, rfl, by decide +kernel, rfl, by decide +kernel, by decide +kernel⟩
abbrev slaw : Stmt := topS 16
abbrev Nlaw : List Str := ["script", "flow", "names", "good", "everyone", "name", "number", "half"]
theorem sclaw : FnScope Nlaw ["script"] (defScope slaw) := ⟨rfl, rfl, rfl, by decide +kernel, rfl, by decide +kernel, by decide +kernel⟩
structure Top (K : PySem.W.Frag) (mg : Str → Option Value) where
  fis_free : Addr
  dis_free : FuncData
  Fis_free : Fun K "is_free" "is_free" sis_free fis_free dis_free
  bis_free : Binds K dis_free ["good", "atom"] []
  gis_free : mg "is_free" = some (.ref fis_free)
  f_law_flow : Addr
  d_law_flow : FuncData
  F_law_flow : Fun K "_law_flow" "_law_flow" s_law_flow f_law_flow d_law_flow
  b_law_flow : Binds K d_law_flow ["script"] []
  g_law_flow : mg "_law_flow" = some (.ref f_law_flow)
  f_law_load : Addr
  d_law_load : FuncData
  F_law_load : Fun K "_law_load" "_law_load" s_law_load f_law_load d_law_load
  b_law_load : Binds K d_law_load ["flow"] []
  g_law_load : mg "_law_load" = some (.ref f_law_load)
  f_law_draw : Addr
  d_law_draw : FuncData
  F_law_draw : Fun K "_law_draw" "_law_draw" s_law_draw f_law_draw d_law_draw
  b_law_draw : Binds K d_law_draw ["flow", "many"] []
  g_law_draw : mg "_law_draw" = some (.ref f_law_draw)
  f_law_pick : Addr
  d_law_pick : FuncData
  F_law_pick : Fun K "_law_pick" "_law_pick" s_law_pick f_law_pick d_law_pick
  b_law_pick : Binds K d_law_pick ["flow", "things"] []
  g_law_pick : mg "_law_pick" = some (.ref f_law_pick)
  f_law_letter : Addr
  d_law_letter : FuncData
  F_law_letter : Fun K "_law_letter" "_law_letter" s_law_letter f_law_letter d_law_letter
  b_law_letter : Binds K d_law_letter ["flow"] []
  g_law_letter : mg "_law_letter" = some (.ref f_law_letter)
  f_law_name : Addr
  d_law_name : FuncData
  F_law_name : Fun K "_law_name" "_law_name" s_law_name f_law_name d_law_name
  b_law_name : Binds K d_law_name ["flow"] []
  g_law_name : mg "_law_name" = some (.ref f_law_name)
  f_law_near : Addr
  d_law_near : FuncData
  F_law_near : Fun K "_law_near" "_law_near" s_law_near f_law_near d_law_near
  b_law_near : Binds K d_law_near ["flow", "name"] []
  g_law_near : mg "_law_near" = some (.ref f_law_near)
  f_law_names : Addr
  d_law_names : FuncData
  F_law_names : Fun K "_law_names" "_law_names" s_law_names f_law_names d_law_names
  b_law_names : Binds K d_law_names ["flow", "many"] []
  g_law_names : mg "_law_names" = some (.ref f_law_names)
  f_law_good : Addr
  d_law_good : FuncData
  F_law_good : Fun K "_law_good" "_law_good" s_law_good f_law_good d_law_good
  b_law_good : Binds K d_law_good ["flow", "names"] []
  g_law_good : mg "_law_good" = some (.ref f_law_good)
  f_law_says : Addr
  d_law_says : FuncData
  F_law_says : Fun K "_law_says" "_law_says" s_law_says f_law_says d_law_says
  b_law_says : Binds K d_law_says ["good", "term", "due"] []
  g_law_says : mg "_law_says" = some (.ref f_law_says)
  f_law_composed : Addr
  d_law_composed : FuncData
  F_law_composed : Fun K "_law_composed" "_law_composed" s_law_composed f_law_composed d_law_composed
  b_law_composed : Binds K d_law_composed ["term", "name"] []
  g_law_composed : mg "_law_composed" = some (.ref f_law_composed)
  f_law_name_right : Addr
  d_law_name_right : FuncData
  F_law_name_right : Fun K "_law_name_right" "_law_name_right" s_law_name_right f_law_name_right d_law_name_right
  b_law_name_right : Binds K d_law_name_right ["flow", "good", "name"] []
  g_law_name_right : mg "_law_name_right" = some (.ref f_law_name_right)
  f_law_keys_right : Addr
  d_law_keys_right : FuncData
  F_law_keys_right : Fun K "_law_keys_right" "_law_keys_right" s_law_keys_right f_law_keys_right d_law_keys_right
  b_law_keys_right : Binds K d_law_keys_right ["good", "names"] []
  g_law_keys_right : mg "_law_keys_right" = some (.ref f_law_keys_right)
  flaw : Addr
  dlaw : FuncData
  Flaw : Fun K "law" "law" slaw flaw dlaw
  blaw : Binds K dlaw ["script"] []
  glaw : mg "law" = some (.ref flaw)
  kis_free_atom_good : ∀ (s : Shared) (ws : List Value), ws.length = (["atom", "good"] : List Str).length → BindsTo s dis_free ⟨[], (["atom", "good"] : List Str).zip ws⟩ ((["good", "atom"] : List Str).zip (kwPermV [1, 0] ws))
  kis_free_good_atom : ∀ (s : Shared) (ws : List Value), ws.length = (["good", "atom"] : List Str).length → BindsTo s dis_free ⟨[], (["good", "atom"] : List Str).zip ws⟩ ((["good", "atom"] : List Str).zip (kwPermV [0, 1] ws))
  z_abs : mg "abs" = none
  z_int : mg "int" = none
  z_len : mg "len" = none
  z_list : mg "list" = none
  z_max : mg "max" = none
  z_range : mg "range" = none
  z_sorted : mg "sorted" = none
  z_str : mg "str" = none
  z_tuple : mg "tuple" = none
/-! ### the hand's short words -/
/-- all but what stands at a is as it was -/
def Fr (a : Addr) (H H' : Hp) : Prop := ∀ x o, H x = some o → x ≠ a → H' x = some o
theorem Fr.refl (a : Addr) (H : Hp) : Fr a H H := fun _ _ h _ => h
theorem Fr.trans {a : Addr} {H H1 H2 : Hp} (p : Fr a H H1) (q : Fr a H1 H2) : Fr a H H2 := fun x o h n => q x o (p x o h n) n
theorem Fr.upd {a : Addr} {o : HO} (H : Hp) : Fr a H (L2.upd H a o) := fun x u h n => by rw [upd_ne n]; exact h
theorem Fr.new {a p : Addr} {o : HO} {H : Hp} (h : H p = none) : Fr a H (L2.upd H p o) := fun x u e _ => by rw [upd_ne (ne_of_none e h)]; exact e
theorem Fr.same {a : Addr} {H H' : Hp} (h : Same H H') : Fr a H H' := fun x o e _ => h x o e
theorem ofb {b : Bool} (h : ¬ b = true) : b = false := by cases b with | true => exact absurd rfl h | false => rfl
theorem at_ok {α : Type} {xs : List α} {p : Int} (h0 : 0 ≤ p) (h1 : p < (xs.length : Int)) : ∃ z, atI xs p = some z ∧ z ∈ xs := by
  obtain ⟨j, rfl⟩ : ∃ j : Nat, p = (j : Int) := ⟨p.toNat, by omega⟩
  have hj : j < xs.length := by omega
  exact ⟨xs[j], atI_nat (List.getElem?_eq_getElem hj), List.getElem_mem hj⟩
theorem at_map {α β : Type} {f : α → β} {xs : List α} {p : Int} (h0 : 0 ≤ p) (h1 : p < (xs.length : Int)) : ∃ z, z ∈ xs ∧ atI (xs.map f) p = some (f z) := by
  obtain ⟨z, hz, hm⟩ := at_ok (xs := xs.map f) h0 (by rw [List.length_map]; exact h1)
  obtain ⟨y, hy, rfl⟩ := List.mem_map.mp hm
  exact ⟨y, hy, hz⟩
/-! ### one step of a reading -/
section
variable {σ : L2.St} {H : Hp} {Q : VK} {D : Ends} {K : PySem.W.Frag}
theorem w_var {i : Nat} {v : V} (h : σ[i]? = some (some v)) (q : Q v H) : tVar i σ H Q := ⟨v, h, q⟩
theorem w_c {v : V} (q : Q v H) : tC v σ H Q := q
theorem w_op {r : R2} {ta tb : TE} (q : ta σ H fun x H1 => tb σ H1 fun y H2 => r x y H2 Q) : tOp r ta tb σ H Q := q
theorem w_un {r : V → Hp → VK → Prop} {ta : TE} (q : ta σ H fun x H1 => r x H1 Q) : tUn r ta σ H Q := q
theorem w_cb {r : List V → Hp → VK → Prop} {t : TA} (q : t σ H fun vs H1 => r vs H1 Q) : tCB r t σ H Q := q
theorem w_cons {ta : TE} {tr : TA} {R : List V → Hp → Prop} (q : ta σ H fun x H1 => tr σ H1 fun xs H2 => R (x :: xs) H2) : tCons ta tr σ H R := q
theorem w_nil {R : List V → Hp → Prop} (q : R [] H) : tNil σ H R := q
theorem w_seq {t u : TS} (q : t { D with nx := u D } σ H) : tSeq t u D σ H := q
theorem w_next (q : D.nx σ H) : tNext D σ H := q
theorem w_asg {te : TE} {g : TG} (q : te σ H fun x H1 => g x σ H1 D.nx) : tAsg te g D σ H := q
theorem w_gname {i : Nat} {v : V} {R : L2.St → Hp → Prop} (q : R (σ.set i (some v)) H) : gName i v σ H R := q
theorem w_gsub {to ti : TE} {t : TSet} {v : V} {R : L2.St → Hp → Prop} (q : to σ H fun o H1 => ti σ H1 fun i H2 => t o i v H2 fun H3 => R σ H3) : gSub to ti t v σ H R := q
theorem w_drop {te : TE} (q : te σ H fun _ H1 => D.nx σ H1) : tDrop te D σ H := q
theorem w_ret {te : TE} (q : te σ H D.rt) : tRet te D σ H := q
theorem w_retN (q : D.rt .non H) : tRetN D σ H := q
theorem w_ifs {c : TT} {t u : TS} (q : c σ H fun b H1 => if b = true then t D σ H1 else u D σ H1) : tIfS c t u D σ H := q
theorem w_test {te : TE} {R : Bool → Hp → Prop} (q : te σ H fun x H' => ∃ k, x = .bl k ∧ R k H') : tTest te σ H R := q
theorem w_tB {te : TE} {R : Bool → Hp → Prop} (q : te σ H fun x H' => ∃ k, x = .bl k ∧ R k H') : tB te σ H R := q
theorem w_and {t u : TT} {R : Bool → Hp → Prop} (q : t σ H fun c H1 => if c = true then u σ H1 R else R false H1) : tAnd t u σ H R := q
theorem w_or {t u : TT} {R : Bool → Hp → Prop} (q : t σ H fun c H1 => if c = true then R true H1 else u σ H1 R) : tOr t u σ H R := q
theorem w_not {t : TT} {R : Bool → Hp → Prop} (q : t σ H fun c H1 => R (!c) H1) : tNot t σ H R := q
theorem w_k {k : Bool} {R : Bool → Prop} (q : R k) : ∃ k', V.bl k = .bl k' ∧ R k' := ⟨k, rfl, q⟩
theorem w_I0 {g : Int → Int → V} {i j : Int} (q : Q (g i j) H) : rI0 g (.int i) (.int j) H Q := ⟨i, j, rfl, rfl, q⟩
theorem w_I {C : Int → Int → Prop} {g : Int → Int → V} {i j : Int} (c : C i j) (q : Q (g i j) H) : rI C g (.int i) (.int j) H Q := ⟨i, j, rfl, rfl, c, q⟩
theorem w_U {g : Int → V} {i : Int} (q : Q (g i) H) : rU g (.int i) H Q := ⟨i, rfl, q⟩
theorem w_eqI {i j : Int} (q : Q (.bl (decide (i = j))) H) : rEq (.int i) (.int j) H Q := ⟨rfl, by
  rw [show decide (V.int i = V.int j) = decide (i = j) from decide_eq_decide.mpr ⟨fun e => V.int.inj e, fun e => e ▸ rfl⟩]
  exact q⟩
theorem w_neI {i j : Int} (q : Q (.bl (!decide (i = j))) H) : rNe (.int i) (.int j) H Q := ⟨rfl, by
  rw [show decide (V.int i = V.int j) = decide (i = j) from decide_eq_decide.mpr ⟨fun e => V.int.inj e, fun e => e ▸ rfl⟩]
  exact q⟩
theorem w_eqS {i j : Str} (q : Q (.bl (decide (i = j))) H) : rEq (.str i) (.str j) H Q := ⟨rfl, by
  rw [show decide (V.str i = V.str j) = decide (i = j) from decide_eq_decide.mpr ⟨fun e => V.str.inj e, fun e => e ▸ rfl⟩]
  exact q⟩
theorem w_neS {i j : Str} (q : Q (.bl (!decide (i = j))) H) : rNe (.str i) (.str j) H Q := ⟨rfl, by
  rw [show decide (V.str i = V.str j) = decide (i = j) from decide_eq_decide.mpr ⟨fun e => V.str.inj e, fun e => e ▸ rfl⟩]
  exact q⟩
theorem w_ixL {p : Addr} {xs : List V} {i : Int} {v : V} (h : SqL K H p xs) (e : atI xs i = some v) (q : Q v H) : rIxL K (.ref p) (.int i) H Q := ⟨p, xs, i, v, rfl, rfl, h, e, q⟩
theorem w_ixT {p : Addr} {xs : List V} {i : Int} {v : V} (h : SqT K H p xs) (e : atI xs i = some v) (q : Q v H) : rIxT K (.ref p) (.int i) H Q := ⟨p, xs, i, v, rfl, rfl, h, e, q⟩
theorem w_setL {p : Addr} {xs : List V} {k : Int} {j : Nat} {v : V} {R : Hp → Prop} (h : H p = some (.lst xs)) (e : ixN xs.length k = some j) (q : R (upd H p (.lst (xs.set j v)))) : rSetL (.ref p) (.int k) v H R := ⟨p, xs, k, j, rfl, rfl, h, e, q⟩
theorem w_call {sp : Sp} {dvs : List V} {E : XK} {t : TA} (q : t σ H fun vs H1 => sp (vs ++ dvs) H1 Q E) : tCall sp dvs E t σ H Q := q
theorem w_tup {t : TA} (q : t σ H fun xs H1 => xs.length ≤ sizeLine ∧ ∀ p, H1 p = none → Q (.ref p) (upd H1 p (.tup xs))) : tTup t σ H Q := q
theorem w_lst {t : TA} (q : t σ H fun xs H1 => xs.length ≤ sizeLine ∧ ∀ p, H1 p = none → Q (.ref p) (upd H1 p (.lst xs))) : tLst t σ H Q := q
theorem w_int {i : Int} {C : Prop} {R : Int → Prop} (q : R i) : (∃ j, [V.int i] = [.int j] ∧ R j) ∨ C := .inl ⟨i, rfl, q⟩
theorem w_bm {T : String} {r : V → List V → Hp → VK → Prop} {to : TE} {t : TA} (q : to σ H fun x H1 => tyV K T x H1 ∧ t σ H1 fun xs H2 => r x xs H2 Q) : tBM K T r to t σ H Q := q
theorem w_bm0 {T : String} {r : V → List V → Hp → VK → Prop} {to : TE} (q : to σ H fun x H1 => tyV K T x H1 ∧ r x [] H1 Q) : tBM0 K T r to σ H Q := q
theorem w_append {l : Addr} {xs : List V} {y : V} (h : H l = some (.lst xs)) (n : xs.length < sizeLine) (q : Q .non (upd H l (.lst (xs ++ [y])))) : rAppend (.ref l) [y] H Q := ⟨l, xs, y, rfl, rfl, h, n, q⟩
theorem ty_l {l : Addr} {xs : List V} (h : H l = some (.lst xs)) : tyV K "list" (.ref l) H := Or.inl ⟨rfl, _, Or.inl (Or.inl h)⟩
theorem w_tyl {l : Addr} {xs : List V} {C : Prop} (h : H l = some (.lst xs)) (q : C) : tyV K "list" (.ref l) H ∧ C := ⟨ty_l h, q⟩
theorem w_sl {r : V → Option Int → Option Int → Hp → VK → Prop} {te : TE} {tl th : TO} (q : te σ H fun x H1 => tl σ H1 fun l H2 => th σ H2 fun u H3 => r x l u H3 Q) : tSl r te tl th σ H Q := q
theorem w_no {R : Option Int → Hp → Prop} (q : R none H) : tNoPart σ H R := q
theorem w_part {t : TE} {R : Option Int → Hp → Prop} (q : t σ H fun x H1 => ∃ i, x = .int i ∧ R (some i) H1) : tPart t σ H R := q
theorem w_pi {i : Int} {R : Int → Prop} (q : R i) : ∃ j, V.int i = .int j ∧ R j := ⟨i, rfl, q⟩
theorem w_slS {z : Str} {lo hi : Option Int} (n : z.length ≤ sizeLine) (q : Q (.str (cutS z lo hi)) H) : rSlS (.str z) lo hi H Q := ⟨z, rfl, n, q⟩
theorem w_m1 {r : V → List V → Hp → VK → Prop} {to te : TE} (q : to σ H fun x H1 => (∃ a, x = .str a) ∧ te σ H1 fun y H2 => r x [y] H2 Q) : tM1 r to te σ H Q := q
theorem w_s {z : Str} {C : Prop} (q : C) : (∃ a, V.str z = .str a) ∧ C := ⟨⟨z, rfl⟩, q⟩
theorem w_len {p : Addr} {ys : List V} {R : List V → Prop} (h : SqL K H p ys) (q : R ys) : ∃ p' ys', [V.ref p] = [V.ref p'] ∧ (SqL K H p' ys' ∨ SqT K H p' ys') ∧ R ys' := ⟨p, ys, rfl, .inl h, q⟩
theorem w_lenT {p : Addr} {ys : List V} {R : List V → Prop} (h : SqT K H p ys) (q : R ys) : ∃ p' ys', [V.ref p] = [V.ref p'] ∧ (SqL K H p' ys' ∨ SqT K H p' ys') ∧ R ys' := ⟨p, ys, rfl, .inr h, q⟩
theorem w_lenS {z : Str} {R : Str → Prop} (n : z.length ≤ sizeLine) (q : R z) : ∃ z', [V.str z] = [V.str z'] ∧ z'.length ≤ sizeLine ∧ R z' := ⟨z, rfl, n, q⟩
theorem w_one {i : Int} {R : Int → Prop} (q : R i) : ∃ j, [V.int i] = [V.int j] ∧ R j := ⟨i, rfl, q⟩
theorem w_two {i j : Int} {R : Int → Int → Prop} (q : R i j) : ∃ i' j', [V.int i, V.int j] = [V.int i', V.int j'] ∧ R i' j' := ⟨i, j, rfl, q⟩
theorem w_for {wi : TI} {g : TG} {tb : TS} (q : wi σ H fun J H1 => ∃ W : Nat → Nat → L2.St → Hp → Prop, (∃ m, W 0 m σ H1) ∧ ∀ i m σ H, W i m σ H → (J.stop i H ∧ D.nx σ H) ∨ (J.go i H ∧ ∃ N : L2.St → Hp → Prop, (∀ σ' H', N σ' H' → ∃ m', m' < m ∧ W (i + 1) m' σ' H') ∧ ∀ x H', J.yld i H x H' → g x σ H' fun σ2 H2 => tb { D with nx := N, ct := N, bk := D.nx } σ2 H2)) : tFor wi g tb D σ H := q
theorem w_iList {tl : TE} {R : It → Hp → Prop} (q : tl σ H fun x H1 => ∃ a, x = .ref a ∧ (∃ xs, SqL K H1 a xs) ∧ R (Itl K a) H1) : iList K tl σ H R := q
theorem w_iTup {tl : TE} {R : It → Hp → Prop} (q : tl σ H fun x H1 => ∃ a, x = .ref a ∧ (∃ xs, SqT K H1 a xs) ∧ R (Itt K a) H1) : iTup K tl σ H R := q
theorem w_itl {a : Addr} {xs : List V} {R : Addr → Prop} (h : SqL K H a xs) (q : R a) : ∃ a', V.ref a = .ref a' ∧ (∃ xs, SqL K H a' xs) ∧ R a' := ⟨a, rfl, ⟨xs, h⟩, q⟩
theorem w_itt {a : Addr} {xs : List V} {R : Addr → Prop} (h : SqT K H a xs) (q : R a) : ∃ a', V.ref a = .ref a' ∧ (∃ xs, SqT K H a' xs) ∧ R a' := ⟨a, rfl, ⟨xs, h⟩, q⟩
theorem w_iRng1 {ta : TA} {R : It → Hp → Prop} (q : ta σ H fun vs H1 => ∃ j : Int, vs = [.int j] ∧ -(2 ^ 62) ≤ j ∧ j < 2 ^ 62 ∧ R (Itr 0 j.toNat) H1) : iRng1 ta σ H R := q
theorem w_rng {j : Int} {R : Int → Prop} (h1 : -(2 ^ 62) ≤ j) (h2 : j < 2 ^ 62) (q : R j) : ∃ j' : Int, [V.int j] = [.int j'] ∧ -(2 ^ 62) ≤ j' ∧ j' < 2 ^ 62 ∧ R j' := ⟨j, rfl, h1, h2, q⟩
theorem w_lc {wi : TI} {g : TG} {tt : TT} {te : TE} {vs : List Nat} (q : wi σ H fun J H1 => ∀ D, H1 D = none → ∃ W : Nat → Nat → Hp → Prop, (∃ m, W 0 m (upd H1 D (.lst []))) ∧ ∀ i m H, W i m H →
      (J.stop i H ∧ Q (.ref D) H) ∨ (J.go i H ∧ ∃ Nx : Hp → Prop, (∀ H', Nx H' → ∃ m', m' < m ∧ W (i + 1) m' H') ∧ ∀ x H', J.yld i H x H' → g x (wipe σ vs) H' fun σ2 H2 => wipe σ2 vs = wipe σ vs ∧ tt σ2 H2 fun b H3 =>
        if b = true then te σ2 H3 fun y H4 => ∃ acc, H4 D = some (.lst acc) ∧ acc.length < sizeLine ∧ Nx (upd H4 D (.lst (acc ++ [y]))) else Nx H3)) : tLc wi g tt te vs σ H Q := q
theorem w_yes {R : Bool → Hp → Prop} (q : R true H) : tYes σ H R := q
theorem w_wipe {σ1 σ2 : L2.St} {C : Prop} (h : σ1 = σ2) (q : C) : σ1 = σ2 ∧ C := ⟨h, q⟩
theorem w_cmpS {i j : Str} {R : Str → Str → Prop} (q : R i j) : ∃ i' j', V.str i = .str i' ∧ V.str j = .str j' ∧ R i' j' := ⟨i, j, rfl, rfl, q⟩
theorem w_truL {p : Addr} {xs : List V} {R : Bool → Prop} (h : SqL K H p xs) (q : R (!xs.isEmpty)) : ∃ k, TruV K (.ref p) H k ∧ R k := ⟨_, Or.inl ⟨xs, h, rfl⟩, q⟩
theorem w_pop {l : Addr} {xs : List V} {y : V} (h : H l = some (.lst (xs ++ [y]))) (q : Q y (upd H l (.lst xs))) : rPop (.ref l) [] H Q := ⟨l, xs ++ [y], y, rfl, rfl, h, by simp, by rw [List.dropLast_concat]; exact q⟩
theorem w_revA {te : TE} {R : It → Hp → Prop} (q : te σ H fun v H1 => ∃ (a : Addr) (xs : List V), v = .ref a ∧ ((SqL K H1 a xs ∧ R (Itv K a xs.length) H1) ∨ (SqT K H1 a xs ∧ R (RT.ItvT K a xs.length) H1))) : RT.iRevA K te σ H R := q
theorem w_rvT {a : Addr} {xs : List V} {C R : Addr → List V → Prop} (h : SqT K H a xs) (q : R a xs) : ∃ (a' : Addr) (xs' : List V), V.ref a = .ref a' ∧ (C a' xs' ∨ (SqT K H a' xs' ∧ R a' xs')) := ⟨a, xs, rfl, .inr ⟨h, q⟩⟩
theorem w_rvL {a : Addr} {xs : List V} {C R : Addr → List V → Prop} (h : SqL K H a xs) (q : R a xs) : ∃ (a' : Addr) (xs' : List V), V.ref a = .ref a' ∧ ((SqL K H a' xs' ∧ R a' xs') ∨ C a' xs') := ⟨a, xs, rfl, .inl ⟨h, q⟩⟩
theorem w_isi {v : V} {d : PyData} (h : DAt H v d) (q : Q (.bl (isTup d)) H) : rIsi K [v, .ty "tuple"] H Q := by
  cases h with
  | str x => exact ⟨_, _, _, _, false, rfl, .ty _, .base (.str x), kit_ty (by decide +kernel), q⟩
  | int x => exact ⟨_, _, _, _, false, rfl, .ty _, .base (.int x), kit_ty (by decide +kernel), q⟩
  | non => exact ⟨_, _, _, _, false, rfl, .ty _, .base .non, kit_ty (by decide +kernel), q⟩
  | tup h _ => exact ⟨_, _, _, _, true, rfl, .ty _, .base (.tup h), kit_ty (by decide +kernel), q⟩
theorem call_str_any {X : Cx} : CallR X (.type "str") (fun xs H Q => (∃ i, xs = [.int i] ∧ i.natAbs.log2 < 1920 ∧ Q (.str (toString i)) H) ∨ ∃ a, xs = [.str a] ∧ Q (.str a) H) := fun pins s σ H xs us Q I r h => by
  rcases h with h | h
  · exact call_str_int pins s σ H xs us Q I r h
  · exact SkE.call_str_str pins s σ H xs us Q I r h
theorem w_strS {z : Str} {C : Prop} {R : Str → Prop} (q : R z) : C ∨ ∃ a, [V.str z] = [.str a] ∧ R a := .inr ⟨z, rfl, q⟩
theorem w_dg {td ty : TE} (q : td σ H fun x H1 => ty σ H1 fun y H2 => ∃ a v, x = .ref a ∧ DGet H2 a y (some v) ∧ Q v H2) : tDGet td ty σ H Q := q
theorem w_dp {td ty tv : TE} (q : tv σ H fun v H1 => td σ H1 fun x H2 => ty σ H2 fun y H3 => ∃ a H4, x = .ref a ∧ DPut H3 a y v H4 ∧ D.nx σ H4) : sDPut td ty tv D σ H := q
theorem w_it {c A B : Prop} [Decidable c] (h : c) (q : A) : if c then A else B := by rw [if_pos h]; exact q
theorem w_if {c A B : Prop} [Decidable c] (h : ¬ c) (q : B) : if c then A else B := by rw [if_neg h]; exact q
theorem w_cnt {x y : Str} {R : Str → Str → Prop} (q : R x y) : ∃ a b, V.str x = .str a ∧ [V.str y] = [.str b] ∧ R a b := ⟨x, y, rfl, rfl, q⟩
theorem w_par {i j : Nat} {ta : TA} (q : ta σ H fun vs H1 => ∃ v w, vs = [v, w] ∧ D.nx ((σ.set i (some v)).set j (some w)) H1) : tPar i j ta D σ H := q
theorem w_par2 {v w : V} {R : V → V → Prop} (q : R v w) : ∃ v' w', [v, w] = [v', w'] ∧ R v' w' := ⟨v, w, rfl, q⟩
end
theorem j2 {c : Prop} [Decidable c] {t u : TS} {D : Ends} {σ : L2.St} {H : Hp} (J : Hp → Prop) (k : ∀ H1, J H1 → D.nx σ H1) (h : (∀ H1, J H1 → D.nx σ H1) → if c then t D σ H else u D σ H) : if c then t D σ H else u D σ H := h k
theorem Nm.len {z : Str} (h : Nm z) : z.length ≤ sizeLine := Nat.le_trans h.hi (by decide)
theorem j_ifs {c : TT} {t u : TS} {D : Ends} {σ : L2.St} {H : Hp} (k : D.nx σ H) (h : D.nx σ H → c σ H fun b H1 => if b = true then t D σ H1 else u D σ H1) : tIfS c t u D σ H := h k
theorem add_ok {m n : Nat} (h : m + n ≤ 1000000) : m + n ≤ sizeLine := Nat.le_trans h (by decide)
theorem len_app (a b : Str) : (a ++ b).length = a.length + b.length := by rw [cd_len, cd_len, cd_len, cd_app, List.length_append]
theorem len_one (x : Nat) : (⟨#[x]⟩ : Str).length = 1 := rfl
theorem max1 {n : Int} (h : 1 ≤ n) : (if n > 1 then n else 1) = n := by
  by_cases g : n > 1
  · rw [if_pos g]
  · rw [if_neg g]
    omega
local macro_rules | `(tactic| walk_at "ne") => `(tactic| first | assumption | exact Ne.symm (by assumption) | exact ne_of_none (by assumption) (by assumption) | exact Ne.symm (ne_of_none (by assumption) (by assumption)))
local macro_rules | `(tactic| walk_at "hp") => `(tactic| first | assumption | exact upd_same | (rw [upd_ne (by walk_at "ne")]; walk_at "hp"))
local macro_rules | `(tactic| walk_at "sl") => `(tactic| first | assumption | exact SqL.of (by walk_at "hp"))
local macro_rules | `(tactic| walk_at "st") => `(tactic| first | assumption | exact SqT.of (by walk_at "hp"))
local macro_rules | `(tactic| walk_at "c") => `(tactic| first | assumption | decide | exact ⟨by omega, by omega⟩ | (show (0 : Int) < _; omega) | exact Or.inl ⟨by omega, by omega⟩ | exact Or.inr ⟨by omega, by omega⟩)
local macro_rules | `(tactic| walk_at "len") => `(tactic| (simp only [List.length_cons, List.length_nil]; decide))
local macro_rules | `(tactic| walk_at "z") => `(tactic| first | assumption | exact Nm.len (by assumption))
local macro_rules | `(tactic| walk_at "s0") => `(tactic| with_reducible first
  | (apply w_var; case h => with_unfolding_all rfl) | apply w_c | apply w_op | apply w_seq | apply w_asg | apply w_gname | apply w_cb | apply w_cons | apply w_nil | apply w_next
  | apply w_gsub | apply w_drop | apply w_ret | apply w_retN | apply w_test | apply w_tB | apply w_and | apply w_or | apply w_not | apply w_un | apply w_call | apply w_tup | apply w_lst
  | apply w_bm | apply w_bm0 | apply w_sl | apply w_no | apply w_part | apply w_m1 | apply w_dg | apply w_dp | apply w_for | apply w_iList | apply w_iTup | apply w_iRng1 | apply w_lc | apply w_yes | apply w_revA | apply w_par
  | apply w_I0 | apply w_U | apply w_eqI | apply w_neI | apply w_eqS | apply w_neS | apply w_k | apply w_pi | apply w_s | apply w_int
  | (apply w_ixL; (case h => with_unfolding_all walk_at "sl"); (case e => with_unfolding_all rfl)) | (apply w_ixT; (case h => with_unfolding_all walk_at "st"); (case e => with_unfolding_all rfl))
  | (apply w_setL; (case h => with_unfolding_all walk_at "hp"); (case e => with_unfolding_all rfl))
  | (apply w_tyl; (case h => with_unfolding_all walk_at "hp")) | (apply w_len; (case h => with_unfolding_all walk_at "sl")) | (apply w_lenT; (case h => with_unfolding_all walk_at "st"))
  | (apply w_rng; (case h1 => with_unfolding_all omega); (case h2 => with_unfolding_all omega)) | apply w_one | apply w_two
  | (apply w_I; (case c => with_unfolding_all walk_at "c"))
  | (apply w_itl; (case h => with_unfolding_all walk_at "sl")) | (apply w_itt; (case h => with_unfolding_all walk_at "st"))
  | (apply w_wipe; (case h => with_unfolding_all rfl)) | apply iteT | apply iteF | apply w_cmpS | apply w_cnt | apply w_par2
  | (apply w_slS; (case n => with_unfolding_all walk_at "z")) | (apply w_truL; (case h => with_unfolding_all walk_at "sl")) | (apply w_pop; (case h => with_unfolding_all walk_at "hp"))
  | (apply w_rvT; (case h => with_unfolding_all walk_at "st")) | (apply w_rvL; (case h => with_unfolding_all walk_at "sl")) | (apply w_isi; (case h => with_unfolding_all assumption)) | (apply w_lenS; (case n => with_unfolding_all walk_at "z")))
local macro_rules | `(tactic| walk_at "s") => `(tactic| first | walk_at "s0" | with_reducible apply w_ifs)
local macro_rules | `(tactic| walk_at "dc") => `(tactic| first | refine w_it (by decide +kernel) ?_ | refine w_if (by decide +kernel) ?_)
local macro_rules | `(tactic| walk_at "sa") => `(tactic| first | walk_at "s" | refine ⟨add_ok (by (try simp only [len_appS]); omega), ?_⟩ | walk_at "dc")
/-! ### the draws -/
structure Flow (H : Hp) (a c : Addr) : Prop where
  ca : c ≠ a
  hc : ∃ ns : List Int, H c = some (.lst (ns.map V.int)) ∧ ns.length ≤ 63
  ha : ∃ (p l b m o : Int), H a = some (.lst [.ref c, .int p, .int l, .int b, .int m, .int o]) ∧ 0 ≤ p ∧ 0 ≤ l ∧ 0 ≤ m ∧ m < 2147483647 ∧ (o = 0 ∨ o = 1) ∧ (o = 1 → l < 2147483647)
theorem Flow.put {H : Hp} {a c D : Addr} {o : HO} (h : Flow H a c) (n1 : D ≠ a) (n2 : D ≠ c) : Flow (L2.upd H D o) a c := by
  obtain ⟨ca, ⟨ns, hc, hl⟩, ⟨p, l, b, m, o', ha, r⟩⟩ := h
  exact ⟨ca, ⟨ns, by rw [upd_ne n2.symm]; exact hc, hl⟩, ⟨p, l, b, m, o', by rw [upd_ne n1.symm]; exact ha, r⟩⟩
theorem Flow.same {H H' : Hp} {a c : Addr} (h : Flow H a c) (f : Same H H') : Flow H' a c := by
  obtain ⟨ca, ⟨ns, hc, hl⟩, ⟨p, l, b, m, o', ha, r⟩⟩ := h
  exact ⟨ca, ⟨ns, f _ _ hc, hl⟩, ⟨p, l, b, m, o', f _ _ ha, r⟩⟩
theorem Flow.na {H : Hp} {a c D : Addr} (h : Flow H a c) (n : H D = none) : D ≠ a := by
  obtain ⟨p, l, b, m, o', ha, r⟩ := h.ha
  exact (ne_of_none ha n).symm
theorem Flow.nc {H : Hp} {a c D : Addr} (h : Flow H a c) (n : H D = none) : D ≠ c := by
  obtain ⟨ns, hc, _⟩ := h.hc
  exact (ne_of_none hc n).symm
theorem Flow.new {H : Hp} {a c D : Addr} {o : HO} (h : Flow H a c) (n : H D = none) : Flow (L2.upd H D o) a c := h.put (h.na n) (h.nc n)
/-- what a stretch of draws leaves: all but the flow as it was, the flow good -/
structure Go (a c : Addr) (H H' : Hp) : Prop where
  fr : Fr a H H'
  fl : Flow H' a c
theorem Go.trans {a c : Addr} {H H1 H2 : Hp} (p : Go a c H H1) (q : Go a c H1 H2) : Go a c H H2 := ⟨p.fr.trans q.fr, q.fl⟩
theorem Go.refl {a c : Addr} {H : Hp} (h : Flow H a c) : Go a c H H := ⟨Fr.refl _ _, h⟩
theorem Go.new {a c p : Addr} {H H1 : Hp} {o : HO} (g : Go a c H H1) (n : H1 p = none) : Go a c H (L2.upd H1 p o) := ⟨g.fr.trans (Fr.new n), g.fl.new n⟩
theorem Go.same {a c : Addr} {H H1 H2 : Hp} (g : Go a c H H1) (s : Same H1 H2) : Go a c H H2 := ⟨g.fr.trans (Fr.same s), g.fl.same s⟩
theorem Fr.un {a p : Addr} {H H1 : Hp} (f : Fr a H H1) (na : p ≠ a) (n : H1 p = none) : H p = none := by
  cases e : H p with
  | none => rfl
  | some o => rw [f p o e na] at n; cases n
theorem Go.un {a c p : Addr} {H H1 : Hp} (g : Go a c H H1) (n : H1 p = none) : H p = none := g.fr.un (g.fl.na n) n
/-- an object that H does not know changes -/
theorem Go.mut {a c p : Addr} {H H1 : Hp} {o : HO} (g : Go a c H H1) (n : H p = none) (na : p ≠ a) (nc : p ≠ c) : Go a c H (L2.upd H1 p o) := ⟨fun x u e h => by
  rw [upd_ne (ne_of_none e n)]
  exact g.fr x u e h, g.fl.put na nc⟩
theorem Go.at {a c p : Addr} {H H1 : Hp} {o : HO} (g : Go a c H H1) (h : H p = some o) (na : p ≠ a) : H1 p = some o := g.fr p o h na
def sp_load : Sp := fun vs H Q _ => ∃ a c : Addr, vs = [.ref a] ∧ Flow H a c ∧ ∀ H', Go a c H H' → Q .non H'
def sp_draw : Sp := fun vs H Q _ => ∃ (a c : Addr) (n : Int), vs = [.ref a, .int n] ∧ Flow H a c ∧ 1 ≤ n ∧ n < 1073741824 ∧ ∀ (d : Int) (H' : Hp), 0 ≤ d → d < n → Go a c H H' → Q (.int d) H'
section
variable {P : Program} {w : World} {K : PySem.W.Frag} {mg : Str → Option Value} {base : Heap}
theorem ok_law_load (T : Top K mg) : FnOk P w K mg base CX0 1 T.f_law_load T.d_law_load ["flow"] sp_load := by
  refine T.F_law_load.ok sc_law_load (fun vs H Q E h => ?_) (fun cdv A outer s H vs Q E hr h => ?_)
  · obtain ⟨a, c, rfl, _⟩ := h
    rfl
  · obtain ⟨a, c, rfl, ⟨hca, ⟨ns, hc, hlen⟩, ⟨p, l, b, m, o, ha, hp, hl, hm, hm2, ho, ho2⟩⟩, q⟩ := h
    refine ⟨_, (pss_cons (ps_if (pt_cmpR op_ge (pe_ix ix_list (pv 0) pe_int (fun _ _ => rfl)) (pe_callB call_len_seq (by rfl) T.z_len (by decide +kernel) (pa_cons (pe_ix ix_list (pv 0) pe_int (fun _ _ => rfl)) pa_nil)) (nomark _))
    (pss_cons (ps_asg pe_int (pg_sub (pv 0) pe_int set_list))
     (pss_cons (ps_asg pe_int (pg_sub (pv 0) pe_int set_list))
      (pss_cons (ps_asg pe_int (pg_sub (pv 0) pe_int set_list))
       (pss_one ps_retN))))
    pss_nil)
    (pss_cons (ps_set (i := 1) sc_law_load.nd rfl (Or.inl rfl) (pe_callTy call_int1 (by rfl) T.z_int (by decide +kernel) (pa_cons (pe_ix ix_list (pe_ix ix_list (pv 0) pe_int (fun _ _ => rfl)) (pe_ix ix_list (pv 0) pe_int (fun _ _ => rfl)) (fun _ _ => rfl)) pa_nil)))
     (pss_cons (ps_asg (pe_op op_add (pe_ix ix_list (pv 0) pe_int (fun _ _ => rfl)) pe_int) (pg_sub (pv 0) pe_int set_list))
      (pss_cons (ps_asg (pe_op op_fdiv (pe_callB call_abs (by rfl) T.z_abs (by decide +kernel) (pa_cons (pv 1) pa_nil)) pe_int) (pg_sub (pv 0) pe_int set_list))
       (pss_cons (ps_asg pe_int (pg_sub (pv 0) pe_int set_list))
        (pss_cons (ps_asg (pe_op op_mod (pe_callTy call_int1 (by rfl) T.z_int (by decide +kernel) (pa_cons (pv 1) pa_nil)) pe_int) (pg_sub (pv 0) pe_int set_list))
         (pss_one (ps_if (pt_cmpR op_eq (pe_ix ix_list (pv 0) pe_int (fun _ _ => rfl)) pe_int (nomark _))
          (pss_cons (ps_asg (pe_op op_mod (pe_callTy call_int1 (by rfl) T.z_int (by decide +kernel) (pa_cons (pe_ix ix_list (pv 0) pe_int (fun _ _ => rfl)) pa_nil)) pe_int) (pg_sub (pv 0) pe_int set_list))
           (pss_one (ps_asg pe_int (pg_sub (pv 0) pe_int set_list))))
          pss_nil)))))))), ?_⟩
    repeat walk_at "s"
    refine ite2 (fun h => ?_) (fun h => ?_)
    · repeat walk_at "s"
      refine q _ ⟨fun x u e n => by rw [upd_ne n, upd_ne n, upd_ne n]; exact e, ⟨hca, ⟨ns, by walk_at "hp", hlen⟩, ⟨p, 40503, 1000, m, 1, upd_same, hp, by omega, hm, hm2, .inr rfl, fun _ => by omega⟩⟩⟩
    · have hz : p < (ns.length : Int) := by
        have h' := of_decide_eq_false (ofb h)
        rw [List.length_map] at h'
        omega
      obtain ⟨z, -, hzz⟩ := at_map (f := V.int) hp hz
      repeat walk_at "s"
      refine w_ixL (by walk_at "sl") hzz ?_
      repeat walk_at "s"
      have e0 : (if z < 0 then -z else z) / 2 ≥ 0 := by
        split <;> omega
      refine ite2 (fun h => ?_) (fun h => ?_)
      · repeat walk_at "s"
        refine q _ ⟨fun x u e n => by simp only [upd_ne n]; exact e, ⟨hca, ⟨ns, by walk_at "hp", hlen⟩, ⟨p + 1, (if z < 0 then -z else z) / 2 % 2147483629, 6, m, z % 2, upd_same, by omega, by omega, hm, hm2, by omega, fun _ => by omega⟩⟩⟩
      · repeat walk_at "s"
        have h5 : ¬ z % 2 = 1 := fun e => h (decide_eq_true e)
        refine q _ ⟨fun x u e n => by simp only [upd_ne n]; exact e, ⟨hca, ⟨ns, by walk_at "hp", hlen⟩, ⟨p + 1, (if z < 0 then -z else z) / 2, 60, m, z % 2, upd_same, by omega, by omega, hm, hm2, by omega, fun e => absurd e h5⟩⟩⟩
theorem ok_law_draw (T : Top K mg) : FnOk P w K mg base CX0 2 T.f_law_draw T.d_law_draw ["flow", "many"] sp_draw := by
  refine T.F_law_draw.ok sc_law_draw (fun vs H Q E h => ?_) (fun cdv A outer s H vs Q E hr h => ?_)
  · obtain ⟨a, c, n, rfl, _⟩ := h
    rfl
  · obtain ⟨a, c, n, rfl, F, hn1, hn2, q⟩ := h
    refine ⟨_, (pss_cons (ps_if (pt_cmpR op_eq (pe_ix ix_list (pv 0) pe_int (fun _ _ => rfl)) pe_int (nomark _))
    (pss_one (ps_expr (pe_call (ok_law_load T) hr (by rfl) T.g_law_load T.F_law_load.kp T.b_law_load .nil pass0 (pa_cons (pv 0) pa_nil))))
    pss_nil)
    (pss_cons (ps_asg (pe_op op_sub (pe_ix ix_list (pv 0) pe_int (fun _ _ => rfl)) pe_int) (pg_sub (pv 0) pe_int set_list))
     (pss_cons (ps_if (pt_cmpR op_eq (pe_ix ix_list (pv 0) pe_int (fun _ _ => rfl)) pe_int (nomark _))
      (pss_cons (ps_asg (pe_op op_mod (pe_callTy call_int1 (by rfl) T.z_int (by decide +kernel) (pa_cons (pe_op op_add (pe_op op_add (pe_op op_mul (pe_ix ix_list (pv 0) pe_int (fun _ _ => rfl)) pe_int) (pe_ix ix_list (pv 0) pe_int (fun _ _ => rfl))) pe_int) pa_nil)) pe_int) (pg_sub (pv 0) pe_int set_list))
       (pss_one (ps_ret (pe_op op_mod (pe_callTy call_int1 (by rfl) T.z_int (by decide +kernel) (pa_cons (pe_op op_fdiv (pe_ix ix_list (pv 0) pe_int (fun _ _ => rfl)) pe_int) pa_nil)) (pe_callB (call_max2 rfl) (by rfl) T.z_max (by decide +kernel) (pa_cons pe_int (pa_cons (pv 1) pa_nil)))))))
      pss_nil)
      (pss_cons (ps_set (i := 2) sc_law_draw.nd rfl (Or.inl rfl) (pe_op op_mod (pe_callTy call_int1 (by rfl) T.z_int (by decide +kernel) (pa_cons (pe_ix ix_list (pv 0) pe_int (fun _ _ => rfl)) pa_nil)) (pe_callB (call_max2 rfl) (by rfl) T.z_max (by decide +kernel) (pa_cons pe_int (pa_cons (pv 1) pa_nil)))))
       (pss_cons (ps_asg (pe_op op_fdiv (pe_ix ix_list (pv 0) pe_int (fun _ _ => rfl)) (pe_callB (call_max2 rfl) (by rfl) T.z_max (by decide +kernel) (pa_cons pe_int (pa_cons (pv 1) pa_nil)))) (pg_sub (pv 0) pe_int set_list))
        (pss_cons (ps_if (pt_cmpR op_eq (pe_ix ix_list (pv 0) pe_int (fun _ _ => rfl)) pe_int (nomark _))
         (pss_one (ps_asg pe_int (pg_sub (pv 0) pe_int set_list)))
         pss_nil)
         (pss_one (ps_ret (pv 2))))))))), ?_⟩
    obtain ⟨hca, ⟨ns, hc, hlen⟩, ⟨p, l, b, m, o, ha, hp, hl, hm, hm2, ho, ho2⟩⟩ := id F
    repeat walk_at "s"
    refine j2 (J := fun H1 => Go a c H H1) ?_ (fun k => ite2 (fun h => ?_) (fun h => ?_))
    · rintro H1 ⟨f1, ⟨-, ⟨ns1, hc1, hlen1⟩, ⟨p1, l1, b1, m1, o1, ha1, hp1, hl1, hm1, hm21, ho1, ho21⟩⟩⟩
      repeat walk_at "s"
      refine ite2 (fun h => ?_) (fun h => ?_)
      · repeat walk_at "s"
        rw [max1 hn1]
        repeat walk_at "s"
        refine q _ _ (Int.emod_nonneg _ (by omega)) (Int.emod_lt_of_pos _ (by omega)) ⟨fun x u e n => by simp only [upd_ne n]; exact f1 x u e n, ⟨hca, ⟨ns1, by walk_at "hp", hlen1⟩, ⟨p1, l1, b1 - 1, (m1 * 48271 + l1 + 12345) % 2147483647, o1, upd_same, hp1, hl1, by omega, by omega, ho1, ho21⟩⟩⟩
      · repeat walk_at "s"
        rw [max1 hn1]
        repeat walk_at "s"
        have hd : 0 ≤ l1 / n := Int.ediv_nonneg hl1 (by omega)
        have h5 : ¬ o1 = 1 := fun e => h (decide_eq_true e)
        refine ite2 (fun h => ?_) (fun h => ?_)
        · repeat walk_at "s"
          refine q _ _ (Int.emod_nonneg _ (by omega)) (Int.emod_lt_of_pos _ (by omega)) ⟨fun x u e n => by simp only [upd_ne n]; exact f1 x u e n, ⟨hca, ⟨ns1, by walk_at "hp", hlen1⟩, ⟨p1, l1 / n, 0, m1, o1, upd_same, hp1, hd, hm1, hm21, ho1, fun e => absurd e h5⟩⟩⟩
        · repeat walk_at "s"
          refine q _ _ (Int.emod_nonneg _ (by omega)) (Int.emod_lt_of_pos _ (by omega)) ⟨fun x u e n => by simp only [upd_ne n]; exact f1 x u e n, ⟨hca, ⟨ns1, by walk_at "hp", hlen1⟩, ⟨p1, l1 / n, b1 - 1, m1, o1, upd_same, hp1, hd, hm1, hm21, ho1, fun e => absurd e h5⟩⟩⟩
    · repeat walk_at "s"
      exact ⟨a, c, rfl, F, k⟩
    · exact k H (Go.refl F)
end
/-! ### names -/
def sp_flow (K : PySem.W.Frag) : Sp := fun vs H Q _ => ∃ (a : Addr) (ns : List Int), vs = [.ref a] ∧ SqL K H a (ns.map V.int) ∧ ns.length ≤ 63 ∧ ∀ (f c : Addr) (H' : Hp), Same H H' → H f = none → H c = none → Flow H' f c → Q (.ref f) H'
def sp_pick : Sp := fun vs H Q _ => ∃ (a c t : Addr) (xs : List V), vs = [.ref a, .ref t] ∧ Flow H a c ∧ H t = some (.lst xs) ∧ t ≠ a ∧ 1 ≤ xs.length ∧ xs.length < 1000000 ∧ ∀ v H', v ∈ xs → Go a c H H' → Q v H'
def sp_letter : Sp := fun vs H Q _ => ∃ a c : Addr, vs = [.ref a] ∧ Flow H a c ∧ ∀ (x : Nat) H', 97 ≤ x → x ≤ 122 → Go a c H H' → Q (.str ⟨#[x]⟩) H'
def sp_name : Sp := fun vs H Q _ => ∃ a c : Addr, vs = [.ref a] ∧ Flow H a c ∧ ∀ z H', Nm z → Go a c H H' → Q (.str z) H'
def sp_near : Sp := fun vs H Q _ => ∃ (a c : Addr) (z : Str), vs = [.ref a, .str z] ∧ Flow H a c ∧ Nm z ∧ ∀ z' H', Nm z' → Go a c H H' → Q (.str z') H'
def sp_names : Sp := fun vs H Q _ => ∃ (a c : Addr) (n : Int), vs = [.ref a, .int n] ∧ Flow H a c ∧ 1 ≤ n ∧ n ≤ 1000 ∧ ∀ (l : Addr) (zs : List Str) (H' : Hp), H l = none → H' l = some (.lst (zs.map V.str)) → (zs.length : Int) = n → (∀ z ∈ zs, Nm z) → Go a c H H' → Q (.ref l) H'
theorem abc_ok : ∀ c ∈ (Str.ofString "abcdefghijklmnopqrstuvwxyz").cps.toList, 97 ≤ c ∧ c ≤ 122 := by decide +kernel
section
variable {P : Program} {w : World} {K : PySem.W.Frag} {mg : Str → Option Value} {base : Heap}
theorem ok_law_flow (T : Top K mg) : FnOk P w K mg base CX0 1 T.f_law_flow T.d_law_flow ["script"] (sp_flow K) := by
  refine T.F_law_flow.ok sc_law_flow (fun vs H Q E h => ?_) (fun cdv A outer s H vs Q E hr h => ?_)
  · obtain ⟨a, n, rfl, _⟩ := h
    rfl
  · obtain ⟨a, ns, rfl, hS, hl, q⟩ := h
    refine ⟨_, (pss_cons (ps_set (i := 1) sc_law_flow.nd rfl (Or.inl rfl) pe_int)
    (pss_cons (ps_for PassesOwn.never rfl (pi_list (pv 0)) (pg_name (i := 2) sc_law_flow.nd rfl (Or.inl rfl))
     (pss_one (ps_set (i := 1) sc_law_flow.nd rfl (Or.inl rfl) (pe_op op_mod (pe_callTy call_int1 (by rfl) T.z_int (by decide +kernel) (pa_cons (pe_op op_add (pe_op op_mul (pv 1) pe_int) (pe_callTy call_int1 (by rfl) T.z_int (by decide +kernel) (pa_cons (pv 2) pa_nil))) pa_nil)) pe_int))))
     (pss_one (ps_ret (pe_lst (pa_cons (pe_callTy call_list_of (by rfl) T.z_list (by decide +kernel) (pa_cons (pv 0) pa_nil)) (pa_cons pe_int (pa_cons pe_int (pa_cons pe_int (pa_cons (pv 1) (pa_cons pe_int pa_nil))))))))))), ?_⟩
    repeat walk_at "s"
    refine for_list (K := K) (a := a) (xs := ns.map V.int) (fun i σ H1 => ∃ (m : Int) (v : Option V), σ = [some (.ref a), some (.int m), v] ∧ 0 ≤ m ∧ m < 2147483647 ∧ H1 = H) ⟨1, none, rfl, by omega, by omega, rfl⟩ (fun i σ H1 _ ⟨_, _, _, _, _, e⟩ => e ▸ hS) ?_ ?_
    · rintro i x σ H1 hi ⟨m, v, rfl, h0, h1, rfl⟩
      obtain ⟨z, hz, rfl⟩ := List.mem_map.mp (List.mem_of_getElem? hi)
      repeat walk_at "s"
      exact ⟨_, _, rfl, Int.emod_nonneg _ (by omega), Int.emod_lt_of_pos _ (by omega), rfl⟩
    · rintro σ H1 ⟨m, v, rfl, h0, h1, rfl⟩
      repeat walk_at "s"
      intro c hc
      repeat walk_at "s"
      refine ⟨by walk_at "len", fun p hp => ?_⟩
      have s1 : Same H1 (upd H1 c (.lst (ns.map V.int))) := fun b o e => by rw [upd_ne (ne_of_none e hc)]; exact e
      have s2 : Same H1 (upd (upd H1 c (.lst (ns.map V.int))) p (.lst [.ref c, .int 0, .int 0, .int 0, .int m, .int 0])) := fun b o e => by
        rw [upd_ne (ne_of_none (s1 b o e) hp)]
        exact s1 b o e
      have hcp : c ≠ p := ne_of_none upd_same hp
      exact q p c _ s2 (Same.free s1 hp) hc ⟨hcp, ⟨ns, by rw [upd_ne hcp]; exact upd_same, hl⟩, ⟨0, 0, 0, m, 0, upd_same, by omega, by omega, h0, h1, .inl rfl, fun e => by omega⟩⟩
theorem ok_law_pick (T : Top K mg) : FnOk P w K mg base CX0 3 T.f_law_pick T.d_law_pick ["flow", "things"] sp_pick := by
  refine T.F_law_pick.ok sc_law_pick (fun vs H Q E h => ?_) (fun cdv A outer s H vs Q E hr h => ?_)
  · obtain ⟨a, c, t, xs, rfl, _⟩ := h
    rfl
  · obtain ⟨a, c, t, xs, rfl, F, ht, hta, h1, h2, q⟩ := h
    refine ⟨_, (pss_one (ps_ret (pe_ix ix_list (pv 1) (pe_call (ok_law_draw T) hr (by rfl) T.g_law_draw T.F_law_draw.kp T.b_law_draw .nil pass0 (pa_cons (pv 0) (pa_cons (pe_callB call_len_seq (by rfl) T.z_len (by decide +kernel) (pa_cons (pv 1) pa_nil)) pa_nil))) (fun _ _ => rfl)))), ?_⟩
    repeat walk_at "s"
    refine ⟨a, c, _, rfl, F, by omega, by omega, fun d H1 d0 d1 g1 => ?_⟩
    obtain ⟨z, hz, hm⟩ := at_ok (xs := xs) d0 d1
    refine w_ixL (SqL.of (g1.at ht hta)) hz ?_
    exact q z H1 hm g1
theorem ok_law_letter (T : Top K mg) : FnOk P w K mg base CX0 3 T.f_law_letter T.d_law_letter ["flow"] sp_letter := by
  refine T.F_law_letter.ok sc_law_letter (fun vs H Q E h => ?_) (fun cdv A outer s H vs Q E hr h => ?_)
  · obtain ⟨a, c, rfl, _⟩ := h
    rfl
  · obtain ⟨a, c, rfl, F, q⟩ := h
    refine ⟨_, (pss_one (ps_ret (pe_ix ix_str pe_str (pe_call (ok_law_draw T) hr (by rfl) T.g_law_draw T.F_law_draw.kp T.b_law_draw .nil pass0 (pa_cons (pv 0) (pa_cons pe_int pa_nil))) (fun _ _ => rfl)))), ?_⟩
    repeat walk_at "s"
    refine ⟨a, c, 26, rfl, F, by omega, by omega, fun d H1 d0 d1 g1 => ?_⟩
    obtain ⟨z, hz, hm⟩ := at_ok (xs := (Str.ofString "abcdefghijklmnopqrstuvwxyz").cps.toList) d0 (by rw [show (Str.ofString "abcdefghijklmnopqrstuvwxyz").cps.toList.length = 26 by decide +kernel]; exact d1)
    refine ⟨_, d, z, rfl, rfl, by decide +kernel, hz, ?_⟩
    exact q z H1 (abc_ok z hm).1 (abc_ok z hm).2 g1
theorem ok_law_name (T : Top K mg) : FnOk P w K mg base CX0 4 T.f_law_name T.d_law_name ["flow"] sp_name := by
  refine T.F_law_name.ok sc_law_name (fun vs H Q E h => ?_) (fun cdv A outer s H vs Q E hr h => ?_)
  · obtain ⟨a, c, rfl, _⟩ := h
    rfl
  · obtain ⟨a, c, rfl, F, q⟩ := h
    refine ⟨_, (pss_one (ps_ret (pe_join pe_str (pe_lc (own := [("k", 1)]) (g := gName 1) (by rfl) sc_law_name.nd (pi_range1 (by rfl) T.z_range (pa_cons (pe_op op_add pe_int (pe_call (ok_law_draw T) (hr.mono (by decide)) (by rfl) T.g_law_draw T.F_law_draw.kp T.b_law_draw .nil pass0 (pa_cons (pv 0) (pa_cons pe_int pa_nil)))) pa_nil)) (blkOk_by (own := [("k", 1)]) (N := N_law_name) (sc := defScope s_law_name) (by decide +kernel)) (fun _ _ _ _ _ => (pg_name (i := 1) sc_law_name.nd rfl (Or.inl rfl))) (fun _ _ _ _ _ => pts_nil) (fun _ _ _ _ _ => (pe_call (ok_law_letter T) hr (by rfl) T.g_law_letter T.F_law_letter.kp T.b_law_letter .nil pass0 (pa_cons (pv 0) pa_nil))))))), ?_⟩
    repeat walk_at "s"
    refine ⟨a, c, 8, rfl, F, by omega, by omega, fun d H1 d0 d1 g1 => ?_⟩
    repeat walk_at "s"
    intro D hD
    have hD0 := g1.un hD
    have na := g1.fl.na hD
    have nc := g1.fl.nc hD
    refine lc_range (lo := 0) (n := (1 + d).toNat) (fun i H2 => ∃ zs : List Nat, H2 D = some (.lst (zs.map fun x => V.str ⟨#[x]⟩)) ∧ zs.length = i ∧ (∀ x ∈ zs, 97 ≤ x ∧ x ≤ 122) ∧ Go a c H H2) ⟨[], upd_same, rfl, by simp, g1.new hD⟩ ?_ ?_
    · rintro i H2 hi ⟨zs, e, hl, hz, g2⟩
      repeat walk_at "s"
      refine ⟨a, c, rfl, g2.fl, fun x H3 hx1 hx2 g3 => ?_⟩
      refine ⟨_, g3.at e na, ?_, zs ++ [x], ?_, ?_, ?_, ((g2.trans g3).mut hD0 na nc)⟩
      · rw [List.length_map]
        exact small1000 (by omega)
      · rw [upd_same, List.map_append]
        rfl
      · rw [List.length_append, hl]
        rfl
      · intro y hy
        rcases List.mem_append.mp hy with h | h
        · exact hz y h
        · cases List.mem_singleton.mp h
          exact ⟨hx1, hx2⟩
    · rintro H2 ⟨zs, e, hl, hz, g2⟩
      have el : ∀ zs : List Nat, ((zs.map (fun x => (⟨#[x]⟩ : Str))).map (fun x => x.length)).sum = zs.length := fun zs => by
        induction zs with
        | nil => rfl
        | cons x r ih => rw [List.map_cons, List.map_cons, List.sum_cons, ih, List.length_cons, Nat.add_comm]; rfl
      have ec : ∀ zs : List Nat, (zs.map (fun x => (⟨#[x]⟩ : Str))).flatMap cd = zs := fun zs => by
        induction zs with
        | nil => rfl
        | cons x r ih => rw [List.map_cons, List.flatMap_cons, ih]; rfl
      refine ⟨_, D, zs.map (fun x => (⟨#[x]⟩ : Str)), rfl, rfl, .inl (SqL.of (by rw [e, List.map_map]; rfl)), ?_, ?_⟩
      · rw [el, show (Str.ofString "").length = 0 from rfl]
        omega
      · have ecd : cd (Txt.join "" (zs.map (fun x => (⟨#[x]⟩ : Str)))) = zs := by rw [cd_join0, ec]
        refine q _ _ ⟨?_, ?_, ?_⟩ g2
        · rw [cd_len, ecd]; omega
        · rw [cd_len, ecd]; omega
        · rw [ecd]; exact hz
theorem cd_one (x : Nat) : cd ⟨#[x]⟩ = [x] := rfl
theorem ok_law_near (T : Top K mg) : FnOk P w K mg base CX0 4 T.f_law_near T.d_law_near ["flow", "name"] sp_near := by
  refine T.F_law_near.ok sc_law_near (fun vs H Q E h => ?_) (fun cdv A outer s H vs Q E hr h => ?_)
  · obtain ⟨a, c, z, rfl, _⟩ := h
    rfl
  · obtain ⟨a, c, z, rfl, F, hz, q⟩ := h
    refine ⟨_, (pss_cons (ps_set (i := 2) sc_law_near.nd rfl (Or.inl rfl) (pe_call (ok_law_draw T) (hr.mono (by decide)) (by rfl) T.g_law_draw T.F_law_draw.kp T.b_law_draw .nil pass0 (pa_cons (pv 0) (pa_cons (pe_callB call_len_str (by rfl) T.z_len (by decide +kernel) (pa_cons (pv 1) pa_nil)) pa_nil))))
    (pss_cons (ps_set (i := 3) sc_law_near.nd rfl (Or.inl rfl) (pe_call (ok_law_draw T) (hr.mono (by decide)) (by rfl) T.g_law_draw T.F_law_draw.kp T.b_law_draw .nil pass0 (pa_cons (pv 0) (pa_cons pe_int pa_nil))))
     (pss_cons (ps_if (PW.pt (pw_and (pt_cmpR op_eq (pv 3) pe_int (nomark _)) (pw_and1 (pt_cmpR op_lt (pe_callB call_len_str (by rfl) T.z_len (by decide +kernel) (pa_cons (pv 1) pa_nil)) pe_int (nomark _)))))
      (pss_one (ps_ret (pe_op op_add_str (pe_op op_add_str (pe_slice sl_str (pv 1) po_none (po_some (pv 2))) (pe_call (ok_law_letter T) hr (by rfl) T.g_law_letter T.F_law_letter.kp T.b_law_letter .nil pass0 (pa_cons (pv 0) pa_nil))) (pe_slice sl_str (pv 1) (po_some (pv 2)) po_none))))
      pss_nil)
      (pss_cons (ps_if (PW.pt (pw_and (pt_cmpR op_eq (pv 3) pe_int (nomark _)) (pw_and1 (pt_cmpR op_gt (pe_callB call_len_str (by rfl) T.z_len (by decide +kernel) (pa_cons (pv 1) pa_nil)) pe_int (nomark _)))))
       (pss_one (ps_ret (pe_op op_add_str (pe_slice sl_str (pv 1) po_none (po_some (pv 2))) (pe_slice sl_str (pv 1) (po_some (pe_op op_add (pv 2) pe_int)) po_none))))
       pss_nil)
       (pss_one (ps_ret (pe_op op_add_str (pe_op op_add_str (pe_slice sl_str (pv 1) po_none (po_some (pv 2))) (pe_call (ok_law_letter T) hr (by rfl) T.g_law_letter T.F_law_letter.kp T.b_law_letter .nil pass0 (pa_cons (pv 0) pa_nil))) (pe_slice sl_str (pv 1) (po_some (pe_op op_add (pv 2) pe_int)) po_none)))))))), ?_⟩
    have hzl := hz.lo
    have hzh := hz.hi
    have hzn := hz.len
    have hcl := cd_len z
    repeat walk_at "s"
    refine ⟨a, c, _, rfl, F, by omega, by omega, fun d H1 d0 d1 g1 => ?_⟩
    obtain ⟨k, rfl⟩ : ∃ k : Nat, d = (k : Int) := ⟨d.toNat, by omega⟩
    repeat walk_at "s"
    refine ⟨a, c, 3, rfl, g1.fl, by omega, by omega, fun e H2 e0 e1 g2 => ?_⟩
    have hk : k < z.length := by omega
    have l1 : (cutS z none (some (k : Int))).length ≤ z.length := cutS_length _ _ _
    have l2 : (cutS z (some (k : Int)) none).length ≤ z.length := cutS_length _ _ _
    have l3 : (cutS z (some ((k : Int) + 1)) none).length ≤ z.length := cutS_length _ _ _
    have az1 : ∀ x ∈ (cd z).take k, 97 ≤ x ∧ x ≤ 122 := fun x hx => hz.az x (List.mem_of_mem_take hx)
    have az2 : ∀ j, ∀ x ∈ (cd z).drop j, 97 ≤ x ∧ x ≤ 122 := fun j x hx => hz.az x (List.mem_of_mem_drop hx)
    have e3 : ((k : Int) + 1) = ((k + 1 : Nat) : Int) := by omega
    repeat walk_at "s0"
    refine j_ifs ?_ (fun k1 => ?_)
    · repeat walk_at "s0"
      refine j_ifs ?_ (fun k2 => ?_)
      · repeat walk_at "s"
        refine ⟨a, c, rfl, g2.fl, fun x H3 x0 x1 g3 => ?_⟩
        repeat walk_at "s"
        refine ⟨?_, ?_⟩
        · exact add_ok (by have := len_one x; omega)
        repeat walk_at "s"
        refine ⟨?_, ?_⟩
        · exact add_ok (by have := len_one x; rw [len_app]; omega)
        refine q _ _ ⟨?_, ?_, ?_⟩ (g1.trans (g2.trans g3))
        all_goals rw [e3]
        · simp only [cd_len, cd_app, cd_pre, cd_suf, cd_one, List.length_append, List.length_cons, List.length_nil]; omega
        · simp only [cd_len, cd_app, cd_pre, cd_suf, cd_one, List.length_append, List.length_cons, List.length_nil, List.length_take, List.length_drop]; omega
        · simp only [cd_app, cd_pre, cd_suf, cd_one, List.mem_append, List.mem_singleton]
          rintro y ((h | rfl) | h)
          · exact az1 y h
          · exact ⟨x0, x1⟩
          · exact az2 _ y h
      · repeat walk_at "s"
        refine ite2 (fun h => ?_) (fun h => ?_)
        · repeat walk_at "s"
          refine ite2 (fun h' => ?_) (fun h' => k2)
          have h2 : 1 < z.length := by have := of_decide_eq_true h'; omega
          repeat walk_at "s"
          refine ⟨?_, ?_⟩
          · exact add_ok (by omega)
          refine q _ _ ⟨?_, ?_, ?_⟩ (g1.trans g2)
          all_goals rw [e3]
          · simp only [cd_len, cd_app, cd_pre, cd_suf, List.length_append, List.length_take, List.length_drop] at *; omega
          · simp only [cd_len, cd_app, cd_pre, cd_suf, List.length_append, List.length_take, List.length_drop] at *; omega
          · simp only [cd_app, cd_pre, cd_suf, List.mem_append]
            rintro y (h | h)
            · exact az1 y h
            · exact az2 _ y h
        · exact iteF k2
    · repeat walk_at "s"
      refine ite2 (fun h => ?_) (fun h => ?_)
      · repeat walk_at "s"
        refine ite2 (fun h' => ?_) (fun h' => k1)
        have h2 : z.length < 8 := by have := of_decide_eq_true h'; omega
        repeat walk_at "s"
        refine ⟨a, c, rfl, g2.fl, fun x H3 x0 x1 g3 => ?_⟩
        repeat walk_at "s"
        refine ⟨?_, ?_⟩
        · exact add_ok (by have := len_one x; omega)
        repeat walk_at "s"
        refine ⟨?_, ?_⟩
        · exact add_ok (by have := len_one x; rw [len_app]; omega)
        refine q _ _ ⟨?_, ?_, ?_⟩ (g1.trans (g2.trans g3))
        · simp only [cd_len, cd_app, cd_pre, cd_suf, cd_one, List.length_append, List.length_cons, List.length_nil]; omega
        · simp only [cd_len, cd_app, cd_pre, cd_suf, cd_one, List.length_append, List.length_cons, List.length_nil, List.length_take, List.length_drop] at *; omega
        · simp only [cd_app, cd_pre, cd_suf, cd_one, List.mem_append, List.mem_singleton]
          rintro y ((h | rfl) | h)
          · exact az1 y h
          · exact ⟨x0, x1⟩
          · exact az2 _ y h
      · exact iteF k1
theorem ok_law_names (T : Top K mg) : FnOk P w K mg base CX0 5 T.f_law_names T.d_law_names ["flow", "many"] sp_names := by
  refine T.F_law_names.ok sc_law_names (fun vs H Q E h => ?_) (fun cdv A outer s H vs Q E hr h => ?_)
  · obtain ⟨a, c, n, rfl, _⟩ := h
    rfl
  · obtain ⟨a, c, n, rfl, F, hn1, hn2, q⟩ := h
    refine ⟨_, (pss_cons (ps_set (i := 2) sc_law_names.nd rfl (Or.inl rfl) (pe_lst (pa_cons (pe_call (ok_law_name T) hr (by rfl) T.g_law_name T.F_law_name.kp T.b_law_name .nil pass0 (pa_cons (pv 0) pa_nil)) pa_nil)))
    (pss_cons (ps_for PassesOwn.never rfl (pi_range1 (by rfl) T.z_range (pa_cons (pe_op op_sub (pv 1) pe_int) pa_nil)) (pg_name (i := 3) sc_law_names.nd rfl (Or.inl rfl))
     (pss_one (ps_if (pt_cmpR op_eq (pe_call (ok_law_draw T) (hr.mono (by decide)) (by rfl) T.g_law_draw T.F_law_draw.kp T.b_law_draw .nil pass0 (pa_cons (pv 0) (pa_cons pe_int pa_nil))) pe_int (nomark _))
      (pss_one (ps_expr (pe_bm PySem.F.plainAttrs_list PySem.F.slot_list_append PySem.F.type_list_append mt_append (pv 2) (pa_cons (pe_call (ok_law_name T) hr (by rfl) T.g_law_name T.F_law_name.kp T.b_law_name .nil pass0 (pa_cons (pv 0) pa_nil)) pa_nil))))
      (pss_one (ps_expr (pe_bm PySem.F.plainAttrs_list PySem.F.slot_list_append PySem.F.type_list_append mt_append (pv 2) (pa_cons (pe_call (ok_law_near T) hr (by rfl) T.g_law_near T.F_law_near.kp T.b_law_near .nil pass0 (pa_cons (pv 0) (pa_cons (pe_call (ok_law_pick T) (hr.mono (by decide)) (by rfl) T.g_law_pick T.F_law_pick.kp T.b_law_pick .nil pass0 (pa_cons (pv 0) (pa_cons (pv 2) pa_nil))) pa_nil))) pa_nil)))))))
     (pss_one (ps_ret (pv 2))))), ?_⟩
    repeat walk_at "s"
    refine ⟨a, c, rfl, F, fun z H1 hz g1 => ?_⟩
    repeat walk_at "s"
    refine ⟨by walk_at "len", fun l hl => ?_⟩
    have hl0 := g1.un hl
    have na := g1.fl.na hl
    have nc := g1.fl.nc hl
    repeat walk_at "s"
    refine for_range (lo := 0) (n := (n - 1).toNat) (fun i σ H2 => ∃ (zs : List Str) (v : Option V), σ = [some (.ref a), some (.int n), some (.ref l), v] ∧ H2 l = some (.lst (zs.map V.str)) ∧ zs.length = i + 1 ∧ (∀ z ∈ zs, Nm z) ∧ Go a c H H2) ⟨[z], none, rfl, upd_same, rfl, ?_, g1.new hl⟩ ?_ ?_
    · intro y hy
      cases List.mem_singleton.mp hy
      exact hz
    · rintro i σ H2 hi ⟨zs, v, rfl, e, el, hzs, g2⟩
      have fin : ∀ (z' : Str) (H3 : Hp), Nm z' → Go a c H2 H3 → ∃ (zs' : List Str) (v : Option V), [some (V.ref a), some (V.int n), some (V.ref l), some (V.int (0 + i))] = [some (V.ref a), some (V.int n), some (V.ref l), v] ∧ upd H3 l (.lst (zs.map V.str ++ [V.str z'])) l = some (.lst (zs'.map V.str)) ∧ zs'.length = i + 1 + 1 ∧ (∀ z ∈ zs', Nm z) ∧ Go a c H (upd H3 l (.lst (zs.map V.str ++ [V.str z']))) := fun z' H3 hz' g3 => by
        refine ⟨zs ++ [z'], _, rfl, ?_, ?_, ?_, (g2.trans g3).mut hl0 na nc⟩
        · rw [upd_same, List.map_append]; rfl
        · rw [List.length_append, el]; rfl
        · intro y hy
          rcases List.mem_append.mp hy with h | h
          · exact hzs y h
          · cases List.mem_singleton.mp h
            exact hz'
      have hsz : (zs.map V.str).length < sizeLine := by rw [List.length_map]; exact small1000 (by omega)
      repeat walk_at "s"
      refine ⟨a, c, 3, rfl, g2.fl, by omega, by omega, fun d H3 d0 d1 g3 => ?_⟩
      repeat walk_at "s"
      refine ite2 (fun h => ?_) (fun h => ?_)
      · repeat walk_at "s"
        refine w_tyl (g3.at e na) ?_
        repeat walk_at "s"
        refine ⟨a, c, rfl, g3.fl, fun z' H4 hz' g4 => ?_⟩
        repeat walk_at "s"
        refine w_append ((g3.trans g4).at e na) hsz ?_
        repeat walk_at "s"
        exact fin z' H4 hz' (g3.trans g4)
      · repeat walk_at "s"
        refine w_tyl (g3.at e na) ?_
        repeat walk_at "s"
        refine ⟨a, c, l, zs.map V.str, rfl, g3.fl, g3.at e na, na, by rw [List.length_map]; omega, by rw [List.length_map]; omega, fun v' H4 hv g4 => ?_⟩
        obtain ⟨y, hy, rfl⟩ := List.mem_map.mp hv
        repeat walk_at "s"
        refine ⟨a, c, y, rfl, g4.fl, hzs y hy, fun z' H5 hz' g5 => ?_⟩
        repeat walk_at "s"
        refine w_append ((g3.trans (g4.trans g5)).at e na) hsz ?_
        repeat walk_at "s"
        exact fin z' H5 hz' (g3.trans (g4.trans g5))
    · rintro σ H2 ⟨zs, v, rfl, e, el, hzs, g2⟩
      repeat walk_at "s"
      exact q l zs H2 hl0 e (by omega) hzs g2
end
section
variable {σ : L2.St} {H : Hp} {Q : VK} {D : Ends} {K : PySem.W.Frag}
theorem w_ckw {r : List V → List V → Hp → VK → Prop} {t tk : TA} (q : t σ H fun vs H1 => tk σ H1 fun zs H2 => r vs zs H2 Q) : tCKw r t tk σ H Q := q
theorem w_ck0 {sp : Sp} {n : Nat} {gV : List V → List V} {E : XK} {tk : TA} (q : tk σ H fun zs H2 => zs.length = n ∧ sp (gV zs) H2 Q E) : tCallK0 sp n gV E tk σ H Q := q
theorem w_gtup {n : Nat} {t : TGs} {a : Addr} {xs : List V} {R : L2.St → Hp → Prop} (h : SqT K H a xs) (e : xs.length = n) (q : t xs σ H R) : gTup K n t (.ref a) σ H R := ⟨a, xs, rfl, h, e, q⟩
theorem w_gcons {t : TG} {u : TGs} {v : V} {r : List V} {R : L2.St → Hp → Prop} (q : t v σ H fun σ' H' => u r σ' H' R) : gCons t u (v :: r) σ H R := ⟨v, r, rfl, q⟩
theorem w_gnil {R : L2.St → Hp → Prop} (q : R σ H) : gNil [] σ H R := ⟨rfl, q⟩
theorem isi_s {z : Str} {n : String} {b : Bool} (k : kitB "str" n = some b) (q : Q (.bl b) H) : rIsi K [.str z, .ty n] H Q := ⟨_, _, _, _, b, rfl, .ty _, .base (.str z), kit_ty k, q⟩
theorem isi_i {z : Int} {n : String} {b : Bool} (k : kitB "int" n = some b) (q : Q (.bl b) H) : rIsi K [.int z, .ty n] H Q := ⟨_, _, _, _, b, rfl, .ty _, .base (.int z), kit_ty k, q⟩
theorem isi_t {a : Addr} {vs : List V} {n : String} {b : Bool} (h : H a = some (.tup vs)) (k : kitB "tuple" n = some b) (q : Q (.bl b) H) : rIsi K [.ref a, .ty n] H Q := ⟨_, _, _, _, b, rfl, .ty _, .base (.tup h), kit_ty k, q⟩
theorem isi_st {z : Str} (q : Q (.bl false) H) : rIsi K [.str z, .ty "tuple"] H Q := isi_s (by decide +kernel) q
theorem isi_ss {z : Str} (q : Q (.bl true) H) : rIsi K [.str z, .ty "str"] H Q := isi_s (by decide +kernel) q
theorem isi_it {z : Int} (q : Q (.bl false) H) : rIsi K [.int z, .ty "tuple"] H Q := isi_i (by decide +kernel) q
theorem isi_is {z : Int} (q : Q (.bl false) H) : rIsi K [.int z, .ty "str"] H Q := isi_i (by decide +kernel) q
theorem isi_ib {z : Int} (q : Q (.bl false) H) : rIsi K [.int z, .ty "bool"] H Q := isi_i (by decide +kernel) q
theorem isi_ii {z : Int} (q : Q (.bl true) H) : rIsi K [.int z, .ty "int"] H Q := isi_i (by decide +kernel) q
theorem isi_tt {a : Addr} {vs : List V} (h : H a = some (.tup vs)) (q : Q (.bl true) H) : rIsi K [.ref a, .ty "tuple"] H Q := isi_t h (by decide +kernel) q
theorem w_isN {C : Prop} (q : C) : V.non = V.non ∧ C := ⟨rfl, q⟩
theorem w_isB {a b : Bool} (q : Q (.bl (decide (a = b))) H) : rIsB (.bl a) (.bl b) H Q := ⟨a, b, rfl, rfl, q⟩
theorem w_notB {a b : Bool} (q : Q (.bl (!decide (a = b))) H) : rNotB (.bl a) (.bl b) H Q := ⟨a, b, rfl, rfl, q⟩
theorem w_tys {z : Str} {C : Prop} (q : C) : tyV K "str" (.str z) H ∧ C := ⟨rfl, q⟩
theorem w_revT {te : TE} (q : te σ H fun x H1 => ∃ a xs, x = .ref a ∧ SqT K H1 a xs ∧ ∀ p, H1 p = none → Q (.ref p) (upd H1 p (.tup xs.reverse))) : tRevT K te σ H Q := q
theorem w_andV {ta tb : TE} (q : ta σ H fun x H1 => ∃ c, x = .bl c ∧ if c = true then tb σ H1 Q else Q (.bl false) H1) : tAndV ta tb σ H Q := q
theorem w_orV {ta tb : TE} (q : ta σ H fun x H1 => ∃ c, x = .bl c ∧ if c = true then Q (.bl true) H1 else tb σ H1 Q) : tOrV ta tb σ H Q := q
theorem w_dnew (q : ∀ p, H p = none → Q (.ref p) (upd H p (.dK []))) : tDNewK σ H Q := q
theorem w_neB {i j : Bool} (q : Q (.bl (!decide (i = j))) H) : rNe (.bl i) (.bl j) H Q := ⟨rfl, by
  rw [show decide (V.bl i = V.bl j) = decide (i = j) from decide_eq_decide.mpr ⟨fun e => V.bl.inj e, fun e => e ▸ rfl⟩]
  exact q⟩
theorem w_chain {r1 r2 : R2} {ta tb tc : TE} (q : ta σ H fun x H1 => tb σ H1 fun y H2 => r1 x y H2 fun z H3 => ∃ k, z = .bl k ∧ if k = true then tc σ H3 fun u H4 => r2 y u H4 Q else Q (.bl false) H3) : tChain r1 r2 ta tb tc σ H Q := q
theorem sm_new {p : Addr} {o : HO} (h : H p = none) : Same H (upd H p o) := fun b u e => by rw [upd_ne (ne_of_none e h)]; exact e
end
local macro_rules | `(tactic| walk_at "s0") => `(tactic| with_reducible first
  | apply w_ckw | apply w_chain | apply w_neB | apply w_andV | apply w_orV | apply w_dnew | apply w_ck0 | apply w_gcons | apply w_gnil | apply isi_st | apply isi_ss | apply isi_it | apply isi_is | apply isi_ib | apply isi_ii | (apply isi_tt; (case h => with_unfolding_all walk_at "hp"))
  | apply w_isN | apply w_isB | apply w_notB | apply w_tys | apply w_revT | (apply w_gtup; (case h => with_unfolding_all walk_at "st"); (case e => with_unfolding_all rfl)))
/-! ### free atoms -/
theorem w_inT {K : PySem.W.Frag} {H : Hp} {Q : VK} {p : Addr} {xs : List V} {x : V} (h : SqT K H p xs) (fx : flatV x = true) (fs : xs.all flatV = true) (q : Q (.bl (inV x xs)) H) : rIn K false x (.ref p) H Q := ⟨p, xs, rfl, .inr h, fx, fs, q⟩
theorem w_ninT {K : PySem.W.Frag} {H : Hp} {Q : VK} {p : Addr} {xs : List V} {x : V} (h : SqT K H p xs) (fx : flatV x = true) (fs : xs.all flatV = true) (q : Q (.bl (!inV x xs)) H) : rIn K true x (.ref p) H Q := ⟨p, xs, rfl, .inr h, fx, fs, q⟩
theorem w_ninL {K : PySem.W.Frag} {H : Hp} {Q : VK} {p : Addr} {xs : List V} {x : V} (h : SqL K H p xs) (fx : flatV x = true) (fs : xs.all flatV = true) (q : Q (.bl (!inV x xs)) H) : rIn K true x (.ref p) H Q := ⟨p, xs, rfl, .inl h, fx, fs, q⟩
theorem atI0 {x : V} {r : List V} : atI (x :: r) 0 = some x := atI_nat (j := 0) rfl
theorem atI1 {x y : V} {r : List V} : atI (x :: y :: r) 1 = some y := atI_nat (j := 1) rfl
theorem atI2 {x y z : V} {r : List V} : atI (x :: y :: z :: r) 2 = some z := atI_nat (j := 2) rfl
/-- what is_free says of an atom with the word k and the items r behind it -/
def frV (gs : List V) (k : Str) (r : List V) : Bool :=
  if k = "own" then !inV (r.getD 0 .non) gs
  else if k = "both" then (!inV (r.getD 0 .non) gs) || !inV (r.getD 1 .non) gs
  else inV (.str k) [.str "host", .str "word", .str "road"]
structure Frk (k : Str) (r : List V) : Prop where
  own : k = "own" → ∃ x r', r = x :: r' ∧ flatV x = true
  both : k = "both" → ∃ x y r', r = x :: y :: r' ∧ flatV x = true ∧ flatV y = true
theorem Frk.else {k : Str} {r : List V} (h1 : k ≠ "own") (h2 : k ≠ "both") : Frk k r := ⟨fun e => absurd e h1, fun e => absurd e h2⟩
def sp_isfree (K : PySem.W.Frag) : Sp := fun vs H Q _ => ∃ (g t : Addr) (gs : List V) (k : Str) (r : List V), vs = [.ref g, .ref t] ∧ SqT K H g gs ∧ gs.all flatV = true ∧ SqT K H t (.str k :: r) ∧ Frk k r ∧ ∀ H', Same H H' → Q (.bl (frV gs k r)) H'
def sp_says (K : PySem.W.Frag) : Sp := fun vs H Q _ => ∃ (g t : Addr) (gs : List V) (k : Str) (r : List V), vs = [.ref g, .ref t, .bl (frV gs k r)] ∧ SqT K H g gs ∧ gs.all flatV = true ∧ SqT K H t (.str k :: r) ∧ Frk k r ∧ ∀ H', Same H H' → Q (.bl true) H'
def sp_composed : Sp := fun vs H Q _ => ∃ (t : Addr) (z : Str), vs = [.ref t, .str z] ∧ ∀ (l p1 p2 p3 p4 p5 : Addr) (H' : Hp), Same H H' → H' l = some (.lst [.ref p1, .ref p2, .ref p3, .ref p4, .ref p5]) →
  H' p1 = some (.tup [.str "pair", .ref t, .ref t]) → H' p2 = some (.tup [.str "lock", .ref t, .ref t]) → H' p3 = some (.tup [.str "digest", .ref t]) → H' p4 = some (.tup [.str "box", .ref t, .str z]) → H' p5 = some (.tup [.str "stamp", .ref t, .str z]) → Q (.ref l) H'
section
variable {P : Program} {w : World} {K : PySem.W.Frag} {mg : Str → Option Value} {base : Heap}
theorem okis_free (T : Top K mg) : FnOk P w K mg base CX0 1 T.fis_free T.dis_free ["good", "atom"] (sp_isfree K) := by
  refine T.Fis_free.ok scis_free (fun vs H Q E h => ?_) (fun cdv A outer s H vs Q E hr h => ?_)
  · obtain ⟨g, t, gs, k, r, rfl, _⟩ := h
    rfl
  · obtain ⟨g, t, gs, k, r, rfl, hg, fs, ht, c, q⟩ := h
    refine ⟨_, (pss_cons (ps_set (i := 2) scis_free.nd rfl (Or.inl rfl) (pe_ix ix_tup (pv 1) pe_int (fun _ _ => rfl)))
    (pss_cons (ps_if (pt_cmpR op_eq (pv 2) pe_str (nomark _))
     (pss_one (ps_ret (pe_cmpR op_notIn_seq (pe_ix ix_tup (pv 1) pe_int (fun _ _ => rfl)) (pv 0) (by rfl))))
     pss_nil)
     (pss_cons (ps_if (pt_cmpR op_eq (pv 2) pe_str (nomark _))
      (pss_one (ps_ret (pe_or (pe_cmpR op_notIn_seq (pe_ix ix_tup (pv 1) pe_int (fun _ _ => rfl)) (pv 0) (by rfl)) (pe_one (pe_cmpR op_notIn_seq (pe_ix ix_tup (pv 1) pe_int (fun _ _ => rfl)) (pv 0) (by rfl))))))
      pss_nil)
      (pss_one (ps_ret (pe_cmpR op_in_seq (pv 2) (pe_tup (pa_cons pe_str (pa_cons pe_str (pa_cons pe_str pa_nil)))) (by rfl))))))), ?_⟩
    repeat walk_at "s"
    refine w_ixT ht atI0 ?_
    repeat walk_at "s"
    refine ite2 (fun h1 => ?_) (fun h1 => ?_)
    · have hk : k = "own" := of_decide_eq_true h1
      obtain ⟨x, r', rfl, fx⟩ := c.own hk
      have e : frV gs k (x :: r') = !inV x gs := by unfold frV; rw [if_pos hk]; rfl
      rw [e] at q
      repeat walk_at "s"
      refine w_ixT ht atI1 ?_
      repeat walk_at "s"
      refine w_ninT hg fx fs ?_
      exact q H (Same.refl H)
    · have hk : k ≠ "own" := of_decide_eq_false (ofb h1)
      repeat walk_at "s"
      refine ite2 (fun h2 => ?_) (fun h2 => ?_)
      · have hk2 : k = "both" := of_decide_eq_true h2
        obtain ⟨x, y, r', rfl, fx, fy⟩ := c.both hk2
        have e : frV gs k (x :: y :: r') = ((!inV x gs) || !inV y gs) := by unfold frV; rw [if_neg hk, if_pos hk2]; rfl
        rw [e] at q
        repeat walk_at "s"
        refine w_ixT ht atI1 ?_
        repeat walk_at "s"
        refine w_ninT hg fx fs ?_
        repeat walk_at "s"
        refine ite2 (fun h3 => ?_) (fun h3 => ?_)
        · rw [h3, Bool.true_or] at q
          exact q H (Same.refl H)
        · rw [ofb h3, Bool.false_or] at q
          repeat walk_at "s"
          refine w_ixT ht atI2 ?_
          repeat walk_at "s"
          refine w_ninT hg fy fs ?_
          exact q H (Same.refl H)
      · have hk2 : k ≠ "both" := of_decide_eq_false (ofb h2)
        have e : frV gs k r = inV (.str k) [.str "host", .str "word", .str "road"] := by unfold frV; rw [if_neg hk, if_neg hk2]
        rw [e] at q
        repeat walk_at "s"
        refine ⟨by walk_at "len", fun p hp => ?_⟩
        refine w_inT (SqT.of upd_same) rfl rfl ?_
        exact q _ (sm_new hp)
theorem ok_law_says (T : Top K mg) : FnOk P w K mg base CX0 2 T.f_law_says T.d_law_says ["good", "term", "due"] (sp_says K) := by
  refine T.F_law_says.ok sc_law_says (fun vs H Q E h => ?_) (fun cdv A outer s H vs Q E hr h => ?_)
  · obtain ⟨g, t, gs, k, r, rfl, _⟩ := h
    rfl
  · obtain ⟨g, t, gs, k, r, rfl, hg, fs, ht, c, q⟩ := h
    refine ⟨_, (pss_cons (ps_set (i := 3) sc_law_says.nd rfl (Or.inl rfl) (pe_call (okis_free T) hr (by rfl) T.gis_free T.Fis_free.kp T.bis_free .nil pass0 (pa_cons (pv 0) (pa_cons (pv 1) pa_nil))))
    (pss_cons (ps_if (pt_val (pv 2))
     (pss_one (ps_ret (pe_cmpR op_isBl (pv 3) pe_bl (nomark _))))
     pss_nil)
     (pss_one (ps_ret (pe_cmpR op_isBl (pv 3) pe_bl (nomark _)))))), ?_⟩
    repeat walk_at "s"
    refine ⟨g, t, gs, k, r, rfl, hg, fs, ht, c, fun H1 s1 => ?_⟩
    generalize frV gs k r = b
    repeat walk_at "s"
    cases b with
    | true =>
      refine iteT ?_
      repeat walk_at "s"
      exact q H1 s1
    | false =>
      refine iteF ?_
      repeat walk_at "s"
      exact q H1 s1
theorem ok_law_composed (T : Top K mg) : FnOk P w K mg base CX0 1 T.f_law_composed T.d_law_composed ["term", "name"] sp_composed := by
  refine T.F_law_composed.ok sc_law_composed (fun vs H Q E h => ?_) (fun cdv A outer s H vs Q E hr h => ?_)
  · obtain ⟨t, z, rfl, _⟩ := h
    rfl
  · obtain ⟨t, z, rfl, q⟩ := h
    refine ⟨_, (pss_one (ps_ret (pe_lst (pa_cons (pe_tup (pa_cons pe_str (pa_cons (pv 0) (pa_cons (pv 0) pa_nil)))) (pa_cons (pe_tup (pa_cons pe_str (pa_cons (pv 0) (pa_cons (pv 0) pa_nil)))) (pa_cons (pe_tup (pa_cons pe_str (pa_cons (pv 0) pa_nil))) (pa_cons (pe_tup (pa_cons pe_str (pa_cons (pv 0) (pa_cons (pv 1) pa_nil)))) (pa_cons (pe_tup (pa_cons pe_str (pa_cons (pv 0) (pa_cons (pv 1) pa_nil)))) pa_nil)))))))), ?_⟩
    repeat walk_at "s"
    refine ⟨by walk_at "len", fun p1 h1 => ?_⟩
    repeat walk_at "s"
    refine ⟨by walk_at "len", fun p2 h2 => ?_⟩
    repeat walk_at "s"
    refine ⟨by walk_at "len", fun p3 h3 => ?_⟩
    repeat walk_at "s"
    refine ⟨by walk_at "len", fun p4 h4 => ?_⟩
    repeat walk_at "s"
    refine ⟨by walk_at "len", fun p5 h5 => ?_⟩
    repeat walk_at "s"
    refine ⟨by walk_at "len", fun l hl => ?_⟩
    have s1 := sm_new (o := .tup [.str "pair", .ref t, .ref t]) h1
    have s2 := sm_new (o := .tup [.str "lock", .ref t, .ref t]) h2
    have s3 := sm_new (o := .tup [.str "digest", .ref t]) h3
    have s4 := sm_new (o := .tup [.str "box", .ref t, .str z]) h4
    have s5 := sm_new (o := .tup [.str "stamp", .ref t, .str z]) h5
    have s6 := sm_new (o := .lst [.ref p1, .ref p2, .ref p3, .ref p4, .ref p5]) hl
    exact q l p1 p2 p3 p4 p5 _ (((((s1.trans s2).trans s3).trans s4).trans s5).trans s6) upd_same (s6 _ _ (s5 _ _ (s4 _ _ (s3 _ _ (s2 _ _ upd_same))))) (s6 _ _ (s5 _ _ (s4 _ _ (s3 _ _ upd_same)))) (s6 _ _ (s5 _ _ (s4 _ _ upd_same))) (s6 _ _ (s5 _ _ upd_same)) (s6 _ _ upd_same)
end
/-! ### the good hosts -/
theorem Flow.isl2 {H : Hp} {a c : Addr} (h : Flow H a c) : ∃ xs, H a = some (.lst xs) := by
  obtain ⟨_, _, _, _, _, ha, _⟩ := h.ha
  exact ⟨_, ha⟩
def sp_good : Sp := fun vs H Q _ => ∃ (a c nl : Addr) (zs : List Str), vs = [.ref a, .ref nl] ∧ Flow H a c ∧ H nl = some (.lst (zs.map V.str)) ∧ nl ≠ a ∧ zs.length ≤ 20 ∧ (∀ z ∈ zs, Nm z) ∧
  ∀ (g : Addr) (gs : List Str) (H' : Hp), H' g = some (.tup (gs.map V.str)) → g ≠ a → (∀ z ∈ gs, Nm z) → gs.length ≤ 30 → Go a c H H' → Q (.ref g) H'
theorem str_get {zs : List Str} {i : Nat} {x : V} (h : (zs.map V.str)[i]? = some x) : ∃ z, zs[i]? = some z ∧ z ∈ zs ∧ x = .str z := by
  rw [List.getElem?_map] at h
  cases e : zs[i]? with
  | none => rw [e] at h; cases h
  | some z => rw [e] at h; cases h; exact ⟨z, rfl, List.mem_of_getElem? e, rfl⟩
theorem flat_strs (zs : List Str) : (zs.map V.str).all flatV = true := by
  rw [List.all_eq_true]
  intro x hx
  obtain ⟨z, _, rfl⟩ := List.mem_map.mp hx
  rfl
theorem mem_snoc {P : Str → Prop} {zs : List Str} {z : Str} (h : ∀ y ∈ zs, P y) (hz : P z) : ∀ y ∈ zs ++ [z], P y := fun y hy => by
  rcases List.mem_append.mp hy with h' | h'
  · exact h y h'
  · cases List.mem_singleton.mp h'; exact hz
theorem map_snoc (zs : List Str) (z : Str) : zs.map V.str ++ [V.str z] = (zs ++ [z]).map V.str := by rw [List.map_append]; rfl
section
variable {P : Program} {w : World} {K : PySem.W.Frag} {mg : Str → Option Value} {base : Heap}
theorem ok_law_good (T : Top K mg) : FnOk P w K mg base CX0 5 T.f_law_good T.d_law_good ["flow", "names"] sp_good := by
  refine T.F_law_good.ok sc_law_good (fun vs H Q E h => ?_) (fun cdv A outer s H vs Q E hr h => ?_)
  · obtain ⟨a, c, nl, zs, rfl, _⟩ := h
    rfl
  · obtain ⟨a, c, nl, zs, rfl, F, hnl, na, hzl, hzs, q⟩ := h
    refine ⟨_, (pss_cons (ps_if (pt_cmpR op_eq (pe_call (ok_law_draw T) (hr.mono (by decide)) (by rfl) T.g_law_draw T.F_law_draw.kp T.b_law_draw .nil pass0 (pa_cons (pv 0) (pa_cons pe_int pa_nil))) pe_int (nomark _))
    (pss_one (ps_ret (pe_tup pa_nil)))
    pss_nil)
    (pss_cons (ps_setLc (i := 2) (own := [("name", 3)]) (g := gName 3) (by rfl) sc_law_good.nd rfl rfl (sw_true rfl rfl rfl (by decide +kernel)) (pi_list (pv 1)) (blkOk_by (own := [("name", 3)]) (N := N_law_good) (sc := defScope s_law_good) (by decide +kernel)) (fun _ _ _ _ _ => (pg_name (i := 3) sc_law_good.nd rfl (Or.inl rfl))) (fun _ _ _ _ _ => (pts_one (pt_cmpR op_eq (pe_call (ok_law_draw T) (hr.mono (by decide)) (by rfl) T.g_law_draw T.F_law_draw.kp T.b_law_draw .nil pass0 (pa_cons (pv 0) (pa_cons pe_int pa_nil))) pe_int (nomark _)))) (fun _ _ _ _ _ => (pe_callTy call_str_any (by rfl) T.z_str (by decide +kernel) (pa_cons (pv 3) pa_nil))))
     (pss_cons (ps_for PassesOwn.never rfl (pi_range1 (by rfl) T.z_range (pa_cons (pe_call (ok_law_draw T) (hr.mono (by decide)) (by rfl) T.g_law_draw T.F_law_draw.kp T.b_law_draw .nil pass0 (pa_cons (pv 0) (pa_cons pe_int pa_nil))) pa_nil)) (pg_name (i := 4) sc_law_good.nd rfl (Or.inl rfl))
      (pss_one (ps_expr (pe_bm PySem.F.plainAttrs_list PySem.F.slot_list_append PySem.F.type_list_append mt_append (pv 2) (pa_cons (pe_call (ok_law_name T) hr (by rfl) T.g_law_name T.F_law_name.kp T.b_law_name .nil pass0 (pa_cons (pv 0) pa_nil)) pa_nil)))))
      (pss_cons (ps_set (i := 5) sc_law_good.nd rfl (Or.inl rfl) (pe_lst pa_nil))
       (pss_cons (ps_for PassesOwn.never rfl (pi_list (pe_callB cr_sortedS (by rfl) T.z_sorted (by decide +kernel) (pa_cons (pe_lc (own := [("name", 3)]) (g := gName 3) (by rfl) sc_law_good.nd (pi_list (pv 2)) (blkOk_by (own := [("name", 3)]) (N := N_law_good) (sc := defScope s_law_good) (by decide +kernel)) (fun _ _ _ _ _ => (pg_name (i := 3) sc_law_good.nd rfl (Or.inl rfl))) (fun _ _ _ _ _ => pts_nil) (fun _ _ _ _ _ => (pe_callTy call_str_any (by rfl) T.z_str (by decide +kernel) (pa_cons (pv 3) pa_nil)))) pa_nil))) (pg_name (i := 3) sc_law_good.nd rfl (Or.inl rfl))
        (pss_one (ps_if (pt_cmpR op_notIn_seq (pv 3) (pv 5) (by rfl))
         (pss_one (ps_expr (pe_bm PySem.F.plainAttrs_list PySem.F.slot_list_append PySem.F.type_list_append mt_append (pv 5) (pa_cons (pv 3) pa_nil))))
         pss_nil)))
        (pss_one (ps_ret (pe_callTy call_tuple_of (by rfl) T.z_tuple (by decide +kernel) (pa_cons (pv 5) pa_nil))))))))), ?_⟩
    repeat walk_at "s"
    refine ⟨a, c, 8, rfl, F, by omega, by omega, fun d H1 d0 d1 g1 => ?_⟩
    repeat walk_at "s"
    refine ite2 (fun h => ?_) (fun h => ?_)
    · repeat walk_at "s"
      refine ⟨by walk_at "len", fun p hp => ?_⟩
      exact q p [] _ upd_same (g1.fl.na hp) (fun _ h => (by cases h)) (Nat.zero_le _) (g1.new hp)
    · have hnl1 := g1.at hnl na
      repeat walk_at "s"
      intro D hD
      have hD0 := g1.un hD
      have nDa := g1.fl.na hD
      have nDc := g1.fl.nc hD
      refine lc_list (K := K) (a := nl) (xs := zs.map V.str) (fun i H2 => ∃ gs : List Str, H2 D = some (.lst (gs.map V.str)) ∧ (∀ z ∈ gs, Nm z) ∧ gs.length ≤ i ∧ Go a c H H2) ⟨[], upd_same, (fun _ h => by cases h), Nat.le_refl _, g1.new hD⟩ (fun i H2 _ ⟨_, _, _, _, g2⟩ => SqL.of (g2.at hnl na)) ?_ ?_
      · rintro i x H2 hi ⟨gs, e2, hgs, hgl, g2⟩
        obtain ⟨z, hz, hzm, rfl⟩ := str_get hi
        have hil : i < zs.length := (List.getElem?_eq_some_iff.mp hz).1
        repeat walk_at "s"
        refine ⟨a, c, 2, rfl, g2.fl, by omega, by omega, fun d H3 d0 d1 g3 => ?_⟩
        repeat walk_at "s"
        have e3 := g3.at e2 nDa
        refine ite2 (fun h => ?_) (fun h => ?_)
        · repeat walk_at "s"
          refine w_strS ?_
          refine ⟨_, e3, ?_, gs ++ [z], ?_, mem_snoc hgs (hzs z hzm), ?_, (g2.trans g3).mut hD0 nDa nDc⟩
          · rw [List.length_map]; exact small1000 (by omega)
          · rw [upd_same, map_snoc]
          · rw [List.length_append, List.length_singleton]; omega
        · exact ⟨gs, e3, hgs, by omega, g2.trans g3⟩
      · rintro H2 ⟨gs, e2, hgs, hgl, g2⟩
        rw [List.length_map] at hgl
        repeat walk_at "s"
        refine ⟨a, c, 3, rfl, g2.fl, by omega, by omega, fun d H3 d0 d1 g3 => ?_⟩
        repeat walk_at "s"
        refine for_range (lo := 0) (n := d.toNat) (fun i σ H4 => ∃ (gs : List Str) (v : Option V), σ = [some (.ref a), some (.ref nl), some (.ref D), none, v, none] ∧ H4 D = some (.lst (gs.map V.str)) ∧ (∀ z ∈ gs, Nm z) ∧ gs.length ≤ 20 + i ∧ Go a c H H4) ⟨gs, none, rfl, g3.at e2 nDa, hgs, by omega, g2.trans g3⟩ ?_ ?_
        · rintro i σ H4 hi ⟨gs, v, rfl, e4, hgs, hgl, g4⟩
          repeat walk_at "s"
          refine ⟨a, c, rfl, g4.fl, fun z H5 hz g5 => ?_⟩
          repeat walk_at "s"
          refine w_append (g5.at e4 nDa) (by rw [List.length_map]; exact small1000 (by omega)) ?_
          repeat walk_at "s"
          refine ⟨gs ++ [z], _, rfl, ?_, mem_snoc hgs hz, ?_, (g4.trans g5).mut hD0 nDa nDc⟩
          · rw [upd_same, map_snoc]
          · rw [List.length_append, List.length_singleton]; omega
        · rintro σ H4 ⟨gs, v, rfl, e4, hgs, hgl, g4⟩
          have hgl' : gs.length ≤ 23 := by omega
          clear hgl
          repeat walk_at "s"
          refine ⟨by walk_at "len", fun A1 hA => ?_⟩
          have nAa := g4.fl.na hA
          have nAc := g4.fl.nc hA
          have hA0 := g4.un hA
          have nDA : D ≠ A1 := ne_of_none e4 hA
          have g5 : Go a c H (upd H4 A1 (.lst [])) := g4.new hA
          have e5 : upd H4 A1 (.lst []) D = some (.lst (gs.map V.str)) := by rw [upd_ne nDA]; exact e4
          have a5 : upd H4 A1 (.lst []) A1 = some (.lst []) := upd_same
          generalize upd H4 A1 (.lst []) = H5 at g5 e5 a5 ⊢
          repeat walk_at "s"
          intro D2 hD2
          refine lc_list (K := K) (a := D) (xs := gs.map V.str) (fun i H6 => H6 D2 = some (.lst ((gs.take i).map V.str)) ∧ Same H5 H6) ⟨upd_same, sm_new hD2⟩ (fun i H6 _ ⟨_, s6⟩ => SqL.of (s6 _ _ e5)) ?_ ?_
          · rintro i x H6 hi ⟨e6, s6⟩
            obtain ⟨z, hz, hzm, rfl⟩ := str_get hi
            repeat walk_at "s"
            refine w_strS ?_
            refine ⟨_, e6, ?_, ?_, fun x o h => ?_⟩
            · rw [List.length_map, List.length_take]; exact small1000 (by omega)
            · rw [upd_same, map_snoc, List.take_add_one, hz]; rfl
            · rw [upd_ne (ne_of_none h hD2)]; exact s6 x o h
          · rintro H6 ⟨e6, s6⟩
            rw [List.length_map, List.take_length] at e6
            repeat walk_at "s"
            refine ⟨D2, gs, rfl, SqL.of e6, by omega, fun ys p pe so hp => ?_⟩
            have hys : ∀ y ∈ ys, Nm y := fun y hy => hgs y (pe.subset hy)
            have hyl : ys.length ≤ 23 := by rw [pe.length_eq]; exact hgl'
            have s7 : Same H5 (upd H6 p (.lst (ys.map V.str))) := s6.trans (sm_new hp)
            have g7 := g5.same s7
            have a7 := s7 _ _ a5
            have e7 : upd H6 p (.lst (ys.map V.str)) p = some (.lst (ys.map V.str)) := upd_same
            have npA : p ≠ A1 := by intro z; subst z; rw [s6 _ _ a5] at hp; cases hp
            generalize upd H6 p (.lst (ys.map V.str)) = H7 at g7 a7 e7 ⊢
            have npa : p ≠ a := by obtain ⟨xs, h⟩ := (g5.same s6).fl.isl2; exact (ne_of_none h hp).symm
            repeat walk_at "s"
            refine for_list (K := K) (a := p) (xs := ys.map V.str) (fun i σ H8 => ∃ (as : List Str) (v3 : Option V), σ = [some (.ref a), some (.ref nl), some (.ref D), v3, v, some (.ref A1)] ∧ H8 A1 = some (.lst (as.map V.str)) ∧ H8 p = some (.lst (ys.map V.str)) ∧ (∀ z ∈ as, Nm z) ∧ as.length ≤ i ∧ Go a c H H8) ⟨[], none, rfl, a7, e7, (fun _ h => by cases h), Nat.le_refl _, g7⟩ (fun i σ H8 _ ⟨_, _, _, _, e8, _⟩ => SqL.of e8) ?_ ?_
            · rintro i x σ H8 hi ⟨as, v3, rfl, a8, e8, has, hal, g8⟩
              obtain ⟨z, hz, hzm, rfl⟩ := str_get hi
              have hil : i < ys.length := (List.getElem?_eq_some_iff.mp hz).1
              repeat walk_at "s"
              refine w_ninL (SqL.of a8) rfl (flat_strs _) ?_
              repeat walk_at "s"
              refine ite2 (fun h => ?_) (fun h => ?_)
              · repeat walk_at "s"
                refine w_append a8 (by rw [List.length_map]; exact small1000 (by omega)) ?_
                repeat walk_at "s"
                refine ⟨as ++ [z], _, rfl, ?_, ?_, mem_snoc has (hys z hzm), ?_, g8.mut hA0 nAa nAc⟩
                · rw [upd_same, map_snoc]
                · rw [upd_ne npA]; exact e8
                · rw [List.length_append, List.length_singleton]; omega
              · repeat walk_at "s"
                exact ⟨as, _, rfl, a8, e8, has, by omega, g8⟩
            · rintro σ H8 ⟨as, v3, rfl, a8, e8, has, hal, g8⟩
              rw [List.length_map] at hal
              repeat walk_at "s"
              refine ⟨A1, as.map V.str, rfl, .inl ⟨SqL.of a8, fun g hg => ?_⟩⟩
              exact q g as _ upd_same (g8.fl.na hg) has (by omega) (g8.new hg)
end
/-! ### all of a name, all keys -/
def Cs (gs : List V) (H : Hp) (x : V) : Prop := ∃ (p q : Addr) (k : Str) (r : List V), x = .ref p ∧ H p = some (.tup [.ref q, .bl (frV gs k r)]) ∧ H q = some (.tup (.str k :: r)) ∧ Frk k r
theorem Cs.mono {gs : List V} {H H' : Hp} {x : V} (h : Cs gs H x) (s : Same H H') : Cs gs H' x := by
  obtain ⟨p, q, k, r, rfl, h1, h2, f⟩ := h
  exact ⟨p, q, k, r, rfl, s _ _ h1, s _ _ h2, f⟩
theorem Cs.of {gs : List V} {H : Hp} {p q : Addr} {k : Str} {r : List V} {b : Bool} (h1 : H p = some (.tup [.ref q, .bl b])) (h2 : H q = some (.tup (.str k :: r))) (f : Frk k r) (e : frV gs k r = b) : Cs gs H (.ref p) := ⟨p, q, k, r, rfl, e ▸ h1, h2, f⟩
def Cz (gs : List V) (H : Hp) (x : V) : Prop := ∃ (p : Addr) (k : Str) (r : List V), x = .ref p ∧ H p = some (.tup (.str k :: r)) ∧ Frk k r ∧ frV gs k r = false
theorem Cz.mono {gs : List V} {H H' : Hp} {x : V} (h : Cz gs H x) (s : Same H H') : Cz gs H' x := by
  obtain ⟨p, k, r, rfl, h1, f, e⟩ := h
  exact ⟨p, k, r, rfl, s _ _ h1, f, e⟩
theorem upd_self {H : Hp} {a : Addr} (_ : H a = none) (o : HO) : upd H a o a = some o := upd_same
theorem cs_all6 {gs : List V} {H : Hp} {a b c d e f : V} (h1 : Cs gs H a) (h2 : Cs gs H b) (h3 : Cs gs H c) (h4 : Cs gs H d) (h5 : Cs gs H e) (h6 : Cs gs H f) : ∀ x ∈ ([a, b, c, d] ++ [e, f] : List V), Cs gs H x := by
  intro x hx
  simp only [List.cons_append, List.nil_append, List.mem_cons, List.not_mem_nil, or_false] at hx
  rcases hx with rfl | rfl | rfl | rfl | rfl | rfl <;> assumption
theorem frV_else {gs : List V} {k : Str} {r : List V} (h1 : k ≠ "own") (h2 : k ≠ "both") : frV gs k r = inV (.str k) [.str "host", .str "word", .str "road"] := by unfold frV; rw [if_neg h1, if_neg h2]
theorem frV_own {gs : List V} {x : V} {r : List V} : frV gs "own" (x :: r) = !inV x gs := by unfold frV; rw [if_pos rfl]; rfl
theorem frV_both {gs : List V} {x y : V} {r : List V} : frV gs "both" (x :: y :: r) = ((!inV x gs) || !inV y gs) := by unfold frV; rw [if_neg (by decide +kernel), if_pos rfl]; rfl
def sp_nright : Sp := fun vs H Q _ => ∃ (a c g : Addr) (gs : List Str) (z : Str), vs = [.ref a, .ref g, .str z] ∧ Flow H a c ∧ H g = some (.tup (gs.map V.str)) ∧ g ≠ a ∧ ∀ H', Go a c H H' → Q (.bl true) H'
def sp_kright : Sp := fun vs H Q _ => ∃ (g e : Addr) (gs zs : List Str), vs = [.ref g, .ref e] ∧ H g = some (.tup (gs.map V.str)) ∧ H e = some (.lst (zs.map V.str)) ∧ ∀ H', Same H H' → Q (.bl true) H'
section
variable {P : Program} {w : World} {K : PySem.W.Frag} {mg : Str → Option Value} {base : Heap}
theorem ok_law_name_right (T : Top K mg) : FnOk P w K mg base CX0 3 T.f_law_name_right T.d_law_name_right ["flow", "good", "name"] sp_nright := by
  refine T.F_law_name_right.ok sc_law_name_right (fun vs H Q E h => ?_) (fun cdv A outer s H vs Q E hr h => ?_)
  · obtain ⟨a, c, g, gs, z, rfl, _⟩ := h
    rfl
  · obtain ⟨a, c, g, gs, z, rfl, F, hg, na, q⟩ := h
    refine ⟨_, (pss_cons (ps_set (i := 3) sc_law_name_right.nd rfl (Or.inl rfl) (pe_call (ok_law_draw T) hr (by rfl) T.g_law_draw T.F_law_draw.kp T.b_law_draw .nil pass0 (pa_cons (pv 0) (pa_cons pe_int pa_nil))))
    (pss_cons (ps_set (i := 4) sc_law_name_right.nd rfl (Or.inl rfl) (pe_cmpR op_notIn_seq (pv 2) (pv 1) (by rfl)))
     (pss_cons (ps_set (i := 5) sc_law_name_right.nd rfl (Or.inl rfl) (pe_lst (pa_cons (pe_tup (pa_cons (pe_tup (pa_cons pe_str (pa_cons (pv 2) pa_nil))) (pa_cons pe_bl pa_nil))) (pa_cons (pe_tup (pa_cons (pe_tup (pa_cons pe_str (pa_cons (pv 2) pa_nil))) (pa_cons pe_bl pa_nil))) (pa_cons (pe_tup (pa_cons (pe_tup (pa_cons pe_str (pa_cons (pv 2) pa_nil))) (pa_cons (pv 4) pa_nil))) (pa_cons (pe_tup (pa_cons (pe_tup (pa_cons pe_str (pa_cons (pv 2) (pa_cons (pv 2) pa_nil)))) (pa_cons (pv 4) pa_nil))) pa_nil))))))
      (pss_cons (ps_set (i := 5) sc_law_name_right.nd rfl (Or.inl rfl) (pe_op op_cat (pv 5) (pe_lst (pa_cons (pe_tup (pa_cons (pe_tup (pa_cons pe_str (pa_cons (pv 3) (pa_cons (pv 2) pa_nil)))) (pa_cons pe_bl pa_nil))) (pa_cons (pe_tup (pa_cons (pe_tup (pa_cons pe_str (pa_cons (pv 3) (pa_cons (pv 2) pa_nil)))) (pa_cons pe_bl pa_nil))) pa_nil)))))
       (pss_cons (ps_for PassesOwn.never rfl (pi_list (pv 5)) (pg_tup (by rfl) (pgs_cons (pg_name (i := 6) sc_law_name_right.nd rfl (Or.inl rfl)) (pgs_cons (pg_name (i := 7) sc_law_name_right.nd rfl (Or.inl rfl)) pgs_nil)))
        (pss_cons (ps_if (pt_not (pt_val (pe_call (ok_law_says T) hr (by rfl) T.g_law_says T.F_law_says.kp T.b_law_says .nil pass0 (pa_cons (pv 1) (pa_cons (pv 6) (pa_cons (pv 7) pa_nil))))))
         (pss_one (ps_ret pe_bl))
         pss_nil)
         (pss_one (ps_for PassesOwn.never rfl (pi_list (pe_call (ok_law_composed T) (hr.mono (by decide)) (by rfl) T.g_law_composed T.F_law_composed.kp T.b_law_composed .nil pass0 (pa_cons (pv 6) (pa_cons (pv 2) pa_nil)))) (pg_name (i := 8) sc_law_name_right.nd rfl (Or.inl rfl))
          (pss_one (ps_if (pt_not (pt_val (pe_call (ok_law_says T) hr (by rfl) T.g_law_says T.F_law_says.kp T.b_law_says .nil pass0 (pa_cons (pv 1) (pa_cons (pv 8) (pa_cons pe_bl pa_nil))))))
           (pss_one (ps_ret pe_bl))
           pss_nil))))))
        (pss_one (ps_ret pe_bl))))))), ?_⟩
    repeat walk_at "s"
    refine ⟨a, c, 10, rfl, F, by omega, by omega, fun d H1 d0 d1 g1 => ?_⟩
    have hg1 := g1.at hg na
    repeat walk_at "s"
    refine w_ninT (SqT.of hg1) rfl (flat_strs _) ?_
    repeat walk_at "s"
    refine ⟨by walk_at "len", fun p1 h1 => ?_⟩
    repeat walk_at "s"
    refine ⟨by walk_at "len", fun p2 h2 => ?_⟩
    repeat walk_at "s"
    refine ⟨by walk_at "len", fun p3 h3 => ?_⟩
    repeat walk_at "s"
    refine ⟨by walk_at "len", fun p4 h4 => ?_⟩
    repeat walk_at "s"
    refine ⟨by walk_at "len", fun p5 h5 => ?_⟩
    repeat walk_at "s"
    refine ⟨by walk_at "len", fun p6 h6 => ?_⟩
    repeat walk_at "s"
    refine ⟨by walk_at "len", fun p7 h7 => ?_⟩
    repeat walk_at "s"
    refine ⟨by walk_at "len", fun p8 h8 => ?_⟩
    repeat walk_at "s"
    refine ⟨by walk_at "len", fun l1 k1 => ?_⟩
    repeat walk_at "s"
    refine ⟨by walk_at "len", fun p9 h9 => ?_⟩
    repeat walk_at "s"
    refine ⟨by walk_at "len", fun pa ha => ?_⟩
    repeat walk_at "s"
    refine ⟨by walk_at "len", fun pb hb => ?_⟩
    repeat walk_at "s"
    refine ⟨by walk_at "len", fun pc hc => ?_⟩
    repeat walk_at "s"
    refine ⟨by walk_at "len", fun l2 k2 => ?_⟩
    have n1 := sm_new (o := .tup [.str "host", .str z]) h1
    have n2 := sm_new (o := .tup [.ref p1, .bl true]) h2
    have n3 := sm_new (o := .tup [.str "word", .str z]) h3
    have n4 := sm_new (o := .tup [.ref p3, .bl true]) h4
    have n5 := sm_new (o := .tup [.str "own", .str z]) h5
    have n6 := sm_new (o := .tup [.ref p5, .bl (!inV (.str z) (gs.map V.str))]) h6
    have n7 := sm_new (o := .tup [.str "both", .str z, .str z]) h7
    have n8 := sm_new (o := .tup [.ref p7, .bl (!inV (.str z) (gs.map V.str))]) h8
    have m1 := sm_new (o := .lst [.ref p2, .ref p4, .ref p6, .ref p8]) k1
    have n9 := sm_new (o := .tup [.str "mark", .int d, .str z]) h9
    have na' := sm_new (o := .tup [.ref p9, .bl false]) ha
    have nb := sm_new (o := .tup [.str "var", .int d, .str z]) hb
    have nc := sm_new (o := .tup [.ref pb, .bl false]) hc
    have m2 := sm_new (o := .lst [.ref pa, .ref pc]) k2
    have Sc := m2
    have Sb := nc.trans Sc
    have Sa := nb.trans Sb
    have S9 := na'.trans Sa
    have Sl := n9.trans S9
    have S8 := m1.trans Sl
    have S7 := n8.trans S8
    have S6 := n7.trans S7
    have S5 := n6.trans S6
    have S4 := n5.trans S5
    have S3 := n4.trans S4
    have S2 := n3.trans S3
    have S1 := n2.trans S2
    have S0 := n1.trans S1
    have c1 := Cs.of (gs := gs.map V.str) (S2 p2 _ upd_same) (S1 p1 _ upd_same) (.else (by decide +kernel) (by decide +kernel)) (by rw [frV_else (by decide +kernel) (by decide +kernel)]; decide +kernel)
    have c2 := Cs.of (gs := gs.map V.str) (S4 p4 _ upd_same) (S3 p3 _ upd_same) (.else (by decide +kernel) (by decide +kernel)) (by rw [frV_else (by decide +kernel) (by decide +kernel)]; decide +kernel)
    have c3 := Cs.of (gs := gs.map V.str) (S6 p6 _ upd_same) (S5 p5 _ upd_same) ⟨fun _ => ⟨_, _, rfl, rfl⟩, fun e => absurd e (by decide +kernel)⟩ frV_own
    have c4 := Cs.of (gs := gs.map V.str) (S8 p8 _ upd_same) (S7 p7 _ upd_same) ⟨fun e => absurd e (by decide +kernel), fun _ => ⟨_, _, _, rfl, rfl, rfl⟩⟩ (by rw [frV_both, Bool.or_self])
    have c5 := Cs.of (gs := gs.map V.str) (Sa pa _ upd_same) (S9 p9 _ upd_same) (.else (by decide +kernel) (by decide +kernel)) (by rw [frV_else (by decide +kernel) (by decide +kernel)]; decide +kernel)
    have c6 := Cs.of (gs := gs.map V.str) (Sc pc _ upd_same) (Sb pb _ upd_same) (.else (by decide +kernel) (by decide +kernel)) (by rw [frV_else (by decide +kernel) (by decide +kernel)]; decide +kernel)
    have el1 := Sl l1 _ upd_same
    refine ⟨l1, l2, [.ref p2, .ref p4, .ref p6, .ref p8], [.ref pa, .ref pc], rfl, rfl, el1, upd_same, by walk_at "len", fun cs hcs => ?_⟩
    have M := sm_new (o := .lst ([.ref p2, .ref p4, .ref p6, .ref p8] ++ [.ref pa, .ref pc])) hcs
    have SS := S0.trans M
    have hcs' := cs_all6 (c1.mono M) (c2.mono M) (c3.mono M) (c4.mono M) (c5.mono M) (c6.mono M)
    have ecs := upd_self hcs (.lst ([.ref p2, .ref p4, .ref p6, .ref p8] ++ [.ref pa, .ref pc]))
    clear c1 c2 c3 c4 c5 c6 el1 Sc Sb Sa S9 Sl S8 S7 S6 S5 S4 S3 S2 S1 S0 m1 m2 n1 n2 n3 n4 n5 n6 n7 n8 n9 na' nb nc M
    generalize (upd _ cs (.lst ([.ref p2, .ref p4, .ref p6, .ref p8] ++ [.ref pa, .ref pc])) : Hp) = H2 at SS hcs' ecs ⊢
    generalize ([.ref p2, .ref p4, .ref p6, .ref p8] ++ [.ref pa, .ref pc] : List V) = xs at hcs' ecs ⊢
    have g2 := g1.same SS
    have hg2 := SS _ _ hg1
    repeat walk_at "s"
    refine for_list (K := K) (a := cs) (xs := xs) (fun i σ H3 => ∃ v6 v7 v8 : Option V, σ = [some (.ref a), some (.ref g), some (.str z), some (.int d), some (.bl (!inV (.str z) (gs.map V.str))), some (.ref cs), v6, v7, v8] ∧ Same H2 H3) ⟨none, none, none, rfl, Same.refl _⟩ (fun i σ H3 _ ⟨_, _, _, _, s3⟩ => SqL.of (s3 _ _ ecs)) ?_ ?_
    · rintro i x σ H3 hi ⟨v6, v7, v8, rfl, s3⟩
      obtain ⟨p, t, k, r, rfl, hp, ht, fk⟩ := (hcs' x (List.mem_of_getElem? hi)).mono s3
      have hg3 := s3 _ _ hg2
      repeat walk_at "s"
      refine ⟨g, t, gs.map V.str, k, r, rfl, SqT.of hg3, flat_strs _, SqT.of ht, fk, fun H4 s4 => ?_⟩
      repeat walk_at "s"
      refine iteF ?_
      repeat walk_at "s"
      refine ⟨t, z, rfl, fun l q1 q2 q3 q4 q5 H5 s5 el e1 e2 e3 e4 e5 => ?_⟩
      have hcz : ∀ x ∈ ([.ref q1, .ref q2, .ref q3, .ref q4, .ref q5] : List V), Cz (gs.map V.str) H5 x := by
        intro x hx
        simp only [List.mem_cons, List.not_mem_nil, or_false] at hx
        rcases hx with rfl | rfl | rfl | rfl | rfl
        · exact ⟨_, _, _, rfl, e1, .else (by decide +kernel) (by decide +kernel), by rw [frV_else (by decide +kernel) (by decide +kernel)]; decide +kernel⟩
        · exact ⟨_, _, _, rfl, e2, .else (by decide +kernel) (by decide +kernel), by rw [frV_else (by decide +kernel) (by decide +kernel)]; decide +kernel⟩
        · exact ⟨_, _, _, rfl, e3, .else (by decide +kernel) (by decide +kernel), by rw [frV_else (by decide +kernel) (by decide +kernel)]; decide +kernel⟩
        · exact ⟨_, _, _, rfl, e4, .else (by decide +kernel) (by decide +kernel), by rw [frV_else (by decide +kernel) (by decide +kernel)]; decide +kernel⟩
        · exact ⟨_, _, _, rfl, e5, .else (by decide +kernel) (by decide +kernel), by rw [frV_else (by decide +kernel) (by decide +kernel)]; decide +kernel⟩
      have s25 := s3.trans (s4.trans s5)
      have hg5 := s25 _ _ hg2
      generalize ([.ref q1, .ref q2, .ref q3, .ref q4, .ref q5] : List V) = ys at el hcz
      repeat walk_at "s"
      refine for_list (K := K) (a := l) (xs := ys) (fun i σ H6 => ∃ v8 : Option V, σ = [some (.ref a), some (.ref g), some (.str z), some (.int d), some (.bl (!inV (.str z) (gs.map V.str))), some (.ref cs), some (.ref t), some (.bl (frV (gs.map V.str) k r)), v8] ∧ Same H5 H6) ⟨_, rfl, Same.refl _⟩ (fun i σ H6 _ ⟨_, _, s6⟩ => SqL.of (s6 _ _ el)) ?_ ?_
      · rintro j y σ H6 hj ⟨v8, rfl, s6⟩
        obtain ⟨p', k', r', rfl, hp', fk', ef'⟩ := (hcz y (List.mem_of_getElem? hj)).mono s6
        have hg6 := s6 _ _ hg5
        repeat walk_at "s"
        refine ⟨g, p', gs.map V.str, k', r', by rw [ef']; rfl, SqT.of hg6, flat_strs _, SqT.of hp', fk', fun H7 s7 => ?_⟩
        repeat walk_at "s"
        refine iteF ?_
        repeat walk_at "s"
        exact ⟨_, rfl, s6.trans s7⟩
      · rintro σ H6 ⟨v8, rfl, s6⟩
        exact ⟨_, _, _, rfl, s25.trans s6⟩
    · rintro σ H3 ⟨v6, v7, v8, rfl, s3⟩
      repeat walk_at "s"
      exact q H3 (g2.same s3)
theorem ok_law_keys_right (T : Top K mg) : FnOk P w K mg base CX0 3 T.f_law_keys_right T.d_law_keys_right ["good", "names"] sp_kright := by
  refine T.F_law_keys_right.ok sc_law_keys_right (fun vs H Q E h => ?_) (fun cdv A outer s H vs Q E hr h => ?_)
  · obtain ⟨g, e, gs, zs, rfl, _⟩ := h
    rfl
  · obtain ⟨g, e, gs, zs, rfl, hg, he, q⟩ := h
    refine ⟨_, (pss_cons (ps_for PassesOwn.never rfl (pi_list (pv 1)) (pg_name (i := 2) sc_law_keys_right.nd rfl (Or.inl rfl))
    (pss_one (ps_for PassesOwn.never rfl (pi_list (pv 1)) (pg_name (i := 3) sc_law_keys_right.nd rfl (Or.inl rfl))
     (pss_one (ps_if (pt_cmpR op_le_str (pv 2) (pv 3) (nomark _))
      (pss_cons (ps_set (i := 4) sc_law_keys_right.nd rfl (Or.inl rfl) (pe_or (pe_cmpR op_notIn_seq (pv 2) (pv 0) (by rfl)) (pe_one (pe_cmpR op_notIn_seq (pv 3) (pv 0) (by rfl)))))
       (pss_one (ps_if (pt_not (pt_val (pe_call (ok_law_says T) hr (by rfl) T.g_law_says T.F_law_says.kp T.b_law_says .nil pass0 (pa_cons (pv 0) (pa_cons (pe_tup (pa_cons pe_str (pa_cons (pv 2) (pa_cons (pv 3) pa_nil)))) (pa_cons (pv 4) pa_nil))))))
        (pss_one (ps_ret pe_bl))
        pss_nil)))
      pss_nil)))))
    (pss_one (ps_ret pe_bl))), ?_⟩
    repeat walk_at "s"
    refine for_list (K := K) (a := e) (xs := zs.map V.str) (fun i σ H3 => ∃ v2 v3 v4 : Option V, σ = [some (.ref g), some (.ref e), v2, v3, v4] ∧ Same H H3) ⟨none, none, none, rfl, Same.refl _⟩ (fun i σ H3 _ ⟨_, _, _, _, s3⟩ => SqL.of (s3 _ _ he)) ?_ ?_
    · rintro i x σ H3 hi ⟨v2, v3, v4, rfl, s3⟩
      obtain ⟨z1, _, _, rfl⟩ := str_get hi
      have he3 := s3 _ _ he
      repeat walk_at "s"
      refine for_list (K := K) (a := e) (xs := zs.map V.str) (fun i σ H4 => ∃ v3 v4 : Option V, σ = [some (.ref g), some (.ref e), some (.str z1), v3, v4] ∧ Same H H4) ⟨_, _, rfl, s3⟩ (fun i σ H3 _ ⟨_, _, _, s3⟩ => SqL.of (s3 _ _ he)) ?_ ?_
      · rintro j y σ H4 hj ⟨v3, v4, rfl, s4⟩
        obtain ⟨z2, _, _, rfl⟩ := str_get hj
        have hg4 := s4 _ _ hg
        repeat walk_at "s"
        refine ite2 (fun h => ?_) (fun h => ?_)
        · repeat walk_at "s"
          refine w_ninT (SqT.of hg4) rfl (flat_strs _) ?_
          repeat walk_at "s"
          refine ite2 (fun h3 => ?_) (fun h3 => ?_)
          · repeat walk_at "s"
            refine ⟨by walk_at "len", fun p hp => ?_⟩
            repeat walk_at "s"
            refine ⟨g, p, _, _, _, ?_, SqT.of (sm_new hp _ _ hg4), flat_strs _, SqT.of upd_same, ⟨fun e => absurd e (by decide +kernel), fun _ => ⟨_, _, _, rfl, rfl, rfl⟩⟩, fun H5 s5 => ?_⟩
            · rw [frV_both, h3, Bool.true_or]; rfl
            repeat walk_at "s"
            refine iteF ?_
            repeat walk_at "s"
            exact ⟨_, _, rfl, s4.trans ((sm_new hp).trans s5)⟩
          · repeat walk_at "s"
            refine w_ninT (SqT.of hg4) rfl (flat_strs _) ?_
            repeat walk_at "s"
            refine ⟨by walk_at "len", fun p hp => ?_⟩
            repeat walk_at "s"
            refine ⟨g, p, _, _, _, ?_, SqT.of (sm_new hp _ _ hg4), flat_strs _, SqT.of upd_same, ⟨fun e => absurd e (by decide +kernel), fun _ => ⟨_, _, _, rfl, rfl, rfl⟩⟩, fun H5 s5 => ?_⟩
            · rw [frV_both, ofb h3, Bool.false_or]; rfl
            repeat walk_at "s"
            refine iteF ?_
            repeat walk_at "s"
            exact ⟨_, _, rfl, s4.trans ((sm_new hp).trans s5)⟩
        · exact ⟨_, _, rfl, s4⟩
      · rintro σ H4 ⟨v3, v4, rfl, s4⟩
        exact ⟨_, _, _, rfl, s4⟩
    · rintro σ H3 ⟨v2, v3, v4, rfl, s3⟩
      repeat walk_at "s"
      exact q H3 s3
end
/-! ### the law -/
def spLaw (K : PySem.W.Frag) : Sp := fun vs H Q _ => ∃ (a : Addr) (ns : List Int), vs = [.ref a] ∧ SqL K H a (ns.map V.int) ∧ ns.length ≤ 63 ∧ ∀ H', Q (.bl true) H'
theorem inV_self (z : Str) : inV (.str z) [.str z] = true := by
  unfold inV; simp [eqV]
theorem last_strs {zs : List Str} (h : 1 ≤ zs.length) : ∃ z, atI (zs.map V.str) (-1) = some (V.str z) := by
  rcases List.eq_nil_or_concat zs with rfl | ⟨r, d, rfl⟩
  · simp at h
  · refine ⟨d, ?_⟩
    rw [List.concat_eq_append, List.map_append]
    exact atI_last _ _
section
variable {P : Program} {w : World} {K : PySem.W.Frag} {mg : Str → Option Value} {base : Heap}
theorem oklaw (T : Top K mg) : FnOk P w K mg base CX0 8 T.flaw T.dlaw ["script"] (spLaw K) := by
  refine T.Flaw.ok sclaw (fun vs H Q E h => ?_) (fun cdv A outer s H vs Q E hr h => ?_)
  · obtain ⟨a, ns, rfl, _⟩ := h
    rfl
  · obtain ⟨sc, ns, rfl, hS, hns, q⟩ := h
    refine ⟨_, (pss_cons (ps_set (i := 1) sclaw.nd rfl (Or.inl rfl) (pe_call (ok_law_flow T) (hr.mono (by decide)) (by rfl) T.g_law_flow T.F_law_flow.kp T.b_law_flow .nil pass0 (pa_cons (pv 0) pa_nil)))
    (pss_cons (ps_set (i := 2) sclaw.nd rfl (Or.inl rfl) (pe_call (ok_law_names T) (hr.mono (by decide)) (by rfl) T.g_law_names T.F_law_names.kp T.b_law_names .nil pass0 (pa_cons (pv 1) (pa_cons (pe_op op_add pe_int (pe_call (ok_law_draw T) (hr.mono (by decide)) (by rfl) T.g_law_draw T.F_law_draw.kp T.b_law_draw .nil pass0 (pa_cons (pv 1) (pa_cons pe_int pa_nil)))) pa_nil))))
     (pss_cons (ps_set (i := 3) sclaw.nd rfl (Or.inl rfl) (pe_call (ok_law_good T) (hr.mono (by decide)) (by rfl) T.g_law_good T.F_law_good.kp T.b_law_good .nil pass0 (pa_cons (pv 1) (pa_cons (pv 2) pa_nil))))
      (pss_cons (ps_set (i := 4) sclaw.nd rfl (Or.inl rfl) (pe_op op_cat (pv 2) (pe_callTy call_list_of (by rfl) T.z_list (by decide +kernel) (pa_cons (pv 3) pa_nil))))
       (pss_cons (ps_for PassesOwn.never rfl (pi_list (pv 4)) (pg_name (i := 5) sclaw.nd rfl (Or.inl rfl))
        (pss_one (ps_if (pt_not (pt_val (pe_call (ok_law_name_right T) (hr.mono (by decide)) (by rfl) T.g_law_name_right T.F_law_name_right.kp T.b_law_name_right .nil pass0 (pa_cons (pv 1) (pa_cons (pv 3) (pa_cons (pv 5) pa_nil))))))
         (pss_one (ps_ret pe_bl))
         pss_nil)))
        (pss_cons (ps_for PassesOwn.never rfl (pi_list (pe_lst (pa_cons pe_int (pa_cons pe_int (pa_cons (pe_call (ok_law_draw T) (hr.mono (by decide)) (by rfl) T.g_law_draw T.F_law_draw.kp T.b_law_draw .nil pass0 (pa_cons (pv 1) (pa_cons pe_int pa_nil))) pa_nil))))) (pg_name (i := 6) sclaw.nd rfl (Or.inl rfl))
         (pss_one (ps_if (PW.pt (pw_or (pt_not (pt_val (pe_call (ok_law_says T) (hr.mono (by decide)) (by rfl) T.g_law_says T.F_law_says.kp T.b_law_says .nil pass0 (pa_cons (pv 3) (pa_cons (pe_tup (pa_cons pe_str (pa_cons (pv 6) pa_nil))) (pa_cons pe_bl pa_nil)))))) (pw_or1 (pt_not (pt_val (pe_call (ok_law_says T) (hr.mono (by decide)) (by rfl) T.g_law_says T.F_law_says.kp T.b_law_says .nil pass0 (pa_cons (pv 3) (pa_cons (pe_tup (pa_cons pe_str (pa_cons (pe_tup (pa_cons pe_str (pa_cons (pv 6) pa_nil))) pa_nil))) (pa_cons pe_bl pa_nil)))))))))
          (pss_one (ps_ret pe_bl))
          pss_nil)))
         (pss_cons (ps_set (i := 7) sclaw.nd rfl (Or.inl rfl) (pe_tup (pa_cons pe_str (pa_cons (pe_ix ix_list (pv 2) (pe_un un_neg pe_int) (fun _ _ => rfl)) pa_nil))))
          (pss_cons (ps_if (PW.pt (pw_or (pt_cmpR op_notBl (pe_callK0 (ks := ["atom", "good"]) (g := kwPermV [1, 0]) (gV := kwPermX [1, 0]) (okis_free T) (hr.mono (by decide)) (by rfl) T.gis_free T.Fis_free.kp T.kis_free_atom_good (fun r hl => kwPerm_vals r hl (by decide)) pass0 (pk_cons (pv 7) (pk_cons (pe_tup pa_nil) pk_nil))) pe_bl (nomark _)) (pw_or1 (pt_cmpR op_notBl (pe_callK0 (ks := ["good", "atom"]) (g := kwPermV [0, 1]) (gV := kwPermX [0, 1]) (okis_free T) (hr.mono (by decide)) (by rfl) T.gis_free T.Fis_free.kp T.kis_free_good_atom (fun r hl => kwPerm_vals r hl (by decide)) pass0 (pk_cons (pe_tup (pa_cons (pe_ix ix_list (pv 2) (pe_un un_neg pe_int) (fun _ _ => rfl)) pa_nil)) (pk_cons (pv 7) pk_nil))) pe_bl (nomark _)))))
           (pss_one (ps_ret pe_bl))
           pss_nil)
           (pss_one (ps_ret (pe_call (ok_law_keys_right T) (hr.mono (by decide)) (by rfl) T.g_law_keys_right T.F_law_keys_right.kp T.b_law_keys_right .nil pass0 (pa_cons (pv 3) (pa_cons (pv 4) pa_nil))))))))))))), ?_⟩
    repeat walk_at "s"
    refine ⟨sc, ns, rfl, hS, hns, fun a c H1 s1 hf hc F => ?_⟩
    repeat walk_at "s"
    refine ⟨a, c, 6, rfl, F, by omega, by omega, fun n5 H2 n0 n1 g2 => ?_⟩
    repeat walk_at "s"
    refine ⟨a, c, _, rfl, g2.fl, by omega, by omega, fun nl zs H3 hnl0 hnl hzl hzs g3 => ?_⟩
    have F3 := g3.fl
    have na : nl ≠ a := by
      obtain ⟨xs, h⟩ := g2.fl.isl2
      exact (ne_of_none h hnl0).symm
    repeat walk_at "s"
    refine ⟨a, c, nl, zs, rfl, F3, hnl, na, by omega, hzs, fun g gs H4 hg ga hgs hgl g4 => ?_⟩
    have hnl4 := g4.at hnl na
    have F4 := g4.fl
    repeat walk_at "s"
    intro l1 hl1
    have nl1 : nl ≠ l1 := ne_of_none hnl4 hl1
    refine ⟨nl, l1, _, _, rfl, rfl, by rw [upd_ne nl1]; exact hnl4, upd_same, by rw [List.length_map, List.length_map]; exact Nat.le_of_lt (small1000 (by omega)), fun e he => ?_⟩
    have s6 := (sm_new (o := .lst (gs.map V.str)) hl1).trans (sm_new (o := .lst (zs.map V.str ++ gs.map V.str)) he)
    have e6 := upd_self he (.lst (zs.map V.str ++ gs.map V.str))
    generalize upd (upd H4 l1 (.lst (gs.map V.str))) e (.lst (zs.map V.str ++ gs.map V.str)) = H6 at s6 e6 ⊢
    rw [← List.map_append] at e6
    have g6 : Go a c H3 H6 := g4.same s6
    have hnl6 := s6 _ _ hnl4
    have hg6 := s6 _ _ hg
    have F6 := g6.fl
    have ea : e ≠ a := by
      intro z
      subst z
      obtain ⟨xs, h⟩ := F4.isl2
      rw [sm_new hl1 _ _ h] at he
      cases he
    have h1z : 1 ≤ zs.length := by omega
    clear s6 he hl1 nl1
    repeat walk_at "s"
    refine for_list (K := K) (a := e) (xs := (zs ++ gs).map V.str) (fun i σ H7 => ∃ v5 : Option V, σ = [some (.ref sc), some (.ref a), some (.ref nl), some (.ref g), some (.ref e), v5, none, none] ∧ Go a c H6 H7) ⟨none, rfl, Go.refl F6⟩ (fun i σ H7 _ ⟨_, _, g7⟩ => SqL.of (g7.at e6 ea)) ?_ ?_
    · rintro i x σ H7 hi ⟨v5, rfl, g7⟩
      obtain ⟨z, _, _, rfl⟩ := str_get hi
      have hg7 := g7.at hg6 ga
      repeat walk_at "s"
      refine ⟨a, c, g, gs, z, rfl, g7.fl, hg7, ga, fun H8 g8 => ?_⟩
      repeat walk_at "s"
      refine iteF ?_
      repeat walk_at "s"
      exact ⟨_, rfl, g7.trans g8⟩
    · rintro σ H7 ⟨v5, rfl, g7⟩
      have hg7 := g7.at hg6 ga
      have hnl7 := g7.at hnl6 na
      have e7 := g7.at e6 ea
      repeat walk_at "s"
      refine ⟨a, c, 1000000, rfl, g7.fl, by omega, by omega, fun d H8 d0 d1 g8 => ?_⟩
      have hg8 := g8.at hg7 ga
      have hnl8 := g8.at hnl7 na
      have e8 := g8.at e7 ea
      repeat walk_at "s"
      refine ⟨by walk_at "len", fun q1 hq1 => ?_⟩
      have s9 := sm_new (o := .lst [.int 0, .int 999999, .int d]) hq1
      have e9 := upd_self hq1 (.lst [.int 0, .int 999999, .int d])
      generalize upd H8 q1 (.lst [.int 0, .int 999999, .int d]) = H9 at s9 e9 ⊢
      have hg9 := s9 _ _ hg8
      have hnl9 := s9 _ _ hnl8
      have e9' := s9 _ _ e8
      have hin : ∀ x ∈ ([.int 0, .int 999999, .int d] : List V), ∃ n : Int, x = .int n := by
        intro x hx
        simp only [List.mem_cons, List.not_mem_nil, or_false] at hx
        rcases hx with rfl | rfl | rfl
        · exact ⟨_, rfl⟩
        · exact ⟨_, rfl⟩
        · exact ⟨_, rfl⟩
      generalize ([.int 0, .int 999999, .int d] : List V) = ys at e9 hin
      repeat walk_at "s"
      refine for_list (K := K) (a := q1) (xs := ys) (fun i σ H7 => ∃ v6 : Option V, σ = [some (.ref sc), some (.ref a), some (.ref nl), some (.ref g), some (.ref e), v5, v6, none] ∧ Same H9 H7) ⟨none, rfl, Same.refl _⟩ (fun i σ H7 _ ⟨_, _, s7⟩ => SqL.of (s7 _ _ e9)) ?_ ?_
      · rintro i x σ H10 hi ⟨v6, rfl, s10⟩
        obtain ⟨n, rfl⟩ := hin x (List.mem_of_getElem? hi)
        have hg10 := s10 _ _ hg9
        repeat walk_at "s"
        refine ⟨by walk_at "len", fun p1 h1 => ?_⟩
        repeat walk_at "s"
        refine ⟨g, p1, _, _, _, ?_, SqT.of (sm_new h1 _ _ hg10), flat_strs _, SqT.of upd_same, .else (by decide +kernel) (by decide +kernel), fun H11 s11 => ?_⟩
        · rw [frV_else (by decide +kernel) (by decide +kernel)]
          rw [show inV (.str "road") [.str "host", .str "word", .str "road"] = true by decide +kernel]
          rfl
        have hg11 := s11 _ _ (sm_new h1 _ _ hg10)
        repeat walk_at "s"
        refine iteF ?_
        repeat walk_at "s"
        refine ⟨by walk_at "len", fun p2 h2 => ?_⟩
        repeat walk_at "s"
        refine ⟨by walk_at "len", fun p3 h3 => ?_⟩
        repeat walk_at "s"
        refine ⟨g, p3, _, _, _, ?_, SqT.of (sm_new h3 _ _ (sm_new h2 _ _ hg11)), flat_strs _, SqT.of upd_same, .else (by decide +kernel) (by decide +kernel), fun H12 s12 => ?_⟩
        · rw [frV_else (by decide +kernel) (by decide +kernel)]
          rw [show inV (.str "digest") [.str "host", .str "word", .str "road"] = false by decide +kernel]
          rfl
        repeat walk_at "s"
        refine iteF ?_
        repeat walk_at "s"
        exact ⟨_, rfl, (((((s10.trans (sm_new h1)).trans s11).trans (sm_new h2)).trans (sm_new h3)).trans s12)⟩
      · rintro σ H10 ⟨v6, rfl, s10⟩
        have hg10 := s10 _ _ hg9
        have hnl10 := s10 _ _ hnl9
        have e10 := s10 _ _ e9'
        obtain ⟨zl, atl⟩ := last_strs h1z
        repeat walk_at "s"
        refine w_ixL (SqL.of hnl10) atl ?_
        repeat walk_at "s"
        refine ⟨by walk_at "len", fun p1 h1 => ?_⟩
        have s11 := sm_new (o := .tup [.str "own", .str zl]) h1
        have e11 := upd_self h1 (.tup [.str "own", .str zl])
        generalize upd H10 p1 (.tup [.str "own", .str zl]) = H11 at s11 e11 ⊢
        have hg11 := s11 _ _ hg10
        have hnl11 := s11 _ _ hnl10
        have e12 := s11 _ _ e10
        repeat walk_at "s"
        refine ⟨by walk_at "len", fun p2 h2 => ?_⟩
        have s12 := sm_new (o := .tup []) h2
        repeat walk_at "s"
        refine ⟨rfl, p2, p1, [], "own", [.str zl], rfl, SqT.of upd_same, rfl, SqT.of (s12 _ _ e11), ⟨fun _ => ⟨_, _, rfl, rfl⟩, fun e => absurd e (by decide +kernel)⟩, fun H13 s13 => ?_⟩
        have s14 := s12.trans s13
        have hg13 := s14 _ _ hg11
        have hnl13 := s14 _ _ hnl11
        have e13 := s14 _ _ e12
        have e13' := s14 _ _ e11
        have fv : frV [] "own" [.str zl] = true := frV_own
        rw [fv]
        repeat walk_at "s"
        rw [decide_eq_true rfl]
        refine iteF ?_
        repeat walk_at "s"
        refine w_ixL (SqL.of hnl13) atl ?_
        repeat walk_at "s"
        refine ⟨by walk_at "len", fun p3 h3 => ?_⟩
        have s15 := sm_new (o := .tup [.str zl]) h3
        repeat walk_at "s"
        refine ⟨rfl, p3, p1, [.str zl], "own", [.str zl], rfl, SqT.of upd_same, rfl, SqT.of (s15 _ _ e13'), ⟨fun _ => ⟨_, _, rfl, rfl⟩, fun e => absurd e (by decide +kernel)⟩, fun H16 s16 => ?_⟩
        have s17 := s15.trans s16
        have hg16 := s17 _ _ hg13
        have e16 := s17 _ _ e13
        have fv2 : frV [.str zl] "own" [.str zl] = false := by rw [frV_own, inV_self]; rfl
        rw [fv2]
        repeat walk_at "s"
        rw [decide_eq_true rfl]
        refine iteF ?_
        repeat walk_at "s"
        exact ⟨g, e, gs, zs ++ gs, rfl, hg16, e16, fun H' _ => q H'⟩
end
theorem all_mk {l : PySem.W.OpenLaw} {w : World} {K : PySem.W.Frag} {h : Heap} {mg : Str → Option Value} {fa : Addr} (X : K.In h) (G : h.Ns mainGlobals mg) (hfa : mg "law" = some (.ref fa))
    {f0 f1 f2 f3 f4 f5 f6 f7 f8 f9 f10 f11 f12 f13 f14 : Addr} {od0 an0 od1 an1 od2 an2 od3 an3 od4 an4 od5 an5 od6 an6 od7 an7 od8 an8 od9 an9 od10 an10 od11 an11 od12 an12 od13 an13 od14 an14 : Option Addr} {sl0 sl1 sl2 sl3 sl4 sl5 sl6 sl7 sl8 sl9 sl10 sl11 sl12 sl13 sl14 : Array (Option Value)}
    {oc0 kV0 dc0 pm0 cd0 ct0 oc1 kV1 dc1 pm1 cd1 ct1 oc2 kV2 dc2 pm2 cd2 ct2 oc3 kV3 dc3 pm3 cd3 ct3 oc4 kV4 dc4 pm4 cd4 ct4 oc5 kV5 dc5 pm5 cd5 ct5 oc6 kV6 dc6 pm6 cd6 ct6 oc7 kV7 dc7 pm7 cd7 ct7 oc8 kV8 dc8 pm8 cd8 ct8 oc9 kV9 dc9 pm9 cd9 ct9 oc10 kV10 dc10 pm10 cd10 ct10 oc11 kV11 dc11 pm11 cd11 ct11 oc12 kV12 dc12 pm12 cd12 ct12 oc13 kV13 dc13 pm13 cd13 ct13 oc14 kV14 dc14 pm14 cd14 ct14 : Value}
    (a0 : PySem.W.nsIn K mainGlobals "is_free" = some (some (.ref f0))) (l0 : K.lookup f0 = some ⟨oc0, od0, .func (PySem.W.fnOf "is_free" "is_free" (defArgs sis_free) (defBody sis_free) (defScope sis_free) .none kV0 dc0 pm0 an0 cd0 ct0), sl0⟩) (c0 : PySem.W.codeIn K cd0 "is_free" = true) (k0 : PySem.W.keepIn K (.ref f0) = true)
    (a1 : PySem.W.nsIn K mainGlobals "_law_flow" = some (some (.ref f1))) (l1 : K.lookup f1 = some ⟨oc1, od1, .func (PySem.W.fnOf "_law_flow" "_law_flow" (defArgs s_law_flow) (defBody s_law_flow) (defScope s_law_flow) .none kV1 dc1 pm1 an1 cd1 ct1), sl1⟩) (c1 : PySem.W.codeIn K cd1 "_law_flow" = true) (k1 : PySem.W.keepIn K (.ref f1) = true)
    (a2 : PySem.W.nsIn K mainGlobals "_law_load" = some (some (.ref f2))) (l2 : K.lookup f2 = some ⟨oc2, od2, .func (PySem.W.fnOf "_law_load" "_law_load" (defArgs s_law_load) (defBody s_law_load) (defScope s_law_load) .none kV2 dc2 pm2 an2 cd2 ct2), sl2⟩) (c2 : PySem.W.codeIn K cd2 "_law_load" = true) (k2 : PySem.W.keepIn K (.ref f2) = true)
    (a3 : PySem.W.nsIn K mainGlobals "_law_draw" = some (some (.ref f3))) (l3 : K.lookup f3 = some ⟨oc3, od3, .func (PySem.W.fnOf "_law_draw" "_law_draw" (defArgs s_law_draw) (defBody s_law_draw) (defScope s_law_draw) .none kV3 dc3 pm3 an3 cd3 ct3), sl3⟩) (c3 : PySem.W.codeIn K cd3 "_law_draw" = true) (k3 : PySem.W.keepIn K (.ref f3) = true)
    (a4 : PySem.W.nsIn K mainGlobals "_law_pick" = some (some (.ref f4))) (l4 : K.lookup f4 = some ⟨oc4, od4, .func (PySem.W.fnOf "_law_pick" "_law_pick" (defArgs s_law_pick) (defBody s_law_pick) (defScope s_law_pick) .none kV4 dc4 pm4 an4 cd4 ct4), sl4⟩) (c4 : PySem.W.codeIn K cd4 "_law_pick" = true) (k4 : PySem.W.keepIn K (.ref f4) = true)
    (a5 : PySem.W.nsIn K mainGlobals "_law_letter" = some (some (.ref f5))) (l5 : K.lookup f5 = some ⟨oc5, od5, .func (PySem.W.fnOf "_law_letter" "_law_letter" (defArgs s_law_letter) (defBody s_law_letter) (defScope s_law_letter) .none kV5 dc5 pm5 an5 cd5 ct5), sl5⟩) (c5 : PySem.W.codeIn K cd5 "_law_letter" = true) (k5 : PySem.W.keepIn K (.ref f5) = true)
    (a6 : PySem.W.nsIn K mainGlobals "_law_name" = some (some (.ref f6))) (l6 : K.lookup f6 = some ⟨oc6, od6, .func (PySem.W.fnOf "_law_name" "_law_name" (defArgs s_law_name) (defBody s_law_name) (defScope s_law_name) .none kV6 dc6 pm6 an6 cd6 ct6), sl6⟩) (c6 : PySem.W.codeIn K cd6 "_law_name" = true) (k6 : PySem.W.keepIn K (.ref f6) = true)
    (a7 : PySem.W.nsIn K mainGlobals "_law_near" = some (some (.ref f7))) (l7 : K.lookup f7 = some ⟨oc7, od7, .func (PySem.W.fnOf "_law_near" "_law_near" (defArgs s_law_near) (defBody s_law_near) (defScope s_law_near) .none kV7 dc7 pm7 an7 cd7 ct7), sl7⟩) (c7 : PySem.W.codeIn K cd7 "_law_near" = true) (k7 : PySem.W.keepIn K (.ref f7) = true)
    (a8 : PySem.W.nsIn K mainGlobals "_law_names" = some (some (.ref f8))) (l8 : K.lookup f8 = some ⟨oc8, od8, .func (PySem.W.fnOf "_law_names" "_law_names" (defArgs s_law_names) (defBody s_law_names) (defScope s_law_names) .none kV8 dc8 pm8 an8 cd8 ct8), sl8⟩) (c8 : PySem.W.codeIn K cd8 "_law_names" = true) (k8 : PySem.W.keepIn K (.ref f8) = true)
    (a9 : PySem.W.nsIn K mainGlobals "_law_good" = some (some (.ref f9))) (l9 : K.lookup f9 = some ⟨oc9, od9, .func (PySem.W.fnOf "_law_good" "_law_good" (defArgs s_law_good) (defBody s_law_good) (defScope s_law_good) .none kV9 dc9 pm9 an9 cd9 ct9), sl9⟩) (c9 : PySem.W.codeIn K cd9 "_law_good" = true) (k9 : PySem.W.keepIn K (.ref f9) = true)
    (a10 : PySem.W.nsIn K mainGlobals "_law_says" = some (some (.ref f10))) (l10 : K.lookup f10 = some ⟨oc10, od10, .func (PySem.W.fnOf "_law_says" "_law_says" (defArgs s_law_says) (defBody s_law_says) (defScope s_law_says) .none kV10 dc10 pm10 an10 cd10 ct10), sl10⟩) (c10 : PySem.W.codeIn K cd10 "_law_says" = true) (k10 : PySem.W.keepIn K (.ref f10) = true)
    (a11 : PySem.W.nsIn K mainGlobals "_law_composed" = some (some (.ref f11))) (l11 : K.lookup f11 = some ⟨oc11, od11, .func (PySem.W.fnOf "_law_composed" "_law_composed" (defArgs s_law_composed) (defBody s_law_composed) (defScope s_law_composed) .none kV11 dc11 pm11 an11 cd11 ct11), sl11⟩) (c11 : PySem.W.codeIn K cd11 "_law_composed" = true) (k11 : PySem.W.keepIn K (.ref f11) = true)
    (a12 : PySem.W.nsIn K mainGlobals "_law_name_right" = some (some (.ref f12))) (l12 : K.lookup f12 = some ⟨oc12, od12, .func (PySem.W.fnOf "_law_name_right" "_law_name_right" (defArgs s_law_name_right) (defBody s_law_name_right) (defScope s_law_name_right) .none kV12 dc12 pm12 an12 cd12 ct12), sl12⟩) (c12 : PySem.W.codeIn K cd12 "_law_name_right" = true) (k12 : PySem.W.keepIn K (.ref f12) = true)
    (a13 : PySem.W.nsIn K mainGlobals "_law_keys_right" = some (some (.ref f13))) (l13 : K.lookup f13 = some ⟨oc13, od13, .func (PySem.W.fnOf "_law_keys_right" "_law_keys_right" (defArgs s_law_keys_right) (defBody s_law_keys_right) (defScope s_law_keys_right) .none kV13 dc13 pm13 an13 cd13 ct13), sl13⟩) (c13 : PySem.W.codeIn K cd13 "_law_keys_right" = true) (k13 : PySem.W.keepIn K (.ref f13) = true)
    (a14 : PySem.W.nsIn K mainGlobals "law" = some (some (.ref f14))) (l14 : K.lookup f14 = some ⟨oc14, od14, .func (PySem.W.fnOf "law" "law" (defArgs slaw) (defBody slaw) (defScope slaw) .none kV14 dc14 pm14 an14 cd14 ct14), sl14⟩) (c14 : PySem.W.codeIn K cd14 "law" = true) (k14 : PySem.W.keepIn K (.ref f14) = true)
    (z_abs : PySem.W.nsIn K mainGlobals "abs" = some none)
    (z_int : PySem.W.nsIn K mainGlobals "int" = some none)
    (z_len : PySem.W.nsIn K mainGlobals "len" = some none)
    (z_list : PySem.W.nsIn K mainGlobals "list" = some none)
    (z_max : PySem.W.nsIn K mainGlobals "max" = some none)
    (z_range : PySem.W.nsIn K mainGlobals "range" = some none)
    (z_sorted : PySem.W.nsIn K mainGlobals "sorted" = some none)
    (z_str : PySem.W.nsIn K mainGlobals "str" = some none)
    (z_tuple : PySem.W.nsIn K mainGlobals "tuple" = some none)
    : ∃ fd : FuncData, (∀ (s : Shared) (v : Value), BindsTo s fd ⟨[v], []⟩ [("script", v)]) ∧ ∀ base : Heap, K.In base → base.Ns mainGlobals mg → FnOk l.prog w K mg base CX0 8 fa fd ["script"] (spLaw K) := by
  have e := hfa.symm.trans (PySem.W.mg_of X G a14)
  cases e
  let T : Top K mg := {
    fis_free := f0, dis_free := _, Fis_free := fun_mk (st := sis_free) l0 c0 k0, gis_free := PySem.W.mg_of X G a0, bis_free := (fun_mk (st := sis_free) l0 c0 k0).binds (ps := ["good", "atom"]) fun _ _ _ _ _ _ us hl => match us, hl with | [_, _], _ => rfl,
    f_law_flow := f1, d_law_flow := _, F_law_flow := fun_mk (st := s_law_flow) l1 c1 k1, g_law_flow := PySem.W.mg_of X G a1, b_law_flow := (fun_mk (st := s_law_flow) l1 c1 k1).binds (ps := ["script"]) fun _ _ _ _ _ _ us hl => match us, hl with | [_], _ => rfl,
    f_law_load := f2, d_law_load := _, F_law_load := fun_mk (st := s_law_load) l2 c2 k2, g_law_load := PySem.W.mg_of X G a2, b_law_load := (fun_mk (st := s_law_load) l2 c2 k2).binds (ps := ["flow"]) fun _ _ _ _ _ _ us hl => match us, hl with | [_], _ => rfl,
    f_law_draw := f3, d_law_draw := _, F_law_draw := fun_mk (st := s_law_draw) l3 c3 k3, g_law_draw := PySem.W.mg_of X G a3, b_law_draw := (fun_mk (st := s_law_draw) l3 c3 k3).binds (ps := ["flow", "many"]) fun _ _ _ _ _ _ us hl => match us, hl with | [_, _], _ => rfl,
    f_law_pick := f4, d_law_pick := _, F_law_pick := fun_mk (st := s_law_pick) l4 c4 k4, g_law_pick := PySem.W.mg_of X G a4, b_law_pick := (fun_mk (st := s_law_pick) l4 c4 k4).binds (ps := ["flow", "things"]) fun _ _ _ _ _ _ us hl => match us, hl with | [_, _], _ => rfl,
    f_law_letter := f5, d_law_letter := _, F_law_letter := fun_mk (st := s_law_letter) l5 c5 k5, g_law_letter := PySem.W.mg_of X G a5, b_law_letter := (fun_mk (st := s_law_letter) l5 c5 k5).binds (ps := ["flow"]) fun _ _ _ _ _ _ us hl => match us, hl with | [_], _ => rfl,
    f_law_name := f6, d_law_name := _, F_law_name := fun_mk (st := s_law_name) l6 c6 k6, g_law_name := PySem.W.mg_of X G a6, b_law_name := (fun_mk (st := s_law_name) l6 c6 k6).binds (ps := ["flow"]) fun _ _ _ _ _ _ us hl => match us, hl with | [_], _ => rfl,
    f_law_near := f7, d_law_near := _, F_law_near := fun_mk (st := s_law_near) l7 c7 k7, g_law_near := PySem.W.mg_of X G a7, b_law_near := (fun_mk (st := s_law_near) l7 c7 k7).binds (ps := ["flow", "name"]) fun _ _ _ _ _ _ us hl => match us, hl with | [_, _], _ => rfl,
    f_law_names := f8, d_law_names := _, F_law_names := fun_mk (st := s_law_names) l8 c8 k8, g_law_names := PySem.W.mg_of X G a8, b_law_names := (fun_mk (st := s_law_names) l8 c8 k8).binds (ps := ["flow", "many"]) fun _ _ _ _ _ _ us hl => match us, hl with | [_, _], _ => rfl,
    f_law_good := f9, d_law_good := _, F_law_good := fun_mk (st := s_law_good) l9 c9 k9, g_law_good := PySem.W.mg_of X G a9, b_law_good := (fun_mk (st := s_law_good) l9 c9 k9).binds (ps := ["flow", "names"]) fun _ _ _ _ _ _ us hl => match us, hl with | [_, _], _ => rfl,
    f_law_says := f10, d_law_says := _, F_law_says := fun_mk (st := s_law_says) l10 c10 k10, g_law_says := PySem.W.mg_of X G a10, b_law_says := (fun_mk (st := s_law_says) l10 c10 k10).binds (ps := ["good", "term", "due"]) fun _ _ _ _ _ _ us hl => match us, hl with | [_, _, _], _ => rfl,
    f_law_composed := f11, d_law_composed := _, F_law_composed := fun_mk (st := s_law_composed) l11 c11 k11, g_law_composed := PySem.W.mg_of X G a11, b_law_composed := (fun_mk (st := s_law_composed) l11 c11 k11).binds (ps := ["term", "name"]) fun _ _ _ _ _ _ us hl => match us, hl with | [_, _], _ => rfl,
    f_law_name_right := f12, d_law_name_right := _, F_law_name_right := fun_mk (st := s_law_name_right) l12 c12 k12, g_law_name_right := PySem.W.mg_of X G a12, b_law_name_right := (fun_mk (st := s_law_name_right) l12 c12 k12).binds (ps := ["flow", "good", "name"]) fun _ _ _ _ _ _ us hl => match us, hl with | [_, _, _], _ => rfl,
    f_law_keys_right := f13, d_law_keys_right := _, F_law_keys_right := fun_mk (st := s_law_keys_right) l13 c13 k13, g_law_keys_right := PySem.W.mg_of X G a13, b_law_keys_right := (fun_mk (st := s_law_keys_right) l13 c13 k13).binds (ps := ["good", "names"]) fun _ _ _ _ _ _ us hl => match us, hl with | [_, _], _ => rfl,
    flaw := fa, dlaw := _, Flaw := fun_mk (st := slaw) l14 c14 k14, glaw := PySem.W.mg_of X G a14, blaw := (fun_mk (st := slaw) l14 c14 k14).binds (ps := ["script"]) fun _ _ _ _ _ _ us hl => match us, hl with | [_], _ => rfl,
    kis_free_atom_good := fun s ws hl => match ws, hl with | [w0, w1], _ => .of_eq rfl,
    kis_free_good_atom := fun s ws hl => match ws, hl with | [w0, w1], _ => .of_eq rfl,
    z_abs := PySem.W.mg_none_of X G z_abs, z_int := PySem.W.mg_none_of X G z_int, z_len := PySem.W.mg_none_of X G z_len, z_list := PySem.W.mg_none_of X G z_list, z_max := PySem.W.mg_none_of X G z_max, z_range := PySem.W.mg_none_of X G z_range, z_sorted := PySem.W.mg_none_of X G z_sorted, z_str := PySem.W.mg_none_of X G z_str, z_tuple := PySem.W.mg_none_of X G z_tuple }
  exact ⟨PySem.W.fnOf "law" "law" (defArgs slaw) (defBody slaw) (defScope slaw) .none kV14 dc14 pm14 an14 cd14 ct14, fun s v => .of_eq rfl, fun base _ _ => oklaw T⟩
end Mu
open PySem PySem.W PyProof.Rows
set_option maxHeartbeats 0 in
theorem PySem.Challenge.cw_muffline_k06_free_atoms_holds : PySem.Challenge.rw_muffline_k06_free_atoms.Holds := by
  w_on; o_law; k_head; (case hw => w_witness2)
  k_fill
  refine L2.walk_of (l := PySem.Challenge.rw_muffline_k06_free_atoms) (n := 63) (k := 8) (x := "script") (CX := fun _ => L2.CX0) (sp := fun w => Mu.spLaw _) rfl (by decide) rfl ⟨rfl, by decide, by decide⟩ (fun w h Y => PySem.W.kIn_of Y) ?F (fun _ _ a ns hl _ hS => ⟨a, ns, rfl, hS, hl, fun _ => rfl⟩) (fun _ _ _ _ _ h => h)
  case F =>
    intro w mg fa h KX G hmg
    refine' Mu.all_mk  KX G hmg ?a0 ?l0 ?c0 ?k0 ?a1 ?l1 ?c1 ?k1 ?a2 ?l2 ?c2 ?k2 ?a3 ?l3 ?c3 ?k3 ?a4 ?l4 ?c4 ?k4 ?a5 ?l5 ?c5 ?k5 ?a6 ?l6 ?c6 ?k6 ?a7 ?l7 ?c7 ?k7 ?a8 ?l8 ?c8 ?k8 ?a9 ?l9 ?c9 ?k9 ?a10 ?l10 ?c10 ?k10 ?a11 ?l11 ?c11 ?k11 ?a12 ?l12 ?c12 ?k12 ?a13 ?l13 ?c13 ?k13 ?a14 ?l14 ?c14 ?k14 ?z_abs ?z_int ?z_len ?z_list ?z_max ?z_range ?z_sorted ?z_str ?z_tuple
    (case a0 => k_is); (case l0 => k_is); (case c0 => k_is); (case k0 => k_is); (case a1 => k_is); (case l1 => k_is); (case c1 => k_is); (case k1 => k_is); (case a2 => k_is); (case l2 => k_is); (case c2 => k_is); (case k2 => k_is); (case a3 => k_is); (case l3 => k_is); (case c3 => k_is); (case k3 => k_is); (case a4 => k_is); (case l4 => k_is); (case c4 => k_is); (case k4 => k_is); (case a5 => k_is); (case l5 => k_is); (case c5 => k_is); (case k5 => k_is); (case a6 => k_is); (case l6 => k_is); (case c6 => k_is); (case k6 => k_is); (case a7 => k_is); (case l7 => k_is); (case c7 => k_is); (case k7 => k_is); (case a8 => k_is); (case l8 => k_is); (case c8 => k_is); (case k8 => k_is); (case a9 => k_is); (case l9 => k_is); (case c9 => k_is); (case k9 => k_is); (case a10 => k_is); (case l10 => k_is); (case c10 => k_is); (case k10 => k_is); (case a11 => k_is); (case l11 => k_is); (case c11 => k_is); (case k11 => k_is); (case a12 => k_is); (case l12 => k_is); (case c12 => k_is); (case k12 => k_is); (case a13 => k_is); (case l13 => k_is); (case c13 => k_is); (case k13 => k_is); (case a14 => k_is); (case l14 => k_is); (case c14 => k_is); (case k14 => k_is); (case z_abs => k_is); (case z_int => k_is); (case z_len => k_is); (case z_list => k_is); (case z_max => k_is); (case z_range => k_is); (case z_sorted => k_is); (case z_str => k_is); (case z_tuple => k_is)
