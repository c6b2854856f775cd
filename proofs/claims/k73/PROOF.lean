import PyProof.Rows.All
import Wide.All
import OpenK.AllK
import Wide.FinOn
import HandS.ForMost
import HandS.More
import HandS.Rev
import HandS.IsInst
import HandS.TupAny
import HandS.RaiseMore
import HandS.SetKeys
import HandS.SortKw
import HandS.Style
import HandS.StrMore
import KE.KRevSl
import HandS.Walk
import HandS.Conv
import HandS.Iter
import KE.GoesMore
import PyProof.Draws
import PySem.Challenge.RW_muffline_k73_whole_tunnel_words

import HandS.Property
set_option Elab.async false
set_option linter.all false
set_option maxRecDepth 100000
set_option maxHeartbeats 4000000
set_option pp.maxSteps 400
namespace Mu
open PySem PySem.Spec PyProof.Rows L2

/-! ### texts by their codes -/
def cd (z : Str) : List Nat := z.cps.toList
theorem cd_app (a b : Str) : cd (a ++ b) = cd a ++ cd b := by
  show (a.cps ++ b.cps).toList = _
  rw [Array.toList_append]; rfl
theorem cd_len (z : Str) : z.length = (cd z).length := by unfold cd Str.length; rw [Array.length_toList]
theorem cd_ext {a b : Str} (h : cd a = cd b) : a = b := Str.ext' (Array.toList_inj.mp h)
theorem cd_mk (l : List Nat) : cd ⟨l.toArray⟩ = l := rfl
theorem cd_cut (z : Str) (lo hi : Option Int) : cd (cutS z lo hi) = ((cd z).drop (HT.sIx z.length 0 lo)).take (HT.sIx z.length z.length hi - HT.sIx z.length 0 lo) := rfl
theorem cd_pre (z : Str) (k : Nat) : cd (cutS z none (some (k : Int))) = (cd z).take k := by
  rw [cd_cut, HT.sIx_none, HT.sIx_nat, List.drop_zero, Nat.sub_zero, cd_len, ← List.take_eq_take_min]
theorem cd_suf (z : Str) (k : Nat) : cd (cutS z (some (k : Int)) none) = (cd z).drop k := by
  rw [cd_cut, HT.sIx_none, HT.sIx_nat, cd_len]
  by_cases h : k ≤ (cd z).length
  · rw [Nat.min_eq_left h]
    exact List.take_of_length_le (by rw [List.length_drop]; exact Nat.le_refl _)
  · rw [Nat.min_eq_right (by omega), Nat.sub_self, List.take_zero, List.drop_of_length_le (by omega)]
theorem join_cons2 (a x y : Str) (r : List Str) : Str.join a (x :: y :: r) = x ++ a ++ Str.join a (y :: r) := rfl
theorem cd_join (a : Str) : ∀ ys : List Str, cd (Txt.join a ys) = ((ys.map cd).intersperse (cd a)).flatten := by
  intro ys
  show cd (Builtin.Str.glued a ys) = _
  rw [StrLaws.glued_eq_join]
  induction ys with
  | nil => rfl
  | cons x r ih =>
    cases r with
    | nil => show cd x = cd x ++ []; rw [List.append_nil]
    | cons y r =>
      rw [join_cons2, cd_app, cd_app, ih]
      simp [List.intersperse, List.append_assoc]
theorem cd_join0 (ys : List Str) : cd (Txt.join "" ys) = ys.flatMap cd := by
  rw [cd_join, show cd "" = [] from rfl]
  induction ys with
  | nil => rfl
  | cons x r ih =>
    cases r with
    | nil => simp
    | cons y r =>
      simp only [List.map_cons, List.intersperse, List.flatten_cons, List.nil_append, List.flatMap_cons] at ih ⊢
      rw [ih]
theorem len_appS (a b : Str) : (a ++ b).length = a.length + b.length := by rw [cd_len, cd_len, cd_len, cd_app, List.length_append]
theorem join_len (ys : List Str) : (ys.map (·.length)).sum + ys.length ≤ (Txt.join " " ys).length + 1 := by
  show _ ≤ (Builtin.Str.glued " " ys).length + 1
  rw [StrLaws.glued_eq_join]
  induction ys with
  | nil => exact Nat.zero_le _
  | cons x r ih =>
    cases r with
    | nil =>
      show x.length + 0 + 1 ≤ x.length + 1
      omega
    | cons y r =>
      rw [join_cons2, len_appS, len_appS, List.map_cons, List.sum_cons, List.length_cons]
      have e : (" " : Str).length = 1 := rfl
      omega
theorem occ_run (x : Str) (c : Nat) : ∀ (k j : Nat) (acc : Array Nat) (free : Nat), free ≤ j → acc.size ≤ j → j + k = x.length + 1 →
    (forIn (List.range' j k) (acc, free) (StrLaws.occBody x ⟨#[c]⟩ x.length (x.length + 1))).run.fst.toList.length = acc.size + ((cd x).drop j).count c
  | 0, j, acc, free, _, _, e => by
    rw [List.drop_of_length_le (by rw [← cd_len]; omega)]
    show acc.toList.length = acc.size + 0
    rw [Array.length_toList, Nat.add_zero]
  | k + 1, j, acc, free, h1, h2, e => by
    rw [List.range'_succ, List.forIn_cons]
    unfold StrLaws.occBody
    by_cases hc : x.cps.toList[j]? = some c
    · have h3 := (StrLaws.subAt_one x c j).mpr hc
      rw [if_pos ⟨⟨⟨by show acc.size < _; omega, h1⟩, h3.1⟩, h3.2⟩]
      have ih := occ_run x c k (j + 1) (acc.push j) (j + 1) (Nat.le_refl _) (by rw [Array.size_push]; omega) (by omega)
      have ed : (cd x).drop j = c :: (cd x).drop (j + 1) := by
        rw [List.drop_eq_getElem?_toList_append, show (cd x)[j]? = some c from hc]; rfl
      rw [ed, List.count_cons_self]
      rw [Array.size_push] at ih
      show (forIn (List.range' (j + 1) k) (acc.push j, j + 1) (StrLaws.occBody x ⟨#[c]⟩ x.length (x.length + 1))).run.fst.toList.length = _
      rw [ih]
      omega
    · rw [if_neg (fun h => hc ((StrLaws.subAt_one x c j).mp ⟨h.1.2, h.2⟩))]
      have ih := occ_run x c k (j + 1) acc free (by omega) (by omega) (by omega)
      show (forIn (List.range' (j + 1) k) (acc, free) (StrLaws.occBody x ⟨#[c]⟩ x.length (x.length + 1))).run.fst.toList.length = _
      rw [ih]
      congr 1
      by_cases hj : j < (cd x).length
      · have ed : (cd x).drop j = (cd x)[j] :: (cd x).drop (j + 1) := List.drop_eq_getElem_cons hj
        rw [ed, List.count_cons_of_ne]
        intro e
        apply hc
        show (cd x)[j]? = some c
        rw [List.getElem?_eq_getElem hj, e]
      · rw [List.drop_of_length_le (by omega), List.drop_of_length_le (by omega)]
theorem count_one (x : Str) (c : Nat) : Txt.count x ⟨#[c]⟩ = (((cd x).count c : Nat) : Int) := by
  show (((Builtin.Str.occurrences x ⟨#[c]⟩ 0 x.length (x.length + 1)).length : Nat) : Int) = _
  rw [StrLaws.occ_eq]
  have h := occ_run x c (x.length + 1) 0 #[] 0 (Nat.le_refl _) (Nat.le_refl _) (by omega)
  rw [Nat.sub_zero, h]
  show ((0 + ((cd x).drop 0).count c : Nat) : Int) = _
  rw [List.drop_zero, Nat.zero_add]
/-- a name: one to eight small letters -/
structure Nm (z : Str) : Prop where
  lo : 1 ≤ z.length
  hi : z.length ≤ 8
  az : ∀ c ∈ cd z, 97 ≤ c ∧ c ≤ 122

/-! ### data: texts, ints, None, tuples -/
mutual
inductive DAt (H : Hp) : V → PyData → Prop
  | str (x : Str) : DAt H (.str x) (.str x)
  | int (i : Int) : DAt H (.int i) (.int i)
  | non : DAt H .non .none
  | tup {a : Addr} {vs : List V} {ds : List PyData} : H a = some (.tup vs) → DsAt H vs ds → DAt H (.ref a) (.tuple ds)
inductive DsAt (H : Hp) : List V → List PyData → Prop
  | nil : DsAt H [] []
  | cons {v : V} {vs : List V} {d : PyData} {ds : List PyData} : DAt H v d → DsAt H vs ds → DsAt H (v :: vs) (d :: ds)
end
/-- tuples stay -/
def Tk (H H' : Hp) : Prop := ∀ a vs, H a = some (.tup vs) → H' a = some (.tup vs)
theorem Tk.refl (H : Hp) : Tk H H := fun _ _ h => h
theorem Tk.trans {H H1 H2 : Hp} (p : Tk H H1) (q : Tk H1 H2) : Tk H H2 := fun a vs h => q a vs (p a vs h)
theorem Tk.same {H H' : Hp} (s : Same H H') : Tk H H' := fun a vs h => s a _ h
theorem Tk.upd {H : Hp} {a : Addr} {o : HO} (n : ∀ vs, H a ≠ some (.tup vs)) : Tk H (L2.upd H a o) := fun b vs h => by
  have nb : b ≠ a := fun e => by subst e; exact n vs h
  rw [upd_ne nb]
  exact h
theorem Tk.new {H : Hp} {a : Addr} {o : HO} (n : H a = none) : Tk H (L2.upd H a o) := Tk.upd fun vs e => by rw [n] at e; cases e
theorem Tk.lst {H : Hp} {a : Addr} {o : HO} {xs : List V} (h : H a = some (.lst xs)) : Tk H (L2.upd H a o) := Tk.upd fun vs e => by rw [h] at e; cases e
mutual
theorem DAt.mono {H H' : Hp} (t : Tk H H') : ∀ {v d}, DAt H v d → DAt H' v d
  | _, _, .str x => .str x
  | _, _, .int i => .int i
  | _, _, .non => .non
  | _, _, .tup h r => .tup (t _ _ h) (DsAt.mono t r)
theorem DsAt.mono {H H' : Hp} (t : Tk H H') : ∀ {vs ds}, DsAt H vs ds → DsAt H' vs ds
  | _, _, .nil => .nil
  | _, _, .cons h r => .cons (DAt.mono t h) (DsAt.mono t r)
end
theorem DsAt.length {H : Hp} : ∀ {vs ds}, DsAt H vs ds → vs.length = ds.length
  | _, _, .nil => rfl
  | _, _, .cons _ r => congrArg (· + 1) (DsAt.length r)
theorem DsAt.get {H : Hp} : ∀ {vs ds} {i : Nat} {v : V}, DsAt H vs ds → vs[i]? = some v → ∃ d, ds[i]? = some d ∧ DAt H v d
  | _, _, 0, v, .cons h _, e => ⟨_, rfl, by cases e; exact h⟩
  | _, _, i + 1, v, .cons _ r, e => DsAt.get (i := i) r e
theorem DsAt.app {H : Hp} : ∀ {vs ds ws es}, DsAt H vs ds → DsAt H ws es → DsAt H (vs ++ ws) (ds ++ es)
  | _, _, _, _, .nil, h => h
  | _, _, _, _, .cons h r, g => .cons h (DsAt.app r g)
theorem DsAt.split {H : Hp} : ∀ {vs ds es}, DsAt H vs (ds ++ es) → ∃ v1 v2, vs = v1 ++ v2 ∧ DsAt H v1 ds ∧ DsAt H v2 es
  | vs, [], es, h => ⟨[], vs, rfl, .nil, h⟩
  | _, d :: ds, es, .cons h r => by
    obtain ⟨v1, v2, rfl, a, b⟩ := DsAt.split r
    exact ⟨_ :: v1, v2, rfl, .cons h a, b⟩
/-! all that occurs: the tuples, each ahead of what it holds -/
mutual
def occ : PyData → List PyData
  | .tuple ds => .tuple ds :: occs ds
  | _ => []
def occs : List PyData → List PyData
  | [] => []
  | d :: r => occ d ++ occs r
end
/-! the written form -/
mutual
def wr : PyData → Str
  | .tuple ds => ("(" : Str) ++ Txt.join " " (wrs ds) ++ (")" : Str)
  | .str z => z
  | .int i => Str.ofString (toString i)
  | _ => Str.empty
def wrs : List PyData → List Str
  | [] => []
  | d :: r => wr d :: wrs r
end
def isTup : PyData → Bool
  | .tuple _ => true
  | _ => false
theorem occs_app : ∀ ds es : List PyData, occs (ds ++ es) = occs ds ++ occs es
  | [], _ => rfl
  | d :: r, es => by
    show occ d ++ occs (r ++ es) = (occ d ++ occs r) ++ occs es
    rw [occs_app r es, List.append_assoc]
theorem wrs_eq : ∀ ds : List PyData, wrs ds = ds.map wr
  | [] => rfl
  | d :: r => congrArg (wr d :: ·) (wrs_eq r)
/-- the written forms of the tuples of a list -/
def tws : List PyData → List Str
  | [] => []
  | .tuple ds :: r => wr (.tuple ds) :: tws r
  | _ :: r => tws r
/-- the nodes in this order, each taking what its tuples are written as off the end, and putting its own there -/
inductive Runs : List Str → List PyData → List Str → Prop
  | nil {I : List Str} : Runs I [] I
  | cons {I J : List Str} {ds L : List PyData} : Runs (I ++ [wr (.tuple ds)]) L J → Runs (I ++ (tws ds).reverse) (.tuple ds :: L) J
theorem Runs.app {I J M : List Str} {L N : List PyData} (h : Runs I L J) (g : Runs J N M) : Runs I (L ++ N) M := by
  induction h with
  | nil => exact g
  | cons _ ih => exact .cons (ih g)
mutual
theorem runs_occ : ∀ (d : PyData) (I : List Str), Runs I (occ d).reverse (I ++ (tws [d]).reverse)
  | .tuple ds, I => by
    show Runs I (PyData.tuple ds :: occs ds).reverse (I ++ [wr (.tuple ds)])
    rw [List.reverse_cons]
    exact (runs_occs ds I).app (.cons .nil)
  | .none, I => by show Runs I [] (I ++ []); rw [List.append_nil]; exact .nil
  | .bool _, I => by show Runs I [] (I ++ []); rw [List.append_nil]; exact .nil
  | .int _, I => by show Runs I [] (I ++ []); rw [List.append_nil]; exact .nil
  | .str _, I => by show Runs I [] (I ++ []); rw [List.append_nil]; exact .nil
  | .list _, I => by show Runs I [] (I ++ []); rw [List.append_nil]; exact .nil
  | .dict _, I => by show Runs I [] (I ++ []); rw [List.append_nil]; exact .nil
theorem runs_occs : ∀ (ds : List PyData) (I : List Str), Runs I (occs ds).reverse (I ++ (tws ds).reverse)
  | [], I => by show Runs I [] (I ++ []); rw [List.append_nil]; exact .nil
  | d :: r, I => by
    show Runs I (occ d ++ occs r).reverse _
    rw [List.reverse_append]
    have e : I ++ (tws (d :: r)).reverse = (I ++ (tws r).reverse) ++ (tws [d]).reverse := by
      cases d <;> simp [tws]
    rw [e]
    exact (runs_occs r I).app (runs_occ d _)
end
theorem occ_tup : ∀ d : PyData, ∀ e ∈ occ d, ∃ ds, e = .tuple ds := by
  have key : ∀ n : Nat, ∀ d : PyData, sizeOf d ≤ n → ∀ e ∈ occ d, ∃ ds, e = .tuple ds := by
    intro n
    induction n with
    | zero => intro d h; cases d <;> simp at h
    | succ n ih =>
      intro d h e he
      cases d with
      | tuple ds =>
        rcases List.mem_cons.mp he with rfl | he
        · exact ⟨ds, rfl⟩
        · have all : ∀ (l : List PyData), sizeOf l ≤ n → e ∈ occs l → ∃ ds, e = .tuple ds := by
            intro l
            induction l with
            | nil => intro _ h; cases h
            | cons d r ih2 =>
              intro hs hm
              have h1 : sizeOf (d :: r) = 1 + sizeOf d + sizeOf r := rfl
              rcases List.mem_append.mp hm with h | h
              · exact ih d (by omega) e h
              · exact ih2 (by omega) h
          have h1 : sizeOf (PyData.tuple ds) = 1 + sizeOf ds := by simp
          exact all ds (by omega) he
      | _ => cases he
  exact fun d => key _ d (Nat.le_refl _)
theorem wr_tuple (ds : List PyData) : wr (.tuple ds) = ("(" : Str) ++ Txt.join " " (ds.map wr) ++ (")" : Str) := by rw [← wrs_eq]; rfl
/-- leaves that str() takes -/
def Fine : PyData → Prop
  | .int i => i.natAbs.log2 < 1920
  | .str _ => True
  | .tuple _ => True
  | _ => False
/-- the data's leaves are fine, its lists not long -/
def Good (d : PyData) : Prop := ∀ ds, PyData.tuple ds ∈ occ d → (∀ e ∈ ds, Fine e) ∧ ds.length ≤ 1000

/-! ### pairs of an int and a text: their order -/
def lexIS (p q : Int × Str) : Bool := if p.1 = q.1 then decide (p.2.cps.toList < q.2.cps.toList) else decide (p.1 < q.1)
theorem lexIS_iff {p q : Int × Str} : lexIS p q = true ↔ p.1 < q.1 ∨ (p.1 = q.1 ∧ p.2.cps.toList < q.2.cps.toList) := by
  unfold lexIS
  split
  · rename_i e
    rw [decide_eq_true_iff]
    exact ⟨fun h => .inr ⟨e, h⟩, fun h => h.elim (fun h => absurd h (by omega)) (·.2)⟩
  · rename_i e
    rw [decide_eq_true_iff]
    exact ⟨.inl, fun h => h.elim id fun h => absurd h.1 e⟩
theorem lexIS_not {p q : Int × Str} (h : lexIS p q = false) : q.1 ≤ p.1 ∧ (p.1 = q.1 → ¬ p.2.cps.toList < q.2.cps.toList) := by
  have n : ¬ (p.1 < q.1 ∨ (p.1 = q.1 ∧ p.2.cps.toList < q.2.cps.toList)) := fun g => by rw [lexIS_iff.mpr g] at h; cases h
  exact ⟨by have : ¬ p.1 < q.1 := fun g => n (.inl g); omega, fun e g => n (.inr ⟨e, g⟩)⟩
theorem swo_is (k : Value → Int × Str) : SrtO.Swo fun v u => lexIS (k v) (k u) := by
  refine ⟨fun x y h => ?_, fun x y z h1 h2 => ?_⟩ <;> rw [Bool.eq_false_iff] <;> intro g
  · rcases lexIS_iff.mp h with a | ⟨a, a2⟩ <;> rcases lexIS_iff.mp g with b | ⟨b, b2⟩
    · omega
    · omega
    · omega
    · exact List.lt_asymm a2 b2
  · have ⟨a, a2⟩ := lexIS_not h1
    have ⟨b, b2⟩ := lexIS_not h2
    rcases lexIS_iff.mp g with c | ⟨c, c2⟩
    · omega
    · exact absurd c2 (List.not_lt.mpr (List.le_trans (List.not_lt.mp (a2 (by omega))) (List.not_lt.mp (b2 (by omega)))))

/-! ### f(k = v, ..), nothing by position -/
def kwPermV (p : List Nat) (ws : List Value) : List Value := p.map fun i => ws.getD i .none
def kwPermX (p : List Nat) (zs : List V) : List V := p.map fun i => zs.getD i .non
theorem vals_getD : ∀ {zs : List V} {ws : List Value}, Vals zs ws → ∀ i, i < zs.length → RelV (zs.getD i .non) (ws.getD i .none)
  | _, _, .nil, i, h => absurd h (Nat.not_lt_zero _)
  | _, _, .cons h _, 0, _ => h
  | _, _, .cons _ r, i + 1, h => vals_getD r i (Nat.lt_of_succ_lt_succ h)
theorem kwPerm_vals {p : List Nat} {n : Nat} {zs : List V} {ws : List Value} (r : Vals zs ws) (hl : zs.length = n) (hp : p.all (· < n) = true) : Vals (kwPermX p zs) (kwPermV p ws) := by
  subst hl
  unfold kwPermX kwPermV
  induction p with
  | nil => exact .nil
  | cons i p ih =>
    rw [List.all_cons, Bool.and_eq_true] at hp
    exact .cons (vals_getD r i (of_decide_eq_true hp.1)) (ih hp.2)
section
variable {X : Cx} {CX : CXT} {k : Nat} {f : Addr} {fd : FuncData} {ps ks : List Str} {sp : Sp} {E : XK} {x : Str} {p pos : Pos} {kws : List Keyword} {tk : TA}
def tCallK0 (sp : Sp) (n : Nat) (gV : List V → List V) (E : XK) (tk : TA) : TE := fun σ H Q => tk σ H fun zs H2 => zs.length = n ∧ sp (gV zs) H2 Q E
theorem pe_callK0 {g : List Value → List Value} {gV : List V → List V} (F : FnOk X.prog X.w X.K X.mg X.base CX k f fd ps sp) (hr : Room k X.A) (hg : Gl X x) (hm : X.mg x = some (.ref f)) (hk : PySem.W.keepIn X.K (.ref f) = true)
    (hb : ∀ (s : Shared) (ws : List Value), ws.length = ks.length → BindsTo s fd ⟨[], ks.zip ws⟩ (ps.zip (g ws))) (hgl : ∀ {zs : List V} {ws : List Value}, Vals zs ws → zs.length = ks.length → Vals (gV zs) (g ws)) (hx : Passes CX X E)
    (hkw : PK X kws tk) (hall : (backToKw pos (keywordEach kws X.env)).all (·.1.isSome) = true := by rfl) (hks : (backToKw pos (keywordEach kws X.env)).filterMap (·.1) = ks := by rfl)
    (hdb : (x == ("__debug__" : Str)) = false := by decide) (hpl : ((backTo pos (starEach [] X.env)).any (·.1) || (backToKw pos (keywordEach kws X.env)).any (·.1.isNone)) = false := by rfl) :
    PE X (.Call (.Name x p) [] kws pos) (tCallK0 sp ks.length gV E tk) := by
  refine ⟨fun pins s σ H Q I h => ?_⟩
  refine wpAny_Call_Name_kw (ld_glob I hg hm ?_ hdb)
  refine PySem.W.callWith_KW0 (h₀ := X.base) I.ok.mod.kin hk hall (thn (hkw.run pos pins s σ H _ I h) fun ws s2 ⟨zs, H2, I2, rz, hl, q2⟩ => ⟨I2.kIn, ?_⟩) hpl
  rw [hks]
  have r2 := hgl rz hl
  refine wpAny_call (codeAny_mono (F.run X.A X.stack s2 H2 ⟨[], ks.zip ws⟩ (g ws) (gV zs) Q E hr I2.env0 (hb s2 ws (rz.length.symm.trans hl)) r2 q2) fun r s' hq => ?_)
  cases r with
  | error e => exact hx pins σ H2 s2 e s' I2 hq
  | ok fl =>
    cases fl with
    | ret u => exact I2.after hq
    | next => exact False.elim hq
    | brk => exact False.elim hq
    | cont => exact False.elim hq
end
def tRevT (K : PySem.W.Frag) (te : TE) : TE := fun σ H Q => te σ H fun x H1 => ∃ a xs, x = .ref a ∧ SqT K H1 a xs ∧ ∀ p, H1 p = none → Q (.ref p) (upd H1 p (.tup xs.reverse))

def topS (i : Nat) : Stmt := PySem.Challenge.pw_muffline_k73_whole_tunnel_words.main.body.getD i (.Pass ⟨0, 0, 0, 0⟩)
abbrev sis_name : Stmt := topS 7
abbrev Nis_name : List Str := ["value"]
theorem scis_name : FnScope Nis_name ["value"] (defScope sis_name) := ⟨rfl, rfl, rfl, by decide +kernel, rfl, by decide +kernel, by decide +kernel⟩
abbrev s_is_word : Stmt := topS 8
abbrev N_is_word : List Str := ["value", "least", "greatest", "sign"]
theorem sc_is_word : FnScope N_is_word ["value", "least", "greatest"] (defScope s_is_word) := ⟨rfl, rfl, rfl, by decide +kernel, rfl, by decide +kernel, by decide +kernel⟩
abbrev sTunnel___init__ : Stmt := inClass (topS 12) 0
abbrev NTunnel___init__ : List Str := ["self", "window", "first", "second"]
theorem scTunnel___init__ : FnScope NTunnel___init__ ["self", "window", "first", "second"] (defScope sTunnel___init__) := ⟨rfl, rfl, rfl, by decide +kernel, rfl, by decide +kernel, by decide +kernel⟩
abbrev sTunnel_received : Stmt := inClass (topS 12) 1
abbrev NTunnel_received : List Str := ["self"]
theorem scTunnel_received : FnScope NTunnel_received ["self"] (defScope sTunnel_received) := ⟨rfl, rfl, rfl, by decide +kernel, rfl, by decide +kernel, by decide +kernel⟩
abbrev sTunnel_send : Stmt := inClass (topS 12) 2
abbrev NTunnel_send : List Str := ["self", "payload"]
theorem scTunnel_send : FnScope NTunnel_send ["self", "payload"] (defScope sTunnel_send) := ⟨rfl, rfl, rfl, by decide +kernel, rfl, by decide +kernel, by decide +kernel⟩
abbrev sTunnel_rekey : Stmt := inClass (topS 12) 3
abbrev NTunnel_rekey : List Str := ["self"]
theorem scTunnel_rekey : FnScope NTunnel_rekey ["self"] (defScope sTunnel_rekey) := ⟨rfl, rfl, rfl, by decide +kernel, rfl, by decide +kernel, by decide +kernel⟩
abbrev sTunnel_deliver : Stmt := inClass (topS 12) 4
abbrev NTunnel_deliver : List Str := ["self", "number", "epoch", "count", "_"]
theorem scTunnel_deliver : FnScope NTunnel_deliver ["self", "number"] (defScope sTunnel_deliver) := ⟨rfl, rfl, rfl, by decide +kernel, rfl, by decide +kernel, by decide +kernel⟩
abbrev sTunnel__renew : Stmt := inClass (topS 12) 5
abbrev NTunnel__renew : List Str := ["self", "epoch"]
theorem scTunnel__renew : FnScope NTunnel__renew ["self", "epoch"] (defScope sTunnel__renew) := ⟨rfl, rfl, rfl, by decide +kernel, rfl, by decide +kernel, by decide +kernel⟩
abbrev sTunnel__judged : Stmt := inClass (topS 12) 6
abbrev NTunnel__judged : List Str := ["self", "back", "number", "count", "top"]
theorem scTunnel__judged : FnScope NTunnel__judged ["self", "back", "number", "count"] (defScope sTunnel__judged) := ⟨rfl, rfl, rfl, by decide +kernel, rfl, by decide +kernel, by decide +kernel⟩
abbrev sTunnel_letter : Stmt := inClass (topS 12) 7
abbrev NTunnel_letter : List Str := ["self", "number"]
theorem scTunnel_letter : FnScope NTunnel_letter ["self", "number"] (defScope sTunnel_letter) := ⟨rfl, rfl, rfl, by decide +kernel, rfl, by decide +kernel, by decide +kernel⟩
abbrev s_law_pile : Stmt := topS 14
abbrev N_law_pile : List Str := ["script", "seed", "found", "cell", "number", "rest", "k"]
theorem sc_law_pile : FnScope N_law_pile ["script"] (defScope s_law_pile) := ⟨rfl, rfl, rfl, by decide +kernel, rfl, by decide +kernel, by decide +kernel⟩
abbrev s_law_draw : Stmt := topS 15
abbrev N_law_draw : List Str := ["pile", "many"]
theorem sc_law_draw : FnScope N_law_draw ["pile", "many"] (defScope s_law_draw) := ⟨rfl, rfl, rfl, by decide +kernel, rfl, by decide +kernel, by decide +kernel⟩
abbrev s_law_names : Stmt := topS 16
abbrev N_law_names : List Str := ["pile", "many", "letters", "base", "k", "spot", "begin", "stride", "found"]
theorem sc_law_names : FnScope N_law_names ["pile", "many"] (defScope s_law_names) := ⟨rfl, rfl, rfl, by decide +kernel, rfl, by decide +kernel, by decide +kernel⟩
abbrev s_law_whole : Stmt := topS 17
abbrev N_law_whole : List Str := ["actual"]
theorem sc_law_whole : FnScope N_law_whole ["actual"] (defScope s_law_whole) := ⟨rfl, rfl, rfl, by decide +kernel, rfl, by decide +kernel, by decide +kernel⟩
abbrev s_law_same : Stmt := topS 18
abbrev N_law_same : List Str := ["actual", "expected", "k"]
theorem sc_law_same : FnScope N_law_same ["actual", "expected"] (defScope s_law_same) := ⟨rfl, rfl, rfl, by decide +kernel, rfl, by decide +kernel, by decide +kernel⟩
abbrev s_law_size : Stmt := topS 19
abbrev N_law_size : List Str := ["pile"]
theorem sc_law_size : FnScope N_law_size ["pile"] (defScope s_law_size) := ⟨rfl, rfl, rfl, by decide +kernel, rfl, by decide +kernel, by decide +kernel⟩
abbrev s_law_word : Stmt := topS 20
abbrev N_law_word : List Str := ["size", "letters", "history", "number", "epoch", "newest", "k", "top"]
theorem sc_law_word : FnScope N_law_word ["size", "letters", "history", "number"] (defScope s_law_word) := ⟨rfl, rfl, rfl, by decide +kernel, rfl, by decide +kernel, by decide +kernel⟩
abbrev s_law_send : Stmt := topS 21
abbrev N_law_send : List Str := ["every", "once", "direct", "letters", "sender", "payload", "number"]
theorem sc_law_send : FnScope N_law_send ["every", "once", "direct", "letters", "sender", "payload"] (defScope s_law_send) := ⟨rfl, rfl, rfl, by decide +kernel, rfl, by decide +kernel, by decide +kernel⟩
abbrev s_law_rekey : Stmt := topS 22
abbrev N_law_rekey : List Str := ["every", "once", "direct", "sender"]
theorem sc_law_rekey : FnScope N_law_rekey ["every", "once", "direct", "sender"] (defScope s_law_rekey) := ⟨rfl, rfl, rfl, by decide +kernel, rfl, by decide +kernel, by decide +kernel⟩
abbrev s_law_deliver : Stmt := topS 23
abbrev N_law_deliver : List Str := ["every", "once", "size", "letters", "history", "expected", "number", "word"]
theorem sc_law_deliver : FnScope N_law_deliver ["every", "once", "size", "letters", "history", "expected", "number"] (defScope s_law_deliver) := ⟨rfl, rfl, rfl, by decide +kernel, rfl, by decide +kernel, by decide +kernel⟩
abbrev s_law_shuffled : Stmt := topS 24
abbrev N_law_shuffled : List Str := ["pile", "found", "row", "k", "spot", "held"]
theorem sc_law_shuffled : FnScope N_law_shuffled ["pile", "found"] (defScope s_law_shuffled) := ⟨rfl, rfl, rfl, by decide +kernel, rfl, by decide +kernel, by decide +kernel⟩
abbrev s_law_any_order : Stmt := topS 25
abbrev N_law_any_order : List Str := ["pile", "names", "letters", "newest", "last", "k", "size", "wide", "epoch", "letter", "order", "number"]
theorem sc_law_any_order : FnScope N_law_any_order ["pile", "names", "letters"] (defScope s_law_any_order) := ⟨rfl, rfl, rfl, by decide +kernel, rfl, by decide +kernel, by decide +kernel⟩
abbrev slaw : Stmt := topS 26
abbrev Nlaw : List Str := ["script", "pile", "names", "size", "every", "once", "direct", "letters", "history", "expected", "sender", "k", "kind", "right", "number"]
theorem sclaw : FnScope Nlaw ["script"] (defScope slaw) := ⟨rfl, rfl, rfl, by decide +kernel, rfl, by decide +kernel, by decide +kernel⟩
structure Top (K : PySem.W.Frag) (mg : Str → Option Value) where
  C_Tunnel : Addr
  g_Tunnel : mg "Tunnel" = some (.ref C_Tunnel)
  cl_Tunnel : Cls K C_Tunnel
  n_Tunnel_window : NoAttr K C_Tunnel "window"
  n_Tunnel_first : NoAttr K C_Tunnel "first"
  n_Tunnel_second : NoAttr K C_Tunnel "second"
  n_Tunnel__letters : NoAttr K C_Tunnel "_letters"
  n_Tunnel__epoch : NoAttr K C_Tunnel "_epoch"
  n_Tunnel__sent : NoAttr K C_Tunnel "_sent"
  n_Tunnel__newest : NoAttr K C_Tunnel "_newest"
  n_Tunnel__counts : NoAttr K C_Tunnel "_counts"
  n_Tunnel__tops : NoAttr K C_Tunnel "_tops"
  n_Tunnel__received : NoAttr K C_Tunnel "_received"
  fis_name : Addr
  dis_name : FuncData
  Fis_name : Fun K "is_name" "is_name" sis_name fis_name dis_name
  bis_name : Binds K dis_name ["value"] []
  gis_name : mg "is_name" = some (.ref fis_name)
  f_is_word : Addr
  d_is_word : FuncData
  F_is_word : Fun K "_is_word" "_is_word" s_is_word f_is_word d_is_word
  b_is_word : Binds K d_is_word ["value", "least", "greatest"] []
  g_is_word : mg "_is_word" = some (.ref f_is_word)
  fTunnel___init__ : Addr
  dTunnel___init__ : FuncData
  FTunnel___init__ : Fun K "__init__" "Tunnel.__init__" sTunnel___init__ fTunnel___init__ dTunnel___init__
  bTunnel___init__ : Binds K dTunnel___init__ ["self", "window", "first", "second"] []
  mTunnel___init__ : Meth K C_Tunnel "__init__" fTunnel___init__
  fTunnel_received : Addr
  dTunnel_received : FuncData
  FTunnel_received : Fun K "received" "Tunnel.received" sTunnel_received fTunnel_received dTunnel_received
  bTunnel_received : Binds K dTunnel_received ["self"] []
  p_Tunnel_received : Addr
  pr_Tunnel_received : PropOf K C_Tunnel "received" p_Tunnel_received fTunnel_received
  fTunnel_send : Addr
  dTunnel_send : FuncData
  FTunnel_send : Fun K "send" "Tunnel.send" sTunnel_send fTunnel_send dTunnel_send
  bTunnel_send : Binds K dTunnel_send ["self", "payload"] []
  mTunnel_send : Meth K C_Tunnel "send" fTunnel_send
  fTunnel_rekey : Addr
  dTunnel_rekey : FuncData
  FTunnel_rekey : Fun K "rekey" "Tunnel.rekey" sTunnel_rekey fTunnel_rekey dTunnel_rekey
  bTunnel_rekey : Binds K dTunnel_rekey ["self"] []
  mTunnel_rekey : Meth K C_Tunnel "rekey" fTunnel_rekey
  fTunnel_deliver : Addr
  dTunnel_deliver : FuncData
  FTunnel_deliver : Fun K "deliver" "Tunnel.deliver" sTunnel_deliver fTunnel_deliver dTunnel_deliver
  bTunnel_deliver : Binds K dTunnel_deliver ["self", "number"] []
  mTunnel_deliver : Meth K C_Tunnel "deliver" fTunnel_deliver
  fTunnel__renew : Addr
  dTunnel__renew : FuncData
  FTunnel__renew : Fun K "_renew" "Tunnel._renew" sTunnel__renew fTunnel__renew dTunnel__renew
  bTunnel__renew : Binds K dTunnel__renew ["self", "epoch"] []
  mTunnel__renew : Meth K C_Tunnel "_renew" fTunnel__renew
  fTunnel__judged : Addr
  dTunnel__judged : FuncData
  FTunnel__judged : Fun K "_judged" "Tunnel._judged" sTunnel__judged fTunnel__judged dTunnel__judged
  bTunnel__judged : Binds K dTunnel__judged ["self", "back", "number", "count"] []
  mTunnel__judged : Meth K C_Tunnel "_judged" fTunnel__judged
  fTunnel_letter : Addr
  dTunnel_letter : FuncData
  FTunnel_letter : Fun K "letter" "Tunnel.letter" sTunnel_letter fTunnel_letter dTunnel_letter
  bTunnel_letter : Binds K dTunnel_letter ["self", "number"] []
  mTunnel_letter : Meth K C_Tunnel "letter" fTunnel_letter
  f_law_pile : Addr
  d_law_pile : FuncData
  F_law_pile : Fun K "_law_pile" "_law_pile" s_law_pile f_law_pile d_law_pile
  b_law_pile : Binds K d_law_pile ["script"] []
  g_law_pile : mg "_law_pile" = some (.ref f_law_pile)
  f_law_draw : Addr
  d_law_draw : FuncData
  F_law_draw : Fun K "_law_draw" "_law_draw" s_law_draw f_law_draw d_law_draw
  b_law_draw : Binds K d_law_draw ["pile", "many"] []
  g_law_draw : mg "_law_draw" = some (.ref f_law_draw)
  f_law_names : Addr
  d_law_names : FuncData
  F_law_names : Fun K "_law_names" "_law_names" s_law_names f_law_names d_law_names
  b_law_names : Binds K d_law_names ["pile", "many"] []
  g_law_names : mg "_law_names" = some (.ref f_law_names)
  f_law_whole : Addr
  d_law_whole : FuncData
  F_law_whole : Fun K "_law_whole" "_law_whole" s_law_whole f_law_whole d_law_whole
  b_law_whole : Binds K d_law_whole ["actual"] []
  g_law_whole : mg "_law_whole" = some (.ref f_law_whole)
  f_law_same : Addr
  d_law_same : FuncData
  F_law_same : Fun K "_law_same" "_law_same" s_law_same f_law_same d_law_same
  b_law_same : Binds K d_law_same ["actual", "expected"] []
  g_law_same : mg "_law_same" = some (.ref f_law_same)
  f_law_size : Addr
  d_law_size : FuncData
  F_law_size : Fun K "_law_size" "_law_size" s_law_size f_law_size d_law_size
  b_law_size : Binds K d_law_size ["pile"] []
  g_law_size : mg "_law_size" = some (.ref f_law_size)
  f_law_word : Addr
  d_law_word : FuncData
  F_law_word : Fun K "_law_word" "_law_word" s_law_word f_law_word d_law_word
  b_law_word : Binds K d_law_word ["size", "letters", "history", "number"] []
  g_law_word : mg "_law_word" = some (.ref f_law_word)
  f_law_send : Addr
  d_law_send : FuncData
  F_law_send : Fun K "_law_send" "_law_send" s_law_send f_law_send d_law_send
  b_law_send : Binds K d_law_send ["every", "once", "direct", "letters", "sender", "payload"] []
  g_law_send : mg "_law_send" = some (.ref f_law_send)
  f_law_rekey : Addr
  d_law_rekey : FuncData
  F_law_rekey : Fun K "_law_rekey" "_law_rekey" s_law_rekey f_law_rekey d_law_rekey
  b_law_rekey : Binds K d_law_rekey ["every", "once", "direct", "sender"] []
  g_law_rekey : mg "_law_rekey" = some (.ref f_law_rekey)
  f_law_deliver : Addr
  d_law_deliver : FuncData
  F_law_deliver : Fun K "_law_deliver" "_law_deliver" s_law_deliver f_law_deliver d_law_deliver
  b_law_deliver : Binds K d_law_deliver ["every", "once", "size", "letters", "history", "expected", "number"] []
  g_law_deliver : mg "_law_deliver" = some (.ref f_law_deliver)
  f_law_shuffled : Addr
  d_law_shuffled : FuncData
  F_law_shuffled : Fun K "_law_shuffled" "_law_shuffled" s_law_shuffled f_law_shuffled d_law_shuffled
  b_law_shuffled : Binds K d_law_shuffled ["pile", "found"] []
  g_law_shuffled : mg "_law_shuffled" = some (.ref f_law_shuffled)
  f_law_any_order : Addr
  d_law_any_order : FuncData
  F_law_any_order : Fun K "_law_any_order" "_law_any_order" s_law_any_order f_law_any_order d_law_any_order
  b_law_any_order : Binds K d_law_any_order ["pile", "names", "letters"] []
  g_law_any_order : mg "_law_any_order" = some (.ref f_law_any_order)
  flaw : Addr
  dlaw : FuncData
  Flaw : Fun K "law" "law" slaw flaw dlaw
  blaw : Binds K dlaw ["script"] []
  glaw : mg "law" = some (.ref flaw)
  mk_Tunnel : Mk K C_Tunnel fTunnel___init__
  t_LONGEST_NAME : Tok
  c_LONGEST_NAME : mg "LONGEST_NAME" = some (.int 8 t_LONGEST_NAME)
  t_WIDEST_WINDOW : Tok
  c_WIDEST_WINDOW : mg "WIDEST_WINDOW" = some (.int 64 t_WIDEST_WINDOW)
  t_LAST_EPOCH : Tok
  c_LAST_EPOCH : mg "LAST_EPOCH" = some (.int 12 t_LAST_EPOCH)
  z_ValueError : mg "ValueError" = none
  z_abs : mg "abs" = none
  z_all : mg "all" = none
  z_bool : mg "bool" = none
  z_int : mg "int" = none
  z_isinstance : mg "isinstance" = none
  z_len : mg "len" = none
  z_list : mg "list" = none
  z_max : mg "max" = none
  z_property : mg "property" = none
  z_range : mg "range" = none
  z_str : mg "str" = none
  z_tuple : mg "tuple" = none
/-! ### the hand's short words -/
/-- all but what stands at a is as it was -/
def Fr (a : Addr) (H H' : Hp) : Prop := ∀ x o, H x = some o → x ≠ a → H' x = some o
theorem Fr.refl (a : Addr) (H : Hp) : Fr a H H := fun _ _ h _ => h
theorem Fr.trans {a : Addr} {H H1 H2 : Hp} (p : Fr a H H1) (q : Fr a H1 H2) : Fr a H H2 := fun x o h n => q x o (p x o h n) n
theorem Fr.upd {a : Addr} {o : HO} (H : Hp) : Fr a H (L2.upd H a o) := fun x u h n => by rw [upd_ne n]; exact h
theorem Fr.new {a p : Addr} {o : HO} {H : Hp} (h : H p = none) : Fr a H (L2.upd H p o) := fun x u e _ => by rw [upd_ne (ne_of_none e h)]; exact e
theorem Fr.same {a : Addr} {H H' : Hp} (h : Same H H') : Fr a H H' := fun x o e _ => h x o e
/-- two lists that differ -/
theorem ne_lst {H : Hp} {a b : Addr} {xs ys : List V} (h1 : H a = some (.lst xs)) (h2 : H b = some (.lst ys)) (n : xs ≠ ys) : a ≠ b := fun e => by
  subst e
  rw [h1] at h2
  exact n (HO.lst.inj (Option.some.inj h2))
theorem ofb {b : Bool} (h : ¬ b = true) : b = false := by cases b with | true => exact absurd rfl h | false => rfl
theorem at_ok {α : Type} {xs : List α} {p : Int} (h0 : 0 ≤ p) (h1 : p < (xs.length : Int)) : ∃ z, atI xs p = some z ∧ z ∈ xs := by
  obtain ⟨j, rfl⟩ : ∃ j : Nat, p = (j : Int) := ⟨p.toNat, by omega⟩
  have hj : j < xs.length := by omega
  exact ⟨xs[j], atI_nat (List.getElem?_eq_getElem hj), List.getElem_mem hj⟩
theorem at_map {α β : Type} {f : α → β} {xs : List α} {p : Int} (h0 : 0 ≤ p) (h1 : p < (xs.length : Int)) : ∃ z, z ∈ xs ∧ atI (xs.map f) p = some (f z) := by
  obtain ⟨z, hz, hm⟩ := at_ok (xs := xs.map f) h0 (by rw [List.length_map]; exact h1)
  obtain ⟨y, hy, rfl⟩ := List.mem_map.mp hm
  exact ⟨y, hy, hz⟩

/-! ### one step of a reading -/
section
variable {σ : L2.St} {H : Hp} {Q : VK} {D : Ends} {K : PySem.W.Frag}
theorem w_var {i : Nat} {v : V} (h : σ[i]? = some (some v)) (q : Q v H) : tVar i σ H Q := ⟨v, h, q⟩
theorem w_c {v : V} (q : Q v H) : tC v σ H Q := q
theorem w_op {r : R2} {ta tb : TE} (q : ta σ H fun x H1 => tb σ H1 fun y H2 => r x y H2 Q) : tOp r ta tb σ H Q := q
theorem w_un {r : V → Hp → VK → Prop} {ta : TE} (q : ta σ H fun x H1 => r x H1 Q) : tUn r ta σ H Q := q
theorem w_cb {r : List V → Hp → VK → Prop} {t : TA} (q : t σ H fun vs H1 => r vs H1 Q) : tCB r t σ H Q := q
theorem w_cons {ta : TE} {tr : TA} {R : List V → Hp → Prop} (q : ta σ H fun x H1 => tr σ H1 fun xs H2 => R (x :: xs) H2) : tCons ta tr σ H R := q
theorem w_nil {R : List V → Hp → Prop} (q : R [] H) : tNil σ H R := q
theorem w_seq {t u : TS} (q : t { D with nx := u D } σ H) : tSeq t u D σ H := q
theorem w_next (q : D.nx σ H) : tNext D σ H := q
theorem w_asg {te : TE} {g : TG} (q : te σ H fun x H1 => g x σ H1 D.nx) : tAsg te g D σ H := q
theorem w_gname {i : Nat} {v : V} {R : L2.St → Hp → Prop} (q : R (σ.set i (some v)) H) : gName i v σ H R := q
theorem w_gsub {to ti : TE} {t : TSet} {v : V} {R : L2.St → Hp → Prop} (q : to σ H fun o H1 => ti σ H1 fun i H2 => t o i v H2 fun H3 => R σ H3) : gSub to ti t v σ H R := q
theorem w_drop {te : TE} (q : te σ H fun _ H1 => D.nx σ H1) : tDrop te D σ H := q
theorem w_ret {te : TE} (q : te σ H D.rt) : tRet te D σ H := q
theorem w_retN (q : D.rt .non H) : tRetN D σ H := q
theorem w_ifs {c : TT} {t u : TS} (q : c σ H fun b H1 => if b = true then t D σ H1 else u D σ H1) : tIfS c t u D σ H := q
theorem w_test {te : TE} {R : Bool → Hp → Prop} (q : te σ H fun x H' => ∃ k, x = .bl k ∧ R k H') : tTest te σ H R := q
theorem w_tB {te : TE} {R : Bool → Hp → Prop} (q : te σ H fun x H' => ∃ k, x = .bl k ∧ R k H') : tB te σ H R := q
theorem w_and {t u : TT} {R : Bool → Hp → Prop} (q : t σ H fun c H1 => if c = true then u σ H1 R else R false H1) : tAnd t u σ H R := q
theorem w_or {t u : TT} {R : Bool → Hp → Prop} (q : t σ H fun c H1 => if c = true then R true H1 else u σ H1 R) : tOr t u σ H R := q
theorem w_not {t : TT} {R : Bool → Hp → Prop} (q : t σ H fun c H1 => R (!c) H1) : tNot t σ H R := q
theorem w_k {k : Bool} {R : Bool → Prop} (q : R k) : ∃ k', V.bl k = .bl k' ∧ R k' := ⟨k, rfl, q⟩
theorem w_I0 {g : Int → Int → V} {i j : Int} (q : Q (g i j) H) : rI0 g (.int i) (.int j) H Q := ⟨i, j, rfl, rfl, q⟩
theorem w_I {C : Int → Int → Prop} {g : Int → Int → V} {i j : Int} (c : C i j) (q : Q (g i j) H) : rI C g (.int i) (.int j) H Q := ⟨i, j, rfl, rfl, c, q⟩
theorem w_U {g : Int → V} {i : Int} (q : Q (g i) H) : rU g (.int i) H Q := ⟨i, rfl, q⟩
theorem w_eqI {i j : Int} (q : Q (.bl (decide (i = j))) H) : rEq (.int i) (.int j) H Q := ⟨rfl, by
  rw [show decide (V.int i = V.int j) = decide (i = j) from decide_eq_decide.mpr ⟨fun e => V.int.inj e, fun e => e ▸ rfl⟩]
  exact q⟩
theorem w_neI {i j : Int} (q : Q (.bl (!decide (i = j))) H) : rNe (.int i) (.int j) H Q := ⟨rfl, by
  rw [show decide (V.int i = V.int j) = decide (i = j) from decide_eq_decide.mpr ⟨fun e => V.int.inj e, fun e => e ▸ rfl⟩]
  exact q⟩
theorem w_eqS {i j : Str} (q : Q (.bl (decide (i = j))) H) : rEq (.str i) (.str j) H Q := ⟨rfl, by
  rw [show decide (V.str i = V.str j) = decide (i = j) from decide_eq_decide.mpr ⟨fun e => V.str.inj e, fun e => e ▸ rfl⟩]
  exact q⟩
theorem w_neS {i j : Str} (q : Q (.bl (!decide (i = j))) H) : rNe (.str i) (.str j) H Q := ⟨rfl, by
  rw [show decide (V.str i = V.str j) = decide (i = j) from decide_eq_decide.mpr ⟨fun e => V.str.inj e, fun e => e ▸ rfl⟩]
  exact q⟩
theorem w_ixL {p : Addr} {xs : List V} {i : Int} {v : V} (h : SqL K H p xs) (e : atI xs i = some v) (q : Q v H) : rIxL K (.ref p) (.int i) H Q := ⟨p, xs, i, v, rfl, rfl, h, e, q⟩
theorem w_ixT {p : Addr} {xs : List V} {i : Int} {v : V} (h : SqT K H p xs) (e : atI xs i = some v) (q : Q v H) : rIxT K (.ref p) (.int i) H Q := ⟨p, xs, i, v, rfl, rfl, h, e, q⟩
theorem w_setL {p : Addr} {xs : List V} {k : Int} {j : Nat} {v : V} {R : Hp → Prop} (h : H p = some (.lst xs)) (e : ixN xs.length k = some j) (q : R (upd H p (.lst (xs.set j v)))) : rSetL (.ref p) (.int k) v H R := ⟨p, xs, k, j, rfl, rfl, h, e, q⟩
theorem w_call {sp : Sp} {dvs : List V} {E : XK} {t : TA} (q : t σ H fun vs H1 => sp (vs ++ dvs) H1 Q E) : tCall sp dvs E t σ H Q := q
theorem w_tup {t : TA} (q : t σ H fun xs H1 => xs.length ≤ sizeLine ∧ ∀ p, H1 p = none → Q (.ref p) (upd H1 p (.tup xs))) : tTup t σ H Q := q
theorem w_lst {t : TA} (q : t σ H fun xs H1 => xs.length ≤ sizeLine ∧ ∀ p, H1 p = none → Q (.ref p) (upd H1 p (.lst xs))) : tLst t σ H Q := q
theorem w_int {i : Int} {C : Prop} {R : Int → Prop} (q : R i) : (∃ j, [V.int i] = [.int j] ∧ R j) ∨ C := .inl ⟨i, rfl, q⟩
theorem w_bm {T : String} {r : V → List V → Hp → VK → Prop} {to : TE} {t : TA} (q : to σ H fun x H1 => tyV K T x H1 ∧ t σ H1 fun xs H2 => r x xs H2 Q) : tBM K T r to t σ H Q := q
theorem w_bm0 {T : String} {r : V → List V → Hp → VK → Prop} {to : TE} (q : to σ H fun x H1 => tyV K T x H1 ∧ r x [] H1 Q) : tBM0 K T r to σ H Q := q
theorem w_append {l : Addr} {xs : List V} {y : V} (h : H l = some (.lst xs)) (n : xs.length < sizeLine) (q : Q .non (upd H l (.lst (xs ++ [y])))) : rAppend (.ref l) [y] H Q := ⟨l, xs, y, rfl, rfl, h, n, q⟩
theorem ty_l {l : Addr} {xs : List V} (h : H l = some (.lst xs)) : tyV K "list" (.ref l) H := Or.inl ⟨rfl, _, Or.inl (Or.inl h)⟩
theorem w_tyl {l : Addr} {xs : List V} {C : Prop} (h : H l = some (.lst xs)) (q : C) : tyV K "list" (.ref l) H ∧ C := ⟨ty_l h, q⟩
theorem w_sl {r : V → Option Int → Option Int → Hp → VK → Prop} {te : TE} {tl th : TO} (q : te σ H fun x H1 => tl σ H1 fun l H2 => th σ H2 fun u H3 => r x l u H3 Q) : tSl r te tl th σ H Q := q
theorem w_no {R : Option Int → Hp → Prop} (q : R none H) : tNoPart σ H R := q
theorem w_part {t : TE} {R : Option Int → Hp → Prop} (q : t σ H fun x H1 => ∃ i, x = .int i ∧ R (some i) H1) : tPart t σ H R := q
theorem w_pi {i : Int} {R : Int → Prop} (q : R i) : ∃ j, V.int i = .int j ∧ R j := ⟨i, rfl, q⟩
theorem w_slS {z : Str} {lo hi : Option Int} (n : z.length ≤ sizeLine) (q : Q (.str (cutS z lo hi)) H) : rSlS (.str z) lo hi H Q := ⟨z, rfl, n, q⟩
theorem w_m1 {r : V → List V → Hp → VK → Prop} {to te : TE} (q : to σ H fun x H1 => (∃ a, x = .str a) ∧ te σ H1 fun y H2 => r x [y] H2 Q) : tM1 r to te σ H Q := q
theorem w_s {z : Str} {C : Prop} (q : C) : (∃ a, V.str z = .str a) ∧ C := ⟨⟨z, rfl⟩, q⟩
theorem w_len {p : Addr} {ys : List V} {R : List V → Prop} (h : SqL K H p ys) (q : R ys) : ∃ p' ys', [V.ref p] = [V.ref p'] ∧ (SqL K H p' ys' ∨ SqT K H p' ys') ∧ R ys' := ⟨p, ys, rfl, .inl h, q⟩
theorem w_lenT {p : Addr} {ys : List V} {R : List V → Prop} (h : SqT K H p ys) (q : R ys) : ∃ p' ys', [V.ref p] = [V.ref p'] ∧ (SqL K H p' ys' ∨ SqT K H p' ys') ∧ R ys' := ⟨p, ys, rfl, .inr h, q⟩
theorem w_lenS {z : Str} {R : Str → Prop} (n : z.length ≤ sizeLine) (q : R z) : ∃ z', [V.str z] = [V.str z'] ∧ z'.length ≤ sizeLine ∧ R z' := ⟨z, rfl, n, q⟩
theorem w_one {i : Int} {R : Int → Prop} (q : R i) : ∃ j, [V.int i] = [V.int j] ∧ R j := ⟨i, rfl, q⟩
theorem w_two {i j : Int} {R : Int → Int → Prop} (q : R i j) : ∃ i' j', [V.int i, V.int j] = [V.int i', V.int j'] ∧ R i' j' := ⟨i, j, rfl, q⟩
theorem w_for {wi : TI} {g : TG} {tb : TS} (q : wi σ H fun J H1 => ∃ W : Nat → Nat → L2.St → Hp → Prop, (∃ m, W 0 m σ H1) ∧ ∀ i m σ H, W i m σ H → (J.stop i H ∧ D.nx σ H) ∨ (J.go i H ∧ ∃ N : L2.St → Hp → Prop, (∀ σ' H', N σ' H' → ∃ m', m' < m ∧ W (i + 1) m' σ' H') ∧ ∀ x H', J.yld i H x H' → g x σ H' fun σ2 H2 => tb { D with nx := N, ct := N, bk := D.nx } σ2 H2)) : tFor wi g tb D σ H := q
theorem w_iList {tl : TE} {R : It → Hp → Prop} (q : tl σ H fun x H1 => ∃ a, x = .ref a ∧ (∃ xs, SqL K H1 a xs) ∧ R (Itl K a) H1) : iList K tl σ H R := q
theorem w_iTup {tl : TE} {R : It → Hp → Prop} (q : tl σ H fun x H1 => ∃ a, x = .ref a ∧ (∃ xs, SqT K H1 a xs) ∧ R (Itt K a) H1) : iTup K tl σ H R := q
theorem w_itl {a : Addr} {xs : List V} {R : Addr → Prop} (h : SqL K H a xs) (q : R a) : ∃ a', V.ref a = .ref a' ∧ (∃ xs, SqL K H a' xs) ∧ R a' := ⟨a, rfl, ⟨xs, h⟩, q⟩
theorem w_itt {a : Addr} {xs : List V} {R : Addr → Prop} (h : SqT K H a xs) (q : R a) : ∃ a', V.ref a = .ref a' ∧ (∃ xs, SqT K H a' xs) ∧ R a' := ⟨a, rfl, ⟨xs, h⟩, q⟩
theorem w_iRng1 {ta : TA} {R : It → Hp → Prop} (q : ta σ H fun vs H1 => ∃ j : Int, vs = [.int j] ∧ -(2 ^ 62) ≤ j ∧ j < 2 ^ 62 ∧ R (Itr 0 j.toNat) H1) : iRng1 ta σ H R := q
theorem w_rng {j : Int} {R : Int → Prop} (h1 : -(2 ^ 62) ≤ j) (h2 : j < 2 ^ 62) (q : R j) : ∃ j' : Int, [V.int j] = [.int j'] ∧ -(2 ^ 62) ≤ j' ∧ j' < 2 ^ 62 ∧ R j' := ⟨j, rfl, h1, h2, q⟩
theorem w_listL {p : Addr} {ys : List V} {R : Addr → List V → Prop} (h : SqL K H p ys) (q : R p ys) : ∃ p' ys', [V.ref p] = [V.ref p'] ∧ (SqL K H p' ys' ∨ SqT K H p' ys') ∧ R p' ys' := ⟨p, ys, rfl, .inl h, q⟩
theorem w_lc {wi : TI} {g : TG} {tt : TT} {te : TE} {vs : List Nat} (q : wi σ H fun J H1 => ∀ D, H1 D = none → ∃ W : Nat → Nat → Hp → Prop, (∃ m, W 0 m (upd H1 D (.lst []))) ∧ ∀ i m H, W i m H →
      (J.stop i H ∧ Q (.ref D) H) ∨ (J.go i H ∧ ∃ Nx : Hp → Prop, (∀ H', Nx H' → ∃ m', m' < m ∧ W (i + 1) m' H') ∧ ∀ x H', J.yld i H x H' → g x (wipe σ vs) H' fun σ2 H2 => wipe σ2 vs = wipe σ vs ∧ tt σ2 H2 fun b H3 =>
        if b = true then te σ2 H3 fun y H4 => ∃ acc, H4 D = some (.lst acc) ∧ acc.length < sizeLine ∧ Nx (upd H4 D (.lst (acc ++ [y]))) else Nx H3)) : tLc wi g tt te vs σ H Q := q
theorem w_yes {R : Bool → Hp → Prop} (q : R true H) : tYes σ H R := q
theorem w_wipe {σ1 σ2 : L2.St} {C : Prop} (h : σ1 = σ2) (q : C) : σ1 = σ2 ∧ C := ⟨h, q⟩
theorem w_addS {i j : Str} {R : Str → Str → Prop} (n : i.length + j.length ≤ sizeLine) (q : R i j) : ∃ i' j', V.str i = .str i' ∧ V.str j = .str j' ∧ i'.length + j'.length ≤ sizeLine ∧ R i' j' := ⟨i, j, rfl, rfl, n, q⟩
theorem w_cmpS {i j : Str} {R : Str → Str → Prop} (q : R i j) : ∃ i' j', V.str i = .str i' ∧ V.str j = .str j' ∧ R i' j' := ⟨i, j, rfl, rfl, q⟩
theorem w_while {c : TT} {tb : TS} (W : Nat → L2.St → Hp → Prop) (m : Nat) (h0 : W m σ H) (h : ∀ m σ H, W m σ H → c σ H fun b H1 => if b = true then ∃ N : L2.St → Hp → Prop, (∀ σ' H', N σ' H' → ∃ m', m' < m ∧ W m' σ' H') ∧ tb { D with nx := N, ct := N, bk := D.nx } σ H1 else D.nx σ H1) : tWhile c tb D σ H := ⟨W, ⟨m, h0⟩, h⟩
theorem w_truL {p : Addr} {xs : List V} {R : Bool → Prop} (h : SqL K H p xs) (q : R (!xs.isEmpty)) : ∃ k, TruV K (.ref p) H k ∧ R k := ⟨_, Or.inl ⟨xs, h, rfl⟩, q⟩
theorem w_pop {l : Addr} {xs : List V} {y : V} (h : H l = some (.lst (xs ++ [y]))) (q : Q y (upd H l (.lst xs))) : rPop (.ref l) [] H Q := ⟨l, xs ++ [y], y, rfl, rfl, h, by simp, by rw [List.dropLast_concat]; exact q⟩
theorem w_revA {te : TE} {R : It → Hp → Prop} (q : te σ H fun v H1 => ∃ (a : Addr) (xs : List V), v = .ref a ∧ ((SqL K H1 a xs ∧ R (Itv K a xs.length) H1) ∨ (SqT K H1 a xs ∧ R (RT.ItvT K a xs.length) H1))) : RT.iRevA K te σ H R := q
theorem w_rvT {a : Addr} {xs : List V} {C R : Addr → List V → Prop} (h : SqT K H a xs) (q : R a xs) : ∃ (a' : Addr) (xs' : List V), V.ref a = .ref a' ∧ (C a' xs' ∨ (SqT K H a' xs' ∧ R a' xs')) := ⟨a, xs, rfl, .inr ⟨h, q⟩⟩
theorem w_rvL {a : Addr} {xs : List V} {C R : Addr → List V → Prop} (h : SqL K H a xs) (q : R a xs) : ∃ (a' : Addr) (xs' : List V), V.ref a = .ref a' ∧ ((SqL K H a' xs' ∧ R a' xs') ∨ C a' xs') := ⟨a, xs, rfl, .inl ⟨h, q⟩⟩
theorem w_isi {v : V} {d : PyData} (h : DAt H v d) (q : Q (.bl (isTup d)) H) : rIsi K [v, .ty "tuple"] H Q := by
  cases h with
  | str x => exact ⟨_, _, _, _, false, rfl, .ty _, .base (.str x), kit_ty (by decide +kernel), q⟩
  | int x => exact ⟨_, _, _, _, false, rfl, .ty _, .base (.int x), kit_ty (by decide +kernel), q⟩
  | non => exact ⟨_, _, _, _, false, rfl, .ty _, .base .non, kit_ty (by decide +kernel), q⟩
  | tup h _ => exact ⟨_, _, _, _, true, rfl, .ty _, .base (.tup h), kit_ty (by decide +kernel), q⟩
theorem call_str_any {X : Cx} : CallR X (.type "str") (fun xs H Q => (∃ i, xs = [.int i] ∧ i.natAbs.log2 < 1920 ∧ Q (.str (toString i)) H) ∨ ∃ a, xs = [.str a] ∧ Q (.str a) H) := fun pins s σ H xs us Q I r h => by
  rcases h with h | h
  · exact call_str_int pins s σ H xs us Q I r h
  · exact SkE.call_str_str pins s σ H xs us Q I r h
theorem w_strI {i : Int} {C : Prop} {R : Int → Prop} (h : i.natAbs.log2 < 1920) (q : R i) : (∃ j, [V.int i] = [.int j] ∧ j.natAbs.log2 < 1920 ∧ R j) ∨ C := .inl ⟨i, rfl, h, q⟩
theorem w_strS {z : Str} {C : Prop} {R : Str → Prop} (q : R z) : C ∨ ∃ a, [V.str z] = [.str a] ∧ R a := .inr ⟨z, rfl, q⟩
theorem w_join {a : Str} {p : Addr} {ys : List Str} {R : Str → List Str → Prop} (h : SqL K H p (ys.map V.str)) (n : (ys.map (·.length)).sum + ys.length * a.length ≤ 16777216) (q : R a ys) : ∃ a' p', ∃ ys' : List Str, V.str a = .str a' ∧ [V.ref p] = [.ref p'] ∧ (SqL K H p' (ys'.map V.str) ∨ SqT K H p' (ys'.map V.str)) ∧ (ys'.map (·.length)).sum + ys'.length * a'.length ≤ 16777216 ∧ R a' ys' := ⟨a, p, ys, rfl, rfl, .inl h, n, q⟩
theorem w_dg {td ty : TE} (q : td σ H fun x H1 => ty σ H1 fun y H2 => ∃ a v, x = .ref a ∧ DGet H2 a y (some v) ∧ Q v H2) : tDGet td ty σ H Q := q
theorem w_dgS {b : Addr} {kvs : List (L2.Key × V)} {z : Str} {v : V} {R : V → Prop} (h : H b = some (.dK kvs)) (e : valV kvs (Sum.inr z) = some v) (q : R v) : ∃ a v, V.ref b = .ref a ∧ DGet H a (.str z) (some v) ∧ R v := ⟨b, v, rfl, e ▸ DGet.k (k := Sum.inr z) h, q⟩
theorem w_dp {td ty tv : TE} (q : tv σ H fun v H1 => td σ H1 fun x H2 => ty σ H2 fun y H3 => ∃ a H4, x = .ref a ∧ DPut H3 a y v H4 ∧ D.nx σ H4) : sDPut td ty tv D σ H := q
theorem w_dpS {b : Addr} {kvs : List (L2.Key × V)} {z : Str} {v : V} {R : Hp → Prop} (h : H b = some (.dK kvs)) (n : kvs.length < sizeLine) (q : R (upd H b (.dK (putK kvs (Sum.inr z) v)))) : ∃ a H4, V.ref b = .ref a ∧ DPut H a (.str z) v H4 ∧ R H4 := ⟨b, _, rfl, DPut.k (k := Sum.inr z) h n, q⟩
theorem w_it {c A B : Prop} [Decidable c] (h : c) (q : A) : if c then A else B := by rw [if_pos h]; exact q
theorem w_if {c A B : Prop} [Decidable c] (h : ¬ c) (q : B) : if c then A else B := by rw [if_neg h]; exact q
theorem w_cnt {x y : Str} {R : Str → Str → Prop} (q : R x y) : ∃ a b, V.str x = .str a ∧ [V.str y] = [.str b] ∧ R a b := ⟨x, y, rfl, rfl, q⟩
theorem w_par {i j : Nat} {ta : TA} (q : ta σ H fun vs H1 => ∃ v w, vs = [v, w] ∧ D.nx ((σ.set i (some v)).set j (some w)) H1) : tPar i j ta D σ H := q
theorem w_par2 {v w : V} {R : V → V → Prop} (q : R v w) : ∃ v' w', [v, w] = [v', w'] ∧ R v' w' := ⟨v, w, rfl, q⟩
theorem upd_upd {a : Addr} {o1 o2 : HO} : upd (upd H a o1) a o2 = upd H a o2 := by
  funext b
  unfold upd
  by_cases e : b = a
  · rw [if_pos e, if_pos e]
  · rw [if_neg e, if_neg e, if_neg e]
end
theorem j2 {c : Prop} [Decidable c] {t u : TS} {D : Ends} {σ : L2.St} {H : Hp} (J : Hp → Prop) (k : ∀ H1, J H1 → D.nx σ H1) (h : (∀ H1, J H1 → D.nx σ H1) → if c then t D σ H else u D σ H) : if c then t D σ H else u D σ H := h k
theorem Nm.len {z : Str} (h : Nm z) : z.length ≤ sizeLine := Nat.le_trans h.hi (by decide)
theorem nm_len {z : Str} (h : z.length ≤ 1000000) : z.length ≤ sizeLine := Nat.le_trans h (by decide)
theorem j_ifs {c : TT} {t u : TS} {D : Ends} {σ : L2.St} {H : Hp} (k : D.nx σ H) (h : D.nx σ H → c σ H fun b H1 => if b = true then t D σ H1 else u D σ H1) : tIfS c t u D σ H := h k
theorem j_sig {c : Prop} [Decidable c] {t u : TS} {D : Ends} {σ : L2.St} {H : Hp} (J : L2.St → Prop) (k : ∀ σ', J σ' → D.nx σ' H) (h : (∀ σ', J σ' → D.nx σ' H) → if c then t D σ H else u D σ H) : if c then t D σ H else u D σ H := h k
theorem add_ok {m n : Nat} (h : m + n ≤ 1000000) : m + n ≤ sizeLine := Nat.le_trans h (by decide)
theorem len_app (a b : Str) : (a ++ b).length = a.length + b.length := by rw [cd_len, cd_len, cd_len, cd_app, List.length_append]
theorem len_one (x : Nat) : (⟨#[x]⟩ : Str).length = 1 := rfl
theorem max1 {n : Int} (h : 1 ≤ n) : (if n > 1 then n else 1) = n := by
  by_cases g : n > 1
  · rw [if_pos g]
  · rw [if_neg g]
    omega

local macro_rules | `(tactic| walk_at "ne") => `(tactic| first | assumption | exact Ne.symm (by assumption) | exact ne_of_none (by assumption) (by assumption) | exact Ne.symm (ne_of_none (by assumption) (by assumption)))
local macro_rules | `(tactic| walk_at "hp") => `(tactic| first | assumption | exact upd_same | (rw [upd_ne (by walk_at "ne")]; walk_at "hp"))
local macro_rules | `(tactic| walk_at "sl") => `(tactic| first | assumption | exact SqL.of (by walk_at "hp"))
local macro_rules | `(tactic| walk_at "st") => `(tactic| first | assumption | exact SqT.of (by walk_at "hp"))
local macro_rules | `(tactic| walk_at "c") => `(tactic| first | assumption | decide | exact ⟨by omega, by omega⟩ | (show (0 : Int) < _; omega) | exact Or.inl ⟨by omega, by omega⟩ | exact Or.inr ⟨by omega, by omega⟩)
local macro_rules | `(tactic| walk_at "len") => `(tactic| (simp only [List.length_cons, List.length_nil]; decide))
local macro_rules | `(tactic| walk_at "z") => `(tactic| first | assumption | exact Nm.len (by assumption))
local macro_rules | `(tactic| walk_at "s0") => `(tactic| with_reducible first
  | (apply w_var; case h => with_unfolding_all rfl) | apply w_c | apply w_op | apply w_seq | apply w_asg | apply w_gname | apply w_cb | apply w_cons | apply w_nil | apply w_next
  | apply w_gsub | apply w_drop | apply w_ret | apply w_retN | apply w_test | apply w_tB | apply w_and | apply w_or | apply w_not | apply w_un | apply w_call | apply w_tup | apply w_lst
  | apply w_bm | apply w_bm0 | apply w_sl | apply w_no | apply w_part | apply w_m1 | apply w_dg | apply w_dp | apply w_for | apply w_iList | apply w_iTup | apply w_iRng1 | apply w_lc | apply w_yes | apply w_revA | apply w_par
  | apply w_I0 | apply w_U | apply w_eqI | apply w_neI | apply w_eqS | apply w_neS | apply w_k | apply w_pi | apply w_s | apply w_int
  | (apply w_ixL; (case h => with_unfolding_all walk_at "sl"); (case e => with_unfolding_all rfl)) | (apply w_ixT; (case h => with_unfolding_all walk_at "st"); (case e => with_unfolding_all rfl))
  | (apply w_setL; (case h => with_unfolding_all walk_at "hp"); (case e => with_unfolding_all rfl))
  | (apply w_tyl; (case h => with_unfolding_all walk_at "hp")) | (apply w_len; (case h => with_unfolding_all walk_at "sl")) | (apply w_lenT; (case h => with_unfolding_all walk_at "st"))
  | (apply w_rng; (case h1 => with_unfolding_all omega); (case h2 => with_unfolding_all omega)) | apply w_one | apply w_two
  | (apply w_I; (case c => with_unfolding_all walk_at "c"))
  | (apply w_itl; (case h => with_unfolding_all walk_at "sl")) | (apply w_itt; (case h => with_unfolding_all walk_at "st"))
  | (apply w_wipe; (case h => with_unfolding_all rfl)) | apply iteT | apply iteF | apply w_cmpS | apply w_cnt | apply w_par2
  | (apply w_slS; (case n => with_unfolding_all walk_at "z")) | (apply w_truL; (case h => with_unfolding_all walk_at "sl")) | (apply w_pop; (case h => with_unfolding_all walk_at "hp"))
  | (apply w_rvT; (case h => with_unfolding_all walk_at "st")) | (apply w_rvL; (case h => with_unfolding_all walk_at "sl")) | (apply w_isi; (case h => with_unfolding_all assumption)) | (apply w_lenS; (case n => with_unfolding_all walk_at "z")))
local macro_rules | `(tactic| walk_at "s") => `(tactic| first | walk_at "s0" | with_reducible apply w_ifs)
local macro_rules | `(tactic| walk_at "dc") => `(tactic| first | refine w_it (by decide +kernel) ?_ | refine w_if (by decide +kernel) ?_)
local macro_rules | `(tactic| walk_at "sa") => `(tactic| first | walk_at "s" | refine ⟨add_ok (by (try simp only [len_appS]); omega), ?_⟩ | walk_at "dc")

section
variable {σ : L2.St} {H : Hp} {Q : VK} {D : Ends} {K : PySem.W.Frag}
theorem w_ckw {r : List V → List V → Hp → VK → Prop} {t tk : TA} (q : t σ H fun vs H1 => tk σ H1 fun zs H2 => r vs zs H2 Q) : tCKw r t tk σ H Q := q
theorem w_ck0 {sp : Sp} {n : Nat} {gV : List V → List V} {E : XK} {tk : TA} (q : tk σ H fun zs H2 => zs.length = n ∧ sp (gV zs) H2 Q E) : tCallK0 sp n gV E tk σ H Q := q
theorem w_gtup {n : Nat} {t : TGs} {a : Addr} {xs : List V} {R : L2.St → Hp → Prop} (h : SqT K H a xs) (e : xs.length = n) (q : t xs σ H R) : gTup K n t (.ref a) σ H R := ⟨a, xs, rfl, h, e, q⟩
theorem w_gcons {t : TG} {u : TGs} {v : V} {r : List V} {R : L2.St → Hp → Prop} (q : t v σ H fun σ' H' => u r σ' H' R) : gCons t u (v :: r) σ H R := ⟨v, r, rfl, q⟩
theorem w_gnil {R : L2.St → Hp → Prop} (q : R σ H) : gNil [] σ H R := ⟨rfl, q⟩
theorem isi_s {z : Str} {n : String} {b : Bool} (k : kitB "str" n = some b) (q : Q (.bl b) H) : rIsi K [.str z, .ty n] H Q := ⟨_, _, _, _, b, rfl, .ty _, .base (.str z), kit_ty k, q⟩
theorem isi_i {z : Int} {n : String} {b : Bool} (k : kitB "int" n = some b) (q : Q (.bl b) H) : rIsi K [.int z, .ty n] H Q := ⟨_, _, _, _, b, rfl, .ty _, .base (.int z), kit_ty k, q⟩
theorem isi_t {a : Addr} {vs : List V} {n : String} {b : Bool} (h : H a = some (.tup vs)) (k : kitB "tuple" n = some b) (q : Q (.bl b) H) : rIsi K [.ref a, .ty n] H Q := ⟨_, _, _, _, b, rfl, .ty _, .base (.tup h), kit_ty k, q⟩
theorem isi_st {z : Str} (q : Q (.bl false) H) : rIsi K [.str z, .ty "tuple"] H Q := isi_s (by decide +kernel) q
theorem isi_ss {z : Str} (q : Q (.bl true) H) : rIsi K [.str z, .ty "str"] H Q := isi_s (by decide +kernel) q
theorem isi_it {z : Int} (q : Q (.bl false) H) : rIsi K [.int z, .ty "tuple"] H Q := isi_i (by decide +kernel) q
theorem isi_is {z : Int} (q : Q (.bl false) H) : rIsi K [.int z, .ty "str"] H Q := isi_i (by decide +kernel) q
theorem isi_ib {z : Int} (q : Q (.bl false) H) : rIsi K [.int z, .ty "bool"] H Q := isi_i (by decide +kernel) q
theorem isi_ii {z : Int} (q : Q (.bl true) H) : rIsi K [.int z, .ty "int"] H Q := isi_i (by decide +kernel) q
theorem isi_tt {a : Addr} {vs : List V} (h : H a = some (.tup vs)) (q : Q (.bl true) H) : rIsi K [.ref a, .ty "tuple"] H Q := isi_t h (by decide +kernel) q
theorem w_isN {C : Prop} (q : C) : V.non = V.non ∧ C := ⟨rfl, q⟩
theorem w_isB {a b : Bool} (q : Q (.bl (decide (a = b))) H) : rIsB (.bl a) (.bl b) H Q := ⟨a, b, rfl, rfl, q⟩
theorem w_notB {a b : Bool} (q : Q (.bl (!decide (a = b))) H) : rNotB (.bl a) (.bl b) H Q := ⟨a, b, rfl, rfl, q⟩
theorem w_zf {z : Str} {i : Int} {R : Str → Int → Prop} (n : PadOk i = true) (q : R z i) : ∃ a j, V.str z = .str a ∧ [V.int i] = [.int j] ∧ PadOk j = true ∧ R a j := ⟨z, i, rfl, rfl, n, q⟩
theorem w_tys {z : Str} {C : Prop} (q : C) : tyV K "str" (.str z) H ∧ C := ⟨rfl, q⟩
theorem w_revT {te : TE} (q : te σ H fun x H1 => ∃ a xs, x = .ref a ∧ SqT K H1 a xs ∧ ∀ p, H1 p = none → Q (.ref p) (upd H1 p (.tup xs.reverse))) : tRevT K te σ H Q := q
theorem w_andV {ta tb : TE} (q : ta σ H fun x H1 => ∃ c, x = .bl c ∧ if c = true then tb σ H1 Q else Q (.bl false) H1) : tAndV ta tb σ H Q := q
theorem w_orV {ta tb : TE} (q : ta σ H fun x H1 => ∃ c, x = .bl c ∧ if c = true then Q (.bl true) H1 else tb σ H1 Q) : tOrV ta tb σ H Q := q
theorem w_dnew (q : ∀ p, H p = none → Q (.ref p) (upd H p (.dK []))) : tDNewK σ H Q := q
theorem w_neB {i j : Bool} (q : Q (.bl (!decide (i = j))) H) : rNe (.bl i) (.bl j) H Q := ⟨rfl, by
  rw [show decide (V.bl i = V.bl j) = decide (i = j) from decide_eq_decide.mpr ⟨fun e => V.bl.inj e, fun e => e ▸ rfl⟩]
  exact q⟩
theorem w_chain {r1 r2 : R2} {ta tb tc : TE} (q : ta σ H fun x H1 => tb σ H1 fun y H2 => r1 x y H2 fun z H3 => ∃ k, z = .bl k ∧ if k = true then tc σ H3 fun u H4 => r2 y u H4 Q else Q (.bl false) H3) : tChain r1 r2 ta tb tc σ H Q := q
theorem sm_new {p : Addr} {o : HO} (h : H p = none) : Same H (upd H p o) := fun b u e => by rw [upd_ne (ne_of_none e h)]; exact e
end
theorem j_st {c : Prop} [Decidable c] {t u : TS} {D : Ends} {σ : L2.St} {H : Hp} (J : L2.St → Hp → Prop) (k : ∀ σ' H', J σ' H' → D.nx σ' H') (h : (∀ σ' H', J σ' H' → D.nx σ' H') → if c then t D σ H else u D σ H) : if c then t D σ H else u D σ H := h k
theorem j_ifT {c : TT} {t u : TS} {D : Ends} {σ : L2.St} {H : Hp} (J : L2.St → Hp → Prop) (k : ∀ σ' H', J σ' H' → D.nx σ' H') (h : (∀ σ' H', J σ' H' → D.nx σ' H') → c σ H fun b H1 => if b = true then t D σ H1 else u D σ H1) : tIfS c t u D σ H := h k
def tx (l : List PyData) : List V := l.map fun d => V.str (wr d)
theorem tx_app (l : List PyData) (d : PyData) : tx (l ++ [d]) = tx l ++ [V.str (wr d)] := by unfold tx; rw [List.map_append]; rfl
theorem last_of {l : List PyData} (h : l ≠ []) : ∃ d, d ∈ l ∧ atI (tx l) (-1) = some (V.str (wr d)) := by
  rcases List.eq_nil_or_concat l with rfl | ⟨r, d, rfl⟩
  · exact absurd rfl h
  · refine ⟨d, by simp, ?_⟩
    rw [List.concat_eq_append, tx_app]
    exact atI_last _ _
theorem tx_get {l : List PyData} {i : Nat} {v : V} (h : (tx l)[i]? = some v) : ∃ d, l[i]? = some d ∧ v = .str (wr d) := by
  unfold tx at h
  rw [List.getElem?_map] at h
  cases e : l[i]? with
  | none => rw [e] at h; cases h
  | some d => rw [e] at h; cases h; exact ⟨d, rfl, rfl⟩

local macro_rules | `(tactic| walk_at "s0") => `(tactic| with_reducible first
  | apply w_ckw | apply w_chain | apply w_neB | apply w_andV | apply w_orV | apply w_dnew | apply w_ck0 | apply w_gcons | apply w_gnil | apply isi_st | apply isi_ss | apply isi_it | apply isi_is | apply isi_ib | apply isi_ii | (apply isi_tt; (case h => with_unfolding_all walk_at "hp"))
  | apply w_isN | apply w_isB | apply w_notB | apply w_tys | apply w_revT | (apply w_gtup; (case h => with_unfolding_all walk_at "st"); (case e => with_unfolding_all rfl)))

/-! ### instances; what never runs -/
theorem ps_no {X : Cx} {s : Stmt} : PS X s (fun _ _ _ => False) := ⟨fun _ _ _ _ _ _ h => h.elim⟩
section
variable {σ : L2.St} {H : Hp} {Q : VK} {D : Ends} {K : PySem.W.Frag}
theorem w_fld {ta : TE} {f : Str} (q : ta σ H fun x H1 => ∃ a C dx fs v, x = .ref a ∧ H1 a = some (.ins C dx fs) ∧ Cls K C ∧ NoAttr K C f ∧ fs.lookup f = some v ∧ Q v H1) : tFld K ta f σ H Q := q
theorem w_fldA {p C dx : Addr} {fs : List (Str × V)} {f : Str} {v : V} {R : V → Prop} (h : H p = some (.ins C dx fs)) (c : Cls K C) (n : NoAttr K C f) (l : fs.lookup f = some v) (q : R v) : ∃ a C dx fs v, V.ref p = .ref a ∧ H a = some (.ins C dx fs) ∧ Cls K C ∧ NoAttr K C f ∧ fs.lookup f = some v ∧ R v := ⟨p, C, dx, fs, v, rfl, h, c, n, l, q⟩
theorem w_sfld {ta tv : TE} {f : Str} (q : tv σ H fun y H1 => ta σ H1 fun x H2 => ∃ a C dx fs, x = .ref a ∧ H2 a = some (.ins C dx fs) ∧ Cls K C ∧ NoAttr K C f ∧ fs.length < 1000 ∧ D.nx σ (upd H2 a (.ins C dx (putF f y fs)))) : sFld K ta tv f D σ H := q
theorem w_meth {C : Addr} {m : Str} {sp : Sp} {dvs : List V} {E : XK} {ta : TE} {t : TA} (q : ta σ H fun x H1 => ∃ a dx fs, x = .ref a ∧ H1 a = some (.ins C dx fs) ∧ fs.lookup m = none ∧ t σ H1 fun vs H2 => sp (x :: (vs ++ dvs)) H2 Q E) : tMeth C m sp dvs E ta t σ H Q := q
theorem w_make {C : Addr} {sp : Sp} {dvs : List V} {E : XK} {t : TA} (q : t σ H fun vs H1 => ∀ x dx, H1 x = none → H1 dx = none → dx ≠ x → sp (.ref x :: (vs ++ dvs)) (upd (upd H1 dx (.own x)) x (.ins C dx [])) (fun v H2 => v = .non ∧ Q (.ref x) H2) E) : tMake C sp dvs E t σ H Q := q
theorem w_dnin {ty td : TE} (q : ty σ H fun y H1 => td σ H1 fun x H2 => ∃ a o, x = .ref a ∧ DGet H2 a y o ∧ Q (.bl (!o.isSome)) H2) : tDNotIn ty td σ H Q := q
theorem w_din {ty td : TE} (q : ty σ H fun y H1 => td σ H1 fun x H2 => ∃ a o, x = .ref a ∧ DGet H2 a y o ∧ Q (.bl o.isSome) H2) : tDIn ty td σ H Q := q
theorem w_dgo {b : Addr} {kvs : List (L2.Key × V)} {z : Str} {o : Option V} {R : Option V → Prop} (h : H b = some (.dK kvs)) (e : valV kvs (Sum.inr z) = o) (q : R o) : ∃ a o, V.ref b = .ref a ∧ DGet H a (.str z) o ∧ R o := ⟨b, o, rfl, e ▸ DGet.k (k := Sum.inr z) h, q⟩
end
/-- what stands behind a test, as a word of its own: the walk stops there -/
theorem j_ifN {c : TT} {t u : TS} {D : Ends} {σ : L2.St} {H : Hp} (J : L2.St → Hp → Prop) (k : ∀ σ' H', J σ' H' → D.nx σ' H') (h : ∀ nx : L2.St → Hp → Prop, (∀ σ' H', J σ' H' → nx σ' H') → c σ H fun b H1 => if b = true then t { D with nx := nx } σ H1 else u { D with nx := nx } σ H1) : tIfS c t u D σ H := h D.nx k

local macro_rules | `(tactic| walk_at "s0") => `(tactic| with_reducible first | apply w_fld | apply w_sfld | apply w_meth | apply w_make | apply w_dnin | apply w_din)

/-! ### the pile of draws -/
theorem upd_self2 {H : Hp} {a : Addr} (_ : H a = none) (o : HO) : upd H a o a = some o := upd_same
theorem big99 {n : Nat} (h : n ≤ 100000) : n < sizeLine := Nat.lt_of_le_of_lt h (by decide)
theorem w_revL {K : PySem.W.Frag} {te : TE} {σ : L2.St} {H : Hp} {Q : VK} (q : te σ H fun x H1 => ∃ a xs, x = .ref a ∧ SqL K H1 a xs ∧ ∀ p, H1 p = none → Q (.ref p) (upd H1 p (.lst xs.reverse))) : tRevL K te σ H Q := q
theorem w_break {D : Ends} {σ : L2.St} {H : Hp} (q : D.bk σ H) : tBreak D σ H := q
def inz (ns : List Int) : List V := ns.map V.int
theorem inz_app (a b : List Int) : inz (a ++ b) = inz a ++ inz b := List.map_append
theorem inz_len (a : List Int) : (inz a).length = a.length := List.length_map _
theorem inz_get {a : List Int} {i : Nat} {x : V} (h : (inz a)[i]? = some x) : ∃ n : Int, a[i]? = some n ∧ x = .int n := by
  unfold inz at h
  rw [List.getElem?_map] at h
  cases e : a[i]? with
  | none => rw [e] at h; cases h
  | some n => rw [e] at h; cases h; exact ⟨n, rfl, rfl⟩
def Pil (H : Hp) (p : Addr) : Prop := ∃ (n : Int) (ns : List Int), H p = some (.lst (inz (n :: ns))) ∧ 0 ≤ n ∧ n < 2147483647 ∧ ns.length ≤ 4000
/-- what a stretch of draws leaves -/
structure Gp (p : Addr) (H H' : Hp) : Prop where
  fr : Fr p H H'
  pl : Pil H' p
theorem Gp.trans {p : Addr} {H H1 H2 : Hp} (a : Gp p H H1) (b : Gp p H1 H2) : Gp p H H2 := ⟨a.fr.trans b.fr, b.pl⟩
theorem Pil.same {p : Addr} {H H1 : Hp} (a : Pil H p) (s : Same H H1) : Pil H1 p := by
  obtain ⟨n, ns, h, r⟩ := a
  exact ⟨n, ns, s _ _ h, r⟩
theorem Pil.ne {p q : Addr} {H : Hp} (a : Pil H p) (h : H q = none) : q ≠ p := by
  obtain ⟨n, ns, e, r⟩ := a
  exact (ne_of_none e h).symm
theorem Gp.refl {p : Addr} {H : Hp} (a : Pil H p) : Gp p H H := ⟨Fr.refl _ _, a⟩
theorem Gp.same {p : Addr} {H H1 H2 : Hp} (a : Gp p H H1) (s : Same H1 H2) : Gp p H H2 := ⟨a.fr.trans (Fr.same s), a.pl.same s⟩
theorem Gp.at {p q : Addr} {H H1 : Hp} {o : HO} (a : Gp p H H1) (h : H q = some o) (n : q ≠ p) : H1 q = some o := a.fr q o h n
theorem Gp.un {p q : Addr} {H H1 : Hp} (a : Gp p H H1) (n : H1 q = none) : H q = none := by
  cases e : H q with
  | none => rfl
  | some o =>
    have := a.fr q o e (a.pl.ne n)
    rw [this] at n
    cases n
/-- an object that H does not know changes -/
theorem Gp.mut {p q : Addr} {H H1 : Hp} {o : HO} (a : Gp p H H1) (n : H q = none) (nq : q ≠ p) : Gp p H (upd H1 q o) := ⟨fun x u e h => by
  rw [upd_ne (ne_of_none e n)]
  exact a.fr x u e h, by
  obtain ⟨m, ns, h, r⟩ := a.pl
  exact ⟨m, ns, by rw [upd_ne nq.symm]; exact h, r⟩⟩
def sp_pile (K : PySem.W.Frag) : Sp := fun vs H Q _ => ∃ (a : Addr) (ns : List Int), vs = [.ref a] ∧ SqL K H a (ns.map V.int) ∧ ns.length ≤ 63 ∧ ∀ (p : Addr) (H' : Hp), Same H H' → H p = none → Pil H' p → Q (.ref p) H'
def sp_draw : Sp := fun vs H Q _ => ∃ (p : Addr) (n : Int), vs = [.ref p, .int n] ∧ Pil H p ∧ 1 ≤ n ∧ ∀ (d : Int) (H' : Hp), 0 ≤ d → d < n → Gp p H H' → Q (.int d) H'
theorem sqL_same {K : PySem.W.Frag} {H H' : Hp} {a : Addr} {xs : List V} (h : SqL K H a xs) (s : Same H H') : SqL K H' a xs :=
  h.elim (fun h => .inl (h.elim (fun h => .inl (s _ _ h)) fun ⟨o, h⟩ => .inr ⟨o, s _ _ h⟩)) fun h => .inr h
section
variable {P : Program} {w : World} {K : PySem.W.Frag} {mg : Str → Option Value} {base : Heap}
theorem ok_law_pile (T : Top K mg) : FnOk P w K mg base CX0 1 T.f_law_pile T.d_law_pile ["script"] (sp_pile K) := by
  refine T.F_law_pile.ok sc_law_pile (fun vs H Q E h => ?_) (fun cdv A outer s H vs Q E hr h => ?_)
  · obtain ⟨a, n, rfl, _⟩ := h
    rfl
  · obtain ⟨a, ns, rfl, hS, hl, q⟩ := h
    refine ⟨_, (pss_cons (ps_set (i := 1) sc_law_pile.nd rfl (Or.inl rfl) (pe_op op_add pe_int (pe_callB call_len_seq (by rfl) T.z_len (by decide +kernel) (pa_cons (pv 0) pa_nil))))
    (pss_cons (ps_set (i := 2) sc_law_pile.nd rfl (Or.inl rfl) (pe_lst pa_nil))
     (pss_cons (ps_for PassesOwn.never rfl (pi_list (pv 0)) (pg_name (i := 3) sc_law_pile.nd rfl (Or.inl rfl))
      (pss_cons (ps_set (i := 4) sc_law_pile.nd rfl (Or.inl rfl) (pe_callTy call_int1 (by rfl) T.z_int (by decide +kernel) (pa_cons (pv 3) pa_nil)))
       (pss_cons (ps_set (i := 1) sc_law_pile.nd rfl (Or.inl rfl) (pe_op op_mod (pe_callTy call_int1 (by rfl) T.z_int (by decide +kernel) (pa_cons (pe_op op_add (pe_op op_mul (pv 1) pe_int) (pv 4)) pa_nil)) pe_int))
        (pss_one (ps_if (pt_cmpR op_eq (pe_op op_mod (pv 4) pe_int) pe_int (nomark _))
         (pss_cons (ps_set (i := 5) sc_law_pile.nd rfl (Or.inl rfl) (pe_op op_fdiv (pe_callB call_abs (by rfl) T.z_abs (by decide +kernel) (pa_cons (pv 4) pa_nil)) pe_int))
          (pss_one (ps_for PassesOwn.never rfl (pi_range1 (by rfl) T.z_range (pa_cons pe_int pa_nil)) (pg_name (i := 6) sc_law_pile.nd rfl (Or.inl rfl))
           (pss_cons (ps_expr (pe_bm PySem.F.plainAttrs_list PySem.F.slot_list_append PySem.F.type_list_append mt_append (pv 2) (pa_cons (pe_op op_mod (pv 5) pe_int) pa_nil)))
            (pss_cons (ps_set (i := 5) sc_law_pile.nd rfl (Or.inl rfl) (pe_op op_fdiv (pv 5) pe_int))
             (pss_one (ps_if (pt_cmpR op_eq (pv 5) pe_int (nomark _))
              (pss_one ps_break)
              pss_nil)))))))
         (pss_one (ps_for PassesOwn.never rfl (pi_range1 (by rfl) T.z_range (pa_cons pe_int pa_nil)) (pg_name (i := 6) sc_law_pile.nd rfl (Or.inl rfl))
          (pss_cons (ps_set (i := 1) sc_law_pile.nd rfl (Or.inl rfl) (pe_op op_mod (pe_callTy call_int1 (by rfl) T.z_int (by decide +kernel) (pa_cons (pe_op op_add (pe_op op_mul (pv 1) pe_int) (pv 4)) pa_nil)) pe_int))
           (pss_one (ps_expr (pe_bm PySem.F.plainAttrs_list PySem.F.slot_list_append PySem.F.type_list_append mt_append (pv 2) (pa_cons (pe_op op_fdiv (pv 1) pe_int) pa_nil))))))))))))
      (pss_one (ps_ret (pe_op op_cat (pe_lst (pa_cons (pv 1) pa_nil)) (pe_revL (pv 2)))))))), ?_⟩
    repeat walk_at "s"
    refine ⟨by walk_at "len", fun f hf => ?_⟩
    have s1 := sm_new (o := .lst []) hf
    have e1 := upd_self2 hf (.lst [])
    generalize upd H f (.lst []) = H1 at s1 e1 ⊢
    repeat walk_at "s"
    refine ⟨a, rfl, ⟨_, sqL_same hS s1⟩, ?_⟩
    refine for_list (K := K) (a := a) (xs := ns.map V.int) (fun i σ H2 => ∃ (sd : Int) (fs : List Int) (v3 v4 v5 v6 : Option V), σ = [some (.ref a), some (.int sd), some (.ref f), v3, v4, v5, v6] ∧ 0 ≤ sd ∧ sd < 2147483647 ∧ H2 f = some (.lst (inz fs)) ∧ fs.length ≤ 60 * i ∧ Same H H2) ?_ ?_ ?_ ?_
    · refine ⟨_, [], none, none, none, none, rfl, ?_, ?_, e1, Nat.zero_le _, s1⟩
      · omega
      · rw [List.length_map]; omega
    · rintro i σ H2 _ ⟨_, _, _, _, _, _, _, _, _, _, _, s2⟩
      exact sqL_same hS s2
    · rintro i x σ H2 hi ⟨sd, fs, v3, v4, v5, v6, rfl, hs0, hs1, e2, lf, s2⟩
      obtain ⟨z, hz, rfl⟩ := List.mem_map.mp (List.mem_of_getElem? hi)
      have hil : i < 63 := by
        have := (List.getElem?_eq_some_iff.mp hi).1
        rw [List.length_map] at this
        omega
      repeat walk_at "s"
      refine ite2 (fun h => ?_) (fun h => ?_)
      · repeat walk_at "s"
        refine for_range (lo := 0) (n := (60 : Int).toNat) (fun j σ H3 => ∃ (fs' : List Int) (sd' rs zz : Int) (v6 : Option V), σ = [some (.ref a), some (.int sd'), some (.ref f), some (.int z), some (.int zz), some (.int rs), v6] ∧ 0 ≤ sd' ∧ sd' < 2147483647 ∧ H3 f = some (.lst (inz fs')) ∧ fs'.length ≤ fs.length + j ∧ Same H H3) ?_ ?_ ?_
        · exact ⟨fs, _, _, _, v6, rfl, Int.emod_nonneg _ (by omega), Int.emod_lt_of_pos _ (by omega), e2, by omega, s2⟩
        · rintro j σ H3 hj ⟨fs', sd', rs, zz, w6, rfl, g0, g1, e3, lf3, s3⟩
          have hj' : j < 60 := hj
          repeat walk_at "s"
          refine w_append e3 ?_ ?_
          · rw [inz_len]; exact big99 (by omega)
          repeat walk_at "s"
          have ee : inz fs' ++ [V.int (rs % 60)] = inz (fs' ++ [rs % 60]) := by rw [inz_app]; rfl
          have ss : Same H (upd H3 f (.lst (inz fs' ++ [V.int (rs % 60)]))) := fun x o h => by rw [upd_ne (ne_of_none h hf)]; exact s3 x o h
          have ll : (fs' ++ [rs % 60]).length = fs'.length + 1 := by rw [List.length_append]; rfl
          refine ite2 (fun h => ?_) (fun h => ?_)
          · refine w_break ?_
            exact ⟨_, fs' ++ [rs % 60], _, _, _, _, rfl, g0, g1, by rw [upd_same, ee], by omega, ss⟩
          · exact ⟨fs' ++ [rs % 60], _, _, _, _, rfl, g0, g1, by rw [upd_same, ee], by omega, ss⟩
        · rintro σ H3 ⟨fs', sd', rs, zz, w6, rfl, g0, g1, e3, lf3, s3⟩
          have lf4 : fs'.length ≤ fs.length + 60 := lf3
          exact ⟨_, fs', _, _, _, _, rfl, g0, g1, e3, by omega, s3⟩
      · repeat walk_at "s"
        refine for_range (lo := 0) (n := (4 : Int).toNat) (fun j σ H3 => ∃ (fs' : List Int) (sd' : Int) (v6 : Option V), σ = [some (.ref a), some (.int sd'), some (.ref f), some (.int z), some (.int z), v5, v6] ∧ 0 ≤ sd' ∧ sd' < 2147483647 ∧ H3 f = some (.lst (inz fs')) ∧ fs'.length ≤ fs.length + j ∧ Same H H3) ?_ ?_ ?_
        · exact ⟨fs, _, v6, rfl, Int.emod_nonneg _ (by omega), Int.emod_lt_of_pos _ (by omega), e2, by omega, s2⟩
        · rintro j σ H3 hj ⟨fs', sd', w6, rfl, g0, g1, e3, lf3, s3⟩
          have hj' : j < 4 := hj
          repeat walk_at "s"
          refine w_append e3 ?_ ?_
          · rw [inz_len]; exact big99 (by omega)
          repeat walk_at "s"
          refine ⟨fs' ++ [(sd' * 48271 + z) % 2147483647 / 4096], _, _, rfl, Int.emod_nonneg _ (by omega), Int.emod_lt_of_pos _ (by omega), by rw [upd_same, inz_app]; rfl, by rw [List.length_append, List.length_singleton]; omega, fun x o h => by rw [upd_ne (ne_of_none h hf)]; exact s3 x o h⟩
        · rintro σ H3 ⟨fs', sd', w6, rfl, g0, g1, e3, lf3, s3⟩
          have lf4 : fs'.length ≤ fs.length + 4 := lf3
          exact ⟨_, fs', _, _, _, _, rfl, g0, g1, e3, by omega, s3⟩
    · rintro σ H2 ⟨sd, fs, v3, v4, v5, v6, rfl, hs0, hs1, e2, lf, s2⟩
      rw [List.length_map] at lf
      repeat walk_at "s"
      refine ⟨by walk_at "len", fun p hp => ?_⟩
      have s3 := sm_new (o := .lst [V.int sd]) hp
      have e3 := upd_self2 hp (.lst [V.int sd])
      generalize upd H2 p (.lst [V.int sd]) = H3 at s3 e3 ⊢
      refine w_revL ?_
      repeat walk_at "s"
      refine ⟨f, _, rfl, SqL.of (s3 _ _ e2), fun r hr => ?_⟩
      have s4 := sm_new (o := .lst (inz fs).reverse) hr
      have e4 := upd_self2 hr (.lst (inz fs).reverse)
      generalize upd H3 r (.lst (inz fs).reverse) = H4 at s4 e4 ⊢
      refine ⟨p, r, _, _, rfl, rfl, s4 _ _ e3, e4, ?_, fun p2 hp2 => ?_⟩
      · rw [List.length_reverse, inz_len]
        exact Nat.le_of_lt (big99 (by show 1 + fs.length ≤ _; omega))
      · have s24 := s3.trans s4
        refine q p2 _ ((s2.trans s24).trans (sm_new hp2)) ((s2.trans s24).free hp2) ⟨sd, fs.reverse, ?_, hs0, hs1, by rw [List.length_reverse]; omega⟩
        rw [upd_same]
        unfold inz
        rw [List.map_cons, List.map_reverse]
        rfl
theorem ok_law_draw (T : Top K mg) : FnOk P w K mg base CX0 1 T.f_law_draw T.d_law_draw ["pile", "many"] sp_draw := by
  refine T.F_law_draw.ok sc_law_draw (fun vs H Q E h => ?_) (fun cdv A outer s H vs Q E hr h => ?_)
  · obtain ⟨a, n, rfl, _⟩ := h
    rfl
  · obtain ⟨p, n, rfl, ⟨m, ns, hp, h0, h1, hl⟩, hn, q⟩ := h
    refine ⟨_, (pss_cons (ps_if (pt_cmpR op_gt (pe_callB call_len_seq (by rfl) T.z_len (by decide +kernel) (pa_cons (pv 0) pa_nil)) pe_int (nomark _))
    (pss_one (ps_ret (pe_op op_mod (pe_callTy call_int1 (by rfl) T.z_int (by decide +kernel) (pa_cons (pe_bm0 PySem.F.plainAttrs_list PySem.F.slot_list_pop PySem.F.type_list_pop mt_pop (pv 0)) pa_nil)) (pv 1))))
    pss_nil)
    (pss_cons (ps_asg (pe_op op_mod (pe_callTy call_int1 (by rfl) T.z_int (by decide +kernel) (pa_cons (pe_op op_add (pe_op op_mul (pe_ix ix_list (pv 0) pe_int (fun _ _ => rfl)) pe_int) pe_int) pa_nil)) pe_int) (pg_sub (pv 0) pe_int set_list))
     (pss_one (ps_ret (pe_op op_mod (pe_op op_fdiv (pe_ix ix_list (pv 0) pe_int (fun _ _ => rfl)) pe_int) (pv 1)))))), ?_⟩
    repeat walk_at "s"
    refine ite2 (fun h => ?_) (fun h => ?_)
    · rcases List.eq_nil_or_concat ns with rfl | ⟨ms, y, rfl⟩
      · exact absurd (of_decide_eq_true h) (by show ¬ ((1 : Nat) : Int) > 1; omega)
      · rw [List.concat_eq_append] at hp hl
        have hp' : H p = some (.lst (inz (m :: ms) ++ [V.int y])) := by
          rw [hp, ← List.cons_append, inz_app]
          rfl
        repeat walk_at "s"
        refine q _ _ (Int.emod_nonneg _ (by omega)) (Int.emod_lt_of_pos _ (by omega)) ⟨fun x o e n => by rw [upd_ne n]; exact e, m, ms, upd_same, h0, h1, ?_⟩
        rw [List.length_append] at hl
        omega
    · repeat walk_at "s"
      refine w_ixL (SqL.of hp) (atI_nat (j := 0) rfl) ?_
      repeat walk_at "s"
      refine w_setL hp (j := 0) (by unfold ixN; simp [inz_len]) ?_
      repeat walk_at "s"
      refine w_ixL (SqL.of upd_same) (atI_nat (j := 0) rfl) ?_
      repeat walk_at "s"
      refine q _ _ (Int.emod_nonneg _ (by omega)) (Int.emod_lt_of_pos _ (by omega)) ⟨fun x o e n => by rw [upd_ne n]; exact e, (m * 48271 + 12345) % 2147483647, ns, upd_same, Int.emod_nonneg _ (by omega), Int.emod_lt_of_pos _ (by omega), hl⟩
end

/-! ### names -/
def intIn (lo hi : Int) : V → Bool
  | .int i => decide (lo ≤ i) && decide (i ≤ hi)
  | _ => false
theorem pick_int {xs : List V} {d lo hi : Int} (h0 : 0 ≤ d) (h1 : d < (xs.length : Int)) (hx : xs.all (intIn lo hi) = true) : ∃ i, atI xs d = some (.int i) ∧ lo ≤ i ∧ i ≤ hi := by
  obtain ⟨z, hz, hm⟩ := at_ok h0 h1
  have := List.all_eq_true.mp hx z hm
  cases z with
  | int i =>
    have h := Bool.and_eq_true_iff.mp this
    exact ⟨i, hz, of_decide_eq_true h.1, of_decide_eq_true h.2⟩
  | _ => cases this
theorem abc_all : ∀ k : Fin 26, atI (Str.ofString "abcdefghijklmnopqrstuvwxyz").cps.toList (k.val : Int) = some (97 + k.val) := by decide +kernel
theorem abc_at {d : Int} (h0 : 0 ≤ d) (h1 : d < 26) : atI (Str.ofString "abcdefghijklmnopqrstuvwxyz").cps.toList d = some (97 + d.toNat) := by
  have := abc_all ⟨d.toNat, by omega⟩
  rw [show ((⟨d.toNat, by omega⟩ : Fin 26).val : Int) = d by show ((d.toNat : Nat) : Int) = d; omega] at this
  exact this
def one (x : Nat) : V := .str ⟨#[x]⟩
theorem ones_str (zs : List Nat) : zs.map one = (zs.map fun x => (⟨#[x]⟩ : Str)).map V.str := by rw [List.map_map]; rfl
theorem ones_sum (zs : List Nat) : ((zs.map (fun x => (⟨#[x]⟩ : Str))).map (fun x => x.length)).sum = zs.length := by
  induction zs with
  | nil => rfl
  | cons x r ih => rw [List.map_cons, List.map_cons, List.sum_cons, ih, List.length_cons, Nat.add_comm]; rfl
theorem ones_cd (zs : List Nat) : cd (Txt.join "" (zs.map (fun x => (⟨#[x]⟩ : Str)))) = zs := by
  rw [cd_join0]
  induction zs with
  | nil => rfl
  | cons x r ih => rw [List.map_cons, List.flatMap_cons, ih]; rfl
def nmF (bs : List Nat) (j : Nat) (b s : Int) (i : Nat) : Str := Txt.join "" ((bs.set j (97 + ((b + s * (i : Int)) % 26).toNat)).map (fun x => (⟨#[x]⟩ : Str)))
theorem nmF_nm {bs : List Nat} {j : Nat} {b s : Int} {i : Nat} (h1 : 1 ≤ bs.length) (h2 : bs.length ≤ 8) (ha : ∀ c ∈ bs, 97 ≤ c ∧ c ≤ 122) : Nm (nmF bs j b s i) := by
  have e : cd (nmF bs j b s i) = bs.set j (97 + ((b + s * (i : Int)) % 26).toNat) := ones_cd _
  refine ⟨?_, ?_, ?_⟩
  · rw [cd_len, e, List.length_set]; exact h1
  · rw [cd_len, e, List.length_set]; exact h2
  · rw [e]
    intro c hc
    rcases List.mem_or_eq_of_mem_set hc with h | h
    · exact ha c h
    · subst h
      have h3 := Int.emod_nonneg (b + s * (i : Int)) (show (26 : Int) ≠ 0 by omega)
      have h4 := Int.emod_lt_of_pos (b + s * (i : Int)) (show (0 : Int) < 26 by omega)
      omega
theorem nmF_ne {bs : List Nat} {j : Nat} {b s : Int} (hj : j < bs.length) (h1 : 1 ≤ s) (h2 : s ≤ 25) : nmF bs j b s 0 ≠ nmF bs j b s 1 := by
  intro e
  have e1 : bs.set j (97 + ((b + s * ((0 : Nat) : Int)) % 26).toNat) = bs.set j (97 + ((b + s * ((1 : Nat) : Int)) % 26).toNat) := by
    rw [← ones_cd (bs.set j (97 + ((b + s * ((0 : Nat) : Int)) % 26).toNat)), ← ones_cd (bs.set j (97 + ((b + s * ((1 : Nat) : Int)) % 26).toNat))]
    exact congrArg cd e
  have e2 := congrArg (fun l => l[j]?) e1
  simp only [List.getElem?_set_self hj] at e2
  have e3 := Option.some.inj e2
  rw [show s * ((0 : Nat) : Int) = 0 by simp, show s * ((1 : Nat) : Int) = s by simp] at e3
  have a1 := Int.emod_nonneg (b + 0) (show (26 : Int) ≠ 0 by omega)
  have a2 := Int.emod_nonneg (b + s) (show (26 : Int) ≠ 0 by omega)
  have e4 : (b + 0) % 26 = (b + s) % 26 := by omega
  omega
def sp_names : Sp := fun vs H Q _ => ∃ (p : Addr) (n : Int), vs = [.ref p, .int n] ∧ Pil H p ∧ 2 ≤ n ∧ n ≤ 10 ∧
  ∀ (l : Addr) (f : Nat → Str) (H' : Hp), H l = none → H' l = some (.lst ((List.range n.toNat).map fun i => V.str (f i))) → (∀ i, Nm (f i)) → f 0 ≠ f 1 → Gp p H H' → Q (.ref l) H'
def sp_size : Sp := fun vs H Q _ => ∃ (p : Addr), vs = [.ref p] ∧ Pil H p ∧ ∀ (d : Int) (H' : Hp), 1 ≤ d → d ≤ 64 → Gp p H H' → Q (.int d) H'
section
variable {P : Program} {w : World} {K : PySem.W.Frag} {mg : Str → Option Value} {base : Heap}
theorem ok_law_size (T : Top K mg) : FnOk P w K mg base CX0 2 T.f_law_size T.d_law_size ["pile"] sp_size := by
  refine T.F_law_size.ok sc_law_size (fun vs H Q E h => ?_) (fun cdv A outer s H vs Q E hr h => ?_)
  · obtain ⟨p, rfl, _⟩ := h
    rfl
  · obtain ⟨p, rfl, hp, q⟩ := h
    refine ⟨_, (pss_cons (ps_if (pt_cmpR op_eq (pe_call (ok_law_draw T) hr (by rfl) T.g_law_draw T.F_law_draw.kp T.b_law_draw .nil pass0 (pa_cons (pv 0) (pa_cons pe_int pa_nil))) pe_int (nomark _))
    (pss_one (ps_ret (pe_op op_add pe_int (pe_call (ok_law_draw T) hr (by rfl) T.g_law_draw T.F_law_draw.kp T.b_law_draw .nil pass0 (pa_cons (pv 0) (pa_cons pe_int pa_nil))))))
    pss_nil)
    (pss_one (ps_ret (pe_op op_add pe_int (pe_op op_mod (pe_callTy call_int1 (by rfl) T.z_int (by decide +kernel) (pa_cons (pe_op op_add (pe_op op_mul (pe_call (ok_law_draw T) hr (by rfl) T.g_law_draw T.F_law_draw.kp T.b_law_draw .nil pass0 (pa_cons (pv 0) (pa_cons pe_int pa_nil))) pe_int) (pe_call (ok_law_draw T) hr (by rfl) T.g_law_draw T.F_law_draw.kp T.b_law_draw .nil pass0 (pa_cons (pv 0) (pa_cons pe_int pa_nil)))) pa_nil)) pe_int))))), ?_⟩
    repeat walk_at "s"
    refine ⟨p, 2, rfl, hp, by omega, fun d H1 d0 d1 g1 => ?_⟩
    repeat walk_at "s"
    refine ite2 (fun h => ?_) (fun h => ?_)
    · repeat walk_at "s"
      refine ⟨p, 4, rfl, g1.pl, by omega, fun d2 H2 e0 e1 g2 => ?_⟩
      repeat walk_at "s"
      exact q _ _ (by omega) (by omega) (g1.trans g2)
    · repeat walk_at "s"
      refine ⟨p, 60, rfl, g1.pl, by omega, fun d2 H2 e0 e1 g2 => ?_⟩
      repeat walk_at "s"
      refine ⟨p, 60, rfl, g2.pl, by omega, fun d3 H3 f0 f1 g3 => ?_⟩
      repeat walk_at "s"
      exact q _ _ (by have := Int.emod_nonneg (d2 * 60 + d3) (show (64 : Int) ≠ 0 by omega); omega) (by have := Int.emod_lt_of_pos (d2 * 60 + d3) (show (0 : Int) < 64 by omega); omega) ((g1.trans g2).trans g3)
theorem ok_law_names (T : Top K mg) : FnOk P w K mg base CX0 2 T.f_law_names T.d_law_names ["pile", "many"] sp_names := by
  refine T.F_law_names.ok sc_law_names (fun vs H Q E h => ?_) (fun cdv A outer s H vs Q E hr h => ?_)
  · obtain ⟨p, n, rfl, _⟩ := h
    rfl
  · obtain ⟨p, n, rfl, hp, hn1, hn2, q⟩ := h
    refine ⟨_, (pss_cons (ps_set (i := 2) sc_law_names.nd rfl (Or.inr rfl) pe_str)
    (pss_cons (ps_setLc (i := 3) (own := [("k", 4)]) (g := gName 4) (by rfl) sc_law_names.nd rfl rfl (sw_true rfl rfl rfl (by decide +kernel)) (pi_range1 (by rfl) T.z_range (pa_cons (pe_op op_add pe_int (pe_call (ok_law_draw T) hr (by rfl) T.g_law_draw T.F_law_draw.kp T.b_law_draw .nil pass0 (pa_cons (pv 0) (pa_cons pe_int pa_nil)))) pa_nil)) (blkOk_by (own := [("k", 4)]) (N := N_law_names) (sc := defScope s_law_names) (by decide +kernel)) (fun _ _ _ _ _ => (pg_name (i := 4) sc_law_names.nd rfl (Or.inl rfl))) (fun _ _ _ _ _ => pts_nil) (fun _ _ _ _ _ => (pe_ix ix_str (pv 2) (pe_call (ok_law_draw T) hr (by rfl) T.g_law_draw T.F_law_draw.kp T.b_law_draw .nil pass0 (pa_cons (pv 0) (pa_cons pe_int pa_nil))) (fun _ _ => rfl))))
     (pss_cons (ps_set (i := 5) sc_law_names.nd rfl (Or.inl rfl) (pe_call (ok_law_draw T) hr (by rfl) T.g_law_draw T.F_law_draw.kp T.b_law_draw .nil pass0 (pa_cons (pv 0) (pa_cons (pe_callB call_len_seq (by rfl) T.z_len (by decide +kernel) (pa_cons (pv 3) pa_nil)) pa_nil))))
      (pss_cons (ps_set (i := 6) sc_law_names.nd rfl (Or.inl rfl) (pe_call (ok_law_draw T) hr (by rfl) T.g_law_draw T.F_law_draw.kp T.b_law_draw .nil pass0 (pa_cons (pv 0) (pa_cons pe_int pa_nil))))
       (pss_cons (ps_set (i := 7) sc_law_names.nd rfl (Or.inl rfl) (pe_ix ix_list (pe_lst (pa_cons pe_int (pa_cons pe_int (pa_cons pe_int (pa_cons pe_int (pa_cons pe_int (pa_cons pe_int (pa_cons pe_int (pa_cons pe_int (pa_cons pe_int (pa_cons pe_int (pa_cons pe_int (pa_cons pe_int pa_nil))))))))))))) (pe_call (ok_law_draw T) hr (by rfl) T.g_law_draw T.F_law_draw.kp T.b_law_draw .nil pass0 (pa_cons (pv 0) (pa_cons pe_int pa_nil))) (fun _ _ => rfl)))
        (pss_cons (ps_set (i := 8) sc_law_names.nd rfl (Or.inl rfl) (pe_lst pa_nil))
         (pss_cons (ps_for PassesOwn.never rfl (pi_range1 (by rfl) T.z_range (pa_cons (pv 1) pa_nil)) (pg_name (i := 4) sc_law_names.nd rfl (Or.inl rfl))
          (pss_cons (ps_asg (pe_ix ix_str (pv 2) (pe_op op_mod (pe_callTy call_int1 (by rfl) T.z_int (by decide +kernel) (pa_cons (pe_op op_add (pv 6) (pe_op op_mul (pv 7) (pv 4))) pa_nil)) pe_int) (fun _ _ => rfl)) (pg_sub (pv 3) (pv 5) set_list))
           (pss_one (ps_expr (pe_bm PySem.F.plainAttrs_list PySem.F.slot_list_append PySem.F.type_list_append mt_append (pv 8) (pa_cons (pe_join pe_str (pv 3)) pa_nil))))))
          (pss_one (ps_ret (pv 8)))))))))), ?_⟩
    repeat walk_at "s"
    refine ⟨p, 8, rfl, hp, by omega, fun d H1 d0 d1 g1 => ?_⟩
    repeat walk_at "s"
    intro D hD
    have hD0 := g1.un hD
    have nDp := g1.pl.ne hD
    refine lc_range (lo := 0) (n := (1 + d).toNat) (fun i H2 => ∃ bs : List Nat, H2 D = some (.lst (bs.map one)) ∧ bs.length = i ∧ (∀ c ∈ bs, 97 ≤ c ∧ c ≤ 122) ∧ Gp p H H2) ⟨[], upd_same, rfl, (by simp), g1.same (sm_new hD)⟩ ?_ ?_
    · rintro i H2 hi ⟨bs, e, hl, ha, g2⟩
      repeat walk_at "s"
      refine ⟨p, 26, rfl, g2.pl, by omega, fun d2 H3 e0 e1 g3 => ?_⟩
      refine ⟨_, d2, _, rfl, rfl, by decide +kernel, abc_at e0 e1, ?_⟩
      refine ⟨_, g3.at e nDp, ?_, bs ++ [97 + d2.toNat], ?_, ?_, ?_, (g2.trans g3).mut hD0 nDp⟩
      · rw [List.length_map]; exact big99 (by omega)
      · rw [upd_same, List.map_append]; rfl
      · rw [List.length_append, hl]; rfl
      · intro c hc
        rcases List.mem_append.mp hc with h | h
        · exact ha c h
        · cases List.mem_singleton.mp h; omega
    · rintro H2 ⟨bs, e, hl, ha, g2⟩
      have hb1 : 1 ≤ bs.length := by omega
      have hb8 : bs.length ≤ 8 := by omega
      have hlb : ((bs.map one).length : Int) = (bs.length : Int) := by rw [List.length_map]
      repeat walk_at "s"
      rw [hlb]
      refine ⟨p, bs.length, rfl, g2.pl, by omega, fun sp H3 sp0 sp1 g3 => ?_⟩
      repeat walk_at "s"
      refine ⟨p, 26, rfl, g3.pl, by omega, fun b H4 b0 b1 g4 => ?_⟩
      have g34 := g3.trans g4
      repeat walk_at "s"
      refine ⟨by walk_at "len", fun sl hsl => ?_⟩
      have s5 := sm_new (o := .lst [.int 1, .int 3, .int 5, .int 7, .int 9, .int 11, .int 15, .int 17, .int 19, .int 21, .int 23, .int 25]) hsl
      have e5 := upd_self2 hsl (.lst [.int 1, .int 3, .int 5, .int 7, .int 9, .int 11, .int 15, .int 17, .int 19, .int 21, .int 23, .int 25])
      have nsl := g4.pl.ne hsl
      generalize upd H4 sl (.lst [.int 1, .int 3, .int 5, .int 7, .int 9, .int 11, .int 15, .int 17, .int 19, .int 21, .int 23, .int 25]) = H5 at s5 e5 ⊢
      repeat walk_at "s"
      refine ⟨p, 12, rfl, g4.pl.same s5, by omega, fun d6 H6 d60 d61 g6 => ?_⟩
      obtain ⟨st, hst, st0, st1⟩ := pick_int (lo := 1) (hi := 25) d60 d61 (xs := [.int 1, .int 3, .int 5, .int 7, .int 9, .int 11, .int 15, .int 17, .int 19, .int 21, .int 23, .int 25]) (by decide +kernel)
      refine w_ixL (SqL.of (g6.at e5 nsl)) hst ?_
      have g36 := (g34.same s5).trans g6
      have eD := g36.at e nDp
      repeat walk_at "s"
      refine ⟨by walk_at "len", fun F hF => ?_⟩
      have nFp := g6.pl.ne hF
      have g26 := g2.trans g36
      have hF0 := g26.un hF
      have nDF : D ≠ F := ne_of_none eD hF
      repeat walk_at "s"
      refine for_range (lo := 0) (n := n.toNat) (fun i σ H7 => ∃ (bs' : List Nat) (v7 : Option V), σ = [some (.ref p), some (.int n), some (.str (Str.ofString "abcdefghijklmnopqrstuvwxyz")), some (.ref D), v7, some (.int sp), some (.int b), some (.int st), some (.ref F)] ∧ H7 D = some (.lst (bs'.map one)) ∧ bs'.length = bs.length ∧ (∀ c, bs'.set sp.toNat c = bs.set sp.toNat c) ∧ H7 F = some (.lst ((List.range i).map fun i => V.str (nmF bs sp.toNat b st i))) ∧ Gp p H H7) ?_ ?_ ?_
      · exact ⟨bs, none, rfl, by rw [upd_ne nDF]; exact eD, rfl, fun c => rfl, upd_same, g26.same (sm_new hF)⟩
      · rintro i σ H7 hi ⟨bs', v7, rfl, eD7, lb7, hset, eF7, g7⟩
        repeat walk_at "s"
        have ei : b + st * (0 + (i : Int)) = b + st * (i : Int) := by rw [Int.zero_add]
        rw [ei]
        have x0 := Int.emod_nonneg (b + st * (i : Int)) (show (26 : Int) ≠ 0 by omega)
        have x1 := Int.emod_lt_of_pos (b + st * (i : Int)) (show (0 : Int) < 26 by omega)
        refine ⟨_, _, _, rfl, rfl, by decide +kernel, abc_at x0 x1, ?_⟩
        repeat walk_at "s"
        refine w_setL eD7 (j := sp.toNat) (by unfold ixN; rw [List.length_map, lb7, if_pos sp0, if_pos sp1]) ?_
        have eD8 : upd H7 D (.lst ((bs'.map one).set sp.toNat (V.str ⟨#[97 + ((b + st * (i : Int)) % 26).toNat]⟩))) D = some (.lst ((bs.set sp.toNat (97 + ((b + st * (i : Int)) % 26).toNat)).map one)) := by
          rw [upd_same, ← hset, List.map_set]
          rfl
        have eF8 : upd H7 D (.lst ((bs'.map one).set sp.toNat (V.str ⟨#[97 + ((b + st * (i : Int)) % 26).toNat]⟩))) F = some (.lst ((List.range i).map fun i => V.str (nmF bs sp.toNat b st i))) := by
          rw [upd_ne nDF.symm]; exact eF7
        have g8 : Gp p H (upd H7 D (.lst ((bs'.map one).set sp.toNat (V.str ⟨#[97 + ((b + st * (i : Int)) % 26).toNat]⟩)))) := g7.mut hD0 nDp
        generalize upd H7 D (.lst ((bs'.map one).set sp.toNat (V.str ⟨#[97 + ((b + st * (i : Int)) % 26).toNat]⟩))) = H8 at eD8 eF8 g8 ⊢
        repeat walk_at "s"
        refine w_join (ys := (bs.set sp.toNat (97 + ((b + st * (i : Int)) % 26).toNat)).map (fun x => (⟨#[x]⟩ : Str))) (SqL.of (by rw [eD8, ones_str])) ?_ ?_
        · rw [ones_sum, List.length_set, show ("" : Str).length = 0 from rfl]; omega
        repeat walk_at "s"
        refine w_append eF8 ?_ ?_
        · rw [List.length_map, List.length_range]; exact big99 (by omega)
        repeat walk_at "s"
        refine ⟨bs.set sp.toNat (97 + ((b + st * (i : Int)) % 26).toNat), _, rfl, by rw [upd_ne nDF]; exact eD8, List.length_set, fun c => List.set_set .., ?_, g8.mut hF0 nFp⟩
        rw [upd_same, List.range_succ, List.map_append]
        rfl
      · rintro σ H7 ⟨bs', v7, rfl, eD7, lb7, hset, eF7, g7⟩
        repeat walk_at "s"
        exact q F _ H7 hF0 eF7 (fun i => nmF_nm hb1 hb8 ha) (nmF_ne (by omega) st0 st1) g7
end

/-! ### what is asked, what is said -/
def Dq : Nat → PyData → Prop
  | 0, _ => False
  | n + 1, d => (∃ z, d = .str z) ∨ (∃ i, d = .int i) ∨ d = .none ∨ ∃ ds, d = .tuple ds ∧ ds.length ≤ 500 ∧ ∀ e ∈ ds, Dq n e
def sp_whole : Sp := fun vs H Q _ => ∃ i : Int, vs = [.int i] ∧ Q (.bl true) H
def sp_same (n : Nat) : Sp := fun vs H Q _ => ∃ x y : V, vs = [x, y] ∧ ((∃ a b : Str, x = .str a ∧ y = .str b ∧ 1 ≤ n ∧ Q (.bl (decide (a = b))) H) ∨ ∃ d : PyData, DAt H x d ∧ DAt H y d ∧ Dq n d ∧ ∀ H', Same H H' → Q (.bl true) H')
def spNo : Sp := fun _ _ _ _ => False
theorem DsAt.both {H : Hp} : ∀ {xs ys : List V} {ds : List PyData} {i : Nat}, DsAt H xs ds → DsAt H ys ds → i < ds.length → ∃ x y d, xs[i]? = some x ∧ ys[i]? = some y ∧ ds[i]? = some d ∧ DAt H x d ∧ DAt H y d
  | _, _, _, 0, .cons h _, .cons g _, _ => ⟨_, _, _, rfl, rfl, rfl, h, g⟩
  | _, _, _, i + 1, .cons _ h, .cons _ g, hi => DsAt.both (i := i) h g (Nat.lt_of_succ_lt_succ hi)
  | _, _, _, _, .nil, _, hi => absurd hi (Nat.not_lt_zero _)
section
variable {σ : L2.St} {H : Hp} {Q : VK} {D : Ends} {K : PySem.W.Frag}
theorem isi_nt (q : Q (.bl false) H) : rIsi K [.non, .ty "tuple"] H Q := ⟨_, _, _, _, false, rfl, .ty _, .base .non, kit_ty (by decide +kernel), q⟩
theorem w_notV {t : TE} (q : t σ H fun x H1 => ∃ k, x = .bl k ∧ Q (.bl (!k)) H1) : tNotV t σ H Q := q
end
section
variable {P : Program} {w : World} {K : PySem.W.Frag} {mg : Str → Option Value} {base : Heap}
theorem ok_law_whole (T : Top K mg) : FnOk P w K mg base CX0 1 T.f_law_whole T.d_law_whole ["actual"] sp_whole := by
  refine T.F_law_whole.ok sc_law_whole (fun vs H Q E h => ?_) (fun cdv A outer s H vs Q E hr h => ?_)
  · obtain ⟨i, rfl, _⟩ := h
    rfl
  · obtain ⟨i, rfl, q⟩ := h
    refine ⟨_, (pss_one (ps_ret (pe_and (pe_callB call_isi (by rfl) T.z_isinstance (by decide +kernel) (pa_cons (pv 0) (pa_cons (pe_bltn (v := .ty "int") (by rfl) T.z_int (by decide +kernel) rfl) pa_nil))) (pe_one (pe_not (pe_callB call_isi (by rfl) T.z_isinstance (by decide +kernel) (pa_cons (pv 0) (pa_cons (pe_bltn (v := .ty "bool") (by rfl) T.z_bool (by decide +kernel) rfl) pa_nil)))))))), ?_⟩
    repeat walk_at "s"
    refine w_notV ?_
    repeat walk_at "s"
    exact q
theorem same_step (T : Top K mg) (k n : Nat) (spr : Sp) (ih : FnOk P w K mg base CX0 (k + 1) T.f_law_same T.d_law_same ["actual", "expected"] spr) (hn : ∀ m, n = m + 1 → spr = sp_same m) : FnOk P w K mg base CX0 (k + 2) T.f_law_same T.d_law_same ["actual", "expected"] (sp_same n) := by
  refine T.F_law_same.ok sc_law_same (fun vs H Q E h => ?_) (fun cdv A outer s H vs Q E hr h => ?_)
  · obtain ⟨x, y, rfl, _⟩ := h
    rfl
  · obtain ⟨x, y, rfl, h⟩ := h
    refine ⟨_, (pss_cons (ps_if (pt_val (pe_callB call_isi (by rfl) T.z_isinstance (by decide +kernel) (pa_cons (pv 1) (pa_cons (pe_bltn (v := .ty "tuple") (by rfl) T.z_tuple (by decide +kernel) rfl) pa_nil))))
    (pss_cons (ps_if (PW.pt (pw_or (pt_not (pt_val (pe_callB call_isi (by rfl) T.z_isinstance (by decide +kernel) (pa_cons (pv 0) (pa_cons (pe_bltn (v := .ty "tuple") (by rfl) T.z_tuple (by decide +kernel) rfl) pa_nil))))) (pw_or1 (pt_cmpR op_ne (pe_callB call_len_seq (by rfl) T.z_len (by decide +kernel) (pa_cons (pv 0) pa_nil)) (pe_callB call_len_seq (by rfl) T.z_len (by decide +kernel) (pa_cons (pv 1) pa_nil)) (nomark _)))))
     (pss_one (ps_ret pe_bl))
     pss_nil)
     (pss_one (ps_ret (pe_callB (cr_all rfl) (by rfl) T.z_all (by decide +kernel) (pa_cons (pe_lc (own := [("k", 2)]) (g := gName 2) (by rfl) sc_law_same.nd (pi_range1 (by rfl) T.z_range (pa_cons (pe_callB call_len_seq (by rfl) T.z_len (by decide +kernel) (pa_cons (pv 1) pa_nil)) pa_nil)) (blkOk_by (own := [("k", 2)]) (N := N_law_same) (sc := defScope s_law_same) (by decide +kernel)) (fun _ _ _ _ _ => (pg_name (i := 2) sc_law_same.nd rfl (Or.inl rfl))) (fun _ _ _ _ _ => pts_nil) (fun _ _ _ _ _ => (pe_call ih hr (by rfl) T.g_law_same T.F_law_same.kp T.b_law_same .nil pass0 (pa_cons (pe_ix (r := rIxT K) ix_tup (pv 0) (pv 2) (fun _ _ => rfl)) (pa_cons (pe_ix (r := rIxT K) ix_tup (pv 1) (pv 2) (fun _ _ => rfl)) pa_nil))))) pa_nil)))))
    pss_nil)
    (pss_cons (ps_if (pt_cmpR op_isN (pv 1) pe_non (nomark _))
     (pss_one (ps_ret (pe_cmpR op_isN (pv 0) pe_non (nomark _))))
     pss_nil)
     (pss_cons (ps_if (pt_val (pe_callB call_isi (by rfl) T.z_isinstance (by decide +kernel) (pa_cons (pv 1) (pa_cons (pe_bltn (v := .ty "str") (by rfl) T.z_str (by decide +kernel) rfl) pa_nil))))
      (pss_one (ps_ret (pe_and (pe_callB call_isi (by rfl) T.z_isinstance (by decide +kernel) (pa_cons (pv 0) (pa_cons (pe_bltn (v := .ty "str") (by rfl) T.z_str (by decide +kernel) rfl) pa_nil))) (pe_one (pe_cmpR op_eq (pv 0) (pv 1) (nomark _))))))
      pss_nil)
      (pss_cons (ps_if (pt_val (pe_callB call_isi (by rfl) T.z_isinstance (by decide +kernel) (pa_cons (pv 1) (pa_cons (pe_bltn (v := .ty "bool") (by rfl) T.z_bool (by decide +kernel) rfl) pa_nil))))
       (pss_one (ps_ret (pe_and (pe_callB call_isi (by rfl) T.z_isinstance (by decide +kernel) (pa_cons (pv 0) (pa_cons (pe_bltn (v := .ty "bool") (by rfl) T.z_bool (by decide +kernel) rfl) pa_nil))) (pe_one (pe_cmpR op_eq (pv 0) (pv 1) (nomark _))))))
       pss_nil)
       (pss_one (ps_ret (pe_and (pe_call (ok_law_whole T) (hr.mono (by omega)) (by rfl) T.g_law_whole T.F_law_whole.kp T.b_law_whole .nil pass0 (pa_cons (pv 0) pa_nil)) (pe_one (pe_cmpR op_eq (pv 0) (pv 1) (nomark _)))))))))), ?_⟩
    rcases h with ⟨a, b, rfl, rfl, -, q⟩ | ⟨d, hx, hy, hq, q⟩
    · repeat walk_at "s"
      rw [decide_eq_false (fun h => by cases h)]
      refine iteF ?_
      repeat walk_at "s"
      exact q
    · obtain ⟨m, rfl⟩ : ∃ m, n = m + 1 := by
        cases n with
        | zero => cases hq
        | succ m => exact ⟨m, rfl⟩
      have e := hn m rfl
      subst e
      rcases hq with ⟨z, rfl⟩ | ⟨z, rfl⟩ | rfl | ⟨ds, rfl, hl, ha⟩
      · cases hx
        cases hy
        repeat walk_at "s"
        rw [decide_eq_false (fun h => by cases h)]
        refine iteF ?_
        repeat walk_at "s"
        rw [decide_eq_true rfl]
        exact q H (Same.refl H)
      · cases hx
        cases hy
        repeat walk_at "s"
        rw [decide_eq_false (fun h => by cases h)]
        refine iteF ?_
        repeat walk_at "s"
        refine ⟨z, rfl, ?_⟩
        repeat walk_at "s"
        rw [decide_eq_true rfl]
        exact q H (Same.refl H)
      · cases hx
        cases hy
        repeat walk_at "s"
        refine isi_nt ?_
        repeat walk_at "s"
        rw [decide_eq_true rfl]
        refine iteT ?_
        repeat walk_at "s"
        rw [decide_eq_true rfl]
        exact q H (Same.refl H)
      · cases hx with
        | @tup xa xvs _ hxa hxs =>
        cases hy with
        | @tup ya yvs _ hya hys =>
        have lx := hxs.length
        have ly := hys.length
        repeat walk_at "s"
        refine iteF ?_
        repeat walk_at "s"
        rw [show (!decide ((xvs.length : Int) = (yvs.length : Int))) = false by rw [lx, ly, decide_eq_true rfl]; rfl]
        refine iteF ?_
        have hys5 : yvs.length ≤ 500 := by rw [ly]; exact hl
        repeat walk_at "s"
        intro D hD
        refine lc_range (lo := 0) (n := ((yvs.length : Int)).toNat) (fun i H2 => H2 D = some (.lst ((List.replicate i true).map V.bl)) ∧ Same H H2) ⟨upd_same, sm_new hD⟩ ?_ ?_
        · rintro i H2 hi ⟨e2, s2⟩
          have hiy : i < ds.length := by omega
          obtain ⟨x, y, e, hx1, hy1, he, hx3, hy3⟩ := DsAt.both hxs hys hiy
          repeat walk_at "s"
          refine w_ixT (SqT.of (s2 _ _ hxa)) (by rw [show (0 : Int) + (i : Int) = (i : Int) by omega]; exact atI_nat hx1) ?_
          repeat walk_at "s"
          refine w_ixT (SqT.of (s2 _ _ hya)) (by rw [show (0 : Int) + (i : Int) = (i : Int) by omega]; exact atI_nat hy1) ?_
          refine ⟨x, y, rfl, .inr ⟨e, hx3.mono (Tk.same s2), hy3.mono (Tk.same s2), ha e (List.mem_of_getElem? he), fun H3 s3 => ?_⟩⟩
          refine ⟨_, s3 _ _ e2, ?_, ?_, fun b o h => ?_⟩
          · rw [List.length_map, List.length_replicate]; exact big99 (by omega)
          · rw [upd_same, List.replicate_succ', List.map_append]; rfl
          · rw [upd_ne (ne_of_none h hD)]; exact s3 _ _ (s2 _ _ h)
        · rintro H2 ⟨e2, s2⟩
          repeat walk_at "s"
          refine ⟨D, _, rfl, SqL.of e2, ?_⟩
          rw [show ((List.replicate ((yvs.length : Int)).toNat true).all id) = true by rw [List.all_eq_true]; intro b hb; exact (List.mem_replicate.mp hb).2]
          exact q H2 s2
theorem ok_law_same (T : Top K mg) : ∀ n : Nat, FnOk P w K mg base CX0 (n + 2) T.f_law_same T.d_law_same ["actual", "expected"] (sp_same n)
  | 0 => same_step T 0 0 spNo (T.F_law_same.ok sc_law_same (fun _ _ _ _ h => h.elim) (fun _ _ _ _ _ _ _ _ _ h => h.elim)) (fun _ h => by cases h)
  | n + 1 => same_step T (n + 1) (n + 1) (sp_same n) (ok_law_same T n) (fun m h => by cases h; rfl)
end

/-! ### a tunnel -/
structure TS where
  win : Int
  n1 : Str
  n2 : Str
  ls : List (Int × Int × Str)
  ep : Int
  snt : Int
  nw : Int
  c0 : List Int
  c1 : List Int
  t0 : Int
  t1 : Int
  rc : List Int
structure TD where
  p : Addr
  dx : Addr
  lt : Addr
  cs : Addr
  d0 : Addr
  d1 : Addr
  ts : Addr
  rv : Addr
def tfs (a : TD) (S : TS) : List (Str × V) := [("window", .int S.win), ("first", .str S.n1), ("second", .str S.n2), ("_letters", .ref a.lt), ("_epoch", .int S.ep), ("_sent", .int S.snt), ("_newest", .int S.nw), ("_counts", .ref a.cs), ("_tops", .ref a.ts), ("_received", .ref a.rv)]
def ld (x : Int × Int × Str) : PyData := .tuple [.int x.1, .int x.2.1, .str x.2.2]
theorem ld_at {H : Hp} {v : V} {x : Int × Int × Str} (h : DAt H v (ld x)) : ∃ q, v = .ref q ∧ H q = some (.tup [.int x.1, .int x.2.1, .str x.2.2]) := by
  unfold ld at h
  cases h with
  | @tup q vs _ hq hs =>
    cases hs with
    | cons h1 hs => cases h1; cases hs with
      | cons h2 hs => cases h2; cases hs with
        | cons h3 hs => cases h3; cases hs; exact ⟨q, rfl, hq⟩
theorem ld_get {H : Hp} {us : List V} {ls : List (Int × Int × Str)} {n : Nat} {x : Int × Int × Str} (d : DsAt H us (ls.map ld)) (hn : ls[n]? = some x) : ∃ q, us[n]? = some (.ref q) ∧ H q = some (.tup [.int x.1, .int x.2.1, .str x.2.2]) := by
  have l := d.length
  rw [List.length_map] at l
  have hnl := (List.getElem?_eq_some_iff.mp hn).1
  obtain ⟨e, h1, h2⟩ := d.get (List.getElem?_eq_getElem (show n < us.length by omega))
  rw [List.getElem?_map, hn] at h1
  cases h1
  obtain ⟨q, h3, h4⟩ := ld_at h2
  exact ⟨q, by rw [List.getElem?_eq_getElem (show n < us.length by omega), h3], h4⟩
def kz (c : List Int) : List (L2.Key × V) := c.map fun n => (Sum.inl n, .bl true)
theorem kz_val (c : List Int) (n : Int) : (valV (kz c) (Sum.inl n)).isSome = decide (n ∈ c) := by
  unfold kz valV
  induction c with
  | nil => rfl
  | cons m r ih =>
    rw [List.map_cons, List.find?_cons]
    by_cases h : m = n
    · subst h
      simp
    · rw [show (decide ((Sum.inl m : L2.Key) = Sum.inl n)) = false from decide_eq_false (fun e => h (Sum.inl.inj e))]
      simp only []
      rw [ih]
      simp [Ne.symm h]
theorem kz_put (c : List Int) (n : Int) (h : n ∉ c) : putK (kz c) (Sum.inl n) (.bl true) = kz (c ++ [n]) := by
  have e : ((kz c).any fun kv => decide (kv.1 = Sum.inl n)) = false := by
    rw [List.any_eq_false]
    intro kv hkv
    obtain ⟨m, hm, rfl⟩ := List.mem_map.mp hkv
    intro q
    exact h ((Sum.inl.inj (of_decide_eq_true q)) ▸ hm)
  unfold putK
  rw [e, if_neg (by decide)]
  unfold kz
  rw [List.map_append]
  rfl
structure Tun (C : Addr) (a : TD) (H : Hp) (S : TS) : Prop where
  ins : H a.p = some (.ins C a.dx (tfs a S))
  lt : ∃ us, H a.lt = some (.lst us) ∧ DsAt H us (S.ls.map ld)
  cs : H a.cs = some (.tup [.ref a.d0, .ref a.d1])
  e0 : H a.d0 = some (.dK (kz S.c0))
  e1 : H a.d1 = some (.dK (kz S.c1))
  ts : H a.ts = some (.tup [.int S.t0, .int S.t1])
  rv : H a.rv = some (.lst (inz S.rc))
  nd : a.d0 ≠ a.d1
  nl : a.lt ≠ a.rv
def ft (a : TD) : List Addr := [a.p, a.lt, a.d0, a.d1, a.rv]
def Frm (F : List Addr) (H H' : Hp) : Prop := ∀ x o, H x = some o → x ∉ F → H' x = some o
def Own (F : List Addr) (H : Hp) (F' : List Addr) : Prop := ∀ x ∈ F', x ∈ F ∨ H x = none
theorem Frm.same {F : List Addr} {H H' : Hp} (s : Same H H') : Frm F H H' := fun x o h _ => s x o h
theorem Frm.trans {F F' : List Addr} {H H1 H2 : Hp} (a : Frm F H H1) (b : Frm F' H1 H2) (o : Own F H F') : Frm F H H2 := fun x u h n => b x u (a x u h n) fun hx => (o x hx).elim n (fun e => by rw [h] at e; cases e)
theorem Own.refl (F : List Addr) (H : Hp) : Own F H F := fun x h => .inl h
theorem Own.trans {F F1 F2 : List Addr} {H H1 : Hp} (a : Own F H F1) (f : Frm F H H1) (b : Own F1 H1 F2) : Own F H F2 := fun x hx => by
  rcases b x hx with h | h
  · exact a x h
  · by_cases hF : x ∈ F
    · exact .inl hF
    · refine .inr ?_
      cases e : H x with
      | none => rfl
      | some o => rw [f x o e hF] at h; cases h
section
variable {C : Addr} {a b : TD} {H H' : Hp} {S : TS} {F : List Addr}
theorem Tun.notup (T : Tun C a H S) : ∀ x ∈ ft a, ∀ vs, H x ≠ some (.tup vs) := by
  obtain ⟨us, h, _⟩ := T.lt
  intro x hx vs e
  simp only [ft, List.mem_cons, List.not_mem_nil, or_false] at hx
  rcases hx with rfl | rfl | rfl | rfl | rfl
  · rw [T.ins] at e; cases e
  · rw [h] at e; cases e
  · rw [T.e0] at e; cases e
  · rw [T.e1] at e; cases e
  · rw [T.rv] at e; cases e
theorem Tun.there (T : Tun C a H S) : ∀ x ∈ ft a, H x ≠ none := by
  obtain ⟨us, h, _⟩ := T.lt
  intro x hx e
  simp only [ft, List.mem_cons, List.not_mem_nil, or_false] at hx
  rcases hx with rfl | rfl | rfl | rfl | rfl
  · rw [T.ins] at e; cases e
  · rw [h] at e; cases e
  · rw [T.e0] at e; cases e
  · rw [T.e1] at e; cases e
  · rw [T.rv] at e; cases e
theorem Tun.frame (T : Tun C b H S) (f : Frm F H H') (dj : ∀ x ∈ ft b, x ∉ F) (nt : ∀ x ∈ F, ∀ vs, H x ≠ some (.tup vs)) : Tun C b H' S := by
  obtain ⟨us, h, d⟩ := T.lt
  have tk : Tk H H' := fun x vs hx => f x _ hx fun hF => nt x hF vs hx
  have go : ∀ x ∈ ft b, ∀ o, H x = some o → H' x = some o := fun x hx o e => f x o e (dj x hx)
  exact ⟨go _ (by simp [ft]) _ T.ins, ⟨us, go _ (by simp [ft]) _ h, d.mono tk⟩, tk _ _ T.cs, go _ (by simp [ft]) _ T.e0, go _ (by simp [ft]) _ T.e1, tk _ _ T.ts, go _ (by simp [ft]) _ T.rv, T.nd, T.nl⟩
theorem Tun.same (T : Tun C b H S) (s : Same H H') : Tun C b H' S := T.frame (F := []) (Frm.same s) (fun _ _ h => by cases h) (fun _ h => by cases h)
theorem Tun.pl (T : Tun C a H S) : a.p ≠ a.lt ∧ a.p ≠ a.d0 ∧ a.p ≠ a.d1 ∧ a.p ≠ a.rv ∧ a.lt ≠ a.d0 ∧ a.lt ≠ a.d1 ∧ a.rv ≠ a.d0 ∧ a.rv ≠ a.d1 := by
  obtain ⟨us, h, _⟩ := T.lt
  exact ⟨ne_of T.ins h (by intro z; cases z), ne_of T.ins T.e0 (by intro z; cases z), ne_of T.ins T.e1 (by intro z; cases z), ne_of T.ins T.rv (by intro z; cases z), ne_of h T.e0 (by intro z; cases z), ne_of h T.e1 (by intro z; cases z), ne_of T.rv T.e0 (by intro z; cases z), ne_of T.rv T.e1 (by intro z; cases z)⟩
end
theorem Tun.ui {C : Addr} {a : TD} {H : Hp} {S S' : TS} (U : Tun C a H S) (h1 : S'.ls = S.ls) (h2 : S'.c0 = S.c0) (h3 : S'.c1 = S.c1) (h4 : S'.t0 = S.t0) (h5 : S'.t1 = S.t1) (h6 : S'.rc = S.rc) : Tun C a (upd H a.p (.ins C a.dx (tfs a S'))) S' := by
  obtain ⟨us, hus, dus⟩ := U.lt
  obtain ⟨p1, p2, p3, p4, _⟩ := U.pl
  have tk : Tk H (upd H a.p (.ins C a.dx (tfs a S'))) := Tk.upd fun vs e => by rw [U.ins] at e; cases e
  refine ⟨upd_same, ⟨us, by rw [upd_ne p1.symm]; exact hus, by rw [h1]; exact dus.mono tk⟩, tk _ _ U.cs, ?_, ?_, ?_, ?_, U.nd, U.nl⟩
  · rw [upd_ne p2.symm, h2]; exact U.e0
  · rw [upd_ne p3.symm, h3]; exact U.e1
  · rw [h4, h5]; exact tk _ _ U.ts
  · rw [upd_ne p4.symm, h6]; exact U.rv
theorem frm_p {a : TD} {H H' : Hp} {o : HO} (f : Frm (ft a) H H') : Frm (ft a) H (upd H' a.p o) := fun x u h n => by
  rw [upd_ne (fun e => n (by rw [e]; simp [ft]))]
  exact f x u h n
theorem one_lt (x y : Nat) : ([x] < [y]) ↔ x < y := by
  rw [List.cons_lt_cons_iff]
  constructor
  · rintro (h | ⟨_, h⟩)
    · exact h
    · exact absurd h (List.lt_irrefl _)
  · exact .inl
def S0 (win : Int) (z1 z2 : Str) : TS := ⟨win, z1, z2, [], 0, 0, 0, [], [], -1, -1, []⟩
def renew (S : TS) (e : Int) : TS := if e = S.nw + 1 then { S with c0 := [], c1 := S.c0, t0 := -1, t1 := S.t0, nw := e } else { S with c0 := [], c1 := [], t0 := -1, t1 := -1, nw := e }
def jdg (S : TS) (back : Nat) (n : Nat) (c : Int) : Str × TS :=
  if back = 0 then
    if c ≤ S.t0 - S.win then ("late", S) else if c ∈ S.c0 then ("again", S) else ("taken", { S with c0 := S.c0 ++ [c], t0 := if c > S.t0 then c else S.t0, rc := S.rc ++ [(n : Int)] })
  else
    if c ≤ S.t1 - S.win then ("late", S) else if c ∈ S.c1 then ("again", S) else ("taken", { S with c1 := S.c1 ++ [c], t1 := if c > S.t1 then c else S.t1, rc := S.rc ++ [(n : Int)] })
def dlv (S : TS) (n : Nat) (e c : Int) : Str × TS :=
  if e < S.nw - 1 then ("old", S) else if e > S.nw then jdg (renew S e) 0 n c else jdg S (S.nw - e).toNat n c
section
variable {σ : L2.St} {H : Hp} {K : PySem.W.Frag}
theorem w_dgoI {b : Addr} {kvs : List (L2.Key × V)} {z : Int} {o : Option V} {R : Option V → Prop} (h : H b = some (.dK kvs)) (e : valV kvs (Sum.inl z) = o) (q : R o) : ∃ a o, V.ref b = .ref a ∧ DGet H a (.int z) o ∧ R o := ⟨b, o, rfl, e ▸ DGet.k (k := Sum.inl z) h, q⟩
theorem w_dpI {b : Addr} {kvs : List (L2.Key × V)} {z : Int} {v : V} {R : Hp → Prop} (h : H b = some (.dK kvs)) (n : kvs.length < sizeLine) (q : R (upd H b (.dK (putK kvs (Sum.inl z) v)))) : ∃ a H4, V.ref b = .ref a ∧ DPut H a (.int z) v H4 ∧ R H4 := ⟨b, _, rfl, DPut.k (k := Sum.inl z) h n, q⟩
theorem w_prop {C : Addr} {sp : Sp} {dvs : List V} {E : XK} {ta : TE} {Q : VK} (q : ta σ H fun x H1 => ∃ a dx fs, x = .ref a ∧ H1 a = some (.ins C dx fs) ∧ sp (.ref a :: dvs) H1 Q E) : tProp C sp dvs E ta σ H Q := q
theorem w_faug {ta tv : TE} {rd : V → V → Hp → VK → Prop} {f : Str} {D : Ends} (q : ta σ H fun x H1 => ∃ a C dx fs v, x = .ref a ∧ H1 a = some (.ins C dx fs) ∧ Cls K C ∧ NoAttr K C f ∧ fs.lookup f = some v ∧
  tv σ H1 fun y H2 => rd v y H2 fun z H3 => ∃ dx' fs', H3 a = some (.ins C dx' fs') ∧ fs'.length < 1000 ∧ D.nx σ (upd H3 a (.ins C dx' (putF f z fs')))) : sFldAug K ta tv rd f D σ H := q
end
theorem tf1 (a : TD) (S : TS) : (tfs a S).lookup ("window" : Str) = some (.int S.win) := by rfl
theorem tf4 (a : TD) (S : TS) : (tfs a S).lookup ("_letters" : Str) = some (.ref a.lt) := by rfl
theorem tf5 (a : TD) (S : TS) : (tfs a S).lookup ("_epoch" : Str) = some (.int S.ep) := by rfl
theorem tf6 (a : TD) (S : TS) : (tfs a S).lookup ("_sent" : Str) = some (.int S.snt) := by rfl
theorem tf7 (a : TD) (S : TS) : (tfs a S).lookup ("_newest" : Str) = some (.int S.nw) := by rfl
theorem tf8 (a : TD) (S : TS) : (tfs a S).lookup ("_counts" : Str) = some (.ref a.cs) := by rfl
theorem tf9 (a : TD) (S : TS) : (tfs a S).lookup ("_tops" : Str) = some (.ref a.ts) := by rfl
theorem tf10 (a : TD) (S : TS) : (tfs a S).lookup ("_received" : Str) = some (.ref a.rv) := by rfl
theorem tn1 (a : TD) (S : TS) : (tfs a S).lookup ("letter" : Str) = none := by rfl
theorem tn2 (a : TD) (S : TS) : (tfs a S).lookup ("_renew" : Str) = none := by rfl
theorem tn3 (a : TD) (S : TS) : (tfs a S).lookup ("_judged" : Str) = none := by rfl
theorem tn4 (a : TD) (S : TS) : (tfs a S).lookup ("send" : Str) = none := by rfl
theorem tn5 (a : TD) (S : TS) : (tfs a S).lookup ("rekey" : Str) = none := by rfl
theorem tn6 (a : TD) (S : TS) : (tfs a S).lookup ("deliver" : Str) = none := by rfl
theorem tfs_len (a : TD) (S : TS) : (tfs a S).length < 1000 := by show 10 < 1000; decide
/-! ### names, again -/
def sp_isword : Sp := fun vs H Q _ => ∃ z : Str, vs = [.str z, .str "a", .str "z"] ∧ Nm z ∧ ∀ H', Same H H' → Q (.bl true) H'
def sp_isname : Sp := fun vs H Q _ => ∃ z : Str, vs = [.str z] ∧ Nm z ∧ ∀ H', Same H H' → Q (.bl true) H'
def sp_init (C : Addr) : Sp := fun vs H Q _ => ∃ (p dx : Addr) (win : Int) (z1 z2 : Str), vs = [.ref p, .int win, .str z1, .str z2] ∧ H p = some (.ins C dx []) ∧ 1 ≤ win ∧ win ≤ 64 ∧ Nm z1 ∧ Nm z2 ∧ z1 ≠ z2 ∧ ∀ (a : TD) (H' : Hp), a.p = p → (∀ x o, H x = some o → x ≠ p → H' x = some o) → (∀ x ∈ ft a, x = p ∨ H x = none) → Tun C a H' (S0 win z1 z2) → Q .non H'
def sp_send (C : Addr) : Sp := fun vs H Q _ => ∃ (a : TD) (S : TS) (z : Str), vs = [.ref a.p, .str z] ∧ Tun C a H S ∧ Nm z ∧ S.ls.length < 1000 ∧ ∀ H', Frm (ft a) H H' → Tun C a H' { S with ls := S.ls ++ [(S.ep, S.snt, z)], snt := S.snt + 1 } → Q (.int S.ls.length) H'
def sp_rekey (C : Addr) : Sp := fun vs H Q _ => ∃ (a : TD) (S : TS), vs = [.ref a.p] ∧ Tun C a H S ∧ S.ep ≠ 12 ∧ ∀ H', Frm (ft a) H H' → Tun C a H' { S with ep := S.ep + 1, snt := 0 } → Q .non H'
def sp_letter (C : Addr) : Sp := fun vs H Q _ => ∃ (a : TD) (S : TS) (n : Nat) (x : Int × Int × Str), vs = [.ref a.p, .int (n : Int)] ∧ Tun C a H S ∧ S.ls[n]? = some x ∧ ∀ q, H q = some (.tup [.int x.1, .int x.2.1, .str x.2.2]) → Q (.ref q) H
def sp_received (C : Addr) : Sp := fun vs H Q _ => ∃ (a : TD) (S : TS), vs = [.ref a.p] ∧ Tun C a H S ∧ ∀ q H', Same H H' → H' q = some (.tup (inz S.rc)) → Q (.ref q) H'
def sp_renew (C : Addr) : Sp := fun vs H Q _ => ∃ (a : TD) (S : TS) (e : Int), vs = [.ref a.p, .int e] ∧ Tun C a H S ∧ ∀ (a' : TD) (H' : Hp), a'.p = a.p → Frm (ft a) H H' → Own (ft a) H (ft a') → Tun C a' H' (renew S e) → Q .non H'
def sp_judged (C : Addr) : Sp := fun vs H Q _ => ∃ (a : TD) (S : TS) (back n : Nat) (c : Int), vs = [.ref a.p, .int (back : Int), .int (n : Int), .int c] ∧ Tun C a H S ∧ back ≤ 1 ∧ S.c0.length < 1000 ∧ S.c1.length < 1000 ∧ S.rc.length < 1000 ∧ ∀ (a' : TD) (H' : Hp), a'.p = a.p → Frm (ft a) H H' → Own (ft a) H (ft a') → Tun C a' H' (jdg S back n c).2 → Q (.str (jdg S back n c).1) H'
def sp_deliver (C : Addr) : Sp := fun vs H Q _ => ∃ (a : TD) (S : TS) (n : Nat) (x : Int × Int × Str), vs = [.ref a.p, .int (n : Int)] ∧ Tun C a H S ∧ S.ls[n]? = some x ∧ S.c0.length < 1000 ∧ S.c1.length < 1000 ∧ S.rc.length < 1000 ∧ ∀ (a' : TD) (H' : Hp), a'.p = a.p → Frm (ft a) H H' → Own (ft a) H (ft a') → Tun C a' H' (dlv S n x.1 x.2.1).2 → Q (.str (dlv S n x.1 x.2.1).1) H'
section
variable {P : Program} {w : World} {K : PySem.W.Frag} {mg : Str → Option Value} {base : Heap}
theorem ok_is_word (T : Top K mg) : FnOk P w K mg base CX0 1 T.f_is_word T.d_is_word ["value", "least", "greatest"] sp_isword := by
  refine T.F_is_word.ok sc_is_word (fun vs H Q E h => ?_) (fun cdv A outer s H vs Q E hr h => ?_)
  · obtain ⟨z, rfl, _⟩ := h
    rfl
  · obtain ⟨z, rfl, hz, q⟩ := h
    refine ⟨_, (pss_cons (ps_if (PW.pt (pw_or (pt_not (pt_val (pe_callB call_isi (by rfl) T.z_isinstance (by decide +kernel) (pa_cons (pv 0) (pa_cons (pe_bltn (v := .ty "str") (by rfl) T.z_str (by decide +kernel) rfl) pa_nil))))) (pw_or1 (pt_not (pt_chain op_le op_le pe_int (pe_callB call_len_str (by rfl) T.z_len (by decide +kernel) (pa_cons (pv 0) pa_nil)) (pe_glob (v := .int 8) (by rfl) T.c_LONGEST_NAME ⟨_, rfl⟩))))))
    (pss_one (ps_ret pe_bl))
    pss_nil)
    (pss_one (ps_ret (pe_callB (cr_all rfl) (by rfl) T.z_all (by decide +kernel) (pa_cons (pe_lc (own := [("sign", 3)]) (g := gName 3) (by rfl) sc_is_word.nd (pi_str (pv 0)) (blkOk_by (own := [("sign", 3)]) (N := N_is_word) (sc := defScope s_is_word) (by decide +kernel)) (fun _ _ _ _ _ => (pg_name (i := 3) sc_is_word.nd rfl (Or.inl rfl))) (fun _ _ _ _ _ => pts_nil) (fun _ _ _ _ _ => (pe_chain op_le_str op_le_str (pv 1) (pv 3) (pv 2)))) pa_nil))))), ?_⟩
    have h1 := hz.lo
    have h8 := hz.hi
    have hzl := hz.len
    repeat walk_at "s"
    refine iteF ?_
    repeat walk_at "s"
    refine ite2 (fun h => ?_) (fun h => absurd (decide_eq_true (by omega)) h)
    repeat walk_at "s"
    rw [decide_eq_true (show (z.length : Int) ≤ 8 by omega)]
    refine iteF ?_
    repeat walk_at "s"
    refine ⟨.str z, rfl, z, rfl, fun D hD => ?_⟩
    refine lc_it walk_str (fun i H2 => H2 D = some (.lst ((List.replicate i true).map V.bl)) ∧ Same H H2) ⟨upd_same, sm_new hD⟩ (fun _ _ _ _ => trivial) ?_ ?_
    · rintro i x H2 H3 hi ⟨e2, s2⟩ ⟨rfl, c, hc, rfl⟩
      have hcm : c ∈ cd z := by
        have : z.cps.toList[i]? = some c := by rw [Array.getElem?_toList]; exact hc
        exact List.mem_of_getElem? this
      obtain ⟨c1, c2⟩ := hz.az c hcm
      have iz : i < 8 := by
        have : i < z.length := hi
        omega
      repeat walk_at "s"
      rw [show decide ((⟨#[c]⟩ : Str).cps.toList < (Str.ofString "a").cps.toList) = false from decide_eq_false (fun q => by have := (one_lt c 97).mp q; omega)]
      refine iteT ?_
      repeat walk_at "s"
      rw [show decide ((Str.ofString "z").cps.toList < (⟨#[c]⟩ : Str).cps.toList) = false from decide_eq_false (fun q => by have := (one_lt 122 c).mp q; omega)]
      refine ⟨_, e2, ?_, ?_, fun x o h => by rw [upd_ne (ne_of_none h hD)]; exact s2 x o h⟩
      · rw [List.length_map, List.length_replicate]; exact big99 (by omega)
      · rw [upd_same, List.replicate_succ', List.map_append]; rfl
    · rintro H2 ⟨e2, s2⟩
      repeat walk_at "s"
      refine ⟨D, _, rfl, SqL.of e2, ?_⟩
      rw [show ((List.replicate z.cps.size true).all id) = true by rw [List.all_eq_true]; intro b hb; exact (List.mem_replicate.mp hb).2]
      exact q H2 s2
theorem okis_name (T : Top K mg) : FnOk P w K mg base CX0 2 T.fis_name T.dis_name ["value"] sp_isname := by
  refine T.Fis_name.ok scis_name (fun vs H Q E h => ?_) (fun cdv A outer s H vs Q E hr h => ?_)
  · obtain ⟨z, rfl, _⟩ := h
    rfl
  · obtain ⟨z, rfl, hz, q⟩ := h
    refine ⟨_, (pss_one (ps_ret (pe_call (ok_is_word T) hr (by rfl) T.g_is_word T.F_is_word.kp T.b_is_word .nil pass0 (pa_cons (pv 0) (pa_cons pe_str (pa_cons pe_str pa_nil)))))), ?_⟩
    repeat walk_at "s"
    exact ⟨z, rfl, hz, q⟩
theorem okTunnel_letter (T : Top K mg) : FnOk P w K mg base CX0 1 T.fTunnel_letter T.dTunnel_letter ["self", "number"] (sp_letter T.C_Tunnel) := by
  refine T.FTunnel_letter.ok scTunnel_letter (fun vs H Q E h => ?_) (fun cdv A outer s H vs Q E hr h => ?_)
  · obtain ⟨a, S, n, x, rfl, _⟩ := h
    rfl
  · obtain ⟨a, S, n, x, rfl, U, hn, q⟩ := h
    refine ⟨_, (pss_cons (ps_if (pt_not (pt_chain op_le op_lt pe_int (pv 1) (pe_callB call_len_seq (by rfl) T.z_len (by decide +kernel) (pa_cons (pe_fld (pv 0) rfl) pa_nil))))
    (pss_one ps_no)
    pss_nil)
    (pss_one (ps_ret (pe_ix ix_list (pe_fld (pv 0) rfl) (pv 1) (fun _ _ => rfl))))), ?_⟩
    obtain ⟨us, hus, dus⟩ := U.lt
    have lus := dus.length
    rw [List.length_map] at lus
    have hnl := (List.getElem?_eq_some_iff.mp hn).1
    repeat walk_at "s"
    refine ite2 (fun h => ?_) (fun h => absurd (decide_eq_true (by omega)) h)
    repeat walk_at "s"
    refine w_fldA U.ins T.cl_Tunnel T.n_Tunnel__letters (tf4 a S) ?_
    repeat walk_at "s"
    rw [decide_eq_true (show (n : Int) < (us.length : Int) by omega)]
    refine iteF ?_
    repeat walk_at "s"
    refine w_fldA U.ins T.cl_Tunnel T.n_Tunnel__letters (tf4 a S) ?_
    obtain ⟨v, hv, hq⟩ := ld_get dus hn
    repeat walk_at "s"
    refine w_ixL (SqL.of hus) (atI_nat hv) ?_
    exact q v hq
theorem okTunnel_received (T : Top K mg) : FnOk P w K mg base CX0 1 T.fTunnel_received T.dTunnel_received ["self"] (sp_received T.C_Tunnel) := by
  refine T.FTunnel_received.ok scTunnel_received (fun vs H Q E h => ?_) (fun cdv A outer s H vs Q E hr h => ?_)
  · obtain ⟨a, S, rfl, _⟩ := h
    rfl
  · obtain ⟨a, S, rfl, U, q⟩ := h
    refine ⟨_, (pss_one (ps_ret (pe_callTy call_tuple_of (by rfl) T.z_tuple (by decide +kernel) (pa_cons (pe_fld (pv 0) rfl) pa_nil)))), ?_⟩
    repeat walk_at "s"
    refine w_fldA U.ins T.cl_Tunnel T.n_Tunnel__received (tf10 a S) ?_
    refine ⟨a.rv, inz S.rc, rfl, .inl ⟨SqL.of U.rv, fun l hl => ?_⟩⟩
    exact q l _ (sm_new hl) upd_same
theorem okTunnel_send (T : Top K mg) : FnOk P w K mg base CX0 3 T.fTunnel_send T.dTunnel_send ["self", "payload"] (sp_send T.C_Tunnel) := by
  refine T.FTunnel_send.ok scTunnel_send (fun vs H Q E h => ?_) (fun cdv A outer s H vs Q E hr h => ?_)
  · obtain ⟨a, S, z, rfl, _⟩ := h
    rfl
  · obtain ⟨a, S, z, rfl, U, hz, hl, q⟩ := h
    refine ⟨_, (pss_cons (ps_if (pt_not (pt_val (pe_call (okis_name T) hr (by rfl) T.gis_name T.Fis_name.kp T.bis_name .nil pass0 (pa_cons (pv 1) pa_nil))))
    (pss_one ps_no)
    pss_nil)
    (pss_cons (ps_expr (pe_bm PySem.F.plainAttrs_list PySem.F.slot_list_append PySem.F.type_list_append mt_append (pe_fld (pv 0) rfl) (pa_cons (pe_tup (pa_cons (pe_fld (pv 0) rfl) (pa_cons (pe_fld (pv 0) rfl) (pa_cons (pv 1) pa_nil)))) pa_nil)))
     (pss_cons (ps_fldaug (pv 0) pe_int in_add)
      (pss_one (ps_ret (pe_op op_sub (pe_callB call_len_seq (by rfl) T.z_len (by decide +kernel) (pa_cons (pe_fld (pv 0) rfl) pa_nil)) pe_int)))))), ?_⟩
    repeat walk_at "s"
    refine ⟨z, rfl, hz, fun H1 s1 => ?_⟩
    repeat walk_at "s"
    refine iteF ?_
    have U1 := U.same s1
    obtain ⟨us, hus, dus⟩ := U1.lt
    have lus := dus.length
    rw [List.length_map] at lus
    repeat walk_at "s"
    refine w_fldA U1.ins T.cl_Tunnel T.n_Tunnel__letters (tf4 a S) ?_
    refine w_tyl hus ?_
    repeat walk_at "s"
    refine w_fldA U1.ins T.cl_Tunnel T.n_Tunnel__epoch (tf5 a S) ?_
    repeat walk_at "s"
    refine w_fldA U1.ins T.cl_Tunnel T.n_Tunnel__sent (tf6 a S) ?_
    repeat walk_at "s"
    refine ⟨by walk_at "len", fun p hp => ?_⟩
    have s2 := sm_new (o := .tup [.int S.ep, .int S.snt, .str z]) hp
    have e2 := upd_self2 hp (.tup [.int S.ep, .int S.snt, .str z])
    generalize upd H1 p (.tup [.int S.ep, .int S.snt, .str z]) = H2 at s2 e2 ⊢
    have U2 := U1.same s2
    repeat walk_at "s"
    refine w_append (s2 _ _ hus) (big99 (by omega)) ?_
    have npl := U.pl
    have tk3 : Tk H2 (upd H2 a.lt (.lst (us ++ [.ref p]))) := Tk.lst (s2 _ _ hus)
    have f3 : Frm (ft a) H (upd H2 a.lt (.lst (us ++ [.ref p]))) := fun x o h n => by
      rw [upd_ne (fun e => n (by rw [e]; simp [ft]))]
      exact s2 _ _ (s1 _ _ h)
    have d3 : DsAt (upd H2 a.lt (.lst (us ++ [.ref p]))) (us ++ [.ref p]) ((S.ls ++ [(S.ep, S.snt, z)]).map ld) := by
      rw [List.map_append]
      exact ((dus.mono (Tk.same s2)).mono tk3).app (.cons (.tup (tk3 _ _ e2) (.cons (.int _) (.cons (.int _) (.cons (.str _) .nil)))) .nil)
    have U3 : Tun T.C_Tunnel a (upd H2 a.lt (.lst (us ++ [.ref p]))) { S with ls := S.ls ++ [(S.ep, S.snt, z)] } := by
      obtain ⟨p1, p2, p3, p4, p5, p6, p7, p8⟩ := npl
      exact ⟨by rw [upd_ne p1]; exact U2.ins, ⟨_, upd_same, d3⟩, tk3 _ _ U2.cs, by rw [upd_ne p5.symm]; exact U2.e0, by rw [upd_ne p6.symm]; exact U2.e1, tk3 _ _ U2.ts, by rw [upd_ne U2.nl.symm]; exact U2.rv, U2.nd, U2.nl⟩
    generalize upd H2 a.lt (.lst (us ++ [.ref p])) = H3 at f3 U3 ⊢
    repeat walk_at "s"
    refine w_faug ?_
    repeat walk_at "s"
    refine ⟨a.p, _, _, _, _, rfl, U3.ins, T.cl_Tunnel, T.n_Tunnel__sent, tf6 a _, ?_⟩
    repeat walk_at "s"
    refine ⟨_, _, rfl, rfl, _, _, U3.ins, tfs_len a _, ?_⟩
    have U4 := U3.ui (S' := { S with ls := S.ls ++ [(S.ep, S.snt, z)], snt := S.snt + 1 }) rfl rfl rfl rfl rfl rfl
    have f4 := frm_p (o := .ins T.C_Tunnel a.dx (tfs a { S with ls := S.ls ++ [(S.ep, S.snt, z)], snt := S.snt + 1 })) f3
    have ep : putF (Str.ofString "_sent") (V.int (S.snt + 1)) (tfs a { S with ls := S.ls ++ [(S.ep, S.snt, z)] }) = tfs a { S with ls := S.ls ++ [(S.ep, S.snt, z)], snt := S.snt + 1 } := rfl
    rw [ep]
    generalize upd H3 a.p (.ins T.C_Tunnel a.dx (tfs a { S with ls := S.ls ++ [(S.ep, S.snt, z)], snt := S.snt + 1 })) = H4 at U4 f4 ⊢
    obtain ⟨us4, hus4, dus4⟩ := U4.lt
    have lus4 : (us4.length : Int) = (S.ls.length : Int) + 1 := by
      have := dus4.length
      rw [List.length_map] at this
      have e : (S.ls ++ [(S.ep, S.snt, z)]).length = S.ls.length + 1 := by rw [List.length_append]; rfl
      have : us4.length = (S.ls ++ [(S.ep, S.snt, z)]).length := this
      omega
    repeat walk_at "s"
    refine w_fldA U4.ins T.cl_Tunnel T.n_Tunnel__letters (tf4 a _) ?_
    repeat walk_at "s"
    rw [lus4, Int.add_sub_cancel]
    exact q H4 f4 U4
theorem okTunnel_rekey (T : Top K mg) : FnOk P w K mg base CX0 1 T.fTunnel_rekey T.dTunnel_rekey ["self"] (sp_rekey T.C_Tunnel) := by
  refine T.FTunnel_rekey.ok scTunnel_rekey (fun vs H Q E h => ?_) (fun cdv A outer s H vs Q E hr h => ?_)
  · obtain ⟨a, S, rfl, _⟩ := h
    rfl
  · obtain ⟨a, S, rfl, U, he, q⟩ := h
    refine ⟨_, (pss_cons (ps_if (pt_cmpR op_eq (pe_fld (pv 0) rfl) (pe_glob (v := .int 12) (by rfl) T.c_LAST_EPOCH ⟨_, rfl⟩) (nomark _))
    (pss_one ps_no)
    pss_nil)
    (pss_cons (ps_fldaug (pv 0) pe_int in_add)
     (pss_one (ps_fld (pv 0) pe_int rfl)))), ?_⟩
    repeat walk_at "s"
    refine w_fldA U.ins T.cl_Tunnel T.n_Tunnel__epoch (tf5 a S) ?_
    repeat walk_at "s"
    rw [decide_eq_false he]
    refine iteF ?_
    repeat walk_at "s"
    refine w_faug ?_
    repeat walk_at "s"
    refine ⟨a.p, _, _, _, _, rfl, U.ins, T.cl_Tunnel, T.n_Tunnel__epoch, tf5 a S, ?_⟩
    repeat walk_at "s"
    refine ⟨_, _, rfl, rfl, _, _, U.ins, tfs_len a S, ?_⟩
    have U4 := U.ui (S' := { S with ep := S.ep + 1 }) rfl rfl rfl rfl rfl rfl
    have f4 := frm_p (a := a) (o := .ins T.C_Tunnel a.dx (tfs a { S with ep := S.ep + 1 })) (Frm.same (Same.refl H))
    have ep : putF (Str.ofString "_epoch") (V.int (S.ep + 1)) (tfs a S) = tfs a { S with ep := S.ep + 1 } := rfl
    rw [ep]
    generalize upd H a.p (.ins T.C_Tunnel a.dx (tfs a { S with ep := S.ep + 1 })) = H4 at U4 f4 ⊢
    repeat walk_at "s"
    refine ⟨a.p, _, _, _, rfl, U4.ins, T.cl_Tunnel, T.n_Tunnel__sent, tfs_len a _, ?_⟩
    exact q _ (frm_p f4) (U4.ui (S' := { S with ep := S.ep + 1, snt := 0 }) rfl rfl rfl rfl rfl rfl)
end

/-! ### a tunnel is made; letters are delivered -/
section
variable {C : Addr} {a : TD} {H : Hp} {S : TS} {c : Int}
theorem Tun.put0 (U : Tun C a H S) : Tun C a (upd H a.d0 (.dK (kz (S.c0 ++ [c])))) { S with c0 := S.c0 ++ [c] } := by
  obtain ⟨us, hus, dus⟩ := U.lt
  obtain ⟨p1, p2, p3, p4, p5, p6, p7, p8⟩ := U.pl
  have tk : ∀ o, Tk H (upd H a.d0 o) := fun o => Tk.upd fun vs e => by rw [U.e0] at e; cases e
  exact ⟨by rw [upd_ne p2]; exact U.ins, ⟨us, by rw [upd_ne p5]; exact hus, dus.mono (tk _)⟩, tk _ _ _ U.cs, upd_same, by rw [upd_ne U.nd.symm]; exact U.e1, tk _ _ _ U.ts, by rw [upd_ne p7]; exact U.rv, U.nd, U.nl⟩
theorem Tun.put1 (U : Tun C a H S) : Tun C a (upd H a.d1 (.dK (kz (S.c1 ++ [c])))) { S with c1 := S.c1 ++ [c] } := by
  obtain ⟨us, hus, dus⟩ := U.lt
  obtain ⟨p1, p2, p3, p4, p5, p6, p7, p8⟩ := U.pl
  have tk : ∀ o, Tk H (upd H a.d1 o) := fun o => Tk.upd fun vs e => by rw [U.e1] at e; cases e
  exact ⟨by rw [upd_ne p3]; exact U.ins, ⟨us, by rw [upd_ne p6]; exact hus, dus.mono (tk _)⟩, tk _ _ _ U.cs, by rw [upd_ne U.nd]; exact U.e0, upd_same, tk _ _ _ U.ts, by rw [upd_ne p8]; exact U.rv, U.nd, U.nl⟩
theorem Tun.tops (U : Tun C a H S) {q : Addr} {x y : Int} (hq : H q = none) : Tun C { a with ts := q } (upd (upd H q (.tup [.int x, .int y])) a.p (.ins C a.dx (tfs { a with ts := q } { S with t0 := x, t1 := y }))) { S with t0 := x, t1 := y } := by
  have U1 : Tun C a (upd H q (.tup [.int x, .int y])) S := U.same (sm_new hq)
  obtain ⟨us, hus, dus⟩ := U1.lt
  obtain ⟨p1, p2, p3, p4, p5, p6, p7, p8⟩ := U1.pl
  have tk : ∀ o, Tk (upd H q (.tup [.int x, .int y])) (upd (upd H q (.tup [.int x, .int y])) a.p o) := fun o => Tk.upd fun vs e => by rw [U1.ins] at e; cases e
  exact ⟨upd_same, ⟨us, by rw [upd_ne p1.symm]; exact hus, dus.mono (tk _)⟩, tk _ _ _ U1.cs, by rw [upd_ne p2.symm]; exact U1.e0, by rw [upd_ne p3.symm]; exact U1.e1, tk _ _ _ upd_same, by rw [upd_ne p4.symm]; exact U1.rv, U.nd, U.nl⟩
theorem Tun.recd (U : Tun C a H S) {n : Int} : Tun C a (upd H a.rv (.lst (inz (S.rc ++ [n])))) { S with rc := S.rc ++ [n] } := by
  obtain ⟨us, hus, dus⟩ := U.lt
  obtain ⟨p1, p2, p3, p4, p5, p6, p7, p8⟩ := U.pl
  have tk : ∀ o, Tk H (upd H a.rv o) := fun o => Tk.lst U.rv
  exact ⟨by rw [upd_ne p4]; exact U.ins, ⟨us, by rw [upd_ne U.nl]; exact hus, dus.mono (tk _)⟩, tk _ _ _ U.cs, by rw [upd_ne p7.symm]; exact U.e0, by rw [upd_ne p8.symm]; exact U.e1, tk _ _ _ U.ts, upd_same, U.nd, U.nl⟩
theorem frm_in {H H' : Hp} {o : HO} {x : Addr} (f : Frm (ft a) H H') (hx : x ∈ ft a) : Frm (ft a) H (upd H' x o) := fun y u h n => by
  rw [upd_ne (fun e => n (by rw [e]; exact hx))]
  exact f y u h n
theorem frm_new {F : List Addr} {H H' : Hp} {o : HO} {x : Addr} (f : Frm F H H') (hx : H' x = none) : Frm F H (upd H' x o) := fun y u h n => by
  rw [upd_ne (ne_of_none (f y u h n) hx)]
  exact f y u h n
theorem w_tif {σ : L2.St} {H : Hp} {Q : VK} {c : TT} {ta tb : TE} (q : c σ H fun k H1 => if k = true then ta σ H1 Q else tb σ H1 Q) : tIf c ta tb σ H Q := q
theorem fld_step {K : PySem.W.Frag} {C p dx : Addr} {fs : List (Str × V)} {Hi : Hp} {f : Str} {v : V} {R : Hp → Prop} (ip : Hi p = some (.ins C dx fs)) (c : Cls K C) (n : NoAttr K C f) (l : fs.length < 1000) (q : ∀ Hj : Hp, Hj p = some (.ins C dx (putF f v fs)) → (∀ x, x ≠ p → Hj x = Hi x) → R Hj) : ∃ a C dx fs, V.ref p = .ref a ∧ Hi a = some (.ins C dx fs) ∧ Cls K C ∧ NoAttr K C f ∧ fs.length < 1000 ∧ R (upd Hi a (.ins C dx (putF f v fs))) := ⟨p, C, dx, fs, rfl, ip, c, n, l, q _ upd_same (fun x h => upd_ne h)⟩
theorem obj_step {Hi : Hp} {o : HO} {R : Hp → Prop} {x : Addr} (q : ∀ Hj : Hp, Hj x = some o → (∀ y, y ≠ x → Hj y = Hi y) → R Hj) : R (upd Hi x o) := q _ upd_same (fun y h => upd_ne h)
theorem renew_nw (S : TS) (e : Int) : (renew S e).nw = e := by unfold renew; split <;> rfl
theorem renew_win (S : TS) (e : Int) : (renew S e).win = S.win := by unfold renew; split <;> rfl
theorem renew_rc (S : TS) (e : Int) : (renew S e).rc = S.rc := by unfold renew; split <;> rfl
theorem renew_len (S : TS) (e : Int) (h0 : S.c0.length < 1000) : (renew S e).c0.length < 1000 ∧ (renew S e).c1.length < 1000 := by
  unfold renew
  split
  · exact ⟨by show 0 < 1000; decide, h0⟩
  · exact ⟨by show 0 < 1000; decide, by show 0 < 1000; decide⟩
end
section
variable {P : Program} {w : World} {K : PySem.W.Frag} {mg : Str → Option Value} {base : Heap}
theorem okTunnel___init__ (T : Top K mg) : FnOk P w K mg base CX0 3 T.fTunnel___init__ T.dTunnel___init__ ["self", "window", "first", "second"] (sp_init T.C_Tunnel) := by
  refine T.FTunnel___init__.ok scTunnel___init__ (fun vs H Q E h => ?_) (fun cdv A outer s H vs Q E hr h => ?_)
  · obtain ⟨p, dx, win, z1, z2, rfl, _⟩ := h
    rfl
  · obtain ⟨p, dx, win, z1, z2, rfl, hp, w1, w2, hz1, hz2, hne, q⟩ := h
    refine ⟨_, (pss_cons (ps_if (PW.pt (pw_or (pt_not (pt_chain op_le op_le pe_int (pv 1) (pe_glob (v := .int 64) (by rfl) T.c_WIDEST_WINDOW ⟨_, rfl⟩))) (pw_or (pt_cmpR op_eq (pv 2) (pv 3) (nomark _)) (pw_or (pt_not (pt_val (pe_call (okis_name T) hr (by rfl) T.gis_name T.Fis_name.kp T.bis_name .nil pass0 (pa_cons (pv 2) pa_nil)))) (pw_or1 (pt_not (pt_val (pe_call (okis_name T) hr (by rfl) T.gis_name T.Fis_name.kp T.bis_name .nil pass0 (pa_cons (pv 3) pa_nil)))))))))
    (pss_one ps_no)
    pss_nil)
    (pss_cons (ps_fld (pv 0) (pv 1) rfl)
     (pss_cons (ps_fld (pv 0) (pv 2) rfl)
      (pss_cons (ps_fld (pv 0) (pv 3) rfl)
       (pss_cons (ps_fld (pv 0) (pe_lst pa_nil) rfl)
        (pss_cons (ps_fld (pv 0) pe_int rfl)
         (pss_cons (ps_fld (pv 0) pe_int rfl)
          (pss_cons (ps_fld (pv 0) pe_int rfl)
           (pss_cons (ps_fld (pv 0) (pe_tup (pa_cons pe_dnewK (pa_cons pe_dnewK pa_nil))) rfl)
            (pss_cons (ps_fld (pv 0) (pe_tup (pa_cons (pe_un un_neg pe_int) (pa_cons (pe_un un_neg pe_int) pa_nil))) rfl)
             (pss_one (ps_fld (pv 0) (pe_lst pa_nil) rfl)))))))))))), ?_⟩
    have c := T.cl_Tunnel
    repeat walk_at "s"
    refine ite2 (fun h => ?_) (fun h => absurd (decide_eq_true w1) h)
    repeat walk_at "s"
    rw [decide_eq_true w2]
    refine iteF ?_
    repeat walk_at "s"
    rw [decide_eq_false hne]
    refine iteF ?_
    repeat walk_at "s"
    refine ⟨z1, rfl, hz1, fun H1 s1 => ?_⟩
    repeat walk_at "s"
    refine iteF ?_
    repeat walk_at "s"
    refine ⟨z2, rfl, hz2, fun H2 s2 => ?_⟩
    repeat walk_at "s"
    refine iteF ?_
    have hp2 := s2 _ _ (s1 _ _ hp)
    have s12 : ∀ x o, H x = some o → x ≠ p → H2 x = some o := fun x o h _ => s2 _ _ (s1 _ _ h)
    repeat walk_at "s"
    have r2 := s12
    have i2 := hp2
    refine fld_step i2 c T.n_Tunnel_window (by show 0 < 1000; decide) (fun H3 i3 k3 => ?_)
    have r3 : ∀ x o, H x = some o → x ≠ p → H3 x = some o := fun x o h n => (k3 x n).trans (r2 x o h n)
    repeat walk_at "s"
    refine fld_step i3 c T.n_Tunnel_first (by show 1 < 1000; decide) (fun H4 i4 k4 => ?_)
    have r4 : ∀ x o, H x = some o → x ≠ p → H4 x = some o := fun x o h n => (k4 x n).trans (r3 x o h n)
    repeat walk_at "s"
    refine fld_step i4 c T.n_Tunnel_second (by show 2 < 1000; decide) (fun H5 i5 k5 => ?_)
    have r5 : ∀ x o, H x = some o → x ≠ p → H5 x = some o := fun x o h n => (k5 x n).trans (r4 x o h n)
    repeat walk_at "s"
    refine ⟨by walk_at "len", fun lt h_lt => ?_⟩
    have np_lt : lt ≠ p := (ne_of_none i5 h_lt).symm
    have e6_lt : upd H5 lt (.lst []) lt = some (.lst []) := upd_same
    have k6 : ∀ y, y ≠ lt → upd H5 lt (.lst []) y = H5 y := fun y h => upd_ne h
    generalize upd H5 lt (.lst []) = H6 at e6_lt k6 ⊢
    have r6 : ∀ x o, H x = some o → x ≠ p → H6 x = some o := fun x o h n => (k6 x (ne_of_none (r5 x o h n) h_lt)).trans (r5 x o h n)
    have z_lt : H lt = none := (by cases ez : H lt with | none => rfl | some o => exact absurd (r5 _ o ez np_lt) (by rw [h_lt]; intro q; cases q))
    have i6 := (k6 _ np_lt.symm).trans i5
    repeat walk_at "s"
    refine fld_step i6 c T.n_Tunnel__letters (by show 3 < 1000; decide) (fun H7 i7 k7 => ?_)
    have r7 : ∀ x o, H x = some o → x ≠ p → H7 x = some o := fun x o h n => (k7 x n).trans (r6 x o h n)
    have e7_lt := (k7 _ np_lt).trans e6_lt
    repeat walk_at "s"
    refine fld_step i7 c T.n_Tunnel__epoch (by show 4 < 1000; decide) (fun H8 i8 k8 => ?_)
    have r8 : ∀ x o, H x = some o → x ≠ p → H8 x = some o := fun x o h n => (k8 x n).trans (r7 x o h n)
    have e8_lt := (k8 _ np_lt).trans e7_lt
    repeat walk_at "s"
    refine fld_step i8 c T.n_Tunnel__sent (by show 5 < 1000; decide) (fun H9 i9 k9 => ?_)
    have r9 : ∀ x o, H x = some o → x ≠ p → H9 x = some o := fun x o h n => (k9 x n).trans (r8 x o h n)
    have e9_lt := (k9 _ np_lt).trans e8_lt
    repeat walk_at "s"
    refine fld_step i9 c T.n_Tunnel__newest (by show 6 < 1000; decide) (fun H10 i10 k10 => ?_)
    have r10 : ∀ x o, H x = some o → x ≠ p → H10 x = some o := fun x o h n => (k10 x n).trans (r9 x o h n)
    have e10_lt := (k10 _ np_lt).trans e9_lt
    repeat walk_at "s"
    intro d0 h_d0
    have np_d0 : d0 ≠ p := (ne_of_none i10 h_d0).symm
    have n_lt_d0 : lt ≠ d0 := ne_of_none e10_lt h_d0
    have e11_d0 : upd H10 d0 (.dK []) d0 = some (.dK []) := upd_same
    have k11 : ∀ y, y ≠ d0 → upd H10 d0 (.dK []) y = H10 y := fun y h => upd_ne h
    generalize upd H10 d0 (.dK []) = H11 at e11_d0 k11 ⊢
    have r11 : ∀ x o, H x = some o → x ≠ p → H11 x = some o := fun x o h n => (k11 x (ne_of_none (r10 x o h n) h_d0)).trans (r10 x o h n)
    have z_d0 : H d0 = none := (by cases ez : H d0 with | none => rfl | some o => exact absurd (r10 _ o ez np_d0) (by rw [h_d0]; intro q; cases q))
    have i11 := (k11 _ np_d0.symm).trans i10
    have e11_lt := (k11 _ n_lt_d0).trans e10_lt
    repeat walk_at "s"
    intro d1 h_d1
    have np_d1 : d1 ≠ p := (ne_of_none i11 h_d1).symm
    have n_lt_d1 : lt ≠ d1 := ne_of_none e11_lt h_d1
    have n_d0_d1 : d0 ≠ d1 := ne_of_none e11_d0 h_d1
    have e12_d1 : upd H11 d1 (.dK []) d1 = some (.dK []) := upd_same
    have k12 : ∀ y, y ≠ d1 → upd H11 d1 (.dK []) y = H11 y := fun y h => upd_ne h
    generalize upd H11 d1 (.dK []) = H12 at e12_d1 k12 ⊢
    have r12 : ∀ x o, H x = some o → x ≠ p → H12 x = some o := fun x o h n => (k12 x (ne_of_none (r11 x o h n) h_d1)).trans (r11 x o h n)
    have z_d1 : H d1 = none := (by cases ez : H d1 with | none => rfl | some o => exact absurd (r11 _ o ez np_d1) (by rw [h_d1]; intro q; cases q))
    have i12 := (k12 _ np_d1.symm).trans i11
    have e12_lt := (k12 _ n_lt_d1).trans e11_lt
    have e12_d0 := (k12 _ n_d0_d1).trans e11_d0
    repeat walk_at "s"
    refine ⟨by walk_at "len", fun cs h_cs => ?_⟩
    have np_cs : cs ≠ p := (ne_of_none i12 h_cs).symm
    have n_lt_cs : lt ≠ cs := ne_of_none e12_lt h_cs
    have n_d0_cs : d0 ≠ cs := ne_of_none e12_d0 h_cs
    have n_d1_cs : d1 ≠ cs := ne_of_none e12_d1 h_cs
    have e13_cs : upd H12 cs (.tup [.ref d0, .ref d1]) cs = some (.tup [.ref d0, .ref d1]) := upd_same
    have k13 : ∀ y, y ≠ cs → upd H12 cs (.tup [.ref d0, .ref d1]) y = H12 y := fun y h => upd_ne h
    generalize upd H12 cs (.tup [.ref d0, .ref d1]) = H13 at e13_cs k13 ⊢
    have r13 : ∀ x o, H x = some o → x ≠ p → H13 x = some o := fun x o h n => (k13 x (ne_of_none (r12 x o h n) h_cs)).trans (r12 x o h n)
    have z_cs : H cs = none := (by cases ez : H cs with | none => rfl | some o => exact absurd (r12 _ o ez np_cs) (by rw [h_cs]; intro q; cases q))
    have i13 := (k13 _ np_cs.symm).trans i12
    have e13_lt := (k13 _ n_lt_cs).trans e12_lt
    have e13_d0 := (k13 _ n_d0_cs).trans e12_d0
    have e13_d1 := (k13 _ n_d1_cs).trans e12_d1
    repeat walk_at "s"
    refine fld_step i13 c T.n_Tunnel__counts (by show 7 < 1000; decide) (fun H14 i14 k14 => ?_)
    have r14 : ∀ x o, H x = some o → x ≠ p → H14 x = some o := fun x o h n => (k14 x n).trans (r13 x o h n)
    have e14_lt := (k14 _ np_lt).trans e13_lt
    have e14_d0 := (k14 _ np_d0).trans e13_d0
    have e14_d1 := (k14 _ np_d1).trans e13_d1
    have e14_cs := (k14 _ np_cs).trans e13_cs
    repeat walk_at "s"
    refine ⟨by walk_at "len", fun ts h_ts => ?_⟩
    have np_ts : ts ≠ p := (ne_of_none i14 h_ts).symm
    have n_lt_ts : lt ≠ ts := ne_of_none e14_lt h_ts
    have n_d0_ts : d0 ≠ ts := ne_of_none e14_d0 h_ts
    have n_d1_ts : d1 ≠ ts := ne_of_none e14_d1 h_ts
    have n_cs_ts : cs ≠ ts := ne_of_none e14_cs h_ts
    have e15_ts : upd H14 ts (.tup [.int (-1), .int (-1)]) ts = some (.tup [.int (-1), .int (-1)]) := upd_same
    have k15 : ∀ y, y ≠ ts → upd H14 ts (.tup [.int (-1), .int (-1)]) y = H14 y := fun y h => upd_ne h
    generalize upd H14 ts (.tup [.int (-1), .int (-1)]) = H15 at e15_ts k15 ⊢
    have r15 : ∀ x o, H x = some o → x ≠ p → H15 x = some o := fun x o h n => (k15 x (ne_of_none (r14 x o h n) h_ts)).trans (r14 x o h n)
    have z_ts : H ts = none := (by cases ez : H ts with | none => rfl | some o => exact absurd (r14 _ o ez np_ts) (by rw [h_ts]; intro q; cases q))
    have i15 := (k15 _ np_ts.symm).trans i14
    have e15_lt := (k15 _ n_lt_ts).trans e14_lt
    have e15_d0 := (k15 _ n_d0_ts).trans e14_d0
    have e15_d1 := (k15 _ n_d1_ts).trans e14_d1
    have e15_cs := (k15 _ n_cs_ts).trans e14_cs
    repeat walk_at "s"
    refine fld_step i15 c T.n_Tunnel__tops (by show 8 < 1000; decide) (fun H16 i16 k16 => ?_)
    have r16 : ∀ x o, H x = some o → x ≠ p → H16 x = some o := fun x o h n => (k16 x n).trans (r15 x o h n)
    have e16_lt := (k16 _ np_lt).trans e15_lt
    have e16_d0 := (k16 _ np_d0).trans e15_d0
    have e16_d1 := (k16 _ np_d1).trans e15_d1
    have e16_cs := (k16 _ np_cs).trans e15_cs
    have e16_ts := (k16 _ np_ts).trans e15_ts
    repeat walk_at "s"
    refine ⟨by walk_at "len", fun rv h_rv => ?_⟩
    have np_rv : rv ≠ p := (ne_of_none i16 h_rv).symm
    have n_lt_rv : lt ≠ rv := ne_of_none e16_lt h_rv
    have n_d0_rv : d0 ≠ rv := ne_of_none e16_d0 h_rv
    have n_d1_rv : d1 ≠ rv := ne_of_none e16_d1 h_rv
    have n_cs_rv : cs ≠ rv := ne_of_none e16_cs h_rv
    have n_ts_rv : ts ≠ rv := ne_of_none e16_ts h_rv
    have e17_rv : upd H16 rv (.lst []) rv = some (.lst []) := upd_same
    have k17 : ∀ y, y ≠ rv → upd H16 rv (.lst []) y = H16 y := fun y h => upd_ne h
    generalize upd H16 rv (.lst []) = H17 at e17_rv k17 ⊢
    have r17 : ∀ x o, H x = some o → x ≠ p → H17 x = some o := fun x o h n => (k17 x (ne_of_none (r16 x o h n) h_rv)).trans (r16 x o h n)
    have z_rv : H rv = none := (by cases ez : H rv with | none => rfl | some o => exact absurd (r16 _ o ez np_rv) (by rw [h_rv]; intro q; cases q))
    have i17 := (k17 _ np_rv.symm).trans i16
    have e17_lt := (k17 _ n_lt_rv).trans e16_lt
    have e17_d0 := (k17 _ n_d0_rv).trans e16_d0
    have e17_d1 := (k17 _ n_d1_rv).trans e16_d1
    have e17_cs := (k17 _ n_cs_rv).trans e16_cs
    have e17_ts := (k17 _ n_ts_rv).trans e16_ts
    repeat walk_at "s"
    refine fld_step i17 c T.n_Tunnel__received (by show 9 < 1000; decide) (fun H18 i18 k18 => ?_)
    have r18 : ∀ x o, H x = some o → x ≠ p → H18 x = some o := fun x o h n => (k18 x n).trans (r17 x o h n)
    have e18_lt := (k18 _ np_lt).trans e17_lt
    have e18_d0 := (k18 _ np_d0).trans e17_d0
    have e18_d1 := (k18 _ np_d1).trans e17_d1
    have e18_cs := (k18 _ np_cs).trans e17_cs
    have e18_ts := (k18 _ np_ts).trans e17_ts
    have e18_rv := (k18 _ np_rv).trans e17_rv
    refine q ⟨p, dx, lt, cs, d0, d1, ts, rv⟩ H18 rfl r18 (fun x hx => ?_) ⟨i18, ⟨[], e18_lt, .nil⟩, e18_cs, e18_d0, e18_d1, e18_ts, e18_rv, n_d0_d1, n_lt_rv⟩
    simp only [ft, List.mem_cons, List.not_mem_nil, or_false] at hx
    rcases hx with rfl | rfl | rfl | rfl | rfl
    · exact .inl rfl
    · exact .inr z_lt
    · exact .inr z_d0
    · exact .inr z_d1
    · exact .inr z_rv
theorem okTunnel__renew (T : Top K mg) : FnOk P w K mg base CX0 1 T.fTunnel__renew T.dTunnel__renew ["self", "epoch"] (sp_renew T.C_Tunnel) := by
  refine T.FTunnel__renew.ok scTunnel__renew (fun vs H Q E h => ?_) (fun cdv A outer s H vs Q E hr h => ?_)
  · obtain ⟨a, S, e, rfl, _⟩ := h
    rfl
  · obtain ⟨a, S, e, rfl, U, q⟩ := h
    refine ⟨_, (pss_cons (ps_if (pt_cmpR op_eq (pv 1) (pe_op op_add (pe_fld (pv 0) rfl) pe_int) (nomark _))
    (pss_cons (ps_fld (pv 0) (pe_tup (pa_cons pe_dnewK (pa_cons (pe_ix ix_tup (pe_fld (pv 0) rfl) pe_int (fun _ _ => rfl)) pa_nil))) rfl)
     (pss_one (ps_fld (pv 0) (pe_tup (pa_cons (pe_un un_neg pe_int) (pa_cons (pe_ix ix_tup (pe_fld (pv 0) rfl) pe_int (fun _ _ => rfl)) pa_nil))) rfl)))
    (pss_cons (ps_fld (pv 0) (pe_tup (pa_cons pe_dnewK (pa_cons pe_dnewK pa_nil))) rfl)
     (pss_one (ps_fld (pv 0) (pe_tup (pa_cons (pe_un un_neg pe_int) (pa_cons (pe_un un_neg pe_int) pa_nil))) rfl))))
    (pss_one (ps_fld (pv 0) (pv 1) rfl))), ?_⟩
    repeat walk_at "s"
    refine w_fldA U.ins T.cl_Tunnel T.n_Tunnel__newest (tf7 a S) ?_
    repeat walk_at "s"
    refine ite2 (fun h => ?_) (fun h => ?_)
    · have he := of_decide_eq_true h
      repeat walk_at "s"
      intro d0 hd0
      have s1 := sm_new (o := .dK []) hd0
      have e1 := upd_self2 hd0 (.dK [])
      generalize upd H d0 (.dK []) = H1 at s1 e1 ⊢
      have U1 := U.same s1
      repeat walk_at "s"
      refine w_fldA U1.ins T.cl_Tunnel T.n_Tunnel__counts (tf8 a S) ?_
      repeat walk_at "s"
      refine w_ixT (SqT.of U1.cs) (atI_nat (j := 0) rfl) ?_
      repeat walk_at "s"
      refine ⟨by walk_at "len", fun cs hcs => ?_⟩
      have s2 := sm_new (o := .tup [.ref d0, .ref a.d0]) hcs
      have e2 := upd_self2 hcs (.tup [.ref d0, .ref a.d0])
      generalize upd H1 cs (.tup [.ref d0, .ref a.d0]) = H2 at s2 e2 ⊢
      have U2 := U1.same s2
      repeat walk_at "s"
      refine fld_step U2.ins T.cl_Tunnel T.n_Tunnel__counts (tfs_len a S) (fun H3 i3 k3 => ?_)
      replace i3 : H3 a.p = some (.ins T.C_Tunnel a.dx (tfs { a with cs := cs, d0 := d0, d1 := a.d0 } S)) := i3
      have t3 : H3 a.ts = some (.tup [.int S.t0, .int S.t1]) := (k3 _ (ne_of U2.ts U2.ins (by intro z; cases z))).trans U2.ts
      repeat walk_at "s"
      refine w_fldA i3 T.cl_Tunnel T.n_Tunnel__tops (tf9 _ S) ?_
      repeat walk_at "s"
      refine ⟨by walk_at "len", fun ts hts => ?_⟩
      have s4 := sm_new (o := .tup [.int (-1), .int S.t0]) hts
      have e4 := upd_self2 hts (.tup [.int (-1), .int S.t0])
      generalize upd H3 ts (.tup [.int (-1), .int S.t0]) = H4 at s4 e4 ⊢
      repeat walk_at "s"
      refine fld_step (s4 _ _ i3) T.cl_Tunnel T.n_Tunnel__tops (tfs_len _ S) (fun H5 i5 k5 => ?_)
      replace i5 : H5 a.p = some (.ins T.C_Tunnel a.dx (tfs { a with cs := cs, d0 := d0, d1 := a.d0, ts := ts } S)) := i5
      repeat walk_at "s"
      refine fld_step i5 T.cl_Tunnel T.n_Tunnel__newest (tfs_len _ S) (fun H6 i6 k6 => ?_)
      have er : renew S e = { S with c0 := [], c1 := S.c0, t0 := -1, t1 := S.t0, nw := e } := by unfold renew; rw [if_pos he]
      have all : ∀ x o, H2 x = some o → x ≠ a.p → H6 x = some o := fun x o h n => (k6 x n).trans ((k5 x n).trans (s4 x o ((k3 x n).trans h)))
      obtain ⟨us, hus, dus⟩ := U2.lt
      obtain ⟨p1, p2, p3, p4, p5, p6, p7, p8⟩ := U2.pl
      have tk6 : Tk H2 H6 := fun x vs h => all x _ h (ne_of h U2.ins (by intro z; cases z))
      have hd0p : d0 ≠ a.p := (ne_of_none U.ins hd0).symm
      have htsp : ts ≠ a.p := (ne_of_none i3 hts).symm
      rw [er] at q
      refine q { a with cs := cs, d0 := d0, d1 := a.d0, ts := ts } H6 rfl (fun x o h n => all x o (s2 _ _ (s1 _ _ h)) (fun z => n (by rw [z]; simp [ft]))) (fun x hx => ?_) ⟨i6, ⟨us, all _ _ hus p1.symm, dus.mono tk6⟩, tk6 _ _ e2, all _ _ (s2 _ _ e1) hd0p, all _ _ U2.e0 p2.symm, (k6 _ htsp).trans ((k5 _ htsp).trans e4), all _ _ U2.rv p4.symm, (ne_of_none U.e0 hd0).symm, U.nl⟩
      simp only [ft, List.mem_cons, List.not_mem_nil, or_false] at hx
      rcases hx with rfl | rfl | rfl | rfl | rfl
      · exact .inl (by simp [ft])
      · exact .inl (by simp [ft])
      · exact .inr hd0
      · exact .inl (by simp [ft])
      · exact .inl (by simp [ft])
    · have he : ¬ e = S.nw + 1 := of_decide_eq_false (ofb h)
      repeat walk_at "s"
      intro d0 hd0
      have s1 := sm_new (o := .dK []) hd0
      have e1 := upd_self2 hd0 (.dK [])
      generalize upd H d0 (.dK []) = H1 at s1 e1 ⊢
      repeat walk_at "s"
      intro d1 hd1
      have s1b := sm_new (o := .dK []) hd1
      have e1b := upd_self2 hd1 (.dK [])
      generalize upd H1 d1 (.dK []) = H1b at s1b e1b ⊢
      repeat walk_at "s"
      refine ⟨by walk_at "len", fun cs hcs => ?_⟩
      have s2 := sm_new (o := .tup [.ref d0, .ref d1]) hcs
      have e2 := upd_self2 hcs (.tup [.ref d0, .ref d1])
      generalize upd H1b cs (.tup [.ref d0, .ref d1]) = H2 at s2 e2 ⊢
      have s12 := (s1.trans s1b).trans s2
      have U2 := U.same s12
      repeat walk_at "s"
      refine fld_step U2.ins T.cl_Tunnel T.n_Tunnel__counts (tfs_len a S) (fun H3 i3 k3 => ?_)
      replace i3 : H3 a.p = some (.ins T.C_Tunnel a.dx (tfs { a with cs := cs, d0 := d0, d1 := d1 } S)) := i3
      repeat walk_at "s"
      refine ⟨by walk_at "len", fun ts hts => ?_⟩
      have s4 := sm_new (o := .tup [.int (-1), .int (-1)]) hts
      have e4 := upd_self2 hts (.tup [.int (-1), .int (-1)])
      generalize upd H3 ts (.tup [.int (-1), .int (-1)]) = H4 at s4 e4 ⊢
      repeat walk_at "s"
      refine fld_step (s4 _ _ i3) T.cl_Tunnel T.n_Tunnel__tops (tfs_len _ S) (fun H5 i5 k5 => ?_)
      replace i5 : H5 a.p = some (.ins T.C_Tunnel a.dx (tfs { a with cs := cs, d0 := d0, d1 := d1, ts := ts } S)) := i5
      repeat walk_at "s"
      refine fld_step i5 T.cl_Tunnel T.n_Tunnel__newest (tfs_len _ S) (fun H6 i6 k6 => ?_)
      have er : renew S e = { S with c0 := [], c1 := [], t0 := -1, t1 := -1, nw := e } := by unfold renew; rw [if_neg he]
      have all : ∀ x o, H2 x = some o → x ≠ a.p → H6 x = some o := fun x o h n => (k6 x n).trans ((k5 x n).trans (s4 x o ((k3 x n).trans h)))
      obtain ⟨us, hus, dus⟩ := U2.lt
      obtain ⟨p1, p2, p3, p4, p5, p6, p7, p8⟩ := U2.pl
      have tk6 : Tk H2 H6 := fun x vs h => all x _ h (ne_of h U2.ins (by intro z; cases z))
      have hd0p : d0 ≠ a.p := (ne_of_none U.ins hd0).symm
      have hd1p : d1 ≠ a.p := (ne_of_none (s1 _ _ U.ins) hd1).symm
      have htsp : ts ≠ a.p := (ne_of_none i3 hts).symm
      rw [er] at q
      refine q { a with cs := cs, d0 := d0, d1 := d1, ts := ts } H6 rfl (fun x o h n => all x o (s12 _ _ h) (fun z => n (by rw [z]; simp [ft]))) (fun x hx => ?_) ⟨i6, ⟨us, all _ _ hus p1.symm, dus.mono tk6⟩, tk6 _ _ e2, all _ _ (s2 _ _ (s1b _ _ e1)) hd0p, all _ _ (s2 _ _ e1b) hd1p, (k6 _ htsp).trans ((k5 _ htsp).trans e4), all _ _ U2.rv p4.symm, ne_of_none e1 hd1, U.nl⟩
      simp only [ft, List.mem_cons, List.not_mem_nil, or_false] at hx
      rcases hx with rfl | rfl | rfl | rfl | rfl
      · exact .inl (by simp [ft])
      · exact .inl (by simp [ft])
      · exact .inr hd0
      · exact .inr (s1.free hd1)
      · exact .inl (by simp [ft])
theorem okTunnel__judged (T : Top K mg) : FnOk P w K mg base CX0 1 T.fTunnel__judged T.dTunnel__judged ["self", "back", "number", "count"] (sp_judged T.C_Tunnel) := by
  refine T.FTunnel__judged.ok scTunnel__judged (fun vs H Q E h => ?_) (fun cdv A outer s H vs Q E hr h => ?_)
  · obtain ⟨a, S, back, n, c, rfl, _⟩ := h
    rfl
  · obtain ⟨a, S, back, n, c, rfl, U, hb, l0, l1, lr, q⟩ := h
    have hu := hu_of hr
    refine ⟨_, (pss_cons (ps_set (i := 4) scTunnel__judged.nd rfl (Or.inl rfl) (pe_ix ix_tup (pe_fld (pv 0) rfl) (pv 1) (fun _ _ => rfl)))
    (pss_cons (ps_if (pt_cmpR op_le (pv 3) (pe_op op_sub (pv 4) (pe_fld (pv 0) rfl)) (nomark _))
     (pss_one (ps_ret pe_str))
     pss_nil)
     (pss_cons (ps_if (pt_cmp (pc_din hu (pv 3) (pe_ix ix_tup (pe_fld (pv 0) rfl) (pv 1) (fun _ _ => rfl))))
      (pss_one (ps_ret pe_str))
      pss_nil)
      (pss_cons (ps_dput hu (pe_ix ix_tup (pe_fld (pv 0) rfl) (pv 1) (fun _ _ => rfl)) (pv 3) pe_bl rfl)
       (pss_cons (ps_if (pt_cmpR op_gt (pv 3) (pv 4) (nomark _))
        (pss_one (ps_fld (pv 0) (pe_ifExp (pt_cmpR op_eq (pv 1) pe_int (nomark _)) (pe_tup (pa_cons (pv 3) (pa_cons (pe_ix ix_tup (pe_fld (pv 0) rfl) pe_int (fun _ _ => rfl)) pa_nil))) (pe_tup (pa_cons (pe_ix ix_tup (pe_fld (pv 0) rfl) pe_int (fun _ _ => rfl)) (pa_cons (pv 3) pa_nil)))) rfl))
        pss_nil)
        (pss_cons (ps_expr (pe_bm PySem.F.plainAttrs_list PySem.F.slot_list_append PySem.F.type_list_append mt_append (pe_fld (pv 0) rfl) (pa_cons (pv 2) pa_nil)))
         (pss_one (ps_ret pe_str)))))))), ?_⟩
    repeat walk_at "s"
    refine w_fldA U.ins T.cl_Tunnel T.n_Tunnel__tops (tf9 a S) ?_
    repeat walk_at "s"
    obtain rfl | rfl : back = 0 ∨ back = 1 := by omega
    · refine w_ixT (SqT.of U.ts) (atI_nat (j := 0) rfl) ?_
      repeat walk_at "s"
      refine w_fldA U.ins T.cl_Tunnel T.n_Tunnel_window (tf1 a S) ?_
      repeat walk_at "s"
      refine ite2 (fun h => ?_) (fun h1 => ?_)
      · have ej : jdg S 0 n c = (("late" : Str), S) := by unfold jdg; rw [if_pos rfl, if_pos (of_decide_eq_true h)]
        have qq := q a H rfl (Frm.same (Same.refl H)) (Own.refl _ _)
        rw [ej] at qq
        repeat walk_at "s"
        exact qq U
      · have hl : ¬ c ≤ S.t0 - S.win := of_decide_eq_false (ofb h1)
        repeat walk_at "s"
        refine w_fldA U.ins T.cl_Tunnel T.n_Tunnel__counts (tf8 a S) ?_
        repeat walk_at "s"
        refine w_ixT (SqT.of U.cs) (atI_nat (j := 0) rfl) ?_
        refine w_dgoI U.e0 (o := _) rfl ?_
        rw [kz_val]
        repeat walk_at "s"
        refine ite2 (fun h => ?_) (fun h2 => ?_)
        · have ej : jdg S 0 n c = (("again" : Str), S) := by unfold jdg; rw [if_pos rfl, if_neg hl, if_pos (of_decide_eq_true h)]
          have qq := q a H rfl (Frm.same (Same.refl H)) (Own.refl _ _)
          rw [ej] at qq
          repeat walk_at "s"
          exact qq U
        · have hc : ¬ c ∈ S.c0 := of_decide_eq_false (ofb h2)
          have ej : jdg S 0 n c = (("taken" : Str), { S with c0 := S.c0 ++ [c], t0 := if c > S.t0 then c else S.t0, rc := S.rc ++ [(n : Int)] }) := by unfold jdg; rw [if_pos rfl, if_neg hl, if_neg hc]
          rw [ej] at q
          repeat walk_at "s"
          refine w_fldA U.ins T.cl_Tunnel T.n_Tunnel__counts (tf8 a S) ?_
          repeat walk_at "s"
          refine w_ixT (SqT.of U.cs) (atI_nat (j := 0) rfl) ?_
          repeat walk_at "s"
          refine w_dpI U.e0 (by unfold kz; rw [List.length_map]; exact big99 (by omega)) ?_
          rw [kz_put _ _ hc]
          have U1 := U.put0 (c := c)
          have f1 : Frm (ft a) H (upd H a.d0 (.dK (kz (S.c0 ++ [c])))) := frm_in (Frm.same (Same.refl H)) (by simp [ft])
          generalize upd H a.d0 (.dK (kz (S.c0 ++ [c]))) = H1 at U1 f1 ⊢
          repeat walk_at "s"
          refine ite2 (fun h => ?_) (fun h3 => ?_)
          · have ht : c > S.t0 := of_decide_eq_true h
            rw [if_pos ht] at q
            repeat walk_at "s"
            refine w_tif ?_
            repeat walk_at "s"
            refine w_it (by decide) ?_
            repeat walk_at "s"
            refine w_fldA U1.ins T.cl_Tunnel T.n_Tunnel__tops (tf9 a _) ?_
            repeat walk_at "s"
            refine w_ixT (SqT.of U1.ts) (atI_nat (j := 1) rfl) ?_
            repeat walk_at "s"
            refine ⟨by walk_at "len", fun ts hts => ?_⟩
            have U2 := U1.tops (q := ts) (x := c) (y := S.t1) hts
            have f2 := frm_p (o := .ins T.C_Tunnel a.dx (tfs { a with ts := ts } { S with c0 := S.c0 ++ [c], t0 := c, t1 := S.t1 })) (frm_new (o := .tup [.int c, .int S.t1]) f1 hts)
            repeat walk_at "s"
            refine ⟨a.p, _, _, _, rfl, by rw [upd_ne (ne_of_none U1.ins hts)]; exact U1.ins, T.cl_Tunnel, T.n_Tunnel__tops, tfs_len a _, ?_⟩
            have ep : putF (Str.ofString "_tops") (V.ref ts) (tfs a { S with c0 := S.c0 ++ [c] }) = tfs { a with ts := ts } { S with c0 := S.c0 ++ [c], t0 := c, t1 := S.t1 } := rfl
            rw [ep]
            generalize upd (upd H1 ts (.tup [.int c, .int S.t1])) a.p (.ins T.C_Tunnel a.dx (tfs { a with ts := ts } { S with c0 := S.c0 ++ [c], t0 := c, t1 := S.t1 })) = H2 at U2 f2 ⊢
            repeat walk_at "s"
            refine w_fldA U2.ins T.cl_Tunnel T.n_Tunnel__received (tf10 _ _) ?_
            refine w_tyl U2.rv ?_
            repeat walk_at "s"
            refine w_append U2.rv (by rw [inz_len]; exact big99 (by show S.rc.length ≤ _; omega)) ?_
            have U3 := U2.recd (n := (n : Int))
            have f3 := frm_in (o := .lst (inz (S.rc ++ [(n : Int)]))) (x := a.rv) f2 (by simp [ft])
            have ez : inz S.rc ++ [V.int (n : Int)] = inz (S.rc ++ [(n : Int)]) := by rw [inz_app]; rfl
            rw [ez]
            repeat walk_at "s"
            exact q { a with ts := ts } _ rfl f3 (Own.refl _ _) U3
          · have ht : ¬ c > S.t0 := of_decide_eq_false (ofb h3)
            rw [if_neg ht] at q
            repeat walk_at "s"
            refine w_fldA U1.ins T.cl_Tunnel T.n_Tunnel__received (tf10 a _) ?_
            refine w_tyl U1.rv ?_
            repeat walk_at "s"
            refine w_append U1.rv (by rw [inz_len]; exact big99 (by show S.rc.length ≤ _; omega)) ?_
            have U2 := U1.recd (n := (n : Int))
            have f2 := frm_in (o := .lst (inz (S.rc ++ [(n : Int)]))) (x := a.rv) f1 (by simp [ft])
            have ez : inz S.rc ++ [V.int (n : Int)] = inz (S.rc ++ [(n : Int)]) := by rw [inz_app]; rfl
            rw [ez]
            repeat walk_at "s"
            exact q a _ rfl f2 (Own.refl _ _) U2
    · refine w_ixT (SqT.of U.ts) (atI_nat (j := 1) rfl) ?_
      repeat walk_at "s"
      refine w_fldA U.ins T.cl_Tunnel T.n_Tunnel_window (tf1 a S) ?_
      repeat walk_at "s"
      refine ite2 (fun h => ?_) (fun h1 => ?_)
      · have ej : jdg S 1 n c = (("late" : Str), S) := by unfold jdg; rw [if_neg (by decide), if_pos (of_decide_eq_true h)]
        have qq := q a H rfl (Frm.same (Same.refl H)) (Own.refl _ _)
        rw [ej] at qq
        repeat walk_at "s"
        exact qq U
      · have hl : ¬ c ≤ S.t1 - S.win := of_decide_eq_false (ofb h1)
        repeat walk_at "s"
        refine w_fldA U.ins T.cl_Tunnel T.n_Tunnel__counts (tf8 a S) ?_
        repeat walk_at "s"
        refine w_ixT (SqT.of U.cs) (atI_nat (j := 1) rfl) ?_
        refine w_dgoI U.e1 (o := _) rfl ?_
        rw [kz_val]
        repeat walk_at "s"
        refine ite2 (fun h => ?_) (fun h2 => ?_)
        · have ej : jdg S 1 n c = (("again" : Str), S) := by unfold jdg; rw [if_neg (by decide), if_neg hl, if_pos (of_decide_eq_true h)]
          have qq := q a H rfl (Frm.same (Same.refl H)) (Own.refl _ _)
          rw [ej] at qq
          repeat walk_at "s"
          exact qq U
        · have hc : ¬ c ∈ S.c1 := of_decide_eq_false (ofb h2)
          have ej : jdg S 1 n c = (("taken" : Str), { S with c1 := S.c1 ++ [c], t1 := if c > S.t1 then c else S.t1, rc := S.rc ++ [(n : Int)] }) := by unfold jdg; rw [if_neg (by decide), if_neg hl, if_neg hc]
          rw [ej] at q
          repeat walk_at "s"
          refine w_fldA U.ins T.cl_Tunnel T.n_Tunnel__counts (tf8 a S) ?_
          repeat walk_at "s"
          refine w_ixT (SqT.of U.cs) (atI_nat (j := 1) rfl) ?_
          repeat walk_at "s"
          refine w_dpI U.e1 (by unfold kz; rw [List.length_map]; exact big99 (by omega)) ?_
          rw [kz_put _ _ hc]
          have U1 := U.put1 (c := c)
          have f1 : Frm (ft a) H (upd H a.d1 (.dK (kz (S.c1 ++ [c])))) := frm_in (Frm.same (Same.refl H)) (by simp [ft])
          generalize upd H a.d1 (.dK (kz (S.c1 ++ [c]))) = H1 at U1 f1 ⊢
          repeat walk_at "s"
          refine ite2 (fun h => ?_) (fun h3 => ?_)
          · have ht : c > S.t1 := of_decide_eq_true h
            rw [if_pos ht] at q
            repeat walk_at "s"
            refine w_tif ?_
            repeat walk_at "s"
            refine w_if (by decide) ?_
            repeat walk_at "s"
            refine w_fldA U1.ins T.cl_Tunnel T.n_Tunnel__tops (tf9 a _) ?_
            repeat walk_at "s"
            refine w_ixT (SqT.of U1.ts) (atI_nat (j := 0) rfl) ?_
            repeat walk_at "s"
            refine ⟨by walk_at "len", fun ts hts => ?_⟩
            have U2 := U1.tops (q := ts) (x := S.t0) (y := c) hts
            have f2 := frm_p (o := .ins T.C_Tunnel a.dx (tfs { a with ts := ts } { S with c1 := S.c1 ++ [c], t0 := S.t0, t1 := c })) (frm_new (o := .tup [.int S.t0, .int c]) f1 hts)
            repeat walk_at "s"
            refine ⟨a.p, _, _, _, rfl, by rw [upd_ne (ne_of_none U1.ins hts)]; exact U1.ins, T.cl_Tunnel, T.n_Tunnel__tops, tfs_len a _, ?_⟩
            have ep : putF (Str.ofString "_tops") (V.ref ts) (tfs a { S with c1 := S.c1 ++ [c] }) = tfs { a with ts := ts } { S with c1 := S.c1 ++ [c], t0 := S.t0, t1 := c } := rfl
            rw [ep]
            generalize upd (upd H1 ts (.tup [.int S.t0, .int c])) a.p (.ins T.C_Tunnel a.dx (tfs { a with ts := ts } { S with c1 := S.c1 ++ [c], t0 := S.t0, t1 := c })) = H2 at U2 f2 ⊢
            repeat walk_at "s"
            refine w_fldA U2.ins T.cl_Tunnel T.n_Tunnel__received (tf10 _ _) ?_
            refine w_tyl U2.rv ?_
            repeat walk_at "s"
            refine w_append U2.rv (by rw [inz_len]; exact big99 (by show S.rc.length ≤ _; omega)) ?_
            have U3 := U2.recd (n := (n : Int))
            have f3 := frm_in (o := .lst (inz (S.rc ++ [(n : Int)]))) (x := a.rv) f2 (by simp [ft])
            have ez : inz S.rc ++ [V.int (n : Int)] = inz (S.rc ++ [(n : Int)]) := by rw [inz_app]; rfl
            rw [ez]
            repeat walk_at "s"
            exact q { a with ts := ts } _ rfl f3 (Own.refl _ _) U3
          · have ht : ¬ c > S.t1 := of_decide_eq_false (ofb h3)
            rw [if_neg ht] at q
            repeat walk_at "s"
            refine w_fldA U1.ins T.cl_Tunnel T.n_Tunnel__received (tf10 a _) ?_
            refine w_tyl U1.rv ?_
            repeat walk_at "s"
            refine w_append U1.rv (by rw [inz_len]; exact big99 (by show S.rc.length ≤ _; omega)) ?_
            have U2 := U1.recd (n := (n : Int))
            have f2 := frm_in (o := .lst (inz (S.rc ++ [(n : Int)]))) (x := a.rv) f1 (by simp [ft])
            have ez : inz S.rc ++ [V.int (n : Int)] = inz (S.rc ++ [(n : Int)]) := by rw [inz_app]; rfl
            rw [ez]
            repeat walk_at "s"
            exact q a _ rfl f2 (Own.refl _ _) U2
theorem okTunnel_deliver (T : Top K mg) : FnOk P w K mg base CX0 2 T.fTunnel_deliver T.dTunnel_deliver ["self", "number"] (sp_deliver T.C_Tunnel) := by
  refine T.FTunnel_deliver.ok scTunnel_deliver (fun vs H Q E h => ?_) (fun cdv A outer s H vs Q E hr h => ?_)
  · obtain ⟨a, S, n, x, rfl, _⟩ := h
    rfl
  · obtain ⟨a, S, n, x, rfl, U, hn, l0, l1, lr, q⟩ := h
    refine ⟨_, (pss_cons (ps_asg (pe_meth (pv 0) T.cl_Tunnel T.mTunnel_letter (okTunnel_letter T) hr T.bTunnel_letter .nil pass0 (pa_cons (pv 1) pa_nil)) (pg_tup (by rfl) (pgs_cons (pg_name (i := 2) scTunnel_deliver.nd rfl (Or.inl rfl)) (pgs_cons (pg_name (i := 3) scTunnel_deliver.nd rfl (Or.inl rfl)) (pgs_cons (pg_name (i := 4) scTunnel_deliver.nd rfl (Or.inl rfl)) pgs_nil)))))
    (pss_cons (ps_if (pt_cmpR op_lt (pv 2) (pe_op op_sub (pe_fld (pv 0) rfl) pe_int) (nomark _))
     (pss_one (ps_ret pe_str))
     pss_nil)
     (pss_cons (ps_if (pt_cmpR op_gt (pv 2) (pe_fld (pv 0) rfl) (nomark _))
      (pss_one (ps_expr (pe_meth (pv 0) T.cl_Tunnel T.mTunnel__renew (okTunnel__renew T) hr T.bTunnel__renew .nil pass0 (pa_cons (pv 2) pa_nil))))
      pss_nil)
      (pss_one (ps_ret (pe_meth (pv 0) T.cl_Tunnel T.mTunnel__judged (okTunnel__judged T) hr T.bTunnel__judged .nil pass0 (pa_cons (pe_op op_sub (pe_fld (pv 0) rfl) (pv 2)) (pa_cons (pv 1) (pa_cons (pv 3) pa_nil))))))))), ?_⟩
    repeat walk_at "s"
    refine ⟨a.p, _, _, rfl, U.ins, tn1 a S, ?_⟩
    repeat walk_at "s"
    refine ⟨a, S, n, x, rfl, U, hn, fun v hv => ?_⟩
    refine w_gtup (SqT.of hv) rfl ?_
    repeat walk_at "s"
    refine w_fldA U.ins T.cl_Tunnel T.n_Tunnel__newest (tf7 a S) ?_
    repeat walk_at "s"
    refine ite2 (fun h => ?_) (fun h1 => ?_)
    · have ej : dlv S n x.1 x.2.1 = (("old" : Str), S) := by unfold dlv; rw [if_pos (of_decide_eq_true h)]
      have qq := q a H rfl (Frm.same (Same.refl H)) (Own.refl _ _)
      rw [ej] at qq
      repeat walk_at "s"
      exact qq U
    · have ho : ¬ x.1 < S.nw - 1 := of_decide_eq_false (ofb h1)
      repeat walk_at "s"
      refine w_fldA U.ins T.cl_Tunnel T.n_Tunnel__newest (tf7 a S) ?_
      repeat walk_at "s"
      refine ite2 (fun h => ?_) (fun h2 => ?_)
      · have hn' : x.1 > S.nw := of_decide_eq_true h
        have ej : dlv S n x.1 x.2.1 = jdg (renew S x.1) 0 n x.2.1 := by unfold dlv; rw [if_neg ho, if_pos hn']
        repeat walk_at "s"
        refine ⟨a.p, _, _, rfl, U.ins, tn2 a S, ?_⟩
        repeat walk_at "s"
        refine ⟨a, S, x.1, rfl, U, fun a1 H1 hp1 f1 o1 U1 => ?_⟩
        have ip : H1 a.p = some (.ins T.C_Tunnel a1.dx (tfs a1 (renew S x.1))) := by rw [← hp1]; exact U1.ins
        repeat walk_at "s"
        refine ⟨a.p, _, _, rfl, ip, tn3 a1 _, ?_⟩
        repeat walk_at "s"
        refine w_fldA ip T.cl_Tunnel T.n_Tunnel__newest (tf7 a1 _) ?_
        repeat walk_at "s"
        rw [renew_nw]
        obtain ⟨g0, g1⟩ := renew_len S x.1 l0
        refine ⟨a1, renew S x.1, 0, n, x.2.1, by rw [hp1, Int.sub_self]; rfl, U1, by decide, g0, g1, by rw [renew_rc]; exact lr, fun a2 H2 hp2 f2 o2 U2 => ?_⟩
        have qq := q a2 H2 (hp2.trans hp1) (f1.trans f2 o1) (o1.trans f1 o2)
        rw [ej] at qq
        exact qq U2
      · have hn' : ¬ x.1 > S.nw := of_decide_eq_false (ofb h2)
        have ej : dlv S n x.1 x.2.1 = jdg S (S.nw - x.1).toNat n x.2.1 := by unfold dlv; rw [if_neg ho, if_neg hn']
        repeat walk_at "s"
        refine ⟨a.p, _, _, rfl, U.ins, tn3 a S, ?_⟩
        repeat walk_at "s"
        refine w_fldA U.ins T.cl_Tunnel T.n_Tunnel__newest (tf7 a S) ?_
        repeat walk_at "s"
        refine ⟨a, S, (S.nw - x.1).toNat, n, x.2.1, by rw [show (((S.nw - x.1).toNat : Nat) : Int) = S.nw - x.1 by omega]; rfl, U, by omega, l0, l1, lr, fun a2 H2 hp2 f2 o2 U2 => ?_⟩
        have qq := q a2 H2 hp2 f2 o2
        rw [ej] at qq
        exact qq U2
end

/-! ### the words of deliveries -/
abbrev Ev := Int × Int
def IsNew (nw : Int) (P : Ev → Prop) : Prop := 0 ≤ nw ∧ (∀ x, P x → x.1 ≤ nw) ∧ (nw = 0 ∨ ∃ x, P x ∧ x.1 = nw)
def IsTop (tp e : Int) (P : Ev → Prop) : Prop := (∀ c, P (e, c) → c ≤ tp) ∧ (tp = -1 ∨ P (e, tp))
theorem IsNew.uniq {n m : Int} {P : Ev → Prop} (h : IsNew n P) (g : IsNew m P) : n = m := by
  obtain ⟨h0, h1, h2⟩ := h
  obtain ⟨g0, g1, g2⟩ := g
  have a : n ≤ m := by
    rcases h2 with rfl | ⟨x, hx, rfl⟩
    · exact g0
    · exact g1 x hx
  have b : m ≤ n := by
    rcases g2 with rfl | ⟨x, hx, rfl⟩
    · exact h0
    · exact h1 x hx
  omega
theorem IsTop.uniq {s t e : Int} {P : Ev → Prop} (h : IsTop s e P) (g : IsTop t e P) (nn : ∀ x, P x → 0 ≤ x.2) : s = t := by
  obtain ⟨h1, h2⟩ := h
  obtain ⟨g1, g2⟩ := g
  rcases h2 with rfl | h2
  · rcases g2 with rfl | g2
    · rfl
    · have := h1 _ g2
      have := nn _ g2
      have : (0 : Int) ≤ t := this
      omega
  · have := g1 _ h2
    rcases g2 with rfl | g2
    · have := nn _ h2
      have : (0 : Int) ≤ s := this
      omega
    · have := h1 _ g2
      omega
/-- what the tunnel knows of the events P -/
structure Ic (S : TS) (P : Ev → Prop) : Prop where
  t0 : IsTop S.t0 S.nw P
  t1 : IsTop S.t1 (S.nw - 1) P
  c0 : ∀ c, c > S.t0 - S.win → (c ∈ S.c0 ↔ P (S.nw, c))
  c1 : ∀ c, c > S.t1 - S.win → (c ∈ S.c1 ↔ P (S.nw - 1, c))
open Classical in
noncomputable def wd (win nw tp e c : Int) (p : Prop) : Str := if e < nw - 1 then "old" else if c ≤ tp - win then "late" else if p then "again" else "taken"
def Add (P : Ev → Prop) (e c : Int) : Ev → Prop := fun x => P x ∨ x = (e, c)
theorem add_ne {P : Ev → Prop} {e c e' c' : Int} (h : e' ≠ e) : Add P e c (e', c') ↔ P (e', c') := ⟨fun q => q.elim id fun z => absurd (congrArg Prod.fst z) h, .inl⟩
theorem add_ne2 {P : Ev → Prop} {e c e' c' : Int} (h : c' ≠ c) : Add P e c (e', c') ↔ P (e', c') := ⟨fun q => q.elim id fun z => absurd (congrArg Prod.snd z) h, .inl⟩
theorem add_in {P : Ev → Prop} {e c : Int} (h : P (e, c)) (x : Ev) : Add P e c x ↔ P x := ⟨fun q => q.elim id fun z => z ▸ h, .inl⟩
theorem top_other {P : Ev → Prop} {t e e' c : Int} (h : IsTop t e' P) (n : e' ≠ e) : IsTop t e' (Add P e c) := ⟨fun c' q => h.1 c' ((add_ne n).mp q), h.2.imp id .inl⟩
theorem top_late {P : Ev → Prop} {t e c : Int} (h : IsTop t e P) (n : c ≤ t) (c0 : 0 ≤ c) : IsTop t e (Add P e c) := ⟨fun c' q => q.elim (h.1 c') fun z => by have := congrArg Prod.snd z; have : c' = c := this; omega, h.2.imp id .inl⟩
theorem top_max {P : Ev → Prop} {t e c : Int} (h : IsTop t e P) : IsTop (if c > t then c else t) e (Add P e c) := by
  by_cases hc : c > t
  · rw [if_pos hc]
    exact ⟨fun c' q => q.elim (fun z => by have := h.1 c' z; omega) fun z => by have := congrArg Prod.snd z; have : c' = c := this; omega, .inr (.inr rfl)⟩
  · rw [if_neg hc]
    exact ⟨fun c' q => q.elim (h.1 c') fun z => by have := congrArg Prod.snd z; have : c' = c := this; omega, h.2.imp id .inl⟩
theorem top_same {P : Ev → Prop} {t e e' c : Int} (h : IsTop t e' P) (n : P (e, c)) : IsTop t e' (Add P e c) := ⟨fun c' q => h.1 c' ((add_in n _).mp q), h.2.imp id .inl⟩
theorem jdg_ok {S : TS} {P : Ev → Prop} (I : Ic S P) (hw : 1 ≤ S.win) (back n : Nat) (hb : back ≤ 1) (c : Int) (hc : 0 ≤ c) {tp : Int} (ht : IsTop tp (S.nw - back) P) (nn : ∀ x, P x → 0 ≤ x.2) :
    (jdg S back n c).1 = wd S.win S.nw tp (S.nw - back) c (P (S.nw - back, c)) ∧ Ic (jdg S back n c).2 (Add P (S.nw - back) c) ∧ (jdg S back n c).2.nw = S.nw := by
  have old : ¬ S.nw - (back : Int) < S.nw - 1 := by omega
  obtain rfl | rfl : back = 0 ∨ back = 1 := by omega
  · have e0 : S.nw - ((0 : Nat) : Int) = S.nw := by omega
    rw [e0] at ht old ⊢
    have := ht.uniq I.t0 nn
    subst this
    have n1 : S.nw - 1 ≠ S.nw := by omega
    unfold jdg wd
    rw [if_pos rfl, if_neg old]
    by_cases h1 : c ≤ S.t0 - S.win
    · rw [if_pos h1, if_pos h1]
      dsimp only
      refine ⟨rfl, ⟨top_late I.t0 (by omega) hc, top_other I.t1 n1, fun c' h => ?_, fun c' h => ?_⟩, rfl⟩
      · rw [add_ne2 (by show c' ≠ c; omega)]; exact I.c0 c' h
      · rw [add_ne n1]; exact I.c1 c' h
    · rw [if_neg h1, if_neg h1]
      have hm := I.c0 c (by omega)
      by_cases h2 : c ∈ S.c0
      · have hp := hm.mp h2
        rw [if_pos h2, if_pos hp]
        dsimp only
        refine ⟨rfl, ⟨top_same I.t0 hp, top_same I.t1 hp, fun c' h => ?_, fun c' h => ?_⟩, rfl⟩
        · rw [add_in hp]; exact I.c0 c' h
        · rw [add_in hp]; exact I.c1 c' h
      · have hp : ¬ P (S.nw, c) := fun q => h2 (hm.mpr q)
        rw [if_neg h2, if_neg hp]
        refine ⟨rfl, ⟨top_max I.t0, top_other I.t1 n1, fun c' h => ?_, fun c' h => ?_⟩, rfl⟩
        · have h' : c' > (if c > S.t0 then c else S.t0) - S.win := h
          have h'' : c' > S.t0 - S.win := by
            split at h' <;> omega
          show c' ∈ S.c0 ++ [c] ↔ P (S.nw, c') ∨ (S.nw, c') = (S.nw, c)
          rw [List.mem_append, List.mem_singleton, I.c0 c' h'']
          constructor
          · rintro (q | rfl)
            · exact .inl q
            · exact .inr rfl
          · rintro (q | q)
            · exact .inl q
            · exact .inr (congrArg Prod.snd q)
        · show c' ∈ S.c1 ↔ Add P S.nw c (S.nw - 1, c')
          rw [add_ne n1]; exact I.c1 c' h
  · have e0 : S.nw - ((1 : Nat) : Int) = S.nw - 1 := by omega
    rw [e0] at ht old ⊢
    have := ht.uniq I.t1 nn
    subst this
    have n1 : S.nw ≠ S.nw - 1 := by omega
    unfold jdg wd
    rw [if_neg (show ¬ 1 = 0 by decide), if_neg old]
    by_cases h1 : c ≤ S.t1 - S.win
    · rw [if_pos h1, if_pos h1]
      dsimp only
      refine ⟨rfl, ⟨top_other I.t0 n1, top_late I.t1 (by omega) hc, fun c' h => ?_, fun c' h => ?_⟩, rfl⟩
      · rw [add_ne n1]; exact I.c0 c' h
      · rw [add_ne2 (by show c' ≠ c; omega)]; exact I.c1 c' h
    · rw [if_neg h1, if_neg h1]
      have hm := I.c1 c (by omega)
      by_cases h2 : c ∈ S.c1
      · have hp := hm.mp h2
        rw [if_pos h2, if_pos hp]
        dsimp only
        refine ⟨rfl, ⟨top_same I.t0 hp, top_same I.t1 hp, fun c' h => ?_, fun c' h => ?_⟩, rfl⟩
        · rw [add_in hp]; exact I.c0 c' h
        · rw [add_in hp]; exact I.c1 c' h
      · have hp : ¬ P (S.nw - 1, c) := fun q => h2 (hm.mpr q)
        rw [if_neg h2, if_neg hp]
        refine ⟨rfl, ⟨top_other I.t0 n1, top_max I.t1, fun c' h => ?_, fun c' h => ?_⟩, rfl⟩
        · show c' ∈ S.c0 ↔ Add P (S.nw - 1) c (S.nw, c')
          rw [add_ne n1]; exact I.c0 c' h
        · have h' : c' > (if c > S.t1 then c else S.t1) - S.win := h
          have h'' : c' > S.t1 - S.win := by
            split at h' <;> omega
          show c' ∈ S.c1 ++ [c] ↔ P (S.nw - 1, c') ∨ (S.nw - 1, c') = (S.nw - 1, c)
          rw [List.mem_append, List.mem_singleton, I.c1 c' h'']
          constructor
          · rintro (q | rfl)
            · exact .inl q
            · exact .inr rfl
          · rintro (q | q)
            · exact .inl q
            · exact .inr (congrArg Prod.snd q)
theorem renew_ok {S : TS} {P : Ev → Prop} (I : Ic S P) (le : ∀ x, P x → x.1 ≤ S.nw) {e : Int} (he : e > S.nw) : Ic (renew S e) P := by
  have no : ∀ c, ¬ P (e, c) := fun c h => by have := le _ h; have : e ≤ S.nw := this; omega
  unfold renew
  by_cases h : e = S.nw + 1
  · rw [if_pos h]
    have e1 : e - 1 = S.nw := by omega
    exact ⟨⟨fun c q => absurd q (no c), .inl rfl⟩, by show IsTop S.t0 (e - 1) P; rw [e1]; exact I.t0, fun c _ => ⟨fun q => (by cases q), fun q => absurd q (no c)⟩, fun c h => by show c ∈ S.c0 ↔ P (e - 1, c); rw [e1]; exact I.c0 c h⟩
  · rw [if_neg h]
    have no1 : ∀ c, ¬ P (e - 1, c) := fun c h => by have := le _ h; have : e - 1 ≤ S.nw := this; omega
    exact ⟨⟨fun c q => absurd q (no c), .inl rfl⟩, ⟨fun c q => absurd q (no1 c), .inl rfl⟩, fun c _ => ⟨fun q => (by cases q), fun q => absurd q (no c)⟩, fun c _ => ⟨fun q => (by cases q), fun q => absurd q (no1 c)⟩⟩
/-- the whole of it -/
structure Iv (S : TS) (P : Ev → Prop) : Prop where
  ic : Ic S P
  nw : IsNew S.nw P
theorem Iv.congr {S : TS} {P P' : Ev → Prop} (I : Iv S P) (h : ∀ x, P' x ↔ P x) : Iv S P' := by
  have : P' = P := funext fun x => propext (h x)
  rw [this]
  exact I
theorem dlv_ok {S : TS} {P : Ev → Prop} (I : Iv S P) (hw : 1 ≤ S.win) (n : Nat) (e c : Int) (he : 0 ≤ e) (hc : 0 ≤ c) {nw tp : Int} (hn : IsNew nw P) (ht : IsTop tp e P) (nn : ∀ x, P x → 0 ≤ x.2) :
    (dlv S n e c).1 = wd S.win nw tp e c (P (e, c)) ∧ Iv (dlv S n e c).2 (Add P e c) := by
  have := hn.uniq I.nw
  subst this
  obtain ⟨g0, g1, g2⟩ := I.nw
  unfold dlv
  by_cases h1 : e < S.nw - 1
  · rw [if_pos h1]
    dsimp only
    refine ⟨by unfold wd; rw [if_pos h1], ⟨top_other I.ic.t0 (by omega), top_other I.ic.t1 (by omega), fun c' h => ?_, fun c' h => ?_⟩, g0, fun x hx => ?_, ?_⟩
    · rw [add_ne (by omega)]; exact I.ic.c0 c' h
    · rw [add_ne (by omega)]; exact I.ic.c1 c' h
    · rcases hx with hx | rfl
      · exact g1 x hx
      · show e ≤ S.nw; omega
    · rcases g2 with g2 | ⟨x, hx, h⟩
      · exact .inl g2
      · exact .inr ⟨x, .inl hx, h⟩
  · rw [if_neg h1]
    by_cases h2 : e > S.nw
    · rw [if_pos h2]
      have I1 := renew_ok I.ic g1 h2
      have en : (renew S e).nw = e := renew_nw S e
      have ew : (renew S e).win = S.win := renew_win S e
      have ht1 : IsTop (renew S e).t0 e P := by have := I1.t0; rw [en] at this; exact this
      have hh := jdg_ok (back := 0) I1 (by rw [ew]; exact hw) n (by decide) c hc (tp := tp) (by rw [en]; simpa using ht) nn
      rw [en, ew, show e - ((0 : Nat) : Int) = e by omega] at hh
      obtain ⟨w1, w2, w3⟩ := hh
      refine ⟨?_, w2, ?_⟩
      · rw [w1]
        unfold wd
        rw [if_neg (show ¬ e < e - 1 by omega), if_neg h1]
      · rw [w3]
        exact ⟨he, fun x hx => by
          rcases hx with hx | rfl
          · have := g1 x hx; omega
          · exact Int.le_refl _, .inr ⟨_, .inr rfl, rfl⟩⟩
    · rw [if_neg h2]
      have eb : S.nw - (((S.nw - e).toNat : Nat) : Int) = e := by omega
      have hh := jdg_ok (back := (S.nw - e).toNat) I.ic hw n (by omega) c hc (tp := tp) (by rw [eb]; exact ht) nn
      rw [eb] at hh
      obtain ⟨w1, w2, w3⟩ := hh
      refine ⟨w1, w2, ?_⟩
      rw [w3]
      refine ⟨g0, fun x hx => ?_, ?_⟩
      · rcases hx with hx | rfl
        · exact g1 x hx
        · show e ≤ S.nw; omega
      · rcases g2 with g2 | ⟨x, hx, h⟩
        · exact .inl g2
        · exact .inr ⟨x, .inl hx, h⟩
/-- what else stays -/
structure Stay (S S' : TS) : Prop where
  win : S'.win = S.win
  ls : S'.ls = S.ls
  ep : S'.ep = S.ep
  snt : S'.snt = S.snt
theorem jdg_stay (S : TS) (back n : Nat) (c : Int) : Stay S (jdg S back n c).2 ∧ ((jdg S back n c).2.rc = if (jdg S back n c).1 = "taken" then S.rc ++ [(n : Int)] else S.rc) ∧ (jdg S back n c).2.c0.length ≤ S.c0.length + 1 ∧ (jdg S back n c).2.c1.length ≤ S.c1.length + 1 := by
  have d1 : ¬ (("late" : Str) = "taken") := by decide +kernel
  have d2 : ¬ (("again" : Str) = "taken") := by decide +kernel
  unfold jdg
  split
  · split
    · exact ⟨⟨rfl, rfl, rfl, rfl⟩, (if_neg d1 (t := S.rc ++ [(n : Int)])).symm, Nat.le_succ _, Nat.le_succ _⟩
    · split
      · exact ⟨⟨rfl, rfl, rfl, rfl⟩, (if_neg d2 (t := S.rc ++ [(n : Int)])).symm, Nat.le_succ _, Nat.le_succ _⟩
      · exact ⟨⟨rfl, rfl, rfl, rfl⟩, (if_pos rfl).symm, by show (S.c0 ++ [c]).length ≤ _; rw [List.length_append]; exact Nat.le_refl _, Nat.le_succ _⟩
  · split
    · exact ⟨⟨rfl, rfl, rfl, rfl⟩, (if_neg d1 (t := S.rc ++ [(n : Int)])).symm, Nat.le_succ _, Nat.le_succ _⟩
    · split
      · exact ⟨⟨rfl, rfl, rfl, rfl⟩, (if_neg d2 (t := S.rc ++ [(n : Int)])).symm, Nat.le_succ _, Nat.le_succ _⟩
      · exact ⟨⟨rfl, rfl, rfl, rfl⟩, (if_pos rfl).symm, Nat.le_succ _, by show (S.c1 ++ [c]).length ≤ _; rw [List.length_append]; exact Nat.le_refl _⟩
theorem dlv_stay (S : TS) (n : Nat) (e c : Int) {m : Nat} (h0 : S.c0.length ≤ m) (h1 : S.c1.length ≤ m) : Stay S (dlv S n e c).2 ∧ ((dlv S n e c).2.rc = if (dlv S n e c).1 = "taken" then S.rc ++ [(n : Int)] else S.rc) ∧ (dlv S n e c).2.c0.length ≤ m + 1 ∧ (dlv S n e c).2.c1.length ≤ m + 1 := by
  have d3 : ¬ (("old" : Str) = "taken") := by decide +kernel
  unfold dlv
  split
  · exact ⟨⟨rfl, rfl, rfl, rfl⟩, (if_neg d3 (t := S.rc ++ [(n : Int)])).symm, by show S.c0.length ≤ _; omega, by show S.c1.length ≤ _; omega⟩
  · split
    · obtain ⟨⟨a1, a2, a3, a4⟩, b, c2, d⟩ := jdg_stay (renew S e) 0 n c
      have r : (renew S e).win = S.win ∧ (renew S e).ls = S.ls ∧ (renew S e).ep = S.ep ∧ (renew S e).snt = S.snt ∧ (renew S e).rc = S.rc ∧ (renew S e).c0.length ≤ m ∧ (renew S e).c1.length ≤ m := by
        unfold renew
        split
        · exact ⟨rfl, rfl, rfl, rfl, rfl, Nat.zero_le _, h0⟩
        · exact ⟨rfl, rfl, rfl, rfl, rfl, Nat.zero_le _, Nat.zero_le _⟩
      obtain ⟨r1, r2, r3, r4, r5, r6, r7⟩ := r
      exact ⟨⟨a1.trans r1, a2.trans r2, a3.trans r3, a4.trans r4⟩, by rw [b, r5], by omega, by omega⟩
    · obtain ⟨a, b, c2, d⟩ := jdg_stay S (S.nw - e).toNat n c
      exact ⟨a, b, by omega, by omega⟩

/-! ### the word that the law expects -/
def nz (hs : List Nat) : List Int := hs.map fun (n : Nat) => (n : Int)
theorem nz_app (a b : List Nat) : nz (a ++ b) = nz a ++ nz b := List.map_append
theorem nz_len (a : List Nat) : (nz a).length = a.length := List.length_map _
theorem nz_get {a : List Nat} {i : Nat} {x : V} (h : (inz (nz a))[i]? = some x) : ∃ n : Nat, a[i]? = some n ∧ x = .int (n : Int) := by
  obtain ⟨m, h1, rfl⟩ := inz_get h
  unfold nz at h1
  rw [List.getElem?_map] at h1
  cases e : a[i]? with
  | none => rw [e] at h1; cases h1
  | some n => rw [e] at h1; cases h1; exact ⟨n, rfl, rfl⟩
theorem nz_mem {a : List Nat} {n : Nat} : (n : Int) ∈ nz a ↔ n ∈ a := by
  unfold nz
  rw [List.mem_map]
  exact ⟨fun ⟨m, h, e⟩ => by have : m = n := by omega
                             rw [← this]; exact h, fun h => ⟨n, h, rfl⟩⟩
theorem inz_flat (a : List Int) : (inz a).all flatV = true := by
  rw [List.all_eq_true]
  intro x hx
  obtain ⟨z, _, rfl⟩ := List.mem_map.mp hx
  rfl
theorem inz_in (a : List Int) (n : Int) : inV (.int n) (inz a) = decide (n ∈ a) := by
  unfold inV inz
  rw [List.any_map]
  induction a with
  | nil => rfl
  | cons m r ih =>
    rw [List.any_cons, ih]
    have e : ((fun y => eqV y (V.int n)) ∘ V.int) m = decide (m = n) := rfl
    rw [e]
    by_cases h : m = n
    · simp [h]
    · rw [decide_eq_false h, Bool.false_or]
      congr 1
      simp [Ne.symm h]
theorem w_inL {K : PySem.W.Frag} {H : Hp} {Q : VK} {p : Addr} {xs : List V} {x : V} (h : SqL K H p xs) (fx : flatV x = true) (fs : xs.all flatV = true) (q : Q (.bl (inV x xs)) H) : rIn K false x (.ref p) H Q := ⟨p, xs, rfl, .inl h, fx, fs, q⟩
theorem w_ninL {K : PySem.W.Frag} {H : Hp} {Q : VK} {p : Addr} {xs : List V} {x : V} (h : SqL K H p xs) (fx : flatV x = true) (fs : xs.all flatV = true) (q : Q (.bl (!inV x xs)) H) : rIn K true x (.ref p) H Q := ⟨p, xs, rfl, .inl h, fx, fs, q⟩
def evs (L : List (Int × Int × Str)) (hs : List Nat) : Ev → Prop := fun x => ∃ k ∈ hs, ∃ y, L[k]? = some y ∧ x = (y.1, y.2.1)
def elF (L : List (Int × Int × Str)) (k : Nat) : Int := match L[k]? with | some y => y.1 | none => 0
def tlF (L : List (Int × Int × Str)) (e : Int) (k : Nat) : Option Int := match L[k]? with | some y => if y.1 = e then some y.2.1 else none | none => none
theorem takeU {α : Type} {l : List α} {i : Nat} {x : α} (h : l[i]? = some x) : l.take (i + 1) = l.take i ++ [x] := by rw [List.take_add_one, h]; rfl
theorem isnew_of {L : List (Int × Int × Str)} {hs : List Nat} (hL : ∀ k ∈ hs, k < L.length) {m : Int} (h1 : m ∈ (0 : Int) :: hs.map (elF L)) (h2 : ∀ y ∈ (0 : Int) :: hs.map (elF L), y ≤ m) : IsNew m (evs L hs) := by
  refine ⟨h2 0 (List.mem_cons_self ..), fun x hx => ?_, ?_⟩
  · obtain ⟨k, hk, y, hy, rfl⟩ := hx
    refine h2 _ (List.mem_cons_of_mem _ (List.mem_map.mpr ⟨k, hk, ?_⟩))
    unfold elF
    rw [hy]
  · rcases List.mem_cons.mp h1 with rfl | h
    · exact .inl rfl
    · obtain ⟨k, hk, e⟩ := List.mem_map.mp h
      have hy := List.getElem?_eq_getElem (hL k hk)
      refine .inr ⟨_, ⟨k, hk, _, hy, rfl⟩, ?_⟩
      rw [← e]
      unfold elF
      rw [hy]
theorem istop_of {L : List (Int × Int × Str)} {hs : List Nat} {e m : Int} (h1 : m ∈ (-1 : Int) :: hs.filterMap (tlF L e)) (h2 : ∀ y ∈ (-1 : Int) :: hs.filterMap (tlF L e), y ≤ m) : IsTop m e (evs L hs) := by
  constructor
  · rintro c ⟨k, hk, y, hy, e'⟩
    refine h2 _ (List.mem_cons_of_mem _ (List.mem_filterMap.mpr ⟨k, hk, ?_⟩))
    unfold tlF
    rw [hy]
    simp only []
    rw [if_pos (congrArg Prod.fst e').symm]
    exact congrArg some (congrArg Prod.snd e').symm
  · rcases List.mem_cons.mp h1 with rfl | h
    · exact .inl rfl
    · obtain ⟨k, hk, e'⟩ := List.mem_filterMap.mp h
      refine .inr ⟨k, hk, ?_⟩
      unfold tlF at e'
      split at e'
      · rename_i y hy
        split at e'
        · rename_i hye
          cases e'
          exact ⟨y, hy, by rw [hye]⟩
        · cases e'
      · cases e'
theorem max_ex : ∀ (a : Int) (l : List Int), ∃ m, m ∈ a :: l ∧ ∀ y ∈ a :: l, y ≤ m
  | a, [] => ⟨a, List.mem_cons_self .., fun y h => by rw [List.mem_singleton.mp h]; exact Int.le_refl _⟩
  | a, b :: l => by
    obtain ⟨m, h1, h2⟩ := max_ex b l
    by_cases h : a ≤ m
    · exact ⟨m, List.mem_cons_of_mem _ h1, fun y hy => by
        rcases List.mem_cons.mp hy with rfl | hy
        · exact h
        · exact h2 y hy⟩
    · exact ⟨a, List.mem_cons_self .., fun y hy => by
        rcases List.mem_cons.mp hy with rfl | hy
        · exact Int.le_refl _
        · have := h2 y hy
          omega⟩
theorem istop_ex (L : List (Int × Int × Str)) (hs : List Nat) (e : Int) : ∃ tp, IsTop tp e (evs L hs) := by
  obtain ⟨m, h1, h2⟩ := max_ex (-1) (hs.filterMap (tlF L e))
  exact ⟨m, istop_of h1 h2⟩
/-- the law's own list of letters -/
def Lts (H : Hp) (ll : Addr) (L : List (Int × Int × Str)) : Prop := ∃ us, H ll = some (.lst us) ∧ DsAt H us (L.map ld)
theorem Lts.same {H H' : Hp} {ll : Addr} {L : List (Int × Int × Str)} (h : Lts H ll L) (s : Same H H') : Lts H' ll L := by
  obtain ⟨us, h1, h2⟩ := h
  exact ⟨us, s _ _ h1, h2.mono (Tk.same s)⟩
def sp_word : Sp := fun vs H Q _ => ∃ (size : Int) (ll hl : Addr) (L : List (Int × Int × Str)) (hs : List Nat) (n : Nat) (x : Int × Int × Str), vs = [.int size, .ref ll, .ref hl, .int (n : Int)] ∧ Lts H ll L ∧ H hl = some (.lst (inz (nz hs))) ∧ L[n]? = some x ∧ (∀ k ∈ hs, k < L.length) ∧ hs.length ≤ 500 ∧
  ∀ (H' : Hp) (nw tp : Int), Same H H' → IsNew nw (evs L hs) → IsTop tp x.1 (evs L hs) → Q (.str (wd size nw tp x.1 x.2.1 (n ∈ hs))) H'
section
variable {P : Program} {w : World} {K : PySem.W.Frag} {mg : Str → Option Value} {base : Heap}
theorem ok_law_word (T : Top K mg) : FnOk P w K mg base CX0 1 T.f_law_word T.d_law_word ["size", "letters", "history", "number"] sp_word := by
  refine T.F_law_word.ok sc_law_word (fun vs H Q E h => ?_) (fun cdv A outer s H vs Q E hr h => ?_)
  · obtain ⟨size, ll, hl, L, hs, n, x, rfl, _⟩ := h
    rfl
  · obtain ⟨size, ll, hl, L, hs, n, x, rfl, ⟨us, hus, dus⟩, hhl, hn, hL, hh, q⟩ := h
    refine ⟨_, (pss_cons (ps_set (i := 4) sc_law_word.nd rfl (Or.inr rfl) (pe_ix ix_tup (pe_ix ix_list (pv 1) (pv 3) (fun _ _ => rfl)) pe_int (fun _ _ => rfl)))
    (pss_cons (ps_set (i := 5) sc_law_word.nd rfl (Or.inl rfl) (pe_callB (cr_max rfl) (by rfl) T.z_max (by decide +kernel) (pa_cons (pe_op op_cat (pe_lst (pa_cons pe_int pa_nil)) (pe_lc (own := [("k", 6)]) (g := gName 6) (by rfl) sc_law_word.nd (pi_list (pv 2)) (blkOk_by (own := [("k", 6)]) (N := N_law_word) (sc := defScope s_law_word) (by decide +kernel)) (fun _ _ _ _ _ => (pg_name (i := 6) sc_law_word.nd rfl (Or.inl rfl))) (fun _ _ _ _ _ => pts_nil) (fun _ _ _ _ _ => (pe_ix (r := rIxT K) ix_tup (pe_ix (r := rIxL K) ix_list (pv 1) (pv 6) (fun _ _ => rfl)) pe_int (fun _ _ => rfl))))) pa_nil)))
     (pss_cons (ps_if (pt_cmpR op_lt (pv 4) (pe_op op_sub (pv 5) pe_int) (nomark _))
      (pss_one (ps_ret pe_str))
      pss_nil)
      (pss_cons (ps_set (i := 7) sc_law_word.nd rfl (Or.inl rfl) (pe_callB (cr_max rfl) (by rfl) T.z_max (by decide +kernel) (pa_cons (pe_op op_cat (pe_lst (pa_cons (pe_un un_neg pe_int) pa_nil)) (pe_lc (own := [("k", 6)]) (g := gName 6) (by rfl) sc_law_word.nd (pi_list (pv 2)) (blkOk_by (own := [("k", 6)]) (N := N_law_word) (sc := defScope s_law_word) (by decide +kernel)) (fun _ _ _ _ _ => (pg_name (i := 6) sc_law_word.nd rfl (Or.inl rfl))) (fun _ _ _ _ _ => (pts_one (pt_cmpR op_eq (pe_ix (r := rIxT K) ix_tup (pe_ix (r := rIxL K) ix_list (pv 1) (pv 6) (fun _ _ => rfl)) pe_int (fun _ _ => rfl)) (pv 4) (nomark _)))) (fun _ _ _ _ _ => (pe_ix (r := rIxT K) ix_tup (pe_ix (r := rIxL K) ix_list (pv 1) (pv 6) (fun _ _ => rfl)) pe_int (fun _ _ => rfl))))) pa_nil)))
       (pss_cons (ps_if (pt_cmpR op_le (pe_ix ix_tup (pe_ix ix_list (pv 1) (pv 3) (fun _ _ => rfl)) pe_int (fun _ _ => rfl)) (pe_op op_sub (pv 7) (pv 0)) (nomark _))
        (pss_one (ps_ret pe_str))
        pss_nil)
        (pss_one (ps_ret (pe_ifExp (pt_cmpR op_in_seq (pv 3) (pv 2) (by rfl)) pe_str pe_str)))))))), ?_⟩
    obtain ⟨v, hv, hq⟩ := ld_get dus hn
    repeat walk_at "s"
    refine w_ixL (SqL.of hus) (atI_nat hv) ?_
    repeat walk_at "s"
    refine ⟨by walk_at "len", fun p0 hp0 => ?_⟩
    have s1 := sm_new (o := .lst [.int 0]) hp0
    have e1 := upd_self2 hp0 (.lst [.int 0])
    generalize upd H p0 (.lst [.int 0]) = H1 at s1 e1 ⊢
    repeat walk_at "s"
    refine ⟨hl, rfl, ⟨_, SqL.of (s1 _ _ hhl)⟩, fun D hD => ?_⟩
    refine lc_list (K := K) (a := hl) (xs := inz (nz hs)) (fun i H2 => H2 D = some (.lst (inz ((hs.take i).map (elF L)))) ∧ Same H1 H2) ⟨upd_same, sm_new hD⟩ (fun i H2 _ ⟨_, s2⟩ => SqL.of (s2 _ _ (s1 _ _ hhl))) ?_ ?_
    · rintro i y H2 hi ⟨eD, s2⟩
      obtain ⟨k, hk, rfl⟩ := nz_get hi
      have hkL := hL k (List.mem_of_getElem? hk)
      have hx := List.getElem?_eq_getElem hkL
      obtain ⟨v2, hv2, hq2⟩ := ld_get dus hx
      have s12 := s1.trans s2
      repeat walk_at "s"
      refine w_ixL (SqL.of (s12 _ _ hus)) (atI_nat hv2) ?_
      repeat walk_at "s"
      refine w_ixT (SqT.of (s12 _ _ hq2)) (atI_nat (j := 0) rfl) ?_
      have hih : i < hs.length := (List.getElem?_eq_some_iff.mp hk).1
      refine ⟨_, eD, by rw [inz_len, List.length_map, List.length_take]; exact big99 (by omega), ?_, fun x o h => by rw [upd_ne (ne_of_none h hD)]; exact s2 x o h⟩
      rw [upd_same, takeU hk, List.map_append, inz_app]
      show _ = some (HO.lst (_ ++ [V.int (elF L k)]))
      unfold elF
      rw [hx]
    · rintro H2 ⟨eD, s2⟩
      rw [inz_len, nz_len, List.take_length] at eD
      have s12 := s1.trans s2
      refine ⟨p0, D, _, _, rfl, rfl, s2 _ _ e1, eD, ?_, fun p hp => ?_⟩
      · rw [inz_len, List.length_map]; exact Nat.le_of_lt (big99 (by show 1 + hs.length ≤ _; omega))
      have s3 := s12.trans (sm_new (o := .lst ([V.int 0] ++ inz (hs.map (elF L)))) hp)
      have e3 : upd H2 p (.lst ([V.int 0] ++ inz (hs.map (elF L)))) p = some (.lst (((0 : Int) :: hs.map (elF L)).map V.int)) := upd_same
      generalize upd H2 p (.lst ([V.int 0] ++ inz (hs.map (elF L)))) = H3 at s3 e3 ⊢
      repeat walk_at "s"
      refine ⟨p, _, rfl, SqL.of e3, by show 0 < (hs.map (elF L)).length + 1; omega, fun nw hm1 hm2 => ?_⟩
      have hnew := isnew_of hL hm1 hm2
      repeat walk_at "s"
      refine ite2 (fun h => ?_) (fun h1 => ?_)
      · obtain ⟨tp, htp⟩ := istop_ex L hs x.1
        have := q H3 nw tp s3 hnew htp
        unfold wd at this
        rw [if_pos (of_decide_eq_true h)] at this
        repeat walk_at "s"
        exact this
      · have ho : ¬ x.1 < nw - 1 := of_decide_eq_false (ofb h1)
        have s13 := s3
        repeat walk_at "s"
        refine ⟨by walk_at "len", fun p5 hp5 => ?_⟩
        have s5 := s13.trans (sm_new (o := .lst [.int (-1)]) hp5)
        have e5 := upd_self2 hp5 (.lst [.int (-1)])
        generalize upd H3 p5 (.lst [.int (-1)]) = H5 at s5 e5 ⊢
        repeat walk_at "s"
        refine ⟨hl, rfl, ⟨_, SqL.of (s5 _ _ hhl)⟩, fun D hD => ?_⟩
        refine lc_list (K := K) (a := hl) (xs := inz (nz hs)) (fun i H2 => H2 D = some (.lst (inz ((hs.take i).filterMap (tlF L x.1)))) ∧ Same H5 H2) ⟨upd_same, sm_new hD⟩ (fun i H2 _ ⟨_, s2⟩ => SqL.of (s2 _ _ (s5 _ _ hhl))) ?_ ?_
        · rintro i y H2 hi ⟨eD, s2⟩
          obtain ⟨k, hk, rfl⟩ := nz_get hi
          have hkL := hL k (List.mem_of_getElem? hk)
          have hx := List.getElem?_eq_getElem hkL
          obtain ⟨v2, hv2, hq2⟩ := ld_get dus hx
          have s12 := s5.trans s2
          have hih : i < hs.length := (List.getElem?_eq_some_iff.mp hk).1
          have ht : tlF L x.1 k = if L[k].1 = x.1 then some L[k].2.1 else none := by unfold tlF; rw [hx]
          have hU : (hs.take (i + 1)).filterMap (tlF L x.1) = (hs.take i).filterMap (tlF L x.1) ++ (if L[k].1 = x.1 then [L[k].2.1] else []) := by
            rw [takeU hk, List.filterMap_append, List.filterMap_cons, List.filterMap_nil, ht]
            by_cases g : L[k].1 = x.1
            · rw [if_pos g, if_pos g]
            · rw [if_neg g, if_neg g]
          repeat walk_at "s"
          refine w_ixL (SqL.of (s12 _ _ hus)) (atI_nat hv2) ?_
          repeat walk_at "s"
          refine w_ixT (SqT.of (s12 _ _ hq2)) (atI_nat (j := 0) rfl) ?_
          repeat walk_at "s"
          refine ite2 (fun g => ?_) (fun g => ?_)
          · rw [if_pos (of_decide_eq_true g)] at hU
            repeat walk_at "s"
            refine w_ixL (SqL.of (s12 _ _ hus)) (atI_nat hv2) ?_
            repeat walk_at "s"
            refine w_ixT (SqT.of (s12 _ _ hq2)) (atI_nat (j := 1) rfl) ?_
            refine ⟨_, eD, ?_, ?_, fun x o h => by rw [upd_ne (ne_of_none h hD)]; exact s2 x o h⟩
            · rw [inz_len]
              have := List.length_filterMap_le (tlF L x.1) (hs.take i)
              rw [List.length_take] at this
              exact big99 (by omega)
            · rw [upd_same, hU, inz_app]
              rfl
          · rw [if_neg (of_decide_eq_false (ofb g)), List.append_nil] at hU
            rw [hU]
            exact ⟨eD, s2⟩
        · rintro H4 ⟨eD, s4⟩
          rw [inz_len, nz_len, List.take_length] at eD
          have s54 := s5.trans s4
          have hfl := List.length_filterMap_le (tlF L x.1) hs
          refine ⟨p5, D, _, _, rfl, rfl, s4 _ _ e5, eD, ?_, fun p hp => ?_⟩
          · rw [inz_len]; exact Nat.le_of_lt (big99 (by show 1 + _ ≤ _; omega))
          have s6 := s54.trans (sm_new (o := .lst ([V.int (-1)] ++ inz (hs.filterMap (tlF L x.1)))) hp)
          have e6 : upd H4 p (.lst ([V.int (-1)] ++ inz (hs.filterMap (tlF L x.1)))) p = some (.lst (((-1 : Int) :: hs.filterMap (tlF L x.1)).map V.int)) := upd_same
          generalize upd H4 p (.lst ([V.int (-1)] ++ inz (hs.filterMap (tlF L x.1)))) = H6 at s6 e6 ⊢
          repeat walk_at "s"
          refine ⟨p, _, rfl, SqL.of e6, by show 0 < (hs.filterMap (tlF L x.1)).length + 1; omega, fun tp hm3 hm4 => ?_⟩
          have htp := istop_of hm3 hm4
          have hq' := q H6 nw tp s6 hnew htp
          unfold wd at hq'
          rw [if_neg ho] at hq'
          repeat walk_at "s"
          refine w_ixL (SqL.of (s6 _ _ hus)) (atI_nat hv) ?_
          repeat walk_at "s"
          refine w_ixT (SqT.of (s6 _ _ hq)) (atI_nat (j := 1) rfl) ?_
          repeat walk_at "s"
          refine ite2 (fun g => ?_) (fun g => ?_)
          · rw [if_pos (of_decide_eq_true g)] at hq'
            repeat walk_at "s"
            exact hq'
          · rw [if_neg (of_decide_eq_false (ofb g))] at hq'
            repeat walk_at "s"
            refine w_tif ?_
            repeat walk_at "s"
            refine w_inL (SqL.of (s6 _ _ hhl)) rfl (inz_flat _) ?_
            rw [inz_in]
            repeat walk_at "s"
            refine ite2 (fun g => ?_) (fun g => ?_)
            · rw [if_pos (nz_mem.mp (of_decide_eq_true g))] at hq'
              repeat walk_at "s"
              exact hq'
            · rw [if_neg (fun z => of_decide_eq_false (ofb g) (nz_mem.mpr z))] at hq'
              repeat walk_at "s"
              exact hq'
end

/-! ### the law's world: who owns what -/
theorem Tun.fr {C : Addr} {b : TD} {H H' : Hp} {S : TS} (T : Tun C b H S) (tk : Tk H H') (go : ∀ x ∈ ft b, ∀ o, H x = some o → H' x = some o) : Tun C b H' S := by
  obtain ⟨us, h, d⟩ := T.lt
  exact ⟨go _ (by simp [ft]) _ T.ins, ⟨us, go _ (by simp [ft]) _ h, d.mono tk⟩, tk _ _ T.cs, go _ (by simp [ft]) _ T.e0, go _ (by simp [ft]) _ T.e1, tk _ _ T.ts, go _ (by simp [ft]) _ T.rv, T.nd, T.nl⟩
def upF {α : Type} (f : Fin 3 → α) (i : Fin 3) (v : α) : Fin 3 → α := fun j => if j = i then v else f j
theorem upF_eq {α : Type} {f : Fin 3 → α} {i : Fin 3} {v : α} : upF f i v i = v := if_pos rfl
theorem upF_ne {α : Type} {f : Fin 3 → α} {i j : Fin 3} {v : α} (h : j ≠ i) : upF f i v j = f j := if_neg h
def Kp (o : Addr → Nat) (k : Nat) (H H' : Hp) : Prop := Tk H H' ∧ ∀ x u, H x = some u → o x ≠ k → H' x = some u
theorem Kp.same {o : Addr → Nat} {H H' : Hp} (s : Same H H') : Kp o 100 H H' := ⟨Tk.same s, fun x u h _ => s x u h⟩
theorem Kp.cell {o : Addr → Nat} {H : Hp} {q : Addr} {us vs : List V} (h : H q = some (.lst us)) : Kp o (o q) H (upd H q (.lst vs)) := ⟨Tk.upd fun vs' e => (by rw [h] at e; cases e), fun x u e n => by rw [upd_ne (fun z => n (by rw [z]))]; exact e⟩
def ext (o : Addr → Nat) (i : Nat) (H : Hp) : Addr → Nat := fun x => match H x with | none => i | some _ => o x
theorem ext_eq {o : Addr → Nat} {i : Nat} {H : Hp} {x : Addr} {u : HO} (h : H x = some u) : ext o i H x = o x := by unfold ext; rw [h]
structure Ads where
  ll : Addr
  hl : Addr
  xl : Addr
  sl : Addr
  pl : Addr
  nl : Addr
structure Wd (C : Addr) (o : Addr → Nat) (A : Fin 3 → TD) (D : Ads) (H : Hp) (S : Fin 3 → TS) (L : List (Int × Int × Str)) (hs xs : List Nat) (ep snt : Int) (nms : List V) : Prop where
  t : ∀ i, Tun C (A i) H (S i)
  ow : ∀ i, ∀ x ∈ ft (A i), o x = i.val
  ol : o D.ll = 4 ∧ o D.hl = 5 ∧ o D.xl = 6 ∧ o D.sl = 7 ∧ o D.pl = 8 ∧ o D.nl = 9
  l : Lts H D.ll L
  h : H D.hl = some (.lst (inz (nz hs)))
  x : H D.xl = some (.lst (inz (nz xs)))
  s : H D.sl = some (.lst [.int ep, .int snt])
  p : Pil H D.pl
  n : H D.nl = some (.lst nms)
section
variable {C : Addr} {o : Addr → Nat} {A : Fin 3 → TD} {D : Ads} {H H' : Hp} {S : Fin 3 → TS} {L : List (Int × Int × Str)} {hs xs : List Nat} {ep snt : Int} {nms : List V}
theorem Wd.ts (W : Wd C o A D H S L hs xs ep snt nms) {k : Nat} (K : Kp o k H H') (hk : 3 ≤ k) (i : Fin 3) : Tun C (A i) H' (S i) := (W.t i).fr K.1 fun x hx u h => K.2 x u h (by rw [W.ow i x hx]; have := i.isLt; omega)
theorem Kp.lts {k : Nat} {q : Addr} (K : Kp o k H H') (h : Lts H q L) (n : o q ≠ k) : Lts H' q L := by
  obtain ⟨us, h1, h2⟩ := h
  exact ⟨us, K.2 _ _ h1 n, h2.mono K.1⟩
theorem Kp.pil {k : Nat} {q : Addr} (K : Kp o k H H') (h : Pil H q) (n : o q ≠ k) : Pil H' q := by
  obtain ⟨m, ns, h1, h2⟩ := h
  exact ⟨m, ns, K.2 _ _ h1 n, h2⟩
theorem Wd.tun (W : Wd C o A D H S L hs xs ep snt nms) (i : Fin 3) {a' : TD} {S' : TS} (f : Frm (ft (A i)) H H') (ow : Own (ft (A i)) H (ft a')) (T : Tun C a' H' S') : Wd C (ext o i.val H) (upF A i a') D H' (upF S i S') L hs xs ep snt nms := by
  have K : Kp o i.val H H' := ⟨fun x vs hx => f x _ hx fun hF => (W.t i).notup x hF vs hx, fun x u h n => f x u h fun hF => n (W.ow i x hF)⟩
  obtain ⟨q4, q5, q6, q7, q8, q9⟩ := W.ol
  have hi := i.isLt
  obtain ⟨us, hl1, hl2⟩ := W.l
  obtain ⟨pn, pns, hp1, hp2⟩ := W.p
  refine ⟨fun j => ?_, fun j x hx => ?_, ⟨?_, ?_, ?_, ?_, ?_, ?_⟩, K.lts W.l (by omega), K.2 _ _ W.h (by omega), K.2 _ _ W.x (by omega), K.2 _ _ W.s (by omega), K.pil W.p (by omega), K.2 _ _ W.n (by omega)⟩
  · by_cases e : j = i
    · subst e; rw [upF_eq, upF_eq]; exact T
    · rw [upF_ne e, upF_ne e]
      exact (W.t j).fr K.1 fun x hx u h => K.2 x u h (by rw [W.ow j x hx]; intro z; exact e (Fin.ext z))
  · by_cases e : j = i
    · subst e
      rw [upF_eq] at hx
      unfold ext
      split
      · rfl
      · rename_i u hu
        rcases ow x hx with h | h
        · exact W.ow j x h
        · rw [h] at hu; cases hu
    · rw [upF_ne e] at hx
      have := (W.t j).there x hx
      cases hu : H x with
      | none => exact absurd hu this
      | some u => rw [ext_eq hu]; exact W.ow j x hx
  · rw [ext_eq hl1]; exact q4
  · rw [ext_eq W.h]; exact q5
  · rw [ext_eq W.x]; exact q6
  · rw [ext_eq W.s]; exact q7
  · rw [ext_eq hp1]; exact q8
  · rw [ext_eq W.n]; exact q9
theorem Wd.same (W : Wd C o A D H S L hs xs ep snt nms) (s : Same H H') : Wd C o A D H' S L hs xs ep snt nms := by
  obtain ⟨q4, q5, q6, q7, q8, q9⟩ := W.ol
  have K : Kp o 100 H H' := Kp.same s
  exact ⟨W.ts K (by omega), W.ow, W.ol, W.l.same s, s _ _ W.h, s _ _ W.x, s _ _ W.s, W.p.same s, s _ _ W.n⟩
theorem Wd.hl (W : Wd C o A D H S L hs xs ep snt nms) {hs' : List Nat} : Wd C o A D (upd H D.hl (.lst (inz (nz hs')))) S L hs' xs ep snt nms := by
  obtain ⟨q4, q5, q6, q7, q8, q9⟩ := W.ol
  have K := Kp.cell (o := o) (vs := inz (nz hs')) W.h
  exact ⟨W.ts K (by omega), W.ow, W.ol, K.lts W.l (by omega), upd_same, K.2 _ _ W.x (by omega), K.2 _ _ W.s (by omega), K.pil W.p (by omega), K.2 _ _ W.n (by omega)⟩
theorem Wd.xl (W : Wd C o A D H S L hs xs ep snt nms) {xs' : List Nat} : Wd C o A D (upd H D.xl (.lst (inz (nz xs')))) S L hs xs' ep snt nms := by
  obtain ⟨q4, q5, q6, q7, q8, q9⟩ := W.ol
  have K := Kp.cell (o := o) (vs := inz (nz xs')) W.x
  exact ⟨W.ts K (by omega), W.ow, W.ol, K.lts W.l (by omega), K.2 _ _ W.h (by omega), upd_same, K.2 _ _ W.s (by omega), K.pil W.p (by omega), K.2 _ _ W.n (by omega)⟩
theorem Wd.sl (W : Wd C o A D H S L hs xs ep snt nms) {ep' snt' : Int} : Wd C o A D (upd H D.sl (.lst [.int ep', .int snt'])) S L hs xs ep' snt' nms := by
  obtain ⟨q4, q5, q6, q7, q8, q9⟩ := W.ol
  have K := Kp.cell (o := o) (vs := [.int ep', .int snt']) W.s
  exact ⟨W.ts K (by omega), W.ow, W.ol, K.lts W.l (by omega), K.2 _ _ W.h (by omega), K.2 _ _ W.x (by omega), upd_same, K.pil W.p (by omega), K.2 _ _ W.n (by omega)⟩
theorem Wd.ll (W : Wd C o A D H S L hs xs ep snt nms) {us vs : List V} {L' : List (Int × Int × Str)} (h : H D.ll = some (.lst us)) (d : DsAt H vs (L'.map ld)) : Wd C o A D (upd H D.ll (.lst vs)) S L' hs xs ep snt nms := by
  obtain ⟨q4, q5, q6, q7, q8, q9⟩ := W.ol
  have K := Kp.cell (o := o) (vs := vs) h
  exact ⟨W.ts K (by omega), W.ow, W.ol, ⟨vs, upd_same, d.mono K.1⟩, K.2 _ _ W.h (by omega), K.2 _ _ W.x (by omega), K.2 _ _ W.s (by omega), K.pil W.p (by omega), K.2 _ _ W.n (by omega)⟩
theorem Wd.pl (W : Wd C o A D H S L hs xs ep snt nms) (g : Gp D.pl H H') : Wd C o A D H' S L hs xs ep snt nms := by
  obtain ⟨q4, q5, q6, q7, q8, q9⟩ := W.ol
  obtain ⟨pn, pns, hp1, hp2⟩ := W.p
  have K : Kp o 8 H H' := ⟨fun x vs hx => g.fr x _ hx (fun z => (by subst z; rw [hp1] at hx; cases hx)), fun x u h n => g.fr x u h (fun z => n (by rw [z]; exact q8))⟩
  exact ⟨W.ts K (by omega), W.ow, W.ol, K.lts W.l (by omega), K.2 _ _ W.h (by omega), K.2 _ _ W.x (by omega), K.2 _ _ W.s (by omega), g.pl, K.2 _ _ W.n (by omega)⟩
end
/-! ### the law's letters -/
def prv (L : List (Int × Int × Str)) : Nat → Int × Int
  | 0 => (0, 0)
  | i + 1 => match L[i]? with | some x => (x.1, x.2.1 + 1) | none => (0, 0)
def Fol (p q : Int × Int) : Prop := p = q ∨ (p.1 < q.1 ∧ q.2 = 0)
structure LOk (L : List (Int × Int × Str)) (ep snt : Int) : Prop where
  e0 : 0 ≤ ep
  e1 : ep ≤ 12
  s0 : 0 ≤ snt
  s1 : snt ≤ L.length
  z : ∀ x ∈ L, 0 ≤ x.1 ∧ 0 ≤ x.2.1 ∧ x.2.1 < L.length ∧ Nm x.2.2
  lex : ∀ (i j : Nat) (x y : Int × Int × Str), i < j → L[i]? = some x → L[j]? = some y → x.1 < y.1 ∨ (x.1 = y.1 ∧ x.2.1 < y.2.1)
  lst : ∀ x ∈ L, x.1 < ep ∨ (x.1 = ep ∧ x.2.1 < snt)
  nxt : ∀ (i : Nat) (y : Int × Int × Str), L[i]? = some y → Fol (prv L i) (y.1, y.2.1)
  fin : Fol (prv L L.length) (ep, snt)
theorem LOk.nil : LOk [] 0 0 := ⟨by omega, by omega, by omega, Int.le_refl _, fun x h => (by cases h), fun i j x y _ h => (by cases h), fun x h => (by cases h), fun i y h => (by cases h), .inl rfl⟩
theorem LOk.rekey {L : List (Int × Int × Str)} {ep snt : Int} (K : LOk L ep snt) (h : ep < 12) : LOk L (ep + 1) 0 := by
  obtain ⟨e0, e1, s0, s1, z, lex, lst, nxt, fin⟩ := K
  refine ⟨by omega, by omega, by omega, by omega, z, lex, fun x hx => ?_, nxt, ?_⟩
  · rcases lst x hx with q | q
    · exact .inl (by omega)
    · exact .inl (by omega)
  · rcases fin with q | q
    · refine .inr ⟨?_, rfl⟩
      rw [q]; show ep < ep + 1; omega
    · refine .inr ⟨?_, rfl⟩
      have : (prv L L.length).1 < ep := q.1
      show _ < ep + 1; omega
theorem prv_app {L L' : List (Int × Int × Str)} {i : Nat} (h : i ≤ L.length) : prv (L ++ L') i = prv L i := by
  cases i with
  | zero => rfl
  | succ i => 
    show (match (L ++ L')[i]? with | some x => (x.1, x.2.1 + 1) | none => (0, 0)) = _
    rw [List.getElem?_append_left (show i < L.length by omega)]
    rfl
theorem LOk.send {L : List (Int × Int × Str)} {ep snt : Int} (K : LOk L ep snt) {z : Str} (hz : Nm z) : LOk (L ++ [(ep, snt, z)]) ep (snt + 1) := by
  obtain ⟨e0, e1, s0, s1, zz, lex, lst, nxt, fin⟩ := K
  have len : (L ++ [(ep, snt, z)]).length = L.length + 1 := by rw [List.length_append]; rfl
  refine ⟨e0, e1, by omega, by omega, fun x hx => ?_, fun i j x y hij hi hj => ?_, fun x hx => ?_, fun i y hy => ?_, ?_⟩
  · rcases List.mem_append.mp hx with h | h
    · obtain ⟨a, b, c, d⟩ := zz x h
      exact ⟨a, b, by omega, d⟩
    · cases List.mem_singleton.mp h
      exact ⟨e0, s0, by show snt < _; omega, hz⟩
  · have hjl := (List.getElem?_eq_some_iff.mp hj).1
    rw [List.getElem?_append_left (by omega)] at hi
    by_cases h : j < L.length
    · rw [List.getElem?_append_left h] at hj
      exact lex i j x y hij hi hj
    · rw [show j = L.length by omega, List.getElem?_concat_length] at hj
      cases hj
      exact lst x (List.mem_of_getElem? hi)
  · rcases List.mem_append.mp hx with h | h
    · rcases lst x h with q | q
      · exact .inl q
      · exact .inr ⟨q.1, by omega⟩
    · cases List.mem_singleton.mp h
      exact .inr ⟨rfl, by show snt < snt + 1; omega⟩
  · have hil := (List.getElem?_eq_some_iff.mp hy).1
    rw [prv_app (by omega)]
    by_cases h : i < L.length
    · rw [List.getElem?_append_left h] at hy
      exact nxt i y hy
    · rw [show i = L.length by omega, List.getElem?_concat_length] at hy
      cases hy
      rw [show i = L.length by omega]
      exact fin
  · rw [len]
    refine .inl ?_
    show (match (L ++ [(ep, snt, z)])[L.length]? with | some x => (x.1, x.2.1 + 1) | none => (0, 0)) = _
    rw [List.getElem?_concat_length]
theorem LOk.inj {L : List (Int × Int × Str)} {ep snt : Int} (K : LOk L ep snt) {i j : Nat} {x y : Int × Int × Str} (hi : L[i]? = some x) (hj : L[j]? = some y) (e : (x.1, x.2.1) = (y.1, y.2.1)) : i = j := by
  have e1 := congrArg Prod.fst e
  have e2 := congrArg Prod.snd e
  have e1' : x.1 = y.1 := e1
  have e2' : x.2.1 = y.2.1 := e2
  rcases Nat.lt_trichotomy i j with h | h | h
  · rcases K.lex i j x y h hi hj with q | q <;> omega
  · exact h
  · rcases K.lex j i y x h hj hi with q | q <;> omega
theorem LOk.nn {L : List (Int × Int × Str)} {ep snt : Int} (K : LOk L ep snt) (hs : List Nat) : ∀ x, evs L hs x → 0 ≤ x.2 := by
  rintro x ⟨k, _, y, hy, rfl⟩
  exact (K.z y (List.mem_of_getElem? hy)).2.1
theorem LOk.ev {L : List (Int × Int × Str)} {ep snt : Int} (K : LOk L ep snt) {hs : List Nat} {n : Nat} {x : Int × Int × Str} (hn : L[n]? = some x) : evs L hs (x.1, x.2.1) ↔ n ∈ hs := by
  constructor
  · rintro ⟨k, hk, y, hy, e⟩
    rw [K.inj hn hy e]
    exact hk
  · intro h
    exact ⟨n, h, x, hn, rfl⟩
theorem evs_add {L : List (Int × Int × Str)} {hs : List Nat} {n : Nat} {x : Int × Int × Str} (hn : L[n]? = some x) (y : Ev) : evs L (hs ++ [n]) y ↔ Add (evs L hs) x.1 x.2.1 y := by
  constructor
  · rintro ⟨k, hk, z, hz, rfl⟩
    rcases List.mem_append.mp hk with h | h
    · exact .inl ⟨k, h, z, hz, rfl⟩
    · cases List.mem_singleton.mp h
      rw [hn] at hz
      cases hz
      exact .inr rfl
  · rintro (⟨k, hk, z, hz, rfl⟩ | rfl)
    · exact ⟨k, List.mem_append_left _ hk, z, hz, rfl⟩
    · exact ⟨n, List.mem_append_right _ (List.mem_singleton.mpr rfl), x, hn, rfl⟩
theorem evs_app {L : List (Int × Int × Str)} {hs : List Nat} (z : Int × Int × Str) (hb : ∀ k ∈ hs, k < L.length) (y : Ev) : evs (L ++ [z]) hs y ↔ evs L hs y := by
  constructor
  · rintro ⟨k, hk, u, hu, rfl⟩
    rw [List.getElem?_append_left (hb k hk)] at hu
    exact ⟨k, hk, u, hu, rfl⟩
  · rintro ⟨k, hk, u, hu, rfl⟩
    exact ⟨k, hk, u, by rw [List.getElem?_append_left (hb k hk)]; exact hu, rfl⟩
structure Nu (S : Fin 3 → TS) (L : List (Int × Int × Str)) (hs xs : List Nat) (ep snt size : Int) (M : Nat) : Prop where
  ls : ∀ i, (S i).ls = L
  epp : ∀ i, (S i).ep = ep
  sn : ∀ i, (S i).snt = snt
  wn : ∀ i, (S i).win = size
  iv0 : Iv (S 0) (evs L hs)
  iv1 : Iv (S 1) (evs L hs)
  iv2 : Iv (S 2) (evs L (List.range L.length))
  rc0 : (S 0).rc = nz xs
  rc1 : (S 1).rc = nz xs
  rc2 : (S 2).rc = nz (List.range L.length)
  c0 : ∀ i, (S i).c0.length ≤ M
  c1 : ∀ i, (S i).c1.length ≤ M
  lk : LOk L ep snt
  hb : ∀ k ∈ hs, k < L.length
  xm : xs.length ≤ M
  hm : hs.length ≤ M
  lm : L.length ≤ M
  w1 : 1 ≤ size
def Inv (C : Addr) (size : Int) (p : Fin 3 → Addr) (D : Ads) (nms : List V) (H : Hp) (M : Nat) (L : List (Int × Int × Str)) : Prop := ∃ o A S hs xs ep snt, Wd C o A D H S L hs xs ep snt nms ∧ Nu S L hs xs ep snt size M ∧ ∀ i, (A i).p = p i

/-! ### the numbers of a step -/
def stg (g : TS → TS) (S : Fin 3 → TS) (n : Nat) : Fin 3 → TS := fun j => if j.val < n then g (S j) else S j
theorem stg_0 (g : TS → TS) (S : Fin 3 → TS) : stg g S 0 = S := funext fun j => if_neg (Nat.not_lt_zero _)
theorem stg_3 (g : TS → TS) (S : Fin 3 → TS) : stg g S 3 = fun j => g (S j) := funext fun j => if_pos j.isLt
theorem upF_self {α : Type} (f : Fin 3 → α) (i : Fin 3) : upF f i (f i) = f := funext fun j => by
  by_cases h : j = i
  · subst h; exact upF_eq
  · exact upF_ne h
theorem stg_up (g : TS → TS) (S : Fin 3 → TS) (i : Fin 3) : upF (stg g S i.val) i (g (S i)) = stg g S (i.val + 1) := funext fun j => by
  by_cases h : j = i
  · subst h
    rw [upF_eq]
    exact (if_pos (Nat.lt_succ_self _)).symm
  · rw [upF_ne h]
    have : j.val ≠ i.val := fun e => h (Fin.ext e)
    unfold stg
    by_cases h2 : j.val < i.val
    · rw [if_pos h2, if_pos (by omega)]
    · rw [if_neg h2, if_neg (by omega)]
section
variable {C : Addr} {o : Addr → Nat} {A : Fin 3 → TD} {D : Ads} {H H' : Hp} {S : Fin 3 → TS} {L : List (Int × Int × Str)} {hs xs : List Nat} {ep snt : Int} {nms : List V} {g : TS → TS}
theorem Wd.pre (i : Fin 3) (W : Wd C o A D H (stg g S i.val) L hs xs ep snt nms) : Tun C (A i) H (S i) := by
  have := W.t i
  unfold stg at this
  rw [if_neg (Nat.lt_irrefl _)] at this
  exact this
theorem Wd.stg (i : Fin 3) (W : Wd C o A D H (stg g S i.val) L hs xs ep snt nms) (f : Frm (ft (A i)) H H') (T : Tun C (A i) H' (g (S i))) : ∃ o', Wd C o' A D H' (Mu.stg g S (i.val + 1)) L hs xs ep snt nms := by
  have := W.tun i f (Own.refl _ _) T
  rw [upF_self, stg_up] at this
  exact ⟨_, this⟩
end
theorem Iv.of {S S' : TS} {P : Ev → Prop} (I : Iv S P) (h1 : S'.win = S.win) (h2 : S'.nw = S.nw) (h3 : S'.c0 = S.c0) (h4 : S'.c1 = S.c1) (h5 : S'.t0 = S.t0) (h6 : S'.t1 = S.t1) : Iv S' P := by
  obtain ⟨⟨a, b, c, d⟩, e⟩ := I
  refine ⟨⟨?_, ?_, ?_, ?_⟩, ?_⟩
  · rw [h5, h2]; exact a
  · rw [h6, h2]; exact b
  · rw [h5, h1, h3, h2]; exact c
  · rw [h6, h1, h4, h2]; exact d
  · rw [h2]; exact e
def gRek (T : TS) : TS := { T with ep := T.ep + 1, snt := 0 }
def gSnd (z : Str) (T : TS) : TS := { T with ls := T.ls ++ [(T.ep, T.snt, z)], snt := T.snt + 1 }
section
variable {S : Fin 3 → TS} {L : List (Int × Int × Str)} {hs xs : List Nat} {ep snt size : Int} {M : Nat}
theorem Nu.rekey (N : Nu S L hs xs ep snt size M) (h : ep < 12) : Nu (fun j => gRek (S j)) L hs xs (ep + 1) 0 size M :=
  ⟨N.ls, fun i => by show (S i).ep + 1 = _; rw [N.epp], fun i => rfl, N.wn, N.iv0.of rfl rfl rfl rfl rfl rfl, N.iv1.of rfl rfl rfl rfl rfl rfl, N.iv2.of rfl rfl rfl rfl rfl rfl, N.rc0, N.rc1, N.rc2, N.c0, N.c1, N.lk.rekey h, N.hb, N.xm, N.hm, N.lm, N.w1⟩
theorem Nu.send (N : Nu S L hs xs ep snt size M) {z : Str} (hz : Nm z) : (dlv (gSnd z (S 2)) L.length ep snt).1 = "taken" ∧ Nu (upF (fun j => gSnd z (S j)) 2 (dlv (gSnd z (S 2)) L.length ep snt).2) (L ++ [(ep, snt, z)]) hs xs ep (snt + 1) size (M + 1) := by
  have K := N.lk.send hz
  have hbr : ∀ k ∈ List.range L.length, k < L.length := fun k hk => List.mem_range.mp hk
  have I2 : Iv (gSnd z (S 2)) (evs (L ++ [(ep, snt, z)]) (List.range L.length)) := Iv.congr (S := gSnd z (S 2)) (N.iv2.of rfl rfl rfl rfl rfl rfl) (evs_app _ hbr)
  obtain ⟨tp, htp⟩ := istop_ex (L ++ [(ep, snt, z)]) (List.range L.length) ep
  have nn := K.nn (List.range L.length)
  have win : (gSnd z (S 2)).win = size := N.wn 2
  have hn : (L ++ [(ep, snt, z)])[L.length]? = some (ep, snt, z) := List.getElem?_concat_length
  have below : ∀ x, evs (L ++ [(ep, snt, z)]) (List.range L.length) x → x.1 < ep ∨ (x.1 = ep ∧ x.2 < snt) := by
    rintro x hx
    obtain ⟨k, hk, y, hy, rfl⟩ := (evs_app _ hbr x).mp hx
    exact N.lk.lst y (List.mem_of_getElem? hy)
  obtain ⟨w1, w2⟩ := dlv_ok I2 (by rw [win]; exact N.w1) L.length ep snt N.lk.e0 N.lk.s0 I2.nw htp nn
  have e1 : ¬ ep < (gSnd z (S 2)).nw - 1 := by
    rcases I2.nw.2.2 with q | ⟨x, hx, q⟩
    · have := N.lk.e0; omega
    · rcases below x hx with r | r <;> omega
  have e2 : ¬ snt ≤ tp - (gSnd z (S 2)).win := by
    have s0 := N.lk.s0
    have w := N.w1
    rcases htp.2 with q | q
    · omega
    · rcases below _ q with r | r
      · have : ep < ep := r; omega
      · have : tp < snt := r.2; omega
  have e3 : ¬ evs (L ++ [(ep, snt, z)]) (List.range L.length) (ep, snt) := fun q => by
    rcases below _ q with r | r
    · have : ep < ep := r; omega
    · have : snt < snt := r.2; omega
  unfold wd at w1
  rw [if_neg e1, if_neg e2, if_neg e3] at w1
  refine ⟨w1, ?_⟩
  obtain ⟨st, rc, b0, b1⟩ := dlv_stay (gSnd z (S 2)) L.length ep snt (m := M) (N.c0 2) (N.c1 2)
  rw [if_pos w1] at rc
  have three : ∀ j : Fin 3, j = 0 ∨ j = 1 ∨ j = 2 := by decide
  have gls : ∀ j, (gSnd z (S j)).ls = L ++ [(ep, snt, z)] := fun j => by show (S j).ls ++ [((S j).ep, (S j).snt, z)] = _; rw [N.ls, N.epp, N.sn]
  have gsn : ∀ j, (gSnd z (S j)).snt = snt + 1 := fun j => by show (S j).snt + 1 = _; rw [N.sn]
  have at2 : upF (fun j => gSnd z (S j)) 2 (dlv (gSnd z (S 2)) L.length ep snt).2 2 = (dlv (gSnd z (S 2)) L.length ep snt).2 := upF_eq
  have at0 : upF (fun j => gSnd z (S j)) 2 (dlv (gSnd z (S 2)) L.length ep snt).2 0 = gSnd z (S 0) := upF_ne (by decide)
  have at1 : upF (fun j => gSnd z (S j)) 2 (dlv (gSnd z (S 2)) L.length ep snt).2 1 = gSnd z (S 1) := upF_ne (by decide)
  have len : (L ++ [(ep, snt, z)]).length = L.length + 1 := by rw [List.length_append]; rfl
  have hM := N.lm
  refine ⟨?_, ?_, ?_, ?_, ?_, ?_, ?_, ?_, ?_, ?_, ?_, ?_, K, fun k hk => by have := N.hb k hk; omega, by have := N.xm; omega, by have := N.hm; omega, by omega, N.w1⟩
  · intro i; rcases three i with rfl | rfl | rfl
    · rw [at0]; exact gls 0
    · rw [at1]; exact gls 1
    · rw [at2, st.ls]; exact gls 2
  · intro i; rcases three i with rfl | rfl | rfl
    · rw [at0]; exact N.epp 0
    · rw [at1]; exact N.epp 1
    · rw [at2, st.ep]; exact N.epp 2
  · intro i; rcases three i with rfl | rfl | rfl
    · rw [at0]; exact gsn 0
    · rw [at1]; exact gsn 1
    · rw [at2, st.snt]; exact gsn 2
  · intro i; rcases three i with rfl | rfl | rfl
    · rw [at0]; exact N.wn 0
    · rw [at1]; exact N.wn 1
    · rw [at2, st.win]; exact N.wn 2
  · rw [at0]; exact Iv.congr (S := gSnd z (S 0)) (N.iv0.of rfl rfl rfl rfl rfl rfl) (evs_app _ N.hb)
  · rw [at1]; exact Iv.congr (S := gSnd z (S 1)) (N.iv1.of rfl rfl rfl rfl rfl rfl) (evs_app _ N.hb)
  · rw [at2, len, List.range_succ]; exact w2.congr (evs_add hn)
  · rw [at0]; exact N.rc0
  · rw [at1]; exact N.rc1
  · rw [at2, rc, len, List.range_succ, nz_app]
    show (S 2).rc ++ _ = _
    rw [N.rc2]
    rfl
  · intro i; rcases three i with rfl | rfl | rfl
    · rw [at0]; exact Nat.le_succ_of_le (N.c0 0)
    · rw [at1]; exact Nat.le_succ_of_le (N.c0 1)
    · rw [at2]; exact b0
  · intro i; rcases three i with rfl | rfl | rfl
    · rw [at0]; exact Nat.le_succ_of_le (N.c1 0)
    · rw [at1]; exact Nat.le_succ_of_le (N.c1 1)
    · rw [at2]; exact b1
/-- one letter is delivered -/
theorem Nu.one (N : Nu S L hs xs ep snt size M) (i : Fin 3) (I : Iv (S i) (evs L hs)) {n : Nat} {x : Int × Int × Str} (hn : L[n]? = some x) {nw tp : Int} (h1 : IsNew nw (evs L hs)) (h2 : IsTop tp x.1 (evs L hs)) :
    (dlv (S i) n x.1 x.2.1).1 = wd size nw tp x.1 x.2.1 (n ∈ hs) ∧ Iv (dlv (S i) n x.1 x.2.1).2 (evs L (hs ++ [n])) := by
  obtain ⟨z0, z1, _, _⟩ := N.lk.z x (List.mem_of_getElem? hn)
  obtain ⟨w1, w2⟩ := dlv_ok I (by rw [N.wn]; exact N.w1) n x.1 x.2.1 z0 z1 h1 h2 (N.lk.nn hs)
  refine ⟨?_, w2.congr (evs_add hn)⟩
  rw [w1, N.wn, show evs L hs (x.1, x.2.1) = (n ∈ hs) from propext (N.lk.ev hn)]
theorem wd_again {win nw tp e c : Int} {p : Prop} (h : p) : wd win nw tp e c p ≠ "taken" := by
  unfold wd
  split
  · decide +kernel
  · split
    · decide +kernel
    · first | decide +kernel | (rw [if_pos h]; decide +kernel)
theorem Nu.deliver (N : Nu S L hs xs ep snt size M) {n : Nat} {x : Int × Int × Str} (hn : L[n]? = some x) {nw tp : Int} (h1 : IsNew nw (evs L hs)) (h2 : IsTop tp x.1 (evs L hs)) {w : Str} (hw : w = wd size nw tp x.1 x.2.1 (n ∈ hs)) :
    Nu (upF (upF S 0 (dlv (S 0) n x.1 x.2.1).2) 1 (if n ∈ hs then S 1 else (dlv (S 1) n x.1 x.2.1).2)) L (hs ++ [n]) (if w = "taken" then xs ++ [n] else xs) ep snt size (M + 1) := by
  obtain ⟨a1, a2⟩ := N.one 0 N.iv0 hn h1 h2
  obtain ⟨b1, b2⟩ := N.one 1 N.iv1 hn h1 h2
  obtain ⟨st, rc, l0, l1⟩ := dlv_stay (S 0) n x.1 x.2.1 (m := M) (N.c0 0) (N.c1 0)
  obtain ⟨st', rc', l0', l1'⟩ := dlv_stay (S 1) n x.1 x.2.1 (m := M) (N.c0 1) (N.c1 1)
  rw [a1, ← hw] at rc
  rw [b1, ← hw] at rc'
  have three : ∀ j : Fin 3, j = 0 ∨ j = 1 ∨ j = 2 := by decide
  have nzz : ∀ (q : Prop) [Decidable q] (r : List Int), r = nz xs → (if q then r ++ [(n : Int)] else r) = nz (if q then xs ++ [n] else xs) := fun q _ r e => by
    split
    · rw [nz_app, e]; rfl
    · exact e
  have at2 : ∀ {T0 T1 : TS}, upF (upF S 0 T0) 1 T1 2 = S 2 := fun {T0 T1} => by rw [upF_ne (by decide), upF_ne (by decide)]
  have at0 : ∀ {T0 T1 : TS}, upF (upF S 0 T0) 1 T1 0 = T0 := fun {T0 T1} => by rw [upF_ne (by decide), upF_eq]
  have at1 : ∀ {T0 T1 : TS}, upF (upF S 0 T0) 1 T1 1 = T1 := fun {T0 T1} => upF_eq
  have one : ∀ Q : TS → Prop, Q (S 1) → Q (dlv (S 1) n x.1 x.2.1).2 → Q (if n ∈ hs then S 1 else (dlv (S 1) n x.1 x.2.1).2) := fun Q q1 q2 => by
    split
    · exact q1
    · exact q2
  have xm := N.xm
  refine ⟨?_, ?_, ?_, ?_, ?_, ?_, ?_, ?_, ?_, ?_, ?_, ?_, N.lk, fun k hk => ?_, ?_, by rw [List.length_append]; exact Nat.succ_le_succ N.hm, Nat.le_succ_of_le N.lm, N.w1⟩
  · intro i; rcases three i with rfl | rfl | rfl
    · rw [at0, st.ls]; exact N.ls 0
    · rw [at1]; exact one (fun T => T.ls = L) (N.ls 1) (by rw [st'.ls]; exact N.ls 1)
    · rw [at2]; exact N.ls 2
  · intro i; rcases three i with rfl | rfl | rfl
    · rw [at0, st.ep]; exact N.epp 0
    · rw [at1]; exact one (fun T => T.ep = ep) (N.epp 1) (by rw [st'.ep]; exact N.epp 1)
    · rw [at2]; exact N.epp 2
  · intro i; rcases three i with rfl | rfl | rfl
    · rw [at0, st.snt]; exact N.sn 0
    · rw [at1]; exact one (fun T => T.snt = snt) (N.sn 1) (by rw [st'.snt]; exact N.sn 1)
    · rw [at2]; exact N.sn 2
  · intro i; rcases three i with rfl | rfl | rfl
    · rw [at0, st.win]; exact N.wn 0
    · rw [at1]; exact one (fun T => T.win = size) (N.wn 1) (by rw [st'.win]; exact N.wn 1)
    · rw [at2]; exact N.wn 2
  · rw [at0]; exact a2
  · rw [at1]
    split
    · rename_i hin
      refine N.iv1.congr fun y => (evs_add hn y).trans (add_in ?_ y)
      exact (N.lk.ev hn).mpr hin
    · exact b2
  · rw [at2]; exact N.iv2
  · rw [at0, rc]; exact nzz _ _ N.rc0
  · rw [at1]
    split
    · rename_i hin
      rw [if_neg (by rw [hw]; exact wd_again hin)]
      exact N.rc1
    · rw [rc']; exact nzz _ _ N.rc1
  · rw [at2]; exact N.rc2
  · intro i; rcases three i with rfl | rfl | rfl
    · rw [at0]; exact l0
    · rw [at1]; exact one (fun T => T.c0.length ≤ M + 1) (Nat.le_succ_of_le (N.c0 1)) l0'
    · rw [at2]; exact Nat.le_succ_of_le (N.c0 2)
  · intro i; rcases three i with rfl | rfl | rfl
    · rw [at0]; exact l1
    · rw [at1]; exact one (fun T => T.c1.length ≤ M + 1) (Nat.le_succ_of_le (N.c1 1)) l1'
    · rw [at2]; exact Nat.le_succ_of_le (N.c1 2)
  · rcases List.mem_append.mp hk with h | h
    · exact N.hb k h
    · cases List.mem_singleton.mp h; exact (List.getElem?_eq_some_iff.mp hn).1
  · split
    · rw [List.length_append]; exact Nat.succ_le_succ xm
    · exact Nat.le_succ_of_le xm
end

/-! ### the law's steps: rekey, send -/
def sp_lsend (C : Addr) : Sp := fun vs H Q _ => ∃ (size : Int) (p : Fin 3 → Addr) (D : Ads) (nms : List V) (M : Nat) (L : List (Int × Int × Str)) (z : Str), vs = [.ref (p 0), .ref (p 1), .ref (p 2), .ref D.ll, .ref D.sl, .str z] ∧ Inv C size p D nms H M L ∧ M ≤ 400 ∧ Nm z ∧ ∀ H' L', L'.length = L.length + 1 → Inv C size p D nms H' (M + 1) L' → Q (.bl true) H'
def sp_lrekey (C : Addr) : Sp := fun vs H Q _ => ∃ (size : Int) (p : Fin 3 → Addr) (D : Ads) (nms : List V) (M : Nat) (L : List (Int × Int × Str)), vs = [.ref (p 0), .ref (p 1), .ref (p 2), .ref D.sl] ∧ Inv C size p D nms H M L ∧ ∀ H', Inv C size p D nms H' M L → Q (.bl true) H'
theorem Wd.in {C : Addr} {o : Addr → Nat} {A : Fin 3 → TD} {D : Ads} {H : Hp} {S : Fin 3 → TS} {L : List (Int × Int × Str)} {hs xs : List Nat} {ep snt : Int} {nms : List V} (W : Wd C o A D H S L hs xs ep snt nms) {p : Fin 3 → Addr} (hp : ∀ i, (A i).p = p i) (i : Fin 3) : H (p i) = some (.ins C (A i).dx (tfs (A i) (S i))) := by rw [← hp i]; exact (W.t i).ins
theorem d3 {H : Hp} {a : Addr} {n : Int} (h : H a = some (.tup [.int n, .int n, .int n])) : DAt H (.ref a) (.tuple [.int n, .int n, .int n]) := DAt.tup h (DsAt.cons (.int n) (DsAt.cons (.int n) (DsAt.cons (.int n) DsAt.nil)))
theorem w_lstRg {tr : L2.St → Hp → (Int → Int → Hp → Prop) → Prop} {σ : L2.St} {H : Hp} {Q : VK} (q : tr σ H fun a b H1 => RgOk a b ∧ ∀ q, H1 q = none → Q (.ref q) (upd H1 q (.lst (rgV a b)))) : tLstRg tr σ H Q := q
theorem w_rg1 {ta : TE} {σ : L2.St} {H : Hp} {Q : Int → Int → Hp → Prop} (q : ta σ H fun x H1 => ∃ n, x = .int n ∧ Q 0 n H1) : tRg1 ta σ H Q := q
theorem rgV_nz (n : Nat) : rgV 0 (n : Int) = inz (nz (List.range n)) := by
  unfold rgV inz nz
  rw [List.map_map, show ((n : Int) - 0).toNat = n by omega]
  refine List.map_congr_left fun i _ => ?_
  show V.int (0 + (i : Int)) = V.int (i : Int)
  rw [Int.zero_add]
theorem inz_d {H : Hp} : ∀ a : List Int, DsAt H (inz a) (a.map PyData.int)
  | [] => .nil
  | n :: a => .cons (.int n) (inz_d a)
theorem tup_inz {H : Hp} {q : Addr} {a : List Int} (h : H q = some (.tup (inz a))) : DAt H (.ref q) (.tuple (a.map PyData.int)) := .tup h (inz_d a)
theorem dq_inz {a : List Int} (h : a.length ≤ 500) : Dq 2 (.tuple (a.map PyData.int)) := .inr (.inr (.inr ⟨_, rfl, by rw [List.length_map]; exact h, fun e he => by
  obtain ⟨n, _, rfl⟩ := List.mem_map.mp he
  exact .inr (.inl ⟨n, rfl⟩)⟩))
section
variable {P : Program} {w : World} {K : PySem.W.Frag} {mg : Str → Option Value} {base : Heap}
theorem ok_law_rekey (T : Top K mg) : FnOk P w K mg base CX0 5 T.f_law_rekey T.d_law_rekey ["every", "once", "direct", "sender"] (sp_lrekey T.C_Tunnel) := by
  refine T.F_law_rekey.ok sc_law_rekey (fun vs H Q E h => ?_) (fun cdv A outer s H vs Q E hr h => ?_)
  · obtain ⟨size, p, D, nms, M, L, rfl, _⟩ := h
    rfl
  · obtain ⟨size, p, D, nms, M, L, rfl, ⟨o, A', S, hs, xs, ep, snt, W, N, hp⟩, q⟩ := h
    refine ⟨_, (pss_cons (ps_if (pt_cmpR op_lt (pe_ix ix_list (pv 3) pe_int (fun _ _ => rfl)) pe_int (nomark _))
    (pss_cons (ps_asg (pe_op op_add (pe_ix ix_list (pv 3) pe_int (fun _ _ => rfl)) pe_int) (pg_sub (pv 3) pe_int set_list))
     (pss_cons (ps_asg pe_int (pg_sub (pv 3) pe_int set_list))
      (pss_one (ps_ret (pe_call (ok_law_same T 2) hr (by rfl) T.g_law_same T.F_law_same.kp T.b_law_same .nil pass0 (pa_cons (pe_tup (pa_cons (pe_meth0 (pv 0) T.cl_Tunnel T.mTunnel_rekey (okTunnel_rekey T) (hr.mono (by decide)) T.bTunnel_rekey .nil pass0) (pa_cons (pe_meth0 (pv 1) T.cl_Tunnel T.mTunnel_rekey (okTunnel_rekey T) (hr.mono (by decide)) T.bTunnel_rekey .nil pass0) (pa_cons (pe_meth0 (pv 2) T.cl_Tunnel T.mTunnel_rekey (okTunnel_rekey T) (hr.mono (by decide)) T.bTunnel_rekey .nil pass0) pa_nil)))) (pa_cons (pe_tup (pa_cons pe_non (pa_cons pe_non (pa_cons pe_non pa_nil)))) pa_nil)))))))
    pss_nil)
    (pss_one (ps_ret pe_bl))), ?_⟩
    have hsl := W.s
    repeat walk_at "s"
    refine ite2 (fun h => ?_) (fun h => ?_)
    · have hep : ep < 12 := of_decide_eq_true h
      repeat walk_at "s"
      have W1 : Wd T.C_Tunnel o A' D (upd (upd H D.sl (.lst ([V.int ep, V.int snt].set (Int.toNat 0) (V.int (ep + 1))))) D.sl (.lst (([V.int ep, V.int snt].set (Int.toNat 0) (V.int (ep + 1))).set (Int.toNat 1) (V.int 0)))) S L hs xs (ep + 1) 0 nms := (W.sl (ep' := ep + 1) (snt' := snt)).sl
      generalize upd (upd H D.sl (.lst ([V.int ep, V.int snt].set (Int.toNat 0) (V.int (ep + 1))))) D.sl (.lst (([V.int ep, V.int snt].set (Int.toNat 0) (V.int (ep + 1))).set (Int.toNat 1) (V.int 0))) = H2 at W1 ⊢
      rw [← stg_0 gRek S] at W1
      have U0 := Wd.pre 0 W1
      refine ⟨(A' 0).p, _, _, by rw [hp 0], U0.ins, tn5 _ _, ?_⟩
      repeat walk_at "s"
      refine ⟨A' 0, S 0, by rw [hp 0]; rfl, U0, by rw [N.epp]; omega, fun H3 f3 U3 => ?_⟩
      obtain ⟨o3, W3⟩ := Wd.stg 0 W1 f3 U3
      have U1 := Wd.pre 1 W3
      repeat walk_at "s"
      refine ⟨(A' 1).p, _, _, by rw [hp 1], U1.ins, tn5 _ _, ?_⟩
      repeat walk_at "s"
      refine ⟨A' 1, S 1, by rw [hp 1]; rfl, U1, by rw [N.epp]; omega, fun H4 f4 U4 => ?_⟩
      obtain ⟨o4, W4⟩ := Wd.stg 1 W3 f4 U4
      have U2 := Wd.pre 2 W4
      repeat walk_at "s"
      refine ⟨(A' 2).p, _, _, by rw [hp 2], U2.ins, tn5 _ _, ?_⟩
      repeat walk_at "s"
      refine ⟨A' 2, S 2, by rw [hp 2]; rfl, U2, by rw [N.epp]; omega, fun H5 f5 U5 => ?_⟩
      obtain ⟨o5, W5⟩ := Wd.stg 2 W4 f5 U5
      have W5' : Wd T.C_Tunnel o5 A' D H5 (stg gRek S 3) L hs xs (ep + 1) 0 nms := W5
      rw [stg_3] at W5'
      repeat walk_at "s"
      refine ⟨by walk_at "len", fun t1 ht1 => ?_⟩
      repeat walk_at "s"
      refine ⟨by walk_at "len", fun t2 ht2 => ?_⟩
      have s1 := sm_new (o := .tup [.non, .non, .non]) ht1
      have s2 := sm_new (o := .tup [.non, .non, .non]) ht2
      have d1 := DAt.tup (s2 _ _ upd_same) (DsAt.cons DAt.non (DsAt.cons DAt.non (DsAt.cons DAt.non DsAt.nil)))
      have d2 := DAt.tup (a := t2) (upd_same (H := upd H5 t1 (.tup [.non, .non, .non]))) (DsAt.cons DAt.non (DsAt.cons DAt.non (DsAt.cons DAt.non DsAt.nil)))
      repeat walk_at "s"
      refine ⟨_, _, rfl, .inr ⟨_, d1, d2, .inr (.inr (.inr ⟨_, rfl, by decide, fun e he => ?_⟩)), fun H6 s6 => ?_⟩⟩
      · simp only [List.mem_cons, List.not_mem_nil, or_false, or_self] at he
        subst he
        exact .inr (.inr (.inl rfl))
      repeat walk_at "s"
      exact q H6 ⟨o5, A', _, hs, xs, ep + 1, 0, ((W5'.same s1).same s2).same s6, N.rekey hep, hp⟩
    · repeat walk_at "s"
      exact q H ⟨o, A', S, hs, xs, ep, snt, W, N, hp⟩
theorem ok_law_send (T : Top K mg) : FnOk P w K mg base CX0 5 T.f_law_send T.d_law_send ["every", "once", "direct", "letters", "sender", "payload"] (sp_lsend T.C_Tunnel) := by
  refine T.F_law_send.ok sc_law_send (fun vs H Q E h => ?_) (fun cdv A outer s H vs Q E hr h => ?_)
  · obtain ⟨size, p, D, nms, M, L, z, rfl, _⟩ := h
    rfl
  · obtain ⟨size, p, D, nms, M, L, z, rfl, ⟨o, A', S, hs, xs, ep, snt, W, N, hp⟩, hM, hz, q⟩ := h
    refine ⟨_, (pss_cons (ps_set (i := 6) sc_law_send.nd rfl (Or.inl rfl) (pe_callB call_len_seq (by rfl) T.z_len (by decide +kernel) (pa_cons (pv 3) pa_nil)))
    (pss_cons (ps_if (pt_not (pt_val (pe_call (ok_law_same T 2) hr (by rfl) T.g_law_same T.F_law_same.kp T.b_law_same .nil pass0 (pa_cons (pe_tup (pa_cons (pe_meth (pv 0) T.cl_Tunnel T.mTunnel_send (okTunnel_send T) (hr.mono (by decide)) T.bTunnel_send .nil pass0 (pa_cons (pv 5) pa_nil)) (pa_cons (pe_meth (pv 1) T.cl_Tunnel T.mTunnel_send (okTunnel_send T) (hr.mono (by decide)) T.bTunnel_send .nil pass0 (pa_cons (pv 5) pa_nil)) (pa_cons (pe_meth (pv 2) T.cl_Tunnel T.mTunnel_send (okTunnel_send T) (hr.mono (by decide)) T.bTunnel_send .nil pass0 (pa_cons (pv 5) pa_nil)) pa_nil)))) (pa_cons (pe_tup (pa_cons (pv 6) (pa_cons (pv 6) (pa_cons (pv 6) pa_nil)))) pa_nil)))))
     (pss_one (ps_ret pe_bl))
     pss_nil)
     (pss_cons (ps_expr (pe_bm PySem.F.plainAttrs_list PySem.F.slot_list_append PySem.F.type_list_append mt_append (pv 3) (pa_cons (pe_tup (pa_cons (pe_ix ix_list (pv 4) pe_int (fun _ _ => rfl)) (pa_cons (pe_ix ix_list (pv 4) pe_int (fun _ _ => rfl)) (pa_cons (pv 5) pa_nil)))) pa_nil)))
      (pss_cons (ps_asg (pe_op op_add (pe_ix ix_list (pv 4) pe_int (fun _ _ => rfl)) pe_int) (pg_sub (pv 4) pe_int set_list))
       (pss_one (ps_ret (pe_and (pe_call (ok_law_same T 2) hr (by rfl) T.g_law_same T.F_law_same.kp T.b_law_same .nil pass0 (pa_cons (pe_meth (pv 2) T.cl_Tunnel T.mTunnel_deliver (okTunnel_deliver T) (hr.mono (by decide)) T.bTunnel_deliver .nil pass0 (pa_cons (pv 6) pa_nil)) (pa_cons pe_str pa_nil))) (pe_one (pe_call (ok_law_same T 2) hr (by rfl) T.g_law_same T.F_law_same.kp T.b_law_same .nil pass0 (pa_cons (pe_prop (pv 2) T.cl_Tunnel T.pr_Tunnel_received (okTunnel_received T) (hr.mono (by decide)) T.bTunnel_received .nil pass0 rfl) (pa_cons (pe_callTy call_tuple_of (by rfl) T.z_tuple (by decide +kernel) (pa_cons (pe_listRg rfl (by rfl) T.z_list (prg_1 (by rfl) T.z_range (pe_op op_add (pv 6) pe_int))) pa_nil)) pa_nil))))))))))), ?_⟩
    obtain ⟨us, hus, dus⟩ := W.l
    have lus := dus.length
    rw [List.length_map] at lus
    have hLM := N.lm
    repeat walk_at "s"
    rw [← stg_0 (gSnd z) S] at W
    have U0 := Wd.pre 0 W
    refine ⟨(A' 0).p, _, _, by rw [hp 0], U0.ins, tn4 _ _, ?_⟩
    repeat walk_at "s"
    refine ⟨A' 0, S 0, z, by rw [hp 0]; rfl, U0, hz, by rw [N.ls]; omega, fun H3 f3 U3 => ?_⟩
    obtain ⟨o3, W3⟩ := Wd.stg 0 W f3 U3
    have U1 := Wd.pre 1 W3
    repeat walk_at "s"
    refine ⟨(A' 1).p, _, _, by rw [hp 1], U1.ins, tn4 _ _, ?_⟩
    repeat walk_at "s"
    refine ⟨A' 1, S 1, z, by rw [hp 1]; rfl, U1, hz, by rw [N.ls]; omega, fun H4 f4 U4 => ?_⟩
    obtain ⟨o4, W4⟩ := Wd.stg 1 W3 f4 U4
    have U2 := Wd.pre 2 W4
    repeat walk_at "s"
    refine ⟨(A' 2).p, _, _, by rw [hp 2], U2.ins, tn4 _ _, ?_⟩
    repeat walk_at "s"
    refine ⟨A' 2, S 2, z, by rw [hp 2]; rfl, U2, hz, by rw [N.ls]; omega, fun H5 f5 U5 => ?_⟩
    obtain ⟨o5, W5⟩ := Wd.stg 2 W4 f5 U5
    have W5' : Wd T.C_Tunnel o5 A' D H5 (stg (gSnd z) S 3) L hs xs ep snt nms := W5
    rw [stg_3] at W5'
    repeat walk_at "s"
    refine ⟨by walk_at "len", fun t1 ht1 => ?_⟩
    repeat walk_at "s"
    refine ⟨by walk_at "len", fun t2 ht2 => ?_⟩
    rw [N.ls, N.ls, N.ls] at ht2 ⊢
    rw [lus]
    have s1 := sm_new (o := .tup [.int (L.length : Int), .int (L.length : Int), .int (L.length : Int)]) ht1
    have s2 := sm_new (o := .tup [.int (L.length : Int), .int (L.length : Int), .int (L.length : Int)]) ht2
    have d1 := d3 (s2 _ _ upd_same)
    have d2 := d3 (a := t2) (n := (L.length : Int)) (upd_same (H := upd H5 t1 (.tup [.int (L.length : Int), .int (L.length : Int), .int (L.length : Int)])))
    repeat walk_at "s"
    refine ⟨_, _, rfl, .inr ⟨_, d1, d2, .inr (.inr (.inr ⟨_, rfl, by show 3 ≤ 500; decide, fun e he => ?_⟩)), fun H6 s6 => ?_⟩⟩
    · simp only [List.mem_cons, List.not_mem_nil, or_false, or_self] at he
      subst he
      exact .inr (.inl ⟨_, rfl⟩)
    have W6 := ((W5'.same s1).same s2).same s6
    obtain ⟨us6, hus6, dus6⟩ := W6.l
    have lus6 := dus6.length
    rw [List.length_map] at lus6
    have hs6 := W6.s
    clear d1 d2 s1 s2 s6
    refine ⟨_, rfl, ?_⟩
    refine iteF ?_
    repeat walk_at "s"
    refine ⟨by walk_at "len", fun t3 ht3 => ?_⟩
    have s7 := sm_new (o := .tup [.int ep, .int snt, .str z]) ht3
    have W7 := W6.same s7
    have dz : DAt (upd H6 t3 (.tup [.int ep, .int snt, .str z])) (.ref t3) (ld (ep, snt, z)) := DAt.tup upd_same (DsAt.cons (.int ep) (DsAt.cons (.int snt) (DsAt.cons (.str z) DsAt.nil)))
    have dus7 := dus6.mono (Tk.same s7)
    have hus7 := s7 _ _ hus6
    have hs7 := s7 _ _ hs6
    generalize upd H6 t3 (.tup [.int ep, .int snt, .str z]) = H7 at W7 dz dus7 hus7 hs7 ⊢
    repeat walk_at "s"
    refine w_append hus7 (big99 (by omega)) ?_
    have W8 := W7.ll (L' := L ++ [(ep, snt, z)]) hus7 (by rw [List.map_append]; exact dus7.app (DsAt.cons dz DsAt.nil))
    have hs8 := W8.s
    generalize upd H7 D.ll (.lst (us6 ++ [V.ref t3])) = H8 at W8 hs8 ⊢
    repeat walk_at "s"
    have W9 : Wd T.C_Tunnel o5 A' D (upd H8 D.sl (.lst ([V.int ep, V.int snt].set (Int.toNat 1) (V.int (snt + 1))))) (fun j => gSnd z (S j)) (L ++ [(ep, snt, z)]) hs xs ep (snt + 1) nms := W8.sl
    generalize upd H8 D.sl (.lst ([V.int ep, V.int snt].set (Int.toNat 1) (V.int (snt + 1)))) = H9 at W9 ⊢
    obtain ⟨hw, N'⟩ := N.send hz
    have U9 : Tun T.C_Tunnel (A' 2) H9 (gSnd z (S 2)) := W9.t 2
    have hgs : (gSnd z (S 2)).ls[L.length]? = some (ep, snt, z) := by
      show ((S 2).ls ++ [((S 2).ep, (S 2).snt, z)])[L.length]? = _
      rw [N.ls, N.epp, N.sn]
      exact List.getElem?_concat_length
    refine ⟨(A' 2).p, _, _, by rw [hp 2], U9.ins, tn6 _ _, ?_⟩
    repeat walk_at "s"
    refine ⟨A' 2, gSnd z (S 2), L.length, (ep, snt, z), by rw [hp 2]; rfl, U9, hgs, Nat.lt_of_le_of_lt (N.c0 2) (by omega), Nat.lt_of_le_of_lt (N.c1 2) (by omega), ?_, fun a' H10 ep' f10 ow10 U10 => ?_⟩
    · show (S 2).rc.length < 1000
      rw [N.rc2, nz_len, List.length_range]; omega
    have W10 := W9.tun 2 f10 ow10 U10
    have hp' : ∀ i, (upF A' 2 a' i).p = p i := fun i => by
      by_cases h : i = 2
      · subst h; rw [upF_eq, ep', hp]
      · rw [upF_ne h, hp]
    repeat walk_at "s"
    refine ⟨_, _, rfl, .inl ⟨_, _, rfl, rfl, by decide, ?_⟩⟩
    have hw' : (dlv (gSnd z (S 2)) L.length ep snt).1 = Str.ofString "taken" := hw
    have de : decide ((dlv (gSnd z (S 2)) L.length ep snt).1 = Str.ofString "taken") = true := decide_eq_true hw'
    refine ⟨_, rfl, ?_⟩
    rw [if_pos de]
    have i10 := W10.in hp' 2
    repeat walk_at "s"
    refine w_prop ?_
    repeat walk_at "s"
    refine ⟨p 2, _, _, rfl, i10, upF A' 2 a' 2, _, by rw [hp' 2], W10.t 2, fun r1 H11 s11 hr1 => ?_⟩
    have W11 := W10.same s11
    have hrc := N'.rc2
    have len : (L ++ [(ep, snt, z)]).length = L.length + 1 := by rw [List.length_append]; rfl
    rw [len] at hrc
    rw [hrc] at hr1
    clear s11 W10 i10
    repeat walk_at "s"
    refine w_lstRg (w_rg1 ?_)
    repeat walk_at "s"
    refine ⟨RgOk.of_le (by omega) (by omega) (by omega) (by omega), fun l hl => ?_⟩
    have ern : rgV 0 ((L.length : Int) + 1) = inz (nz (List.range (L.length + 1))) := by rw [show (L.length : Int) + 1 = ((L.length + 1 : Nat) : Int) by omega, rgV_nz]
    rw [ern]
    have s12 := sm_new (o := .lst (inz (nz (List.range (L.length + 1))))) hl
    have e12 := upd_self2 hl (.lst (inz (nz (List.range (L.length + 1)))))
    generalize upd H11 l (.lst (inz (nz (List.range (L.length + 1))))) = H12 at s12 e12 ⊢
    repeat walk_at "s"
    refine ⟨l, _, rfl, .inl ⟨SqL.of e12, fun t hlt => ?_⟩⟩
    have s13 := sm_new (o := .tup (inz (nz (List.range (L.length + 1))))) hlt
    have e13 := upd_self2 hlt (.tup (inz (nz (List.range (L.length + 1)))))
    generalize upd H12 t (.tup (inz (nz (List.range (L.length + 1))))) = H13 at s13 e13 ⊢
    have lr : (nz (List.range (L.length + 1))).length ≤ 500 := by rw [nz_len, List.length_range]; omega
    repeat walk_at "s"
    refine ⟨_, _, rfl, .inr ⟨_, tup_inz (s13 _ _ (s12 _ _ hr1)), tup_inz e13, dq_inz lr, fun H14 s14 => ?_⟩⟩
    exact q H14 _ len ⟨_, _, _, hs, xs, ep, snt + 1, ((W11.same s12).same s13).same s14, N', hp'⟩
end

/-! ### the law's steps: deliver -/
def sp_ldel (C : Addr) : Sp := fun vs H Q _ => ∃ (size : Int) (p : Fin 3 → Addr) (D : Ads) (nms : List V) (M : Nat) (L : List (Int × Int × Str)) (n : Nat), vs = [.ref (p 0), .ref (p 1), .int size, .ref D.ll, .ref D.hl, .ref D.xl, .int (n : Int)] ∧ Inv C size p D nms H M L ∧ M ≤ 400 ∧ n < L.length ∧ ∀ H', Inv C size p D nms H' (M + 1) L → Q (.bl true) H'
theorem j2N {c : Prop} [Decidable c] {t u : Ends → L2.St → Hp → Prop} {D : Ends} {σ : L2.St} {H : Hp} (J : Hp → Prop) (k : ∀ H1, J H1 → D.nx σ H1) (h : ∀ nx : L2.St → Hp → Prop, (∀ H1, J H1 → nx σ H1) → if c then t { D with nx := nx } σ H else u { D with nx := nx } σ H) : if c then t D σ H else u D σ H := h D.nx k
section
variable {P : Program} {w : World} {K : PySem.W.Frag} {mg : Str → Option Value} {base : Heap}
theorem ok_law_deliver (T : Top K mg) : FnOk P w K mg base CX0 5 T.f_law_deliver T.d_law_deliver ["every", "once", "size", "letters", "history", "expected", "number"] (sp_ldel T.C_Tunnel) := by
  refine T.F_law_deliver.ok sc_law_deliver (fun vs H Q E h => ?_) (fun cdv A outer s H vs Q E hr h => ?_)
  · obtain ⟨size, p, D, nms, M, L, n, rfl, _⟩ := h
    rfl
  · obtain ⟨size, p, D, nms, M, L, n, rfl, ⟨o, A', S, hs, xs, ep, snt, W, N, hp⟩, hM, hnL, q⟩ := h
    refine ⟨_, (pss_cons (ps_set (i := 7) sc_law_deliver.nd rfl (Or.inl rfl) (pe_call (ok_law_word T) (hr.mono (by decide)) (by rfl) T.g_law_word T.F_law_word.kp T.b_law_word .nil pass0 (pa_cons (pv 2) (pa_cons (pv 3) (pa_cons (pv 4) (pa_cons (pv 6) pa_nil))))))
    (pss_cons (ps_if (pt_not (pt_val (pe_call (ok_law_same T 2) hr (by rfl) T.g_law_same T.F_law_same.kp T.b_law_same .nil pass0 (pa_cons (pe_meth (pv 0) T.cl_Tunnel T.mTunnel_deliver (okTunnel_deliver T) (hr.mono (by decide)) T.bTunnel_deliver .nil pass0 (pa_cons (pv 6) pa_nil)) (pa_cons (pv 7) pa_nil)))))
     (pss_one (ps_ret pe_bl))
     pss_nil)
     (pss_cons (ps_if (pt_cmpR op_eq (pv 7) pe_str (nomark _))
      (pss_one (ps_expr (pe_bm PySem.F.plainAttrs_list PySem.F.slot_list_append PySem.F.type_list_append mt_append (pv 5) (pa_cons (pv 6) pa_nil))))
      pss_nil)
      (pss_cons (ps_if (PW.pt (pw_and (pt_cmpR op_notIn_seq (pv 6) (pv 4) (by rfl)) (pw_and1 (pt_not (pt_val (pe_call (ok_law_same T 2) hr (by rfl) T.g_law_same T.F_law_same.kp T.b_law_same .nil pass0 (pa_cons (pe_meth (pv 1) T.cl_Tunnel T.mTunnel_deliver (okTunnel_deliver T) (hr.mono (by decide)) T.bTunnel_deliver .nil pass0 (pa_cons (pv 6) pa_nil)) (pa_cons (pv 7) pa_nil))))))))
       (pss_one (ps_ret pe_bl))
       pss_nil)
       (pss_cons (ps_expr (pe_bm PySem.F.plainAttrs_list PySem.F.slot_list_append PySem.F.type_list_append mt_append (pv 4) (pa_cons (pv 6) pa_nil)))
        (pss_one (ps_ret (pe_and (pe_call (ok_law_same T 2) hr (by rfl) T.g_law_same T.F_law_same.kp T.b_law_same .nil pass0 (pa_cons (pe_prop (pv 0) T.cl_Tunnel T.pr_Tunnel_received (okTunnel_received T) (hr.mono (by decide)) T.bTunnel_received .nil pass0 rfl) (pa_cons (pe_callTy call_tuple_of (by rfl) T.z_tuple (by decide +kernel) (pa_cons (pv 5) pa_nil)) pa_nil))) (pe_one (pe_call (ok_law_same T 2) hr (by rfl) T.g_law_same T.F_law_same.kp T.b_law_same .nil pass0 (pa_cons (pe_prop (pv 1) T.cl_Tunnel T.pr_Tunnel_received (okTunnel_received T) (hr.mono (by decide)) T.bTunnel_received .nil pass0 rfl) (pa_cons (pe_callTy call_tuple_of (by rfl) T.z_tuple (by decide +kernel) (pa_cons (pv 5) pa_nil)) pa_nil)))))))))))), ?_⟩
    obtain ⟨x, hn⟩ : ∃ x, L[n]? = some x := ⟨_, List.getElem?_eq_getElem hnL⟩
    repeat walk_at "s"
    refine ⟨size, D.ll, D.hl, L, hs, n, x, rfl, W.l, W.h, hn, N.hb, by have := N.hm; omega, fun H1 nw tp s1 hnew htop => ?_⟩
    obtain ⟨a1, -⟩ := N.one 0 N.iv0 hn hnew htop
    obtain ⟨b1, -⟩ := N.one 1 N.iv1 hn hnew htop
    have N' := N.deliver hn hnew htop rfl
    generalize wd size nw tp x.1 x.2.1 (n ∈ hs) = word at a1 b1 N' ⊢
    have W1 := W.same s1
    have U1 := W1.t 0
    repeat walk_at "s"
    refine ⟨(A' 0).p, _, _, by rw [hp 0], U1.ins, tn6 _ _, ?_⟩
    repeat walk_at "s"
    refine ⟨A' 0, S 0, n, x, by rw [hp 0]; rfl, U1, by rw [N.ls]; exact hn, Nat.lt_of_le_of_lt (N.c0 0) (by omega), Nat.lt_of_le_of_lt (N.c1 0) (by omega), ?_, fun a' H2 ep' f2 ow2 U2 => ?_⟩
    · rw [N.rc0, nz_len]; have := N.xm; omega
    have W2 := W1.tun 0 f2 ow2 U2
    have hp2 : ∀ i, (upF A' 0 a' i).p = p i := fun i => by
      by_cases h : i = 0
      · subst h; rw [upF_eq, ep', hp]
      · rw [upF_ne h, hp]
    rw [a1]
    repeat walk_at "s"
    refine ⟨_, _, rfl, .inl ⟨_, _, rfl, rfl, by decide, ?_⟩⟩
    refine ⟨_, rfl, ?_⟩
    rw [decide_eq_true rfl]
    refine iteF ?_
    repeat walk_at "s"
    have exs : inz (nz (if word = "taken" then xs ++ [n] else xs)) = if word = "taken" then inz (nz xs) ++ [V.int (n : Int)] else inz (nz xs) := by
      split
      · rw [nz_app, inz_app]; rfl
      · rfl
    have xm := N.xm
    have hm := N.hm
    generalize (if word = "taken" then xs ++ [n] else xs) = xs' at exs N' ⊢
    have xm' := N'.xm
    refine j2N (fun H3 => ∃ o3, Wd T.C_Tunnel o3 (upF A' 0 a') D H3 (upF S 0 (dlv (S 0) n x.1 x.2.1).2) L hs xs' ep snt nms) ?_ (fun nx kk => ite2 (fun h => ?_) (fun h => ?_))
    · rintro H3 ⟨o3, W3⟩
      dsimp only
      refine w_seq ?_
      refine j_ifN (fun σ' H4 => σ' = List.set (L2.start N_law_deliver [.ref (p 0), .ref (p 1), .int size, .ref D.ll, .ref D.hl, .ref D.xl, .int (n : Int)]) 7 (some (.str word)) ∧ ∃ o4 A4, (∀ i, (A4 i).p = p i) ∧ Wd T.C_Tunnel o4 A4 D H4 (upF (upF S 0 (dlv (S 0) n x.1 x.2.1).2) 1 (if n ∈ hs then S 1 else (dlv (S 1) n x.1 x.2.1).2)) L hs xs' ep snt nms) ?_ (fun nx kk => ?_)
      · rintro σ' H4 ⟨rfl, o4, A4, hp4, W4⟩
        have hhl := W4.h
        repeat walk_at "s"
        refine w_append hhl (by rw [inz_len, nz_len]; exact big99 (by omega)) ?_
        have ehs : inz (nz hs) ++ [V.int (n : Int)] = inz (nz (hs ++ [n])) := by rw [nz_app, inz_app]; rfl
        rw [ehs]
        have W5 := W4.hl (hs' := hs ++ [n])
        generalize upd H4 D.hl (.lst (inz (nz (hs ++ [n])))) = H5 at W5 ⊢
        have i5 := W5.in hp4 0
        repeat walk_at "s"
        refine w_prop ?_
        repeat walk_at "s"
        refine ⟨p 0, _, _, rfl, i5, A4 0, _, by rw [hp4 0], W5.t 0, fun r1 H6 s6 hr1 => ?_⟩
        rw [N'.rc0] at hr1
        have W6 := W5.same s6
        have hx6 := W6.x
        clear s6 i5
        repeat walk_at "s"
        refine ⟨D.xl, _, rfl, .inl ⟨SqL.of hx6, fun t hlt => ?_⟩⟩
        have s7 := sm_new (o := .tup (inz (nz xs'))) hlt
        have e7 := upd_self2 hlt (.tup (inz (nz xs')))
        generalize upd H6 t (.tup (inz (nz xs'))) = H7 at s7 e7 ⊢
        have lr : (nz xs').length ≤ 500 := by rw [nz_len]; omega
        repeat walk_at "s"
        refine ⟨_, _, rfl, .inr ⟨_, tup_inz (s7 _ _ hr1), tup_inz e7, dq_inz lr, fun H8 s8 => ?_⟩⟩
        have W8 := (W6.same s7).same s8
        clear s7 s8
        refine ⟨_, rfl, ?_⟩
        rw [if_pos rfl]
        have i8 := W8.in hp4 1
        repeat walk_at "s"
        refine w_prop ?_
        repeat walk_at "s"
        refine ⟨p 1, _, _, rfl, i8, A4 1, _, by rw [hp4 1], W8.t 1, fun r2 H9 s9 hr2 => ?_⟩
        rw [N'.rc1] at hr2
        have W9 := W8.same s9
        have hx9 := W9.x
        clear s9 i8
        repeat walk_at "s"
        refine ⟨D.xl, _, rfl, .inl ⟨SqL.of hx9, fun t2 hlt2 => ?_⟩⟩
        have s10 := sm_new (o := .tup (inz (nz xs'))) hlt2
        have e10 := upd_self2 hlt2 (.tup (inz (nz xs')))
        generalize upd H9 t2 (.tup (inz (nz xs'))) = H10 at s10 e10 ⊢
        repeat walk_at "s"
        refine ⟨_, _, rfl, .inr ⟨_, tup_inz (s10 _ _ hr2), tup_inz e10, dq_inz lr, fun H11 s11 => ?_⟩⟩
        exact q H11 ⟨o4, A4, _, hs ++ [n], xs', ep, snt, (W9.same s10).same s11, N', hp4⟩
      · repeat walk_at "s"
        refine w_ninL (SqL.of W3.h) rfl (inz_flat _) ?_
        rw [inz_in]
        repeat walk_at "s"
        refine ite2 (fun g => ?_) (fun g => ?_)
        · have hin : n ∉ hs := fun z => by rw [decide_eq_true (nz_mem.mpr z)] at g; cases g
          have U3 : Tun T.C_Tunnel (A' 1) H3 (S 1) := W3.t 1
          repeat walk_at "s"
          refine ⟨(A' 1).p, _, _, by rw [hp 1], U3.ins, tn6 _ _, ?_⟩
          repeat walk_at "s"
          refine ⟨A' 1, S 1, n, x, by rw [hp 1]; rfl, U3, by rw [N.ls]; exact hn, Nat.lt_of_le_of_lt (N.c0 1) (by omega), Nat.lt_of_le_of_lt (N.c1 1) (by omega), ?_, fun a4 H4 ep4 f4 ow4 U4 => ?_⟩
          · rw [N.rc1, nz_len]; omega
          have W4 := W3.tun 1 (a' := a4) f4 ow4 U4
          have hp4 : ∀ i, (upF (upF A' 0 a') 1 a4 i).p = p i := fun i => by
            by_cases h : i = 1
            · subst h; rw [upF_eq, ep4, hp]
            · rw [upF_ne h, hp2]
          rw [b1]
          repeat walk_at "s"
          refine ⟨_, _, rfl, .inl ⟨_, _, rfl, rfl, by decide, ?_⟩⟩
          refine ⟨_, rfl, ?_⟩
          rw [decide_eq_true rfl]
          refine iteF ?_
          have e4 : (if n ∈ hs then S 1 else (dlv (S 1) n x.1 x.2.1).2) = (dlv (S 1) n x.1 x.2.1).2 := if_neg hin
          rw [← e4] at W4
          exact kk _ _ ⟨rfl, _, _, hp4, W4⟩
        · have hin : n ∈ hs := by
            by_cases z : n ∈ hs
            · exact z
            · rw [decide_eq_false (fun y => z (nz_mem.mp y))] at g
              exact absurd rfl g
          refine iteF ?_
          have e : upF (upF S 0 (dlv (S 0) n x.1 x.2.1).2) 1 (S 1) = upF S 0 (dlv (S 0) n x.1 x.2.1).2 := upF_self _ 1
          have e4 : (if n ∈ hs then S 1 else (dlv (S 1) n x.1 x.2.1).2) = S 1 := if_pos hin
          have W3 : Wd T.C_Tunnel o3 (upF A' 0 a') D H3 (upF S 0 (dlv (S 0) n x.1 x.2.1).2) L hs xs' ep snt nms := W3
          rw [← e, ← e4] at W3
          exact kk _ _ ⟨rfl, o3, upF A' 0 a', hp2, W3⟩
    · have hx2 := W2.x
      have ht : word = "taken" := of_decide_eq_true h
      rw [if_pos ht] at exs
      repeat walk_at "s"
      refine w_append hx2 (by rw [inz_len, nz_len]; exact big99 (by omega)) (kk _ ⟨ext o (0 : Fin 3).val H1, ?_⟩)
      rw [← exs]
      exact W2.xl
    · have ht : ¬ word = "taken" := of_decide_eq_false (ofb h)
      rw [if_neg ht] at exs
      refine kk _ ⟨ext o (0 : Fin 3).val H1, ?_⟩
      have e2 := W2.x
      rw [← exs] at e2
      exact ⟨W2.t, W2.ow, W2.ol, W2.l, W2.h, e2, W2.s, W2.p, W2.n⟩
end

/-! ### the law's shuffle -/
theorem ixN_of {n j : Nat} (hj : j < n) : ixN n (j : Int) = some j := by
  unfold ixN
  rw [if_pos (Int.natCast_nonneg j), if_pos (by omega), Int.toNat_natCast]
theorem swap_perm {l : List Nat} {i j x y : Nat} (hi : l[i]? = some x) (hj : l[j]? = some y) : ((l.set i y).set j x).Perm l := by
  have li := (List.getElem?_eq_some_iff.mp hi).1
  have lj := (List.getElem?_eq_some_iff.mp hj).1
  have ei : l[i] = x := (List.getElem?_eq_some_iff.mp hi).2
  have ej : l[j] = y := (List.getElem?_eq_some_iff.mp hj).2
  rw [List.perm_iff_count]
  intro b
  have lj' : j < (l.set i y).length := by rw [List.length_set]; exact lj
  have e2 : (l.set i y)[j] = y := by
    rw [List.getElem_set]
    split
    · rfl
    · exact ej
  rw [List.count_set lj', e2, List.count_set li, ei]
  have hc : (if (x == b) = true then 1 else 0) ≤ l.count b := by
    split
    · rename_i h
      have : x = b := by simpa using h
      rw [← this, ← ei]
      exact List.count_pos_iff.mpr (List.getElem_mem li)
    · exact Nat.zero_le _
  omega
theorem nz_at {rs : List Nat} {i n : Nat} (h : rs[i]? = some n) : (inz (nz rs))[i]? = some (V.int (n : Int)) := by
  unfold inz nz
  rw [List.getElem?_map, List.getElem?_map, h]
  rfl
theorem nz_set {rs : List Nat} {i n : Nat} : (inz (nz rs)).set i (V.int (n : Int)) = inz (nz (rs.set i n)) := by
  unfold inz nz
  rw [List.map_set, List.map_set]
def sp_shuf : Sp := fun vs H Q _ => ∃ (p f : Addr) (ks : List Nat), vs = [.ref p, .ref f] ∧ Pil H p ∧ H f = some (.lst (inz (nz ks))) ∧ ks.length ≤ 500 ∧ ∀ (r : Addr) (rs : List Nat) (H' : Hp), rs.Perm ks → H r = none → H' r = some (.lst (inz (nz rs))) → Gp p H H' → Q (.ref r) H'
section
variable {P : Program} {w : World} {K : PySem.W.Frag} {mg : Str → Option Value} {base : Heap}
theorem ok_law_shuffled (T : Top K mg) : FnOk P w K mg base CX0 2 T.f_law_shuffled T.d_law_shuffled ["pile", "found"] sp_shuf := by
  refine T.F_law_shuffled.ok sc_law_shuffled (fun vs H Q E h => ?_) (fun cdv A outer s H vs Q E hr h => ?_)
  · obtain ⟨p, f, ks, rfl, _⟩ := h
    rfl
  · obtain ⟨p, f, ks, rfl, hp, hf, hk, q⟩ := h
    refine ⟨_, (pss_cons (ps_set (i := 2) sc_law_shuffled.nd rfl (Or.inl rfl) (pe_callTy call_list_of (by rfl) T.z_list (by decide +kernel) (pa_cons (pv 1) pa_nil)))
    (pss_cons (ps_for PassesOwn.never rfl (pi_range1 (by rfl) T.z_range (pa_cons (pe_callB call_len_seq (by rfl) T.z_len (by decide +kernel) (pa_cons (pv 2) pa_nil)) pa_nil)) (pg_name (i := 3) sc_law_shuffled.nd rfl (Or.inl rfl))
     (pss_cons (ps_set (i := 4) sc_law_shuffled.nd rfl (Or.inl rfl) (pe_call (ok_law_draw T) hr (by rfl) T.g_law_draw T.F_law_draw.kp T.b_law_draw .nil pass0 (pa_cons (pv 0) (pa_cons (pe_callB call_len_seq (by rfl) T.z_len (by decide +kernel) (pa_cons (pv 2) pa_nil)) pa_nil))))
      (pss_cons (ps_set (i := 5) sc_law_shuffled.nd rfl (Or.inl rfl) (pe_ix ix_list (pv 2) (pv 3) (fun _ _ => rfl)))
       (pss_cons (ps_asg (pe_ix ix_list (pv 2) (pv 4) (fun _ _ => rfl)) (pg_sub (pv 2) (pv 3) set_list))
        (pss_one (ps_asg (pv 5) (pg_sub (pv 2) (pv 4) set_list)))))))
     (pss_one (ps_ret (pv 2))))), ?_⟩
    have lk : (inz (nz ks)).length = ks.length := by rw [inz_len, nz_len]
    repeat walk_at "s"
    intro r hr0
    have npr : r ≠ p := hp.ne hr0
    have s1 := sm_new (o := .lst (inz (nz ks))) hr0
    have e1 := upd_self2 hr0 (.lst (inz (nz ks)))
    have g1 := (Gp.refl hp).same s1
    generalize upd H r (.lst (inz (nz ks))) = H1 at s1 e1 g1 ⊢
    repeat walk_at "s"
    rw [lk]
    refine for_range (lo := 0) (n := ks.length) (fun i σ H7 => ∃ (rs : List Nat) (v3 v4 v5 : Option V), σ = [some (.ref p), some (.ref f), some (.ref r), v3, v4, v5] ∧ H7 r = some (.lst (inz (nz rs))) ∧ rs.Perm ks ∧ Gp p H H7) ?_ ?_ ?_
    · exact ⟨ks, none, none, none, rfl, e1, List.Perm.refl _, g1⟩
    · rintro i σ H7 hi ⟨rs, v3, v4, v5, rfl, eR, pm, g7⟩
      have lr : (inz (nz rs)).length = ks.length := by rw [inz_len, nz_len]; exact pm.length_eq
      have lrs : rs.length = ks.length := pm.length_eq
      repeat walk_at "s"
      rw [lr]
      refine ⟨p, (ks.length : Int), rfl, g7.pl, by omega, fun d H8 d0 d1 g8 => ?_⟩
      have eR8 := g8.at eR npr
      obtain ⟨j, rfl⟩ : ∃ j : Nat, d = (j : Int) := ⟨d.toNat, by omega⟩
      have hj : j < rs.length := by omega
      have hir : i < rs.length := by omega
      have hx := List.getElem?_eq_getElem hir
      have hy := List.getElem?_eq_getElem hj
      have pm' := (swap_perm hx hy).trans pm
      generalize rs[i] = x at hx pm'
      generalize rs[j] = y at hy pm'
      have g78 := g7.trans g8
      repeat walk_at "s"
      rw [Int.zero_add]
      refine w_ixL (SqL.of eR8) (atI_nat (nz_at hx)) ?_
      repeat walk_at "s"
      refine w_ixL (SqL.of eR8) (atI_nat (nz_at hy)) ?_
      repeat walk_at "s"
      refine w_setL eR8 (j := i) (by rw [lr]; exact ixN_of (by omega)) ?_
      rw [nz_set]
      have e9 : upd H8 r (.lst (inz (nz (rs.set i y)))) r = some (.lst (inz (nz (rs.set i y)))) := upd_same
      have g9 := g78.mut (o := .lst (inz (nz (rs.set i y)))) hr0 npr
      generalize upd H8 r (.lst (inz (nz (rs.set i y)))) = H9 at e9 g9 ⊢
      repeat walk_at "s"
      refine w_setL e9 (j := j) (by rw [inz_len, nz_len, List.length_set]; exact ixN_of hj) ?_
      rw [nz_set]
      exact ⟨_, _, _, _, rfl, upd_same, pm', g9.mut hr0 npr⟩
    · rintro σ H7 ⟨rs, v3, v4, v5, rfl, eR, pm, g7⟩
      repeat walk_at "s"
      exact q r rs H7 pm hr0 eR g7
end

/-! ### any order -/
def ctF (L : List (Int × Int × Str)) (k : Nat) : Int := match L[k]? with | some y => y.2.1 | none => 0
theorem atI_neg1 {α : Type} {xs : List α} {v : α} (h : xs[xs.length - 1]? = some v) : atI xs (-1) = some v := by
  have hl := (List.getElem?_eq_some_iff.mp h).1
  unfold atI ixN
  rw [if_neg (by omega), if_pos (by omega), show ((-1 : Int) + (xs.length : Int)).toNat = xs.length - 1 by omega]
  exact h
def ksF (L : List (Int × Int × Str)) (e : Int) (n : Nat) : List Nat := (List.range n).filter fun k => decide (elF L k ≥ e - 1)
theorem ksF_succ {L : List (Int × Int × Str)} {e : Int} {i : Nat} {x : Int × Int × Str} (h : L[i]? = some x) : ksF L e (i + 1) = ksF L e i ++ (if x.1 ≥ e - 1 then [i] else []) := by
  unfold ksF
  rw [List.range_succ, List.filter_append]
  congr 1
  have : elF L i = x.1 := by unfold elF; rw [h]
  by_cases g : x.1 ≥ e - 1
  · rw [if_pos g]
    simp [this, g]
  · rw [if_neg g]
    simp [this, g]
theorem ksF_len (L : List (Int × Int × Str)) (e : Int) (n : Nat) : (ksF L e n).length ≤ n := by
  have := List.length_filter_le (fun k => decide (elF L k ≥ e - 1)) (List.range n)
  rw [List.length_range] at this
  exact this
theorem ksF_nodup (L : List (Int × Int × Str)) (e : Int) (n : Nat) : (ksF L e n).Nodup := List.Pairwise.filter _ List.nodup_range
theorem ksF_mem {L : List (Int × Int × Str)} {e : Int} {n k : Nat} : k ∈ ksF L e n ↔ k < n ∧ elF L k ≥ e - 1 := by
  unfold ksF
  rw [List.mem_filter, List.mem_range]
  simp
theorem made {C p dx : Addr} {a : TD} {H3 H' : Hp} (hp : H3 p = none) (hdx : H3 dx = none) (fr : ∀ x o, upd (upd H3 dx (.own p)) p (.ins C dx []) x = some o → x ≠ p → H' x = some o) (ow : ∀ x ∈ ft a, x = p ∨ upd (upd H3 dx (.own p)) p (.ins C dx []) x = none) : Same H3 H' ∧ ∀ x ∈ ft a, H3 x = none := by
  refine ⟨fun x o h => fr x o ?_ (ne_of_none h hp), fun x hx => ?_⟩
  · rw [upd_ne (ne_of_none h hp), upd_ne (ne_of_none h hdx)]; exact h
  · rcases ow x hx with rfl | h
    · exact hp
    · by_cases e1 : x = p
      · rw [e1]; exact hp
      · by_cases e2 : x = dx
        · rw [e2]; exact hdx
        · rw [upd_ne e1, upd_ne e2] at h; exact h
theorem same_frm {F : List Addr} {H3 H6 H7 : Hp} (s : Same H3 H6) (f : Frm F H6 H7) (fr : ∀ x ∈ F, H3 x = none) : Same H3 H7 := fun x o h => f x o (s x o h) fun hx => by rw [fr x hx] at h; cases h
theorem LOk.prv0 {L : List (Int × Int × Str)} {ep snt : Int} (K : LOk L ep snt) (i : Nat) : 0 ≤ (prv L i).1 := by
  cases i with
  | zero => exact Int.le_refl _
  | succ i =>
    show 0 ≤ (match L[i]? with | some x => (x.1, x.2.1 + 1) | none => ((0 : Int), (0 : Int))).1
    cases h : L[i]? with
    | none => exact Int.le_refl _
    | some x => exact (K.z x (List.mem_of_getElem? h)).1
theorem LOk.last {L : List (Int × Int × Str)} {ep snt : Int} (K : LOk L ep snt) {y : Int × Int × Str} (hy : L[L.length - 1]? = some y) {k : Nat} (hk : k < L.length) : elF L k ≤ y.1 := by
  have hx := List.getElem?_eq_getElem hk
  unfold elF
  rw [hx]
  show L[k].1 ≤ y.1
  by_cases h : k = L.length - 1
  · rw [← h, hx] at hy
    cases hy
    exact Int.le_refl _
  · rcases K.lex k (L.length - 1) _ _ (by omega) hx hy with r | r <;> omega
theorem iv_none {win e s : Int} {z1 z2 : Str} {ls L : List (Int × Int × Str)} : Iv { S0 win z1 z2 with ls := ls, ep := e, snt := s } (evs L []) := by
  have no : ∀ x, ¬ evs L [] x := fun x ⟨k, hk, _⟩ => by cases hk
  exact ⟨⟨⟨fun c h => absurd h (no _), .inl rfl⟩, ⟨fun c h => absurd h (no _), .inl rfl⟩, fun c _ => ⟨fun h => (by cases h), fun h => absurd h (no _)⟩, fun c _ => ⟨fun h => (by cases h), fun h => absurd h (no _)⟩⟩, Int.le_refl _, fun x h => absurd h (no _), .inl rfl⟩
theorem wide_one {S : TS} {L : List (Int × Int × Str)} {ep snt mx y : Int} {ds : List Nat} {n : Nat} {x : Int × Int × Str} (K : LOk L ep snt) (I : Iv S (evs L ds)) (hw : S.win = 1 + mx) (hm : 0 ≤ mx) (hn : L[n]? = some x) (hx : x.1 ≥ y - 1) (hc : ∀ k ∈ ds, ctF L k ≤ mx) (hcx : x.2.1 ≤ mx) (hy : ∀ k ∈ ds, elF L k ≤ y) (hy0 : 0 ≤ y) :
    (dlv S n x.1 x.2.1).1 = (if n ∈ ds then ("again" : Str) else "taken") ∧ Iv (dlv S n x.1 x.2.1).2 (evs L (ds ++ [n])) := by
  obtain ⟨z0, z1, _, _⟩ := K.z x (List.mem_of_getElem? hn)
  obtain ⟨tp, htp⟩ := istop_ex L ds x.1
  obtain ⟨w1, w2⟩ := dlv_ok I (by omega) n x.1 x.2.1 z0 z1 I.nw htp (K.nn ds)
  refine ⟨?_, w2.congr (evs_add hn)⟩
  have e1 : ¬ x.1 < S.nw - 1 := by
    rcases I.nw.2.2 with q | ⟨u, ⟨k, hk, v, hv, rfl⟩, q⟩
    · omega
    · have := hy k hk
      unfold elF at this
      rw [hv] at this
      have q' : v.1 = S.nw := q
      have this' : v.1 ≤ y := this
      omega
  have e2 : ¬ x.2.1 ≤ tp - S.win := by
    rcases htp.2 with q | ⟨k, hk, v, hv, q⟩
    · omega
    · have := hc k hk
      unfold ctF at this
      rw [hv] at this
      have q' : tp = v.2.1 := congrArg Prod.snd q
      have this' : v.2.1 ≤ mx := this
      omega
  rw [w1]
  unfold wd
  rw [if_neg e1, if_neg e2]
  by_cases h : n ∈ ds
  · rw [if_pos h, if_pos ((K.ev hn).mpr h)]
  · rw [if_neg h, if_neg (fun z => h ((K.ev hn).mp z))]
def wS (win : Int) (z1 z2 : Str) (L : List (Int × Int × Str)) (i : Nat) : TS := { S0 win z1 z2 with ls := L.take i, ep := (prv L i).1, snt := (prv L i).2 }
def sp_any : Sp := fun vs H Q _ => ∃ (pl nl ll : Addr) (f : Nat → Str) (L : List (Int × Int × Str)) (ep snt : Int), vs = [.ref pl, .ref nl, .ref ll] ∧ Pil H pl ∧ H nl = some (.lst ((List.range 4).map fun i => V.str (f i))) ∧ (∀ i, Nm (f i)) ∧ f 0 ≠ f 1 ∧ Lts H ll L ∧ LOk L ep snt ∧ 1 ≤ L.length ∧ L.length ≤ 64 ∧ ∀ H', Q (.bl true) H'
section
variable {P : Program} {w : World} {K : PySem.W.Frag} {mg : Str → Option Value} {base : Heap}
theorem ok_law_any_order (T : Top K mg) : FnOk P w K mg base CX0 5 T.f_law_any_order T.d_law_any_order ["pile", "names", "letters"] sp_any := by
  refine T.F_law_any_order.ok sc_law_any_order (fun vs H Q E h => ?_) (fun cdv A outer s H vs Q E hr h => ?_)
  · obtain ⟨pl, nl, ll, f, L, ep, snt, rfl, _⟩ := h
    rfl
  · obtain ⟨pl, nl, ll, f, L, ep, snt, rfl, hp, hnl, hf, hf01, ⟨us, hus, dus⟩, hL, hL1, hL2, q⟩ := h
    refine ⟨_, (pss_cons (ps_set (i := 3) sc_law_any_order.nd rfl (Or.inr rfl) (pe_ix ix_tup (pe_ix ix_list (pv 2) (pe_un un_neg pe_int) (fun _ _ => rfl)) pe_int (fun _ _ => rfl)))
    (pss_cons (ps_setLc (i := 4) (own := [("k", 5)]) (g := gName 5) (by rfl) sc_law_any_order.nd rfl rfl (sw_true rfl rfl rfl (by decide +kernel)) (pi_range1 (by rfl) T.z_range (pa_cons (pe_callB call_len_seq (by rfl) T.z_len (by decide +kernel) (pa_cons (pv 2) pa_nil)) pa_nil)) (blkOk_by (own := [("k", 5)]) (N := N_law_any_order) (sc := defScope s_law_any_order) (by decide +kernel)) (fun _ _ _ _ _ => (pg_name (i := 5) sc_law_any_order.nd rfl (Or.inl rfl))) (fun _ _ _ _ _ => (pts_one (pt_cmpR op_ge (pe_ix (r := rIxT K) ix_tup (pe_ix (r := rIxL K) ix_list (pv 2) (pv 5) (fun _ _ => rfl)) pe_int (fun _ _ => rfl)) (pe_op op_sub (pv 3) pe_int) (nomark _)))) (fun _ _ _ _ _ => (pv 5)))
     (pss_cons (ps_set (i := 6) sc_law_any_order.nd rfl (Or.inl rfl) (pe_op op_add pe_int (pe_callB (cr_max rfl) (by rfl) T.z_max (by decide +kernel) (pa_cons (pe_lc (own := [("k", 5)]) (g := gName 5) (by rfl) sc_law_any_order.nd (pi_list (pv 4)) (blkOk_by (own := [("k", 5)]) (N := N_law_any_order) (sc := defScope s_law_any_order) (by decide +kernel)) (fun _ _ _ _ _ => (pg_name (i := 5) sc_law_any_order.nd rfl (Or.inl rfl))) (fun _ _ _ _ _ => pts_nil) (fun _ _ _ _ _ => (pe_ix (r := rIxT K) ix_tup (pe_ix (r := rIxL K) ix_list (pv 2) (pv 5) (fun _ _ => rfl)) pe_int (fun _ _ => rfl)))) pa_nil))))
      (pss_cons (ps_set (i := 7) sc_law_any_order.nd rfl (Or.inl rfl) (pe_make T.mk_Tunnel (okTunnel___init__ T) hr (by rfl) T.g_Tunnel T.bTunnel___init__ .nil pass0 (pa_cons (pv 6) (pa_cons (pe_ix ix_list (pv 1) pe_int (fun _ _ => rfl)) (pa_cons (pe_ix ix_list (pv 1) pe_int (fun _ _ => rfl)) pa_nil)))))
       (pss_cons (ps_set (i := 8) sc_law_any_order.nd rfl (Or.inl rfl) pe_int)
        (pss_cons (ps_for PassesOwn.never rfl (pi_list (pv 2)) (pg_name (i := 9) sc_law_any_order.nd rfl (Or.inl rfl))
         (pss_cons (ps_for PassesOwn.never rfl (pi_range1 (by rfl) T.z_range (pa_cons (pe_op op_sub (pe_ix ix_tup (pv 9) pe_int (fun _ _ => rfl)) (pv 8)) pa_nil)) (pg_name (i := 5) sc_law_any_order.nd rfl (Or.inl rfl))
          (pss_one (ps_expr (pe_meth0 (pv 7) T.cl_Tunnel T.mTunnel_rekey (okTunnel_rekey T) (hr.mono (by decide)) T.bTunnel_rekey .nil pass0))))
          (pss_cons (ps_set (i := 8) sc_law_any_order.nd rfl (Or.inl rfl) (pe_ix ix_tup (pv 9) pe_int (fun _ _ => rfl)))
           (pss_one (ps_expr (pe_meth (pv 7) T.cl_Tunnel T.mTunnel_send (okTunnel_send T) (hr.mono (by decide)) T.bTunnel_send .nil pass0 (pa_cons (pe_ix ix_tup (pv 9) pe_int (fun _ _ => rfl)) pa_nil)))))))
         (pss_cons (ps_set (i := 10) sc_law_any_order.nd rfl (Or.inl rfl) (pe_call (ok_law_shuffled T) (hr.mono (by decide)) (by rfl) T.g_law_shuffled T.F_law_shuffled.kp T.b_law_shuffled .nil pass0 (pa_cons (pv 0) (pa_cons (pv 4) pa_nil))))
          (pss_cons (ps_for PassesOwn.never rfl (pi_list (pv 10)) (pg_name (i := 11) sc_law_any_order.nd rfl (Or.inl rfl))
           (pss_one (ps_if (pt_not (pt_val (pe_call (ok_law_same T 2) hr (by rfl) T.g_law_same T.F_law_same.kp T.b_law_same .nil pass0 (pa_cons (pe_meth (pv 7) T.cl_Tunnel T.mTunnel_deliver (okTunnel_deliver T) (hr.mono (by decide)) T.bTunnel_deliver .nil pass0 (pa_cons (pv 11) pa_nil)) (pa_cons pe_str pa_nil)))))
            (pss_one (ps_ret pe_bl))
            pss_nil)))
           (pss_cons (ps_for PassesOwn.never rfl (pi_list (pv 10)) (pg_name (i := 11) sc_law_any_order.nd rfl (Or.inl rfl))
            (pss_one (ps_if (pt_val (pe_call (ok_law_same T 2) hr (by rfl) T.g_law_same T.F_law_same.kp T.b_law_same .nil pass0 (pa_cons (pe_meth (pv 7) T.cl_Tunnel T.mTunnel_deliver (okTunnel_deliver T) (hr.mono (by decide)) T.bTunnel_deliver .nil pass0 (pa_cons (pv 11) pa_nil)) (pa_cons pe_str pa_nil))))
             (pss_one (ps_ret pe_bl))
             pss_nil)))
            (pss_one (ps_ret (pe_call (ok_law_same T 2) hr (by rfl) T.g_law_same T.F_law_same.kp T.b_law_same .nil pass0 (pa_cons (pe_prop (pv 7) T.cl_Tunnel T.pr_Tunnel_received (okTunnel_received T) (hr.mono (by decide)) T.bTunnel_received .nil pass0 rfl) (pa_cons (pe_callTy call_tuple_of (by rfl) T.z_tuple (by decide +kernel) (pa_cons (pv 10) pa_nil)) pa_nil)))))))))))))), ?_⟩
    have lus := dus.length
    rw [List.length_map] at lus
    obtain ⟨y, hy⟩ : ∃ y, L[L.length - 1]? = some y := ⟨_, List.getElem?_eq_getElem (by omega)⟩
    obtain ⟨v1, hv1, hq1⟩ := ld_get dus hy
    have at1 : atI us (-1) = some (V.ref v1) := atI_neg1 (by rw [lus]; exact hv1)
    have eN : ((us.length : Int)).toNat = L.length := by omega
    repeat walk_at "s"
    refine w_ixL (SqL.of hus) at1 ?_
    repeat walk_at "s"
    rw [eN]
    intro D hD
    refine lc_range (lo := 0) (n := L.length) (fun i H2 => H2 D = some (.lst (inz (nz (ksF L y.1 i)))) ∧ Same H H2) ⟨upd_same, sm_new hD⟩ ?_ ?_
    · rintro i H2 hi ⟨eD, s2⟩
      have hx := List.getElem?_eq_getElem hi
      obtain ⟨v2, hv2, hq2⟩ := ld_get dus hx
      have hU := ksF_succ (e := y.1) hx
      have lks := ksF_len L y.1 i
      generalize L[i] = x at hx hq2 hU
      have hus2 := s2 _ _ hus
      have hq3 := s2 _ _ hq2
      repeat walk_at "s"
      rw [Int.zero_add]
      refine w_ixL (SqL.of hus2) (atI_nat hv2) ?_
      repeat walk_at "s"
      refine ite2 (fun g => ?_) (fun g => ?_)
      · rw [if_pos (of_decide_eq_true g)] at hU
        repeat walk_at "s"
        refine ⟨_, eD, ?_, ?_, fun x o h => by rw [upd_ne (ne_of_none h hD)]; exact s2 x o h⟩
        · rw [inz_len, nz_len]; exact big99 (by omega)
        · rw [upd_same, hU, nz_app, inz_app]
          rfl
      · rw [if_neg (of_decide_eq_false (ofb g)), List.append_nil] at hU
        rw [hU]
        exact ⟨eD, s2⟩
    · rintro H2 ⟨eD, s2⟩
      have hkm : ∀ k ∈ ksF L y.1 L.length, k < L.length := fun k hk => (ksF_mem.mp hk).1
      have hlast : L.length - 1 ∈ ksF L y.1 L.length := ksF_mem.mpr ⟨by omega, by unfold elF; rw [hy]; show y.1 ≥ y.1 - 1; omega⟩
      have hnd := ksF_nodup L y.1 L.length
      have hke : ∀ k ∈ ksF L y.1 L.length, elF L k ≥ y.1 - 1 := fun k hk => (ksF_mem.mp hk).2
      have lks := ksF_len L y.1 L.length
      generalize ksF L y.1 L.length = ks at eD hkm hlast hnd hke lks ⊢
      repeat walk_at "s"
      intro D2 hD2
      refine lc_list (K := K) (a := D) (xs := inz (nz ks)) (fun i H3 => H3 D2 = some (.lst (inz ((ks.take i).map (ctF L)))) ∧ Same H2 H3) ⟨upd_same, sm_new hD2⟩ (fun i H3 _ ⟨_, s3⟩ => SqL.of (s3 _ _ eD)) ?_ ?_
      · rintro i x H3 hi ⟨eD2, s3⟩
        obtain ⟨k, hk, rfl⟩ := nz_get hi
        have hx := List.getElem?_eq_getElem (hkm k (List.mem_of_getElem? hk))
        obtain ⟨v2, hv2, hq2⟩ := ld_get dus hx
        have hus3 := s3 _ _ (s2 _ _ hus)
        have hq3 := s3 _ _ (s2 _ _ hq2)
        have hik := (List.getElem?_eq_some_iff.mp hk).1
        repeat walk_at "s"
        refine w_ixL (SqL.of hus3) (atI_nat hv2) ?_
        repeat walk_at "s"
        refine ⟨_, eD2, ?_, ?_, fun x o h => by rw [upd_ne (ne_of_none h hD2)]; exact s3 x o h⟩
        · rw [inz_len, List.length_map, List.length_take]; exact big99 (by omega)
        · rw [upd_same, takeU hk, List.map_append, inz_app]
          show _ = some (HO.lst (_ ++ [V.int (ctF L k)]))
          unfold ctF
          rw [hx]
      · rintro H3 ⟨eD2, s3⟩
        rw [inz_len, nz_len, List.take_length] at eD2
        repeat walk_at "s"
        refine ⟨D2, _, rfl, SqL.of eD2, by rw [List.length_map]; exact List.length_pos_of_mem hlast, fun mx hm1 hm2 => ?_⟩
        obtain ⟨k0, hk0, ek0⟩ := List.mem_map.mp hm1
        have hct : ∀ k, k < L.length → 0 ≤ ctF L k ∧ ctF L k < L.length := fun k hk => by
          have hx := List.getElem?_eq_getElem hk
          have := hL.z _ (List.mem_of_getElem? hx)
          unfold ctF
          rw [hx]
          exact ⟨this.2.1, this.2.2.1⟩
        have hmx := hct k0 (hkm k0 hk0)
        rw [ek0] at hmx
        have hcm : ∀ k ∈ ks, ctF L k ≤ mx := fun k hk => hm2 _ (List.mem_map.mpr ⟨k, hk, rfl⟩)
        have s23 := s2.trans s3
        have hnl3 := s23 _ _ hnl
        have hus3 := s23 _ _ hus
        have eD3 := s3 _ _ eD
        have hp3 := hp.same s23
        have dus3 := dus.mono (Tk.same s23)
        clear eD2 hm1 hm2 s2 s3 eD
        repeat walk_at "s"
        intro p dx h1 h2 h3
        have hpn : H3 p = none := by assumption
        have hdn : H3 dx = none := by assumption
        refine ⟨p, dx, 1 + mx, f 1, f 0, rfl, upd_same, by omega, by omega, hf 1, hf 0, fun e => hf01 e.symm, fun a H4 ea fr4 ow4 U4 => ?_⟩
        obtain ⟨s4, fr0⟩ := made hpn hdn fr4 ow4
        have e0 : S0 (1 + mx) (f 1) (f 0) = wS (1 + mx) (f 1) (f 0) L 0 := rfl
        rw [e0] at U4
        subst ea
        refine ⟨rfl, ?_⟩
        clear fr4 ow4 h1 h2 h3 hpn hdn
        repeat walk_at "s"
        refine ⟨ll, rfl, ⟨_, SqL.of (s4 _ _ hus3)⟩, ?_⟩
        refine for_list (K := K) (a := ll) (xs := us) (fun i σ H5 => ∃ (v5 v9 : Option V), σ = [some (.ref pl), some (.ref nl), some (.ref ll), some (.int y.1), some (.ref D), v5, some (.int (1 + mx)), some (.ref a.p), some (.int (prv L i).1), v9, none, none] ∧ Same H3 H5 ∧ Tun T.C_Tunnel a H5 (wS (1 + mx) (f 1) (f 0) L i)) ?_ ?_ ?_ ?_
        · exact ⟨_, _, rfl, s4, U4⟩
        · rintro i σ H5 hi ⟨_, _, _, s5, _⟩
          exact SqL.of (s5 _ _ hus3)
        · rintro i v σ H5 hi ⟨v5, v9, rfl, s5, U5⟩
          have hiL : i < L.length := by have := (List.getElem?_eq_some_iff.mp hi).1; omega
          have hx := List.getElem?_eq_getElem hiL
          generalize L[i] = x at hx
          obtain ⟨v2, hv2, hq2⟩ := ld_get dus3 hx
          rw [hv2] at hi
          cases hi
          have hq5 := s5 _ _ hq2
          have hfo := hL.nxt i x hx
          have hxz := hL.z x (List.mem_of_getElem? hx)
          have hxe : x.1 ≤ 12 := by
            have := hL.e1
            rcases hL.lst x (List.mem_of_getElem? hx) with r | r <;> omega
          have hp0 := hL.prv0 i
          have hle : (prv L i).1 ≤ x.1 := by
            rcases hfo with e | e
            · rw [e]; exact Int.le_refl _
            · exact Int.le_of_lt e.1
          repeat walk_at "s"
          refine for_range (lo := 0) (n := (x.1 - (prv L i).1).toNat) (fun j σ H6 => ∃ (v5 : Option V) (e sn : Int), σ = [some (.ref pl), some (.ref nl), some (.ref ll), some (.int y.1), some (.ref D), v5, some (.int (1 + mx)), some (.ref a.p), some (.int (prv L i).1), some (.ref v2), none, none] ∧ Same H3 H6 ∧ Tun T.C_Tunnel a H6 { wS (1 + mx) (f 1) (f 0) L i with ep := e, snt := sn } ∧ e = (prv L i).1 + (j : Int) ∧ ((j = 0 ∧ sn = (prv L i).2) ∨ (0 < j ∧ sn = 0))) ?_ ?_ ?_
          · exact ⟨_, _, _, rfl, s5, U5, by omega, .inl ⟨rfl, rfl⟩⟩
          · rintro j σ H6 hj ⟨v5, e, sn, rfl, s6, U6, he, -⟩
            have i6 := U6.ins
            repeat walk_at "s"
            refine ⟨a.p, _, _, rfl, i6, tn5 _ _, ?_⟩
            repeat walk_at "s"
            refine ⟨a, _, rfl, U6, by show e ≠ 12; omega, fun H7 f7 U7 => ?_⟩
            exact ⟨_, e + 1, 0, rfl, same_frm s6 f7 fr0, U7, by omega, .inr ⟨by omega, rfl⟩⟩
          · rintro σ H6 ⟨v5, e, sn, rfl, s6, U6, he, hsn⟩
            have e1 : e = x.1 := by omega
            have e2 : sn = x.2.1 := by
              rcases hsn with ⟨h0, h⟩ | ⟨h0, h⟩
              · rcases hfo with r | r
                · rw [h]; exact congrArg Prod.snd r
                · have r1 : (prv L i).1 < x.1 := r.1
                  omega
              · rcases hfo with r | r
                · have r1 := congrArg Prod.fst r
                  have r1' : (prv L i).1 = x.1 := r1
                  omega
                · rw [h]; exact r.2.symm
            subst e1 e2
            have hq6 := s6 _ _ hq2
            have i6 := U6.ins
            have hpS : prv L (i + 1) = (x.1, x.2.1 + 1) := by
              show (match L[i]? with | some x => (x.1, x.2.1 + 1) | none => (0, 0)) = _
              rw [hx]
            repeat walk_at "s"
            refine ⟨a.p, _, _, rfl, i6, tn4 _ _, ?_⟩
            repeat walk_at "s"
            refine ⟨a, _, x.2.2, rfl, U6, hxz.2.2.2, by show (L.take i).length < 1000; rw [List.length_take]; omega, fun H7 f7 U7 => ?_⟩
            refine ⟨v5, some (.ref v2), by rw [hpS]; rfl, same_frm s6 f7 fr0, ?_⟩
            have : wS (1 + mx) (f 1) (f 0) L (i + 1) = { { wS (1 + mx) (f 1) (f 0) L i with ep := x.1, snt := x.2.1 } with ls := L.take i ++ [(x.1, x.2.1, x.2.2)], snt := x.2.1 + 1 } := by
              unfold wS
              rw [hpS, takeU hx]
            rw [this]
            exact U7
        · rintro σ H5 ⟨v5, v9, rfl, s5, U5⟩
          rw [lus] at U5 ⊢
          have hwS : wS (1 + mx) (f 1) (f 0) L L.length = { S0 (1 + mx) (f 1) (f 0) with ls := L, ep := (prv L L.length).1, snt := (prv L L.length).2 } := by
            unfold wS
            rw [List.take_length]
          repeat walk_at "s"
          refine ⟨pl, D, ks, rfl, hp3.same s5, s5 _ _ eD3, by omega, fun r rs H6 pm hr6 eR g6 => ?_⟩
          have npl : ∀ x ∈ ft a, x ≠ pl := fun x hx e => by
            obtain ⟨m, ns, h, _⟩ := hp3
            rw [e] at hx
            rw [fr0 _ hx] at h
            cases h
          obtain ⟨ppm, ppns, hpp, _⟩ := hp3.same s5
          have U6 := U5.fr (H' := H6) (fun x vs hx => g6.fr x _ hx (fun e => by rw [e, hpp] at hx; cases hx)) (fun x hx o h => g6.fr x o h (npl x hx))
          have hrs : ∀ k ∈ rs, k < L.length ∧ elF L k ≥ y.1 - 1 ∧ ctF L k ≤ mx := fun k hk => ⟨hkm k (pm.mem_iff.mp hk), hke k (pm.mem_iff.mp hk), hcm k (pm.mem_iff.mp hk)⟩
          have hnd' : rs.Nodup := pm.nodup_iff.mpr hnd
          have lrs : rs.length ≤ 64 := by rw [pm.length_eq]; omega
          have nr : r ∉ ft a := fun h => U5.there r h hr6
          have lei : (inz (nz rs)).length = rs.length := by rw [inz_len, nz_len]
          have hyl : ∀ k ∈ rs, elF L k ≤ y.1 := fun k hk => hL.last hy (hrs k hk).1
          have hy0 : 0 ≤ y.1 := (hL.z y (List.mem_of_getElem? hy)).1
          have iv0 : Iv (wS (1 + mx) (f 1) (f 0) L L.length) (evs L []) := iv_none
          have ls0 : (wS (1 + mx) (f 1) (f 0) L L.length).ls = L := by rw [hwS]
          have rc0 : (wS (1 + mx) (f 1) (f 0) L L.length).rc = nz [] := rfl
          have wn0 : (wS (1 + mx) (f 1) (f 0) L L.length).win = 1 + mx := rfl
          have c00 : (wS (1 + mx) (f 1) (f 0) L L.length).c0.length ≤ 0 := Nat.le_refl 0
          have c10 : (wS (1 + mx) (f 1) (f 0) L L.length).c1.length ≤ 0 := Nat.le_refl 0
          generalize wS (1 + mx) (f 1) (f 0) L L.length = S6 at U6 iv0 ls0 rc0 wn0 c00 c10
          generalize ea : a.p = pw
          generalize (prv L L.length).1 = ee
          repeat walk_at "s"
          refine for_list (K := K) (a := r) (xs := inz (nz rs)) (fun i σ H7 => ∃ (a' : TD) (S : TS) (v11 : Option V), σ = [some (.ref pl), some (.ref nl), some (.ref ll), some (.int y.1), some (.ref D), v5, some (.int (1 + mx)), some (.ref pw), some (.int ee), v9, some (.ref r), v11] ∧ a'.p = pw ∧ r ∉ ft a' ∧ H7 r = some (.lst (inz (nz rs))) ∧ Tun T.C_Tunnel a' H7 S ∧ Iv S (evs L (rs.take i)) ∧ S.ls = L ∧ S.rc = nz (rs.take i) ∧ S.win = 1 + mx ∧ S.c0.length ≤ i ∧ S.c1.length ≤ i) ?_ ?_ ?_ ?_
          · exact ⟨a, S6, none, rfl, ea, nr, eR, U6, iv0, ls0, rc0, wn0, c00, c10⟩
          · rintro i σ H7 hi ⟨_, _, _, _, _, _, e, _⟩
            exact SqL.of e
          · rintro i v σ H7 hi ⟨a', S, v11, rfl, ep7, nr7, e7, U7, I7, l7, r7, w7, c7, d7⟩
            obtain ⟨n, hn, rfl⟩ := nz_get hi
            have hir := (List.getElem?_eq_some_iff.mp hn).1
            have hnr : n ∈ rs := List.mem_of_getElem? hn
            have hx := List.getElem?_eq_getElem (hrs n hnr).1
            generalize L[n]'(hrs n hnr).1 = x at hx
            have htk : ∀ k ∈ rs.take i, k ∈ rs := fun k hk => List.mem_of_mem_take hk
            obtain ⟨o1, o2⟩ := wide_one hL I7 w7 (by omega) hx (y := y.1) (by have := (hrs n hnr).2.1; unfold elF at this; rw [hx] at this; exact this) (fun k hk => (hrs k (htk k hk)).2.2) (by have := (hrs n hnr).2.2; unfold ctF at this; rw [hx] at this; exact this) (fun k hk => hyl k (htk k hk)) hy0
            have hnt : n ∉ rs.take i := by
              have hh := List.Pairwise.sublist (List.take_sublist (i + 1) rs) hnd'
              rw [takeU hn] at hh
              intro hm
              exact (List.pairwise_append.mp hh).2.2 n hm n (List.mem_singleton.mpr rfl) rfl
            rw [if_neg hnt] at o1
            rw [← takeU hn] at o2
            obtain ⟨st, rc, b0, b1⟩ := dlv_stay S n x.1 x.2.1 (m := i) c7 d7
            rw [if_pos o1, r7] at rc
            have i7 := U7.ins
            rw [ep7] at i7
            repeat walk_at "s"
            refine ⟨pw, _, _, rfl, i7, tn6 _ _, ?_⟩
            repeat walk_at "s"
            refine ⟨a', S, n, x, by rw [ep7]; rfl, U7, by rw [l7]; exact hx, by omega, by omega, ?_, fun a8 H8 ep8 f8 ow8 U8 => ?_⟩
            · rw [r7, nz_len, List.length_take]; omega
            rw [o1]
            repeat walk_at "s"
            refine ⟨_, _, rfl, .inl ⟨_, _, rfl, rfl, by decide, ?_⟩⟩
            refine ⟨_, rfl, ?_⟩
            rw [decide_eq_true rfl]
            refine iteF ?_
            refine ⟨a8, _, _, rfl, ep8.trans ep7, fun h => ?_, f8 r _ e7 nr7, U8, o2, st.ls.trans l7, ?_, st.win.trans w7, b0, b1⟩
            · rcases ow8 r h with h | h
              · exact nr7 h
              · rw [e7] at h; cases h
            · rw [rc, takeU hn, nz_app]; rfl
          · rintro σ H7 ⟨a', S, v11, rfl, ep7, nr7, e7, U7, I7, l7, r7, w7, c7, d7⟩
            rw [lei, List.take_length] at I7 r7
            rw [lei] at c7 d7
            have I7' : Iv S (evs L (rs ++ rs.take 0)) := by rw [List.take_zero, List.append_nil]; exact I7
            clear I7
            have c7' : S.c0.length ≤ 64 + 0 := by omega
            have d7' : S.c1.length ≤ 64 + 0 := by omega
            clear c7 d7
            repeat walk_at "s"
            refine for_list (K := K) (a := r) (xs := inz (nz rs)) (fun i σ H7 => ∃ (a' : TD) (S : TS) (v11 : Option V), σ = [some (.ref pl), some (.ref nl), some (.ref ll), some (.int y.1), some (.ref D), v5, some (.int (1 + mx)), some (.ref pw), some (.int ee), v9, some (.ref r), v11] ∧ a'.p = pw ∧ r ∉ ft a' ∧ H7 r = some (.lst (inz (nz rs))) ∧ Tun T.C_Tunnel a' H7 S ∧ Iv S (evs L (rs ++ rs.take i)) ∧ S.ls = L ∧ S.rc = nz rs ∧ S.win = 1 + mx ∧ S.c0.length ≤ 64 + i ∧ S.c1.length ≤ 64 + i) ?_ ?_ ?_ ?_
            · exact ⟨a', S, v11, rfl, ep7, nr7, e7, U7, I7', l7, r7, w7, c7', d7'⟩
            · rintro i σ H8 hi ⟨_, _, _, _, _, _, e, _⟩
              exact SqL.of e
            · rintro i v σ H8 hi ⟨a8, S8, v11, rfl, ep8, nr8, e8, U8, I8, l8, r8, w8, c8, d8⟩
              obtain ⟨n, hn, rfl⟩ := nz_get hi
              have hir := (List.getElem?_eq_some_iff.mp hn).1
              have hnr : n ∈ rs := List.mem_of_getElem? hn
              have hx := List.getElem?_eq_getElem (hrs n hnr).1
              generalize L[n]'(hrs n hnr).1 = x at hx
              have htk : ∀ k ∈ rs ++ rs.take i, k ∈ rs := fun k hk => by
                rcases List.mem_append.mp hk with h | h
                · exact h
                · exact List.mem_of_mem_take h
              obtain ⟨o1, o2⟩ := wide_one hL I8 w8 (by omega) hx (y := y.1) (by have := (hrs n hnr).2.1; unfold elF at this; rw [hx] at this; exact this) (fun k hk => (hrs k (htk k hk)).2.2) (by have := (hrs n hnr).2.2; unfold ctF at this; rw [hx] at this; exact this) (fun k hk => hyl k (htk k hk)) hy0
              rw [if_pos (List.mem_append_left _ hnr)] at o1
              rw [List.append_assoc, ← takeU hn] at o2
              obtain ⟨st, rc, b0, b1⟩ := dlv_stay S8 n x.1 x.2.1 (m := 64 + i) c8 d8
              have an : ¬ (Str.ofString "again" = Str.ofString "taken") := by decide +kernel
              rw [if_neg (by rw [o1]; exact an), r8] at rc
              have i8 := U8.ins
              rw [ep8] at i8
              repeat walk_at "s"
              refine ⟨pw, _, _, rfl, i8, tn6 _ _, ?_⟩
              repeat walk_at "s"
              refine ⟨a8, S8, n, x, by rw [ep8]; rfl, U8, by rw [l8]; exact hx, by omega, by omega, ?_, fun a9 H9 ep9 f9 ow9 U9 => ?_⟩
              · rw [r8, nz_len]; omega
              rw [o1]
              repeat walk_at "s"
              refine ⟨_, _, rfl, .inl ⟨_, _, rfl, rfl, by decide, ?_⟩⟩
              refine ⟨_, rfl, ?_⟩
              rw [decide_eq_false an]
              refine iteF ?_
              refine ⟨a9, _, _, rfl, ep9.trans ep8, fun h => ?_, f9 r _ e8 nr8, U9, o2, st.ls.trans l8, rc, st.win.trans w8, b0, b1⟩
              rcases ow9 r h with h | h
              · exact nr8 h
              · rw [e8] at h; cases h
            · rintro σ H8 ⟨a8, S8, v11, rfl, ep8, nr8, e8, U8, I8, l8, r8, w8, c8, d8⟩
              have i8 := U8.ins
              rw [ep8] at i8
              repeat walk_at "s"
              refine w_prop ?_
              repeat walk_at "s"
              refine ⟨pw, _, _, rfl, i8, a8, _, by rw [ep8], U8, fun r1 H9 s9 hr1 => ?_⟩
              rw [r8] at hr1
              have e9 := s9 _ _ e8
              clear i8
              repeat walk_at "s"
              refine ⟨r, _, rfl, .inl ⟨SqL.of e9, fun t hlt => ?_⟩⟩
              have s10 := sm_new (o := .tup (inz (nz rs))) hlt
              have e10 := upd_self2 hlt (.tup (inz (nz rs)))
              generalize upd H9 t (.tup (inz (nz rs))) = H10 at s10 e10 ⊢
              have lr : (nz rs).length ≤ 500 := by rw [nz_len]; omega
              repeat walk_at "s"
              refine ⟨_, _, rfl, .inr ⟨_, tup_inz (s10 _ _ hr1), tup_inz e10, dq_inz lr, fun H11 s11 => ?_⟩⟩
              exact q H11
end

/-! ### the law -/
theorem ext_none {o : Addr → Nat} {i : Nat} {H : Hp} {x : Addr} (h : H x = none) : ext o i H x = i := by unfold ext; rw [h]
def tri (a1 a2 a3 : TD) : Fin 3 → TD := fun i => if i = 0 then a1 else if i = 1 then a2 else a3
theorem Wd.init {C : Addr} {a1 a2 a3 : TD} {H0 H1 H2 H3 H4 H5 H6 H7 : Hp} {pl nl ll hl xl sl : Addr} {S : TS} {nms : List V} (hp : Pil H0 pl) (hn : H0 nl = some (.lst nms)) (ne : nl ≠ pl)
    (s1 : Same H0 H1) (f1 : ∀ x ∈ ft a1, H0 x = none) (U1 : Tun C a1 H1 S)
    (s2 : Same H1 H2) (f2 : ∀ x ∈ ft a2, H1 x = none) (U2 : Tun C a2 H2 S)
    (s3 : Same H2 H3) (f3 : ∀ x ∈ ft a3, H2 x = none) (U3 : Tun C a3 H3 S)
    (s4 : Same H3 H4) (n4 : H3 ll = none) (e4 : H4 ll = some (.lst []))
    (s5 : Same H4 H5) (n5 : H4 hl = none) (e5 : H5 hl = some (.lst []))
    (s6 : Same H5 H6) (n6 : H5 xl = none) (e6 : H6 xl = some (.lst []))
    (s7 : Same H6 H7) (n7 : H6 sl = none) (e7 : H7 sl = some (.lst [.int 0, .int 0])) :
    ∃ o, Wd C o (tri a1 a2 a3) ⟨ll, hl, xl, sl, pl, nl⟩ H7 (fun _ => S) [] [] [] 0 0 nms := by
  obtain ⟨pn, pns, hpe, hpr⟩ := id hp
  have three : ∀ j : Fin 3, j = 0 ∨ j = 1 ∨ j = 2 := by decide
  refine ⟨ext (ext (ext (ext (ext (ext (ext (fun x => if x = pl then 8 else 9) 0 H0) 1 H1) 2 H2) 4 H3) 5 H4) 6 H5) 7 H6, fun i => ?_, fun i x hx => ?_, ⟨?_, ?_, ?_, ?_, ?_, ?_⟩, ⟨[], s7 _ _ (s6 _ _ (s5 _ _ e4)), .nil⟩, s7 _ _ (s6 _ _ e5), s7 _ _ e6, e7, ((((((hp.same s1).same s2).same s3).same s4).same s5).same s6).same s7, s7 _ _ (s6 _ _ (s5 _ _ (s4 _ _ (s3 _ _ (s2 _ _ (s1 _ _ hn))))))⟩
  · rcases three i with rfl | rfl | rfl
    · exact ((((((U1.same s2).same s3).same s4).same s5).same s6).same s7)
    · exact (((((U2.same s3).same s4).same s5).same s6).same s7)
    · exact ((((U3.same s4).same s5).same s6).same s7)
  · rcases three i with rfl | rfl | rfl
    · have hx : x ∈ ft a1 := hx
      cases hu : H1 x with
      | none => exact absurd hu (U1.there x hx)
      | some u =>
        have u2 := s2 _ _ hu
        have u3 := s3 _ _ u2
        have u4 := s4 _ _ u3
        have u5 := s5 _ _ u4
        have u6 := s6 _ _ u5
        rw [ext_eq u6, ext_eq u5, ext_eq u4, ext_eq u3, ext_eq u2, ext_eq hu, ext_none (f1 x hx)]
        rfl
    · have hx : x ∈ ft a2 := hx
      cases hu : H2 x with
      | none => exact absurd hu (U2.there x hx)
      | some u =>
        have u3 := s3 _ _ hu
        have u4 := s4 _ _ u3
        have u5 := s5 _ _ u4
        have u6 := s6 _ _ u5
        rw [ext_eq u6, ext_eq u5, ext_eq u4, ext_eq u3, ext_eq hu, ext_none (f2 x hx)]
        rfl
    · have hx : x ∈ ft a3 := hx
      cases hu : H3 x with
      | none => exact absurd hu (U3.there x hx)
      | some u =>
        have u4 := s4 _ _ hu
        have u5 := s5 _ _ u4
        have u6 := s6 _ _ u5
        rw [ext_eq u6, ext_eq u5, ext_eq u4, ext_eq hu, ext_none (f3 x hx)]
        rfl
  · rw [ext_eq (s6 _ _ (s5 _ _ e4)), ext_eq (s5 _ _ e4), ext_eq e4, ext_none n4]
  · rw [ext_eq (s6 _ _ e5), ext_eq e5, ext_none n5]
  · rw [ext_eq e6, ext_none n6]
  · rw [ext_none n7]
  · have u1 := s1 _ _ hpe
    have u2 := s2 _ _ u1
    have u3 := s3 _ _ u2
    have u4 := s4 _ _ u3
    have u5 := s5 _ _ u4
    have u6 := s6 _ _ u5
    rw [ext_eq u6, ext_eq u5, ext_eq u4, ext_eq u3, ext_eq u2, ext_eq u1, ext_eq hpe]
    exact if_pos rfl
  · have u1 := s1 _ _ hn
    have u2 := s2 _ _ u1
    have u3 := s3 _ _ u2
    have u4 := s4 _ _ u3
    have u5 := s5 _ _ u4
    have u6 := s6 _ _ u5
    rw [ext_eq u6, ext_eq u5, ext_eq u4, ext_eq u3, ext_eq u2, ext_eq u1, ext_eq hn]
    exact if_neg ne
theorem Nu.init {size : Int} {z1 z2 : Str} (h : 1 ≤ size) : Nu (fun _ => S0 size z1 z2) [] [] [] 0 0 size 0 :=
  ⟨fun _ => rfl, fun _ => rfl, fun _ => rfl, fun _ => rfl, iv_none (ls := []) (e := 0) (s := 0), iv_none (ls := []) (e := 0) (s := 0), iv_none (ls := []) (e := 0) (s := 0), rfl, rfl, rfl, fun _ => Nat.le_refl 0, fun _ => Nat.le_refl 0, LOk.nil, fun k hk => (by cases hk), Nat.le_refl 0, Nat.le_refl 0, Nat.le_refl 0, h⟩
theorem Nu.mono {S : Fin 3 → TS} {L : List (Int × Int × Str)} {hs xs : List Nat} {ep snt size : Int} {M M' : Nat} (N : Nu S L hs xs ep snt size M) (h : M ≤ M') : Nu S L hs xs ep snt size M' :=
  ⟨N.ls, N.epp, N.sn, N.wn, N.iv0, N.iv1, N.iv2, N.rc0, N.rc1, N.rc2, fun i => Nat.le_trans (N.c0 i) h, fun i => Nat.le_trans (N.c1 i) h, N.lk, N.hb, Nat.le_trans N.xm h, Nat.le_trans N.hm h, Nat.le_trans N.lm h, N.w1⟩
section
variable {C : Addr} {size : Int} {p : Fin 3 → Addr} {D : Ads} {nms : List V} {H H' : Hp} {M : Nat} {L : List (Int × Int × Str)}
theorem Inv.mono (I : Inv C size p D nms H M L) {M' : Nat} (h : M ≤ M') : Inv C size p D nms H M' L := by
  obtain ⟨o, A, S, hs, xs, ep, snt, W, N, hp⟩ := I
  exact ⟨o, A, S, hs, xs, ep, snt, W, N.mono h, hp⟩
theorem Inv.gp (I : Inv C size p D nms H M L) (g : Gp D.pl H H') : Inv C size p D nms H' M L := by
  obtain ⟨o, A, S, hs, xs, ep, snt, W, N, hp⟩ := I
  exact ⟨o, A, S, hs, xs, ep, snt, W.pl g, N, hp⟩
theorem Inv.pil (I : Inv C size p D nms H M L) : Pil H D.pl := by
  obtain ⟨o, A, S, hs, xs, ep, snt, W, N, hp⟩ := I
  exact W.p
theorem Inv.nm (I : Inv C size p D nms H M L) : H D.nl = some (.lst nms) := by
  obtain ⟨o, A, S, hs, xs, ep, snt, W, N, hp⟩ := I
  exact W.n
theorem Inv.lts (I : Inv C size p D nms H M L) : Lts H D.ll L := by
  obtain ⟨o, A, S, hs, xs, ep, snt, W, N, hp⟩ := I
  exact W.l
theorem Inv.lok (I : Inv C size p D nms H M L) : ∃ ep snt, LOk L ep snt := by
  obtain ⟨o, A, S, hs, xs, ep, snt, W, N, hp⟩ := I
  exact ⟨ep, snt, N.lk⟩
end
theorem j2S {c : Prop} [Decidable c] {t u : Ends → L2.St → Hp → Prop} {D : Ends} {σ : L2.St} {H : Hp} (J : L2.St → Hp → Prop) (k : ∀ σ1 H1, J σ1 H1 → D.nx σ1 H1) (h : ∀ nx : L2.St → Hp → Prop, (∀ σ1 H1, J σ1 H1 → nx σ1 H1) → if c then t { D with nx := nx } σ H else u { D with nx := nx } σ H) : if c then t D σ H else u D σ H := h D.nx k
theorem nm_at {f : Nat → Str} {d : Int} (h0 : 0 ≤ d) (h1 : d < 4) : atI ((List.range 4).map fun i => V.str (f i)) d = some (V.str (f d.toNat)) := by
  obtain ⟨j, rfl⟩ : ∃ j : Nat, d = (j : Int) := ⟨d.toNat, by omega⟩
  refine atI_nat ?_
  rw [List.getElem?_map, List.getElem?_range (by omega)]
  rfl
def spLaw (K : PySem.W.Frag) : Sp := fun vs H Q _ => ∃ (a : Addr) (ns : List Int), vs = [.ref a] ∧ SqL K H a (ns.map V.int) ∧ ns.length ≤ 63 ∧ ∀ H', Q (.bl true) H'
section
variable {P : Program} {w : World} {K : PySem.W.Frag} {mg : Str → Option Value} {base : Heap}
theorem oklaw (T : Top K mg) : FnOk P w K mg base CX0 6 T.flaw T.dlaw ["script"] (spLaw K) := by
  refine T.Flaw.ok sclaw (fun vs H Q E h => ?_) (fun cdv A outer s H vs Q E hr h => ?_)
  · obtain ⟨a, ns, rfl, _⟩ := h
    rfl
  · obtain ⟨a, ns, rfl, hS, hl, q⟩ := h
    refine ⟨_, (pss_cons (ps_set (i := 1) sclaw.nd rfl (Or.inl rfl) (pe_call (ok_law_pile T) (hr.mono (by decide)) (by rfl) T.g_law_pile T.F_law_pile.kp T.b_law_pile .nil pass0 (pa_cons (pv 0) pa_nil)))
    (pss_cons (ps_set (i := 2) sclaw.nd rfl (Or.inl rfl) (pe_call (ok_law_names T) (hr.mono (by decide)) (by rfl) T.g_law_names T.F_law_names.kp T.b_law_names .nil pass0 (pa_cons (pv 1) (pa_cons pe_int pa_nil))))
     (pss_cons (ps_set (i := 3) sclaw.nd rfl (Or.inl rfl) (pe_call (ok_law_size T) (hr.mono (by decide)) (by rfl) T.g_law_size T.F_law_size.kp T.b_law_size .nil pass0 (pa_cons (pv 1) pa_nil)))
      (pss_cons (ps_set (i := 4) sclaw.nd rfl (Or.inl rfl) (pe_make T.mk_Tunnel (okTunnel___init__ T) (hr.mono (by decide)) (by rfl) T.g_Tunnel T.bTunnel___init__ .nil pass0 (pa_cons (pv 3) (pa_cons (pe_ix ix_list (pv 2) pe_int (fun _ _ => rfl)) (pa_cons (pe_ix ix_list (pv 2) pe_int (fun _ _ => rfl)) pa_nil)))))
       (pss_cons (ps_set (i := 5) sclaw.nd rfl (Or.inl rfl) (pe_make T.mk_Tunnel (okTunnel___init__ T) (hr.mono (by decide)) (by rfl) T.g_Tunnel T.bTunnel___init__ .nil pass0 (pa_cons (pv 3) (pa_cons (pe_ix ix_list (pv 2) pe_int (fun _ _ => rfl)) (pa_cons (pe_ix ix_list (pv 2) pe_int (fun _ _ => rfl)) pa_nil)))))
        (pss_cons (ps_set (i := 6) sclaw.nd rfl (Or.inl rfl) (pe_make T.mk_Tunnel (okTunnel___init__ T) (hr.mono (by decide)) (by rfl) T.g_Tunnel T.bTunnel___init__ .nil pass0 (pa_cons (pv 3) (pa_cons (pe_ix ix_list (pv 2) pe_int (fun _ _ => rfl)) (pa_cons (pe_ix ix_list (pv 2) pe_int (fun _ _ => rfl)) pa_nil)))))
         (pss_cons (ps_set (i := 7) sclaw.nd rfl (Or.inl rfl) (pe_lst pa_nil))
          (pss_cons (ps_set (i := 8) sclaw.nd rfl (Or.inl rfl) (pe_lst pa_nil))
           (pss_cons (ps_set (i := 9) sclaw.nd rfl (Or.inl rfl) (pe_lst pa_nil))
            (pss_cons (ps_set (i := 10) sclaw.nd rfl (Or.inl rfl) (pe_lst (pa_cons pe_int (pa_cons pe_int pa_nil))))
             (pss_cons (ps_for PassesOwn.never rfl (pi_range1 (by rfl) T.z_range (pa_cons pe_int pa_nil)) (pg_name (i := 11) sclaw.nd rfl (Or.inl rfl))
              (pss_one (ps_if (pt_not (pt_val (pe_call (ok_law_send T) hr (by rfl) T.g_law_send T.F_law_send.kp T.b_law_send .nil pass0 (pa_cons (pv 4) (pa_cons (pv 5) (pa_cons (pv 6) (pa_cons (pv 7) (pa_cons (pv 10) (pa_cons (pe_ix ix_list (pv 2) (pe_call (ok_law_draw T) (hr.mono (by decide)) (by rfl) T.g_law_draw T.F_law_draw.kp T.b_law_draw .nil pass0 (pa_cons (pv 1) (pa_cons pe_int pa_nil))) (fun _ _ => rfl)) pa_nil)))))))))
               (pss_one (ps_ret pe_bl))
               pss_nil)))
              (pss_cons (ps_for PassesOwn.never rfl (pi_range1 (by rfl) T.z_range (pa_cons (pe_op op_add pe_int (pe_call (ok_law_draw T) (hr.mono (by decide)) (by rfl) T.g_law_draw T.F_law_draw.kp T.b_law_draw .nil pass0 (pa_cons (pv 1) (pa_cons pe_int pa_nil)))) pa_nil)) (pg_name (i := 11) sclaw.nd rfl (Or.inl rfl))
               (pss_cons (ps_set (i := 12) sclaw.nd rfl (Or.inl rfl) (pe_call (ok_law_draw T) (hr.mono (by decide)) (by rfl) T.g_law_draw T.F_law_draw.kp T.b_law_draw .nil pass0 (pa_cons (pv 1) (pa_cons pe_int pa_nil))))
                (pss_cons (ps_set (i := 13) sclaw.nd rfl (Or.inl rfl) pe_bl)
                 (pss_cons (ps_if (pt_cmpR op_lt (pv 12) pe_int (nomark _))
                  (pss_one (ps_set (i := 13) sclaw.nd rfl (Or.inl rfl) (pe_call (ok_law_send T) hr (by rfl) T.g_law_send T.F_law_send.kp T.b_law_send .nil pass0 (pa_cons (pv 4) (pa_cons (pv 5) (pa_cons (pv 6) (pa_cons (pv 7) (pa_cons (pv 10) (pa_cons (pe_ix ix_list (pv 2) (pe_call (ok_law_draw T) (hr.mono (by decide)) (by rfl) T.g_law_draw T.F_law_draw.kp T.b_law_draw .nil pass0 (pa_cons (pv 1) (pa_cons pe_int pa_nil))) (fun _ _ => rfl)) pa_nil)))))))))
                  pss_nil)
                  (pss_cons (ps_if (pt_cmpR op_eq (pv 12) pe_int (nomark _))
                   (pss_one (ps_set (i := 13) sclaw.nd rfl (Or.inl rfl) (pe_call (ok_law_rekey T) hr (by rfl) T.g_law_rekey T.F_law_rekey.kp T.b_law_rekey .nil pass0 (pa_cons (pv 4) (pa_cons (pv 5) (pa_cons (pv 6) (pa_cons (pv 10) pa_nil)))))))
                   pss_nil)
                   (pss_cons (ps_if (pt_cmpR op_gt (pv 12) pe_int (nomark _))
                    (pss_cons (ps_set (i := 14) sclaw.nd rfl (Or.inl rfl) (pe_call (ok_law_draw T) (hr.mono (by decide)) (by rfl) T.g_law_draw T.F_law_draw.kp T.b_law_draw .nil pass0 (pa_cons (pv 1) (pa_cons (pe_callB call_len_seq (by rfl) T.z_len (by decide +kernel) (pa_cons (pv 7) pa_nil)) pa_nil))))
                     (pss_one (ps_set (i := 13) sclaw.nd rfl (Or.inl rfl) (pe_call (ok_law_deliver T) hr (by rfl) T.g_law_deliver T.F_law_deliver.kp T.b_law_deliver .nil pass0 (pa_cons (pv 4) (pa_cons (pv 5) (pa_cons (pv 3) (pa_cons (pv 7) (pa_cons (pv 8) (pa_cons (pv 9) (pa_cons (pv 14) pa_nil)))))))))))
                    pss_nil)
                    (pss_one (ps_if (pt_not (pt_val (pv 13)))
                     (pss_one (ps_ret pe_bl))
                     pss_nil))))))))
               (pss_one (ps_ret (pe_call (ok_law_any_order T) hr (by rfl) T.g_law_any_order T.F_law_any_order.kp T.b_law_any_order .nil pass0 (pa_cons (pv 1) (pa_cons (pv 2) (pa_cons (pv 7) pa_nil)))))))))))))))))), ?_⟩
    repeat walk_at "s"
    refine ⟨a, ns, rfl, hS, hl, fun pl H1 s1 hpn hp => ?_⟩
    repeat walk_at "s"
    refine ⟨pl, 4, rfl, hp, by omega, by omega, fun nl f H2 hnn hnl hf hf01 g2 => ?_⟩
    have nne : nl ≠ pl := hp.ne hnn
    repeat walk_at "s"
    refine ⟨pl, rfl, g2.pl, fun size H3 z1 z64 g3 => ?_⟩
    have hnl3 := g3.at hnl nne
    have hp3 := g3.pl
    clear hS hp hnl g2 g3
    repeat walk_at "s"
    intro p4 dx4 h1 h2 h3
    have hpn4 : H3 p4 = none := by assumption
    have hdn4 : H3 dx4 = none := by assumption
    refine ⟨p4, dx4, size, f 0, f 1, rfl, upd_same, z1, z64, hf 0, hf 1, hf01, fun a4 H4 ea4 fr ow U4 => ?_⟩
    obtain ⟨s4, fr4⟩ := made hpn4 hdn4 fr ow
    refine ⟨rfl, ?_⟩
    clear fr ow h1 h2 h3
    have hnl4 := s4 _ _ hnl3
    repeat walk_at "s"
    intro p5 dx5 h1 h2 h3
    have hpn5 : H4 p5 = none := by assumption
    have hdn5 : H4 dx5 = none := by assumption
    refine ⟨p5, dx5, size, f 0, f 1, rfl, upd_same, z1, z64, hf 0, hf 1, hf01, fun a5 H5 ea5 fr ow U5 => ?_⟩
    obtain ⟨s5, fr5⟩ := made hpn5 hdn5 fr ow
    refine ⟨rfl, ?_⟩
    clear fr ow h1 h2 h3
    have hnl5 := s5 _ _ hnl4
    repeat walk_at "s"
    intro p6 dx6 h1 h2 h3
    have hpn6 : H5 p6 = none := by assumption
    have hdn6 : H5 dx6 = none := by assumption
    refine ⟨p6, dx6, size, f 0, f 1, rfl, upd_same, z1, z64, hf 0, hf 1, hf01, fun a6 H6 ea6 fr ow U6 => ?_⟩
    obtain ⟨s6, fr6⟩ := made hpn6 hdn6 fr ow
    refine ⟨rfl, ?_⟩
    clear fr ow h1 h2 h3
    have hnl6 := s6 _ _ hnl5
    repeat walk_at "s"
    refine ⟨by walk_at "len", fun ll n7 => ?_⟩
    have s7 := sm_new (o := .lst []) n7
    have e7 := upd_self2 n7 (.lst [])
    generalize upd H6 ll (.lst []) = H7 at s7 e7 ⊢
    repeat walk_at "s"
    refine ⟨by walk_at "len", fun hl' n8 => ?_⟩
    have s8 := sm_new (o := .lst []) n8
    have e8 := upd_self2 n8 (.lst [])
    generalize upd H7 hl' (.lst []) = H8 at s8 e8 ⊢
    repeat walk_at "s"
    refine ⟨by walk_at "len", fun xl n9 => ?_⟩
    have s9 := sm_new (o := .lst []) n9
    have e9 := upd_self2 n9 (.lst [])
    generalize upd H8 xl (.lst []) = H9 at s9 e9 ⊢
    repeat walk_at "s"
    refine ⟨by walk_at "len", fun sl n10 => ?_⟩
    have s10 := sm_new (o := .lst [.int 0, .int 0]) n10
    have e10 := upd_self2 n10 (.lst [.int 0, .int 0])
    generalize upd H9 sl (.lst [.int 0, .int 0]) = H10 at s10 e10 ⊢
    obtain ⟨o, W⟩ := Wd.init hp3 hnl3 nne s4 fr4 U4 s5 fr5 U5 s6 fr6 U6 s7 n7 e7 s8 n8 e8 s9 n9 e9 s10 n10 e10
    have I : Inv T.C_Tunnel size (fun i => (tri a4 a5 a6 i).p) ⟨ll, hl', xl, sl, pl, nl⟩ ((List.range 4).map fun i => V.str (f i)) H10 0 [] := ⟨o, _, _, _, _, _, _, W, Nu.init z1, fun _ => rfl⟩
    clear W U4 U5 U6 s4 s5 s6 s7 s8 s9 s10 e7 e8 e9 e10 n7 n8 n9 n10 hnl3 hnl4 hnl5 hnl6 hp3
    generalize hpp : (fun i => (tri a4 a5 a6 i).p) = pp at I
    have q0 : p4 = pp 0 := by rw [← hpp, ← ea4]; rfl
    have q1 : p5 = pp 1 := by rw [← hpp, ← ea5]; rfl
    have q2 : p6 = pp 2 := by rw [← hpp, ← ea6]; rfl
    clear ea4 ea5 ea6 hpp fr4 fr5 fr6 hpn4 hpn5 hpn6 hdn4 hdn5 hdn6
    subst q0 q1 q2
    repeat walk_at "s"
    refine for_range (lo := 0) (n := 2) (fun i σ H => ∃ (v11 : Option V) (L : List (Int × Int × Str)), σ = [some (.ref a), some (.ref pl), some (.ref nl), some (.int size), some (.ref (pp 0)), some (.ref (pp 1)), some (.ref (pp 2)), some (.ref ll), some (.ref hl'), some (.ref xl), some (.ref sl), v11, none, none, none] ∧ Inv T.C_Tunnel size pp ⟨ll, hl', xl, sl, pl, nl⟩ ((List.range 4).map fun i => V.str (f i)) H i L ∧ L.length = i) ?_ ?_ ?_
    · exact ⟨_, [], rfl, I, rfl⟩
    · rintro i σ H11 hi ⟨v11, L, rfl, I11, hL⟩
      repeat walk_at "s"
      refine ⟨pl, 4, rfl, I11.pil, by omega, fun d H12 d0 d1 g12 => ?_⟩
      have I12 := I11.gp g12
      repeat walk_at "s"
      refine w_ixL (SqL.of I12.nm) (nm_at d0 d1) ?_
      repeat walk_at "s"
      refine ⟨size, pp, ⟨ll, hl', xl, sl, pl, nl⟩, _, i, L, f d.toNat, rfl, I12, by omega, hf _, fun H13 L' hl13 I13 => ?_⟩
      refine ⟨_, rfl, ?_⟩
      refine iteF ?_
      exact ⟨_, L', rfl, I13, by omega⟩
    · rintro σ H11 ⟨v11, L, rfl, I11, hL⟩
      repeat walk_at "s"
      refine ⟨pl, 54, rfl, I11.pil, by omega, fun d H12 d0 d1 g12 => ?_⟩
      have I12 := I11.gp g12
      repeat walk_at "s"
      refine for_range (lo := 0) (n := (6 + d).toNat) (fun i σ H => ∃ (v11 v12 v13 v14 : Option V) (L : List (Int × Int × Str)), σ = [some (.ref a), some (.ref pl), some (.ref nl), some (.int size), some (.ref (pp 0)), some (.ref (pp 1)), some (.ref (pp 2)), some (.ref ll), some (.ref hl'), some (.ref xl), some (.ref sl), v11, v12, v13, v14] ∧ Inv T.C_Tunnel size pp ⟨ll, hl', xl, sl, pl, nl⟩ ((List.range 4).map fun i => V.str (f i)) H (2 + 2 * i) L ∧ 2 ≤ L.length ∧ L.length ≤ 2 + i) ?_ ?_ ?_
      · exact ⟨_, _, _, _, L, rfl, I12, by omega, by omega⟩
      · rintro i σ H13 hi ⟨v11, v12, v13, v14, L, rfl, I13, hL1, hL2⟩
        repeat walk_at "s"
        refine ⟨pl, 8, rfl, I13.pil, by omega, fun kd H14 kd0 kd1 g14 => ?_⟩
        have I14 := I13.gp g14
        clear I13 g14
        repeat walk_at "s"
        refine j2S (fun σ1 H1 => ∃ (v14 : Option V) (L' : List (Int × Int × Str)), σ1 = [some (.ref a), some (.ref pl), some (.ref nl), some (.int size), some (.ref (pp 0)), some (.ref (pp 1)), some (.ref (pp 2)), some (.ref ll), some (.ref hl'), some (.ref xl), some (.ref sl), some (.int (0 + (i : Int))), some (.int kd), some (.bl true), v14] ∧ Inv T.C_Tunnel size pp ⟨ll, hl', xl, sl, pl, nl⟩ ((List.range 4).map fun i => V.str (f i)) H1 (2 + 2 * i + 1) L' ∧ 2 ≤ L'.length ∧ L'.length ≤ 2 + i + 1) ?_ (fun nx kk => ite2 (fun g => ?_) (fun g => ?_))
        · rintro σ H15 ⟨v14, L1, rfl, I15, l1, l2⟩
          clear I14
          dsimp only
          repeat walk_at "s"
          refine j2S (fun σ1 H1 => ∃ (v14 : Option V) (L' : List (Int × Int × Str)), σ1 = [some (.ref a), some (.ref pl), some (.ref nl), some (.int size), some (.ref (pp 0)), some (.ref (pp 1)), some (.ref (pp 2)), some (.ref ll), some (.ref hl'), some (.ref xl), some (.ref sl), some (.int (0 + (i : Int))), some (.int kd), some (.bl true), v14] ∧ Inv T.C_Tunnel size pp ⟨ll, hl', xl, sl, pl, nl⟩ ((List.range 4).map fun i => V.str (f i)) H1 (2 + 2 * i + 1) L' ∧ 2 ≤ L'.length ∧ L'.length ≤ 2 + i + 1) ?_ (fun nx kk => ite2 (fun g => ?_) (fun g => ?_))
          · rintro σ H16 ⟨v14, L2, rfl, I16, l3, l4⟩
            clear I15
            dsimp only
            repeat walk_at "s"
            refine j2S (fun σ1 H1 => ∃ (v14 : Option V) (L' : List (Int × Int × Str)), σ1 = [some (.ref a), some (.ref pl), some (.ref nl), some (.int size), some (.ref (pp 0)), some (.ref (pp 1)), some (.ref (pp 2)), some (.ref ll), some (.ref hl'), some (.ref xl), some (.ref sl), some (.int (0 + (i : Int))), some (.int kd), some (.bl true), v14] ∧ Inv T.C_Tunnel size pp ⟨ll, hl', xl, sl, pl, nl⟩ ((List.range 4).map fun i => V.str (f i)) H1 (2 + 2 * (i + 1)) L' ∧ 2 ≤ L'.length ∧ L'.length ≤ 2 + i + 1) ?_ (fun nx kk => ite2 (fun g => ?_) (fun g => ?_))
            · rintro σ H17 ⟨v14, L3, rfl, I17, l5, l6⟩
              clear I16
              dsimp only
              repeat walk_at "s"
              exact ⟨_, _, _, _, L3, rfl, I17, l5, by omega⟩
            · obtain ⟨us, hus, dus⟩ := I16.lts
              have lus := dus.length
              rw [List.length_map] at lus
              repeat walk_at "s"
              refine ⟨pl, (us.length : Int), rfl, I16.pil, by omega, fun dn H17 dn0 dn1 g17 => ?_⟩
              have I17 := I16.gp g17
              obtain ⟨m, rfl⟩ : ∃ m : Nat, dn = (m : Int) := ⟨dn.toNat, by omega⟩
              repeat walk_at "s"
              refine ⟨size, pp, ⟨ll, hl', xl, sl, pl, nl⟩, _, 2 + 2 * i + 1, L2, m, rfl, I17, by omega, by omega, fun H18 I18 => ?_⟩
              exact kk _ _ ⟨_, L2, rfl, I18, l3, l4⟩
            · exact kk _ _ ⟨_, L2, rfl, I16.mono (by omega), l3, l4⟩
          · repeat walk_at "s"
            refine ⟨size, pp, ⟨ll, hl', xl, sl, pl, nl⟩, _, 2 + 2 * i + 1, L1, rfl, I15, fun H16 I16 => ?_⟩
            exact kk _ _ ⟨_, L1, rfl, I16, l1, l2⟩
          · exact kk _ _ ⟨_, L1, rfl, I15, l1, l2⟩
        · repeat walk_at "s"
          refine ⟨pl, 4, rfl, I14.pil, by omega, fun d2 H15 d20 d21 g15 => ?_⟩
          have I15 := I14.gp g15
          repeat walk_at "s"
          refine w_ixL (SqL.of I15.nm) (nm_at d20 d21) ?_
          repeat walk_at "s"
          refine ⟨size, pp, ⟨ll, hl', xl, sl, pl, nl⟩, _, 2 + 2 * i, L, f d2.toNat, rfl, I15, by omega, hf _, fun H16 L' hl16 I16 => ?_⟩
          exact kk _ _ ⟨_, L', rfl, I16, by omega, by omega⟩
        · exact kk _ _ ⟨_, L, rfl, I14.mono (by omega), hL1, by omega⟩
      · rintro σ H13 ⟨v11, v12, v13, v14, L, rfl, I13, hL1, hL2⟩
        obtain ⟨ep, snt, hlk⟩ := I13.lok
        repeat walk_at "s"
        exact ⟨pl, nl, ll, f, L, ep, snt, rfl, I13.pil, I13.nm, hf, hf01, I13.lts, hlk, by omega, by omega, q⟩
end

theorem all_mk {l : PySem.W.OpenLaw} {w : World} {K : PySem.W.Frag} {h : Heap} {mg : Str → Option Value} {fa : Addr} (X : K.In h) (G : h.Ns mainGlobals mg) (hfa : mg "law" = some (.ref fa))
    {f0 f1 f2 f3 f4 f5 f6 f7 f8 f9 f10 f11 f12 f13 f14 f15 f16 f17 f18 f19 f20 f21 f22 : Addr} {od0 an0 od1 an1 od2 an2 od3 an3 od4 an4 od5 an5 od6 an6 od7 an7 od8 an8 od9 an9 od10 an10 od11 an11 od12 an12 od13 an13 od14 an14 od15 an15 od16 an16 od17 an17 od18 an18 od19 an19 od20 an20 od21 an21 od22 an22 : Option Addr} {sl0 sl1 sl2 sl3 sl4 sl5 sl6 sl7 sl8 sl9 sl10 sl11 sl12 sl13 sl14 sl15 sl16 sl17 sl18 sl19 sl20 sl21 sl22 : Array (Option Value)}
    {oc0 kV0 dc0 pm0 cd0 ct0 oc1 kV1 dc1 pm1 cd1 ct1 oc2 kV2 dc2 pm2 cd2 ct2 oc3 kV3 dc3 pm3 cd3 ct3 oc4 kV4 dc4 pm4 cd4 ct4 oc5 kV5 dc5 pm5 cd5 ct5 oc6 kV6 dc6 pm6 cd6 ct6 oc7 kV7 dc7 pm7 cd7 ct7 oc8 kV8 dc8 pm8 cd8 ct8 oc9 kV9 dc9 pm9 cd9 ct9 oc10 kV10 dc10 pm10 cd10 ct10 oc11 kV11 dc11 pm11 cd11 ct11 oc12 kV12 dc12 pm12 cd12 ct12 oc13 kV13 dc13 pm13 cd13 ct13 oc14 kV14 dc14 pm14 cd14 ct14 oc15 kV15 dc15 pm15 cd15 ct15 oc16 kV16 dc16 pm16 cd16 ct16 oc17 kV17 dc17 pm17 cd17 ct17 oc18 kV18 dc18 pm18 cd18 ct18 oc19 kV19 dc19 pm19 cd19 ct19 oc20 kV20 dc20 pm20 cd20 ct20 oc21 kV21 dc21 pm21 cd21 ct21 oc22 kV22 dc22 pm22 cd22 ct22 : Value}
    {C0 : Addr}
    (aC0 : PySem.W.nsIn K mainGlobals "Tunnel" = some (some (.ref C0))) (pg0 : PySem.W.plainGet K C0 Str.empty = true) (hd0 : PySem.W.hasDictIn K C0 = true) (po0 : PySem.W.plainOver K C0 = true) (sa0 : PySem.W.findIn K (.ref C0) "__setattr__" = some (some (.builtin "object.__setattr__"))) (mk0 : PySem.W.makesIn K C0 = true) (kc0 : PySem.W.keepIn K (.ref C0) = true)
    (n0_0 : PySem.W.findIn K (.ref C0) "window" = some none)
    (n0_1 : PySem.W.findIn K (.ref C0) "first" = some none)
    (n0_2 : PySem.W.findIn K (.ref C0) "second" = some none)
    (n0_3 : PySem.W.findIn K (.ref C0) "_letters" = some none)
    (n0_4 : PySem.W.findIn K (.ref C0) "_epoch" = some none)
    (n0_5 : PySem.W.findIn K (.ref C0) "_sent" = some none)
    (n0_6 : PySem.W.findIn K (.ref C0) "_newest" = some none)
    (n0_7 : PySem.W.findIn K (.ref C0) "_counts" = some none)
    (n0_8 : PySem.W.findIn K (.ref C0) "_tops" = some none)
    (n0_9 : PySem.W.findIn K (.ref C0) "_received" = some none)
    (a0 : PySem.W.nsIn K mainGlobals "is_name" = some (some (.ref f0))) (l0 : K.lookup f0 = some ⟨oc0, od0, .func (PySem.W.fnOf "is_name" "is_name" (defArgs sis_name) (defBody sis_name) (defScope sis_name) .none kV0 dc0 pm0 an0 cd0 ct0), sl0⟩) (c0 : PySem.W.codeIn K cd0 "is_name" = true) (k0 : PySem.W.keepIn K (.ref f0) = true)
    (a1 : PySem.W.nsIn K mainGlobals "_is_word" = some (some (.ref f1))) (l1 : K.lookup f1 = some ⟨oc1, od1, .func (PySem.W.fnOf "_is_word" "_is_word" (defArgs s_is_word) (defBody s_is_word) (defScope s_is_word) .none kV1 dc1 pm1 an1 cd1 ct1), sl1⟩) (c1 : PySem.W.codeIn K cd1 "_is_word" = true) (k1 : PySem.W.keepIn K (.ref f1) = true)
    (a2 : PySem.W.findIn K (.ref C0) "__init__" = some (some (.ref f2))) (i2 : PySem.W.isFn K (.ref f2) = true) (l2 : K.lookup f2 = some ⟨oc2, od2, .func (PySem.W.fnOf "__init__" "Tunnel.__init__" (defArgs sTunnel___init__) (defBody sTunnel___init__) (defScope sTunnel___init__) .none kV2 dc2 pm2 an2 cd2 ct2), sl2⟩) (c2 : PySem.W.codeIn K cd2 "Tunnel.__init__" = true) (k2 : PySem.W.keepIn K (.ref f2) = true)
    {pp3 : Addr} {pe3 : List Value} (pa3 : PySem.W.findIn K (.ref C0) "received" = some (some (.ref pp3))) (pb3 : PySem.W.recIn K pp3 "property" = some (.ref f3 :: pe3)) (pc3 : PySem.W.specialIn K (.ref pp3) "__get__" = some (some (.builtin "property.__get__"))) (pd3 : PySem.W.takesIn K (.ref pp3) = some true) (l3 : K.lookup f3 = some ⟨oc3, od3, .func (PySem.W.fnOf "received" "Tunnel.received" (defArgs sTunnel_received) (defBody sTunnel_received) (defScope sTunnel_received) .none kV3 dc3 pm3 an3 cd3 ct3), sl3⟩) (c3 : PySem.W.codeIn K cd3 "Tunnel.received" = true) (k3 : PySem.W.keepIn K (.ref f3) = true)
    (a4 : PySem.W.findIn K (.ref C0) "send" = some (some (.ref f4))) (i4 : PySem.W.isFn K (.ref f4) = true) (l4 : K.lookup f4 = some ⟨oc4, od4, .func (PySem.W.fnOf "send" "Tunnel.send" (defArgs sTunnel_send) (defBody sTunnel_send) (defScope sTunnel_send) .none kV4 dc4 pm4 an4 cd4 ct4), sl4⟩) (c4 : PySem.W.codeIn K cd4 "Tunnel.send" = true) (k4 : PySem.W.keepIn K (.ref f4) = true)
    (a5 : PySem.W.findIn K (.ref C0) "rekey" = some (some (.ref f5))) (i5 : PySem.W.isFn K (.ref f5) = true) (l5 : K.lookup f5 = some ⟨oc5, od5, .func (PySem.W.fnOf "rekey" "Tunnel.rekey" (defArgs sTunnel_rekey) (defBody sTunnel_rekey) (defScope sTunnel_rekey) .none kV5 dc5 pm5 an5 cd5 ct5), sl5⟩) (c5 : PySem.W.codeIn K cd5 "Tunnel.rekey" = true) (k5 : PySem.W.keepIn K (.ref f5) = true)
    (a6 : PySem.W.findIn K (.ref C0) "deliver" = some (some (.ref f6))) (i6 : PySem.W.isFn K (.ref f6) = true) (l6 : K.lookup f6 = some ⟨oc6, od6, .func (PySem.W.fnOf "deliver" "Tunnel.deliver" (defArgs sTunnel_deliver) (defBody sTunnel_deliver) (defScope sTunnel_deliver) .none kV6 dc6 pm6 an6 cd6 ct6), sl6⟩) (c6 : PySem.W.codeIn K cd6 "Tunnel.deliver" = true) (k6 : PySem.W.keepIn K (.ref f6) = true)
    (a7 : PySem.W.findIn K (.ref C0) "_renew" = some (some (.ref f7))) (i7 : PySem.W.isFn K (.ref f7) = true) (l7 : K.lookup f7 = some ⟨oc7, od7, .func (PySem.W.fnOf "_renew" "Tunnel._renew" (defArgs sTunnel__renew) (defBody sTunnel__renew) (defScope sTunnel__renew) .none kV7 dc7 pm7 an7 cd7 ct7), sl7⟩) (c7 : PySem.W.codeIn K cd7 "Tunnel._renew" = true) (k7 : PySem.W.keepIn K (.ref f7) = true)
    (a8 : PySem.W.findIn K (.ref C0) "_judged" = some (some (.ref f8))) (i8 : PySem.W.isFn K (.ref f8) = true) (l8 : K.lookup f8 = some ⟨oc8, od8, .func (PySem.W.fnOf "_judged" "Tunnel._judged" (defArgs sTunnel__judged) (defBody sTunnel__judged) (defScope sTunnel__judged) .none kV8 dc8 pm8 an8 cd8 ct8), sl8⟩) (c8 : PySem.W.codeIn K cd8 "Tunnel._judged" = true) (k8 : PySem.W.keepIn K (.ref f8) = true)
    (a9 : PySem.W.findIn K (.ref C0) "letter" = some (some (.ref f9))) (i9 : PySem.W.isFn K (.ref f9) = true) (l9 : K.lookup f9 = some ⟨oc9, od9, .func (PySem.W.fnOf "letter" "Tunnel.letter" (defArgs sTunnel_letter) (defBody sTunnel_letter) (defScope sTunnel_letter) .none kV9 dc9 pm9 an9 cd9 ct9), sl9⟩) (c9 : PySem.W.codeIn K cd9 "Tunnel.letter" = true) (k9 : PySem.W.keepIn K (.ref f9) = true)
    (a10 : PySem.W.nsIn K mainGlobals "_law_pile" = some (some (.ref f10))) (l10 : K.lookup f10 = some ⟨oc10, od10, .func (PySem.W.fnOf "_law_pile" "_law_pile" (defArgs s_law_pile) (defBody s_law_pile) (defScope s_law_pile) .none kV10 dc10 pm10 an10 cd10 ct10), sl10⟩) (c10 : PySem.W.codeIn K cd10 "_law_pile" = true) (k10 : PySem.W.keepIn K (.ref f10) = true)
    (a11 : PySem.W.nsIn K mainGlobals "_law_draw" = some (some (.ref f11))) (l11 : K.lookup f11 = some ⟨oc11, od11, .func (PySem.W.fnOf "_law_draw" "_law_draw" (defArgs s_law_draw) (defBody s_law_draw) (defScope s_law_draw) .none kV11 dc11 pm11 an11 cd11 ct11), sl11⟩) (c11 : PySem.W.codeIn K cd11 "_law_draw" = true) (k11 : PySem.W.keepIn K (.ref f11) = true)
    (a12 : PySem.W.nsIn K mainGlobals "_law_names" = some (some (.ref f12))) (l12 : K.lookup f12 = some ⟨oc12, od12, .func (PySem.W.fnOf "_law_names" "_law_names" (defArgs s_law_names) (defBody s_law_names) (defScope s_law_names) .none kV12 dc12 pm12 an12 cd12 ct12), sl12⟩) (c12 : PySem.W.codeIn K cd12 "_law_names" = true) (k12 : PySem.W.keepIn K (.ref f12) = true)
    (a13 : PySem.W.nsIn K mainGlobals "_law_whole" = some (some (.ref f13))) (l13 : K.lookup f13 = some ⟨oc13, od13, .func (PySem.W.fnOf "_law_whole" "_law_whole" (defArgs s_law_whole) (defBody s_law_whole) (defScope s_law_whole) .none kV13 dc13 pm13 an13 cd13 ct13), sl13⟩) (c13 : PySem.W.codeIn K cd13 "_law_whole" = true) (k13 : PySem.W.keepIn K (.ref f13) = true)
    (a14 : PySem.W.nsIn K mainGlobals "_law_same" = some (some (.ref f14))) (l14 : K.lookup f14 = some ⟨oc14, od14, .func (PySem.W.fnOf "_law_same" "_law_same" (defArgs s_law_same) (defBody s_law_same) (defScope s_law_same) .none kV14 dc14 pm14 an14 cd14 ct14), sl14⟩) (c14 : PySem.W.codeIn K cd14 "_law_same" = true) (k14 : PySem.W.keepIn K (.ref f14) = true)
    (a15 : PySem.W.nsIn K mainGlobals "_law_size" = some (some (.ref f15))) (l15 : K.lookup f15 = some ⟨oc15, od15, .func (PySem.W.fnOf "_law_size" "_law_size" (defArgs s_law_size) (defBody s_law_size) (defScope s_law_size) .none kV15 dc15 pm15 an15 cd15 ct15), sl15⟩) (c15 : PySem.W.codeIn K cd15 "_law_size" = true) (k15 : PySem.W.keepIn K (.ref f15) = true)
    (a16 : PySem.W.nsIn K mainGlobals "_law_word" = some (some (.ref f16))) (l16 : K.lookup f16 = some ⟨oc16, od16, .func (PySem.W.fnOf "_law_word" "_law_word" (defArgs s_law_word) (defBody s_law_word) (defScope s_law_word) .none kV16 dc16 pm16 an16 cd16 ct16), sl16⟩) (c16 : PySem.W.codeIn K cd16 "_law_word" = true) (k16 : PySem.W.keepIn K (.ref f16) = true)
    (a17 : PySem.W.nsIn K mainGlobals "_law_send" = some (some (.ref f17))) (l17 : K.lookup f17 = some ⟨oc17, od17, .func (PySem.W.fnOf "_law_send" "_law_send" (defArgs s_law_send) (defBody s_law_send) (defScope s_law_send) .none kV17 dc17 pm17 an17 cd17 ct17), sl17⟩) (c17 : PySem.W.codeIn K cd17 "_law_send" = true) (k17 : PySem.W.keepIn K (.ref f17) = true)
    (a18 : PySem.W.nsIn K mainGlobals "_law_rekey" = some (some (.ref f18))) (l18 : K.lookup f18 = some ⟨oc18, od18, .func (PySem.W.fnOf "_law_rekey" "_law_rekey" (defArgs s_law_rekey) (defBody s_law_rekey) (defScope s_law_rekey) .none kV18 dc18 pm18 an18 cd18 ct18), sl18⟩) (c18 : PySem.W.codeIn K cd18 "_law_rekey" = true) (k18 : PySem.W.keepIn K (.ref f18) = true)
    (a19 : PySem.W.nsIn K mainGlobals "_law_deliver" = some (some (.ref f19))) (l19 : K.lookup f19 = some ⟨oc19, od19, .func (PySem.W.fnOf "_law_deliver" "_law_deliver" (defArgs s_law_deliver) (defBody s_law_deliver) (defScope s_law_deliver) .none kV19 dc19 pm19 an19 cd19 ct19), sl19⟩) (c19 : PySem.W.codeIn K cd19 "_law_deliver" = true) (k19 : PySem.W.keepIn K (.ref f19) = true)
    (a20 : PySem.W.nsIn K mainGlobals "_law_shuffled" = some (some (.ref f20))) (l20 : K.lookup f20 = some ⟨oc20, od20, .func (PySem.W.fnOf "_law_shuffled" "_law_shuffled" (defArgs s_law_shuffled) (defBody s_law_shuffled) (defScope s_law_shuffled) .none kV20 dc20 pm20 an20 cd20 ct20), sl20⟩) (c20 : PySem.W.codeIn K cd20 "_law_shuffled" = true) (k20 : PySem.W.keepIn K (.ref f20) = true)
    (a21 : PySem.W.nsIn K mainGlobals "_law_any_order" = some (some (.ref f21))) (l21 : K.lookup f21 = some ⟨oc21, od21, .func (PySem.W.fnOf "_law_any_order" "_law_any_order" (defArgs s_law_any_order) (defBody s_law_any_order) (defScope s_law_any_order) .none kV21 dc21 pm21 an21 cd21 ct21), sl21⟩) (c21 : PySem.W.codeIn K cd21 "_law_any_order" = true) (k21 : PySem.W.keepIn K (.ref f21) = true)
    (a22 : PySem.W.nsIn K mainGlobals "law" = some (some (.ref f22))) (l22 : K.lookup f22 = some ⟨oc22, od22, .func (PySem.W.fnOf "law" "law" (defArgs slaw) (defBody slaw) (defScope slaw) .none kV22 dc22 pm22 an22 cd22 ct22), sl22⟩) (c22 : PySem.W.codeIn K cd22 "law" = true) (k22 : PySem.W.keepIn K (.ref f22) = true)
    {tk_LONGEST_NAME : Tok} (cc_LONGEST_NAME : PySem.W.nsIn K mainGlobals "LONGEST_NAME" = some (some (.int 8 tk_LONGEST_NAME)))
    {tk_WIDEST_WINDOW : Tok} (cc_WIDEST_WINDOW : PySem.W.nsIn K mainGlobals "WIDEST_WINDOW" = some (some (.int 64 tk_WIDEST_WINDOW)))
    {tk_LAST_EPOCH : Tok} (cc_LAST_EPOCH : PySem.W.nsIn K mainGlobals "LAST_EPOCH" = some (some (.int 12 tk_LAST_EPOCH)))
    (z_ValueError : PySem.W.nsIn K mainGlobals "ValueError" = some none)
    (z_abs : PySem.W.nsIn K mainGlobals "abs" = some none)
    (z_all : PySem.W.nsIn K mainGlobals "all" = some none)
    (z_bool : PySem.W.nsIn K mainGlobals "bool" = some none)
    (z_int : PySem.W.nsIn K mainGlobals "int" = some none)
    (z_isinstance : PySem.W.nsIn K mainGlobals "isinstance" = some none)
    (z_len : PySem.W.nsIn K mainGlobals "len" = some none)
    (z_list : PySem.W.nsIn K mainGlobals "list" = some none)
    (z_max : PySem.W.nsIn K mainGlobals "max" = some none)
    (z_property : PySem.W.nsIn K mainGlobals "property" = some none)
    (z_range : PySem.W.nsIn K mainGlobals "range" = some none)
    (z_str : PySem.W.nsIn K mainGlobals "str" = some none)
    (z_tuple : PySem.W.nsIn K mainGlobals "tuple" = some none)
    : ∃ fd : FuncData, (∀ (s : Shared) (v : Value), BindsTo s fd ⟨[v], []⟩ [("script", v)]) ∧ ∀ base : Heap, K.In base → base.Ns mainGlobals mg → FnOk l.prog w K mg base CX0 6 fa fd ["script"] (spLaw K) := by
  have e := hfa.symm.trans (PySem.W.mg_of X G a22)
  cases e
  let T : Top K mg := {
    C_Tunnel := C0, g_Tunnel := PySem.W.mg_of X G aC0, cl_Tunnel := ⟨pg0, hd0, po0, sa0⟩, mk_Tunnel := ⟨mk0, a2, i2, kc0⟩,
    n_Tunnel_window := n0_0,
    n_Tunnel_first := n0_1,
    n_Tunnel_second := n0_2,
    n_Tunnel__letters := n0_3,
    n_Tunnel__epoch := n0_4,
    n_Tunnel__sent := n0_5,
    n_Tunnel__newest := n0_6,
    n_Tunnel__counts := n0_7,
    n_Tunnel__tops := n0_8,
    n_Tunnel__received := n0_9,
    fis_name := f0, dis_name := _, Fis_name := fun_mk (st := sis_name) l0 c0 k0, gis_name := PySem.W.mg_of X G a0, bis_name := (fun_mk (st := sis_name) l0 c0 k0).binds (ps := ["value"]) fun _ _ _ _ _ _ us hl => match us, hl with | [_], _ => rfl,
    f_is_word := f1, d_is_word := _, F_is_word := fun_mk (st := s_is_word) l1 c1 k1, g_is_word := PySem.W.mg_of X G a1, b_is_word := (fun_mk (st := s_is_word) l1 c1 k1).binds (ps := ["value", "least", "greatest"]) fun _ _ _ _ _ _ us hl => match us, hl with | [_, _, _], _ => rfl,
    fTunnel___init__ := f2, dTunnel___init__ := _, FTunnel___init__ := fun_mk (st := sTunnel___init__) l2 c2 k2, mTunnel___init__ := ⟨a2, i2, k2⟩, bTunnel___init__ := (fun_mk (st := sTunnel___init__) l2 c2 k2).binds (ps := ["self", "window", "first", "second"]) fun _ _ _ _ _ _ us hl => match us, hl with | [_, _, _, _], _ => rfl,
    fTunnel_received := f3, dTunnel_received := _, FTunnel_received := fun_mk (st := sTunnel_received) l3 c3 k3, p_Tunnel_received := pp3, pr_Tunnel_received := ⟨pa3, pc3, pd3, pe3, pb3⟩, bTunnel_received := (fun_mk (st := sTunnel_received) l3 c3 k3).binds (ps := ["self"]) fun _ _ _ _ _ _ us hl => match us, hl with | [_], _ => rfl,
    fTunnel_send := f4, dTunnel_send := _, FTunnel_send := fun_mk (st := sTunnel_send) l4 c4 k4, mTunnel_send := ⟨a4, i4, k4⟩, bTunnel_send := (fun_mk (st := sTunnel_send) l4 c4 k4).binds (ps := ["self", "payload"]) fun _ _ _ _ _ _ us hl => match us, hl with | [_, _], _ => rfl,
    fTunnel_rekey := f5, dTunnel_rekey := _, FTunnel_rekey := fun_mk (st := sTunnel_rekey) l5 c5 k5, mTunnel_rekey := ⟨a5, i5, k5⟩, bTunnel_rekey := (fun_mk (st := sTunnel_rekey) l5 c5 k5).binds (ps := ["self"]) fun _ _ _ _ _ _ us hl => match us, hl with | [_], _ => rfl,
    fTunnel_deliver := f6, dTunnel_deliver := _, FTunnel_deliver := fun_mk (st := sTunnel_deliver) l6 c6 k6, mTunnel_deliver := ⟨a6, i6, k6⟩, bTunnel_deliver := (fun_mk (st := sTunnel_deliver) l6 c6 k6).binds (ps := ["self", "number"]) fun _ _ _ _ _ _ us hl => match us, hl with | [_, _], _ => rfl,
    fTunnel__renew := f7, dTunnel__renew := _, FTunnel__renew := fun_mk (st := sTunnel__renew) l7 c7 k7, mTunnel__renew := ⟨a7, i7, k7⟩, bTunnel__renew := (fun_mk (st := sTunnel__renew) l7 c7 k7).binds (ps := ["self", "epoch"]) fun _ _ _ _ _ _ us hl => match us, hl with | [_, _], _ => rfl,
    fTunnel__judged := f8, dTunnel__judged := _, FTunnel__judged := fun_mk (st := sTunnel__judged) l8 c8 k8, mTunnel__judged := ⟨a8, i8, k8⟩, bTunnel__judged := (fun_mk (st := sTunnel__judged) l8 c8 k8).binds (ps := ["self", "back", "number", "count"]) fun _ _ _ _ _ _ us hl => match us, hl with | [_, _, _, _], _ => rfl,
    fTunnel_letter := f9, dTunnel_letter := _, FTunnel_letter := fun_mk (st := sTunnel_letter) l9 c9 k9, mTunnel_letter := ⟨a9, i9, k9⟩, bTunnel_letter := (fun_mk (st := sTunnel_letter) l9 c9 k9).binds (ps := ["self", "number"]) fun _ _ _ _ _ _ us hl => match us, hl with | [_, _], _ => rfl,
    f_law_pile := f10, d_law_pile := _, F_law_pile := fun_mk (st := s_law_pile) l10 c10 k10, g_law_pile := PySem.W.mg_of X G a10, b_law_pile := (fun_mk (st := s_law_pile) l10 c10 k10).binds (ps := ["script"]) fun _ _ _ _ _ _ us hl => match us, hl with | [_], _ => rfl,
    f_law_draw := f11, d_law_draw := _, F_law_draw := fun_mk (st := s_law_draw) l11 c11 k11, g_law_draw := PySem.W.mg_of X G a11, b_law_draw := (fun_mk (st := s_law_draw) l11 c11 k11).binds (ps := ["pile", "many"]) fun _ _ _ _ _ _ us hl => match us, hl with | [_, _], _ => rfl,
    f_law_names := f12, d_law_names := _, F_law_names := fun_mk (st := s_law_names) l12 c12 k12, g_law_names := PySem.W.mg_of X G a12, b_law_names := (fun_mk (st := s_law_names) l12 c12 k12).binds (ps := ["pile", "many"]) fun _ _ _ _ _ _ us hl => match us, hl with | [_, _], _ => rfl,
    f_law_whole := f13, d_law_whole := _, F_law_whole := fun_mk (st := s_law_whole) l13 c13 k13, g_law_whole := PySem.W.mg_of X G a13, b_law_whole := (fun_mk (st := s_law_whole) l13 c13 k13).binds (ps := ["actual"]) fun _ _ _ _ _ _ us hl => match us, hl with | [_], _ => rfl,
    f_law_same := f14, d_law_same := _, F_law_same := fun_mk (st := s_law_same) l14 c14 k14, g_law_same := PySem.W.mg_of X G a14, b_law_same := (fun_mk (st := s_law_same) l14 c14 k14).binds (ps := ["actual", "expected"]) fun _ _ _ _ _ _ us hl => match us, hl with | [_, _], _ => rfl,
    f_law_size := f15, d_law_size := _, F_law_size := fun_mk (st := s_law_size) l15 c15 k15, g_law_size := PySem.W.mg_of X G a15, b_law_size := (fun_mk (st := s_law_size) l15 c15 k15).binds (ps := ["pile"]) fun _ _ _ _ _ _ us hl => match us, hl with | [_], _ => rfl,
    f_law_word := f16, d_law_word := _, F_law_word := fun_mk (st := s_law_word) l16 c16 k16, g_law_word := PySem.W.mg_of X G a16, b_law_word := (fun_mk (st := s_law_word) l16 c16 k16).binds (ps := ["size", "letters", "history", "number"]) fun _ _ _ _ _ _ us hl => match us, hl with | [_, _, _, _], _ => rfl,
    f_law_send := f17, d_law_send := _, F_law_send := fun_mk (st := s_law_send) l17 c17 k17, g_law_send := PySem.W.mg_of X G a17, b_law_send := (fun_mk (st := s_law_send) l17 c17 k17).binds (ps := ["every", "once", "direct", "letters", "sender", "payload"]) fun _ _ _ _ _ _ us hl => match us, hl with | [_, _, _, _, _, _], _ => rfl,
    f_law_rekey := f18, d_law_rekey := _, F_law_rekey := fun_mk (st := s_law_rekey) l18 c18 k18, g_law_rekey := PySem.W.mg_of X G a18, b_law_rekey := (fun_mk (st := s_law_rekey) l18 c18 k18).binds (ps := ["every", "once", "direct", "sender"]) fun _ _ _ _ _ _ us hl => match us, hl with | [_, _, _, _], _ => rfl,
    f_law_deliver := f19, d_law_deliver := _, F_law_deliver := fun_mk (st := s_law_deliver) l19 c19 k19, g_law_deliver := PySem.W.mg_of X G a19, b_law_deliver := (fun_mk (st := s_law_deliver) l19 c19 k19).binds (ps := ["every", "once", "size", "letters", "history", "expected", "number"]) fun _ _ _ _ _ _ us hl => match us, hl with | [_, _, _, _, _, _, _], _ => rfl,
    f_law_shuffled := f20, d_law_shuffled := _, F_law_shuffled := fun_mk (st := s_law_shuffled) l20 c20 k20, g_law_shuffled := PySem.W.mg_of X G a20, b_law_shuffled := (fun_mk (st := s_law_shuffled) l20 c20 k20).binds (ps := ["pile", "found"]) fun _ _ _ _ _ _ us hl => match us, hl with | [_, _], _ => rfl,
    f_law_any_order := f21, d_law_any_order := _, F_law_any_order := fun_mk (st := s_law_any_order) l21 c21 k21, g_law_any_order := PySem.W.mg_of X G a21, b_law_any_order := (fun_mk (st := s_law_any_order) l21 c21 k21).binds (ps := ["pile", "names", "letters"]) fun _ _ _ _ _ _ us hl => match us, hl with | [_, _, _], _ => rfl,
    flaw := fa, dlaw := _, Flaw := fun_mk (st := slaw) l22 c22 k22, glaw := PySem.W.mg_of X G a22, blaw := (fun_mk (st := slaw) l22 c22 k22).binds (ps := ["script"]) fun _ _ _ _ _ _ us hl => match us, hl with | [_], _ => rfl,
    t_LONGEST_NAME := tk_LONGEST_NAME, c_LONGEST_NAME := PySem.W.mg_of X G cc_LONGEST_NAME,
    t_WIDEST_WINDOW := tk_WIDEST_WINDOW, c_WIDEST_WINDOW := PySem.W.mg_of X G cc_WIDEST_WINDOW,
    t_LAST_EPOCH := tk_LAST_EPOCH, c_LAST_EPOCH := PySem.W.mg_of X G cc_LAST_EPOCH,
    z_ValueError := PySem.W.mg_none_of X G z_ValueError, z_abs := PySem.W.mg_none_of X G z_abs, z_all := PySem.W.mg_none_of X G z_all, z_bool := PySem.W.mg_none_of X G z_bool, z_int := PySem.W.mg_none_of X G z_int, z_isinstance := PySem.W.mg_none_of X G z_isinstance, z_len := PySem.W.mg_none_of X G z_len, z_list := PySem.W.mg_none_of X G z_list, z_max := PySem.W.mg_none_of X G z_max, z_property := PySem.W.mg_none_of X G z_property, z_range := PySem.W.mg_none_of X G z_range, z_str := PySem.W.mg_none_of X G z_str, z_tuple := PySem.W.mg_none_of X G z_tuple }
  exact ⟨PySem.W.fnOf "law" "law" (defArgs slaw) (defBody slaw) (defScope slaw) .none kV22 dc22 pm22 an22 cd22 ct22, fun s v => .of_eq rfl, fun base _ _ => oklaw T⟩
end Mu
open PySem PySem.W PyProof.Rows
set_option maxHeartbeats 0 in
theorem PySem.Challenge.cw_muffline_k73_whole_tunnel_words_holds : PySem.Challenge.rw_muffline_k73_whole_tunnel_words.Holds := by
  w_on; o_law; k_head; (case hw => w_witness2)
  k_fill
  refine L2.walk_of (l := PySem.Challenge.rw_muffline_k73_whole_tunnel_words) (n := 63) (k := 6) (x := "script") (CX := fun _ => L2.CX0) (sp := fun w => Mu.spLaw _) rfl (by decide) rfl ⟨rfl, by decide, by decide⟩ (fun w h Y => PySem.W.kIn_of Y) ?F (fun _ _ a ns hl _ hS => ⟨a, ns, rfl, hS, hl, fun _ => rfl⟩) (fun _ _ _ _ _ h => h)
  case F =>
    intro w mg fa h KX G hmg
    refine' Mu.all_mk  KX G hmg ?aC0 ?pg0 ?hd0 ?po0 ?sa0 ?mk0 ?kc0 ?n0_0 ?n0_1 ?n0_2 ?n0_3 ?n0_4 ?n0_5 ?n0_6 ?n0_7 ?n0_8 ?n0_9 ?a0 ?l0 ?c0 ?k0 ?a1 ?l1 ?c1 ?k1 ?a2 ?i2 ?l2 ?c2 ?k2 ?pa3 ?pb3 ?l3 ?c3 ?k3 ?pc3 ?pd3 ?a4 ?i4 ?l4 ?c4 ?k4 ?a5 ?i5 ?l5 ?c5 ?k5 ?a6 ?i6 ?l6 ?c6 ?k6 ?a7 ?i7 ?l7 ?c7 ?k7 ?a8 ?i8 ?l8 ?c8 ?k8 ?a9 ?i9 ?l9 ?c9 ?k9 ?a10 ?l10 ?c10 ?k10 ?a11 ?l11 ?c11 ?k11 ?a12 ?l12 ?c12 ?k12 ?a13 ?l13 ?c13 ?k13 ?a14 ?l14 ?c14 ?k14 ?a15 ?l15 ?c15 ?k15 ?a16 ?l16 ?c16 ?k16 ?a17 ?l17 ?c17 ?k17 ?a18 ?l18 ?c18 ?k18 ?a19 ?l19 ?c19 ?k19 ?a20 ?l20 ?c20 ?k20 ?a21 ?l21 ?c21 ?k21 ?a22 ?l22 ?c22 ?k22 ?cc_LONGEST_NAME ?cc_WIDEST_WINDOW ?cc_LAST_EPOCH ?z_ValueError ?z_abs ?z_all ?z_bool ?z_int ?z_isinstance ?z_len ?z_list ?z_max ?z_property ?z_range ?z_str ?z_tuple
    (case aC0 => k_is); (case pg0 => k_is); (case hd0 => k_is); (case po0 => k_is); (case sa0 => k_is); (case mk0 => k_is); (case kc0 => k_is); (case n0_0 => k_is); (case n0_1 => k_is); (case n0_2 => k_is); (case n0_3 => k_is); (case n0_4 => k_is); (case n0_5 => k_is); (case n0_6 => k_is); (case n0_7 => k_is); (case n0_8 => k_is); (case n0_9 => k_is); (case a0 => k_is); (case l0 => k_is); (case c0 => k_is); (case k0 => k_is); (case a1 => k_is); (case l1 => k_is); (case c1 => k_is); (case k1 => k_is); (case a2 => k_is); (case i2 => k_is); (case l2 => k_is); (case c2 => k_is); (case k2 => k_is); (case pa3 => k_is); (case pb3 => k_is); (case l3 => k_is); (case c3 => k_is); (case k3 => k_is); (case pc3 => k_is); (case pd3 => k_is); (case a4 => k_is); (case i4 => k_is); (case l4 => k_is); (case c4 => k_is); (case k4 => k_is); (case a5 => k_is); (case i5 => k_is); (case l5 => k_is); (case c5 => k_is); (case k5 => k_is); (case a6 => k_is); (case i6 => k_is); (case l6 => k_is); (case c6 => k_is); (case k6 => k_is); (case a7 => k_is); (case i7 => k_is); (case l7 => k_is); (case c7 => k_is); (case k7 => k_is); (case a8 => k_is); (case i8 => k_is); (case l8 => k_is); (case c8 => k_is); (case k8 => k_is); (case a9 => k_is); (case i9 => k_is); (case l9 => k_is); (case c9 => k_is); (case k9 => k_is); (case a10 => k_is); (case l10 => k_is); (case c10 => k_is); (case k10 => k_is); (case a11 => k_is); (case l11 => k_is); (case c11 => k_is); (case k11 => k_is); (case a12 => k_is); (case l12 => k_is); (case c12 => k_is); (case k12 => k_is); (case a13 => k_is); (case l13 => k_is); (case c13 => k_is); (case k13 => k_is); (case a14 => k_is); (case l14 => k_is); (case c14 => k_is); (case k14 => k_is); (case a15 => k_is); (case l15 => k_is); (case c15 => k_is); (case k15 => k_is); (case a16 => k_is); (case l16 => k_is); (case c16 => k_is); (case k16 => k_is); (case a17 => k_is); (case l17 => k_is); (case c17 => k_is); (case k17 => k_is); (case a18 => k_is); (case l18 => k_is); (case c18 => k_is); (case k18 => k_is); (case a19 => k_is); (case l19 => k_is); (case c19 => k_is); (case k19 => k_is); (case a20 => k_is); (case l20 => k_is); (case c20 => k_is); (case k20 => k_is); (case a21 => k_is); (case l21 => k_is); (case c21 => k_is); (case k21 => k_is); (case a22 => k_is); (case l22 => k_is); (case c22 => k_is); (case k22 => k_is); (case cc_LONGEST_NAME => k_is); (case cc_WIDEST_WINDOW => k_is); (case cc_LAST_EPOCH => k_is); (case z_ValueError => k_is); (case z_abs => k_is); (case z_all => k_is); (case z_bool => k_is); (case z_int => k_is); (case z_isinstance => k_is); (case z_len => k_is); (case z_list => k_is); (case z_max => k_is); (case z_property => k_is); (case z_range => k_is); (case z_str => k_is); (case z_tuple => k_is)

