import PyProof.Rows.All
import Wide.All
import OpenK.AllK
import Wide.FinOn
import HandS.ForMost
import HandS.More
import HandS.Rev
import HandS.IsInst
import HandS.TupAny
import HandS.RaiseMore
import HandS.SetKeys
import HandS.SortKw
import HandS.Style
import HandS.StrMore
import KE.KRevSl
import HandS.Walk
import HandS.Conv
import HandS.TupLe
import HandS.Iter
import KE.GoesMore
import PyProof.Draws
import PySem.Challenge.RW_muffline_k03_order_of_terms
set_option Elab.async false
set_option linter.all false
set_option maxRecDepth 100000
set_option maxHeartbeats 4000000
set_option pp.maxSteps 400
namespace Mu
open PySem PySem.Spec PyProof.Rows L2
/-! ### texts by their codes -/
def cd (z : Str) : List Nat := z.cps.toList
theorem cd_app (a b : Str) : cd (a ++ b) = cd a ++ cd b := by
  show (a.cps ++ b.cps).toList = _
  rw [Array.toList_append]; rfl
theorem cd_len (z : Str) : z.length = (cd z).length := by unfold cd Str.length; rw [Array.length_toList]
theorem cd_ext {a b : Str} (h : cd a = cd b) : a = b := Str.ext' (Array.toList_inj.mp h)
theorem cd_mk (l : List Nat) : cd ⟨l.toArray⟩ = l := rfl
theorem cd_cut (z : Str) (lo hi : Option Int) : cd (cutS z lo hi) = ((cd z).drop (HT.sIx z.length 0 lo)).take (HT.sIx z.length z.length hi - HT.sIx z.length 0 lo) := rfl
theorem cd_pre (z : Str) (k : Nat) : cd (cutS z none (some (k : Int))) = (cd z).take k := by
  rw [cd_cut, HT.sIx_none, HT.sIx_nat, List.drop_zero, Nat.sub_zero, cd_len, ← List.take_eq_take_min]
theorem cd_suf (z : Str) (k : Nat) : cd (cutS z (some (k : Int)) none) = (cd z).drop k := by
  rw [cd_cut, HT.sIx_none, HT.sIx_nat, cd_len]
  by_cases h : k ≤ (cd z).length
  · rw [Nat.min_eq_left h]
    exact List.take_of_length_le (by rw [List.length_drop]; exact Nat.le_refl _)
  · rw [Nat.min_eq_right (by omega), Nat.sub_self, List.take_zero, List.drop_of_length_le (by omega)]
theorem join_cons2 (a x y : Str) (r : List Str) : Str.join a (x :: y :: r) = x ++ a ++ Str.join a (y :: r) := rfl
theorem cd_join (a : Str) : ∀ ys : List Str, cd (Txt.join a ys) = ((ys.map cd).intersperse (cd a)).flatten := by
  intro ys
  show cd (Builtin.Str.glued a ys) = _
  rw [StrLaws.glued_eq_join]
  induction ys with
  | nil => rfl
  | cons x r ih =>
    cases r with
    | nil => show cd x = cd x ++ []; rw [List.append_nil]
    | cons y r =>
      rw [join_cons2, cd_app, cd_app, ih]
      simp [List.intersperse, List.append_assoc]
theorem cd_join0 (ys : List Str) : cd (Txt.join "" ys) = ys.flatMap cd := by
  rw [cd_join, show cd "" = [] from rfl]
  induction ys with
  | nil => rfl
  | cons x r ih =>
    cases r with
    | nil => simp
    | cons y r =>
      simp only [List.map_cons, List.intersperse, List.flatten_cons, List.nil_append, List.flatMap_cons] at ih ⊢
      rw [ih]
theorem len_appS (a b : Str) : (a ++ b).length = a.length + b.length := by rw [cd_len, cd_len, cd_len, cd_app, List.length_append]
theorem join_len (ys : List Str) : (ys.map (·.length)).sum + ys.length ≤ (Txt.join " " ys).length + 1 := by
  show _ ≤ (Builtin.Str.glued " " ys).length + 1
  rw [StrLaws.glued_eq_join]
  induction ys with
  | nil => exact Nat.zero_le _
  | cons x r ih =>
    cases r with
    | nil =>
      show x.length + 0 + 1 ≤ x.length + 1
      omega
    | cons y r =>
      rw [join_cons2, len_appS, len_appS, List.map_cons, List.sum_cons, List.length_cons]
      have e : (" " : Str).length = 1 := rfl
      omega
theorem occ_run (x : Str) (c : Nat) : ∀ (k j : Nat) (acc : Array Nat) (free : Nat), free ≤ j → acc.size ≤ j → j + k = x.length + 1 →
    (forIn (List.range' j k) (acc, free) (StrLaws.occBody x ⟨#[c]⟩ x.length (x.length + 1))).run.fst.toList.length = acc.size + ((cd x).drop j).count c
  | 0, j, acc, free, _, _, e => by
    rw [List.drop_of_length_le (by rw [← cd_len]; omega)]
    show acc.toList.length = acc.size + 0
    rw [Array.length_toList, Nat.add_zero]
  | k + 1, j, acc, free, h1, h2, e => by
    rw [List.range'_succ, List.forIn_cons]
    unfold StrLaws.occBody
    by_cases hc : x.cps.toList[j]? = some c
    · have h3 := (StrLaws.subAt_one x c j).mpr hc
      rw [if_pos ⟨⟨⟨by show acc.size < _; omega, h1⟩, h3.1⟩, h3.2⟩]
      have ih := occ_run x c k (j + 1) (acc.push j) (j + 1) (Nat.le_refl _) (by rw [Array.size_push]; omega) (by omega)
      have ed : (cd x).drop j = c :: (cd x).drop (j + 1) := by
        rw [List.drop_eq_getElem?_toList_append, show (cd x)[j]? = some c from hc]; rfl
      rw [ed, List.count_cons_self]
      rw [Array.size_push] at ih
      show (forIn (List.range' (j + 1) k) (acc.push j, j + 1) (StrLaws.occBody x ⟨#[c]⟩ x.length (x.length + 1))).run.fst.toList.length = _
      rw [ih]
      omega
    · rw [if_neg (fun h => hc ((StrLaws.subAt_one x c j).mp ⟨h.1.2, h.2⟩))]
      have ih := occ_run x c k (j + 1) acc free (by omega) (by omega) (by omega)
      show (forIn (List.range' (j + 1) k) (acc, free) (StrLaws.occBody x ⟨#[c]⟩ x.length (x.length + 1))).run.fst.toList.length = _
      rw [ih]
      congr 1
      by_cases hj : j < (cd x).length
      · have ed : (cd x).drop j = (cd x)[j] :: (cd x).drop (j + 1) := List.drop_eq_getElem_cons hj
        rw [ed, List.count_cons_of_ne]
        intro e
        apply hc
        show (cd x)[j]? = some c
        rw [List.getElem?_eq_getElem hj, e]
      · rw [List.drop_of_length_le (by omega), List.drop_of_length_le (by omega)]
theorem count_one (x : Str) (c : Nat) : Txt.count x ⟨#[c]⟩ = (((cd x).count c : Nat) : Int) := by
  show (((Builtin.Str.occurrences x ⟨#[c]⟩ 0 x.length (x.length + 1)).length : Nat) : Int) = _
  rw [StrLaws.occ_eq]
  have h := occ_run x c (x.length + 1) 0 #[] 0 (Nat.le_refl _) (Nat.le_refl _) (by omega)
  rw [Nat.sub_zero, h]
  show ((0 + ((cd x).drop 0).count c : Nat) : Int) = _
  rw [List.drop_zero, Nat.zero_add]
/-- a name: one to eight small letters -/
structure Nm (z : Str) : Prop where
  lo : 1 ≤ z.length
  hi : z.length ≤ 8
  az : ∀ c ∈ cd z, 97 ≤ c ∧ c ≤ 122
/-! ### data: texts, ints, None, tuples -/
mutual
inductive DAt (H : Hp) : V → PyData → Prop
  | str (x : Str) : DAt H (.str x) (.str x)
  | int (i : Int) : DAt H (.int i) (.int i)
  | non : DAt H .non .none
  | tup {a : Addr} {vs : List V} {ds : List PyData} : H a = some (.tup vs) → DsAt H vs ds → DAt H (.ref a) (.tuple ds)
inductive DsAt (H : Hp) : List V → List PyData → Prop
  | nil : DsAt H [] []
  | cons {v : V} {vs : List V} {d : PyData} {ds : List PyData} : DAt H v d → DsAt H vs ds → DsAt H (v :: vs) (d :: ds)
end
/-- tuples stay -/
def Tk (H H' : Hp) : Prop := ∀ a vs, H a = some (.tup vs) → H' a = some (.tup vs)
theorem Tk.refl (H : Hp) : Tk H H := fun _ _ h => h
theorem Tk.trans {H H1 H2 : Hp} (p : Tk H H1) (q : Tk H1 H2) : Tk H H2 := fun a vs h => q a vs (p a vs h)
theorem Tk.same {H H' : Hp} (s : Same H H') : Tk H H' := fun a vs h => s a _ h
theorem Tk.upd {H : Hp} {a : Addr} {o : HO} (n : ∀ vs, H a ≠ some (.tup vs)) : Tk H (L2.upd H a o) := fun b vs h => by
  have nb : b ≠ a := fun e => by subst e; exact n vs h
  rw [upd_ne nb]
  exact h
theorem Tk.new {H : Hp} {a : Addr} {o : HO} (n : H a = none) : Tk H (L2.upd H a o) := Tk.upd fun vs e => by rw [n] at e; cases e
theorem Tk.lst {H : Hp} {a : Addr} {o : HO} {xs : List V} (h : H a = some (.lst xs)) : Tk H (L2.upd H a o) := Tk.upd fun vs e => by rw [h] at e; cases e
mutual
theorem DAt.mono {H H' : Hp} (t : Tk H H') : ∀ {v d}, DAt H v d → DAt H' v d
  | _, _, .str x => .str x
  | _, _, .int i => .int i
  | _, _, .non => .non
  | _, _, .tup h r => .tup (t _ _ h) (DsAt.mono t r)
theorem DsAt.mono {H H' : Hp} (t : Tk H H') : ∀ {vs ds}, DsAt H vs ds → DsAt H' vs ds
  | _, _, .nil => .nil
  | _, _, .cons h r => .cons (DAt.mono t h) (DsAt.mono t r)
end
theorem DsAt.length {H : Hp} : ∀ {vs ds}, DsAt H vs ds → vs.length = ds.length
  | _, _, .nil => rfl
  | _, _, .cons _ r => congrArg (· + 1) (DsAt.length r)
theorem DsAt.get {H : Hp} : ∀ {vs ds} {i : Nat} {v : V}, DsAt H vs ds → vs[i]? = some v → ∃ d, ds[i]? = some d ∧ DAt H v d
  | _, _, 0, v, .cons h _, e => ⟨_, rfl, by cases e; exact h⟩
  | _, _, i + 1, v, .cons _ r, e => DsAt.get (i := i) r e
theorem DsAt.app {H : Hp} : ∀ {vs ds ws es}, DsAt H vs ds → DsAt H ws es → DsAt H (vs ++ ws) (ds ++ es)
  | _, _, _, _, .nil, h => h
  | _, _, _, _, .cons h r, g => .cons h (DsAt.app r g)
theorem DsAt.split {H : Hp} : ∀ {vs ds es}, DsAt H vs (ds ++ es) → ∃ v1 v2, vs = v1 ++ v2 ∧ DsAt H v1 ds ∧ DsAt H v2 es
  | vs, [], es, h => ⟨[], vs, rfl, .nil, h⟩
  | _, d :: ds, es, .cons h r => by
    obtain ⟨v1, v2, rfl, a, b⟩ := DsAt.split r
    exact ⟨_ :: v1, v2, rfl, .cons h a, b⟩
/-! all that occurs: the tuples, each ahead of what it holds -/
mutual
def occ : PyData → List PyData
  | .tuple ds => .tuple ds :: occs ds
  | _ => []
def occs : List PyData → List PyData
  | [] => []
  | d :: r => occ d ++ occs r
end
/-! the written form -/
mutual
def wr : PyData → Str
  | .tuple ds => ("(" : Str) ++ Txt.join " " (wrs ds) ++ (")" : Str)
  | .str z => z
  | .int i => Str.ofString (toString i)
  | _ => Str.empty
def wrs : List PyData → List Str
  | [] => []
  | d :: r => wr d :: wrs r
end
def isTup : PyData → Bool
  | .tuple _ => true
  | _ => false
theorem occs_app : ∀ ds es : List PyData, occs (ds ++ es) = occs ds ++ occs es
  | [], _ => rfl
  | d :: r, es => by
    show occ d ++ occs (r ++ es) = (occ d ++ occs r) ++ occs es
    rw [occs_app r es, List.append_assoc]
theorem wrs_eq : ∀ ds : List PyData, wrs ds = ds.map wr
  | [] => rfl
  | d :: r => congrArg (wr d :: ·) (wrs_eq r)
/-- the written forms of the tuples of a list -/
def tws : List PyData → List Str
  | [] => []
  | .tuple ds :: r => wr (.tuple ds) :: tws r
  | _ :: r => tws r
/-- the nodes in this order, each taking what its tuples are written as off the end, and putting its own there -/
inductive Runs : List Str → List PyData → List Str → Prop
  | nil {I : List Str} : Runs I [] I
  | cons {I J : List Str} {ds L : List PyData} : Runs (I ++ [wr (.tuple ds)]) L J → Runs (I ++ (tws ds).reverse) (.tuple ds :: L) J
theorem Runs.app {I J M : List Str} {L N : List PyData} (h : Runs I L J) (g : Runs J N M) : Runs I (L ++ N) M := by
  induction h with
  | nil => exact g
  | cons _ ih => exact .cons (ih g)
mutual
theorem runs_occ : ∀ (d : PyData) (I : List Str), Runs I (occ d).reverse (I ++ (tws [d]).reverse)
  | .tuple ds, I => by
    show Runs I (PyData.tuple ds :: occs ds).reverse (I ++ [wr (.tuple ds)])
    rw [List.reverse_cons]
    exact (runs_occs ds I).app (.cons .nil)
  | .none, I => by show Runs I [] (I ++ []); rw [List.append_nil]; exact .nil
  | .bool _, I => by show Runs I [] (I ++ []); rw [List.append_nil]; exact .nil
  | .int _, I => by show Runs I [] (I ++ []); rw [List.append_nil]; exact .nil
  | .str _, I => by show Runs I [] (I ++ []); rw [List.append_nil]; exact .nil
  | .list _, I => by show Runs I [] (I ++ []); rw [List.append_nil]; exact .nil
  | .dict _, I => by show Runs I [] (I ++ []); rw [List.append_nil]; exact .nil
theorem runs_occs : ∀ (ds : List PyData) (I : List Str), Runs I (occs ds).reverse (I ++ (tws ds).reverse)
  | [], I => by show Runs I [] (I ++ []); rw [List.append_nil]; exact .nil
  | d :: r, I => by
    show Runs I (occ d ++ occs r).reverse _
    rw [List.reverse_append]
    have e : I ++ (tws (d :: r)).reverse = (I ++ (tws r).reverse) ++ (tws [d]).reverse := by
      cases d <;> simp [tws]
    rw [e]
    exact (runs_occs r I).app (runs_occ d _)
end
/-- leaves that str() takes -/
def Fine : PyData → Prop
  | .int i => i.natAbs.log2 < 1920
  | .str _ => True
  | .tuple _ => True
  | _ => False
/-- the data's leaves are fine, its lists not long -/
def Good (d : PyData) : Prop := ∀ ds, PyData.tuple ds ∈ occ d → (∀ e ∈ ds, Fine e) ∧ ds.length ≤ 1000
/-! ### terms -/
inductive Vt : PyData → Prop
  | nm {k z : Str} (hk : k = "host" ∨ k = "word" ∨ k = "own") (hz : Nm z) : Vt (.tuple [.str k, .str z])
  | road {n : Nat} (h : n ≤ 999999) : Vt (.tuple [.str "road", .int n])
  | both {a b : Str} (ha : Nm a) (hb : Nm b) : Vt (.tuple [.str "both", .str a, .str b])
  | ms {k z : Str} {n : Nat} (hk : k = "mark" ∨ k = "var") (hn : n ≤ 9) (hz : Nm z) : Vt (.tuple [.str k, .int n, .str z])
  | two {k : Str} {a b : PyData} (hk : k = "pair" ∨ k = "lock") (ha : Vt a) (hb : Vt b) : Vt (.tuple [.str k, a, b])
  | dig {a : PyData} (ha : Vt a) : Vt (.tuple [.str "digest", a])
  | nmd {k z : Str} {a : PyData} (hk : k = "box" ∨ k = "stamp") (ha : Vt a) (hz : Nm z) : Vt (.tuple [.str k, a, .str z])
/-- the codes of the written form -/
def cw (d : PyData) : List Nat := cd (wr d)
theorem cw_str (z : Str) : cw (.str z) = cd z := rfl
theorem cw_int (n : Nat) : cw (.int n) = TL.numL n := TL.tl_num n
theorem cw_2 (a b : PyData) : cw (.tuple [a, b]) = 40 :: (cw a ++ 32 :: (cw b ++ [41])) := by
  show cd (("(" : Str) ++ Txt.join " " [wr a, wr b] ++ (")" : Str)) = _
  rw [cd_app, cd_app, cd_join]
  show [40] ++ (cd (wr a) ++ ([32] ++ (cd (wr b) ++ []))) ++ [41] = _
  simp [cw]
theorem cw_3 (a b c : PyData) : cw (.tuple [a, b, c]) = 40 :: (cw a ++ 32 :: (cw b ++ 32 :: (cw c ++ [41]))) := by
  show cd (("(" : Str) ++ Txt.join " " [wr a, wr b, wr c] ++ (")" : Str)) = _
  rw [cd_app, cd_app, cd_join]
  show [40] ++ (cd (wr a) ++ ([32] ++ (cd (wr b) ++ ([32] ++ (cd (wr c) ++ []))))) ++ [41] = _
  simp [cw]
theorem cut_at {p : Nat → Prop} : ∀ {a b r s : List Nat} {x y : Nat}, (∀ c ∈ a, p c) → (∀ c ∈ b, p c) → ¬ p x → ¬ p y → a ++ x :: r = b ++ y :: s → a = b ∧ x = y ∧ r = s
  | [], [], _, _, _, _, _, _, _, _, e => ⟨rfl, (List.cons.inj e).1, (List.cons.inj e).2⟩
  | [], c :: b, _, _, x, _, _, hb, hx, _, e => absurd (hb c (List.mem_cons_self ..)) ((List.cons.inj e).1 ▸ hx)
  | c :: a, [], _, _, _, y, ha, _, _, hy, e => absurd (ha c (List.mem_cons_self ..)) ((List.cons.inj e).1 ▸ hy)
  | c :: a, d :: b, _, _, _, _, ha, hb, hx, hy, e => by
    obtain ⟨e1, e2⟩ := List.cons.inj e
    obtain ⟨i1, i2, i3⟩ := cut_at (fun z hz => ha z (List.mem_cons_of_mem _ hz)) (fun z hz => hb z (List.mem_cons_of_mem _ hz)) hx hy e2
    exact ⟨by rw [e1, i1], i2, i3⟩
def Lt (c : Nat) : Prop := 97 ≤ c ∧ c ≤ 122
def Dg (c : Nat) : Prop := 48 ≤ c ∧ c ≤ 57
def kg (k : Str) : Nat := if k = "host" ∨ k = "word" ∨ k = "own" then 1 else if k = "road" then 2 else if k = "both" then 3 else if k = "mark" ∨ k = "var" then 4 else if k = "pair" ∨ k = "lock" then 5 else if k = "digest" then 6 else if k = "box" ∨ k = "stamp" then 7 else 0
theorem kg_lt {k : Str} (h : kg k ≠ 0) : ∀ c ∈ cd k, Lt c := by
  have all : ∀ k ∈ (["host", "word", "own", "road", "both", "mark", "var", "pair", "lock", "digest", "box", "stamp"] : List Str), ∀ c ∈ cd k, 97 ≤ c ∧ c ≤ 122 := by decide +kernel
  apply all
  unfold kg at h
  by_cases h1 : k = "host" ∨ k = "word" ∨ k = "own"
  · rcases h1 with rfl | rfl | rfl <;> decide +kernel
  rw [if_neg h1] at h
  by_cases h2 : k = "road"
  · subst h2; decide +kernel
  rw [if_neg h2] at h
  by_cases h3 : k = "both"
  · subst h3; decide +kernel
  rw [if_neg h3] at h
  by_cases h4 : k = "mark" ∨ k = "var"
  · rcases h4 with rfl | rfl <;> decide +kernel
  rw [if_neg h4] at h
  by_cases h5 : k = "pair" ∨ k = "lock"
  · rcases h5 with rfl | rfl <;> decide +kernel
  rw [if_neg h5] at h
  by_cases h6 : k = "digest"
  · subst h6; decide +kernel
  rw [if_neg h6] at h
  by_cases h7 : k = "box" ∨ k = "stamp"
  · rcases h7 with rfl | rfl <;> decide +kernel
  rw [if_neg h7] at h
  exact absurd rfl h
theorem kg1 {k : Str} (h : k = "host" ∨ k = "word" ∨ k = "own") : kg k = 1 := by rcases h with rfl | rfl | rfl <;> decide +kernel
theorem kg4 {k : Str} (h : k = "mark" ∨ k = "var") : kg k = 4 := by rcases h with rfl | rfl <;> decide +kernel
theorem kg5 {k : Str} (h : k = "pair" ∨ k = "lock") : kg k = 5 := by rcases h with rfl | rfl <;> decide +kernel
theorem kg7 {k : Str} (h : k = "box" ∨ k = "stamp") : kg k = 7 := by rcases h with rfl | rfl <;> decide +kernel
theorem kg2 : kg "road" = 2 := by decide +kernel
theorem kg3 : kg "both" = 3 := by decide +kernel
theorem kg6 : kg "digest" = 6 := by decide +kernel
theorem kind_cut {k k' : Str} {t t' : List Nat} (h : kg k ≠ 0) (h' : kg k' ≠ 0) (e : 40 :: (cd k ++ 32 :: t) = 40 :: (cd k' ++ 32 :: t')) : k = k' ∧ t = t' := by
  obtain ⟨e1, _, e3⟩ := cut_at (p := Lt) (kg_lt h) (kg_lt h') (by unfold Lt; omega) (by unfold Lt; omega) (List.cons.inj e).2
  exact ⟨cd_ext e1, e3⟩
theorem off {k k' : Str} {t t' : List Nat} {m n : Nat} (e : 40 :: (cd k ++ 32 :: t) = 40 :: (cd k' ++ 32 :: t')) (h : kg k = m) (h' : kg k' = n) (hm : m ≠ 0) (hn : n ≠ 0) (ne : m ≠ n) : False := by
  obtain ⟨e1, _⟩ := kind_cut (by rw [h]; exact hm) (by rw [h']; exact hn) e
  rw [e1, h'] at h
  exact ne h.symm
theorem nm_cut {a b : Str} {r s : List Nat} {x y : Nat} (ha : Nm a) (hb : Nm b) (hx : x = 32 ∨ x = 41) (hy : y = 32 ∨ y = 41) (e : cd a ++ x :: r = cd b ++ y :: s) : a = b ∧ r = s := by
  obtain ⟨e1, _, e3⟩ := cut_at (p := Lt) ha.az hb.az (by unfold Lt; omega) (by unfold Lt; omega) e
  exact ⟨cd_ext e1, e3⟩
theorem num_cut {m n : Nat} {r s : List Nat} {x y : Nat} (hx : x = 32 ∨ x = 41) (hy : y = 32 ∨ y = 41) (e : TL.numL m ++ x :: r = TL.numL n ++ y :: s) : m = n ∧ r = s := by
  obtain ⟨e1, _, e3⟩ := cut_at (p := Dg) (TL.numL_digits m) (TL.numL_digits n) (by unfold Dg; omega) (by unfold Dg; omega) e
  exact ⟨TL.numL_inj e1, e3⟩
theorem cw_inj {d : PyData} (hd : Vt d) : ∀ {e : PyData}, Vt e → ∀ r s : List Nat, cw d ++ r = cw e ++ s → d = e ∧ r = s := by
  induction hd with
  | @nm k z hk hz =>
    intro e he r s h
    cases he with
    | @nm k' z' hk' hz' =>
      simp only [cw_2, cw_str, List.cons_append, List.append_assoc] at h
      obtain ⟨rfl, e2⟩ := kind_cut (by rw [kg1 hk]; decide) (by rw [kg1 hk']; decide) h
      obtain ⟨rfl, e3⟩ := nm_cut hz hz' (.inr rfl) (.inr rfl) e2
      exact ⟨rfl, e3⟩
    | _ =>
      simp only [cw_2, cw_3, cw_str, List.cons_append, List.append_assoc] at h
      exact (off h (by first | exact kg1 (by assumption) | exact kg2 | exact kg3 | exact kg4 (by assumption) | exact kg5 (by assumption) | exact kg6 | exact kg7 (by assumption)) (by first | exact kg1 (by assumption) | exact kg2 | exact kg3 | exact kg4 (by assumption) | exact kg5 (by assumption) | exact kg6 | exact kg7 (by assumption)) (by decide) (by decide) (by decide)).elim
  | @road n hn =>
    intro e he r s h
    cases he with
    | @road n' hn' =>
      simp only [cw_2, cw_str, cw_int, List.cons_append, List.append_assoc] at h
      obtain ⟨_, e2⟩ := kind_cut (by rw [kg2]; decide) (by rw [kg2]; decide) h
      obtain ⟨rfl, e3⟩ := num_cut (.inr rfl) (.inr rfl) e2
      exact ⟨rfl, e3⟩
    | _ =>
      simp only [cw_2, cw_3, cw_str, List.cons_append, List.append_assoc] at h
      exact (off h (by first | exact kg1 (by assumption) | exact kg2 | exact kg3 | exact kg4 (by assumption) | exact kg5 (by assumption) | exact kg6 | exact kg7 (by assumption)) (by first | exact kg1 (by assumption) | exact kg2 | exact kg3 | exact kg4 (by assumption) | exact kg5 (by assumption) | exact kg6 | exact kg7 (by assumption)) (by decide) (by decide) (by decide)).elim
  | @both a b ha hb =>
    intro e he r s h
    cases he with
    | @both a' b' ha' hb' =>
      simp only [cw_3, cw_str, List.cons_append, List.append_assoc] at h
      obtain ⟨_, e2⟩ := kind_cut (by rw [kg3]; decide) (by rw [kg3]; decide) h
      obtain ⟨rfl, e3⟩ := nm_cut ha ha' (.inl rfl) (.inl rfl) e2
      obtain ⟨rfl, e4⟩ := nm_cut hb hb' (.inr rfl) (.inr rfl) e3
      exact ⟨rfl, e4⟩
    | _ =>
      simp only [cw_2, cw_3, cw_str, List.cons_append, List.append_assoc] at h
      exact (off h (by first | exact kg1 (by assumption) | exact kg2 | exact kg3 | exact kg4 (by assumption) | exact kg5 (by assumption) | exact kg6 | exact kg7 (by assumption)) (by first | exact kg1 (by assumption) | exact kg2 | exact kg3 | exact kg4 (by assumption) | exact kg5 (by assumption) | exact kg6 | exact kg7 (by assumption)) (by decide) (by decide) (by decide)).elim
  | @ms k z n hk hn hz =>
    intro e he r s h
    cases he with
    | @ms k' z' n' hk' hn' hz' =>
      simp only [cw_3, cw_str, cw_int, List.cons_append, List.append_assoc] at h
      obtain ⟨rfl, e2⟩ := kind_cut (by rw [kg4 hk]; decide) (by rw [kg4 hk']; decide) h
      obtain ⟨rfl, e3⟩ := num_cut (.inl rfl) (.inl rfl) e2
      obtain ⟨rfl, e4⟩ := nm_cut hz hz' (.inr rfl) (.inr rfl) e3
      exact ⟨rfl, e4⟩
    | _ =>
      simp only [cw_2, cw_3, cw_str, List.cons_append, List.append_assoc] at h
      exact (off h (by first | exact kg1 (by assumption) | exact kg2 | exact kg3 | exact kg4 (by assumption) | exact kg5 (by assumption) | exact kg6 | exact kg7 (by assumption)) (by first | exact kg1 (by assumption) | exact kg2 | exact kg3 | exact kg4 (by assumption) | exact kg5 (by assumption) | exact kg6 | exact kg7 (by assumption)) (by decide) (by decide) (by decide)).elim
  | @two k a b hk ha hb iha ihb =>
    intro e he r s h
    cases he with
    | @two k' a' b' hk' ha' hb' =>
      simp only [cw_3, cw_str, List.cons_append, List.append_assoc] at h
      obtain ⟨rfl, e2⟩ := kind_cut (by rw [kg5 hk]; decide) (by rw [kg5 hk']; decide) h
      obtain ⟨rfl, e3⟩ := iha ha' _ _ e2
      obtain ⟨rfl, e4⟩ := ihb hb' _ _ (List.cons.inj e3).2
      exact ⟨rfl, (List.cons.inj e4).2⟩
    | _ =>
      simp only [cw_2, cw_3, cw_str, List.cons_append, List.append_assoc] at h
      exact (off h (by first | exact kg1 (by assumption) | exact kg2 | exact kg3 | exact kg4 (by assumption) | exact kg5 (by assumption) | exact kg6 | exact kg7 (by assumption)) (by first | exact kg1 (by assumption) | exact kg2 | exact kg3 | exact kg4 (by assumption) | exact kg5 (by assumption) | exact kg6 | exact kg7 (by assumption)) (by decide) (by decide) (by decide)).elim
  | @dig a ha iha =>
    intro e he r s h
    cases he with
    | @dig a' ha' =>
      simp only [cw_2, cw_str, List.cons_append, List.append_assoc] at h
      obtain ⟨_, e2⟩ := kind_cut (by rw [kg6]; decide) (by rw [kg6]; decide) h
      obtain ⟨rfl, e3⟩ := iha ha' _ _ e2
      exact ⟨rfl, (List.cons.inj e3).2⟩
    | _ =>
      simp only [cw_2, cw_3, cw_str, List.cons_append, List.append_assoc] at h
      exact (off h (by first | exact kg1 (by assumption) | exact kg2 | exact kg3 | exact kg4 (by assumption) | exact kg5 (by assumption) | exact kg6 | exact kg7 (by assumption)) (by first | exact kg1 (by assumption) | exact kg2 | exact kg3 | exact kg4 (by assumption) | exact kg5 (by assumption) | exact kg6 | exact kg7 (by assumption)) (by decide) (by decide) (by decide)).elim
  | @nmd k z a hk ha hz iha =>
    intro e he r s h
    cases he with
    | @nmd k' z' a' hk' ha' hz' =>
      simp only [cw_3, cw_str, List.cons_append, List.append_assoc] at h
      obtain ⟨rfl, e2⟩ := kind_cut (by rw [kg7 hk]; decide) (by rw [kg7 hk']; decide) h
      obtain ⟨rfl, e3⟩ := iha ha' _ _ e2
      obtain ⟨rfl, e4⟩ := nm_cut hz hz' (.inr rfl) (.inr rfl) (List.cons.inj e3).2
      exact ⟨rfl, e4⟩
    | _ =>
      simp only [cw_2, cw_3, cw_str, List.cons_append, List.append_assoc] at h
      exact (off h (by first | exact kg1 (by assumption) | exact kg2 | exact kg3 | exact kg4 (by assumption) | exact kg5 (by assumption) | exact kg6 | exact kg7 (by assumption)) (by first | exact kg1 (by assumption) | exact kg2 | exact kg3 | exact kg4 (by assumption) | exact kg5 (by assumption) | exact kg6 | exact kg7 (by assumption)) (by decide) (by decide) (by decide)).elim
theorem wr_inj {d e : PyData} (hd : Vt d) (he : Vt e) (h : wr d = wr e) : d = e := (cw_inj hd he [] [] (by unfold cw; rw [h])).1
/-! ### sizes -/
def sz (d : PyData) : Nat := (occ d).length
theorem occ_2s (k : Str) (b : PyData) : occ (.tuple [.str k, b]) = .tuple [.str k, b] :: occ b := by
  show _ :: ([] ++ (occ b ++ [])) = _
  rw [List.append_nil, List.nil_append]
theorem occ_3s (k : Str) (a b : PyData) : occ (.tuple [.str k, a, b]) = .tuple [.str k, a, b] :: (occ a ++ occ b) := by
  show _ :: ([] ++ (occ a ++ (occ b ++ []))) = _
  rw [List.append_nil, List.nil_append]
theorem sz_2 (k : Str) (b : PyData) : sz (.tuple [.str k, b]) = sz b + 1 := by unfold sz; rw [occ_2s]; rfl
theorem sz_3 (k : Str) (a b : PyData) : sz (.tuple [.str k, a, b]) = sz a + sz b + 1 := by unfold sz; rw [occ_3s, List.length_cons, List.length_append]
theorem sz_str (z : Str) : sz (.str z) = 0 := rfl
theorem sz_int (z : Int) : sz (.int z) = 0 := rfl
theorem kg_len {k : Str} (h : kg k ≠ 0) : (cd k).length ≤ 6 ∧ (cd k).count 40 = 0 := by
  have all : ∀ k ∈ (["host", "word", "own", "road", "both", "mark", "var", "pair", "lock", "digest", "box", "stamp"] : List Str), (cd k).length ≤ 6 := by decide +kernel
  refine ⟨all k ?_, List.count_eq_zero.mpr fun m => by have := kg_lt h 40 m; unfold Lt at this; omega⟩
  unfold kg at h
  by_cases h1 : k = "host" ∨ k = "word" ∨ k = "own"
  · rcases h1 with rfl | rfl | rfl <;> decide +kernel
  rw [if_neg h1] at h
  by_cases h2 : k = "road"
  · subst h2; decide +kernel
  rw [if_neg h2] at h
  by_cases h3 : k = "both"
  · subst h3; decide +kernel
  rw [if_neg h3] at h
  by_cases h4 : k = "mark" ∨ k = "var"
  · rcases h4 with rfl | rfl <;> decide +kernel
  rw [if_neg h4] at h
  by_cases h5 : k = "pair" ∨ k = "lock"
  · rcases h5 with rfl | rfl <;> decide +kernel
  rw [if_neg h5] at h
  by_cases h6 : k = "digest"
  · subst h6; decide +kernel
  rw [if_neg h6] at h
  by_cases h7 : k = "box" ∨ k = "stamp"
  · rcases h7 with rfl | rfl <;> decide +kernel
  rw [if_neg h7] at h
  exact absurd rfl h
theorem Nm.cnt {z : Str} (h : Nm z) : (cd z).length ≤ 8 ∧ (cd z).count 40 = 0 := by
  refine ⟨by rw [← cd_len]; exact h.hi, List.count_eq_zero.mpr fun m => ?_⟩
  have := h.az 40 m
  omega
theorem num_cnt (n : Nat) : (TL.numL n).count 40 = 0 := List.count_eq_zero.mpr (TL.numL_free (by omega))
theorem num_len {n : Nat} (h : n ≤ 999999) : (TL.numL n).length ≤ 6 := TL.numL_len (by decide) (by omega)
/-- the parentheses that open count the terms; the text is not long -/
theorem vt_cnt {d : PyData} (h : Vt d) : (cw d).count 40 = sz d ∧ (cw d).length ≤ 30 * sz d ∧ 1 ≤ sz d := by
  have c0 : ∀ (x : Nat) (l : List Nat), x ≠ 40 → (x :: l).count 40 = l.count 40 := fun x l n => List.count_cons_of_ne n
  induction h with
  | @nm k z hk hz =>
    have a := kg_len (k := k) (by rw [kg1 hk]; decide)
    have b := hz.cnt
    rw [cw_2, sz_2, sz_str, cw_str, cw_str]
    simp only [List.count_cons_self, List.count_append, List.length_cons, List.length_append, List.length_nil, List.count_nil, c0 32 _ (by decide), c0 41 _ (by decide)]
    omega
  | @road n hn =>
    have a := kg_len (k := "road") (by rw [kg2]; decide)
    have b := num_cnt n
    have c := num_len hn
    rw [cw_2, sz_2, sz_int, cw_str, cw_int]
    simp only [List.count_cons_self, List.count_append, List.length_cons, List.length_append, List.length_nil, List.count_nil, c0 32 _ (by decide), c0 41 _ (by decide)]
    omega
  | @both x y hx hy =>
    have a := kg_len (k := "both") (by rw [kg3]; decide)
    have b := hx.cnt
    have c := hy.cnt
    rw [cw_3, sz_3, sz_str, sz_str, cw_str, cw_str, cw_str]
    simp only [List.count_cons_self, List.count_append, List.length_cons, List.length_append, List.length_nil, List.count_nil, c0 32 _ (by decide), c0 41 _ (by decide)]
    omega
  | @ms k z n hk hn hz =>
    have a := kg_len (k := k) (by rw [kg4 hk]; decide)
    have b := hz.cnt
    have c := num_cnt n
    have e := num_len (n := n) (by omega)
    rw [cw_3, sz_3, sz_str, sz_int, cw_str, cw_str, cw_int]
    simp only [List.count_cons_self, List.count_append, List.length_cons, List.length_append, List.length_nil, List.count_nil, c0 32 _ (by decide), c0 41 _ (by decide)]
    omega
  | @two k x y hk hx hy ihx ihy =>
    have a := kg_len (k := k) (by rw [kg5 hk]; decide)
    rw [cw_3, sz_3, cw_str]
    simp only [List.count_cons_self, List.count_append, List.length_cons, List.length_append, List.length_nil, List.count_nil, c0 32 _ (by decide), c0 41 _ (by decide)]
    omega
  | @dig x hx ihx =>
    have a := kg_len (k := "digest") (by rw [kg6]; decide)
    rw [cw_2, sz_2, cw_str]
    simp only [List.count_cons_self, List.count_append, List.length_cons, List.length_append, List.length_nil, List.count_nil, c0 32 _ (by decide), c0 41 _ (by decide)]
    omega
  | @nmd k z x hk hx hz ihx =>
    have a := kg_len (k := k) (by rw [kg7 hk]; decide)
    have b := hz.cnt
    rw [cw_3, sz_3, sz_str, cw_str, cw_str]
    simp only [List.count_cons_self, List.count_append, List.length_cons, List.length_append, List.length_nil, List.count_nil, c0 32 _ (by decide), c0 41 _ (by decide)]
    omega
theorem Vt.tup {d : PyData} (h : Vt d) : isTup d = true := by cases h <;> rfl
/-- what occurs in a term is a term, and no greater -/
theorem vt_occ {d : PyData} (h : Vt d) : ∀ e ∈ occ d, Vt e ∧ sz e ≤ sz d := by
  induction h with
  | nm hk hz => intro e he; rw [occ_2s] at he; cases List.mem_singleton.mp he; exact ⟨.nm hk hz, Nat.le_refl _⟩
  | road hn => intro e he; rw [occ_2s] at he; cases List.mem_singleton.mp he; exact ⟨.road hn, Nat.le_refl _⟩
  | both hx hy => intro e he; rw [occ_3s] at he; cases List.mem_singleton.mp he; exact ⟨.both hx hy, Nat.le_refl _⟩
  | ms hk hn hz => intro e he; rw [occ_3s] at he; cases List.mem_singleton.mp he; exact ⟨.ms hk hn hz, Nat.le_refl _⟩
  | two hk hx hy ihx ihy =>
    intro e he
    rw [occ_3s] at he
    rcases List.mem_cons.mp he with rfl | he
    · exact ⟨.two hk hx hy, Nat.le_refl _⟩
    · rw [sz_3]
      rcases List.mem_append.mp he with he | he
      · have := ihx e he; exact ⟨this.1, by omega⟩
      · have := ihy e he; exact ⟨this.1, by omega⟩
  | dig hx ihx =>
    intro e he
    rw [occ_2s] at he
    rcases List.mem_cons.mp he with rfl | he
    · exact ⟨.dig hx, Nat.le_refl _⟩
    · rw [sz_2]
      have := ihx e he
      exact ⟨this.1, by omega⟩
  | nmd hk hx hz ihx =>
    intro e he
    rw [occ_3s] at he
    rcases List.mem_cons.mp he with rfl | he
    · exact ⟨.nmd hk hx hz, Nat.le_refl _⟩
    · rw [sz_3]
      rcases List.mem_append.mp he with he | he
      · have := ihx e he; exact ⟨this.1, by omega⟩
      · cases he
theorem Vt.good {d : PyData} (h : Vt d) : Good d := fun ds hm => by
  have hv := (vt_occ h _ hm).1
  have sm : ∀ n : Nat, n ≤ 999999 → ((n : Int)).natAbs.log2 < 1920 := fun n hn => by
    rw [Int.natAbs_natCast]
    by_cases h0 : n = 0
    · subst h0; decide
    · exact (Nat.log2_lt h0).mpr (Nat.lt_of_le_of_lt hn (Nat.lt_of_lt_of_le (show 999999 < 2 ^ 20 by decide) (Nat.pow_le_pow_right (by decide) (by decide))))
  have ft : ∀ {x : PyData}, Vt x → Fine x := fun h => by cases h <;> exact True.intro
  cases hv with
  | nm hk hz => exact ⟨by intro e he; simp at he; rcases he with rfl | rfl <;> exact True.intro, by simp⟩
  | road hn => exact ⟨by intro e he; simp at he; rcases he with rfl | rfl; exact True.intro; exact sm _ hn, by simp⟩
  | both hx hy => exact ⟨by intro e he; simp at he; rcases he with rfl | rfl | rfl <;> exact True.intro, by simp⟩
  | ms hk hn hz => exact ⟨by intro e he; simp at he; rcases he with rfl | rfl | rfl; exact True.intro; exact sm _ (by omega); exact True.intro, by simp⟩
  | two hk hx hy => exact ⟨by intro e he; simp at he; rcases he with rfl | rfl | rfl; exact True.intro; exact ft hx; exact ft hy, by simp⟩
  | dig hx => exact ⟨by intro e he; simp at he; rcases he with rfl | rfl; exact True.intro; exact ft hx, by simp⟩
  | nmd hk hx hz => exact ⟨by intro e he; simp at he; rcases he with rfl | rfl | rfl; exact True.intro; exact ft hx; exact True.intro, by simp⟩
theorem vt_len {d : PyData} (h : Vt d) : (wr d).length ≤ 30 * sz d := by rw [cd_len]; exact (vt_cnt h).2.1
theorem cnt_wr {d : PyData} (h : Vt d) : Txt.count (wr d) "(" = ((sz d : Nat) : Int) := by
  rw [show ("(" : Str) = ⟨#[40]⟩ from rfl, count_one, ← (vt_cnt h).1]
  rfl
/-! ### pairs of an int and a text: their order -/
def lexIS (p q : Int × Str) : Bool := if p.1 = q.1 then decide (p.2.cps.toList < q.2.cps.toList) else decide (p.1 < q.1)
theorem lexIS_iff {p q : Int × Str} : lexIS p q = true ↔ p.1 < q.1 ∨ (p.1 = q.1 ∧ p.2.cps.toList < q.2.cps.toList) := by
  unfold lexIS
  split
  · rename_i e
    rw [decide_eq_true_iff]
    exact ⟨fun h => .inr ⟨e, h⟩, fun h => h.elim (fun h => absurd h (by omega)) (·.2)⟩
  · rename_i e
    rw [decide_eq_true_iff]
    exact ⟨.inl, fun h => h.elim id fun h => absurd h.1 e⟩
theorem lexIS_not {p q : Int × Str} (h : lexIS p q = false) : q.1 ≤ p.1 ∧ (p.1 = q.1 → ¬ p.2.cps.toList < q.2.cps.toList) := by
  have n : ¬ (p.1 < q.1 ∨ (p.1 = q.1 ∧ p.2.cps.toList < q.2.cps.toList)) := fun g => by rw [lexIS_iff.mpr g] at h; cases h
  exact ⟨by have : ¬ p.1 < q.1 := fun g => n (.inl g); omega, fun e g => n (.inr ⟨e, g⟩)⟩
theorem swo_is (k : Value → Int × Str) : SrtO.Swo fun v u => lexIS (k v) (k u) := by
  refine ⟨fun x y h => ?_, fun x y z h1 h2 => ?_⟩ <;> rw [Bool.eq_false_iff] <;> intro g
  · rcases lexIS_iff.mp h with a | ⟨a, a2⟩ <;> rcases lexIS_iff.mp g with b | ⟨b, b2⟩
    · omega
    · omega
    · omega
    · exact List.lt_asymm a2 b2
  · have ⟨a, a2⟩ := lexIS_not h1
    have ⟨b, b2⟩ := lexIS_not h2
    rcases lexIS_iff.mp g with c | ⟨c, c2⟩
    · omega
    · exact absurd c2 (List.not_lt.mpr (List.le_trans (List.not_lt.mp (a2 (by omega))) (List.not_lt.mp (b2 (by omega)))))
/-! ### sorted, whose keys are tuples of an int and a text (behind h_sortK) -/
/-- v stands for such a tuple, p -/
def IsIS (h : Heap) (v : Value) (p : Int × Str) : Prop := ∃ a o t u n, v = .ref a ∧ h.get? a = some o ∧ o.cls = .type "tuple" ∧ o.data = .seq #[.int p.1 t, .str p.2 u] n
section
variable {prog : Program} {w : World} {A : Around} {E : Value → Shared → Prop} {s : Shared}
theorem lexIS_one {i j : Int} {p q : Str} (e : i = j) : lexIS (i, p) (j, q) = decide (p.cps.toList < q.cps.toList) := by rw [lexIS, if_pos e]
theorem lexIS_two {i j : Int} {p q : Str} (e : i ≠ j) : lexIS (i, p) (j, q) = decide (i < j) := by rw [lexIS, if_neg e]
theorem is_pair {v v' : Value} {p q : Int × Str} (h1 : IsIS s.heap v p) (h2 : IsIS s.heap v' q) {R : Bool → Shared → Prop} (hR : R (lexIS p q) s) : wpAny (model prog w) A (keyLt' (tuples' true) v v') R E s := by
  rcases p with ⟨i, y⟩
  rcases q with ⟨j, z⟩
  have ⟨a, oa, t, u, _, ea, ga, _, da⟩ := h1
  have ⟨b, ob, t', u', _, eb, gb, _, db⟩ := h2
  rw [ea, eb]
  refine PySem.W.kat_lt ga da gb db ?_
  show PySem.W.KatLex prog w A true (decide (2 < 2)) _ [(.int i t, .int j t'), (.str y u, .str z u')] 0 s
  refine PySem.W.kat_cons (SeqAt.EqAt.int_int i t j t' prog w _ _ (PySem.W.kat_go (fun g => ?_) fun g => ?_))
  · refine PySem.W.kat_yes (PySem.W.kat_cons (SeqAt.EqAt.str_str y u z u' prog w _ _ (PySem.W.kat_go (fun g2 => ?_) fun g2 => ?_)))
    · refine PySem.W.kat_yes (PySem.W.kat_nil ?_)
      rw [lexIS_one (eq_of_beq g), eq_of_beq g2, decide_eq_false (List.lt_irrefl _)] at hR
      exact hR
    · rw [lexIS_one (eq_of_beq g)] at hR
      exact PySem.W.kat_no (PySem.W.kat_one _ _ (PyProof.Rows.lt_str hR))
  · rw [lexIS_two (fun z => by rw [beq_iff_eq.mpr z] at g; cases g)] at hR
    exact PySem.W.kat_no (oneLt_int hR)
theorem is_cmp {ks : List Value} {k : Value → Int × Str} (hp : ∀ v ∈ ks, IsIS s.heap v (k v)) : SrtO.Cmp prog w A s (tuples' true) (fun p => p.1 ∈ ks) (SrtO.lt2 fun v u => lexIS (k v) (k u)) :=
  fun p q hm hm' => is_pair (hp p.1 hm) (hp q.1 hm') ⟨rfl, rfl⟩
/-- the ints that stand first -/
def firstOf (h : Heap) : Value → Value
  | .ref a => match h.get? a with
    | some o => match o.data with
      | .seq xs _ => xs.getD 0 .none
      | _ => .none
    | none => .none
  | _ => .none
theorem firstOf_is {h : Heap} {v : Value} {p : Int × Str} (q : IsIS h v p) : ∃ t, firstOf h v = .int p.1 t := by
  have ⟨a, o, t, u, n, e, g, _, d⟩ := q
  exact ⟨t, by rw [e]; simp only [firstOf, g, d]; rfl⟩
theorem firsts_are {h : Heap} (vs : List Value) (hp : ∀ v ∈ vs, ∃ p, IsIS h v p) : PySem.W.KatTups h vs (vs.map (firstOf h)) := by
  induction vs with
  | nil => exact .nil
  | cons v vs ih =>
    have ⟨p, hv⟩ := hp v (.head _)
    have ⟨t, ft⟩ := firstOf_is hv
    have ⟨a, o, t', u, n, e, g, c, d⟩ := hv
    have st : t' = t := by
      have := ft
      rw [e] at this
      simp only [firstOf, g, d] at this
      exact (Value.int.inj (this : Value.int p.1 t' = Value.int p.1 t)).2
    rw [List.map_cons, ft, e]
    exact .cons g c (st ▸ d) rfl (ih fun v' hm => hp v' (.tail _ hm))
theorem is_kind {ks : List Value} {k : Value → Int × Str} {Q : SortKind → Shared → Prop} (h0 : 0 < ks.length) (hp : ∀ v ∈ ks, IsIS s.heap v (k v)) (hq : Q (tuples' true) s) : wpAny (model prog w) A (keyKind' ks.toArray) Q E s := by
  refine PySem.W.kat_kind (T := .type "int") (firsts_are ks fun v hm => ⟨_, hp v hm⟩) (by rw [List.length_map]; exact h0) (fun f hm => ?_) rfl (show Q (tuples' (Value.type "int" != Value.type "tuple")) s from ?_)
  · have ⟨v, hv, e⟩ := List.mem_map.mp hm
    have ⟨t, ft⟩ := firstOf_is (hp v hv)
    rw [← e, ft]
    exact PySem.W.Looks.now
  · exact (show (Value.type "int" != Value.type "tuple") = true by decide +kernel) ▸ hq
end
/-! ### sorted(t, key=f): t a tuple or a list of objects, f an own def whose values are pairs of an int and a text -/
/-- in the middle of a builtin that calls: objects of its own (U) stand untracked; what the body's heap said has changed by calls alone -/
structure Mid (X : Cx) (s : Shared) (H : Hp) (U : List (Addr × Obj)) (si : Shared) (Hi : Hp) : Prop where
  os : si.os = s.os
  bare : AllBare si.gens
  un : Un (frs X.stack) [] H Hi s.heap si.heap
  hok : HOk X.prog X.w Hi si.heap
  sm : Same H Hi
  u : ∀ p ∈ U, si.heap.get? p.1 = some p.2 ∧ Hi p.1 = none ∧ s.heap.objs.size ≤ p.1
section
open PyProof.Rows
variable {X : Cx} {pins : List (Addr × Obj)} {σ : L2.St} {s si : Shared} {H Hi : Hp} {U U' : List (Addr × Obj)}
theorem Mid.inv (M : Mid X s H U si Hi) (I : Inv X pins σ H s) : Inv X pins σ Hi si := I.call' M.os M.un M.hok M.bare (by simp)
/-- objects of the builtin's own change, or come -/
theorem Mid.heap (M : Mid X s H U si Hi) (h' : Heap) (t' : Nat) (k : ∀ b o, (∀ p ∈ U, b ≠ p.1) → si.heap.get? b = some o → h'.get? b = some o) (there : ∀ b o, si.heap.get? b = some o → ∃ o', h'.get? b = some o')
    (hu : ∀ p ∈ U', h'.get? p.1 = some p.2 ∧ Hi p.1 = none ∧ s.heap.objs.size ≤ p.1) : Mid X s H U' { si with heap := h', toks := t' } Hi := by
  have old : ∀ b o, s.heap.get? b = some o → ∀ p ∈ U, b ≠ p.1 := fun b o q p hp e => by
    have h1 := Heap.lt_size q
    rw [e] at h1
    exact Nat.not_lt.mpr (M.u p hp).2.2 h1
  have trk : ∀ b u, Hi b = some u → ∀ p ∈ U, b ≠ p.1 := fun b u q p hp e => by
    rw [e, (M.u p hp).2.1] at q
    cases q
  refine ⟨M.os, M.bare, ⟨fun b o q n hb hx => k b o (old b o q) (M.un.keep b o q n hb hx), fun b o q n hb hx => ?_, M.un.free, fun b o q hx => ?_, M.un.tups, M.un.frzs, M.un.tbls⟩, fun b u q => ?_, M.sm, hu⟩
  · obtain ⟨sl, e⟩ := M.un.slot b o q n hb hx
    exact ⟨sl, k b _ (old b o q) e⟩
  · obtain ⟨o', e⟩ := M.un.there b o q hx
    exact ⟨o', k b o' (old b o q) e⟩
  · refine (M.hok b u q).stay (fun c v hc r => k c v ?_ r) (fun _ r => r) fun _ _ r => r
    rcases hc with rfl | hc
    · exact trk _ _ q
    · exact trk _ _ hc
/-- an own def is called -/
theorem Mid.call {A' : Around} {k : Nat} {f : Addr} {fd : FuncData} {ps : List Str} {sp : Sp} {vs : List V} {us : List Value} {Q : VK} {R : Value → Shared → Prop} {E : Value → Shared → Prop} (M : Mid X s H U si Hi) (I : Inv X pins σ H s)
    (F : FnOk X.prog X.w X.K X.mg X.base CX0 k f fd ps sp) (hr : Room k A') (he : Env0 X.prog X.w X.K X.mg X.base A' X.stack si Hi) (hb : Binds X.K fd ps []) (r : Vals vs us) (h : sp vs Hi (fun v H2 => Same Hi H2 ∧ Q v H2) E0)
    (hR : ∀ u s' v H2, Mid X s H U s' H2 → RelV v u → Q v H2 → R u s') : wpAny (model X.prog X.w) A' (call (.ref f) us) R E si := by
  have I2 := M.inv I
  have hl : (us ++ []).length = ps.length := by rw [List.append_nil, ← r.length]; exact F.len _ _ _ _ h
  have hb2 := hb si us I2.kIn hl
  rw [List.append_nil] at hb2
  have fr : ∀ p ∈ U, p.1 ∉ frs X.stack := fun p hp hm => by
    obtain ⟨_, o, e, _⟩ := I.stack.mem hm
    exact Nat.not_lt.mpr (M.u p hp).2.2 (Heap.lt_size e)
  refine wpAny_call (codeAny_mono (F.run A' X.stack si Hi ⟨us, []⟩ us vs _ E0 hr he hb2 r h) fun r s' hq => ?_)
  cases r with
  | error e => exact False.elim hq
  | ok fl =>
    cases fl with
    | ret u =>
      obtain ⟨v, H2, os, bare, un, hok, rv, sm, q⟩ := hq
      refine hR u s' v H2 ⟨os.trans M.os, bare, M.un.trans un, hok, M.sm.trans sm, fun p hp => ?_⟩ rv q
      obtain ⟨g, n, z⟩ := M.u p hp
      exact ⟨un.keep p.1 p.2 g n (fr p hp) (by simp), un.free p.1 p.2 g n (by simp), z⟩
    | next => exact False.elim hq
    | brk => exact False.elim hq
    | cont => exact False.elim hq
end
section
open PyProof.Rows
variable {X : Cx} {pins : List (Addr × Obj)} {σ : L2.St} {s : Shared} {H : Hp}
/-- key at i: an object of its own, the pair that g says of the item -/
def KeysAre (Hi : Hp) (g : Addr → Int × Str) (ks : List Value) (ts : List Addr) : Prop := Paired (fun (k : Value) (t : Addr) => ∃ p, k = .ref p ∧ Hi p = some (.tup [.int (g t).1, .str (g t).2])) ks ts
theorem KeysAre.mono {Hi Hj : Hp} {g : Addr → Int × Str} (sm : Same Hi Hj) : ∀ {ks : List Value} {ts : List Addr}, KeysAre Hi g ks ts → KeysAre Hj g ks ts
  | _, _, .nil => .nil
  | _, _, .cons ⟨p, e, h⟩ r => .cons ⟨p, e, sm _ _ h⟩ (KeysAre.mono sm r)
/-- the key that a value is -/
def keyV (Hi : Hp) : Value → Int × Str
  | .ref p => match Hi p with
    | some (.tup [.int i, .str z]) => (i, z)
    | _ => (0, Str.empty)
  | _ => (0, Str.empty)
theorem keys_is {Hi : Hp} {si : Shared} {g : Addr → Int × Str} (ok : HOk X.prog X.w Hi si.heap) : ∀ {ks : List Value} {ts : List Addr}, KeysAre Hi g ks ts → ∀ v ∈ ks, IsIS si.heap v (keyV Hi v)
  | _, _, .nil, v, hv => by cases hv
  | _, _, .cons (b := t) ⟨p, e, h⟩ r, v, hv => by
    rcases List.mem_cons.mp hv with rfl | hm
    · subst e
      obtain ⟨_, its, rv, o, ho, hc, n, hd⟩ := ok p _ h
      obtain ⟨u1, u2, rfl, ri, rj⟩ := vals2 rv
      obtain ⟨t1, rfl⟩ := ri
      obtain ⟨t2, rfl⟩ := rj
      have ek : keyV Hi (.ref p) = g t := by unfold keyV; simp only [h]
      rw [ek]
      exact ⟨p, o, t1, t2, n, rfl, ho, hc, hd⟩
    · exact keys_is ok r v hm
theorem keys_zip {Hi : Hp} {g : Addr → Int × Str} : ∀ {ks : List Value} {ts : List Addr}, KeysAre Hi g ks ts → ∀ p ∈ ks.zip (ts.map Value.ref), ∃ t, p.2 = .ref t ∧ t ∈ ts ∧ keyV Hi p.1 = g t
  | _, _, .nil, p, hp => by cases hp
  | _, _, .cons (a := k) (b := t) ⟨q, e, h⟩ r, p, hp => by
    rcases List.mem_cons.mp hp with rfl | hm
    · refine ⟨t, rfl, List.mem_cons_self .., ?_⟩
      show keyV Hi k = g t
      subst e
      unfold keyV
      simp only [h]
    · obtain ⟨t', h1, h2, h3⟩ := keys_zip r p hm
      exact ⟨t', h1, List.mem_cons_of_mem _ h2, h3⟩
theorem KeysAre.len {Hi : Hp} {g : Addr → Int × Str} : ∀ {ks : List Value} {ts : List Addr}, KeysAre Hi g ks ts → ks.length = ts.length
  | _, _, .nil => rfl
  | _, _, .cons _ r => congrArg (· + 1) (KeysAre.len r)
theorem zip_toList (ks vs : List Value) : (ks.toArray.zip vs.toArray).toList = ks.zip vs := by simp
theorem map_snd_zip {ks vs : List Value} (h : ks.length = vs.length) : (ks.zip vs).map (·.2) = vs := List.map_snd_zip (Nat.le_of_eq h.symm)
def addrV : Value → Addr
  | .ref t => t
  | _ => 0
/-- what is promised of f: called with an item, whatever was made meanwhile, it gives a new pair -/
def KeyFn (sp : Sp) (H : Hp) (g : Addr → Int × Str) (t : Addr) : Prop := ∀ H1, Same H H1 → ∀ (Q1 : VK) (E1 : XK), (∀ p H2, Same H1 H2 → H2 p = some (.tup [.int (g t).1, .str (g t).2]) → Q1 (.ref p) H2) → sp [.ref t] H1 Q1 E1
theorem ksk_rest_run {A' : Around} {k : Nat} {f : Addr} {fd : FuncData} {ps : List Str} {sp : Sp} {D kS T : Addr} {ts : List Addr} {g : Addr → Int × Str} {n0 : Nat} {oT : Obj} {R : PySem.Fin → Shared → Prop} {E : Value → Shared → Prop} {si : Shared} (I : Inv X pins σ H s)
    (F : FnOk X.prog X.w X.K X.mg X.base CX0 k f fd ps sp) (hr : Room k A') (he : ∀ s2 H2, Inv X pins σ H2 s2 → Env0 X.prog X.w X.K X.mg X.base A' X.stack s2 H2) (hb : Binds X.K fd ps [])
    (hf : ∀ t ∈ ts, KeyFn sp H g t) (hz : ts.length < 100000) (nDk : D ≠ kS) (nTk : T ≠ kS) (nTD : T ≠ D)
    (M : Mid X s H [(kS, seqObj "list" #[] 0), (D, seqObj "list" #[] n0), (T, oT)] si H)
    (h : ∀ (s' : Shared) (H' : Hp) (out : List Addr) (nD : Nat), Same H H' → s'.os = s.os → AllBare s'.gens → Un (frs X.stack) [] H H' s.heap s'.heap → HOk X.prog X.w H' s'.heap → s'.heap.get? D = some (seqObj "list" (List.toArray (out.map Value.ref)) nD) → H' D = none → out.Perm ts → out.Pairwise (fun x y => lexIS (g y) (g x) = false) → R (.done (.ret .none)) s') :
    wpAny (model X.prog X.w) A' (ksk_rest D (.ref f) false (List.toArray (ts.map Value.ref)) n0 (.ref kS)) R E si := by
  unfold ksk_rest
  refine wpAny_bind (wpAny_rule ?_)
  first
    | rw [List.forIn_toArray]
    | (rw [← Array.forIn_toList]; simp only [List.toList_toArray])
    | rw [← Array.forIn_toList]
  refine wpAny_bind (ksk_fold (fun i s' => ∃ (Hi : Hp) (ks : List Value) (e : Nat), Mid X s H [(kS, seqObj "list" ks.toArray e), (D, seqObj "list" #[] n0), (T, oT)] s' Hi ∧ KeysAre Hi g ks (ts.take i)) (ts.map Value.ref) 0 si
    ⟨H, [], 0, M, .nil⟩ ?step ?done)
  case step =>
    rintro j x s' hx ⟨Hi, ks, e, M', K⟩
    simp only [Nat.zero_add] at K ⊢
    rw [List.getElem?_map] at hx
    obtain ⟨t, ht, rfl⟩ : ∃ t, ts[j]? = some t ∧ x = .ref t := by
      cases q : ts[j]? with
      | none => rw [q] at hx; cases hx
      | some t => rw [q] at hx; exact ⟨t, rfl, (Option.some.inj hx).symm⟩
    have hj : j < ts.length := (List.getElem?_eq_some_iff.mp ht).1
    have kl := K.len
    rw [List.length_take] at kl
    refine wpAny_bind (wpAny_attempt (M'.call (vs := [.ref t]) (us := [.ref t]) (Q := fun v H2 => ∃ p, v = .ref p ∧ H2 p = some (.tup [.int (g t).1, .str (g t).2]) ∧ Same Hi H2) I F hr (he _ _ (M'.inv I)) hb (.cons rfl .nil) (hf t (List.mem_of_getElem? ht) Hi M'.sm _ _ fun p H2 sm hp => ⟨sm, p, rfl, hp, sm⟩) fun u s2 v H2 M2 rv ⟨p, ev, hp, sm⟩ => ?_))
    subst ev
    obtain rfl : u = Value.ref p := rv
    try dsimp only
    have uk := M2.u (kS, seqObj "list" ks.toArray e) (.head _)
    have uD := M2.u (D, seqObj "list" #[] n0) (.tail _ (.head _))
    have uT := M2.u (T, oT) (.tail _ (.tail _ (.head _)))
    obtain ⟨c2, hc2⟩ : ∃ c2, (s2.heap.update kS (Obj.mapSeq (·.push (Value.ref p)))).get? kS = some (seqObj "list" (ks ++ [Value.ref p]).toArray c2) := by
      have e1 := get?_update_seq uk.1 (·.push (Value.ref p))
      have e2 : ks.toArray.push (Value.ref p) = (ks ++ [Value.ref p]).toArray := by simp
      rw [e2] at e1
      exact ⟨_, e1⟩
    have oth : ∀ b o, b ≠ kS → s2.heap.get? b = some o → (s2.heap.update kS (Obj.mapSeq (·.push (Value.ref p)))).get? b = some o := fun b o nb q => (Heap.get?_update_other _ _ (Ne.symm nb)).trans q
    refine wpAny_bind (listUpdate_at uk.1 rfl ?_ (by rw [List.size_toArray, kl]; exact Nat.le_trans (Nat.min_le_left _ _) (Nat.le_trans (show j ≤ 100000 by omega) (by decide))) (by rw [Array.size_push, List.size_toArray, kl]; exact Nat.succ_le_succ (Nat.le_trans (Nat.min_le_left _ _) (Nat.le_trans (show j ≤ 100000 by omega) (by decide)))))
    refine wpAny_pure ⟨rfl, H2, ks ++ [Value.ref p], c2, M2.heap _ s2.toks (fun b o nb q => oth b o (nb _ (.head _)) q) (fun b o q => ?_) (fun q hq => ?_), ?_⟩
    · by_cases nb : b = kS
      · subst nb; exact ⟨_, hc2⟩
      · exact ⟨o, oth b o nb q⟩
    · rcases List.mem_cons.mp hq with rfl | hq
      · exact ⟨hc2, uk.2⟩
      · rcases List.mem_cons.mp hq with rfl | hq
        · exact ⟨oth _ _ nDk uD.1, uD.2⟩
        · cases List.mem_singleton.mp hq
          exact ⟨oth _ _ nTk uT.1, uT.2⟩
    · have et : ts.take (j + 1) = ts.take j ++ [t] := by rw [List.take_add_one, ht]; rfl
      rw [et]
      exact Paired.snoc (K.mono sm) ⟨p, rfl, hp⟩
  case done =>
    rintro s' ⟨Hi, ks, e, M', K⟩
    rw [Nat.zero_add, List.length_map, List.take_length] at K
    have kl := K.len
    have uk := M'.u (kS, seqObj "list" ks.toArray e) (.head _)
    have uD := M'.u (D, seqObj "list" #[] n0) (.tail _ (.head _))
    have uT := M'.u (T, oT) (.tail _ (.tail _ (.head _)))
    try dsimp only
    refine wpAny_bind (listItems_at uk.1 rfl ?_)
    -- the end: what the sorted pairs give
    have fin : ∀ (xs : List Keyed) (s2 : Shared), xs.Perm (ks.zip (ts.map Value.ref)) → SrtO.Srtd (SrtO.lt2 fun v u => lexIS (keyV Hi v) (keyV Hi u)) xs →
        s2 = s' → ∀ (st : SortSt), (arrOf st).toList = xs → failedOf st = none → wpAny (model X.prog X.w) A' (ksk_tail D false n0 (.ref kS) st) R E s2 := fun xs s2 hp hs es st ea ef => by
      subst es
      have emap : ∃ out : List Addr, ((arrOf st).map (·.2)).toList = out.map Value.ref ∧ out.Perm ts ∧ out.Pairwise (fun x y => lexIS (g y) (g x) = false) := by
        have e1 : ((arrOf st).map (·.2)).toList = xs.map (·.2) := by rw [Array.toList_map, ea]
        have hx : ∀ p ∈ xs, ∃ t, p.2 = .ref t ∧ t ∈ ts ∧ keyV Hi p.1 = g t := fun p hm => keys_zip K p (hp.mem_iff.mp hm)
        have e2 : xs.map (·.2) = (xs.map fun p => addrV p.2).map Value.ref := by
          rw [List.map_map]
          refine List.map_congr_left fun p hm => ?_
          obtain ⟨t, e, _⟩ := hx p hm
          show p.2 = Value.ref (addrV p.2)
          rw [e]
          rfl
        refine ⟨xs.map fun p => addrV p.2, e1.trans e2, ?_, ?_⟩
        · have h1 := hp.map (fun p : Keyed => addrV p.2)
          have h2 : (ks.zip (ts.map Value.ref)).map (fun p : Keyed => addrV p.2) = ts := by
            have h3 := congrArg (List.map addrV) (map_snd_zip (ks := ks) (vs := ts.map Value.ref) (by rw [List.length_map]; exact kl))
            rw [List.map_map, List.map_map] at h3
            have h4 : (addrV ∘ Value.ref) = id := funext fun _ => rfl
            rw [h4, List.map_id] at h3
            exact h3
          rw [h2] at h1
          exact h1
        · refine List.pairwise_map.mpr ((List.Pairwise.and_mem.mp hs).imp fun {p q} hpq => ?_)
          obtain ⟨t, e, _, k1⟩ := hx p hpq.1
          obtain ⟨u, e', _, k2⟩ := hx q hpq.2.1
          have := hpq.2.2
          show lexIS (g (addrV q.2)) (g (addrV p.2)) = false
          rw [e, e']
          show lexIS (g u) (g t) = false
          rw [← k1, ← k2]
          exact this
      obtain ⟨out, eo, po, so⟩ := emap
      have eo' : (arrOf st).map (·.2) = (out.map Value.ref).toArray := by
        apply Array.ext'
        rw [eo]
      unfold ksk_tail
      rw [eo', ef]
      dsimp only
      obtain ⟨c1, hc1⟩ : ∃ c1, (s2.heap.update kS (Obj.mapSeq fun _ => #[])).get? kS = some (seqObj "list" #[] c1) := ⟨_, get?_update_seq uk.1 fun _ => #[]⟩
      refine wpAny_bind (listUpdate_at uk.1 rfl ?_ (by rw [List.size_toArray, kl]; exact Nat.le_trans (show ts.length ≤ 100000 by omega) (by decide)) (Nat.zero_le _))
      refine wpAny_bind (wpAny_letGo ?_)
      have oth1 : ∀ b o, b ≠ kS → s2.heap.get? b = some o → (s2.heap.update kS (Obj.mapSeq fun _ => #[])).get? b = some o := fun b o nb q => (Heap.get?_update_other _ _ (Ne.symm nb)).trans q
      have gD1 := oth1 D _ nDk uD.1
      refine wpAny_bind (seqEpoch_at gD1 rfl ?_)
      refine wpAny_bind (listUpdate_at gD1 rfl ?_ (Nat.zero_le _) (by rw [if_neg Bool.false_ne_true, List.size_toArray, List.length_map, po.length_eq]; exact Nat.le_succ_of_le (Nat.le_trans (show ts.length ≤ 100000 by omega) (by decide))))
      simp only [bne_self_eq_false, Bool.false_eq_true, if_false]
      have ho2 : ∃ nD, ((s2.heap.update kS (Obj.mapSeq fun _ => #[])).update D (Obj.mapSeq fun _ => (out.map Value.ref).toArray)).get? D = some (seqObj "list" (out.map Value.ref).toArray nD) := ⟨_, get?_update_seq gD1 fun _ => (out.map Value.ref).toArray⟩
      obtain ⟨nD, hnD⟩ := ho2
      have oth2 : ∀ b o, b ≠ D → (s2.heap.update kS (Obj.mapSeq fun _ => #[])).get? b = some o → ((s2.heap.update kS (Obj.mapSeq fun _ => #[])).update D (Obj.mapSeq fun _ => (out.map Value.ref).toArray)).get? b = some o := fun b o nb q => (Heap.get?_update_other _ _ (Ne.symm nb)).trans q
      have M3 : Mid X s H [(D, seqObj "list" (out.map Value.ref).toArray nD)] { s2 with heap := (s2.heap.update kS (Obj.mapSeq fun _ => #[])).update D (Obj.mapSeq fun _ => (out.map Value.ref).toArray), toks := s2.toks } Hi := M'.heap _ _ (fun b o nb q => oth2 b o (nb _ (.tail _ (.head _))) (oth1 b o (nb _ (.head _)) q)) (fun b o q => by
        by_cases n1 : b = D
        · subst n1; exact ⟨_, hnD⟩
        · by_cases n2 : b = kS
          · subst n2; exact ⟨_, oth2 _ _ n1 hc1⟩
          · exact ⟨o, oth2 _ _ n1 (oth1 _ _ n2 q)⟩) (fun q hq => by cases List.mem_singleton.mp hq; exact ⟨hnD, uD.2⟩)
      have uD3 := M3.u _ (.head _)
      exact wpAny_pure (h _ Hi out nD M3.sm M3.os M3.bare M3.un M3.hok uD3.1 uD3.2.1 po so)
    unfold ksk_end
    try dsimp only
    simp only [Bool.false_eq_true, if_false]
    have hsz : (List.toArray (ts.map Value.ref)).size = ts.length := by simp
    have ezip : (ks.toArray.zip (List.toArray (ts.map Value.ref))).toList = ks.zip (ts.map Value.ref) := zip_toList _ _
    by_cases h2 : (List.toArray (ts.map Value.ref)).size < 2
    · rw [if_pos h2, if_pos h2]
      refine wpAny_bind (wpAny_pure ?_)
      rw [StateT.run_pure]
      refine wpAny_bind (wpAny_pure ?_)
      try dsimp only
      refine fin (ks.zip (ts.map Value.ref)) s' (List.Perm.refl _) ?_ rfl (SortSt.mk' general' (ks.toArray.zip (List.toArray (ts.map Value.ref))) #[] 7 none) ezip rfl
      have l2 : (ks.zip (ts.map Value.ref)).length < 2 := by
        rw [List.length_zip, List.length_map]
        rw [hsz] at h2
        exact Nat.lt_of_le_of_lt (Nat.min_le_right _ _) h2
      match ks.zip (ts.map Value.ref), l2 with
      | [], _ => exact List.Pairwise.nil
      | [v], _ => exact List.pairwise_singleton _ _
      | _ :: _ :: l, h => exact absurd h (by rw [List.length_cons, List.length_cons]; omega)
    · rw [if_neg h2, if_neg h2]
      have hk := keys_is M'.hok K
      refine wpAny_bind (is_kind (k := keyV Hi) (by rw [kl]; rw [hsz] at h2; omega) hk ?_)
      refine wpAny_bind (wpAny_mono (SrtO.wpS_sortO (st0 := SortSt.mk' (tuples' true) (ks.toArray.zip (List.toArray (ts.map Value.ref))) #[] 7 none)
        (Q := fun _ st' => SrtO.Srtd (SrtO.lt2 fun v u => lexIS (keyV Hi v) (keyV Hi u)) (arrOf st').toList ∧ SrtO.Stb (SrtO.lt2 fun v u => lexIS (keyV Hi v) (keyV Hi u)) (arrOf st').toList (ks.toArray.zip (List.toArray (ts.map Value.ref))).toList ∧ failedOf st' = none) (SrtO.swo2 (swo_is (keyV Hi))) (is_cmp (k := keyV Hi) hk) rfl (fun p hm => ?_) rfl rfl fun st' a1 a2 a3 => ⟨a1, a2, a3⟩) ?_ fun _ _ e => e)
      · have hm' : p ∈ ks.zip (ts.map Value.ref) := by rw [← ezip]; exact hm
        exact (List.of_mem_zip hm').1
      · rintro ⟨⟨⟩, st'⟩ s2 ⟨rfl, hp1, hp2, hf⟩
        try dsimp only
        exact fin (arrOf st').toList _ (by rw [← ezip]; exact hp2.perm) hp1 rfl st' rfl hf
end
/-- sorted(t, key=f) -/
def rSortKF (K : PySem.W.Frag) (f : Addr) (sp : Sp) : List V → List V → Hp → VK → Prop := fun vs zs H Q => ∃ (a : Addr) (ts : List Addr) (g : Addr → Int × Str), vs = [V.ref a] ∧ zs = [V.ref f] ∧ (SqL K H a (ts.map V.ref) ∨ SqT K H a (ts.map V.ref)) ∧ ts.length < 100000 ∧ (∀ t ∈ ts, KeyFn sp H g t) ∧
  ∀ (H' : Hp) (p : Addr) (out : List Addr), Same H H' → H p = none → H' p = some (.lst (out.map V.ref)) → out.Perm ts → out.Pairwise (fun x y => lexIS (g y) (g x) = false) → Q (.ref p) H'
section
open PyProof.Rows
variable {X : Cx}
theorem refs_of {ts : List Addr} : ∀ {its : List Value}, Vals (ts.map V.ref) its → its = ts.map Value.ref := by
  induction ts with
  | nil => intro its r; cases r; rfl
  | cons t r ih =>
    intro its rv
    cases rv with
    | cons h rr =>
      have e : _ = Value.ref t := h
      rw [e, ih rr]
      rfl
theorem vals_refs : ∀ ts : List Addr, Vals (ts.map V.ref) (ts.map Value.ref)
  | [] => .nil
  | t :: r => .cons rfl (vals_refs r)
theorem cr_sortedKF {f : Addr} {fd : FuncData} {ps : List Str} {sp : Sp} {k : Nat} (F : FnOk X.prog X.w X.K X.mg X.base CX0 k f fd ps sp) (hr : Room (k + 2) X.A) (hb : Binds X.K fd ps []) : CallRK X (.builtin "sorted") [Str.ofString "key"] (rSortKF X.K f sp) := by
  intro pins s σ H vs zs us ws Q I r rz h
  obtain ⟨a, ts, g, rfl, rfl, hs, hz, hf, q⟩ := h
  obtain rfl := Vals.ref1 r
  obtain rfl := Vals.ref1 rz
  have hz2 : ts.length ≤ sizeLine := Nat.le_trans (Nat.le_of_lt hz) (by decide)
  refine call_function_entry_kw kind_sorted plain_sorted entry_sorted (ksk_s1 _ _) ?_
  unfold Builtin.«sorted»
  refine wpAny_bind (m := checkCount "sorted" 1 1 _) (wpAny_pure ?_)
  have hcol : ∀ (Q2 : List Value → Shared → Prop) (E2 : Value → Shared → Prop), (∀ u : Shared, Inv X pins σ H u → Q2 (ts.map Value.ref) u) → wpAny (model X.prog X.w) X.A.in1 (collect (.ref a)) Q2 E2 s := fun Q2 E2 q2 => by
    have all : ∀ {T : String} {n : Nat} {o : Obj}, T = "list" ∨ T = "tuple" → s.heap.get? a = some o → o.cls = .type T → o.data = .seq (ts.map Value.ref).toArray n → wpAny (model X.prog X.w) X.A.in1 (collect (.ref a)) Q2 E2 s := fun hT there cls dat =>
      wpAny_collect_seq a hT there cls dat (fun g same => by rw [List.toList_toArray]; exact q2 _ (Inv.kept (t' := s.toks) I same)) (by rw [List.size_toArray, List.length_map]; exact hz2)
    rcases hs with seq | seq
    · have ⟨_, rel, pl, _⟩ := I.list seq
      cases refs_of rel
      have ⟨o, there, cls, n, dat⟩ := pl.isList
      exact all (.inl rfl) there cls dat
    · have ⟨_, rel, ⟨o, there, cls, n, dat⟩, _⟩ := I.tuple seq
      cases refs_of rel
      exact all (.inr rfl) there cls dat
  refine wpAny_bind (hcol _ _ fun u J => ?_)
  refine wpAny_bind (wpAny_newList ?_ (by rw [List.length_map]; exact hz2))
  have hoL : (u.heap.push (seqObj "list" (ts.map Value.ref).toArray 0)).get? u.heap.objs.size = some (seqObj "list" (ts.map Value.ref).toArray 0) := Heap.get?_push_size _ rfl
  have keep : ∀ b o, u.heap.get? b = some o → (u.heap.push (seqObj "list" (ts.map Value.ref).toArray 0)).get? b = some o := fun b o e => Heap.get?_push_of_some _ e
  show wpAny _ _ _ _ _ { u with heap := u.heap.push (seqObj "list" (ts.map Value.ref).toArray 0) }
  generalize hh1 : u.heap.push (seqObj "list" (ts.map Value.ref).toArray 0) = h1 at hoL keep ⊢
  have M0 : Mid X u H [(u.heap.objs.size, seqObj "list" (ts.map Value.ref).toArray 0)] { u with heap := h1, toks := u.toks } H :=
    ⟨rfl, J.bare, Un.kept keep, J.hok.kept keep, Same.refl H, fun p hp => by cases List.mem_singleton.mp hp; exact ⟨hoL, J.hok.fresh (Nat.le_refl _), Nat.le_refl _⟩⟩
  refine wpAny_bind (wpAny_holding (wpAny_call_entry_kw slot_list_sort ⟨_, hoL, rfl⟩ entry_list_sort ?_ (ksk_l1 _ _)))
  show wpAny _ _ (Builtin.«list.sort» ⟨[.ref (u.heap.objs.size)], [(Str.ofString "key", .ref f)]⟩) _ _ _
  rw [ksk_t1]
  unfold ksk_tree
  have uL := M0.u _ (.head _)
  refine wpAny_bind (listItems_at hoL rfl ?_)
  refine wpAny_bind (listUpdate_at hoL rfl ?_ (by rw [List.size_toArray, List.length_map]; exact hz2) (Nat.zero_le _))
  obtain ⟨e1, ho1⟩ : ∃ e1, (h1.update (u.heap.objs.size) (Obj.mapSeq fun _ => #[])).get? (u.heap.objs.size) = some (seqObj "list" #[] e1) := ⟨_, get?_update_seq hoL (fun _ => #[])⟩
  refine wpAny_bind (seqEpoch_at ho1 rfl ?_)
  refine wpAny_bind (wpAny_newTuple ?_ (by simp only [List.length_map]; exact hz2))
  refine wpAny_bind (wpAny_newList ?_ (Nat.zero_le _))
  refine wpAny_holding ?_
  have oth : ∀ b o, b ≠ u.heap.objs.size → h1.get? b = some o → (h1.update (u.heap.objs.size) (Obj.mapSeq fun _ => #[])).get? b = some o := fun b o nb e => (Heap.get?_update_other _ _ (Ne.symm nb)).trans e
  have z1 : (h1.update (u.heap.objs.size) (Obj.mapSeq fun _ => #[])).objs.size = h1.objs.size := Heap.size_update _ _ _
  have lt1 : u.heap.objs.size < h1.objs.size := Heap.lt_size hoL
  generalize hh2 : h1.update (u.heap.objs.size) (Obj.mapSeq fun _ => #[]) = h2 at ho1 oth z1 ⊢
  have z2 : (h2.push (seqObj "tuple" (ts.map Value.ref).toArray 0)).objs.size = h1.objs.size + 1 := by rw [size_push', z1]
  have gT : (h2.push (seqObj "tuple" (ts.map Value.ref).toArray 0)).get? h1.objs.size = some (seqObj "tuple" (ts.map Value.ref).toArray 0) := by rw [← z1]; exact Heap.get?_push_size _ rfl
  have gK : ((h2.push (seqObj "tuple" (ts.map Value.ref).toArray 0)).push (seqObj "list" #[] 0)).get? (h1.objs.size + 1) = some (seqObj "list" #[] 0) := by rw [← z2]; exact Heap.get?_push_size _ rfl
  show wpAny (model X.prog X.w) X.A.in1.in1 (ksk_rest (u.heap.objs.size) (.ref f) false (ts.map Value.ref).toArray e1 (.ref (h2.push (seqObj "tuple" (ts.map Value.ref).toArray 0)).objs.size)) _ _ { u with heap := (h2.push (seqObj "tuple" (ts.map Value.ref).toArray 0)).push (seqObj "list" #[] 0) }
  rw [z2]
  have M1 : Mid X u H [(h1.objs.size + 1, seqObj "list" #[] 0), (u.heap.objs.size, seqObj "list" #[] e1), (h1.objs.size, seqObj "tuple" (ts.map Value.ref).toArray 0)] { u with heap := (h2.push (seqObj "tuple" (ts.map Value.ref).toArray 0)).push (seqObj "list" #[] 0), toks := u.toks } H :=
    M0.heap _ _ (fun b o nb e => Heap.get?_push_of_some _ (Heap.get?_push_of_some _ (oth b o (nb _ (.head _)) e))) (fun b o e => by
      by_cases nb : b = u.heap.objs.size
      · subst nb; exact ⟨_, Heap.get?_push_of_some _ (Heap.get?_push_of_some _ ho1)⟩
      · exact ⟨o, Heap.get?_push_of_some _ (Heap.get?_push_of_some _ (oth b o nb e))⟩) (fun p hp => by
      rcases List.mem_cons.mp hp with rfl | hp
      · exact ⟨gK, J.hok.fresh (Nat.le_trans (Nat.le_of_lt lt1) (Nat.le_succ _)), Nat.le_trans (Nat.le_of_lt lt1) (Nat.le_succ _)⟩
      · rcases List.mem_cons.mp hp with rfl | hp
        · exact ⟨Heap.get?_push_of_some _ (Heap.get?_push_of_some _ ho1), uL.2⟩
        · cases List.mem_singleton.mp hp
          exact ⟨Heap.get?_push_of_some _ gT, J.hok.fresh (Nat.le_of_lt lt1), Nat.le_of_lt lt1⟩)
  have nDk : u.heap.objs.size ≠ h1.objs.size + 1 := fun e => by omega
  refine ksk_rest_run (A' := X.A.in1.in1) (kS := h1.objs.size + 1) J F (Room.in1 (Room.in1 hr)) (fun s2 H2 I2 => I2.env0.in1.in1) hb hf hz nDk (Nat.ne_of_lt (Nat.lt_succ_self _)) (Nat.ne_of_gt lt1) M1 fun s' H' out nD sm os bare un hok gD nD' po so => ?_
  refine ⟨_, rfl, ?_⟩
  refine wpAny_pure ⟨_, rfl, ?_⟩
  -- the list is taken up
  have hlen : (out.map V.ref).length ≤ sizeLine := by rw [List.length_map, po.length_eq]; exact hz2
  have hD0 : H (u.heap.objs.size) = none := uL.2.1
  have hokD : HOk X.prog X.w (upd H' (u.heap.objs.size) (.lst (out.map V.ref))) s'.heap := fun b v e => by
    by_cases nb : b = u.heap.objs.size
    · subst nb
      rw [upd_same] at e
      cases e
      exact ⟨hlen, _, nD, vals_refs out, gD⟩
    · rw [upd_ne nb] at e
      refine (hok b v e).stay (fun c v _ r => r) (fun c r => ?_) fun c xs r => ?_
      · rw [upd_ne (fun z => by subst z; rw [nD'] at r; cases r)]; exact r
      · rw [upd_ne (fun z => by subst z; rw [nD'] at r; cases r)]; exact r
  have unD : Un (frs X.stack) [] H (upd H' (u.heap.objs.size) (.lst (out.map V.ref))) u.heap s'.heap := by
    have old : ∀ b o, u.heap.get? b = some o → b ≠ u.heap.objs.size := fun b o e => Nat.ne_of_lt (Heap.lt_size e)
    have trk : ∀ b v, H b = some v → b ≠ u.heap.objs.size := fun b v e z => by subst z; rw [hD0] at e; cases e
    refine ⟨un.keep, un.slot, fun b o e n hx => ?_, un.there, fun b xs e => ?_, fun b o u e => ?_, fun b ps e => ?_⟩
    · rw [upd_ne (old b o e)]; exact un.free b o e n hx
    · rw [upd_ne (trk _ _ e)]; exact un.tups b xs e
    · rw [upd_ne (trk _ _ e)]; exact un.frzs b o u e
    · rw [upd_ne (trk _ _ e)]; exact un.tbls b ps e
  refine ⟨.ref (u.heap.objs.size), upd H' (u.heap.objs.size) (.lst (out.map V.ref)), J.call' os unD hokD bare (by simp), rfl, q _ _ out (fun b o e => ?_) hD0 upd_same po so⟩
  rw [upd_ne (fun z => by subst z; rw [hD0] at e; cases e)]
  exact sm b o e
end
/-! ### f(k = v, ..), nothing by position -/
def kwPermV (p : List Nat) (ws : List Value) : List Value := p.map fun i => ws.getD i .none
def kwPermX (p : List Nat) (zs : List V) : List V := p.map fun i => zs.getD i .non
theorem vals_getD : ∀ {zs : List V} {ws : List Value}, Vals zs ws → ∀ i, i < zs.length → RelV (zs.getD i .non) (ws.getD i .none)
  | _, _, .nil, i, h => absurd h (Nat.not_lt_zero _)
  | _, _, .cons h _, 0, _ => h
  | _, _, .cons _ r, i + 1, h => vals_getD r i (Nat.lt_of_succ_lt_succ h)
theorem kwPerm_vals {p : List Nat} {n : Nat} {zs : List V} {ws : List Value} (r : Vals zs ws) (hl : zs.length = n) (hp : p.all (· < n) = true) : Vals (kwPermX p zs) (kwPermV p ws) := by
  subst hl
  unfold kwPermX kwPermV
  induction p with
  | nil => exact .nil
  | cons i p ih =>
    rw [List.all_cons, Bool.and_eq_true] at hp
    exact .cons (vals_getD r i (of_decide_eq_true hp.1)) (ih hp.2)
section
variable {X : Cx} {CX : CXT} {k : Nat} {f : Addr} {fd : FuncData} {ps ks : List Str} {sp : Sp} {E : XK} {x : Str} {p pos : Pos} {kws : List Keyword} {tk : TA}
def tCallK0 (sp : Sp) (n : Nat) (gV : List V → List V) (E : XK) (tk : TA) : TE := fun σ H Q => tk σ H fun zs H2 => zs.length = n ∧ sp (gV zs) H2 Q E
theorem pe_callK0 {g : List Value → List Value} {gV : List V → List V} (F : FnOk X.prog X.w X.K X.mg X.base CX k f fd ps sp) (hr : Room k X.A) (hg : Gl X x) (hm : X.mg x = some (.ref f)) (hk : PySem.W.keepIn X.K (.ref f) = true)
    (hb : ∀ (s : Shared) (ws : List Value), ws.length = ks.length → BindsTo s fd ⟨[], ks.zip ws⟩ (ps.zip (g ws))) (hgl : ∀ {zs : List V} {ws : List Value}, Vals zs ws → zs.length = ks.length → Vals (gV zs) (g ws)) (hx : Passes CX X E)
    (hkw : PK X kws tk) (hall : (backToKw pos (keywordEach kws X.env)).all (·.1.isSome) = true := by rfl) (hks : (backToKw pos (keywordEach kws X.env)).filterMap (·.1) = ks := by rfl)
    (hdb : (x == ("__debug__" : Str)) = false := by decide) (hpl : ((backTo pos (starEach [] X.env)).any (·.1) || (backToKw pos (keywordEach kws X.env)).any (·.1.isNone)) = false := by rfl) :
    PE X (.Call (.Name x p) [] kws pos) (tCallK0 sp ks.length gV E tk) := by
  refine ⟨fun pins s σ H Q I h => ?_⟩
  refine wpAny_Call_Name_kw (ld_glob I hg hm ?_ hdb)
  refine PySem.W.callWith_KW0 (h₀ := X.base) I.ok.mod.kin hk hall (thn (hkw.run pos pins s σ H _ I h) fun ws s2 ⟨zs, H2, I2, rz, hl, q2⟩ => ⟨I2.kIn, ?_⟩) hpl
  rw [hks]
  have r2 := hgl rz hl
  refine wpAny_call (codeAny_mono (F.run X.A X.stack s2 H2 ⟨[], ks.zip ws⟩ (g ws) (gV zs) Q E hr I2.env0 (hb s2 ws (rz.length.symm.trans hl)) r2 q2) fun r s' hq => ?_)
  cases r with
  | error e => exact hx pins σ H2 s2 e s' I2 hq
  | ok fl =>
    cases fl with
    | ret u => exact I2.after hq
    | next => exact False.elim hq
    | brk => exact False.elim hq
    | cont => exact False.elim hq
end
/-! ### x < y of two tuples of one shape, ints and texts inside: told place by place -/
def eqP : V → V → Bool
  | .int a, .int b => a == b
  | .str a, .str b => a == b
  | _, _ => false
def ltP : V → V → Bool
  | .int a, .int b => decide (a < b)
  | .str a, .str b => decide (a.cps.toList < b.cps.toList)
  | _, _ => false
def alikeP : V → V → Bool
  | .int _, .int _ => true
  | .str _, .str _ => true
  | _, _ => false
/-- the first place where the two differ decides -/
def rowLt : List V → List V → Bool
  | x :: xs, y :: ys => if eqP x y = true then rowLt xs ys else ltP x y
  | _, _ => false
theorem rowLt_lexAt : ∀ {xs ys : List V} (k i : Nat), xs.length = ys.length → i + k = xs.length →
    Ob.lexAt (fun j => eqP (xs.getD j .non) (ys.getD j .non)) (fun j => ltP (xs.getD j .non) (ys.getD j .non)) false i k = rowLt (xs.drop i) (ys.drop i)
  | xs, ys, 0, i, _, h => by
    rw [List.drop_of_length_le (by omega)]
    rfl
  | xs, ys, k + 1, i, hl, h => by
    have li : i < xs.length := by omega
    have lj : i < ys.length := by omega
    rw [List.drop_eq_getElem_cons li, List.drop_eq_getElem_cons lj, Ob.lexAt_succ, rowLt_lexAt k (i + 1) hl (by omega)]
    simp only [List.getD_eq_getElem?_getD, List.getElem?_eq_getElem li, List.getElem?_eq_getElem lj, Option.getD_some]
    rfl
section
variable {A : Around} {s : Shared}
theorem eqP_at {x y : V} {u v : Value} (rx : RelV x u) (ry : RelV y v) (k : alikeP x y = true) : SeqAt.EqAt A s u v (eqP x y) :=
  match x, y, rx, ry, k with
  | .int a, .int b, ⟨t, e⟩, ⟨t', e'⟩, _ => by subst e e'; exact SeqAt.EqAt.int_int a t b t'
  | .str a, .str b, ⟨t, e⟩, ⟨t', e'⟩, _ => by subst e e'; exact SeqAt.EqAt.str_str a t b t'
theorem ltP_at {x y : V} {u v : Value} (rx : RelV x u) (ry : RelV y v) (k : alikeP x y = true) : Ob.RcOp .Lt A s u v (ltP x y) :=
  match x, y, rx, ry, k with
  | .int a, .int b, ⟨t, e⟩, ⟨t', e'⟩, _ => by subst e e'; exact Ob.RcOp.lt_int a b t t'
  | .str a, .str b, ⟨t, e⟩, ⟨t', e'⟩, _ => by subst e e'; exact fun _ _ _ _ q => PyProof.Rows.lt_str q
theorem rows_lt {a b : Addr} {xs ys : List V} {us vs : List Value} (ta : s.heap.IsTuple a us.toArray) (tb : s.heap.IsTuple b vs.toArray) (r1 : Vals xs us) (r2 : Vals ys vs) (hl : xs.length = ys.length)
    (hk : ∀ j, j < xs.length → alikeP (xs.getD j .non) (ys.getD j .non) = true) (hu : A.units < cLine) : Ob.RcOp .Lt A s (.ref a) (.ref b) (rowLt xs ys) := by
  have l1 := r1.length
  have l2 := r2.length
  have rel : ∀ {zs : List V} {ws : List Value}, Vals zs ws → ∀ j (h : j < ws.toArray.size), RelV (zs.getD j .non) ws.toArray[j] := fun {zs ws} r j h => by
    have hj : j < zs.length := by rw [r.length]; simpa using h
    have ⟨v, e, rv⟩ := r.get (List.getElem?_eq_getElem hj)
    have ev : ws.toArray[j] = v := by
      have : ws[j]? = some ws.toArray[j] := by simp
      exact Option.some.inj (this.symm.trans e)
    rw [List.getD_eq_getElem?_getD, List.getElem?_eq_getElem hj, ev]
    exact rv
  have R := Ob.RcOp.tuples_lt (A := A) (s := s) (e := fun j => eqP (xs.getD j .non) (ys.getD j .non)) (r := fun j => ltP (xs.getD j .non) (ys.getD j .non)) ta tb hu
    (fun j h1 h2 => eqP_at (rel r1 j h1) (rel r2 j h2) (hk j (by rw [l1]; simpa using h1))) (fun j h1 h2 _ => ltP_at (rel r1 j h1) (rel r2 j h2) (hk j (by rw [l1]; simpa using h1)))
  have same : us.toArray.size = vs.toArray.size := by rw [List.size_toArray, List.size_toArray]; omega
  have none : decide (us.toArray.size < vs.toArray.size) = false := by rw [same]; exact decide_eq_false (Nat.lt_irrefl _)
  have most : min us.toArray.size vs.toArray.size = xs.length := by rw [same, Nat.min_self, List.size_toArray]; omega
  rw [none, most, rowLt_lexAt _ 0 hl (Nat.zero_add _)] at R
  exact R
end
theorem rowLt_is {i j : Int} {p q : Str} : rowLt [.int i, .str p] [.int j, .str q] = lexIS (i, p) (j, q) := by
  show (if (i == j) = true then (if (p == q) = true then false else decide (p.cps.toList < q.cps.toList)) else decide (i < j)) = if i = j then decide (p.cps.toList < q.cps.toList) else decide (i < j)
  by_cases e : i = j
  · subst e
    rw [if_pos (beq_self_eq_true i), if_pos rfl]
    split
    · rename_i e2
      rw [eq_of_beq e2]
      exact (decide_eq_false (List.lt_irrefl _)).symm
    · rfl
  · rw [if_neg (fun z => e (eq_of_beq z)), if_neg e]
def rLtIS (K : PySem.W.Frag) : R2 := fun x y H Q => ∃ (a b : Addr) (i j : Int) (p q : Str), x = .ref a ∧ y = .ref b ∧ SqT K H a [.int i, .str p] ∧ SqT K H b [.int j, .str q] ∧ Q (.bl (lexIS (i, p) (j, q))) H
theorem op_ltIS {X : Cx} (hu : X.A.units < cLine) : OpR X (compareOp .Lt) (rLtIS X.K) := fun pins s σ H x y v u Q I rx ry ⟨a, b, i, j, p, q, ex, ey, ha, hb, hq⟩ => by
  subst ex ey
  cases rx; cases ry
  have ⟨us, r1, t1, _⟩ := I.tuple ha
  have ⟨vs, r2, t2, _⟩ := I.tuple hb
  refine rows_lt t1 t2 r1 r2 rfl (fun n hn => ?_) hu X.prog X.w X.xe (EP X pins σ Q) ⟨.bl (rowLt [.int i, .str p] [.int j, .str q]), H, I, rfl, by rw [rowLt_is]; exact hq⟩
  match n, hn with
  | 0, _ => rfl
  | 1, _ => rfl
/-! ### t[::-1] of a tuple -/
section
open HT
variable {prog : Program} {w : World} {A : Around} {E : Value → Shared → Prop} {s : Shared}
/-- the places that the slice asks for, from the last one down -/
theorem down_all (xs : Array Value) : ((List.range xs.size).filterMap fun (m : Nat) => xs[(((xs.size : Int) - 1) + (m : Int) * (-1)).toNat]?).toArray = xs.toList.reverse.toArray := by
  congr 1
  apply List.ext_getElem?
  intro i
  have same : ∀ n, n ≤ xs.size → ((List.range n).filterMap fun (m : Nat) => xs[(((xs.size : Int) - 1) + (m : Int) * (-1)).toNat]?) = xs.toList.reverse.take n := by
    intro n
    induction n with
    | zero => intro _; rfl
    | succ n ih =>
      intro hn
      have e : (((xs.size : Int) - 1) + (n : Int) * (-1)).toNat = xs.size - 1 - n := by omega
      have lt : xs.size - 1 - n < xs.size := by omega
      rw [List.range_succ, List.filterMap_append, ih (by omega), List.take_add_one]
      congr 1
      rw [List.getElem?_reverse (by rw [Array.length_toList]; omega), Array.length_toList, Array.getElem?_toList]
      simp only [List.filterMap_cons, List.filterMap_nil, e, Array.getElem?_eq_getElem lt]
      rfl
  rw [same _ (Nat.le_refl _), List.take_of_length_le (by rw [List.length_reverse, Array.length_toList]; exact Nat.le_refl _)]
/-- what the slice object [::-1] says of n items -/
theorem back_slice {n : Nat} {sl : Addr} {vs : Value} (hs : s.heap.IsSliceOf sl .none .none vs) (ps : IsPart vs (some (-1))) {Q : Int × Int × Nat → Shared → Prop} (q : Q ((n : Int) - 1, -1, n) s) :
    wpAny (model prog w) A (Builtin.Slice.sliceApplied (.ref sl) (pure (n : Int))) Q E s := by
  have ⟨ob, there, _, dat⟩ := hs
  refine wpAny_bind (m := Builtin.Slice.sliceFields _) ?_
  refine wpAny_bind (wpAny_field there dat rfl (wpAny_bind (wpAny_field there dat rfl (wpAny_bind (wpAny_field there dat rfl (wpAny_pure ?_))))))
  refine wpAny_bind (slicePart_ ps ?_)
  show wpAny _ _ (if ((-1 : Int) == 0) = true then _ else _) _ _ s
  rw [if_neg (fun h => by cases h)]
  refine wpAny_bind (slicePart_none (wpAny_bind (slicePart_none (wpAny_bind (wpAny_pure ?_)))))
  have many : Builtin.Slice.slicePlaces ((n : Int) - 1) (-1) (-1) = n := by
    simp only [Builtin.Slice.slicePlaces]
    rw [if_neg (fun h => by cases h)]
    rw [Int.neg_neg, Int.ediv_one]
    split <;> omega
  show wpAny _ _ (pure ((n : Int) - 1, (-1 : Int), Builtin.Slice.slicePlaces ((n : Int) - 1) (-1) (-1))) _ _ s
  rw [many]
  exact wpAny_pure q
theorem tuple_back {t sl : Addr} {items : Array Value} {vs : Value} {Q : Value → Shared → Prop} (ht : IsTup s.heap t items) (hs : s.heap.IsSliceOf sl .none .none vs) (ps : IsPart vs (some (-1))) (most : items.size ≤ sizeLine)
    (q : Q (.ref s.heap.objs.size) { s with heap := s.heap.push { cls := .type "tuple", data := .seq items.toList.reverse.toArray } }) : wpAny (model prog w) A (getItem (.ref t) (.ref sl)) Q E s := by
  have fits : sizeOk (.seq items.toList.reverse.toArray) := by
    show items.toList.reverse.toArray.size ≤ sizeLine
    simpa using most
  have isl : s.TypeIs (.ref sl) "slice" := hs.imp fun _ h => ⟨h.1, h.2.1⟩
  unfold getItem
  try with_reducible refine wpAny_holding ?_
  first | refine wpAny_bind (wpAny_pure ?_) | skip
  refine wpAny_bind (wpAny_sequenceKey ht.typeIs (by decide) (wpAny_bind (wpAny_callSpecial?_slot (name := Str.ofString "__getitem__") ht.typeIs PyProof.Rows.slot_tuple_getitem (wpAny_call_entry PyProof.Rows.slot_tuple_getitem ht.typeIs entry_tuple_getitem ?_ (args_tuple_getitem _ _)))))
  refine wpAny_bind (m := Builtin.Tuple.tupleItemsOf _) (tupleItemsOf_ ht (wpAny_bind (wpAny_typeOf isl ?_)))
  rw [if_pos (beq_self_eq_true (Value.type "slice"))]
  refine wpAny_bind (back_slice (n := items.size) hs ps ?_)
  have other : ((((items.size : Int) - 1) == 0 && (-1 : Int) == 1 && items.size == items.size) = true) = False := by simp
  show wpAny _ _ (if ((((items.size : Int) - 1) == 0 && (-1 : Int) == 1 && items.size == items.size) = true) then _ else _) _ _ s
  rw [if_neg (fun h => other ▸ h), down_all]
  refine wpAny_bind (m := Builtin.Tuple.tupleExact _) (wpAny_newObj_type ?_ fits)
  first | exact wpAny_pure ⟨_, rfl, wpAny_pure q⟩ | exact wpAny_pure (wpAny_pure ⟨_, rfl, wpAny_pure q⟩)
end
def tRevT (K : PySem.W.Frag) (te : TE) : TE := fun σ H Q => te σ H fun x H1 => ∃ a xs, x = .ref a ∧ SqT K H1 a xs ∧ ∀ p, H1 p = none → Q (.ref p) (upd H1 p (.tup xs.reverse))
theorem pe_revT {X : Cx} {e : Expr} {te : TE} {k : Nat} {p1 p2 p3 pos : Pos} (he : PE X e te) : PE X (.Subscript e (.Slice none none (some (.UnaryOp .USub (.Constant (.int 1) k p1) p2)) p3) pos) (tRevT X.K te) where
  run := fun pins s σ H Q I h => Subscript_ (thn (he.run pins s σ H _ I h) fun v s1 got => by
    obtain ⟨_, H1, J, rv, a, xs, rfl, sq, q⟩ := got
    obtain rfl : v = Value.ref a := rv
    have off := po_none (X := X)
    have neg : PO X (some (.UnaryOp .USub (.Constant (.int 1) k p1) p2)) _ := po_some (pe_un un_neg pe_int)
    refine wpAny_Slice (thn (off.run pins s1 σ H1 (fun o G => o = none ∧ G = H1) J ⟨rfl, rfl⟩) fun v1 s2 ⟨o1, G1, J1, part1, e1, g1⟩ => ?_)
    subst e1 g1
    refine thn (off.run pins s2 σ G1 (fun o G => o = none ∧ G = G1) J1 ⟨rfl, rfl⟩) fun v2 s3 ⟨o2, G2, J2, part2, e2, g2⟩ => ?_
    subst e2 g2
    refine thn (neg.run pins s3 σ G2 (fun o G => o = some (-1) ∧ G = G2) J2 ⟨1, rfl, -1, rfl, rfl, rfl⟩) fun v3 s4 ⟨o3, G3, J3, part3, e3, g3⟩ => ?_
    subst e3 g3
    cases part1; cases part2
    have J4 : Inv X pins σ G3 { s4 with heap := s4.heap.push { cls := .type "slice", data := .fields #[.none, .none, v3] } } := Inv.kept (t' := s4.toks) J3 fun b ob there => Heap.get?_push_of_some _ there
    have ⟨its, rel, tup, most⟩ := J4.tuple sq
    have len := rel.length
    refine tail_any (ops := [.ref a, .ref s4.heap.objs.size]) tup.typeIs (PyProof.Rows.slot_tuple_getitem.lookup) (tuple_back tup (Heap.IsSliceOf.new _ .none .none v3) part3 (by rw [List.size_toArray]; omega) ?_) (by with_unfolding_all rfl)
    exact ⟨.ref _, _, J4.laid (t' := s4.toks) (o := .tup xs.reverse) (fun b ob there => Heap.get?_push_of_some _ there) (Nat.le_refl _) ⟨by rw [List.length_reverse]; omega, _, rel.reverse, IsTup.new _ _⟩, rfl, q _ (J4.hok.fresh (Nat.le_refl _))⟩)
def topS (i : Nat) : Stmt := PySem.Challenge.pw_muffline_k03_order_of_terms.main.body.getD i (.Pass ⟨0, 0, 0, 0⟩)
abbrev ssize : Stmt := topS 1
abbrev Nsize : List Str := ["term"]
theorem scsize : FnScope Nsize ["term"] (defScope ssize) := ⟨rfl, rfl, rfl, by decide +kernel, rfl, by decide +kernel, by decide +kernel⟩
abbrev soccurrences : Stmt := topS 2
abbrev Noccurrences : List Str := ["term", "found", "pending", "node", "item"]
theorem scoccurrences : FnScope Noccurrences ["term"] (defScope soccurrences) := ⟨rfl, rfl, rfl, by decide +kernel, rfl, by decide +kernel, by decide +kernel⟩
abbrev s_written : Stmt := topS 3
abbrev N_written : List Str := ["node", "inner", "words", "item"]
theorem sc_written : FnScope N_written ["node", "inner"] (defScope s_written) := ⟨rfl, rfl, rfl, by decide +kernel, rfl, by decide +kernel, by decide +kernel⟩
abbrev skey_of : Stmt := topS 4
abbrev Nkey_of : List Str := ["term", "inner", "node"]
theorem sckey_of : FnScope Nkey_of ["term"] (defScope skey_of) := ⟨rfl, rfl, rfl, by decide +kernel, rfl, by decide +kernel, by decide +kernel⟩
abbrev s_rank : Stmt := topS 5
abbrev N_rank : List Str := ["term"]
theorem sc_rank : FnScope N_rank ["term"] (defScope s_rank) := ⟨rfl, rfl, rfl, by decide +kernel, rfl, by decide +kernel, by decide +kernel⟩
abbrev sis_less : Stmt := topS 6
abbrev Nis_less : List Str := ["first", "second"]
theorem scis_less : FnScope Nis_less ["first", "second"] (defScope sis_less) := ⟨rfl, rfl, rfl, by decide +kernel, rfl, by decide +kernel, by decide +kernel⟩
abbrev sin_order : Stmt := topS 7
abbrev Nin_order : List Str := ["row"]
theorem scin_order : FnScope Nin_order ["row"] (defScope sin_order) := ⟨rfl, rfl, rfl, by decide +kernel, rfl, by decide +kernel, by decide +kernel⟩
abbrev s_law_flow : Stmt := topS 9
abbrev N_law_flow : List Str := ["script", "mixed", "cell"]
theorem sc_law_flow : FnScope N_law_flow ["script"] (defScope s_law_flow) := ⟨rfl, rfl, rfl, by decide +kernel, rfl, by decide +kernel, by decide +kernel⟩
abbrev s_law_load : Stmt := topS 10
abbrev N_law_load : List Str := ["flow", "cell"]
theorem sc_law_load : FnScope N_law_load ["flow"] (defScope s_law_load) := ⟨rfl, rfl, rfl, by decide +kernel, rfl, by decide +kernel, by decide +kernel⟩
abbrev s_law_draw : Stmt := topS 11
abbrev N_law_draw : List Str := ["flow", "many", "drawn"]
theorem sc_law_draw : FnScope N_law_draw ["flow", "many"] (defScope s_law_draw) := ⟨rfl, rfl, rfl, by decide +kernel, rfl, by decide +kernel, by decide +kernel⟩
abbrev s_law_pick : Stmt := topS 12
abbrev N_law_pick : List Str := ["flow", "things"]
theorem sc_law_pick : FnScope N_law_pick ["flow", "things"] (defScope s_law_pick) := ⟨rfl, rfl, rfl, by decide +kernel, rfl, by decide +kernel, by decide +kernel⟩
abbrev s_law_letter : Stmt := topS 13
abbrev N_law_letter : List Str := ["flow"]
theorem sc_law_letter : FnScope N_law_letter ["flow"] (defScope s_law_letter) := ⟨rfl, rfl, rfl, by decide +kernel, rfl, by decide +kernel, by decide +kernel⟩
abbrev s_law_name : Stmt := topS 14
abbrev N_law_name : List Str := ["flow", "k"]
theorem sc_law_name : FnScope N_law_name ["flow"] (defScope s_law_name) := ⟨rfl, rfl, rfl, by decide +kernel, rfl, by decide +kernel, by decide +kernel⟩
abbrev s_law_near : Stmt := topS 15
abbrev N_law_near : List Str := ["flow", "name", "at", "kind"]
theorem sc_law_near : FnScope N_law_near ["flow", "name"] (defScope s_law_near) := ⟨rfl, rfl, rfl, by decide +kernel, rfl, by decide +kernel, by decide +kernel⟩
abbrev s_law_names : Stmt := topS 16
abbrev N_law_names : List Str := ["flow", "many", "names", "k"]
theorem sc_law_names : FnScope N_law_names ["flow", "many"] (defScope s_law_names) := ⟨rfl, rfl, rfl, by decide +kernel, rfl, by decide +kernel, by decide +kernel⟩
abbrev s_law_atom : Stmt := topS 17
abbrev N_law_atom : List Str := ["flow", "names", "name", "other", "kind"]
theorem sc_law_atom : FnScope N_law_atom ["flow", "names"] (defScope s_law_atom) := ⟨rfl, rfl, rfl, by decide +kernel, rfl, by decide +kernel, by decide +kernel⟩
abbrev s_law_note : Stmt := topS 18
abbrev N_law_note : List Str := ["book", "atom", "text", "item"]
theorem sc_law_note : FnScope N_law_note ["book", "atom"] (defScope s_law_note) := ⟨rfl, rfl, rfl, by decide +kernel, rfl, by decide +kernel, by decide +kernel⟩
abbrev s_law_compose : Stmt := topS 19
abbrev N_law_compose : List Str := ["book", "kind", "one", "two", "name", "first", "text"]
theorem sc_law_compose : FnScope N_law_compose ["book", "kind", "one", "two", "name"] (defScope s_law_compose) := ⟨rfl, rfl, rfl, by decide +kernel, rfl, by decide +kernel, by decide +kernel⟩
abbrev s_law_grow : Stmt := topS 20
abbrev N_law_grow : List Str := ["flow", "names", "book", "made", "most", "one", "two", "kind"]
theorem sc_law_grow : FnScope N_law_grow ["flow", "names", "book", "made", "most"] (defScope s_law_grow) := ⟨rfl, rfl, rfl, by decide +kernel, rfl, by decide +kernel, by decide +kernel⟩
abbrev s_law_same : Stmt := topS 21
abbrev N_law_same : List Str := ["actual", "due", "todo", "one", "other", "k"]
theorem sc_law_same : FnScope N_law_same ["actual", "due"] (defScope s_law_same) := ⟨rfl, rfl, rfl, by decide +kernel, rfl, by decide +kernel, by decide +kernel⟩
abbrev s_law_key : Stmt := topS 22
abbrev N_law_key : List Str := ["text"]
theorem sc_law_key : FnScope N_law_key ["text"] (defScope s_law_key) := ⟨rfl, rfl, rfl, by decide +kernel, rfl, by decide +kernel, by decide +kernel⟩
abbrev s_law_neighbours : Stmt := topS 23
abbrev N_law_neighbours : List Str := ["flow", "names", "book", "made", "near", "name", "word", "number", "road", "text", "k"]
theorem sc_law_neighbours : FnScope N_law_neighbours ["flow", "names", "book", "made"] (defScope s_law_neighbours) := ⟨rfl, rfl, rfl, by decide +kernel, rfl, by decide +kernel, by decide +kernel⟩
abbrev s_law_pairs_right : Stmt := topS 24
abbrev N_law_pairs_right : List Str := ["book", "row", "one", "two", "actual"]
theorem sc_law_pairs_right : FnScope N_law_pairs_right ["book", "row"] (defScope s_law_pairs_right) := ⟨rfl, rfl, rfl, by decide +kernel, rfl, by decide +kernel, by decide +kernel⟩
abbrev s_law_row_right : Stmt := topS 25
abbrev N_law_row_right : List Str := ["book", "row", "whole", "text", "keys", "due", "key", "terms"]
theorem sc_law_row_right : FnScope N_law_row_right ["book", "row"] (defScope s_law_row_right) := ⟨rfl, rfl, rfl, by decide +kernel, rfl, by decide +kernel, by decide +kernel⟩
abbrev slaw : Stmt := topS 26
abbrev Nlaw : List Str := ["script", "flow", "names", "book", "made", "k", "row", "text", "actual", "low"]
theorem sclaw : FnScope Nlaw ["script"] (defScope slaw) := ⟨rfl, rfl, rfl, by decide +kernel, rfl, by decide +kernel, by decide +kernel⟩
structure Top (K : PySem.W.Frag) (mg : Str → Option Value) where
  fsize : Addr
  dsize : FuncData
  Fsize : Fun K "size" "size" ssize fsize dsize
  bsize : Binds K dsize ["term"] []
  gsize : mg "size" = some (.ref fsize)
  foccurrences : Addr
  doccurrences : FuncData
  Foccurrences : Fun K "occurrences" "occurrences" soccurrences foccurrences doccurrences
  boccurrences : Binds K doccurrences ["term"] []
  goccurrences : mg "occurrences" = some (.ref foccurrences)
  f_written : Addr
  d_written : FuncData
  F_written : Fun K "_written" "_written" s_written f_written d_written
  b_written : Binds K d_written ["node", "inner"] []
  g_written : mg "_written" = some (.ref f_written)
  fkey_of : Addr
  dkey_of : FuncData
  Fkey_of : Fun K "key_of" "key_of" skey_of fkey_of dkey_of
  bkey_of : Binds K dkey_of ["term"] []
  gkey_of : mg "key_of" = some (.ref fkey_of)
  f_rank : Addr
  d_rank : FuncData
  F_rank : Fun K "_rank" "_rank" s_rank f_rank d_rank
  b_rank : Binds K d_rank ["term"] []
  g_rank : mg "_rank" = some (.ref f_rank)
  fis_less : Addr
  dis_less : FuncData
  Fis_less : Fun K "is_less" "is_less" sis_less fis_less dis_less
  bis_less : Binds K dis_less ["first", "second"] []
  gis_less : mg "is_less" = some (.ref fis_less)
  fin_order : Addr
  din_order : FuncData
  Fin_order : Fun K "in_order" "in_order" sin_order fin_order din_order
  bin_order : Binds K din_order ["row"] []
  gin_order : mg "in_order" = some (.ref fin_order)
  f_law_flow : Addr
  d_law_flow : FuncData
  F_law_flow : Fun K "_law_flow" "_law_flow" s_law_flow f_law_flow d_law_flow
  b_law_flow : Binds K d_law_flow ["script"] []
  g_law_flow : mg "_law_flow" = some (.ref f_law_flow)
  f_law_load : Addr
  d_law_load : FuncData
  F_law_load : Fun K "_law_load" "_law_load" s_law_load f_law_load d_law_load
  b_law_load : Binds K d_law_load ["flow"] []
  g_law_load : mg "_law_load" = some (.ref f_law_load)
  f_law_draw : Addr
  d_law_draw : FuncData
  F_law_draw : Fun K "_law_draw" "_law_draw" s_law_draw f_law_draw d_law_draw
  b_law_draw : Binds K d_law_draw ["flow", "many"] []
  g_law_draw : mg "_law_draw" = some (.ref f_law_draw)
  f_law_pick : Addr
  d_law_pick : FuncData
  F_law_pick : Fun K "_law_pick" "_law_pick" s_law_pick f_law_pick d_law_pick
  b_law_pick : Binds K d_law_pick ["flow", "things"] []
  g_law_pick : mg "_law_pick" = some (.ref f_law_pick)
  f_law_letter : Addr
  d_law_letter : FuncData
  F_law_letter : Fun K "_law_letter" "_law_letter" s_law_letter f_law_letter d_law_letter
  b_law_letter : Binds K d_law_letter ["flow"] []
  g_law_letter : mg "_law_letter" = some (.ref f_law_letter)
  f_law_name : Addr
  d_law_name : FuncData
  F_law_name : Fun K "_law_name" "_law_name" s_law_name f_law_name d_law_name
  b_law_name : Binds K d_law_name ["flow"] []
  g_law_name : mg "_law_name" = some (.ref f_law_name)
  f_law_near : Addr
  d_law_near : FuncData
  F_law_near : Fun K "_law_near" "_law_near" s_law_near f_law_near d_law_near
  b_law_near : Binds K d_law_near ["flow", "name"] []
  g_law_near : mg "_law_near" = some (.ref f_law_near)
  f_law_names : Addr
  d_law_names : FuncData
  F_law_names : Fun K "_law_names" "_law_names" s_law_names f_law_names d_law_names
  b_law_names : Binds K d_law_names ["flow", "many"] []
  g_law_names : mg "_law_names" = some (.ref f_law_names)
  f_law_atom : Addr
  d_law_atom : FuncData
  F_law_atom : Fun K "_law_atom" "_law_atom" s_law_atom f_law_atom d_law_atom
  b_law_atom : Binds K d_law_atom ["flow", "names"] []
  g_law_atom : mg "_law_atom" = some (.ref f_law_atom)
  f_law_note : Addr
  d_law_note : FuncData
  F_law_note : Fun K "_law_note" "_law_note" s_law_note f_law_note d_law_note
  b_law_note : Binds K d_law_note ["book", "atom"] []
  g_law_note : mg "_law_note" = some (.ref f_law_note)
  f_law_compose : Addr
  d_law_compose : FuncData
  F_law_compose : Fun K "_law_compose" "_law_compose" s_law_compose f_law_compose d_law_compose
  b_law_compose : Binds K d_law_compose ["book", "kind", "one", "two", "name"] []
  g_law_compose : mg "_law_compose" = some (.ref f_law_compose)
  f_law_grow : Addr
  d_law_grow : FuncData
  F_law_grow : Fun K "_law_grow" "_law_grow" s_law_grow f_law_grow d_law_grow
  b_law_grow : Binds K d_law_grow ["flow", "names", "book", "made", "most"] []
  g_law_grow : mg "_law_grow" = some (.ref f_law_grow)
  f_law_same : Addr
  d_law_same : FuncData
  F_law_same : Fun K "_law_same" "_law_same" s_law_same f_law_same d_law_same
  b_law_same : Binds K d_law_same ["actual", "due"] []
  g_law_same : mg "_law_same" = some (.ref f_law_same)
  f_law_key : Addr
  d_law_key : FuncData
  F_law_key : Fun K "_law_key" "_law_key" s_law_key f_law_key d_law_key
  b_law_key : Binds K d_law_key ["text"] []
  g_law_key : mg "_law_key" = some (.ref f_law_key)
  f_law_neighbours : Addr
  d_law_neighbours : FuncData
  F_law_neighbours : Fun K "_law_neighbours" "_law_neighbours" s_law_neighbours f_law_neighbours d_law_neighbours
  b_law_neighbours : Binds K d_law_neighbours ["flow", "names", "book", "made"] []
  g_law_neighbours : mg "_law_neighbours" = some (.ref f_law_neighbours)
  f_law_pairs_right : Addr
  d_law_pairs_right : FuncData
  F_law_pairs_right : Fun K "_law_pairs_right" "_law_pairs_right" s_law_pairs_right f_law_pairs_right d_law_pairs_right
  b_law_pairs_right : Binds K d_law_pairs_right ["book", "row"] []
  g_law_pairs_right : mg "_law_pairs_right" = some (.ref f_law_pairs_right)
  f_law_row_right : Addr
  d_law_row_right : FuncData
  F_law_row_right : Fun K "_law_row_right" "_law_row_right" s_law_row_right f_law_row_right d_law_row_right
  b_law_row_right : Binds K d_law_row_right ["book", "row"] []
  g_law_row_right : mg "_law_row_right" = some (.ref f_law_row_right)
  flaw : Addr
  dlaw : FuncData
  Flaw : Fun K "law" "law" slaw flaw dlaw
  blaw : Binds K dlaw ["script"] []
  glaw : mg "law" = some (.ref flaw)
  kis_less_second_first : ∀ (s : Shared) (ws : List Value), ws.length = (["second", "first"] : List Str).length → BindsTo s dis_less ⟨[], (["second", "first"] : List Str).zip ws⟩ ((["first", "second"] : List Str).zip (kwPermV [1, 0] ws))
  kin_order_row : ∀ (s : Shared) (ws : List Value), ws.length = (["row"] : List Str).length → BindsTo s din_order ⟨[], (["row"] : List Str).zip ws⟩ ((["row"] : List Str).zip (kwPermV [0] ws))
  kkey_of_term : ∀ (s : Shared) (ws : List Value), ws.length = (["term"] : List Str).length → BindsTo s dkey_of ⟨[], (["term"] : List Str).zip ws⟩ ((["term"] : List Str).zip (kwPermV [0] ws))
  z_abs : mg "abs" = none
  z_bool : mg "bool" = none
  z_int : mg "int" = none
  z_isinstance : mg "isinstance" = none
  z_len : mg "len" = none
  z_list : mg "list" = none
  z_max : mg "max" = none
  z_min : mg "min" = none
  z_range : mg "range" = none
  z_reversed : mg "reversed" = none
  z_sorted : mg "sorted" = none
  z_str : mg "str" = none
  z_tuple : mg "tuple" = none
/-! ### the hand's short words -/
/-- all but what stands at a is as it was -/
def Fr (a : Addr) (H H' : Hp) : Prop := ∀ x o, H x = some o → x ≠ a → H' x = some o
theorem Fr.refl (a : Addr) (H : Hp) : Fr a H H := fun _ _ h _ => h
theorem Fr.trans {a : Addr} {H H1 H2 : Hp} (p : Fr a H H1) (q : Fr a H1 H2) : Fr a H H2 := fun x o h n => q x o (p x o h n) n
theorem Fr.upd {a : Addr} {o : HO} (H : Hp) : Fr a H (L2.upd H a o) := fun x u h n => by rw [upd_ne n]; exact h
theorem Fr.new {a p : Addr} {o : HO} {H : Hp} (h : H p = none) : Fr a H (L2.upd H p o) := fun x u e _ => by rw [upd_ne (ne_of_none e h)]; exact e
theorem Fr.same {a : Addr} {H H' : Hp} (h : Same H H') : Fr a H H' := fun x o e _ => h x o e
theorem ofb {b : Bool} (h : ¬ b = true) : b = false := by cases b with | true => exact absurd rfl h | false => rfl
theorem at_ok {α : Type} {xs : List α} {p : Int} (h0 : 0 ≤ p) (h1 : p < (xs.length : Int)) : ∃ z, atI xs p = some z ∧ z ∈ xs := by
  obtain ⟨j, rfl⟩ : ∃ j : Nat, p = (j : Int) := ⟨p.toNat, by omega⟩
  have hj : j < xs.length := by omega
  exact ⟨xs[j], atI_nat (List.getElem?_eq_getElem hj), List.getElem_mem hj⟩
theorem at_map {α β : Type} {f : α → β} {xs : List α} {p : Int} (h0 : 0 ≤ p) (h1 : p < (xs.length : Int)) : ∃ z, z ∈ xs ∧ atI (xs.map f) p = some (f z) := by
  obtain ⟨z, hz, hm⟩ := at_ok (xs := xs.map f) h0 (by rw [List.length_map]; exact h1)
  obtain ⟨y, hy, rfl⟩ := List.mem_map.mp hm
  exact ⟨y, hy, hz⟩
/-! ### one step of a reading -/
section
variable {σ : L2.St} {H : Hp} {Q : VK} {D : Ends} {K : PySem.W.Frag}
theorem w_var {i : Nat} {v : V} (h : σ[i]? = some (some v)) (q : Q v H) : tVar i σ H Q := ⟨v, h, q⟩
theorem w_c {v : V} (q : Q v H) : tC v σ H Q := q
theorem w_op {r : R2} {ta tb : TE} (q : ta σ H fun x H1 => tb σ H1 fun y H2 => r x y H2 Q) : tOp r ta tb σ H Q := q
theorem w_un {r : V → Hp → VK → Prop} {ta : TE} (q : ta σ H fun x H1 => r x H1 Q) : tUn r ta σ H Q := q
theorem w_cb {r : List V → Hp → VK → Prop} {t : TA} (q : t σ H fun vs H1 => r vs H1 Q) : tCB r t σ H Q := q
theorem w_cons {ta : TE} {tr : TA} {R : List V → Hp → Prop} (q : ta σ H fun x H1 => tr σ H1 fun xs H2 => R (x :: xs) H2) : tCons ta tr σ H R := q
theorem w_nil {R : List V → Hp → Prop} (q : R [] H) : tNil σ H R := q
theorem w_seq {t u : TS} (q : t { D with nx := u D } σ H) : tSeq t u D σ H := q
theorem w_next (q : D.nx σ H) : tNext D σ H := q
theorem w_asg {te : TE} {g : TG} (q : te σ H fun x H1 => g x σ H1 D.nx) : tAsg te g D σ H := q
theorem w_gname {i : Nat} {v : V} {R : L2.St → Hp → Prop} (q : R (σ.set i (some v)) H) : gName i v σ H R := q
theorem w_gsub {to ti : TE} {t : TSet} {v : V} {R : L2.St → Hp → Prop} (q : to σ H fun o H1 => ti σ H1 fun i H2 => t o i v H2 fun H3 => R σ H3) : gSub to ti t v σ H R := q
theorem w_drop {te : TE} (q : te σ H fun _ H1 => D.nx σ H1) : tDrop te D σ H := q
theorem w_ret {te : TE} (q : te σ H D.rt) : tRet te D σ H := q
theorem w_retN (q : D.rt .non H) : tRetN D σ H := q
theorem w_ifs {c : TT} {t u : TS} (q : c σ H fun b H1 => if b = true then t D σ H1 else u D σ H1) : tIfS c t u D σ H := q
theorem w_test {te : TE} {R : Bool → Hp → Prop} (q : te σ H fun x H' => ∃ k, x = .bl k ∧ R k H') : tTest te σ H R := q
theorem w_tB {te : TE} {R : Bool → Hp → Prop} (q : te σ H fun x H' => ∃ k, x = .bl k ∧ R k H') : tB te σ H R := q
theorem w_and {t u : TT} {R : Bool → Hp → Prop} (q : t σ H fun c H1 => if c = true then u σ H1 R else R false H1) : tAnd t u σ H R := q
theorem w_or {t u : TT} {R : Bool → Hp → Prop} (q : t σ H fun c H1 => if c = true then R true H1 else u σ H1 R) : tOr t u σ H R := q
theorem w_not {t : TT} {R : Bool → Hp → Prop} (q : t σ H fun c H1 => R (!c) H1) : tNot t σ H R := q
theorem w_k {k : Bool} {R : Bool → Prop} (q : R k) : ∃ k', V.bl k = .bl k' ∧ R k' := ⟨k, rfl, q⟩
theorem w_I0 {g : Int → Int → V} {i j : Int} (q : Q (g i j) H) : rI0 g (.int i) (.int j) H Q := ⟨i, j, rfl, rfl, q⟩
theorem w_I {C : Int → Int → Prop} {g : Int → Int → V} {i j : Int} (c : C i j) (q : Q (g i j) H) : rI C g (.int i) (.int j) H Q := ⟨i, j, rfl, rfl, c, q⟩
theorem w_U {g : Int → V} {i : Int} (q : Q (g i) H) : rU g (.int i) H Q := ⟨i, rfl, q⟩
theorem w_eqI {i j : Int} (q : Q (.bl (decide (i = j))) H) : rEq (.int i) (.int j) H Q := ⟨rfl, by
  rw [show decide (V.int i = V.int j) = decide (i = j) from decide_eq_decide.mpr ⟨fun e => V.int.inj e, fun e => e ▸ rfl⟩]
  exact q⟩
theorem w_neI {i j : Int} (q : Q (.bl (!decide (i = j))) H) : rNe (.int i) (.int j) H Q := ⟨rfl, by
  rw [show decide (V.int i = V.int j) = decide (i = j) from decide_eq_decide.mpr ⟨fun e => V.int.inj e, fun e => e ▸ rfl⟩]
  exact q⟩
theorem w_eqS {i j : Str} (q : Q (.bl (decide (i = j))) H) : rEq (.str i) (.str j) H Q := ⟨rfl, by
  rw [show decide (V.str i = V.str j) = decide (i = j) from decide_eq_decide.mpr ⟨fun e => V.str.inj e, fun e => e ▸ rfl⟩]
  exact q⟩
theorem w_neS {i j : Str} (q : Q (.bl (!decide (i = j))) H) : rNe (.str i) (.str j) H Q := ⟨rfl, by
  rw [show decide (V.str i = V.str j) = decide (i = j) from decide_eq_decide.mpr ⟨fun e => V.str.inj e, fun e => e ▸ rfl⟩]
  exact q⟩
theorem w_ixL {p : Addr} {xs : List V} {i : Int} {v : V} (h : SqL K H p xs) (e : atI xs i = some v) (q : Q v H) : rIxL K (.ref p) (.int i) H Q := ⟨p, xs, i, v, rfl, rfl, h, e, q⟩
theorem w_ixT {p : Addr} {xs : List V} {i : Int} {v : V} (h : SqT K H p xs) (e : atI xs i = some v) (q : Q v H) : rIxT K (.ref p) (.int i) H Q := ⟨p, xs, i, v, rfl, rfl, h, e, q⟩
theorem w_setL {p : Addr} {xs : List V} {k : Int} {j : Nat} {v : V} {R : Hp → Prop} (h : H p = some (.lst xs)) (e : ixN xs.length k = some j) (q : R (upd H p (.lst (xs.set j v)))) : rSetL (.ref p) (.int k) v H R := ⟨p, xs, k, j, rfl, rfl, h, e, q⟩
theorem w_call {sp : Sp} {dvs : List V} {E : XK} {t : TA} (q : t σ H fun vs H1 => sp (vs ++ dvs) H1 Q E) : tCall sp dvs E t σ H Q := q
theorem w_tup {t : TA} (q : t σ H fun xs H1 => xs.length ≤ sizeLine ∧ ∀ p, H1 p = none → Q (.ref p) (upd H1 p (.tup xs))) : tTup t σ H Q := q
theorem w_lst {t : TA} (q : t σ H fun xs H1 => xs.length ≤ sizeLine ∧ ∀ p, H1 p = none → Q (.ref p) (upd H1 p (.lst xs))) : tLst t σ H Q := q
theorem w_int {i : Int} {C : Prop} {R : Int → Prop} (q : R i) : (∃ j, [V.int i] = [.int j] ∧ R j) ∨ C := .inl ⟨i, rfl, q⟩
theorem w_bm {T : String} {r : V → List V → Hp → VK → Prop} {to : TE} {t : TA} (q : to σ H fun x H1 => tyV K T x H1 ∧ t σ H1 fun xs H2 => r x xs H2 Q) : tBM K T r to t σ H Q := q
theorem w_bm0 {T : String} {r : V → List V → Hp → VK → Prop} {to : TE} (q : to σ H fun x H1 => tyV K T x H1 ∧ r x [] H1 Q) : tBM0 K T r to σ H Q := q
theorem w_append {l : Addr} {xs : List V} {y : V} (h : H l = some (.lst xs)) (n : xs.length < sizeLine) (q : Q .non (upd H l (.lst (xs ++ [y])))) : rAppend (.ref l) [y] H Q := ⟨l, xs, y, rfl, rfl, h, n, q⟩
theorem ty_l {l : Addr} {xs : List V} (h : H l = some (.lst xs)) : tyV K "list" (.ref l) H := Or.inl ⟨rfl, _, Or.inl (Or.inl h)⟩
theorem w_tyl {l : Addr} {xs : List V} {C : Prop} (h : H l = some (.lst xs)) (q : C) : tyV K "list" (.ref l) H ∧ C := ⟨ty_l h, q⟩
theorem w_sl {r : V → Option Int → Option Int → Hp → VK → Prop} {te : TE} {tl th : TO} (q : te σ H fun x H1 => tl σ H1 fun l H2 => th σ H2 fun u H3 => r x l u H3 Q) : tSl r te tl th σ H Q := q
theorem w_no {R : Option Int → Hp → Prop} (q : R none H) : tNoPart σ H R := q
theorem w_part {t : TE} {R : Option Int → Hp → Prop} (q : t σ H fun x H1 => ∃ i, x = .int i ∧ R (some i) H1) : tPart t σ H R := q
theorem w_pi {i : Int} {R : Int → Prop} (q : R i) : ∃ j, V.int i = .int j ∧ R j := ⟨i, rfl, q⟩
theorem w_slS {z : Str} {lo hi : Option Int} (n : z.length ≤ sizeLine) (q : Q (.str (cutS z lo hi)) H) : rSlS (.str z) lo hi H Q := ⟨z, rfl, n, q⟩
theorem w_m1 {r : V → List V → Hp → VK → Prop} {to te : TE} (q : to σ H fun x H1 => (∃ a, x = .str a) ∧ te σ H1 fun y H2 => r x [y] H2 Q) : tM1 r to te σ H Q := q
theorem w_s {z : Str} {C : Prop} (q : C) : (∃ a, V.str z = .str a) ∧ C := ⟨⟨z, rfl⟩, q⟩
theorem w_len {p : Addr} {ys : List V} {R : List V → Prop} (h : SqL K H p ys) (q : R ys) : ∃ p' ys', [V.ref p] = [V.ref p'] ∧ (SqL K H p' ys' ∨ SqT K H p' ys') ∧ R ys' := ⟨p, ys, rfl, .inl h, q⟩
theorem w_lenT {p : Addr} {ys : List V} {R : List V → Prop} (h : SqT K H p ys) (q : R ys) : ∃ p' ys', [V.ref p] = [V.ref p'] ∧ (SqL K H p' ys' ∨ SqT K H p' ys') ∧ R ys' := ⟨p, ys, rfl, .inr h, q⟩
theorem w_lenS {z : Str} {R : Str → Prop} (n : z.length ≤ sizeLine) (q : R z) : ∃ z', [V.str z] = [V.str z'] ∧ z'.length ≤ sizeLine ∧ R z' := ⟨z, rfl, n, q⟩
theorem w_one {i : Int} {R : Int → Prop} (q : R i) : ∃ j, [V.int i] = [V.int j] ∧ R j := ⟨i, rfl, q⟩
theorem w_two {i j : Int} {R : Int → Int → Prop} (q : R i j) : ∃ i' j', [V.int i, V.int j] = [V.int i', V.int j'] ∧ R i' j' := ⟨i, j, rfl, q⟩
theorem w_for {wi : TI} {g : TG} {tb : TS} (q : wi σ H fun J H1 => ∃ W : Nat → Nat → L2.St → Hp → Prop, (∃ m, W 0 m σ H1) ∧ ∀ i m σ H, W i m σ H → (J.stop i H ∧ D.nx σ H) ∨ (J.go i H ∧ ∃ N : L2.St → Hp → Prop, (∀ σ' H', N σ' H' → ∃ m', m' < m ∧ W (i + 1) m' σ' H') ∧ ∀ x H', J.yld i H x H' → g x σ H' fun σ2 H2 => tb { D with nx := N, ct := N, bk := D.nx } σ2 H2)) : tFor wi g tb D σ H := q
theorem w_iList {tl : TE} {R : It → Hp → Prop} (q : tl σ H fun x H1 => ∃ a, x = .ref a ∧ (∃ xs, SqL K H1 a xs) ∧ R (Itl K a) H1) : iList K tl σ H R := q
theorem w_iTup {tl : TE} {R : It → Hp → Prop} (q : tl σ H fun x H1 => ∃ a, x = .ref a ∧ (∃ xs, SqT K H1 a xs) ∧ R (Itt K a) H1) : iTup K tl σ H R := q
theorem w_itl {a : Addr} {xs : List V} {R : Addr → Prop} (h : SqL K H a xs) (q : R a) : ∃ a', V.ref a = .ref a' ∧ (∃ xs, SqL K H a' xs) ∧ R a' := ⟨a, rfl, ⟨xs, h⟩, q⟩
theorem w_itt {a : Addr} {xs : List V} {R : Addr → Prop} (h : SqT K H a xs) (q : R a) : ∃ a', V.ref a = .ref a' ∧ (∃ xs, SqT K H a' xs) ∧ R a' := ⟨a, rfl, ⟨xs, h⟩, q⟩
theorem w_iRng1 {ta : TA} {R : It → Hp → Prop} (q : ta σ H fun vs H1 => ∃ j : Int, vs = [.int j] ∧ -(2 ^ 62) ≤ j ∧ j < 2 ^ 62 ∧ R (Itr 0 j.toNat) H1) : iRng1 ta σ H R := q
theorem w_rng {j : Int} {R : Int → Prop} (h1 : -(2 ^ 62) ≤ j) (h2 : j < 2 ^ 62) (q : R j) : ∃ j' : Int, [V.int j] = [.int j'] ∧ -(2 ^ 62) ≤ j' ∧ j' < 2 ^ 62 ∧ R j' := ⟨j, rfl, h1, h2, q⟩
theorem w_lc {wi : TI} {g : TG} {tt : TT} {te : TE} {vs : List Nat} (q : wi σ H fun J H1 => ∀ D, H1 D = none → ∃ W : Nat → Nat → Hp → Prop, (∃ m, W 0 m (upd H1 D (.lst []))) ∧ ∀ i m H, W i m H →
      (J.stop i H ∧ Q (.ref D) H) ∨ (J.go i H ∧ ∃ Nx : Hp → Prop, (∀ H', Nx H' → ∃ m', m' < m ∧ W (i + 1) m' H') ∧ ∀ x H', J.yld i H x H' → g x (wipe σ vs) H' fun σ2 H2 => wipe σ2 vs = wipe σ vs ∧ tt σ2 H2 fun b H3 =>
        if b = true then te σ2 H3 fun y H4 => ∃ acc, H4 D = some (.lst acc) ∧ acc.length < sizeLine ∧ Nx (upd H4 D (.lst (acc ++ [y]))) else Nx H3)) : tLc wi g tt te vs σ H Q := q
theorem w_yes {R : Bool → Hp → Prop} (q : R true H) : tYes σ H R := q
theorem w_wipe {σ1 σ2 : L2.St} {C : Prop} (h : σ1 = σ2) (q : C) : σ1 = σ2 ∧ C := ⟨h, q⟩
theorem w_cmpS {i j : Str} {R : Str → Str → Prop} (q : R i j) : ∃ i' j', V.str i = .str i' ∧ V.str j = .str j' ∧ R i' j' := ⟨i, j, rfl, rfl, q⟩
theorem w_while {c : TT} {tb : TS} (W : Nat → L2.St → Hp → Prop) (m : Nat) (h0 : W m σ H) (h : ∀ m σ H, W m σ H → c σ H fun b H1 => if b = true then ∃ N : L2.St → Hp → Prop, (∀ σ' H', N σ' H' → ∃ m', m' < m ∧ W m' σ' H') ∧ tb { D with nx := N, ct := N, bk := D.nx } σ H1 else D.nx σ H1) : tWhile c tb D σ H := ⟨W, ⟨m, h0⟩, h⟩
theorem w_truL {p : Addr} {xs : List V} {R : Bool → Prop} (h : SqL K H p xs) (q : R (!xs.isEmpty)) : ∃ k, TruV K (.ref p) H k ∧ R k := ⟨_, Or.inl ⟨xs, h, rfl⟩, q⟩
theorem w_pop {l : Addr} {xs : List V} {y : V} (h : H l = some (.lst (xs ++ [y]))) (q : Q y (upd H l (.lst xs))) : rPop (.ref l) [] H Q := ⟨l, xs ++ [y], y, rfl, rfl, h, by simp, by rw [List.dropLast_concat]; exact q⟩
theorem w_revA {te : TE} {R : It → Hp → Prop} (q : te σ H fun v H1 => ∃ (a : Addr) (xs : List V), v = .ref a ∧ ((SqL K H1 a xs ∧ R (Itv K a xs.length) H1) ∨ (SqT K H1 a xs ∧ R (RT.ItvT K a xs.length) H1))) : RT.iRevA K te σ H R := q
theorem w_rvT {a : Addr} {xs : List V} {C R : Addr → List V → Prop} (h : SqT K H a xs) (q : R a xs) : ∃ (a' : Addr) (xs' : List V), V.ref a = .ref a' ∧ (C a' xs' ∨ (SqT K H a' xs' ∧ R a' xs')) := ⟨a, xs, rfl, .inr ⟨h, q⟩⟩
theorem w_rvL {a : Addr} {xs : List V} {C R : Addr → List V → Prop} (h : SqL K H a xs) (q : R a xs) : ∃ (a' : Addr) (xs' : List V), V.ref a = .ref a' ∧ ((SqL K H a' xs' ∧ R a' xs') ∨ C a' xs') := ⟨a, xs, rfl, .inl ⟨h, q⟩⟩
theorem w_isi {v : V} {d : PyData} (h : DAt H v d) (q : Q (.bl (isTup d)) H) : rIsi K [v, .ty "tuple"] H Q := by
  cases h with
  | str x => exact ⟨_, _, _, _, false, rfl, .ty _, .base (.str x), kit_ty (by decide +kernel), q⟩
  | int x => exact ⟨_, _, _, _, false, rfl, .ty _, .base (.int x), kit_ty (by decide +kernel), q⟩
  | non => exact ⟨_, _, _, _, false, rfl, .ty _, .base .non, kit_ty (by decide +kernel), q⟩
  | tup h _ => exact ⟨_, _, _, _, true, rfl, .ty _, .base (.tup h), kit_ty (by decide +kernel), q⟩
theorem call_str_any {X : Cx} : CallR X (.type "str") (fun xs H Q => (∃ i, xs = [.int i] ∧ i.natAbs.log2 < 1920 ∧ Q (.str (toString i)) H) ∨ ∃ a, xs = [.str a] ∧ Q (.str a) H) := fun pins s σ H xs us Q I r h => by
  rcases h with h | h
  · exact call_str_int pins s σ H xs us Q I r h
  · exact SkE.call_str_str pins s σ H xs us Q I r h
theorem w_strS {z : Str} {C : Prop} {R : Str → Prop} (q : R z) : C ∨ ∃ a, [V.str z] = [.str a] ∧ R a := .inr ⟨z, rfl, q⟩
theorem w_join {a : Str} {p : Addr} {ys : List Str} {R : Str → List Str → Prop} (h : SqL K H p (ys.map V.str)) (n : (ys.map (·.length)).sum + ys.length * a.length ≤ 16777216) (q : R a ys) : ∃ a' p', ∃ ys' : List Str, V.str a = .str a' ∧ [V.ref p] = [.ref p'] ∧ (SqL K H p' (ys'.map V.str) ∨ SqT K H p' (ys'.map V.str)) ∧ (ys'.map (·.length)).sum + ys'.length * a'.length ≤ 16777216 ∧ R a' ys' := ⟨a, p, ys, rfl, rfl, .inl h, n, q⟩
theorem w_dg {td ty : TE} (q : td σ H fun x H1 => ty σ H1 fun y H2 => ∃ a v, x = .ref a ∧ DGet H2 a y (some v) ∧ Q v H2) : tDGet td ty σ H Q := q
theorem w_dgS {b : Addr} {kvs : List (L2.Key × V)} {z : Str} {v : V} {R : V → Prop} (h : H b = some (.dK kvs)) (e : valV kvs (Sum.inr z) = some v) (q : R v) : ∃ a v, V.ref b = .ref a ∧ DGet H a (.str z) (some v) ∧ R v := ⟨b, v, rfl, e ▸ DGet.k (k := Sum.inr z) h, q⟩
theorem w_dp {td ty tv : TE} (q : tv σ H fun v H1 => td σ H1 fun x H2 => ty σ H2 fun y H3 => ∃ a H4, x = .ref a ∧ DPut H3 a y v H4 ∧ D.nx σ H4) : sDPut td ty tv D σ H := q
theorem w_dpS {b : Addr} {kvs : List (L2.Key × V)} {z : Str} {v : V} {R : Hp → Prop} (h : H b = some (.dK kvs)) (n : kvs.length < sizeLine) (q : R (upd H b (.dK (putK kvs (Sum.inr z) v)))) : ∃ a H4, V.ref b = .ref a ∧ DPut H a (.str z) v H4 ∧ R H4 := ⟨b, _, rfl, DPut.k (k := Sum.inr z) h n, q⟩
theorem w_it {c A B : Prop} [Decidable c] (h : c) (q : A) : if c then A else B := by rw [if_pos h]; exact q
theorem w_if {c A B : Prop} [Decidable c] (h : ¬ c) (q : B) : if c then A else B := by rw [if_neg h]; exact q
theorem w_cnt {x y : Str} {R : Str → Str → Prop} (q : R x y) : ∃ a b, V.str x = .str a ∧ [V.str y] = [.str b] ∧ R a b := ⟨x, y, rfl, rfl, q⟩
theorem w_par {i j : Nat} {ta : TA} (q : ta σ H fun vs H1 => ∃ v w, vs = [v, w] ∧ D.nx ((σ.set i (some v)).set j (some w)) H1) : tPar i j ta D σ H := q
theorem w_par2 {v w : V} {R : V → V → Prop} (q : R v w) : ∃ v' w', [v, w] = [v', w'] ∧ R v' w' := ⟨v, w, rfl, q⟩
end
theorem j2 {c : Prop} [Decidable c] {t u : TS} {D : Ends} {σ : L2.St} {H : Hp} (J : Hp → Prop) (k : ∀ H1, J H1 → D.nx σ H1) (h : (∀ H1, J H1 → D.nx σ H1) → if c then t D σ H else u D σ H) : if c then t D σ H else u D σ H := h k
theorem Nm.len {z : Str} (h : Nm z) : z.length ≤ sizeLine := Nat.le_trans h.hi (by decide)
theorem j_ifs {c : TT} {t u : TS} {D : Ends} {σ : L2.St} {H : Hp} (k : D.nx σ H) (h : D.nx σ H → c σ H fun b H1 => if b = true then t D σ H1 else u D σ H1) : tIfS c t u D σ H := h k
theorem j_sig {c : Prop} [Decidable c] {t u : TS} {D : Ends} {σ : L2.St} {H : Hp} (J : L2.St → Prop) (k : ∀ σ', J σ' → D.nx σ' H) (h : (∀ σ', J σ' → D.nx σ' H) → if c then t D σ H else u D σ H) : if c then t D σ H else u D σ H := h k
theorem add_ok {m n : Nat} (h : m + n ≤ 1000000) : m + n ≤ sizeLine := Nat.le_trans h (by decide)
theorem len_app (a b : Str) : (a ++ b).length = a.length + b.length := by rw [cd_len, cd_len, cd_len, cd_app, List.length_append]
theorem len_one (x : Nat) : (⟨#[x]⟩ : Str).length = 1 := rfl
theorem max1 {n : Int} (h : 1 ≤ n) : (if n > 1 then n else 1) = n := by
  by_cases g : n > 1
  · rw [if_pos g]
  · rw [if_neg g]
    omega
local macro_rules | `(tactic| walk_at "ne") => `(tactic| first | assumption | exact Ne.symm (by assumption) | exact ne_of_none (by assumption) (by assumption) | exact Ne.symm (ne_of_none (by assumption) (by assumption)))
local macro_rules | `(tactic| walk_at "hp") => `(tactic| first | assumption | exact upd_same | (rw [upd_ne (by walk_at "ne")]; walk_at "hp"))
local macro_rules | `(tactic| walk_at "sl") => `(tactic| first | assumption | exact SqL.of (by walk_at "hp"))
local macro_rules | `(tactic| walk_at "st") => `(tactic| first | assumption | exact SqT.of (by walk_at "hp"))
local macro_rules | `(tactic| walk_at "c") => `(tactic| first | assumption | decide | exact ⟨by omega, by omega⟩ | (show (0 : Int) < _; omega) | exact Or.inl ⟨by omega, by omega⟩ | exact Or.inr ⟨by omega, by omega⟩)
local macro_rules | `(tactic| walk_at "len") => `(tactic| (simp only [List.length_cons, List.length_nil]; decide))
local macro_rules | `(tactic| walk_at "z") => `(tactic| first | assumption | exact Nm.len (by assumption))
local macro_rules | `(tactic| walk_at "s0") => `(tactic| with_reducible first
  | (apply w_var; case h => with_unfolding_all rfl) | apply w_c | apply w_op | apply w_seq | apply w_asg | apply w_gname | apply w_cb | apply w_cons | apply w_nil | apply w_next
  | apply w_gsub | apply w_drop | apply w_ret | apply w_retN | apply w_test | apply w_tB | apply w_and | apply w_or | apply w_not | apply w_un | apply w_call | apply w_tup | apply w_lst
  | apply w_bm | apply w_bm0 | apply w_sl | apply w_no | apply w_part | apply w_m1 | apply w_dg | apply w_dp | apply w_for | apply w_iList | apply w_iTup | apply w_iRng1 | apply w_lc | apply w_yes | apply w_revA | apply w_par
  | apply w_I0 | apply w_U | apply w_eqI | apply w_neI | apply w_eqS | apply w_neS | apply w_k | apply w_pi | apply w_s | apply w_int
  | (apply w_ixL; (case h => with_unfolding_all walk_at "sl"); (case e => with_unfolding_all rfl)) | (apply w_ixT; (case h => with_unfolding_all walk_at "st"); (case e => with_unfolding_all rfl))
  | (apply w_setL; (case h => with_unfolding_all walk_at "hp"); (case e => with_unfolding_all rfl))
  | (apply w_tyl; (case h => with_unfolding_all walk_at "hp")) | (apply w_len; (case h => with_unfolding_all walk_at "sl")) | (apply w_lenT; (case h => with_unfolding_all walk_at "st"))
  | (apply w_rng; (case h1 => with_unfolding_all omega); (case h2 => with_unfolding_all omega)) | apply w_one | apply w_two
  | (apply w_I; (case c => with_unfolding_all walk_at "c"))
  | (apply w_itl; (case h => with_unfolding_all walk_at "sl")) | (apply w_itt; (case h => with_unfolding_all walk_at "st"))
  | (apply w_wipe; (case h => with_unfolding_all rfl)) | apply iteT | apply iteF | apply w_cmpS | apply w_cnt | apply w_par2
  | (apply w_slS; (case n => with_unfolding_all walk_at "z")) | (apply w_truL; (case h => with_unfolding_all walk_at "sl")) | (apply w_pop; (case h => with_unfolding_all walk_at "hp"))
  | (apply w_rvT; (case h => with_unfolding_all walk_at "st")) | (apply w_rvL; (case h => with_unfolding_all walk_at "sl")) | (apply w_isi; (case h => with_unfolding_all assumption)) | (apply w_lenS; (case n => with_unfolding_all walk_at "z")))
local macro_rules | `(tactic| walk_at "s") => `(tactic| first | walk_at "s0" | with_reducible apply w_ifs)
local macro_rules | `(tactic| walk_at "dc") => `(tactic| first | refine w_it (by decide +kernel) ?_ | refine w_if (by decide +kernel) ?_)
local macro_rules | `(tactic| walk_at "sa") => `(tactic| first | walk_at "s" | refine ⟨add_ok (by (try simp only [len_appS]); omega), ?_⟩ | walk_at "dc")
/-! ### the draws -/
structure Flow (H : Hp) (a c : Addr) : Prop where
  ca : c ≠ a
  hc : ∃ ns : List Int, H c = some (.lst (ns.map V.int)) ∧ ns.length ≤ 63
  ha : ∃ (p l b m o : Int), H a = some (.lst [.ref c, .int p, .int l, .int b, .int m, .int o]) ∧ 0 ≤ p ∧ 0 ≤ l ∧ 0 ≤ m ∧ m < 2147483647 ∧ (o = 0 ∨ o = 1) ∧ (o = 1 → l < 2147483647)
theorem Flow.put {H : Hp} {a c D : Addr} {o : HO} (h : Flow H a c) (n1 : D ≠ a) (n2 : D ≠ c) : Flow (L2.upd H D o) a c := by
  obtain ⟨ca, ⟨ns, hc, hl⟩, ⟨p, l, b, m, o', ha, r⟩⟩ := h
  exact ⟨ca, ⟨ns, by rw [upd_ne n2.symm]; exact hc, hl⟩, ⟨p, l, b, m, o', by rw [upd_ne n1.symm]; exact ha, r⟩⟩
theorem Flow.same {H H' : Hp} {a c : Addr} (h : Flow H a c) (f : Same H H') : Flow H' a c := by
  obtain ⟨ca, ⟨ns, hc, hl⟩, ⟨p, l, b, m, o', ha, r⟩⟩ := h
  exact ⟨ca, ⟨ns, f _ _ hc, hl⟩, ⟨p, l, b, m, o', f _ _ ha, r⟩⟩
theorem Flow.na {H : Hp} {a c D : Addr} (h : Flow H a c) (n : H D = none) : D ≠ a := by
  obtain ⟨p, l, b, m, o', ha, r⟩ := h.ha
  exact (ne_of_none ha n).symm
theorem Flow.nc {H : Hp} {a c D : Addr} (h : Flow H a c) (n : H D = none) : D ≠ c := by
  obtain ⟨ns, hc, _⟩ := h.hc
  exact (ne_of_none hc n).symm
theorem Flow.new {H : Hp} {a c D : Addr} {o : HO} (h : Flow H a c) (n : H D = none) : Flow (L2.upd H D o) a c := h.put (h.na n) (h.nc n)
/-- what a stretch of draws leaves: all but the flow as it was, the flow good -/
structure Go (a c : Addr) (H H' : Hp) : Prop where
  fr : Fr a H H'
  fl : Flow H' a c
theorem Go.trans {a c : Addr} {H H1 H2 : Hp} (p : Go a c H H1) (q : Go a c H1 H2) : Go a c H H2 := ⟨p.fr.trans q.fr, q.fl⟩
theorem Go.refl {a c : Addr} {H : Hp} (h : Flow H a c) : Go a c H H := ⟨Fr.refl _ _, h⟩
theorem Go.new {a c p : Addr} {H H1 : Hp} {o : HO} (g : Go a c H H1) (n : H1 p = none) : Go a c H (L2.upd H1 p o) := ⟨g.fr.trans (Fr.new n), g.fl.new n⟩
theorem Go.same {a c : Addr} {H H1 H2 : Hp} (g : Go a c H H1) (s : Same H1 H2) : Go a c H H2 := ⟨g.fr.trans (Fr.same s), g.fl.same s⟩
theorem Fr.un {a p : Addr} {H H1 : Hp} (f : Fr a H H1) (na : p ≠ a) (n : H1 p = none) : H p = none := by
  cases e : H p with
  | none => rfl
  | some o => rw [f p o e na] at n; cases n
theorem Go.un {a c p : Addr} {H H1 : Hp} (g : Go a c H H1) (n : H1 p = none) : H p = none := g.fr.un (g.fl.na n) n
/-- an object that H does not know changes -/
theorem Go.mut {a c p : Addr} {H H1 : Hp} {o : HO} (g : Go a c H H1) (n : H p = none) (na : p ≠ a) (nc : p ≠ c) : Go a c H (L2.upd H1 p o) := ⟨fun x u e h => by
  rw [upd_ne (ne_of_none e n)]
  exact g.fr x u e h, g.fl.put na nc⟩
theorem Go.at {a c p : Addr} {H H1 : Hp} {o : HO} (g : Go a c H H1) (h : H p = some o) (na : p ≠ a) : H1 p = some o := g.fr p o h na
def sp_load : Sp := fun vs H Q _ => ∃ a c : Addr, vs = [.ref a] ∧ Flow H a c ∧ ∀ H', Go a c H H' → Q .non H'
def sp_draw : Sp := fun vs H Q _ => ∃ (a c : Addr) (n : Int), vs = [.ref a, .int n] ∧ Flow H a c ∧ 1 ≤ n ∧ n < 1073741824 ∧ ∀ (d : Int) (H' : Hp), 0 ≤ d → d < n → Go a c H H' → Q (.int d) H'
section
variable {P : Program} {w : World} {K : PySem.W.Frag} {mg : Str → Option Value} {base : Heap}
theorem ok_law_load (T : Top K mg) : FnOk P w K mg base CX0 1 T.f_law_load T.d_law_load ["flow"] sp_load := by
  refine T.F_law_load.ok sc_law_load (fun vs H Q E h => ?_) (fun cdv A outer s H vs Q E hr h => ?_)
  · obtain ⟨a, c, rfl, _⟩ := h
    rfl
  · obtain ⟨a, c, rfl, ⟨hca, ⟨ns, hc, hlen⟩, ⟨p, l, b, m, o, ha, hp, hl, hm, hm2, ho, ho2⟩⟩, q⟩ := h
    refine ⟨_, (pss_cons (ps_if (pt_cmpR op_ge (pe_ix ix_list (pv 0) pe_int (fun _ _ => rfl)) (pe_callB call_len_seq (by rfl) T.z_len (by decide +kernel) (pa_cons (pe_ix ix_list (pv 0) pe_int (fun _ _ => rfl)) pa_nil)) (nomark _))
    (pss_cons (ps_asg pe_int (pg_sub (pv 0) pe_int set_list))
     (pss_cons (ps_asg pe_int (pg_sub (pv 0) pe_int set_list))
      (pss_cons (ps_asg pe_int (pg_sub (pv 0) pe_int set_list))
       (pss_one ps_retN))))
    pss_nil)
    (pss_cons (ps_set (i := 1) sc_law_load.nd rfl (Or.inl rfl) (pe_callTy call_int1 (by rfl) T.z_int (by decide +kernel) (pa_cons (pe_ix ix_list (pe_ix ix_list (pv 0) pe_int (fun _ _ => rfl)) (pe_ix ix_list (pv 0) pe_int (fun _ _ => rfl)) (fun _ _ => rfl)) pa_nil)))
     (pss_cons (ps_asg (pe_op op_add (pe_ix ix_list (pv 0) pe_int (fun _ _ => rfl)) pe_int) (pg_sub (pv 0) pe_int set_list))
      (pss_cons (ps_asg (pe_op op_fdiv (pe_callB call_abs (by rfl) T.z_abs (by decide +kernel) (pa_cons (pv 1) pa_nil)) pe_int) (pg_sub (pv 0) pe_int set_list))
       (pss_cons (ps_asg pe_int (pg_sub (pv 0) pe_int set_list))
        (pss_cons (ps_asg (pe_op op_mod (pe_callTy call_int1 (by rfl) T.z_int (by decide +kernel) (pa_cons (pv 1) pa_nil)) pe_int) (pg_sub (pv 0) pe_int set_list))
         (pss_one (ps_if (pt_cmpR op_eq (pe_ix ix_list (pv 0) pe_int (fun _ _ => rfl)) pe_int (nomark _))
          (pss_cons (ps_asg (pe_op op_mod (pe_callTy call_int1 (by rfl) T.z_int (by decide +kernel) (pa_cons (pe_ix ix_list (pv 0) pe_int (fun _ _ => rfl)) pa_nil)) pe_int) (pg_sub (pv 0) pe_int set_list))
           (pss_one (ps_asg pe_int (pg_sub (pv 0) pe_int set_list))))
          pss_nil)))))))), ?_⟩
    repeat walk_at "s"
    refine ite2 (fun h => ?_) (fun h => ?_)
    · repeat walk_at "s"
      refine q _ ⟨fun x u e n => by rw [upd_ne n, upd_ne n, upd_ne n]; exact e, ⟨hca, ⟨ns, by walk_at "hp", hlen⟩, ⟨p, 40503, 1000, m, 1, upd_same, hp, by omega, hm, hm2, .inr rfl, fun _ => by omega⟩⟩⟩
    · have hz : p < (ns.length : Int) := by
        have h' := of_decide_eq_false (ofb h)
        rw [List.length_map] at h'
        omega
      obtain ⟨z, -, hzz⟩ := at_map (f := V.int) hp hz
      repeat walk_at "s"
      refine w_ixL (by walk_at "sl") hzz ?_
      repeat walk_at "s"
      have e0 : (if z < 0 then -z else z) / 2 ≥ 0 := by
        split <;> omega
      refine ite2 (fun h => ?_) (fun h => ?_)
      · repeat walk_at "s"
        refine q _ ⟨fun x u e n => by simp only [upd_ne n]; exact e, ⟨hca, ⟨ns, by walk_at "hp", hlen⟩, ⟨p + 1, (if z < 0 then -z else z) / 2 % 2147483629, 6, m, z % 2, upd_same, by omega, by omega, hm, hm2, by omega, fun _ => by omega⟩⟩⟩
      · repeat walk_at "s"
        have h5 : ¬ z % 2 = 1 := fun e => h (decide_eq_true e)
        refine q _ ⟨fun x u e n => by simp only [upd_ne n]; exact e, ⟨hca, ⟨ns, by walk_at "hp", hlen⟩, ⟨p + 1, (if z < 0 then -z else z) / 2, 60, m, z % 2, upd_same, by omega, by omega, hm, hm2, by omega, fun e => absurd e h5⟩⟩⟩
theorem ok_law_draw (T : Top K mg) : FnOk P w K mg base CX0 2 T.f_law_draw T.d_law_draw ["flow", "many"] sp_draw := by
  refine T.F_law_draw.ok sc_law_draw (fun vs H Q E h => ?_) (fun cdv A outer s H vs Q E hr h => ?_)
  · obtain ⟨a, c, n, rfl, _⟩ := h
    rfl
  · obtain ⟨a, c, n, rfl, F, hn1, hn2, q⟩ := h
    refine ⟨_, (pss_cons (ps_if (pt_cmpR op_eq (pe_ix ix_list (pv 0) pe_int (fun _ _ => rfl)) pe_int (nomark _))
    (pss_one (ps_expr (pe_call (ok_law_load T) hr (by rfl) T.g_law_load T.F_law_load.kp T.b_law_load .nil pass0 (pa_cons (pv 0) pa_nil))))
    pss_nil)
    (pss_cons (ps_asg (pe_op op_sub (pe_ix ix_list (pv 0) pe_int (fun _ _ => rfl)) pe_int) (pg_sub (pv 0) pe_int set_list))
     (pss_cons (ps_if (pt_cmpR op_eq (pe_ix ix_list (pv 0) pe_int (fun _ _ => rfl)) pe_int (nomark _))
      (pss_cons (ps_asg (pe_op op_mod (pe_callTy call_int1 (by rfl) T.z_int (by decide +kernel) (pa_cons (pe_op op_add (pe_op op_add (pe_op op_mul (pe_ix ix_list (pv 0) pe_int (fun _ _ => rfl)) pe_int) (pe_ix ix_list (pv 0) pe_int (fun _ _ => rfl))) pe_int) pa_nil)) pe_int) (pg_sub (pv 0) pe_int set_list))
       (pss_one (ps_ret (pe_op op_mod (pe_callTy call_int1 (by rfl) T.z_int (by decide +kernel) (pa_cons (pe_op op_fdiv (pe_ix ix_list (pv 0) pe_int (fun _ _ => rfl)) pe_int) pa_nil)) (pe_callB (call_max2 rfl) (by rfl) T.z_max (by decide +kernel) (pa_cons pe_int (pa_cons (pv 1) pa_nil)))))))
      pss_nil)
      (pss_cons (ps_set (i := 2) sc_law_draw.nd rfl (Or.inl rfl) (pe_op op_mod (pe_callTy call_int1 (by rfl) T.z_int (by decide +kernel) (pa_cons (pe_ix ix_list (pv 0) pe_int (fun _ _ => rfl)) pa_nil)) (pe_callB (call_max2 rfl) (by rfl) T.z_max (by decide +kernel) (pa_cons pe_int (pa_cons (pv 1) pa_nil)))))
       (pss_cons (ps_asg (pe_op op_fdiv (pe_ix ix_list (pv 0) pe_int (fun _ _ => rfl)) (pe_callB (call_max2 rfl) (by rfl) T.z_max (by decide +kernel) (pa_cons pe_int (pa_cons (pv 1) pa_nil)))) (pg_sub (pv 0) pe_int set_list))
        (pss_cons (ps_if (pt_cmpR op_eq (pe_ix ix_list (pv 0) pe_int (fun _ _ => rfl)) pe_int (nomark _))
         (pss_one (ps_asg pe_int (pg_sub (pv 0) pe_int set_list)))
         pss_nil)
         (pss_one (ps_ret (pv 2))))))))), ?_⟩
    obtain ⟨hca, ⟨ns, hc, hlen⟩, ⟨p, l, b, m, o, ha, hp, hl, hm, hm2, ho, ho2⟩⟩ := id F
    repeat walk_at "s"
    refine j2 (J := fun H1 => Go a c H H1) ?_ (fun k => ite2 (fun h => ?_) (fun h => ?_))
    · rintro H1 ⟨f1, ⟨-, ⟨ns1, hc1, hlen1⟩, ⟨p1, l1, b1, m1, o1, ha1, hp1, hl1, hm1, hm21, ho1, ho21⟩⟩⟩
      repeat walk_at "s"
      refine ite2 (fun h => ?_) (fun h => ?_)
      · repeat walk_at "s"
        rw [max1 hn1]
        repeat walk_at "s"
        refine q _ _ (Int.emod_nonneg _ (by omega)) (Int.emod_lt_of_pos _ (by omega)) ⟨fun x u e n => by simp only [upd_ne n]; exact f1 x u e n, ⟨hca, ⟨ns1, by walk_at "hp", hlen1⟩, ⟨p1, l1, b1 - 1, (m1 * 48271 + l1 + 12345) % 2147483647, o1, upd_same, hp1, hl1, by omega, by omega, ho1, ho21⟩⟩⟩
      · repeat walk_at "s"
        rw [max1 hn1]
        repeat walk_at "s"
        have hd : 0 ≤ l1 / n := Int.ediv_nonneg hl1 (by omega)
        have h5 : ¬ o1 = 1 := fun e => h (decide_eq_true e)
        refine ite2 (fun h => ?_) (fun h => ?_)
        · repeat walk_at "s"
          refine q _ _ (Int.emod_nonneg _ (by omega)) (Int.emod_lt_of_pos _ (by omega)) ⟨fun x u e n => by simp only [upd_ne n]; exact f1 x u e n, ⟨hca, ⟨ns1, by walk_at "hp", hlen1⟩, ⟨p1, l1 / n, 0, m1, o1, upd_same, hp1, hd, hm1, hm21, ho1, fun e => absurd e h5⟩⟩⟩
        · repeat walk_at "s"
          refine q _ _ (Int.emod_nonneg _ (by omega)) (Int.emod_lt_of_pos _ (by omega)) ⟨fun x u e n => by simp only [upd_ne n]; exact f1 x u e n, ⟨hca, ⟨ns1, by walk_at "hp", hlen1⟩, ⟨p1, l1 / n, b1 - 1, m1, o1, upd_same, hp1, hd, hm1, hm21, ho1, fun e => absurd e h5⟩⟩⟩
    · repeat walk_at "s"
      exact ⟨a, c, rfl, F, k⟩
    · exact k H (Go.refl F)
end
/-! ### names -/
def sp_flow (K : PySem.W.Frag) : Sp := fun vs H Q _ => ∃ (a : Addr) (ns : List Int), vs = [.ref a] ∧ SqL K H a (ns.map V.int) ∧ ns.length ≤ 63 ∧ ∀ (f c : Addr) (H' : Hp), Same H H' → H f = none → H c = none → Flow H' f c → Q (.ref f) H'
def sp_pick : Sp := fun vs H Q _ => ∃ (a c t : Addr) (xs : List V), vs = [.ref a, .ref t] ∧ Flow H a c ∧ H t = some (.lst xs) ∧ t ≠ a ∧ 1 ≤ xs.length ∧ xs.length < 1000000 ∧ ∀ v H', v ∈ xs → Go a c H H' → Q v H'
def sp_letter : Sp := fun vs H Q _ => ∃ a c : Addr, vs = [.ref a] ∧ Flow H a c ∧ ∀ (x : Nat) H', 97 ≤ x → x ≤ 122 → Go a c H H' → Q (.str ⟨#[x]⟩) H'
def sp_name : Sp := fun vs H Q _ => ∃ a c : Addr, vs = [.ref a] ∧ Flow H a c ∧ ∀ z H', Nm z → Go a c H H' → Q (.str z) H'
def sp_near : Sp := fun vs H Q _ => ∃ (a c : Addr) (z : Str), vs = [.ref a, .str z] ∧ Flow H a c ∧ Nm z ∧ ∀ z' H', Nm z' → Go a c H H' → Q (.str z') H'
def sp_names : Sp := fun vs H Q _ => ∃ (a c : Addr) (n : Int), vs = [.ref a, .int n] ∧ Flow H a c ∧ 1 ≤ n ∧ n ≤ 1000 ∧ ∀ (l : Addr) (zs : List Str) (H' : Hp), H l = none → H' l = some (.lst (zs.map V.str)) → (zs.length : Int) = n → (∀ z ∈ zs, Nm z) → Go a c H H' → Q (.ref l) H'
theorem abc_ok : ∀ c ∈ (Str.ofString "abcdefghijklmnopqrstuvwxyz").cps.toList, 97 ≤ c ∧ c ≤ 122 := by decide +kernel
section
variable {P : Program} {w : World} {K : PySem.W.Frag} {mg : Str → Option Value} {base : Heap}
theorem ok_law_flow (T : Top K mg) : FnOk P w K mg base CX0 1 T.f_law_flow T.d_law_flow ["script"] (sp_flow K) := by
  refine T.F_law_flow.ok sc_law_flow (fun vs H Q E h => ?_) (fun cdv A outer s H vs Q E hr h => ?_)
  · obtain ⟨a, n, rfl, _⟩ := h
    rfl
  · obtain ⟨a, ns, rfl, hS, hl, q⟩ := h
    refine ⟨_, (pss_cons (ps_set (i := 1) sc_law_flow.nd rfl (Or.inl rfl) pe_int)
    (pss_cons (ps_for PassesOwn.never rfl (pi_list (pv 0)) (pg_name (i := 2) sc_law_flow.nd rfl (Or.inl rfl))
     (pss_one (ps_set (i := 1) sc_law_flow.nd rfl (Or.inl rfl) (pe_op op_mod (pe_callTy call_int1 (by rfl) T.z_int (by decide +kernel) (pa_cons (pe_op op_add (pe_op op_mul (pv 1) pe_int) (pe_callTy call_int1 (by rfl) T.z_int (by decide +kernel) (pa_cons (pv 2) pa_nil))) pa_nil)) pe_int))))
     (pss_one (ps_ret (pe_lst (pa_cons (pe_callTy call_list_of (by rfl) T.z_list (by decide +kernel) (pa_cons (pv 0) pa_nil)) (pa_cons pe_int (pa_cons pe_int (pa_cons pe_int (pa_cons (pv 1) (pa_cons pe_int pa_nil))))))))))), ?_⟩
    repeat walk_at "s"
    refine for_list (K := K) (a := a) (xs := ns.map V.int) (fun i σ H1 => ∃ (m : Int) (v : Option V), σ = [some (.ref a), some (.int m), v] ∧ 0 ≤ m ∧ m < 2147483647 ∧ H1 = H) ⟨1, none, rfl, by omega, by omega, rfl⟩ (fun i σ H1 _ ⟨_, _, _, _, _, e⟩ => e ▸ hS) ?_ ?_
    · rintro i x σ H1 hi ⟨m, v, rfl, h0, h1, rfl⟩
      obtain ⟨z, hz, rfl⟩ := List.mem_map.mp (List.mem_of_getElem? hi)
      repeat walk_at "s"
      exact ⟨_, _, rfl, Int.emod_nonneg _ (by omega), Int.emod_lt_of_pos _ (by omega), rfl⟩
    · rintro σ H1 ⟨m, v, rfl, h0, h1, rfl⟩
      repeat walk_at "s"
      intro c hc
      repeat walk_at "s"
      refine ⟨by walk_at "len", fun p hp => ?_⟩
      have s1 : Same H1 (upd H1 c (.lst (ns.map V.int))) := fun b o e => by rw [upd_ne (ne_of_none e hc)]; exact e
      have s2 : Same H1 (upd (upd H1 c (.lst (ns.map V.int))) p (.lst [.ref c, .int 0, .int 0, .int 0, .int m, .int 0])) := fun b o e => by
        rw [upd_ne (ne_of_none (s1 b o e) hp)]
        exact s1 b o e
      have hcp : c ≠ p := ne_of_none upd_same hp
      exact q p c _ s2 (Same.free s1 hp) hc ⟨hcp, ⟨ns, by rw [upd_ne hcp]; exact upd_same, hl⟩, ⟨0, 0, 0, m, 0, upd_same, by omega, by omega, h0, h1, .inl rfl, fun e => by omega⟩⟩
theorem ok_law_pick (T : Top K mg) : FnOk P w K mg base CX0 3 T.f_law_pick T.d_law_pick ["flow", "things"] sp_pick := by
  refine T.F_law_pick.ok sc_law_pick (fun vs H Q E h => ?_) (fun cdv A outer s H vs Q E hr h => ?_)
  · obtain ⟨a, c, t, xs, rfl, _⟩ := h
    rfl
  · obtain ⟨a, c, t, xs, rfl, F, ht, hta, h1, h2, q⟩ := h
    refine ⟨_, (pss_one (ps_ret (pe_ix ix_list (pv 1) (pe_call (ok_law_draw T) hr (by rfl) T.g_law_draw T.F_law_draw.kp T.b_law_draw .nil pass0 (pa_cons (pv 0) (pa_cons (pe_callB call_len_seq (by rfl) T.z_len (by decide +kernel) (pa_cons (pv 1) pa_nil)) pa_nil))) (fun _ _ => rfl)))), ?_⟩
    repeat walk_at "s"
    refine ⟨a, c, _, rfl, F, by omega, by omega, fun d H1 d0 d1 g1 => ?_⟩
    obtain ⟨z, hz, hm⟩ := at_ok (xs := xs) d0 d1
    refine w_ixL (SqL.of (g1.at ht hta)) hz ?_
    exact q z H1 hm g1
theorem ok_law_letter (T : Top K mg) : FnOk P w K mg base CX0 3 T.f_law_letter T.d_law_letter ["flow"] sp_letter := by
  refine T.F_law_letter.ok sc_law_letter (fun vs H Q E h => ?_) (fun cdv A outer s H vs Q E hr h => ?_)
  · obtain ⟨a, c, rfl, _⟩ := h
    rfl
  · obtain ⟨a, c, rfl, F, q⟩ := h
    refine ⟨_, (pss_one (ps_ret (pe_ix ix_str pe_str (pe_call (ok_law_draw T) hr (by rfl) T.g_law_draw T.F_law_draw.kp T.b_law_draw .nil pass0 (pa_cons (pv 0) (pa_cons pe_int pa_nil))) (fun _ _ => rfl)))), ?_⟩
    repeat walk_at "s"
    refine ⟨a, c, 26, rfl, F, by omega, by omega, fun d H1 d0 d1 g1 => ?_⟩
    obtain ⟨z, hz, hm⟩ := at_ok (xs := (Str.ofString "abcdefghijklmnopqrstuvwxyz").cps.toList) d0 (by rw [show (Str.ofString "abcdefghijklmnopqrstuvwxyz").cps.toList.length = 26 by decide +kernel]; exact d1)
    refine ⟨_, d, z, rfl, rfl, by decide +kernel, hz, ?_⟩
    exact q z H1 (abc_ok z hm).1 (abc_ok z hm).2 g1
theorem ok_law_name (T : Top K mg) : FnOk P w K mg base CX0 4 T.f_law_name T.d_law_name ["flow"] sp_name := by
  refine T.F_law_name.ok sc_law_name (fun vs H Q E h => ?_) (fun cdv A outer s H vs Q E hr h => ?_)
  · obtain ⟨a, c, rfl, _⟩ := h
    rfl
  · obtain ⟨a, c, rfl, F, q⟩ := h
    refine ⟨_, (pss_one (ps_ret (pe_join pe_str (pe_lc (own := [("k", 1)]) (g := gName 1) (by rfl) sc_law_name.nd (pi_range1 (by rfl) T.z_range (pa_cons (pe_op op_add pe_int (pe_call (ok_law_draw T) (hr.mono (by decide)) (by rfl) T.g_law_draw T.F_law_draw.kp T.b_law_draw .nil pass0 (pa_cons (pv 0) (pa_cons pe_int pa_nil)))) pa_nil)) (blkOk_by (own := [("k", 1)]) (N := N_law_name) (sc := defScope s_law_name) (by decide +kernel)) (fun _ _ _ _ _ => (pg_name (i := 1) sc_law_name.nd rfl (Or.inl rfl))) (fun _ _ _ _ _ => pts_nil) (fun _ _ _ _ _ => (pe_call (ok_law_letter T) hr (by rfl) T.g_law_letter T.F_law_letter.kp T.b_law_letter .nil pass0 (pa_cons (pv 0) pa_nil))))))), ?_⟩
    repeat walk_at "s"
    refine ⟨a, c, 8, rfl, F, by omega, by omega, fun d H1 d0 d1 g1 => ?_⟩
    repeat walk_at "s"
    intro D hD
    have hD0 := g1.un hD
    have na := g1.fl.na hD
    have nc := g1.fl.nc hD
    refine lc_range (lo := 0) (n := (1 + d).toNat) (fun i H2 => ∃ zs : List Nat, H2 D = some (.lst (zs.map fun x => V.str ⟨#[x]⟩)) ∧ zs.length = i ∧ (∀ x ∈ zs, 97 ≤ x ∧ x ≤ 122) ∧ Go a c H H2) ⟨[], upd_same, rfl, by simp, g1.new hD⟩ ?_ ?_
    · rintro i H2 hi ⟨zs, e, hl, hz, g2⟩
      repeat walk_at "s"
      refine ⟨a, c, rfl, g2.fl, fun x H3 hx1 hx2 g3 => ?_⟩
      refine ⟨_, g3.at e na, ?_, zs ++ [x], ?_, ?_, ?_, ((g2.trans g3).mut hD0 na nc)⟩
      · rw [List.length_map]
        exact small1000 (by omega)
      · rw [upd_same, List.map_append]
        rfl
      · rw [List.length_append, hl]
        rfl
      · intro y hy
        rcases List.mem_append.mp hy with h | h
        · exact hz y h
        · cases List.mem_singleton.mp h
          exact ⟨hx1, hx2⟩
    · rintro H2 ⟨zs, e, hl, hz, g2⟩
      have el : ∀ zs : List Nat, ((zs.map (fun x => (⟨#[x]⟩ : Str))).map (fun x => x.length)).sum = zs.length := fun zs => by
        induction zs with
        | nil => rfl
        | cons x r ih => rw [List.map_cons, List.map_cons, List.sum_cons, ih, List.length_cons, Nat.add_comm]; rfl
      have ec : ∀ zs : List Nat, (zs.map (fun x => (⟨#[x]⟩ : Str))).flatMap cd = zs := fun zs => by
        induction zs with
        | nil => rfl
        | cons x r ih => rw [List.map_cons, List.flatMap_cons, ih]; rfl
      refine ⟨_, D, zs.map (fun x => (⟨#[x]⟩ : Str)), rfl, rfl, .inl (SqL.of (by rw [e, List.map_map]; rfl)), ?_, ?_⟩
      · rw [el, show (Str.ofString "").length = 0 from rfl]
        omega
      · have ecd : cd (Txt.join "" (zs.map (fun x => (⟨#[x]⟩ : Str)))) = zs := by rw [cd_join0, ec]
        refine q _ _ ⟨?_, ?_, ?_⟩ g2
        · rw [cd_len, ecd]; omega
        · rw [cd_len, ecd]; omega
        · rw [ecd]; exact hz
theorem cd_one (x : Nat) : cd ⟨#[x]⟩ = [x] := rfl
theorem ok_law_near (T : Top K mg) : FnOk P w K mg base CX0 4 T.f_law_near T.d_law_near ["flow", "name"] sp_near := by
  refine T.F_law_near.ok sc_law_near (fun vs H Q E h => ?_) (fun cdv A outer s H vs Q E hr h => ?_)
  · obtain ⟨a, c, z, rfl, _⟩ := h
    rfl
  · obtain ⟨a, c, z, rfl, F, hz, q⟩ := h
    refine ⟨_, (pss_cons (ps_set (i := 2) sc_law_near.nd rfl (Or.inl rfl) (pe_call (ok_law_draw T) (hr.mono (by decide)) (by rfl) T.g_law_draw T.F_law_draw.kp T.b_law_draw .nil pass0 (pa_cons (pv 0) (pa_cons (pe_callB call_len_str (by rfl) T.z_len (by decide +kernel) (pa_cons (pv 1) pa_nil)) pa_nil))))
    (pss_cons (ps_set (i := 3) sc_law_near.nd rfl (Or.inl rfl) (pe_call (ok_law_draw T) (hr.mono (by decide)) (by rfl) T.g_law_draw T.F_law_draw.kp T.b_law_draw .nil pass0 (pa_cons (pv 0) (pa_cons pe_int pa_nil))))
     (pss_cons (ps_if (PW.pt (pw_and (pt_cmpR op_eq (pv 3) pe_int (nomark _)) (pw_and1 (pt_cmpR op_lt (pe_callB call_len_str (by rfl) T.z_len (by decide +kernel) (pa_cons (pv 1) pa_nil)) pe_int (nomark _)))))
      (pss_one (ps_ret (pe_op op_add_str (pe_op op_add_str (pe_slice sl_str (pv 1) po_none (po_some (pv 2))) (pe_call (ok_law_letter T) hr (by rfl) T.g_law_letter T.F_law_letter.kp T.b_law_letter .nil pass0 (pa_cons (pv 0) pa_nil))) (pe_slice sl_str (pv 1) (po_some (pv 2)) po_none))))
      pss_nil)
      (pss_cons (ps_if (PW.pt (pw_and (pt_cmpR op_eq (pv 3) pe_int (nomark _)) (pw_and1 (pt_cmpR op_gt (pe_callB call_len_str (by rfl) T.z_len (by decide +kernel) (pa_cons (pv 1) pa_nil)) pe_int (nomark _)))))
       (pss_one (ps_ret (pe_op op_add_str (pe_slice sl_str (pv 1) po_none (po_some (pv 2))) (pe_slice sl_str (pv 1) (po_some (pe_op op_add (pv 2) pe_int)) po_none))))
       pss_nil)
       (pss_one (ps_ret (pe_op op_add_str (pe_op op_add_str (pe_slice sl_str (pv 1) po_none (po_some (pv 2))) (pe_call (ok_law_letter T) hr (by rfl) T.g_law_letter T.F_law_letter.kp T.b_law_letter .nil pass0 (pa_cons (pv 0) pa_nil))) (pe_slice sl_str (pv 1) (po_some (pe_op op_add (pv 2) pe_int)) po_none)))))))), ?_⟩
    have hzl := hz.lo
    have hzh := hz.hi
    have hzn := hz.len
    have hcl := cd_len z
    repeat walk_at "s"
    refine ⟨a, c, _, rfl, F, by omega, by omega, fun d H1 d0 d1 g1 => ?_⟩
    obtain ⟨k, rfl⟩ : ∃ k : Nat, d = (k : Int) := ⟨d.toNat, by omega⟩
    repeat walk_at "s"
    refine ⟨a, c, 3, rfl, g1.fl, by omega, by omega, fun e H2 e0 e1 g2 => ?_⟩
    have hk : k < z.length := by omega
    have l1 : (cutS z none (some (k : Int))).length ≤ z.length := cutS_length _ _ _
    have l2 : (cutS z (some (k : Int)) none).length ≤ z.length := cutS_length _ _ _
    have l3 : (cutS z (some ((k : Int) + 1)) none).length ≤ z.length := cutS_length _ _ _
    have az1 : ∀ x ∈ (cd z).take k, 97 ≤ x ∧ x ≤ 122 := fun x hx => hz.az x (List.mem_of_mem_take hx)
    have az2 : ∀ j, ∀ x ∈ (cd z).drop j, 97 ≤ x ∧ x ≤ 122 := fun j x hx => hz.az x (List.mem_of_mem_drop hx)
    have e3 : ((k : Int) + 1) = ((k + 1 : Nat) : Int) := by omega
    repeat walk_at "s0"
    refine j_ifs ?_ (fun k1 => ?_)
    · repeat walk_at "s0"
      refine j_ifs ?_ (fun k2 => ?_)
      · repeat walk_at "s"
        refine ⟨a, c, rfl, g2.fl, fun x H3 x0 x1 g3 => ?_⟩
        repeat walk_at "s"
        refine ⟨?_, ?_⟩
        · exact add_ok (by have := len_one x; omega)
        repeat walk_at "s"
        refine ⟨?_, ?_⟩
        · exact add_ok (by have := len_one x; rw [len_app]; omega)
        refine q _ _ ⟨?_, ?_, ?_⟩ (g1.trans (g2.trans g3))
        all_goals rw [e3]
        · simp only [cd_len, cd_app, cd_pre, cd_suf, cd_one, List.length_append, List.length_cons, List.length_nil]; omega
        · simp only [cd_len, cd_app, cd_pre, cd_suf, cd_one, List.length_append, List.length_cons, List.length_nil, List.length_take, List.length_drop]; omega
        · simp only [cd_app, cd_pre, cd_suf, cd_one, List.mem_append, List.mem_singleton]
          rintro y ((h | rfl) | h)
          · exact az1 y h
          · exact ⟨x0, x1⟩
          · exact az2 _ y h
      · repeat walk_at "s"
        refine ite2 (fun h => ?_) (fun h => ?_)
        · repeat walk_at "s"
          refine ite2 (fun h' => ?_) (fun h' => k2)
          have h2 : 1 < z.length := by have := of_decide_eq_true h'; omega
          repeat walk_at "s"
          refine ⟨?_, ?_⟩
          · exact add_ok (by omega)
          refine q _ _ ⟨?_, ?_, ?_⟩ (g1.trans g2)
          all_goals rw [e3]
          · simp only [cd_len, cd_app, cd_pre, cd_suf, List.length_append, List.length_take, List.length_drop] at *; omega
          · simp only [cd_len, cd_app, cd_pre, cd_suf, List.length_append, List.length_take, List.length_drop] at *; omega
          · simp only [cd_app, cd_pre, cd_suf, List.mem_append]
            rintro y (h | h)
            · exact az1 y h
            · exact az2 _ y h
        · exact iteF k2
    · repeat walk_at "s"
      refine ite2 (fun h => ?_) (fun h => ?_)
      · repeat walk_at "s"
        refine ite2 (fun h' => ?_) (fun h' => k1)
        have h2 : z.length < 8 := by have := of_decide_eq_true h'; omega
        repeat walk_at "s"
        refine ⟨a, c, rfl, g2.fl, fun x H3 x0 x1 g3 => ?_⟩
        repeat walk_at "s"
        refine ⟨?_, ?_⟩
        · exact add_ok (by have := len_one x; omega)
        repeat walk_at "s"
        refine ⟨?_, ?_⟩
        · exact add_ok (by have := len_one x; rw [len_app]; omega)
        refine q _ _ ⟨?_, ?_, ?_⟩ (g1.trans (g2.trans g3))
        · simp only [cd_len, cd_app, cd_pre, cd_suf, cd_one, List.length_append, List.length_cons, List.length_nil]; omega
        · simp only [cd_len, cd_app, cd_pre, cd_suf, cd_one, List.length_append, List.length_cons, List.length_nil, List.length_take, List.length_drop] at *; omega
        · simp only [cd_app, cd_pre, cd_suf, cd_one, List.mem_append, List.mem_singleton]
          rintro y ((h | rfl) | h)
          · exact az1 y h
          · exact ⟨x0, x1⟩
          · exact az2 _ y h
      · exact iteF k1
theorem ok_law_names (T : Top K mg) : FnOk P w K mg base CX0 5 T.f_law_names T.d_law_names ["flow", "many"] sp_names := by
  refine T.F_law_names.ok sc_law_names (fun vs H Q E h => ?_) (fun cdv A outer s H vs Q E hr h => ?_)
  · obtain ⟨a, c, n, rfl, _⟩ := h
    rfl
  · obtain ⟨a, c, n, rfl, F, hn1, hn2, q⟩ := h
    refine ⟨_, (pss_cons (ps_set (i := 2) sc_law_names.nd rfl (Or.inl rfl) (pe_lst (pa_cons (pe_call (ok_law_name T) hr (by rfl) T.g_law_name T.F_law_name.kp T.b_law_name .nil pass0 (pa_cons (pv 0) pa_nil)) pa_nil)))
    (pss_cons (ps_for PassesOwn.never rfl (pi_range1 (by rfl) T.z_range (pa_cons (pe_op op_sub (pv 1) pe_int) pa_nil)) (pg_name (i := 3) sc_law_names.nd rfl (Or.inl rfl))
     (pss_one (ps_if (pt_cmpR op_eq (pe_call (ok_law_draw T) (hr.mono (by decide)) (by rfl) T.g_law_draw T.F_law_draw.kp T.b_law_draw .nil pass0 (pa_cons (pv 0) (pa_cons pe_int pa_nil))) pe_int (nomark _))
      (pss_one (ps_expr (pe_bm PySem.F.plainAttrs_list PySem.F.slot_list_append PySem.F.type_list_append mt_append (pv 2) (pa_cons (pe_call (ok_law_name T) hr (by rfl) T.g_law_name T.F_law_name.kp T.b_law_name .nil pass0 (pa_cons (pv 0) pa_nil)) pa_nil))))
      (pss_one (ps_expr (pe_bm PySem.F.plainAttrs_list PySem.F.slot_list_append PySem.F.type_list_append mt_append (pv 2) (pa_cons (pe_call (ok_law_near T) hr (by rfl) T.g_law_near T.F_law_near.kp T.b_law_near .nil pass0 (pa_cons (pv 0) (pa_cons (pe_call (ok_law_pick T) (hr.mono (by decide)) (by rfl) T.g_law_pick T.F_law_pick.kp T.b_law_pick .nil pass0 (pa_cons (pv 0) (pa_cons (pv 2) pa_nil))) pa_nil))) pa_nil)))))))
     (pss_one (ps_ret (pv 2))))), ?_⟩
    repeat walk_at "s"
    refine ⟨a, c, rfl, F, fun z H1 hz g1 => ?_⟩
    repeat walk_at "s"
    refine ⟨by walk_at "len", fun l hl => ?_⟩
    have hl0 := g1.un hl
    have na := g1.fl.na hl
    have nc := g1.fl.nc hl
    repeat walk_at "s"
    refine for_range (lo := 0) (n := (n - 1).toNat) (fun i σ H2 => ∃ (zs : List Str) (v : Option V), σ = [some (.ref a), some (.int n), some (.ref l), v] ∧ H2 l = some (.lst (zs.map V.str)) ∧ zs.length = i + 1 ∧ (∀ z ∈ zs, Nm z) ∧ Go a c H H2) ⟨[z], none, rfl, upd_same, rfl, ?_, g1.new hl⟩ ?_ ?_
    · intro y hy
      cases List.mem_singleton.mp hy
      exact hz
    · rintro i σ H2 hi ⟨zs, v, rfl, e, el, hzs, g2⟩
      have fin : ∀ (z' : Str) (H3 : Hp), Nm z' → Go a c H2 H3 → ∃ (zs' : List Str) (v : Option V), [some (V.ref a), some (V.int n), some (V.ref l), some (V.int (0 + i))] = [some (V.ref a), some (V.int n), some (V.ref l), v] ∧ upd H3 l (.lst (zs.map V.str ++ [V.str z'])) l = some (.lst (zs'.map V.str)) ∧ zs'.length = i + 1 + 1 ∧ (∀ z ∈ zs', Nm z) ∧ Go a c H (upd H3 l (.lst (zs.map V.str ++ [V.str z']))) := fun z' H3 hz' g3 => by
        refine ⟨zs ++ [z'], _, rfl, ?_, ?_, ?_, (g2.trans g3).mut hl0 na nc⟩
        · rw [upd_same, List.map_append]; rfl
        · rw [List.length_append, el]; rfl
        · intro y hy
          rcases List.mem_append.mp hy with h | h
          · exact hzs y h
          · cases List.mem_singleton.mp h
            exact hz'
      have hsz : (zs.map V.str).length < sizeLine := by rw [List.length_map]; exact small1000 (by omega)
      repeat walk_at "s"
      refine ⟨a, c, 3, rfl, g2.fl, by omega, by omega, fun d H3 d0 d1 g3 => ?_⟩
      repeat walk_at "s"
      refine ite2 (fun h => ?_) (fun h => ?_)
      · repeat walk_at "s"
        refine w_tyl (g3.at e na) ?_
        repeat walk_at "s"
        refine ⟨a, c, rfl, g3.fl, fun z' H4 hz' g4 => ?_⟩
        repeat walk_at "s"
        refine w_append ((g3.trans g4).at e na) hsz ?_
        repeat walk_at "s"
        exact fin z' H4 hz' (g3.trans g4)
      · repeat walk_at "s"
        refine w_tyl (g3.at e na) ?_
        repeat walk_at "s"
        refine ⟨a, c, l, zs.map V.str, rfl, g3.fl, g3.at e na, na, by rw [List.length_map]; omega, by rw [List.length_map]; omega, fun v' H4 hv g4 => ?_⟩
        obtain ⟨y, hy, rfl⟩ := List.mem_map.mp hv
        repeat walk_at "s"
        refine ⟨a, c, y, rfl, g4.fl, hzs y hy, fun z' H5 hz' g5 => ?_⟩
        repeat walk_at "s"
        refine w_append ((g3.trans (g4.trans g5)).at e na) hsz ?_
        repeat walk_at "s"
        exact fin z' H5 hz' (g3.trans (g4.trans g5))
    · rintro σ H2 ⟨zs, v, rfl, e, el, hzs, g2⟩
      repeat walk_at "s"
      exact q l zs H2 hl0 e (by omega) hzs g2
end
/-! ### the program's terms -/
theorem occs_len : ∀ qs : List PyData, (∀ q ∈ qs, isTup q = true) → qs.length ≤ (occs qs).length
  | [], _ => Nat.le_refl _
  | d :: r, h => by
    have h1 := occs_len r fun q hq => h q (List.mem_cons_of_mem _ hq)
    have h2 := h d (List.mem_cons_self ..)
    cases d with
    | tuple ds =>
      show r.length + 1 ≤ ((PyData.tuple ds :: occs ds) ++ occs r).length
      rw [List.length_append, List.length_cons]
      omega
    | _ => cases h2
theorem occ_not {d : PyData} (h : isTup d = false) : occ d = [] := by
  cases d with
  | tuple ds => cases h
  | _ => rfl
def sp_occ : Sp := fun vs H Q _ => ∃ (v : V) (d : PyData), vs = [v] ∧ DAt H v d ∧ isTup d = true ∧ (occ d).length ≤ 100000 ∧ ∀ (l : Addr) (us : List V) (H' : Hp), H l = none → Same H H' → H' l = some (.lst us) → DsAt H us (occ d) → Q (.ref l) H'
section
variable {P : Program} {w : World} {K : PySem.W.Frag} {mg : Str → Option Value} {base : Heap}
theorem okoccurrences (T : Top K mg) : FnOk P w K mg base CX0 1 T.foccurrences T.doccurrences ["term"] sp_occ := by
  refine T.Foccurrences.ok scoccurrences (fun vs H Q E h => ?_) (fun cdv A outer s H vs Q E hr h => ?_)
  · obtain ⟨v, d, rfl, _⟩ := h
    rfl
  · obtain ⟨v, d, rfl, hd, ht, hl, q⟩ := h
    refine ⟨_, (pss_cons (ps_set (i := 1) scoccurrences.nd rfl (Or.inl rfl) (pe_lst pa_nil))
    (pss_cons (ps_set (i := 2) scoccurrences.nd rfl (Or.inl rfl) (pe_lst (pa_cons (pv 0) pa_nil)))
     (pss_cons (ps_while PassesOwn.never (pt_truth (pv 2) (by intro _; rfl))
      (pss_cons (ps_set (i := 3) scoccurrences.nd rfl (Or.inl rfl) (pe_bm0 PySem.F.plainAttrs_list PySem.F.slot_list_pop PySem.F.type_list_pop mt_pop (pv 2)))
       (pss_cons (ps_expr (pe_bm PySem.F.plainAttrs_list PySem.F.slot_list_append PySem.F.type_list_append mt_append (pv 1) (pa_cons (pv 3) pa_nil)))
        (pss_one (ps_for PassesOwn.never rfl (RT.pi_revA (by rfl) T.z_reversed (pv 3)) (pg_name (i := 4) scoccurrences.nd rfl (Or.inl rfl))
         (pss_one (ps_if (pt_val (pe_callB call_isi (by rfl) T.z_isinstance (by decide +kernel) (pa_cons (pv 4) (pa_cons (pe_bltn (v := .ty "tuple") (by rfl) T.z_tuple (by decide +kernel) rfl) pa_nil))))
          (pss_one (ps_expr (pe_bm PySem.F.plainAttrs_list PySem.F.slot_list_append PySem.F.type_list_append mt_append (pv 2) (pa_cons (pv 4) pa_nil))))
          pss_nil)))))))
      (pss_one (ps_ret (pv 1)))))), ?_⟩
    repeat walk_at "s"
    refine ⟨by walk_at "len", fun fo hfo => ?_⟩
    repeat walk_at "s"
    refine ⟨by walk_at "len", fun pe hpe => ?_⟩
    have nfp : fo ≠ pe := ne_of_none upd_same hpe
    have s1 : Same H (upd H fo (.lst [])) := fun b o e => by rw [upd_ne (ne_of_none e hfo)]; exact e
    have hpe0 := s1.free hpe
    repeat walk_at "s"
    refine w_while (fun m σ H' => ∃ (us ps : List V) (fs qs : List PyData) (y3 y4 : Option V), σ = [some v, some (.ref fo), some (.ref pe), y3, y4] ∧ H' fo = some (.lst us) ∧ H' pe = some (.lst ps) ∧ DsAt H us fs ∧ DsAt H ps qs ∧ (∀ q ∈ qs, isTup q = true) ∧ fs ++ occs qs.reverse = occ d ∧ m = (occs qs.reverse).length ∧ Same H H') (occ d).length ?_ ?_
    · refine ⟨[], [v], [], [d], none, none, rfl, ?_, upd_same, .nil, .cons hd .nil, ?_, ?_, ?_, ?_⟩
      · rw [upd_ne nfp]; exact upd_same
      · intro q hq; cases List.mem_singleton.mp hq; exact ht
      · show [] ++ (occ d ++ []) = occ d
        rw [List.append_nil, List.nil_append]
      · show _ = (occ d ++ []).length
        rw [List.append_nil]
      · intro b o e
        rw [upd_ne (ne_of_none (s1 b o e) hpe)]
        exact s1 b o e
    · rintro m σ H1 ⟨us, ps, fs, qs, y3, y4, rfl, e1, e2, a1, a2, htq, hoc, hm, sm⟩
      repeat walk_at "s"
      rcases List.eq_nil_or_concat qs with rfl | ⟨qs', x, rfl⟩
      · cases a2
        refine iteF ?_
        repeat walk_at "s"
        have e : fs = occ d := by rw [← hoc]; show fs = fs ++ []; rw [List.append_nil]
        exact q fo us H1 hfo sm e1 (e ▸ a1)
      · rw [List.concat_eq_append] at a2 htq hoc hm
        obtain ⟨ps', xs, rfl, a3, a4⟩ := a2.split
        cases a4 with
        | cons a4 a5 =>
        cases a5
        rename_i xv
        have eb : (!(ps' ++ [xv]).isEmpty) = true := by cases ps' <;> rfl
        rw [eb]
        refine iteT ?_
        refine ⟨fun σ' H' => ∃ m', m' < m ∧ ∃ (us ps : List V) (fs qs : List PyData) (y3 y4 : Option V), σ' = [some v, some (.ref fo), some (.ref pe), y3, y4] ∧ H' fo = some (.lst us) ∧ H' pe = some (.lst ps) ∧ DsAt H us fs ∧ DsAt H ps qs ∧ (∀ q ∈ qs, isTup q = true) ∧ fs ++ occs qs.reverse = occ d ∧ m' = (occs qs.reverse).length ∧ Same H H', fun _ _ h => h, ?_⟩
        have htx : isTup x = true := htq x (by simp)
        cases a4 with
        | @tup xa xvs xds hx hxs =>
        have efs : (fs ++ [PyData.tuple xds]) ++ (occs xds ++ occs qs'.reverse) = occ d := by
          rw [← hoc, List.reverse_append, List.append_assoc]
          rfl
        have lenle : fs.length + 1 + (occs xds).length + (occs qs'.reverse).length = (occ d).length := by
          rw [← efs]
          simp only [List.length_append, List.length_cons, List.length_nil]
          omega
        have ufl := a1.length
        have nfp' : pe ≠ fo := nfp.symm
        repeat walk_at "s"
        refine w_append (by walk_at "hp") (by exact Nat.lt_of_le_of_lt (show us.length ≤ 100000 by omega) (by decide)) ?_
        repeat walk_at "s"
        have n1 : xa ≠ fo := ne_of_none hx hfo
        have n2 : xa ≠ pe := ne_of_none hx hpe0
        have hx1 := sm _ _ hx
        have sm2 : Same H (upd (upd H1 pe (HO.lst ps')) fo (HO.lst (us ++ [V.ref xa]))) := fun b o e => by
          rw [upd_ne (ne_of_none e hfo), upd_ne (ne_of_none e hpe0)]
          exact sm b o e
        refine w_rvT (xs := xvs) (SqT.of (sm2 _ _ hx)) ?_
        refine RT.for_ItvT (xs := xvs) (fun i σ H2 => ∃ (ps2 : List V) (qs2 : List PyData) (y4 : Option V), σ = [some v, some (.ref fo), some (.ref pe), some (.ref xa), y4] ∧ H2 fo = some (.lst (us ++ [.ref xa])) ∧ H2 pe = some (.lst ps2) ∧ DsAt H ps2 qs2 ∧ (∀ q ∈ qs2, isTup q = true) ∧ occs qs2.reverse = occs (xds.drop (xvs.length - i)) ++ occs qs'.reverse ∧ Same H H2) ?_ ?_ ?_ ?_
        · refine ⟨ps', qs', y4, rfl, upd_same, ?_, a3, fun q hq => htq q (by simp [hq]), ?_, sm2⟩
          · rw [upd_ne nfp']; exact upd_same
          · rw [Nat.sub_zero, hxs.length, List.drop_length]; rfl
        · rintro i σ H2 ⟨_, _, _, _, _, _, _, _, _, s2⟩
          exact SqT.of (s2 _ _ hx)
        · rintro i y σ H2 hi hy ⟨ps2, qs2, y4, rfl, f1, f2, b1, b2, b3, s2⟩
          obtain ⟨dy, hdy, hyd⟩ := hxs.get hy
          have hyd2 := hyd.mono (Tk.same s2)
          have hj : xvs.length - 1 - i = xvs.length - (i + 1) := by omega
          have hdrop : xds.drop (xvs.length - (i + 1)) = dy :: xds.drop (xvs.length - i) := by
            rw [← hj, List.drop_eq_getElem?_toList_append, hdy]
            have : xvs.length - 1 - i + 1 = xvs.length - i := by omega
            rw [this]
            rfl
          repeat walk_at "s"
          cases hty : isTup dy with
          | true =>
            have hlen2 : ps2.length < sizeLine := by
              have h1 := occs_len qs2.reverse (fun q hq => b2 q (List.mem_reverse.mp hq))
              have h2 := b1.length
              have h3 : (occs (xds.drop (xvs.length - i))).length ≤ (occs xds).length := by
                have e := occs_app (xds.take (xvs.length - i)) (xds.drop (xvs.length - i))
                rw [List.take_append_drop] at e
                rw [e, List.length_append]
                omega
              rw [b3, List.length_append, List.length_reverse] at h1
              exact Nat.lt_of_le_of_lt (show ps2.length ≤ 100000 by omega) (by decide)
            refine iteT ?_
            repeat walk_at "s"
            refine w_append f2 hlen2 ?_
            repeat walk_at "s"
            refine ⟨ps2 ++ [y], qs2 ++ [dy], _, rfl, ?_, upd_same, b1.app (.cons hyd .nil), ?_, ?_, fun b o e => ?_⟩
            · rw [upd_ne nfp]; exact f1
            · intro q hq
              rcases List.mem_append.mp hq with h | h
              · exact b2 q h
              · cases List.mem_singleton.mp h; exact hty
            · rw [hdrop, List.reverse_append]
              show occ dy ++ occs qs2.reverse = (occ dy ++ occs (xds.drop (xvs.length - i))) ++ occs qs'.reverse
              rw [b3, List.append_assoc]
            · rw [upd_ne (ne_of_none e hpe0)]
              exact s2 b o e
          | false =>
            refine iteF ?_
            refine ⟨ps2, qs2, _, rfl, f1, f2, b1, b2, ?_, s2⟩
            rw [b3, hdrop]
            show _ = (occ dy ++ _) ++ _
            rw [occ_not hty]
            rfl
        · rintro σ H2 ⟨ps2, qs2, y4, rfl, f1, f2, b1, b2, b3, s2⟩
          rw [Nat.sub_self, List.drop_zero] at b3
          have hz : (occs qs2.reverse).length < m := by
            rw [hm, b3, List.reverse_append]
            show _ < ((PyData.tuple xds :: occs xds) ++ occs qs'.reverse).length
            simp only [List.length_append, List.length_cons]
            omega
          refine ⟨_, hz, us ++ [.ref xa], ps2, fs ++ [.tuple xds], qs2, _, y4, rfl, f1, f2, a1.app (.cons (.tup hx hxs) .nil), b1, b2, ?_, rfl, s2⟩
          rw [b3]
          exact efs
        | _ => cases htx
end
theorem tws_cons (d : PyData) (r : List PyData) : tws (d :: r) = (if isTup d = true then [wr d] else []) ++ tws r := by cases d <;> rfl
theorem tws_drop {ds : List PyData} {i : Nat} {d : PyData} (h : ds[i]? = some d) : tws (ds.drop i) = (if isTup d = true then [wr d] else []) ++ tws (ds.drop (i + 1)) := by
  have e : ds.drop i = d :: ds.drop (i + 1) := by rw [List.drop_eq_getElem?_toList_append, h]; rfl
  rw [e, tws_cons]
def sp_written : Sp := fun vs H Q _ => ∃ (t l : Addr) (us : List V) (ds : List PyData) (I : List Str), vs = [.ref t, .ref l] ∧ H t = some (.tup us) ∧ DsAt H us ds ∧ (∀ d ∈ ds, Fine d) ∧ ds.length ≤ 1000 ∧ (wr (.tuple ds)).length ≤ 1000000 ∧ H l = some (.lst ((I ++ (tws ds).reverse).map V.str)) ∧ ∀ H', Fr l H H' → H' l = some (.lst (I.map V.str)) → Q (.str (wr (.tuple ds))) H'
section
variable {P : Program} {w : World} {K : PySem.W.Frag} {mg : Str → Option Value} {base : Heap}
theorem ok_written (T : Top K mg) : FnOk P w K mg base CX0 1 T.f_written T.d_written ["node", "inner"] sp_written := by
  refine T.F_written.ok sc_written (fun vs H Q E h => ?_) (fun cdv A outer s H vs Q E hr h => ?_)
  · obtain ⟨t, l, us, ds, I, rfl, _⟩ := h
    rfl
  · obtain ⟨t, l, us, ds, I, rfl, ht, hds, hfi, hlen, hsz, hl, q⟩ := h
    refine ⟨_, (pss_cons (ps_set (i := 2) sc_written.nd rfl (Or.inl rfl) (pe_lst pa_nil))
    (pss_cons (ps_for PassesOwn.never rfl (pi_tup (pv 0)) (pg_name (i := 3) sc_written.nd rfl (Or.inl rfl))
     (pss_one (ps_if (pt_val (pe_callB call_isi (by rfl) T.z_isinstance (by decide +kernel) (pa_cons (pv 3) (pa_cons (pe_bltn (v := .ty "tuple") (by rfl) T.z_tuple (by decide +kernel) rfl) pa_nil))))
      (pss_one (ps_expr (pe_bm PySem.F.plainAttrs_list PySem.F.slot_list_append PySem.F.type_list_append mt_append (pv 2) (pa_cons (pe_bm0 PySem.F.plainAttrs_list PySem.F.slot_list_pop PySem.F.type_list_pop mt_pop (pv 1)) pa_nil))))
      (pss_one (ps_expr (pe_bm PySem.F.plainAttrs_list PySem.F.slot_list_append PySem.F.type_list_append mt_append (pv 2) (pa_cons (pe_callTy call_str_any (by rfl) T.z_str (by decide +kernel) (pa_cons (pv 3) pa_nil)) pa_nil)))))))
     (pss_one (ps_ret (pe_op op_add_str (pe_op op_add_str pe_str (pe_join pe_str (pv 2))) pe_str))))), ?_⟩
    repeat walk_at "s"
    refine ⟨by walk_at "len", fun wo hwo => ?_⟩
    have nlw : l ≠ wo := ne_of_none hl hwo
    have ntl : t ≠ l := ne_of ht hl (by intro z; cases z)
    have ntw : t ≠ wo := ne_of_none ht hwo
    repeat walk_at "s"
    refine for_tup (K := K) (a := t) (xs := us) (fun i σ H1 => ∃ v3 : Option V, σ = [some (.ref t), some (.ref l), some (.ref wo), v3] ∧ H1 wo = some (.lst ((wrs (ds.take i)).map V.str)) ∧ H1 l = some (.lst ((I ++ (tws (ds.drop i)).reverse).map V.str)) ∧ (∀ b o, H b = some o → b ≠ l → H1 b = some o)) ?_ ?_ ?_ ?_
    · refine ⟨none, rfl, upd_same, ?_, fun b o e n => ?_⟩
      · rw [upd_ne nlw]; exact hl
      · rw [upd_ne (ne_of_none e hwo)]; exact e
    · rintro i σ H1 _ ⟨_, _, _, _, f⟩
      exact SqT.of (f t _ ht ntl)
    · rintro i x σ H1 hi ⟨v3, rfl, e1, e2, f⟩
      obtain ⟨d, hd, hxd⟩ := hds.get hi
      have hil : i < ds.length := (List.getElem?_eq_some_iff.mp hd).1
      have tk : Tk H H1 := fun b vs h => f b _ h (ne_of h hl (by intro z; cases z))
      have hxd1 := hxd.mono tk
      have hfd := hfi d (List.mem_of_getElem? hd)
      have htk : ds.take (i + 1) = ds.take i ++ [d] := by rw [List.take_add_one, hd]; rfl
      have hw : ((wrs (ds.take i)).map V.str).length < sizeLine := by
        rw [List.length_map, wrs_eq, List.length_map, List.length_take]
        exact small1000 (by omega)
      have fin : ∀ H2 : Hp, (∀ b o, H b = some o → b ≠ l → H2 b = some o) → H2 wo = some (.lst ((wrs (ds.take i)).map V.str ++ [V.str (wr d)])) → H2 wo = some (.lst ((wrs (ds.take (i + 1))).map V.str)) := fun H2 _ e => by
        rw [e, htk, wrs_eq, wrs_eq, List.map_append, List.map_append]
        rfl
      rw [tws_drop hd] at e2
      repeat walk_at "s"
      cases hty : isTup d with
      | true =>
        rw [hty, if_pos rfl, List.reverse_append, ← List.append_assoc, List.map_append] at e2
        refine iteT ?_
        repeat walk_at "s"
        refine w_append (by rw [upd_ne nlw.symm]; exact e1) hw ?_
        repeat walk_at "s"
        refine ⟨_, rfl, ?_, ?_, fun b o e n => ?_⟩
        · exact fin _ (fun b o e n => by rw [upd_ne (ne_of_none e hwo), upd_ne n]; exact f b o e n) upd_same
        · rw [upd_ne nlw]; exact upd_same
        · rw [upd_ne (ne_of_none e hwo), upd_ne n]; exact f b o e n
      | false =>
        rw [hty, if_neg (by decide), List.nil_append] at e2
        refine iteF ?_
        have go : ∀ z, wr d = z → ∃ v3 : Option V, [some (V.ref t), some (V.ref l), some (V.ref wo), some x] = [some (.ref t), some (.ref l), some (.ref wo), v3] ∧ upd H1 wo (.lst ((wrs (ds.take i)).map V.str ++ [V.str z])) wo = some (.lst ((wrs (ds.take (i + 1))).map V.str)) ∧ upd H1 wo (.lst ((wrs (ds.take i)).map V.str ++ [V.str z])) l = some (.lst ((I ++ (tws (ds.drop (i + 1))).reverse).map V.str)) ∧ (∀ b o, H b = some o → b ≠ l → upd H1 wo (.lst ((wrs (ds.take i)).map V.str ++ [V.str z])) b = some o) := fun z ez => by
          subst ez
          refine ⟨_, rfl, ?_, ?_, fun b o e n => ?_⟩
          · exact fin _ (fun b o e n => by rw [upd_ne (ne_of_none e hwo)]; exact f b o e n) upd_same
          · rw [upd_ne nlw]; exact e2
          · rw [upd_ne (ne_of_none e hwo)]; exact f b o e n
        cases hxd with
        | str z =>
          repeat walk_at "s"
          refine w_strS ?_
          repeat walk_at "s"
          refine w_append e1 hw ?_
          repeat walk_at "s"
          exact go z rfl
        | int z =>
          repeat walk_at "s"
          refine ⟨hfd, ?_⟩
          repeat walk_at "s"
          refine w_append e1 hw ?_
          repeat walk_at "s"
          exact go _ rfl
        | non => exact hfd.elim
        | tup _ _ => cases hty
    · rintro σ H1 ⟨v3, rfl, e1, e2, f⟩
      rw [hds.length, List.take_length] at e1
      rw [hds.length, List.drop_length, show (tws []).reverse = [] from rfl, List.append_nil] at e2
      repeat walk_at "s"
      have ew : wr (.tuple ds) = ("(" : Str) ++ Txt.join " " (wrs ds) ++ (")" : Str) := rfl
      have el : (Txt.join " " (wrs ds)).length + 2 = (wr (.tuple ds)).length := by
        rw [ew, len_appS, len_appS]
        have h1 : ("(" : Str).length = 1 := rfl
        have h2 : (")" : Str).length = 1 := rfl
        omega
      refine w_join (ys := wrs ds) (SqL.of e1) ?_ ?_
      · have := join_len (wrs ds)
        have e : (" " : Str).length = 1 := rfl
        rw [e]
        omega
      repeat walk_at "s"
      refine ⟨add_ok ?_, ?_⟩
      · have h1 : ("(" : Str).length = 1 := rfl
        rw [h1]; omega
      repeat walk_at "s"
      refine ⟨add_ok ?_, ?_⟩
      · have h1 : ("(" : Str).length = 1 := rfl
        have h2 : (")" : Str).length = 1 := rfl
        rw [len_appS, h1, h2]; omega
      exact q H1 f e2
def sp_key_of : Sp := fun vs H Q _ => ∃ (v : V) (d : PyData), vs = [v] ∧ DAt H v d ∧ isTup d = true ∧ Good d ∧ (occ d).length ≤ 100000 ∧ (∀ e ∈ occ d, (wr e).length ≤ 1000000) ∧ ∀ H', Same H H' → Q (.str (wr d)) H'
def sp_size : Sp := fun vs H Q _ => ∃ (v : V) (d : PyData), vs = [v] ∧ DAt H v d ∧ isTup d = true ∧ (occ d).length ≤ 100000 ∧ ∀ H', Same H H' → Q (.int (occ d).length) H'
theorem Runs.len {I J : List Str} {L : List PyData} (h : Runs I L J) : J.length ≤ I.length + L.length := by
  induction h with
  | nil => simp
  | cons _ ih =>
    simp only [List.length_append, List.length_cons, List.length_nil, List.length_reverse] at ih ⊢
    omega
theorem DsAt.get' {H : Hp} : ∀ {vs : List V} {ds : List PyData} {i : Nat} {d : PyData}, DsAt H vs ds → ds[i]? = some d → ∃ v, vs[i]? = some v ∧ DAt H v d
  | _, _, 0, d, .cons h _, e => ⟨_, rfl, by cases e; exact h⟩
  | _, _, i + 1, d, .cons _ r, e => DsAt.get' (i := i) r e
theorem oksize (T : Top K mg) : FnOk P w K mg base CX0 2 T.fsize T.dsize ["term"] sp_size := by
  refine T.Fsize.ok scsize (fun vs H Q E h => ?_) (fun cdv A outer s H vs Q E hr h => ?_)
  · obtain ⟨v, d, rfl, _⟩ := h
    rfl
  · obtain ⟨v, d, rfl, hd, ht, hl, q⟩ := h
    refine ⟨_, (pss_one (ps_ret (pe_callB call_len_seq (by rfl) T.z_len (by decide +kernel) (pa_cons (pe_call (okoccurrences T) hr (by rfl) T.goccurrences T.Foccurrences.kp T.boccurrences .nil pass0 (pa_cons (pv 0) pa_nil)) pa_nil)))), ?_⟩
    repeat walk_at "s"
    refine ⟨v, d, rfl, hd, ht, hl, fun l us H1 _ sm e1 a1 => ?_⟩
    repeat walk_at "s"
    rw [a1.length]
    exact q H1 sm
theorem okkey_of (T : Top K mg) : FnOk P w K mg base CX0 2 T.fkey_of T.dkey_of ["term"] sp_key_of := by
  refine T.Fkey_of.ok sckey_of (fun vs H Q E h => ?_) (fun cdv A outer s H vs Q E hr h => ?_)
  · obtain ⟨v, d, rfl, _⟩ := h
    rfl
  · obtain ⟨v, d, rfl, hd, ht, hg, hl, hwl, q⟩ := h
    refine ⟨_, (pss_cons (ps_set (i := 1) sckey_of.nd rfl (Or.inl rfl) (pe_lst pa_nil))
    (pss_cons (ps_for PassesOwn.never rfl (RT.pi_revA (by rfl) T.z_reversed (pe_call (okoccurrences T) hr (by rfl) T.goccurrences T.Foccurrences.kp T.boccurrences .nil pass0 (pa_cons (pv 0) pa_nil))) (pg_name (i := 2) sckey_of.nd rfl (Or.inl rfl))
     (pss_one (ps_expr (pe_bm PySem.F.plainAttrs_list PySem.F.slot_list_append PySem.F.type_list_append mt_append (pv 1) (pa_cons (pe_call (ok_written T) hr (by rfl) T.g_written T.F_written.kp T.b_written .nil pass0 (pa_cons (pv 2) (pa_cons (pv 1) pa_nil))) pa_nil)))))
     (pss_one (ps_ret (pe_ix ix_list (pv 1) pe_int (fun _ _ => rfl)))))), ?_⟩
    repeat walk_at "s"
    refine ⟨by walk_at "len", fun io hio => ?_⟩
    have s1 : Same H (upd H io (.lst [])) := fun b o e => by rw [upd_ne (ne_of_none e hio)]; exact e
    repeat walk_at "s"
    refine ⟨v, d, rfl, hd.mono (Tk.same s1), ht, hl, fun l us H1 hl1 s2 e1 a1 => ?_⟩
    have nil : io ≠ l := ne_of_none upd_same hl1
    have sm1 : Same H H1 := s1.trans s2
    have eio : H1 io = some (.lst []) := s2 _ _ upd_same
    have a1' : DsAt H1 us (occ d) := a1.mono (Tk.same s2)
    repeat walk_at "s"
    refine RT.for_Itv (xs := us) (fun i σ H2 => ∃ (J : List Str) (y2 : Option V), σ = [some v, some (.ref io), y2] ∧ H2 io = some (.lst (J.map V.str)) ∧ Runs J ((occ d).reverse.drop i) (tws [d]) ∧ Fr io H1 H2 ∧ J.length ≤ i) ?_ ?_ ?_ ?_
    · refine ⟨[], none, rfl, eio, ?_, Fr.refl _ _, Nat.le_refl _⟩
      have := runs_occ d []
      cases d with
      | tuple ds => exact this
      | _ => cases ht
    · rintro i σ H2 ⟨_, _, _, _, _, f, _⟩
      exact SqL.of (f l _ e1 nil.symm)
    · rintro i x σ H2 hi hx ⟨J, y2, rfl, e2, r, f, hJ⟩
      obtain ⟨dx, hdx, hxd⟩ := a1'.get hx
      have hlen := a1'.length
      have hir : i < (occ d).reverse.length := by rw [List.length_reverse]; omega
      have hri : (occ d).reverse[i]? = some dx := by
        rw [List.getElem?_reverse (by omega)]
        rw [← hdx]
        congr 1
        omega
      have edrop : (occ d).reverse.drop i = dx :: (occ d).reverse.drop (i + 1) := by
        rw [List.drop_eq_getElem?_toList_append, hri]; rfl
      have hmem : dx ∈ occ d := List.mem_of_getElem? hdx
      rw [edrop] at r
      have tk : Tk H1 H2 := fun b vs h => f b _ h (ne_of h eio (by intro z; cases z))
      have hxd2 := hxd.mono tk
      cases r with
      | @cons I J' ds L r =>
      cases hxd2 with
      | @tup xa xvs _ hxa hxs =>
      obtain ⟨hf, hn⟩ := hg ds hmem
      repeat walk_at "s"
      refine ⟨xa, io, xvs, ds, I, rfl, hxa, hxs, hf, hn, hwl _ hmem, e2, fun H3 f3 e3 => ?_⟩
      repeat walk_at "s"
      refine w_append e3 ?_ ?_
      · rw [List.length_append] at hJ
        rw [List.length_map]
        exact Nat.lt_of_le_of_lt (show I.length ≤ 100000 by omega) (by decide)
      repeat walk_at "s"
      refine ⟨I ++ [wr (.tuple ds)], _, rfl, ?_, r, ?_, ?_⟩
      · rw [upd_same, List.map_append]; rfl
      · exact (f.trans f3).trans (Fr.upd _)
      · rw [List.length_append] at hJ ⊢
        simp only [List.length_cons, List.length_nil]
        omega
    · rintro σ H2 ⟨J, y2, rfl, e2, r, f, hJ⟩
      rw [a1'.length, show (occ d).length = (occ d).reverse.length from (List.length_reverse).symm, List.drop_length] at r
      cases d with
      | tuple ds =>
        cases r
        repeat walk_at "s"
        refine q H2 (fun b o e => f b o (sm1 b o e) (ne_of_none e hio))
      | _ => cases ht
end
/-! ### the book of terms -/
structure Bk (H : Hp) (b : Addr) (S : List PyData) : Prop where
  dict : ∃ kvs : List (L2.Key × V), H b = some (.dK kvs) ∧ kvs.length ≤ S.length ∧ ∀ d ∈ S, ∃ (p : Addr) (v l : V), valV kvs (Sum.inr (wr d)) = some (.ref p) ∧ H p = some (.tup [v, l]) ∧ DAt H v d
  ok : ∀ d ∈ S, Vt d
  sub : ∀ d ∈ S, ∀ e ∈ occ d, e ∈ S
theorem Bk.mono {H H' : Hp} {b : Addr} {S : List PyData} (h : Bk H b S) (t : Tk H H') (e : H' b = H b) : Bk H' b S := by
  obtain ⟨⟨kvs, hb, hl, hd⟩, ok, sub⟩ := h
  refine ⟨⟨kvs, by rw [e]; exact hb, hl, fun d hm => ?_⟩, ok, sub⟩
  obtain ⟨p, v, l, h1, h2, h3⟩ := hd d hm
  exact ⟨p, v, l, h1, t _ _ h2, h3.mono t⟩
theorem putK_len (kvs : List (L2.Key × V)) (k : L2.Key) (v : V) : (putK kvs k v).length ≤ kvs.length + 1 := by
  unfold putK
  split
  · rw [List.length_map]; omega
  · rw [List.length_append]; exact Nat.le_refl _
/-- a term noted -/
theorem Bk.put {H H' : Hp} {b p : Addr} {S : List PyData} {kvs : List (L2.Key × V)} {d : PyData} {v l : V} (hb : H b = some (.dK kvs)) (hl : kvs.length ≤ S.length) (hd : ∀ d ∈ S, ∃ (p : Addr) (v l : V), valV kvs (Sum.inr (wr d)) = some (.ref p) ∧ H p = some (.tup [v, l]) ∧ DAt H v d)
    (ok : ∀ d ∈ S, Vt d) (sub : ∀ d ∈ S, ∀ e ∈ occ d, e ∈ S) (t : Tk H H') (vd : Vt d) (hs : ∀ e ∈ occ d, e = d ∨ e ∈ S) (hp : H' p = some (.tup [v, l])) (hv : DAt H' v d) (hb' : H' b = some (.dK (putK kvs (Sum.inr (wr d)) (.ref p)))) : Bk H' b (d :: S) := by
  refine ⟨⟨_, hb', ?_, ?_⟩, ?_, ?_⟩
  · have := putK_len kvs (Sum.inr (wr d)) (.ref p)
    rw [List.length_cons]
    omega
  · intro e he
    rw [valV_put]
    rcases List.mem_cons.mp he with rfl | hm
    · exact ⟨p, v, l, by rw [if_pos rfl], hp, hv⟩
    · obtain ⟨q, w, m, h1, h2, h3⟩ := hd e hm
      by_cases hq : wr e = wr d
      · have : e = d := wr_inj (ok e hm) vd hq
        subst this
        exact ⟨p, v, l, by rw [if_pos rfl], hp, hv⟩
      · refine ⟨q, w, m, ?_, t _ _ h2, h3.mono t⟩
        rw [if_neg (fun e => hq (Sum.inr.inj e))]
        exact h1
  · intro e he
    rcases List.mem_cons.mp he with rfl | hm
    · exact vd
    · exact ok e hm
  · intro e he f hf
    rcases List.mem_cons.mp he with rfl | hm
    · rcases hs f hf with rfl | h
      · exact List.mem_cons_self ..
      · exact List.mem_cons_of_mem _ h
    · exact List.mem_cons_of_mem _ (sub e hm f hf)
theorem Bk.nil {H : Hp} {b : Addr} (h : H b = some (.dK [])) : Bk H b [] := ⟨⟨[], h, Nat.le_refl _, fun _ h => by cases h⟩, fun _ h => (by cases h), fun _ h => (by cases h)⟩
def sp_note : Sp := fun vs H Q _ => ∃ (b t : Addr) (S : List PyData) (ds : List PyData) (us : List V), vs = [.ref b, .ref t] ∧ Bk H b S ∧ S.length ≤ 10000 ∧ H t = some (.tup us) ∧ DsAt H us ds ∧ Vt (.tuple ds) ∧ occ (.tuple ds) = [.tuple ds] ∧ ∀ H', Fr b H H' → Bk H' b (.tuple ds :: S) → Q (.str (wr (.tuple ds))) H'
section
variable {P : Program} {w : World} {K : PySem.W.Frag} {mg : Str → Option Value} {base : Heap}
theorem ok_law_note (T : Top K mg) : FnOk P w K mg base CX0 1 T.f_law_note T.d_law_note ["book", "atom"] sp_note := by
  refine T.F_law_note.ok sc_law_note (fun vs H Q E h => ?_) (fun cdv A outer s H vs Q E hr h => ?_)
  · obtain ⟨b, t, S, ds, us, rfl, _⟩ := h
    rfl
  · obtain ⟨b, t, S, ds, us, rfl, hB, hS, ht, hds, hv, ho, q⟩ := h
    have hu := hu_of hr
    refine ⟨_, (pss_cons (ps_set (i := 2) sc_law_note.nd rfl (Or.inl rfl) (pe_op op_add_str (pe_op op_add_str pe_str (pe_join pe_str (pe_lc (own := [("item", 3)]) (g := gName 3) (by rfl) sc_law_note.nd (pi_tup (pv 1)) (blkOk_by (own := [("item", 3)]) (N := N_law_note) (sc := defScope s_law_note) (by decide +kernel)) (fun _ _ _ _ _ => (pg_name (i := 3) sc_law_note.nd rfl (Or.inl rfl))) (fun _ _ _ _ _ => pts_nil) (fun _ _ _ _ _ => (pe_callTy call_str_any (by rfl) T.z_str (by decide +kernel) (pa_cons (pv 3) pa_nil)))))) pe_str))
    (pss_cons (ps_dput hu (pv 0) (pv 2) (pe_tup (pa_cons (pv 1) (pa_cons (pe_lst pa_nil) pa_nil))) rfl)
     (pss_one (ps_ret (pv 2))))), ?_⟩
    obtain ⟨⟨kvs, hb, hl, hd⟩, hok, hsub⟩ := id hB
    have hg := hv.good ds (by rw [ho]; exact List.mem_singleton.mpr rfl)
    have hwl := vt_len hv
    have hsz : sz (.tuple ds) = 1 := by unfold sz; rw [ho]; rfl
    rw [hsz] at hwl
    repeat walk_at "s"
    intro D hD
    have nDb : b ≠ D := ne_of_none hb hD
    have nDt : t ≠ D := ne_of_none ht hD
    have ntb : t ≠ b := ne_of ht hb (by intro z; cases z)
    refine lc_tup (K := K) (a := t) (xs := us) (fun i H1 => H1 D = some (.lst ((wrs (ds.take i)).map V.str)) ∧ ∀ x o, H x = some o → H1 x = some o) ?_ ?_ ?_ ?_
    · exact ⟨upd_same, fun x o e => by rw [upd_ne (ne_of_none e hD)]; exact e⟩
    · rintro i H1 _ ⟨_, f⟩
      exact SqT.of (f _ _ ht)
    · rintro i x H1 hi ⟨e1, f⟩
      obtain ⟨d, hdi, hxd⟩ := hds.get hi
      have hil : i < ds.length := (List.getElem?_eq_some_iff.mp hdi).1
      have hfd := hg.1 d (List.mem_of_getElem? hdi)
      have htk : ds.take (i + 1) = ds.take i ++ [d] := by rw [List.take_add_one, hdi]; rfl
      have hw : ((wrs (ds.take i)).map V.str).length < sizeLine := by
        rw [List.length_map, wrs_eq, List.length_map, List.length_take]
        exact small1000 (by have := hg.2; omega)
      have fin : ∀ (z : Str), wr d = z → ∃ acc, H1 D = some (.lst acc) ∧ acc.length < sizeLine ∧ upd H1 D (.lst (acc ++ [V.str z])) D = some (.lst ((wrs (ds.take (i + 1))).map V.str)) ∧ ∀ x o, H x = some o → upd H1 D (.lst (acc ++ [V.str z])) x = some o := fun z ez => by
        subst ez
        refine ⟨_, e1, hw, ?_, fun x o e => ?_⟩
        · rw [upd_same, htk, wrs_eq, wrs_eq, List.map_append, List.map_append]; rfl
        · rw [upd_ne (ne_of_none e hD)]; exact f x o e
      repeat walk_at "s"
      cases hxd with
      | str z =>
        repeat walk_at "s"
        refine w_strS ?_
        exact fin z rfl
      | int z =>
        repeat walk_at "s"
        refine ⟨hfd, ?_⟩
        exact fin _ rfl
      | non => exact hfd.elim
      | tup h1 h2 =>
        exfalso
        have hm := List.mem_of_getElem? hdi
        cases hv with
        | nm => simp at hm
        | road => simp at hm
        | both => simp at hm
        | ms => simp at hm
        | two _ hx hy =>
          rw [occ_3s] at ho
          have := (vt_cnt hx).2.2
          have h0 := congrArg List.length ho
          rw [List.length_cons, List.length_append] at h0
          unfold sz at this
          simp at h0
          rw [h0.1] at this
          simp at this
        | dig hx =>
          rw [occ_2s] at ho
          have := (vt_cnt hx).2.2
          have h0 := congrArg List.length ho
          unfold sz at this
          simp at h0
          rw [h0] at this
          simp at this
        | nmd _ hx _ =>
          rw [occ_3s] at ho
          have := (vt_cnt hx).2.2
          have h0 := congrArg List.length ho
          rw [List.length_cons, List.length_append] at h0
          unfold sz at this
          simp at h0
          rw [h0.1] at this
          simp at this
    · rintro H1 ⟨e1, f⟩
      rw [hds.length, List.take_length] at e1
      have ew : wr (.tuple ds) = ("(" : Str) ++ Txt.join " " (wrs ds) ++ (")" : Str) := rfl
      have h1 : ("(" : Str).length = 1 := rfl
      have h2 : (")" : Str).length = 1 := rfl
      have el : (Txt.join " " (wrs ds)).length + 2 = (wr (.tuple ds)).length := by
        rw [ew, len_appS, len_appS]
        omega
      refine w_join (ys := wrs ds) (SqL.of e1) ?_ ?_
      · have := join_len (wrs ds)
        have e : (" " : Str).length = 1 := rfl
        rw [e]
        omega
      repeat walk_at "s"
      refine ⟨add_ok (by rw [h1]; omega), ?_⟩
      repeat walk_at "s"
      refine ⟨add_ok (by rw [len_appS, h1, h2]; omega), ?_⟩
      rw [← ew]
      repeat walk_at "s"
      refine ⟨by walk_at "len", fun l hl1 => ?_⟩
      repeat walk_at "s"
      refine ⟨by walk_at "len", fun p hp => ?_⟩
      have f1 : ∀ x o, H x = some o → upd H1 l (.lst []) x = some o := fun x o e => by rw [upd_ne (ne_of_none (f x o e) hl1)]; exact f x o e
      have f2 : ∀ x o, H x = some o → upd (upd H1 l (.lst [])) p (.tup [.ref t, .ref l]) x = some o := fun x o e => by rw [upd_ne (ne_of_none (f1 x o e) hp)]; exact f1 x o e
      have npb : p ≠ b := (ne_of_none (f1 b _ hb) hp).symm
      repeat walk_at "s"
      refine w_dpS (f2 _ _ hb) (Nat.lt_of_le_of_lt (show kvs.length ≤ 10000 by omega) (by decide)) ?_
      repeat walk_at "s"
      have tk : Tk H (upd (upd (upd H1 l (.lst [])) p (.tup [.ref t, .ref l])) b (.dK (putK kvs (Sum.inr (wr (.tuple ds))) (.ref p)))) := fun x vs e => by
        rw [upd_ne (ne_of e hb (by intro z; cases z))]
        exact f2 x _ e
      refine q _ (fun x o e n => by rw [upd_ne n]; exact f2 x o e) (Bk.put (p := p) (v := .ref t) (l := .ref l) hb hl hd hok hsub tk hv (fun e he => by rw [ho] at he; exact .inl (List.mem_singleton.mp he)) (by rw [upd_ne npb]; exact upd_same) (.tup (tk _ _ ht) (hds.mono tk)) upd_same)
/-- what compose makes -/
def mkT (k : Str) (a b : PyData) (z : Str) : PyData := if k = "pair" ∨ k = "lock" then .tuple [.str k, a, b] else if k = "digest" then .tuple [.str k, a] else .tuple [.str k, a, .str z]
def sp_compose : Sp := fun vs H Q _ => ∃ (b : Addr) (S : List PyData) (k z : Str) (d1 d2 : PyData), vs = [.ref b, .str k, .str (wr d1), .str (wr d2), .str z] ∧ Bk H b S ∧ S.length ≤ 10000 ∧ d1 ∈ S ∧ d2 ∈ S ∧ sz d1 + sz d2 ≤ 10000 ∧ (k = "pair" ∨ k = "lock" ∨ k = "digest" ∨ k = "box" ∨ k = "stamp") ∧ (k = "box" ∨ k = "stamp" → Nm z) ∧
  ∀ (d : PyData) (H' : Hp), d = mkT k d1 d2 z → Fr b H H' → Bk H' b (d :: S) → Q (.str (wr d)) H'
theorem ok_law_compose (T : Top K mg) : FnOk P w K mg base CX0 1 T.f_law_compose T.d_law_compose ["book", "kind", "one", "two", "name"] sp_compose := by
  refine T.F_law_compose.ok sc_law_compose (fun vs H Q E h => ?_) (fun cdv A outer s H vs Q E hr h => ?_)
  · obtain ⟨b, S, k, z, d1, d2, rfl, _⟩ := h
    rfl
  · obtain ⟨b, S, k, z, d1, d2, rfl, hB, hS, m1, m2, hsz, hk, hz, q⟩ := h
    have hu := hu_of hr
    refine ⟨_, (pss_cons (ps_set (i := 5) sc_law_compose.nd rfl (Or.inl rfl) (pe_ix ix_tup (pe_dget hu (pv 0) (pv 2) (fun _ _ => rfl)) pe_int (fun _ _ => rfl)))
    (pss_cons (ps_if (PW.pt (pw_or (pt_cmpR op_eq (pv 1) pe_str (nomark _)) (pw_or1 (pt_cmpR op_eq (pv 1) pe_str (nomark _)))))
     (pss_cons (ps_set (i := 6) sc_law_compose.nd rfl (Or.inl rfl) (pe_op op_add_str (pe_op op_add_str (pe_op op_add_str (pe_op op_add_str (pe_op op_add_str (pe_op op_add_str pe_str (pv 1)) pe_str) (pv 2)) pe_str) (pv 3)) pe_str))
      (pss_one (ps_dput hu (pv 0) (pv 6) (pe_tup (pa_cons (pe_tup (pa_cons (pv 1) (pa_cons (pv 5) (pa_cons (pe_ix ix_tup (pe_dget hu (pv 0) (pv 3) (fun _ _ => rfl)) pe_int (fun _ _ => rfl)) pa_nil)))) (pa_cons (pe_lst (pa_cons (pv 2) (pa_cons (pv 3) pa_nil))) pa_nil))) rfl)))
     (pss_one (ps_if (pt_cmpR op_eq (pv 1) pe_str (nomark _))
      (pss_cons (ps_set (i := 6) sc_law_compose.nd rfl (Or.inl rfl) (pe_op op_add_str (pe_op op_add_str pe_str (pv 2)) pe_str))
       (pss_one (ps_dput hu (pv 0) (pv 6) (pe_tup (pa_cons (pe_tup (pa_cons pe_str (pa_cons (pv 5) pa_nil))) (pa_cons (pe_lst (pa_cons (pv 2) pa_nil)) pa_nil))) rfl)))
      (pss_cons (ps_set (i := 6) sc_law_compose.nd rfl (Or.inl rfl) (pe_op op_add_str (pe_op op_add_str (pe_op op_add_str (pe_op op_add_str (pe_op op_add_str (pe_op op_add_str pe_str (pv 1)) pe_str) (pv 2)) pe_str) (pv 4)) pe_str))
       (pss_one (ps_dput hu (pv 0) (pv 6) (pe_tup (pa_cons (pe_tup (pa_cons (pv 1) (pa_cons (pv 5) (pa_cons (pv 4) pa_nil)))) (pa_cons (pe_lst (pa_cons (pv 2) pa_nil)) pa_nil))) rfl))))))
     (pss_one (ps_ret (pv 6))))), ?_⟩
    obtain ⟨⟨kvs, hb, hl, hd⟩, hok, hsub⟩ := id hB
    obtain ⟨p1, v1, l1, g1, t1, a1⟩ := hd d1 m1
    obtain ⟨p2, v2, l2, g2, t2, a2⟩ := hd d2 m2
    have w1 := vt_len (hok d1 m1)
    have w2 := vt_len (hok d2 m2)
    have lp : ("(" : Str).length = 1 := rfl
    have lc : (")" : Str).length = 1 := rfl
    have ls : (" " : Str).length = 1 := rfl
    have ld : ("(digest " : Str).length = 8 := rfl
    have lk : k.length ≤ 6 := by rcases hk with rfl | rfl | rfl | rfl | rfl <;> decide +kernel
    have fin : ∀ (d : PyData) (t0 l0 p : Addr) (vs0 ls : List V), d = mkT k d1 d2 z → Vt d → (∀ e ∈ occ d, e = d ∨ e ∈ S) → H t0 = none → upd H t0 (.tup vs0) l0 = none → upd (upd H t0 (.tup vs0)) l0 (.lst ls) p = none → DAt (upd H t0 (.tup vs0)) (.ref t0) d →
        upd (upd (upd H t0 (.tup vs0)) l0 (.lst ls)) p (.tup [.ref t0, .ref l0]) b = some (.dK kvs) ∧ Q (.str (wr d)) (upd (upd (upd (upd H t0 (.tup vs0)) l0 (.lst ls)) p (.tup [.ref t0, .ref l0])) b (.dK (putK kvs (Sum.inr (wr d)) (.ref p)))) := fun d t0 l0 p vs0 ls ed vd hs n1 n2 n3 ad => by
      have f1 : ∀ x o, H x = some o → upd H t0 (.tup vs0) x = some o := fun x o e => by rw [upd_ne (ne_of_none e n1)]; exact e
      have f2 : ∀ x o, upd H t0 (.tup vs0) x = some o → upd (upd H t0 (.tup vs0)) l0 (.lst ls) x = some o := fun x o e => by rw [upd_ne (ne_of_none e n2)]; exact e
      have f3 : ∀ x o, upd (upd H t0 (.tup vs0)) l0 (.lst ls) x = some o → upd (upd (upd H t0 (.tup vs0)) l0 (.lst ls)) p (.tup [.ref t0, .ref l0]) x = some o := fun x o e => by rw [upd_ne (ne_of_none e n3)]; exact e
      have f : ∀ x o, H x = some o → upd (upd (upd H t0 (.tup vs0)) l0 (.lst ls)) p (.tup [.ref t0, .ref l0]) x = some o := fun x o e => f3 _ _ (f2 _ _ (f1 _ _ e))
      have hbb := f b _ hb
      have npb : p ≠ b := (ne_of_none (f2 _ _ (f1 b _ hb)) n3).symm
      have tk1 : ∀ o, Tk (upd (upd (upd H t0 (.tup vs0)) l0 (.lst ls)) p (.tup [.ref t0, .ref l0])) (upd (upd (upd (upd H t0 (.tup vs0)) l0 (.lst ls)) p (.tup [.ref t0, .ref l0])) b o) := fun o => Tk.upd fun vs e => by rw [hbb] at e; cases e
      refine ⟨hbb, q d _ ed (fun x o e n => by rw [upd_ne n]; exact f x o e) (Bk.put (p := p) (v := .ref t0) (l := .ref l0) hb hl hd hok hsub ((Tk.same f).trans (tk1 _)) vd hs (by rw [upd_ne npb]; exact upd_same) (ad.mono (((Tk.same f2).trans (Tk.same f3)).trans (tk1 _))) upd_same)⟩
    repeat walk_at "s"
    refine w_dgS hb g1 ?_
    repeat walk_at "s"
    rcases hk with rfl | rfl | rfl | rfl | rfl
    · have et : ("(" : Str) ++ "pair" ++ " " ++ wr d1 ++ " " ++ wr d2 ++ ")" = wr (.tuple [.str "pair", d1, d2]) := cd_ext (by
        have e := cw_3 (.str "pair") d1 d2
        unfold cw at e
        rw [e]
        simp only [cd_app]
        simp [wr, show cd "(" = [40] from rfl, show cd " " = [32] from rfl, show cd ")" = [41] from rfl])
      repeat walk_at "sa"
      rw [et]
      refine w_dgS hb g2 ?_
      repeat walk_at "s"
      refine ⟨by walk_at "len", fun t0 ht0 => ?_⟩
      repeat walk_at "s"
      refine ⟨by walk_at "len", fun l0 hl0 => ?_⟩
      repeat walk_at "s"
      refine ⟨by walk_at "len", fun p hp => ?_⟩
      obtain ⟨eb, fq⟩ := fin (.tuple [.str "pair", d1, d2]) t0 l0 p [.str "pair", v1, v2] _ rfl (.two (by decide) (hok _ m1) (hok _ m2)) (fun e he => by
        rw [occ_3s] at he
        rcases List.mem_cons.mp he with rfl | he
        · exact .inl rfl
        · rcases List.mem_append.mp he with he | he
          · exact .inr (hsub _ m1 e he)
          · exact .inr (hsub _ m2 e he)) ht0 hl0 hp (.tup upd_same (.cons (.str _) (.cons (a1.mono (Tk.new ht0)) (.cons (a2.mono (Tk.new ht0)) .nil))))
      repeat walk_at "s"
      refine w_dpS eb (Nat.lt_of_le_of_lt (show kvs.length ≤ 10000 by omega) (by decide)) ?_
      repeat walk_at "s"
      exact fq
    · have et : ("(" : Str) ++ "lock" ++ " " ++ wr d1 ++ " " ++ wr d2 ++ ")" = wr (.tuple [.str "lock", d1, d2]) := cd_ext (by
        have e := cw_3 (.str "lock") d1 d2
        unfold cw at e
        rw [e]
        simp only [cd_app]
        simp [wr, show cd "(" = [40] from rfl, show cd " " = [32] from rfl, show cd ")" = [41] from rfl])
      repeat walk_at "sa"
      rw [et]
      refine w_dgS hb g2 ?_
      repeat walk_at "s"
      refine ⟨by walk_at "len", fun t0 ht0 => ?_⟩
      repeat walk_at "s"
      refine ⟨by walk_at "len", fun l0 hl0 => ?_⟩
      repeat walk_at "s"
      refine ⟨by walk_at "len", fun p hp => ?_⟩
      obtain ⟨eb, fq⟩ := fin (.tuple [.str "lock", d1, d2]) t0 l0 p [.str "lock", v1, v2] _ rfl (.two (by decide) (hok _ m1) (hok _ m2)) (fun e he => by
        rw [occ_3s] at he
        rcases List.mem_cons.mp he with rfl | he
        · exact .inl rfl
        · rcases List.mem_append.mp he with he | he
          · exact .inr (hsub _ m1 e he)
          · exact .inr (hsub _ m2 e he)) ht0 hl0 hp (.tup upd_same (.cons (.str _) (.cons (a1.mono (Tk.new ht0)) (.cons (a2.mono (Tk.new ht0)) .nil))))
      repeat walk_at "s"
      refine w_dpS eb (Nat.lt_of_le_of_lt (show kvs.length ≤ 10000 by omega) (by decide)) ?_
      repeat walk_at "s"
      exact fq
    · have et : ("(digest " : Str) ++ wr d1 ++ ")" = wr (.tuple [.str "digest", d1]) := cd_ext (by
        have e := cw_2 (.str "digest") d1
        unfold cw at e
        rw [e]
        simp only [cd_app]
        simp [wr, show cd "(digest " = [40, 100, 105, 103, 101, 115, 116, 32] from rfl, show cd "digest" = [100, 105, 103, 101, 115, 116] from rfl, show cd ")" = [41] from rfl])
      repeat walk_at "sa"
      rw [et]
      refine ⟨by walk_at "len", fun t0 ht0 => ?_⟩
      repeat walk_at "s"
      refine ⟨by walk_at "len", fun l0 hl0 => ?_⟩
      repeat walk_at "s"
      refine ⟨by walk_at "len", fun p hp => ?_⟩
      obtain ⟨eb, fq⟩ := fin (.tuple [.str "digest", d1]) t0 l0 p [.str "digest", v1] _ rfl (.dig (hok _ m1)) (fun e he => by
        rw [occ_2s] at he
        rcases List.mem_cons.mp he with rfl | he
        · exact .inl rfl
        · exact .inr (hsub _ m1 e he)) ht0 hl0 hp (.tup upd_same (.cons (.str _) (.cons (a1.mono (Tk.new ht0)) .nil)))
      repeat walk_at "s"
      refine w_dpS eb (Nat.lt_of_le_of_lt (show kvs.length ≤ 10000 by omega) (by decide)) ?_
      repeat walk_at "s"
      exact fq
    · have hzn := hz (by decide)
      have lz := hzn.hi
      have et : ("(" : Str) ++ "box" ++ " " ++ wr d1 ++ " " ++ z ++ ")" = wr (.tuple [.str "box", d1, .str z]) := cd_ext (by
        have e := cw_3 (.str "box") d1 (.str z)
        unfold cw at e
        rw [e]
        simp only [cd_app]
        simp [wr, show cd "(" = [40] from rfl, show cd " " = [32] from rfl, show cd ")" = [41] from rfl])
      repeat walk_at "sa"
      rw [et]
      refine ⟨by walk_at "len", fun t0 ht0 => ?_⟩
      repeat walk_at "s"
      refine ⟨by walk_at "len", fun l0 hl0 => ?_⟩
      repeat walk_at "s"
      refine ⟨by walk_at "len", fun p hp => ?_⟩
      obtain ⟨eb, fq⟩ := fin (.tuple [.str "box", d1, .str z]) t0 l0 p [.str "box", v1, .str z] _ rfl (.nmd (by decide) (hok _ m1) hzn) (fun e he => by
        rw [occ_3s] at he
        rcases List.mem_cons.mp he with rfl | he
        · exact .inl rfl
        · rcases List.mem_append.mp he with he | he
          · exact .inr (hsub _ m1 e he)
          · cases he) ht0 hl0 hp (.tup upd_same (.cons (.str _) (.cons (a1.mono (Tk.new ht0)) (.cons (.str _) .nil))))
      repeat walk_at "s"
      refine w_dpS eb (Nat.lt_of_le_of_lt (show kvs.length ≤ 10000 by omega) (by decide)) ?_
      repeat walk_at "s"
      exact fq
    · have hzn := hz (by decide)
      have lz := hzn.hi
      have et : ("(" : Str) ++ "stamp" ++ " " ++ wr d1 ++ " " ++ z ++ ")" = wr (.tuple [.str "stamp", d1, .str z]) := cd_ext (by
        have e := cw_3 (.str "stamp") d1 (.str z)
        unfold cw at e
        rw [e]
        simp only [cd_app]
        simp [wr, show cd "(" = [40] from rfl, show cd " " = [32] from rfl, show cd ")" = [41] from rfl])
      repeat walk_at "sa"
      rw [et]
      refine ⟨by walk_at "len", fun t0 ht0 => ?_⟩
      repeat walk_at "s"
      refine ⟨by walk_at "len", fun l0 hl0 => ?_⟩
      repeat walk_at "s"
      refine ⟨by walk_at "len", fun p hp => ?_⟩
      obtain ⟨eb, fq⟩ := fin (.tuple [.str "stamp", d1, .str z]) t0 l0 p [.str "stamp", v1, .str z] _ rfl (.nmd (by decide) (hok _ m1) hzn) (fun e he => by
        rw [occ_3s] at he
        rcases List.mem_cons.mp he with rfl | he
        · exact .inl rfl
        · rcases List.mem_append.mp he with he | he
          · exact .inr (hsub _ m1 e he)
          · cases he) ht0 hl0 hp (.tup upd_same (.cons (.str _) (.cons (a1.mono (Tk.new ht0)) (.cons (.str _) .nil))))
      repeat walk_at "s"
      refine w_dpS eb (Nat.lt_of_le_of_lt (show kvs.length ≤ 10000 by omega) (by decide)) ?_
      repeat walk_at "s"
      exact fq
end
/-! ### drawn atoms, drawn terms -/
def sp_atom : Sp := fun vs H Q _ => ∃ (a c l : Addr) (zs : List Str), vs = [.ref a, .ref l] ∧ Flow H a c ∧ H l = some (.lst (zs.map V.str)) ∧ l ≠ a ∧ 1 ≤ zs.length ∧ zs.length < 1000 ∧ (∀ z ∈ zs, Nm z) ∧
  ∀ (t : Addr) (us : List V) (ds : List PyData) (H' : Hp), H' t = some (.tup us) → DsAt H' us ds → Vt (.tuple ds) → occ (.tuple ds) = [.tuple ds] → Go a c H H' → Q (.ref t) H'
section
variable {P : Program} {w : World} {K : PySem.W.Frag} {mg : Str → Option Value} {base : Heap}
theorem ok_law_atom (T : Top K mg) : FnOk P w K mg base CX0 4 T.f_law_atom T.d_law_atom ["flow", "names"] sp_atom := by
  refine T.F_law_atom.ok sc_law_atom (fun vs H Q E h => ?_) (fun cdv A outer s H vs Q E hr h => ?_)
  · obtain ⟨a, c, l, zs, rfl, _⟩ := h
    rfl
  · obtain ⟨a, c, l, zs, rfl, F, hl, hla, hz1, hz2, hzs, q⟩ := h
    refine ⟨_, (pss_cons (ps_set (i := 2) sc_law_atom.nd rfl (Or.inl rfl) (pe_call (ok_law_pick T) hr (by rfl) T.g_law_pick T.F_law_pick.kp T.b_law_pick .nil pass0 (pa_cons (pv 0) (pa_cons (pv 1) pa_nil))))
    (pss_cons (ps_set (i := 3) sc_law_atom.nd rfl (Or.inl rfl) (pe_call (ok_law_pick T) hr (by rfl) T.g_law_pick T.F_law_pick.kp T.b_law_pick .nil pass0 (pa_cons (pv 0) (pa_cons (pv 1) pa_nil))))
     (pss_cons (ps_set (i := 4) sc_law_atom.nd rfl (Or.inl rfl) (pe_call (ok_law_draw T) (hr.mono (by decide)) (by rfl) T.g_law_draw T.F_law_draw.kp T.b_law_draw .nil pass0 (pa_cons (pv 0) (pa_cons pe_int pa_nil))))
      (pss_cons (ps_if (pt_cmpR op_lt (pv 4) pe_int (nomark _))
       (pss_one (ps_ret (pe_tup (pa_cons (pe_ix ix_list (pe_lst (pa_cons pe_str (pa_cons pe_str (pa_cons pe_str pa_nil)))) (pv 4) (fun _ _ => rfl)) (pa_cons (pv 2) pa_nil)))))
       pss_nil)
       (pss_cons (ps_if (pt_cmpR op_eq (pv 4) pe_int (nomark _))
        (pss_one (ps_ret (pe_tup (pa_cons pe_str (pa_cons (pe_ix ix_list (pe_lst (pa_cons pe_int (pa_cons pe_int (pa_cons pe_int (pa_cons pe_int (pa_cons (pe_call (ok_law_draw T) (hr.mono (by decide)) (by rfl) T.g_law_draw T.F_law_draw.kp T.b_law_draw .nil pass0 (pa_cons (pv 0) (pa_cons pe_int pa_nil))) pa_nil)))))) (pe_call (ok_law_draw T) (hr.mono (by decide)) (by rfl) T.g_law_draw T.F_law_draw.kp T.b_law_draw .nil pass0 (pa_cons (pv 0) (pa_cons pe_int pa_nil))) (fun _ _ => rfl)) pa_nil)))))
        pss_nil)
        (pss_cons (ps_if (PW.pt (pw_and (pt_cmpR op_eq (pv 4) pe_int (nomark _)) (pw_and1 (pt_cmpR op_lt_str (pv 3) (pv 2) (nomark _)))))
         (pss_one (ps_ret (pe_tup (pa_cons pe_str (pa_cons (pv 3) (pa_cons (pv 2) pa_nil))))))
         pss_nil)
         (pss_cons (ps_if (pt_cmpR op_eq (pv 4) pe_int (nomark _))
          (pss_one (ps_ret (pe_tup (pa_cons pe_str (pa_cons (pv 2) (pa_cons (pv 3) pa_nil))))))
          pss_nil)
          (pss_one (ps_ret (pe_tup (pa_cons (pe_ix ix_list (pe_lst (pa_cons pe_str (pa_cons pe_str (pa_cons pe_str pa_nil)))) (pe_op op_sub (pv 4) pe_int) (fun _ _ => rfl)) (pa_cons (pe_call (ok_law_draw T) (hr.mono (by decide)) (by rfl) T.g_law_draw T.F_law_draw.kp T.b_law_draw .nil pass0 (pa_cons (pv 0) (pa_cons pe_int pa_nil))) (pa_cons (pv 2) pa_nil))))))))))))), ?_⟩
    have hzl : (zs.map V.str).length = zs.length := List.length_map _
    repeat walk_at "s"
    refine ⟨a, c, l, _, rfl, F, hl, hla, by omega, by omega, fun v1 H1 hv1 g1 => ?_⟩
    obtain ⟨x, hx, rfl⟩ := List.mem_map.mp hv1
    repeat walk_at "s"
    refine ⟨a, c, l, _, rfl, g1.fl, g1.at hl hla, hla, by omega, by omega, fun v2 H2 hv2 g2 => ?_⟩
    obtain ⟨y, hy, rfl⟩ := List.mem_map.mp hv2
    have gx := hzs x hx
    have gy := hzs y hy
    repeat walk_at "s"
    refine ⟨a, c, 8, rfl, g2.fl, by omega, by omega, fun k H3 k0 k1 g3 => ?_⟩
    have g := g1.trans (g2.trans g3)
    repeat walk_at "s"
    refine ite2 (fun h => ?_) (fun h => ?_)
    · have hk := of_decide_eq_true h
      repeat walk_at "s"
      refine ⟨by walk_at "len", fun p hp => ?_⟩
      obtain ⟨z, hz, hm⟩ := at_ok (xs := [V.str "host", V.str "word", V.str "own"]) k0 (by simp only [List.length_cons, List.length_nil]; omega)
      repeat walk_at "s"
      refine w_ixL (SqL.of upd_same) hz ?_
      obtain ⟨kd, rfl, hkd⟩ : ∃ kd : Str, z = V.str kd ∧ (kd = "host" ∨ kd = "word" ∨ kd = "own") := by
        simp at hm
        rcases hm with rfl | rfl | rfl
        · exact ⟨_, rfl, .inl rfl⟩
        · exact ⟨_, rfl, .inr (.inl rfl)⟩
        · exact ⟨_, rfl, .inr (.inr rfl)⟩
      repeat walk_at "s"
      refine ⟨by walk_at "len", fun t ht => ?_⟩
      exact q t _ _ _ upd_same (.cons (.str _) (.cons (.str _) .nil)) (.nm hkd gx) (by rw [occ_2s]; rfl) ((g.new hp).new ht)
    · repeat walk_at "s"
      refine ite2 (fun h3 => ?_) (fun h3 => ?_)
      · repeat walk_at "s"
        refine ⟨a, c, 1000000, rfl, g3.fl, by omega, by omega, fun n H4 n0 n1 g4 => ?_⟩
        repeat walk_at "s"
        refine ⟨by walk_at "len", fun p hp => ?_⟩
        repeat walk_at "s"
        refine ⟨a, c, 5, rfl, g4.fl.new hp, by omega, by omega, fun j H5 j0 j1 g5 => ?_⟩
        obtain ⟨z, hz, hm⟩ := at_ok (xs := [V.int 0, V.int 9, V.int 10, V.int 999999, V.int n]) j0 (by simp only [List.length_cons, List.length_nil]; omega)
        refine w_ixL (SqL.of (g5.at upd_same (g4.fl.na hp))) hz ?_
        obtain ⟨m, rfl, hmn⟩ : ∃ m : Nat, z = V.int m ∧ m ≤ 999999 := by
          simp at hm
          rcases hm with rfl | rfl | rfl | rfl | rfl
          · exact ⟨0, rfl, by omega⟩
          · exact ⟨9, rfl, by omega⟩
          · exact ⟨10, rfl, by omega⟩
          · exact ⟨999999, rfl, by omega⟩
          · exact ⟨n.toNat, by rw [Int.toNat_of_nonneg n0], by omega⟩
        repeat walk_at "s"
        refine ⟨by walk_at "len", fun t ht => ?_⟩
        exact q t _ _ _ upd_same (.cons (.str _) (.cons (.int _) .nil)) (.road hmn) (by rw [occ_2s]; rfl) ((((g.trans g4).new hp).trans g5).new ht)
      · repeat walk_at "s0"
        refine j_ifs ?_ (fun k1 => ?_)
        · repeat walk_at "s"
          refine ite2 (fun h4 => ?_) (fun h4 => ?_)
          · repeat walk_at "s"
            refine ⟨by walk_at "len", fun t ht => ?_⟩
            exact q t _ _ _ upd_same (.cons (.str _) (.cons (.str _) (.cons (.str _) .nil))) (.both gx gy) (by rw [occ_3s]; rfl) (g.new ht)
          · have hk5 : 5 ≤ k := by
              have a1 : ¬ k < 3 := fun e => h (decide_eq_true e)
              have a2 : ¬ k = 3 := fun e => h3 (decide_eq_true e)
              have a3 : ¬ k = 4 := fun e => h4 (decide_eq_true e)
              omega
            repeat walk_at "s"
            refine ⟨by walk_at "len", fun p hp => ?_⟩
            obtain ⟨z, hz, hm⟩ := at_ok (xs := [V.str "mark", V.str "var", V.str "mark"]) (p := k - 5) (by omega) (by simp only [List.length_cons, List.length_nil]; omega)
            repeat walk_at "s"
            refine w_ixL (SqL.of upd_same) hz ?_
            obtain ⟨kd, rfl, hkd⟩ : ∃ kd : Str, z = V.str kd ∧ (kd = "mark" ∨ kd = "var") := by
              simp at hm
              rcases hm with rfl | rfl | rfl
              · exact ⟨_, rfl, .inl rfl⟩
              · exact ⟨_, rfl, .inr rfl⟩
              · exact ⟨_, rfl, .inl rfl⟩
            repeat walk_at "s"
            refine ⟨a, c, 10, rfl, g3.fl.new hp, by omega, by omega, fun n H4 n0 n1 g4 => ?_⟩
            obtain ⟨m, rfl⟩ : ∃ m : Nat, n = (m : Int) := ⟨n.toNat, by omega⟩
            repeat walk_at "s"
            refine ⟨by walk_at "len", fun t ht => ?_⟩
            exact q t _ _ _ upd_same (.cons (.str _) (.cons (.int _) (.cons (.str _) .nil))) (.ms hkd (by omega) gx) (by rw [occ_3s]; rfl) (((g.new hp).trans g4).new ht)
        · repeat walk_at "s"
          refine ite2 (fun h4 => ?_) (fun h4 => iteF k1)
          repeat walk_at "s"
          refine ite2 (fun h5 => ?_) (fun h5 => k1)
          repeat walk_at "s"
          refine ⟨by walk_at "len", fun t ht => ?_⟩
          exact q t _ _ _ upd_same (.cons (.str _) (.cons (.str _) (.cons (.str _) .nil))) (.both gy gx) (by rw [occ_3s]; rfl) (g.new ht)
/-- flow and book change, nothing else -/
structure Gb (a c b : Addr) (H H' : Hp) : Prop where
  fr : ∀ x o, H x = some o → x ≠ a → x ≠ b → H' x = some o
  fl : Flow H' a c
theorem Gb.refl {a c b : Addr} {H : Hp} (h : Flow H a c) : Gb a c b H H := ⟨fun _ _ h _ _ => h, h⟩
theorem Gb.trans {a c b : Addr} {H H1 H2 : Hp} (p : Gb a c b H H1) (q : Gb a c b H1 H2) : Gb a c b H H2 := ⟨fun x o h n m => q.fr x o (p.fr x o h n m) n m, q.fl⟩
theorem Gb.go {a c b : Addr} {H H' : Hp} (g : Go a c H H') : Gb a c b H H' := ⟨fun x o h n _ => g.fr x o h n, g.fl⟩
theorem Gb.book {a c b : Addr} {H H' : Hp} (f : Fr b H H') (h : Flow H a c) (na : a ≠ b) (nc : c ≠ b) : Gb a c b H H' := by
  refine ⟨fun x o h _ m => f x o h m, ?_⟩
  obtain ⟨ca, ⟨ns, hc, hl⟩, ⟨p, l, m, m', o', ha, r⟩⟩ := h
  exact ⟨ca, ⟨ns, f _ _ hc nc, hl⟩, ⟨p, l, m, m', o', f _ _ ha na, r⟩⟩
theorem Flow.isl {H : Hp} {a c : Addr} (h : Flow H a c) : ∃ xs, H a = some (.lst xs) := by
  obtain ⟨p, l, b, m, o', ha, r⟩ := h.ha
  exact ⟨_, ha⟩
theorem Go.tk {a c : Addr} {H H' : Hp} (g : Go a c H H') (h : Flow H a c) : Tk H H' := fun b vs e => by
  obtain ⟨xs, ha⟩ := h.isl
  exact g.fr b _ e (ne_of e ha (by intro z; cases z))
/-- what stands at b: no list -/
theorem Bk.na {H : Hp} {a c b : Addr} {S : List PyData} (h : Bk H b S) (f : Flow H a c) : a ≠ b ∧ c ≠ b := by
  obtain ⟨⟨kvs, hb, _⟩, _, _⟩ := h
  obtain ⟨xs, ha⟩ := f.isl
  obtain ⟨ns, hc, _⟩ := f.hc
  exact ⟨ne_of ha hb (by intro z; cases z), ne_of hc hb (by intro z; cases z)⟩
theorem Bk.go {H H' : Hp} {a c b : Addr} {S : List PyData} (h : Bk H b S) (f : Flow H a c) (g : Go a c H H') : Bk H' b S := by
  obtain ⟨⟨kvs, hb, r⟩, ok, sub⟩ := id h
  exact h.mono (g.tk f) (by rw [g.fr b _ hb (h.na f).1.symm, hb])
def sp_grow : Sp := fun vs H Q _ => ∃ (a c nl b m : Addr) (zs : List Str) (S made : List PyData) (d0 : PyData) (most : Int), vs = [.ref a, .ref nl, .ref b, .ref m, .int most] ∧ Flow H a c ∧ H nl = some (.lst (zs.map V.str)) ∧ nl ≠ a ∧ 1 ≤ zs.length ∧ zs.length < 1000 ∧ (∀ z ∈ zs, Nm z) ∧ Bk H b S ∧ S.length ≤ 10000 ∧
  H m = some (.lst ((d0 :: made).map fun d => V.str (wr d))) ∧ m ≠ a ∧ made.length < 1000 ∧ (∀ d ∈ d0 :: made, d ∈ S) ∧ sz d0 = 1 ∧ 3 ≤ most ∧ most ≤ 1000 ∧
  ∀ (d : PyData) (H' : Hp), Vt d → (sz d : Int) ≤ most → Gb a c b H H' → Bk H' b (d :: S) → Q (.str (wr d)) H'
theorem ok_law_grow (T : Top K mg) : FnOk P w K mg base CX0 4 T.f_law_grow T.d_law_grow ["flow", "names", "book", "made", "most"] sp_grow := by
  refine T.F_law_grow.ok sc_law_grow (fun vs H Q E h => ?_) (fun cdv A outer s H vs Q E hr h => ?_)
  · obtain ⟨a, c, nl, b, m, zs, S, made, d0, most, rfl, _⟩ := h
    rfl
  · obtain ⟨a, c, nl, b, m, zs, S, made, d0, most, rfl, F, hnl, hna, hz1, hz2, hzs, hB, hS, hm, hma, hml, hmS, hd0, hm3, hm4, q⟩ := h
    refine ⟨_, (pss_cons (ps_set (i := 5) sc_law_grow.nd rfl (Or.inl rfl) (pe_ix ix_list (pv 3) (pe_op op_sub (pe_op op_sub (pe_callB call_len_seq (by rfl) T.z_len (by decide +kernel) (pa_cons (pv 3) pa_nil)) pe_int) (pe_call (ok_law_draw T) (hr.mono (by decide)) (by rfl) T.g_law_draw T.F_law_draw.kp T.b_law_draw .nil pass0 (pa_cons (pv 0) (pa_cons (pe_callB (call_min2 rfl) (by rfl) T.z_min (by decide +kernel) (pa_cons (pe_callB call_len_seq (by rfl) T.z_len (by decide +kernel) (pa_cons (pv 3) pa_nil)) (pa_cons pe_int pa_nil))) pa_nil)))) (fun _ _ => rfl)))
    (pss_cons (ps_set (i := 6) sc_law_grow.nd rfl (Or.inl rfl) (pe_call (ok_law_pick T) hr (by rfl) T.g_law_pick T.F_law_pick.kp T.b_law_pick .nil pass0 (pa_cons (pv 0) (pa_cons (pv 3) pa_nil))))
     (pss_cons (ps_if (pt_cmpR op_eq (pe_call (ok_law_draw T) (hr.mono (by decide)) (by rfl) T.g_law_draw T.F_law_draw.kp T.b_law_draw .nil pass0 (pa_cons (pv 0) (pa_cons pe_int pa_nil))) pe_int (nomark _))
      (pss_one (ps_par (i := 5) (j := 6) (by rfl) sc_law_grow.nd rfl rfl (by decide) rfl rfl (pa_cons (pv 6) (pa_cons (pv 5) pa_nil)) (by rfl)))
      pss_nil)
      (pss_cons (ps_if (pt_cmpR op_ge (pe_op op_add (pe_m1 PySem.F.slot_str_count PySem.F.type_str_count mt_count (pv 5) pe_str) (pe_m1 PySem.F.slot_str_count PySem.F.type_str_count mt_count (pv 6) pe_str)) (pv 4) (nomark _))
       (pss_one (ps_par (i := 5) (j := 6) (by rfl) sc_law_grow.nd rfl rfl (by decide) rfl rfl (pa_cons (pe_ix ix_list (pv 3) pe_int (fun _ _ => rfl)) (pa_cons (pe_ix ix_list (pv 3) pe_int (fun _ _ => rfl)) pa_nil)) (by rfl)))
       pss_nil)
       (pss_cons (ps_set (i := 7) sc_law_grow.nd rfl (Or.inl rfl) (pe_ix ix_list (pe_lst (pa_cons pe_str (pa_cons pe_str (pa_cons pe_str (pa_cons pe_str (pa_cons pe_str (pa_cons pe_str (pa_cons pe_str pa_nil)))))))) (pe_call (ok_law_draw T) (hr.mono (by decide)) (by rfl) T.g_law_draw T.F_law_draw.kp T.b_law_draw .nil pass0 (pa_cons (pv 0) (pa_cons pe_int pa_nil))) (fun _ _ => rfl)))
        (pss_one (ps_ret (pe_call (ok_law_compose T) (hr.mono (by decide)) (by rfl) T.g_law_compose T.F_law_compose.kp T.b_law_compose .nil pass0 (pa_cons (pv 2) (pa_cons (pv 7) (pa_cons (pv 5) (pa_cons (pv 6) (pa_cons (pe_call (ok_law_pick T) hr (by rfl) T.g_law_pick T.F_law_pick.kp T.b_law_pick .nil pass0 (pa_cons (pv 0) (pa_cons (pv 1) pa_nil))) pa_nil))))))))))))), ?_⟩
    have hok := hB.ok
    have hll : ((d0 :: made).map fun d => V.str (wr d)).length = made.length + 1 := by rw [List.length_map]; rfl
    have hzl : (zs.map V.str).length = zs.length := List.length_map _
    have hnb := hB.na F
    repeat walk_at "s"
    refine ⟨a, c, _, rfl, F, ?_, ?_, fun k H1 k0 k1 g1 => ?_⟩
    · rw [hll]; split <;> omega
    · rw [hll]; split <;> omega
    rw [hll] at k1
    have k2 : k ≤ made.length := by split at k1 <;> omega
    repeat walk_at "s"
    obtain ⟨d1, hd1, hat1⟩ := at_map (f := fun d => V.str (wr d)) (xs := d0 :: made) (p := ((made.length + 1 : Nat) : Int) - 1 - k) (by omega) (by rw [List.length_cons]; omega)
    rw [hll]
    refine w_ixL (SqL.of (g1.at hm hma)) hat1 ?_
    repeat walk_at "s"
    refine ⟨a, c, m, _, rfl, g1.fl, g1.at hm hma, hma, by omega, by omega, fun v2 H2 hv2 g2 => ?_⟩
    obtain ⟨d2, hd2, rfl⟩ := List.mem_map.mp hv2
    repeat walk_at "s"
    refine ⟨a, c, 2, rfl, g2.fl, by omega, by omega, fun j H3 j0 j1 g3 => ?_⟩
    have g := g1.trans (g2.trans g3)
    repeat walk_at "s"
    refine j_sig (J := fun σ => ∃ e1 e2 : PyData, e1 ∈ d0 :: made ∧ e2 ∈ d0 :: made ∧ σ = [some (.ref a), some (.ref nl), some (.ref b), some (.ref m), some (.int most), some (.str (wr e1)), some (.str (wr e2)), none]) ?_ (fun K => ite2 (fun h => ?_) (fun h => ?_))
    · rintro σ ⟨e1, e2, m1, m2, rfl⟩
      have he1 := cnt_wr (hok e1 (hmS e1 m1))
      have he2 := cnt_wr (hok e2 (hmS e2 m2))
      repeat walk_at "s"
      rw [he1, he2]
      refine j_sig (J := fun σ => ∃ e1 e2 : PyData, e1 ∈ d0 :: made ∧ e2 ∈ d0 :: made ∧ ((sz e1 + sz e2 : Nat) : Int) + 1 ≤ most ∧ σ = [some (.ref a), some (.ref nl), some (.ref b), some (.ref m), some (.int most), some (.str (wr e1)), some (.str (wr e2)), none]) ?_ (fun K => ite2 (fun h => ?_) (fun h => ?_))
      · rintro σ ⟨e1, e2, m1, m2, hs, rfl⟩
        repeat walk_at "s"
        refine ⟨by walk_at "len", fun p hp => ?_⟩
        repeat walk_at "s"
        refine ⟨a, c, 7, rfl, g3.fl.new hp, by omega, by omega, fun n H4 n0 n1 g4 => ?_⟩
        obtain ⟨z, hz, hzm⟩ := at_ok (xs := [V.str "pair", V.str "lock", V.str "digest", V.str "box", V.str "stamp", V.str "lock", V.str "pair"]) n0 (by simp only [List.length_cons, List.length_nil]; omega)
        refine w_ixL (SqL.of (g4.at upd_same (g3.fl.na hp))) hz ?_
        obtain ⟨kd, rfl, hkd⟩ : ∃ kd : Str, z = V.str kd ∧ (kd = "pair" ∨ kd = "lock" ∨ kd = "digest" ∨ kd = "box" ∨ kd = "stamp") := by
          simp at hzm
          rcases hzm with rfl | rfl | rfl | rfl | rfl | rfl | rfl
          · exact ⟨_, rfl, .inl rfl⟩
          · exact ⟨_, rfl, .inr (.inl rfl)⟩
          · exact ⟨_, rfl, .inr (.inr (.inl rfl))⟩
          · exact ⟨_, rfl, .inr (.inr (.inr (.inl rfl)))⟩
          · exact ⟨_, rfl, .inr (.inr (.inr (.inr rfl)))⟩
          · exact ⟨_, rfl, .inr (.inl rfl)⟩
          · exact ⟨_, rfl, .inl rfl⟩
        have g' := (g.new hp (o := .lst [V.str "pair", V.str "lock", V.str "digest", V.str "box", V.str "stamp", V.str "lock", V.str "pair"])).trans g4
        repeat walk_at "s"
        refine ⟨a, c, nl, _, rfl, g'.fl, g'.at hnl hna, hna, by omega, by omega, fun v5 H5 hv5 g5 => ?_⟩
        obtain ⟨nz, hnz, rfl⟩ := List.mem_map.mp hv5
        have g'' := g'.trans g5
        repeat walk_at "s"
        refine ⟨b, S, kd, nz, e1, e2, rfl, hB.go F g'', hS, hmS _ m1, hmS _ m2, by omega, hkd, fun _ => hzs _ hnz, fun d H6 hd f6 hB6 => ?_⟩
        have vd := hB6.ok d (List.mem_cons_self ..)
        have hsz : (sz d : Int) ≤ most := by
          rw [hd]
          unfold mkT
          split
          · rw [sz_3]; omega
          · split
            · rw [sz_2]; omega
            · rw [sz_3, sz_str]; omega
        exact q d H6 vd hsz ((Gb.go g'').trans (Gb.book f6 g''.fl hnb.1 hnb.2)) hB6
      · have at0 : atI ((d0 :: made).map fun d => V.str (wr d)) 0 = some (V.str (wr d0)) := atI_nat (j := 0) rfl
        repeat walk_at "s"
        refine w_ixL (SqL.of (g.at hm hma)) at0 ?_
        repeat walk_at "s"
        refine w_ixL (SqL.of (g.at hm hma)) at0 ?_
        exact ⟨_, _, rfl, K _ ⟨d0, d0, List.mem_cons_self .., List.mem_cons_self .., by omega, rfl⟩⟩
      · have h' := of_decide_eq_false (ofb h)
        exact K _ ⟨e1, e2, m1, m2, by omega, rfl⟩
    · exact ⟨_, rfl, _, rfl, _, _, rfl, K _ ⟨d2, d1, hd2, hd1, rfl⟩⟩
    · exact K _ ⟨d1, d2, hd1, hd2, rfl⟩
end
section
variable {σ : L2.St} {H : Hp} {Q : VK} {D : Ends} {K : PySem.W.Frag}
theorem w_ckw {r : List V → List V → Hp → VK → Prop} {t tk : TA} (q : t σ H fun vs H1 => tk σ H1 fun zs H2 => r vs zs H2 Q) : tCKw r t tk σ H Q := q
theorem w_ck0 {sp : Sp} {n : Nat} {gV : List V → List V} {E : XK} {tk : TA} (q : tk σ H fun zs H2 => zs.length = n ∧ sp (gV zs) H2 Q E) : tCallK0 sp n gV E tk σ H Q := q
theorem w_gtup {n : Nat} {t : TGs} {a : Addr} {xs : List V} {R : L2.St → Hp → Prop} (h : SqT K H a xs) (e : xs.length = n) (q : t xs σ H R) : gTup K n t (.ref a) σ H R := ⟨a, xs, rfl, h, e, q⟩
theorem w_gcons {t : TG} {u : TGs} {v : V} {r : List V} {R : L2.St → Hp → Prop} (q : t v σ H fun σ' H' => u r σ' H' R) : gCons t u (v :: r) σ H R := ⟨v, r, rfl, q⟩
theorem w_gnil {R : L2.St → Hp → Prop} (q : R σ H) : gNil [] σ H R := ⟨rfl, q⟩
theorem isi_s {z : Str} {n : String} {b : Bool} (k : kitB "str" n = some b) (q : Q (.bl b) H) : rIsi K [.str z, .ty n] H Q := ⟨_, _, _, _, b, rfl, .ty _, .base (.str z), kit_ty k, q⟩
theorem isi_i {z : Int} {n : String} {b : Bool} (k : kitB "int" n = some b) (q : Q (.bl b) H) : rIsi K [.int z, .ty n] H Q := ⟨_, _, _, _, b, rfl, .ty _, .base (.int z), kit_ty k, q⟩
theorem isi_t {a : Addr} {vs : List V} {n : String} {b : Bool} (h : H a = some (.tup vs)) (k : kitB "tuple" n = some b) (q : Q (.bl b) H) : rIsi K [.ref a, .ty n] H Q := ⟨_, _, _, _, b, rfl, .ty _, .base (.tup h), kit_ty k, q⟩
theorem isi_st {z : Str} (q : Q (.bl false) H) : rIsi K [.str z, .ty "tuple"] H Q := isi_s (by decide +kernel) q
theorem isi_ss {z : Str} (q : Q (.bl true) H) : rIsi K [.str z, .ty "str"] H Q := isi_s (by decide +kernel) q
theorem isi_it {z : Int} (q : Q (.bl false) H) : rIsi K [.int z, .ty "tuple"] H Q := isi_i (by decide +kernel) q
theorem isi_is {z : Int} (q : Q (.bl false) H) : rIsi K [.int z, .ty "str"] H Q := isi_i (by decide +kernel) q
theorem isi_ib {z : Int} (q : Q (.bl false) H) : rIsi K [.int z, .ty "bool"] H Q := isi_i (by decide +kernel) q
theorem isi_ii {z : Int} (q : Q (.bl true) H) : rIsi K [.int z, .ty "int"] H Q := isi_i (by decide +kernel) q
theorem isi_tt {a : Addr} {vs : List V} (h : H a = some (.tup vs)) (q : Q (.bl true) H) : rIsi K [.ref a, .ty "tuple"] H Q := isi_t h (by decide +kernel) q
theorem w_isN {C : Prop} (q : C) : V.non = V.non ∧ C := ⟨rfl, q⟩
theorem w_isB {a b : Bool} (q : Q (.bl (decide (a = b))) H) : rIsB (.bl a) (.bl b) H Q := ⟨a, b, rfl, rfl, q⟩
theorem w_notB {a b : Bool} (q : Q (.bl (!decide (a = b))) H) : rNotB (.bl a) (.bl b) H Q := ⟨a, b, rfl, rfl, q⟩
theorem w_zf {z : Str} {i : Int} {R : Str → Int → Prop} (n : PadOk i = true) (q : R z i) : ∃ a j, V.str z = .str a ∧ [V.int i] = [.int j] ∧ PadOk j = true ∧ R a j := ⟨z, i, rfl, rfl, n, q⟩
theorem w_tys {z : Str} {C : Prop} (q : C) : tyV K "str" (.str z) H ∧ C := ⟨rfl, q⟩
theorem w_revT {te : TE} (q : te σ H fun x H1 => ∃ a xs, x = .ref a ∧ SqT K H1 a xs ∧ ∀ p, H1 p = none → Q (.ref p) (upd H1 p (.tup xs.reverse))) : tRevT K te σ H Q := q
theorem w_andV {ta tb : TE} (q : ta σ H fun x H1 => ∃ c, x = .bl c ∧ if c = true then tb σ H1 Q else Q (.bl false) H1) : tAndV ta tb σ H Q := q
theorem w_orV {ta tb : TE} (q : ta σ H fun x H1 => ∃ c, x = .bl c ∧ if c = true then Q (.bl true) H1 else tb σ H1 Q) : tOrV ta tb σ H Q := q
theorem w_dnew (q : ∀ p, H p = none → Q (.ref p) (upd H p (.dK []))) : tDNewK σ H Q := q
theorem w_neB {i j : Bool} (q : Q (.bl (!decide (i = j))) H) : rNe (.bl i) (.bl j) H Q := ⟨rfl, by
  rw [show decide (V.bl i = V.bl j) = decide (i = j) from decide_eq_decide.mpr ⟨fun e => V.bl.inj e, fun e => e ▸ rfl⟩]
  exact q⟩
theorem w_chain {r1 r2 : R2} {ta tb tc : TE} (q : ta σ H fun x H1 => tb σ H1 fun y H2 => r1 x y H2 fun z H3 => ∃ k, z = .bl k ∧ if k = true then tc σ H3 fun u H4 => r2 y u H4 Q else Q (.bl false) H3) : tChain r1 r2 ta tb tc σ H Q := q
theorem sm_new {p : Addr} {o : HO} (h : H p = none) : Same H (upd H p o) := fun b u e => by rw [upd_ne (ne_of_none e h)]; exact e
end
theorem j_st {c : Prop} [Decidable c] {t u : TS} {D : Ends} {σ : L2.St} {H : Hp} (J : L2.St → Hp → Prop) (k : ∀ σ' H', J σ' H' → D.nx σ' H') (h : (∀ σ' H', J σ' H' → D.nx σ' H') → if c then t D σ H else u D σ H) : if c then t D σ H else u D σ H := h k
def tx (l : List PyData) : List V := l.map fun d => V.str (wr d)
theorem tx_app (l : List PyData) (d : PyData) : tx (l ++ [d]) = tx l ++ [V.str (wr d)] := by unfold tx; rw [List.map_append]; rfl
theorem last_of {l : List PyData} (h : l ≠ []) : ∃ d, d ∈ l ∧ atI (tx l) (-1) = some (V.str (wr d)) := by
  rcases List.eq_nil_or_concat l with rfl | ⟨r, d, rfl⟩
  · exact absurd rfl h
  · refine ⟨d, by simp, ?_⟩
    rw [List.concat_eq_append, tx_app]
    exact atI_last _ _
theorem tx_get {l : List PyData} {i : Nat} {v : V} (h : (tx l)[i]? = some v) : ∃ d, l[i]? = some d ∧ v = .str (wr d) := by
  unfold tx at h
  rw [List.getElem?_map] at h
  cases e : l[i]? with
  | none => rw [e] at h; cases h
  | some d => rw [e] at h; cases h; exact ⟨d, rfl, rfl⟩
local macro_rules | `(tactic| walk_at "s0") => `(tactic| with_reducible first
  | apply w_ckw | apply w_chain | apply w_neB | apply w_andV | apply w_orV | apply w_dnew | apply w_ck0 | apply w_gcons | apply w_gnil | apply isi_st | apply isi_ss | apply isi_it | apply isi_is | apply isi_ib | apply isi_ii | (apply isi_tt; (case h => with_unfolding_all walk_at "hp"))
  | apply w_isN | apply w_isB | apply w_notB | apply w_tys | apply w_revT | (apply w_gtup; (case h => with_unfolding_all walk_at "st"); (case e => with_unfolding_all rfl)))
/-! ### the text that a law orders by: six figures of the size, then the written form -/
theorem lex_app : ∀ {a b : List Nat} (r s : List Nat), a.length = b.length → (a ++ r < b ++ s ↔ a < b ∨ (a = b ∧ r < s))
  | [], [], r, s, _ => ⟨fun h => .inr ⟨rfl, h⟩, fun h => h.elim (fun h => absurd h (List.lt_irrefl _)) (·.2)⟩
  | x :: a, y :: b, r, s, h => by
    have ih := lex_app r s (Nat.succ.inj h : a.length = b.length)
    rw [List.cons_append, List.cons_append, List.cons_lt_cons_iff, List.cons_lt_cons_iff, ih]
    constructor
    · rintro (h | ⟨e, h | ⟨e2, h⟩⟩)
      · exact .inl (.inl h)
      · exact .inl (.inr ⟨e, h⟩)
      · exact .inr ⟨by rw [e, e2], h⟩
    · rintro ((h | ⟨e, h⟩) | ⟨e, h⟩)
      · exact .inl h
      · exact .inr ⟨e, .inl h⟩
      · exact .inr ⟨(List.cons.inj e).1, .inr ⟨(List.cons.inj e).2, h⟩⟩
/-- the last k figures -/
def fig : Nat → Nat → List Nat
  | 0, _ => []
  | k + 1, n => fig k (n / 10) ++ [48 + n % 10]
theorem fig_len : ∀ k n, (fig k n).length = k
  | 0, _ => rfl
  | k + 1, n => by rw [fig, List.length_append, fig_len k]; rfl
theorem fig_inj : ∀ {k m n : Nat}, m < 10 ^ k → n < 10 ^ k → fig k m = fig k n → m = n
  | 0, m, n, hm, hn, _ => by simp at hm hn; omega
  | k + 1, m, n, hm, hn, e => by
    rw [fig, fig] at e
    obtain ⟨e1, e2⟩ := List.append_inj e (by rw [fig_len, fig_len])
    have := fig_inj (k := k) (m := m / 10) (n := n / 10) (by rw [Nat.pow_succ] at hm; omega) (by rw [Nat.pow_succ] at hn; omega) e1
    have h2 := (List.cons.inj e2).1
    omega
theorem fig_lt : ∀ {k m n : Nat}, m < 10 ^ k → n < 10 ^ k → (fig k m < fig k n ↔ m < n)
  | 0, m, n, hm, hn => by
    simp at hm hn
    subst hm hn
    exact ⟨fun h => absurd h (List.lt_irrefl _), fun h => absurd h (Nat.lt_irrefl _)⟩
  | k + 1, m, n, hm, hn => by
    have a : m / 10 < 10 ^ k := by rw [Nat.pow_succ] at hm; omega
    have b : n / 10 < 10 ^ k := by rw [Nat.pow_succ] at hn; omega
    have ih := fig_lt a b
    rw [fig, fig, lex_app _ _ (by rw [fig_len, fig_len]), ih, List.cons_lt_cons_iff]
    constructor
    · rintro (h | ⟨e, h | ⟨_, h⟩⟩)
      · omega
      · have := fig_inj a b e
        omega
      · exact absurd h (List.lt_irrefl _)
    · intro h
      by_cases e : m / 10 = n / 10
      · exact .inr ⟨by rw [e], .inl (by omega)⟩
      · exact .inl (by omega)
theorem fig_num : ∀ {k n : Nat}, n < 10 ^ k → 0 < k → fig k n = List.replicate (k - (TL.numL n).length) 48 ++ TL.numL n
  | 0, _, _, h => absurd h (Nat.lt_irrefl _)
  | 1, n, hn, _ => by
    simp at hn
    rw [TL.numL_lt (by omega)]
    show [48 + n % 10] = [48 + n]
    rw [Nat.mod_eq_of_lt (by omega)]
  | k + 2, n, hn, _ => by
    have a : n / 10 < 10 ^ (k + 1) := by rw [Nat.pow_succ] at hn; omega
    have ih := fig_num a (Nat.succ_pos _)
    have hl := TL.numL_len (Nat.succ_pos k) a
    show fig (k + 1) (n / 10) ++ [48 + n % 10] = _
    rw [ih]
    by_cases h : n < 10
    · rw [TL.numL_lt h, TL.numL_lt (show n / 10 < 10 by omega)]
      have e : n / 10 = 0 := by omega
      rw [e, Nat.mod_eq_of_lt h]
      show List.replicate k 48 ++ [48] ++ [48 + n] = List.replicate (k + 1) 48 ++ [48 + n]
      rw [List.replicate_succ']
    · rw [TL.numL_step (n := n) (by omega)]
      have e : (TL.numL (n / 10) ++ [48 + n % 10]).length = (TL.numL (n / 10)).length + 1 := by rw [List.length_append]; rfl
      rw [e, List.append_assoc]
      congr 2
      omega
def ky (d : PyData) : Str := Txt.zfill (Str.ofString (toString ((sz d : Nat) : Int))) 6 ++ wr d
theorem cd_num (n : Nat) : cd (Str.ofString (toString ((n : Nat) : Int))) = TL.numL n := TL.tl_num n
theorem cd_zfill {n : Nat} (h : n < 1000000) : cd (Txt.zfill (Str.ofString (toString ((n : Nat) : Int))) 6) = fig 6 n := by
  have hl := TL.numL_len (k := 6) (n := n) (by decide) h
  have hn := cd_num n
  have hlen : (Str.ofString (toString ((n : Nat) : Int))).length = (TL.numL n).length := by rw [cd_len, hn]
  have hne := TL.numL_ne n
  rw [fig_num h (by decide)]
  unfold Txt.zfill
  rw [hlen]
  by_cases e : (6 : Int) ≤ ((TL.numL n).length : Int)
  · rw [if_pos e, hn]
    have : 6 - (TL.numL n).length = 0 := by omega
    rw [this]
    rfl
  · rw [if_neg e]
    have e6 : (6 : Int).toNat - (TL.numL n).length = 6 - (TL.numL n).length := rfl
    rw [e6]
    unfold zfilled
    have h0 : ∃ c, (Str.ofString (toString ((n : Nat) : Int))).cps[0]? = some c ∧ 48 ≤ c ∧ c ≤ 57 := by
      obtain ⟨c, l, hc⟩ := List.exists_cons_of_ne_nil hne
      refine ⟨c, ?_, ?_⟩
      · rw [← Array.getElem?_toList]
        show (cd (Str.ofString (toString ((n : Nat) : Int))))[0]? = some c
        rw [hn, hc]
        rfl
      · have := TL.numL_digits n c (by rw [hc]; exact List.mem_cons_self ..)
        exact this
    obtain ⟨c, hc, h1, h2⟩ := h0
    rw [hc]
    have hp : Builtin.Str.padded (Str.ofString (toString ((n : Nat) : Int))) (6 - (TL.numL n).length) 0 48 = ⟨(List.replicate (6 - (TL.numL n).length) 48 ++ TL.numL n).toArray⟩ := by
      apply cd_ext
      rw [cd_mk, ← hn]
      unfold Builtin.Str.padded cd
      simp
    split
    · rename_i q; cases q; omega
    · rename_i q; cases q; omega
    · rw [hp, cd_mk]
/-- the order of two keys is that of sizes and written forms -/
theorem ky_lt {d e : PyData} (hd : sz d < 1000000) (he : sz e < 1000000) : ((ky d).cps.toList < (ky e).cps.toList ↔ lexIS ((sz d : Int), wr d) ((sz e : Int), wr e) = true) := by
  show cd (ky d) < cd (ky e) ↔ _
  unfold ky
  rw [cd_app, cd_app, cd_zfill hd, cd_zfill he, lex_app _ _ (by rw [fig_len, fig_len]), fig_lt (k := 6) hd he]
  unfold lexIS
  by_cases h : ((sz d : Nat) : Int) = ((sz e : Nat) : Int)
  · have h' : sz d = sz e := by omega
    rw [if_pos h, decide_eq_true_iff, h']
    exact ⟨fun q => q.elim (fun q => absurd q (Nat.lt_irrefl _)) (·.2), fun q => .inr ⟨rfl, q⟩⟩
  · rw [if_neg h, decide_eq_true_iff]
    constructor
    · rintro (q | ⟨q, _⟩)
      · omega
      · have := fig_inj (k := 6) hd he q; omega
    · intro q; exact .inl (by omega)
theorem ky_inj {d e : PyData} (hd : Vt d) (he : Vt e) (h1 : sz d < 1000000) (h2 : sz e < 1000000) (h : ky d = ky e) : d = e := by
  have q := congrArg cd h
  unfold ky at q
  rw [cd_app, cd_app, cd_zfill h1, cd_zfill h2] at q
  exact wr_inj hd he (cd_ext (List.append_inj q (by rw [fig_len, fig_len])).2)
/-! ### sorted texts -/
theorem ltC (a b : List Nat) : ltCps a b = decide (a < b) := by
  induction a generalizing b with
  | nil => cases b with
    | nil => exact (decide_eq_false (List.lt_irrefl _)).symm
    | cons y b => exact (decide_eq_true (List.nil_lt_cons ..)).symm
  | cons x a ih => cases b with
    | nil => exact (decide_eq_false (List.not_lt_nil _)).symm
    | cons y b =>
      show (decide (x < y) || (x == y && ltCps a b)) = _
      rw [ih b]
      by_cases h : x :: a < y :: b
      · rw [decide_eq_true h]
        rcases List.cons_lt_cons_iff.mp h with h | ⟨e, h⟩
        · rw [decide_eq_true h]; rfl
        · rw [decide_eq_true h, e, beq_self_eq_true, Bool.and_true, Bool.or_true]
      · rw [decide_eq_false h]
        have h1 : ¬ x < y := fun q => h (List.cons_lt_cons_iff.mpr (.inl q))
        rw [decide_eq_false h1]
        by_cases e : x = y
        · have h2 : ¬ a < b := fun q => h (List.cons_lt_cons_iff.mpr (.inr ⟨e, q⟩))
          rw [decide_eq_false h2, Bool.and_false]; rfl
        · rw [beq_eq_false_iff_ne.mpr e]; rfl
theorem rising_pw : ∀ (l : List Str) (p : Str), risingS p l = true → (p :: l).Pairwise (fun x y => ¬ cd y < cd x)
  | [], p, _ => List.pairwise_singleton _ _
  | x :: r, p, h => by
    have h' : (!ltCps x.cps.toList p.cps.toList && risingS x r) = true := h
    rw [Bool.and_eq_true, ltC] at h'
    have h1 : ¬ cd x < cd p := by
      intro q
      have e : decide (x.cps.toList < p.cps.toList) = true := decide_eq_true q
      rw [e] at h'
      exact absurd h'.1 (by decide)
    have ih := rising_pw r x h'.2
    refine List.pairwise_cons.mpr ⟨fun y hy => ?_, ih⟩
    rcases List.mem_cons.mp hy with rfl | hy
    · exact h1
    · have h2 := (List.pairwise_cons.mp ih).1 y hy
      exact List.not_lt.mpr (List.le_trans (List.not_lt.mp h1) (List.not_lt.mp h2))
theorem sorted_pw (l : List Str) (h : sortedS l = true) : l.Pairwise (fun x y => ¬ cd y < cd x) := by
  cases l with
  | nil => exact .nil
  | cons x r => exact rising_pw r x h
theorem perm_map_ex {α β : Type} {f : α → β} : ∀ {l : List β} {ds : List α}, l.Perm (ds.map f) → ∃ es : List α, es.Perm ds ∧ l = es.map f
  | [], ds, h => by
    have h1 := h.length_eq
    rw [List.length_map] at h1
    have : ds = [] := List.eq_nil_of_length_eq_zero h1.symm
    subst this
    exact ⟨[], .refl _, rfl⟩
  | y :: r, ds, h => by
    obtain ⟨d, hd, e⟩ := List.mem_map.mp (h.subset (List.mem_cons_self ..))
    obtain ⟨s, t, rfl⟩ := List.append_of_mem hd
    subst e
    rw [List.map_append, List.map_cons] at h
    have h2 := (h.trans List.perm_middle).cons_inv
    rw [← List.map_append] at h2
    obtain ⟨es, pe, er⟩ := perm_map_ex h2
    exact ⟨d :: es, (pe.cons d).trans List.perm_middle.symm, by rw [er]; rfl⟩
/-- two rows of terms in order, of the same terms, are the same -/
theorem order_eq {fs es : List PyData} (hv : ∀ d ∈ fs, Vt d ∧ sz d < 1000000) (hw : ∀ d ∈ es, Vt d ∧ sz d < 1000000) (p : fs.Perm es) (hf : fs.Pairwise (fun x y => lexIS (((sz y : Nat) : Int), wr y) (((sz x : Nat) : Int), wr x) = false)) (he : (es.map ky).Pairwise (fun x y => ¬ cd y < cd x)) : fs = es := by
  have hf' : (fs.map ky).Pairwise (fun x y => ¬ cd y < cd x) := by
    rw [List.pairwise_map]
    refine hf.imp_of_mem fun {a b} ha hb h => ?_
    intro q
    rw [(ky_lt (hv b hb).2 (hv a ha).2).mp q] at h
    cases h
  have e := List.Perm.eq_of_pairwise (le := fun x y => ¬ cd y < cd x) (fun a b _ _ h1 h2 => cd_ext (List.le_antisymm (List.not_lt.mp h1) (List.not_lt.mp h2))) hf' he (p.map ky)
  have inj : ∀ {fs es : List PyData}, (∀ d ∈ fs, Vt d ∧ sz d < 1000000) → (∀ d ∈ es, Vt d ∧ sz d < 1000000) → fs.map ky = es.map ky → fs = es := by
    intro fs
    induction fs with
    | nil => intro es _ _ e; cases es with | nil => rfl | cons _ _ => cases e
    | cons a r ih =>
      intro es h1 h2 e
      cases es with
      | nil => cases e
      | cons b t =>
        obtain ⟨e1, e2⟩ := List.cons.inj e
        have a1 := h1 a (List.mem_cons_self ..)
        have b1 := h2 b (List.mem_cons_self ..)
        rw [ky_inj a1.1 b1.1 a1.2 b1.2 e1, ih (fun d hd => h1 d (List.mem_cons_of_mem _ hd)) (fun d hd => h2 d (List.mem_cons_of_mem _ hd)) e2]
  exact inj hv hw e
/-! ### the order of terms -/
theorem vt_pre {d : PyData} (h : Vt d) (hs : sz d ≤ 20000) : (occ d).length ≤ 100000 ∧ ∀ e ∈ occ d, (wr e).length ≤ 1000000 := by
  refine ⟨Nat.le_trans hs (by decide), fun e he => ?_⟩
  obtain ⟨h1, h2⟩ := vt_occ h e he
  have := vt_len h1
  omega
def rk (d : PyData) : Int × Str := (((sz d : Nat) : Int), wr d)
def sp_rank : Sp := fun vs H Q _ => ∃ (v : V) (d : PyData), vs = [v] ∧ DAt H v d ∧ Vt d ∧ sz d ≤ 20000 ∧ ∀ (p : Addr) (H' : Hp), Same H H' → H' p = some (.tup [.int (rk d).1, .str (rk d).2]) → Q (.ref p) H'
def sp_less : Sp := fun vs H Q _ => ∃ (v u : V) (d e : PyData), vs = [v, u] ∧ DAt H v d ∧ DAt H u e ∧ Vt d ∧ Vt e ∧ sz d ≤ 20000 ∧ sz e ≤ 20000 ∧ ∀ H', Same H H' → Q (.bl (lexIS (rk d) (rk e))) H'
def sp_in_order : Sp := fun vs H Q _ => ∃ (a : Addr) (ts : List Addr) (g : Addr → Int × Str), vs = [.ref a] ∧ H a = some (.tup (ts.map V.ref)) ∧ ts.length < 100000 ∧ (∀ t ∈ ts, ∃ d, DAt H (.ref t) d ∧ Vt d ∧ sz d ≤ 20000 ∧ g t = rk d) ∧
  ∀ (p : Addr) (out : List Addr) (H' : Hp), Same H H' → H' p = some (.tup (out.map V.ref)) → out.Perm ts → out.Pairwise (fun x y => lexIS (g y) (g x) = false) → Q (.ref p) H'
section
variable {P : Program} {w : World} {K : PySem.W.Frag} {mg : Str → Option Value} {base : Heap}
theorem ok_rank (T : Top K mg) : FnOk P w K mg base CX0 3 T.f_rank T.d_rank ["term"] sp_rank := by
  refine T.F_rank.ok sc_rank (fun vs H Q E h => ?_) (fun cdv A outer s H vs Q E hr h => ?_)
  · obtain ⟨v, d, rfl, _⟩ := h
    rfl
  · obtain ⟨v, d, rfl, hd, hv, hs, q⟩ := h
    refine ⟨_, (pss_one (ps_ret (pe_tup (pa_cons (pe_call (oksize T) hr (by rfl) T.gsize T.Fsize.kp T.bsize .nil pass0 (pa_cons (pv 0) pa_nil)) (pa_cons (pe_call (okkey_of T) hr (by rfl) T.gkey_of T.Fkey_of.kp T.bkey_of .nil pass0 (pa_cons (pv 0) pa_nil)) pa_nil))))), ?_⟩
    obtain ⟨h1, h2⟩ := vt_pre hv hs
    repeat walk_at "s"
    refine ⟨v, d, rfl, hd, hv.tup, h1, fun H1 s1 => ?_⟩
    repeat walk_at "s"
    refine ⟨v, d, rfl, hd.mono (Tk.same s1), hv.tup, hv.good, h1, h2, fun H2 s2 => ?_⟩
    repeat walk_at "s"
    refine ⟨by walk_at "len", fun p hp => ?_⟩
    exact q p _ ((s1.trans s2).trans (sm_new hp)) upd_same
theorem okin_order (T : Top K mg) : FnOk P w K mg base CX0 6 T.fin_order T.din_order ["row"] sp_in_order := by
  refine T.Fin_order.ok scin_order (fun vs H Q E h => ?_) (fun cdv A outer s H vs Q E hr h => ?_)
  · obtain ⟨a, ts, g, rfl, _⟩ := h
    rfl
  · obtain ⟨a, ts, g, rfl, ha, hn, hg, q⟩ := h
    refine ⟨_, (pss_one (ps_ret (pe_callTy call_tuple_of (by rfl) T.z_tuple (by decide +kernel) (pa_cons (pe_callBK (cr_sortedKF (ok_rank T) hr T.b_rank) (by rfl) T.z_sorted (by decide +kernel) (pa_cons (pv 0) pa_nil) (pk_cons (pe_glob (v := .ref T.f_rank) (by rfl) T.g_rank rfl) pk_nil)) pa_nil)))), ?_⟩
    repeat walk_at "s"
    refine ⟨a, ts, g, rfl, rfl, .inr (SqT.of ha), hn, fun t ht H1 s1 Q1 E1 q1 => ?_, fun H1 p out s1 hp e1 po so => ?_⟩
    · obtain ⟨d, hd, hv, hs, eg⟩ := hg t ht
      refine ⟨.ref t, d, rfl, hd.mono (Tk.same s1), hv, hs, fun p H2 s2 e2 => q1 p H2 s2 ?_⟩
      rw [eg]
      exact e2
    repeat walk_at "s"
    refine ⟨p, _, rfl, .inl ⟨SqL.of e1, fun l hl => ?_⟩⟩
    repeat walk_at "s"
    exact q l out _ (s1.trans (sm_new hl)) upd_same po so
end
section
variable {P : Program} {w : World} {K : PySem.W.Frag} {mg : Str → Option Value} {base : Heap}
theorem okis_less (T : Top K mg) : FnOk P w K mg base CX0 4 T.fis_less T.dis_less ["first", "second"] sp_less := by
  refine T.Fis_less.ok scis_less (fun vs H Q E h => ?_) (fun cdv A outer s H vs Q E hr h => ?_)
  · obtain ⟨v, u, d, e, rfl, _⟩ := h
    rfl
  · obtain ⟨v, u, d, e, rfl, hd, he, vd, ve, sd, se, q⟩ := h
    have hu := hu_of hr
    refine ⟨_, (pss_one (ps_ret (pe_cmpR (op_ltIS (Nat.lt_of_succ_lt hu)) (pe_call (ok_rank T) hr (by rfl) T.g_rank T.F_rank.kp T.b_rank .nil pass0 (pa_cons (pv 0) pa_nil)) (pe_call (ok_rank T) hr (by rfl) T.g_rank T.F_rank.kp T.b_rank .nil pass0 (pa_cons (pv 1) pa_nil)) (nomark _)))), ?_⟩
    repeat walk_at "s"
    refine ⟨v, d, rfl, hd, vd, sd, fun p H1 s1 e1 => ?_⟩
    repeat walk_at "s"
    refine ⟨u, e, rfl, he.mono (Tk.same s1), ve, se, fun p2 H2 s2 e2 => ?_⟩
    refine ⟨p, p2, _, _, _, _, rfl, rfl, SqT.of (s2 _ _ e1), SqT.of e2, ?_⟩
    repeat walk_at "s"
    exact q H2 (s1.trans s2)
end
/-! ### equal data -/
mutual
def nd : PyData → Nat
  | .tuple ds => nds ds + 1
  | _ => 1
def nds : List PyData → Nat
  | [] => 0
  | d :: r => nd d + nds r
end
theorem nds_app : ∀ a b : List PyData, nds (a ++ b) = nds a + nds b
  | [], b => by show nds b = 0 + nds b; omega
  | d :: r, b => by
    show nd d + nds (r ++ b) = (nd d + nds r) + nds b
    rw [nds_app r b]; omega
theorem nd_pos (d : PyData) : 1 ≤ nd d := by cases d <;> first | exact Nat.le_refl _ | exact Nat.le_add_left _ _
theorem nds_len : ∀ l : List PyData, l.length ≤ nds l
  | [] => Nat.le_refl _
  | d :: r => by
    have := nds_len r
    have := nd_pos d
    show r.length + 1 ≤ nd d + nds r
    omega
theorem nd_vt {d : PyData} (h : Vt d) : nd d ≤ 4 * sz d := by
  induction h with
  | nm hk hz => rw [sz_2, sz_str]; exact (by decide : 3 ≤ 4)
  | road hn => rw [sz_2, sz_int]; exact (by decide : 3 ≤ 4)
  | both hx hy => rw [sz_3, sz_str, sz_str]; exact (by decide : 4 ≤ 4)
  | ms hk hn hz => rw [sz_3, sz_int, sz_str]; exact (by decide : 4 ≤ 4)
  | @two k a b hk hx hy ihx ihy =>
    rw [sz_3]
    show 1 + (nd a + (nd b + 0)) + 1 ≤ _
    omega
  | @dig a hx ihx =>
    rw [sz_2]
    show 1 + (nd a + 0) + 1 ≤ _
    omega
  | @nmd k z a hk hx hz ihx =>
    rw [sz_3, sz_str]
    show 1 + (nd a + (1 + 0)) + 1 ≤ _
    omega
/-- leaves that a term has -/
inductive Pl : PyData → Prop
  | str (z : Str) : Pl (.str z)
  | int (i : Int) : Pl (.int i)
  | tup {ds : List PyData} (h : ∀ d ∈ ds, Pl d) : Pl (.tuple ds)
theorem pl_vt {d : PyData} (h : Vt d) : Pl d := by
  induction h with
  | nm hk hz => exact .tup (by intro d hd; simp at hd; rcases hd with rfl | rfl <;> exact .str _)
  | road hn => exact .tup (by intro d hd; simp at hd; rcases hd with rfl | rfl; exact .str _; exact .int _)
  | both hx hy => exact .tup (by intro d hd; simp at hd; rcases hd with rfl | rfl | rfl <;> exact .str _)
  | ms hk hn hz => exact .tup (by intro d hd; simp at hd; rcases hd with rfl | rfl | rfl; exact .str _; exact .int _; exact .str _)
  | two hk hx hy ihx ihy => exact .tup (by intro d hd; simp at hd; rcases hd with rfl | rfl | rfl; exact .str _; exact ihx; exact ihy)
  | dig hx ihx => exact .tup (by intro d hd; simp at hd; rcases hd with rfl | rfl; exact .str _; exact ihx)
  | nmd hk hx hz ihx => exact .tup (by intro d hd; simp at hd; rcases hd with rfl | rfl | rfl; exact .str _; exact ihx; exact .str _)
/-- pairs of values that stand for the same data -/
inductive Prs (H : Hp) : List V → List PyData → Prop
  | nil : Prs H [] []
  | snoc {ps : List V} {qs : List PyData} {p : Addr} {x y : V} {d : PyData} : Prs H ps qs → H p = some (.tup [x, y]) → DAt H x d → DAt H y d → Pl d → Prs H (ps ++ [.ref p]) (qs ++ [d])
theorem Prs.mono {H H' : Hp} (t : Tk H H') {ps : List V} {qs : List PyData} (h : Prs H ps qs) : Prs H' ps qs := by
  induction h with
  | nil => exact .nil
  | snoc _ h1 h2 h3 h4 ih => exact .snoc ih (t _ _ h1) (h2.mono t) (h3.mono t) h4
theorem Prs.len {H : Hp} {ps : List V} {qs : List PyData} (h : Prs H ps qs) : ps.length = qs.length := by
  induction h with
  | nil => rfl
  | snoc _ _ _ _ _ ih => rw [List.length_append, List.length_append, ih]; rfl
def sp_same : Sp := fun vs H Q _ => ∃ (x y : V) (d : PyData), vs = [x, y] ∧ DAt H x d ∧ DAt H y d ∧ Pl d ∧ nd d ≤ 1000000 ∧ ∀ H', Same H H' → Q (.bl true) H'
section
variable {P : Program} {w : World} {K : PySem.W.Frag} {mg : Str → Option Value} {base : Heap}
theorem ok_law_same (T : Top K mg) : FnOk P w K mg base CX0 1 T.f_law_same T.d_law_same ["actual", "due"] sp_same := by
  refine T.F_law_same.ok sc_law_same (fun vs H Q E h => ?_) (fun cdv A outer s H vs Q E hr h => ?_)
  · obtain ⟨x, y, d, rfl, _⟩ := h
    rfl
  · obtain ⟨x, y, d, rfl, hx, hy, hpl, hn, q⟩ := h
    refine ⟨_, (pss_cons (ps_set (i := 2) sc_law_same.nd rfl (Or.inl rfl) (pe_lst (pa_cons (pe_tup (pa_cons (pv 0) (pa_cons (pv 1) pa_nil))) pa_nil)))
    (pss_cons (ps_while PassesOwn.never (pt_truth (pv 2) (by intro _; rfl))
     (pss_cons (ps_asg (pe_bm0 PySem.F.plainAttrs_list PySem.F.slot_list_pop PySem.F.type_list_pop mt_pop (pv 2)) (pg_tup (by rfl) (pgs_cons (pg_name (i := 3) sc_law_same.nd rfl (Or.inl rfl)) (pgs_cons (pg_name (i := 4) sc_law_same.nd rfl (Or.inl rfl)) pgs_nil))))
      (pss_one (ps_if (pt_val (pe_callB call_isi (by rfl) T.z_isinstance (by decide +kernel) (pa_cons (pv 4) (pa_cons (pe_bltn (v := .ty "tuple") (by rfl) T.z_tuple (by decide +kernel) rfl) pa_nil))))
       (pss_cons (ps_if (PW.pt (pw_or (pt_not (pt_val (pe_callB call_isi (by rfl) T.z_isinstance (by decide +kernel) (pa_cons (pv 3) (pa_cons (pe_bltn (v := .ty "tuple") (by rfl) T.z_tuple (by decide +kernel) rfl) pa_nil))))) (pw_or1 (pt_cmpR op_ne (pe_callB call_len_seq (by rfl) T.z_len (by decide +kernel) (pa_cons (pv 3) pa_nil)) (pe_callB call_len_seq (by rfl) T.z_len (by decide +kernel) (pa_cons (pv 4) pa_nil)) (nomark _)))))
        (pss_one (ps_ret pe_bl))
        pss_nil)
        (pss_one (ps_for PassesOwn.never rfl (pi_range1 (by rfl) T.z_range (pa_cons (pe_callB call_len_seq (by rfl) T.z_len (by decide +kernel) (pa_cons (pv 4) pa_nil)) pa_nil)) (pg_name (i := 5) sc_law_same.nd rfl (Or.inl rfl))
         (pss_one (ps_expr (pe_bm PySem.F.plainAttrs_list PySem.F.slot_list_append PySem.F.type_list_append mt_append (pv 2) (pa_cons (pe_tup (pa_cons (pe_ix ix_tup (pv 3) (pv 5) (fun _ _ => rfl)) (pa_cons (pe_ix ix_tup (pv 4) (pv 5) (fun _ _ => rfl)) pa_nil))) pa_nil)))))))
       (pss_one (ps_if (pt_val (pe_callB call_isi (by rfl) T.z_isinstance (by decide +kernel) (pa_cons (pv 4) (pa_cons (pe_bltn (v := .ty "str") (by rfl) T.z_str (by decide +kernel) rfl) pa_nil))))
        (pss_one (ps_if (PW.pt (pw_or (pt_not (pt_val (pe_callB call_isi (by rfl) T.z_isinstance (by decide +kernel) (pa_cons (pv 3) (pa_cons (pe_bltn (v := .ty "str") (by rfl) T.z_str (by decide +kernel) rfl) pa_nil))))) (pw_or1 (pt_cmpR op_ne (pv 3) (pv 4) (nomark _)))))
         (pss_one (ps_ret pe_bl))
         pss_nil))
        (pss_one (ps_if (pt_cmpR op_isN (pv 4) pe_non (nomark _))
         (pss_one (ps_if (pt_cmpR op_notN (pv 3) pe_non (nomark _))
          (pss_one (ps_ret pe_bl))
          pss_nil))
         (pss_one (ps_if (PW.pt (pw_or (pt_val (pe_callB call_isi (by rfl) T.z_isinstance (by decide +kernel) (pa_cons (pv 3) (pa_cons (pe_bltn (v := .ty "bool") (by rfl) T.z_bool (by decide +kernel) rfl) pa_nil)))) (pw_or (pt_not (pt_val (pe_callB call_isi (by rfl) T.z_isinstance (by decide +kernel) (pa_cons (pv 3) (pa_cons (pe_bltn (v := .ty "int") (by rfl) T.z_int (by decide +kernel) rfl) pa_nil))))) (pw_or1 (pt_cmpR op_ne (pv 3) (pv 4) (nomark _))))))
          (pss_one (ps_ret pe_bl))
          pss_nil))))))))))
     (pss_one (ps_ret pe_bl)))), ?_⟩
    repeat walk_at "s"
    refine ⟨by walk_at "len", fun p hp => ?_⟩
    repeat walk_at "s"
    refine ⟨by walk_at "len", fun td ht => ?_⟩
    have s1 : Same H (upd (upd H p (.tup [x, y])) td (.lst [.ref p])) := (sm_new hp).trans (sm_new ht)
    have ht0 : H td = none := (sm_new hp).free ht
    repeat walk_at "s"
    refine w_while (fun m σ H' => ∃ (ps : List V) (qs : List PyData) (y3 y4 y5 : Option V), σ = [some x, some y, some (.ref td), y3, y4, y5] ∧ H' td = some (.lst ps) ∧ Prs H' ps qs ∧ m = nds qs ∧ m ≤ 1000000 ∧ Same H H') (nd d) ?_ ?_
    · refine ⟨[.ref p], [d], none, none, none, rfl, upd_same, ?_, ?_, hn, s1⟩
      · exact .snoc (ps := []) (qs := []) .nil ((sm_new ht) _ _ upd_same) (hx.mono (Tk.same s1)) (hy.mono (Tk.same s1)) hpl
      · show nd d = nd d + 0; rfl
    · rintro m σ H1 ⟨ps, qs, y3, y4, y5, rfl, e1, hp1, hm, hm2, sm⟩
      repeat walk_at "s"
      cases hp1 with
      | nil =>
        refine iteF ?_
        repeat walk_at "s"
        exact q H1 sm
      | @snoc ps' qs' p1 x1 y1 d1 hp1 g1 a1 b1 l1 =>
      have eb : (!(ps' ++ [V.ref p1]).isEmpty) = true := by cases ps' <;> rfl
      rw [eb]
      refine iteT ?_
      refine ⟨fun σ' H' => ∃ m', m' < m ∧ ∃ (ps : List V) (qs : List PyData) (y3 y4 y5 : Option V), σ' = [some x, some y, some (.ref td), y3, y4, y5] ∧ H' td = some (.lst ps) ∧ Prs H' ps qs ∧ m' = nds qs ∧ m' ≤ 1000000 ∧ Same H H', fun _ _ h => h, ?_⟩
      rw [nds_app] at hm
      have hm' : m = nds qs' + nd d1 := by rw [hm]; show nds qs' + (nd d1 + 0) = _; rfl
      have tk1 : ∀ o, Tk H1 (upd H1 td o) := fun o => Tk.lst e1
      have sm1 : ∀ o, Same H (upd H1 td o) := fun o b u e => by rw [upd_ne (ne_of_none e ht0)]; exact sm b u e
      have pos := nd_pos d1
      have np : p1 ≠ td := ne_of g1 e1 (by intro z; cases z)
      repeat walk_at "s"
      have fin : ∀ (y3 y4 y5 : Option V), nds qs' < m → ∃ m', m' < m ∧ ∃ (ps : List V) (qs : List PyData) (z3 z4 z5 : Option V), [some x, some y, some (.ref td), y3, y4, y5] = [some x, some y, some (.ref td), z3, z4, z5] ∧ upd H1 td (.lst ps') td = some (.lst ps) ∧ Prs (upd H1 td (.lst ps')) ps qs ∧ m' = nds qs ∧ m' ≤ 1000000 ∧ Same H (upd H1 td (.lst ps')) := fun y3 y4 y5 hlt =>
        ⟨nds qs', hlt, ps', qs', y3, y4, y5, rfl, upd_same, hp1.mono (tk1 _), rfl, by omega, sm1 _⟩
      cases l1 with
      | str z =>
        cases a1
        cases b1
        repeat walk_at "s"
        refine iteF ?_
        repeat walk_at "s"
        rw [decide_eq_true rfl]
        refine iteF ?_
        repeat walk_at "s"
        exact fin _ _ _ (by omega)
      | int z =>
        cases a1
        cases b1
        repeat walk_at "s"
        rw [decide_eq_false (fun h => by cases h)]
        refine iteF ?_
        repeat walk_at "s"
        refine iteF ?_
        repeat walk_at "s"
        rw [decide_eq_true rfl]
        refine iteF ?_
        repeat walk_at "s"
        exact fin _ _ _ (by omega)
      | @tup ds hds =>
        cases a1 with
        | @tup xa xvs _ hxa hxs =>
        cases b1 with
        | @tup ya yvs _ hya hys =>
        have nx : xa ≠ td := ne_of hxa e1 (by intro z; cases z)
        have ny : ya ≠ td := ne_of hya e1 (by intro z; cases z)
        have lx := hxs.length
        have ly := hys.length
        have hmt : m = nds qs' + (nds ds + 1) := hm'
        have ln1 := nds_len ds
        have ln2 := nds_len qs'
        have ed : (decide ((xvs.length : Int) = (yvs.length : Int))) = true := decide_eq_true (by omega)
        repeat walk_at "s"
        refine iteF ?_
        repeat walk_at "s"
        rw [ed]
        refine iteF ?_
        repeat walk_at "s"
        refine for_range (lo := 0) (n := (yvs.length : Int).toNat) (fun i σ H2 => ∃ (ps : List V) (v : Option V), σ = [some x, some y, some (.ref td), some (.ref xa), some (.ref ya), v] ∧ H2 td = some (.lst ps) ∧ Prs H2 ps (qs' ++ ds.take i) ∧ Tk H1 H2 ∧ Same H H2) ?_ ?_ ?_
        · exact ⟨ps', _, rfl, upd_same, by rw [List.take_zero, List.append_nil]; exact hp1.mono (tk1 _), tk1 _, sm1 _⟩
        · rintro i σ H2 hi ⟨ps, v, rfl, e2, pr, tk, sm2⟩
          have hil : i < ds.length := by omega
          obtain ⟨xv, hxv, axv⟩ := hxs.get' (List.getElem?_eq_getElem hil)
          obtain ⟨yv, hyv, ayv⟩ := hys.get' (List.getElem?_eq_getElem hil)
          have hpl := pr.len
          have htl : (ds.take i).length ≤ ds.length := by rw [List.length_take]; omega
          rw [List.length_append] at hpl
          repeat walk_at "s"
          refine w_ixT (SqT.of (tk _ _ hxa)) (by rw [Int.zero_add]; exact atI_nat hxv) ?_
          repeat walk_at "s"
          refine w_ixT (SqT.of (tk _ _ hya)) (by rw [Int.zero_add]; exact atI_nat hyv) ?_
          repeat walk_at "s"
          refine ⟨by walk_at "len", fun p2 hp2 => ?_⟩
          have n2 : td ≠ p2 := ne_of_none e2 hp2
          have e2' : upd H2 p2 (.tup [xv, yv]) td = some (.lst ps) := by rw [upd_ne n2]; exact e2
          have tk2 : Tk H2 (upd (upd H2 p2 (.tup [xv, yv])) td (.lst (ps ++ [.ref p2]))) := (Tk.new hp2).trans (Tk.lst e2')
          repeat walk_at "s"
          refine w_append e2' (Nat.lt_of_le_of_lt (show ps.length ≤ 1000000 by omega) (by decide)) ?_
          repeat walk_at "s"
          refine ⟨ps ++ [.ref p2], _, rfl, upd_same, ?_, tk.trans tk2, fun b o e => ?_⟩
          · have etk : ds.take (i + 1) = ds.take i ++ [ds[i]] := by rw [List.take_add_one, List.getElem?_eq_getElem hil]; rfl
            rw [etk, ← List.append_assoc]
            exact .snoc (pr.mono tk2) (by rw [upd_ne n2.symm]; exact upd_same) (axv.mono (tk.trans tk2)) (ayv.mono (tk.trans tk2)) (hds _ (List.getElem_mem hil))
          · rw [upd_ne (ne_of_none e ht0), upd_ne (ne_of_none (sm2 b o e) hp2)]
            exact sm2 b o e
        · rintro σ H2 ⟨ps, v, rfl, e2, pr, tk, sm2⟩
          rw [List.take_of_length_le (by omega)] at pr
          refine ⟨nds (qs' ++ ds), by rw [nds_app]; omega, ps, _, _, _, _, rfl, e2, pr, rfl, by rw [nds_app]; omega, sm2⟩
theorem log_small {n : Nat} (hn : n ≤ 999999) : ((n : Int)).natAbs.log2 < 1920 := by
  rw [Int.natAbs_natCast]
  by_cases h0 : n = 0
  · subst h0; decide
  · exact (Nat.log2_lt h0).mpr (Nat.lt_of_le_of_lt hn (Nat.lt_of_lt_of_le (show 999999 < 2 ^ 20 by decide) (Nat.pow_le_pow_right (by decide) (by decide))))
end
section
variable {P : Program} {w : World} {K : PySem.W.Frag} {mg : Str → Option Value} {base : Heap}
def sp_key : Sp := fun vs H Q _ => ∃ d : PyData, vs = [.str (wr d)] ∧ Vt d ∧ sz d ≤ 20000 ∧ Q (.str (ky d)) H
theorem ok_law_key (T : Top K mg) : FnOk P w K mg base CX0 1 T.f_law_key T.d_law_key ["text"] sp_key := by
  refine T.F_law_key.ok sc_law_key (fun vs H Q E h => ?_) (fun cdv A outer s H vs Q E hr h => ?_)
  · obtain ⟨d, rfl, _⟩ := h
    rfl
  · obtain ⟨d, rfl, hv, hs, q⟩ := h
    refine ⟨_, (pss_one (ps_ret (pe_op op_add_str (pe_bm PySem.F.plainAttrs_str PySem.F.slot_str_zfill PySem.F.type_str_zfill mt_zfill (pe_callTy call_str_int (by rfl) T.z_str (by decide +kernel) (pa_cons (pe_m1 PySem.F.slot_str_count PySem.F.type_str_count mt_count (pv 0) pe_str) pa_nil)) (pa_cons pe_int pa_nil)) (pv 0)))), ?_⟩
    have hc := cnt_wr hv
    have hl := vt_len hv
    have hz : (Txt.zfill (Str.ofString (toString ((sz d : Nat) : Int))) 6).length = 6 := by rw [cd_len, cd_zfill (by omega), fig_len]
    repeat walk_at "s"
    rw [hc]
    refine ⟨log_small (by omega), ?_⟩
    repeat walk_at "s"
    refine w_zf rfl ?_
    repeat walk_at "s"
    refine ⟨add_ok (by rw [hz]; omega), ?_⟩
    exact q
end
/-! ### terms near the made ones -/
theorem nm_pre {z : Str} (h : Nm z) : Nm (cutS z none (some (7 : Int))) ∧ (cutS z none (some (7 : Int))).length ≤ 7 := by
  have e : cd (cutS z none (some (7 : Int))) = (cd z).take 7 := cd_pre z 7
  have l := h.lo
  rw [cd_len] at l
  refine ⟨⟨?_, ?_, ?_⟩, ?_⟩
  · rw [cd_len, e, List.length_take]; omega
  · rw [cd_len, e, List.length_take]; omega
  · rw [e]; exact fun c hc => h.az c (List.mem_of_mem_take hc)
  · rw [cd_len, e, List.length_take]; omega
theorem nm_more {z : Str} {x : Nat} (h : Nm z) (hl : z.length ≤ 7) (h0 : 97 ≤ x) (h1 : x ≤ 122) : Nm (z ++ ⟨#[x]⟩) := by
  have l := h.lo
  refine ⟨?_, ?_, ?_⟩
  · rw [len_app]; omega
  · rw [len_app, len_one]; omega
  · rw [cd_app]
    intro c hc
    rcases List.mem_append.mp hc with hc | hc
    · exact h.az c hc
    · cases List.mem_singleton.mp hc
      exact ⟨h0, h1⟩
structure Nb (a c b l : Addr) (H H' : Hp) (S0 S near : List PyData) (n : Nat) : Prop where
  fr : ∀ x o, H x = some o → x ≠ a → x ≠ b → H' x = some o
  fl : Flow H' a c
  bk : Bk H' b S
  sub : ∀ d ∈ S0, d ∈ S
  nr : H' l = some (.lst (tx near))
  ns : ∀ d ∈ near, d ∈ S ∧ sz d ≤ 200
  le : S.length ≤ S0.length + n
  ln : near.length ≤ n
  l0 : H l = none
  la : l ≠ a
  lb : l ≠ b
  lc : l ≠ c
  ab : a ≠ b
  cb : c ≠ b
section
variable {a c b l : Addr} {H H' H'' : Hp} {S0 S near : List PyData} {n : Nat}
theorem Nb.go (h : Nb a c b l H H' S0 S near n) (g : Go a c H' H'') : Nb a c b l H H'' S0 S near n :=
  ⟨fun x o e h1 h2 => g.fr x o (h.fr x o e h1 h2) h1, g.fl, h.bk.go h.fl g, h.sub, g.fr _ _ h.nr h.la, h.ns, h.le, h.ln, h.l0, h.la, h.lb, h.lc, h.ab, h.cb⟩
theorem Nb.new (h : Nb a c b l H H' S0 S near n) {p : Addr} {o : HO} (e : H' p = none) : Nb a c b l H (upd H' p o) S0 S near n := h.go ((Go.refl h.fl).new e)
theorem Nb.put (h : Nb a c b l H H' S0 S near n) {d : PyData} (f : Fr b H' H'') (k : Bk H'' b (d :: S)) : Nb a c b l H H'' S0 (d :: S) near (n + 1) :=
  ⟨fun x o e h1 h2 => f x o (h.fr x o e h1 h2) h2, (Gb.book f h.fl h.ab h.cb).fl, k, fun e he => List.mem_cons_of_mem _ (h.sub e he), f _ _ h.nr h.lb, fun e he => ⟨List.mem_cons_of_mem _ (h.ns e he).1, (h.ns e he).2⟩, by have := h.le; rw [List.length_cons]; omega, by have := h.ln; omega, h.l0, h.la, h.lb, h.lc, h.ab, h.cb⟩
theorem Nb.app (h : Nb a c b l H H' S0 S near n) {d : PyData} (hd : d ∈ S) (hs : sz d ≤ 200) : Nb a c b l H (upd H' l (.lst (tx near ++ [V.str (wr d)]))) S0 S (near ++ [d]) (n + 1) := by
  have hb : ∃ kvs, H' b = some (.dK kvs) := by obtain ⟨kvs, e, _⟩ := h.bk.dict; exact ⟨kvs, e⟩
  refine ⟨fun x o e h1 h2 => ?_, h.fl.put h.la h.lc, h.bk.mono (Tk.lst h.nr) (by rw [upd_ne h.lb.symm]), h.sub, by rw [upd_same, tx_app], ?_, by have := h.le; omega, by have := h.ln; rw [List.length_append]; simp only [List.length_cons, List.length_nil]; omega, h.l0, h.la, h.lb, h.lc, h.ab, h.cb⟩
  · rw [upd_ne (ne_of_none e h.l0)]
    exact h.fr x o e h1 h2
  · intro e he
    rcases List.mem_append.mp he with he | he
    · exact h.ns e he
    · cases List.mem_singleton.mp he; exact ⟨hd, hs⟩
theorem Nb.up (h : Nb a c b l H H' S0 S near n) {m : Nat} (hm : n ≤ m) : Nb a c b l H H' S0 S near m :=
  ⟨h.fr, h.fl, h.bk, h.sub, h.nr, h.ns, by have := h.le; omega, by have := h.ln; omega, h.l0, h.la, h.lb, h.lc, h.ab, h.cb⟩
theorem Nb.sz (h : Nb a c b l H H' S0 S near n) (h0 : S0.length ≤ 9000) (hn : n ≤ 1000) : S.length ≤ 10000 ∧ (tx near).length < sizeLine := by
  have := h.le
  have := h.ln
  refine ⟨by omega, ?_⟩
  unfold tx
  rw [List.length_map]
  exact Nat.lt_of_le_of_lt (show near.length ≤ 1000 by omega) (by decide)
end
def sp_neigh : Sp := fun vs H Q _ => ∃ (a c nl b m : Addr) (zs : List Str) (S made : List PyData) (d0 : PyData), vs = [.ref a, .ref nl, .ref b, .ref m] ∧ Flow H a c ∧ H nl = some (.lst (zs.map V.str)) ∧ nl ≠ a ∧ 1 ≤ zs.length ∧ zs.length < 1000 ∧ (∀ z ∈ zs, Nm z) ∧ Bk H b S ∧ S.length ≤ 9000 ∧
  H m = some (.lst (tx (d0 :: made))) ∧ m ≠ a ∧ made.length < 1000 ∧ (∀ d ∈ d0 :: made, d ∈ S ∧ sz d ≤ 24) ∧
  ∀ (l : Addr) (S' near : List PyData) (H' : Hp), Nb a c b l H H' S S' near 400 → Q (.ref l) H'
section
variable {P : Program} {w : World} {K : PySem.W.Frag} {mg : Str → Option Value} {base : Heap}
theorem ok_law_neighbours (T : Top K mg) : FnOk P w K mg base CX0 5 T.f_law_neighbours T.d_law_neighbours ["flow", "names", "book", "made"] sp_neigh := by
  refine T.F_law_neighbours.ok sc_law_neighbours (fun vs H Q E h => ?_) (fun cdv A outer s H vs Q E hr h => ?_)
  · obtain ⟨a, c, nl, b, m, zs, S, made, d0, rfl, _⟩ := h
    rfl
  · obtain ⟨a, c, nl, b, m, zs, S0, made, d0, rfl, F, hnl, hna, hz1, hz2, hzs, hB, hS, hm, hma, hml, hmS, q⟩ := h
    refine ⟨_, (pss_cons (ps_set (i := 4) sc_law_neighbours.nd rfl (Or.inl rfl) (pe_lst pa_nil))
    (pss_cons (ps_set (i := 5) sc_law_neighbours.nd rfl (Or.inl rfl) (pe_slice sl_str (pe_call (ok_law_pick T) (hr.mono (by decide)) (by rfl) T.g_law_pick T.F_law_pick.kp T.b_law_pick .nil pass0 (pa_cons (pv 0) (pa_cons (pv 1) pa_nil))) po_none (po_some pe_int)))
     (pss_cons (ps_for PassesOwn.never rfl (pi_list (pe_lst (pa_cons (pv 5) (pa_cons (pe_op op_add_str (pv 5) (pe_call (ok_law_letter T) (hr.mono (by decide)) (by rfl) T.g_law_letter T.F_law_letter.kp T.b_law_letter .nil pass0 (pa_cons (pv 0) pa_nil))) (pa_cons (pe_op op_add_str (pv 5) pe_str) (pa_cons (pe_call (ok_law_near T) hr (by rfl) T.g_law_near T.F_law_near.kp T.b_law_near .nil pass0 (pa_cons (pv 0) (pa_cons (pv 5) pa_nil))) pa_nil)))))) (pg_name (i := 6) sc_law_neighbours.nd rfl (Or.inl rfl))
      (pss_one (ps_expr (pe_bm PySem.F.plainAttrs_list PySem.F.slot_list_append PySem.F.type_list_append mt_append (pv 4) (pa_cons (pe_call (ok_law_note T) (hr.mono (by decide)) (by rfl) T.g_law_note T.F_law_note.kp T.b_law_note .nil pass0 (pa_cons (pv 2) (pa_cons (pe_tup (pa_cons pe_str (pa_cons (pv 6) pa_nil))) pa_nil))) pa_nil)))))
      (pss_cons (ps_set (i := 7) sc_law_neighbours.nd rfl (Or.inl rfl) (pe_call (ok_law_draw T) (hr.mono (by decide)) (by rfl) T.g_law_draw T.F_law_draw.kp T.b_law_draw .nil pass0 (pa_cons (pv 0) (pa_cons pe_int pa_nil))))
       (pss_cons (ps_for PassesOwn.never rfl (pi_list (pe_lst (pa_cons (pv 7) (pa_cons (pe_op op_fdiv (pv 7) pe_int) (pa_cons (pe_op op_mul pe_int (pv 7)) (pa_cons (pe_op op_add (pv 7) pe_int) pa_nil)))))) (pg_name (i := 8) sc_law_neighbours.nd rfl (Or.inl rfl))
        (pss_one (ps_expr (pe_bm PySem.F.plainAttrs_list PySem.F.slot_list_append PySem.F.type_list_append mt_append (pv 4) (pa_cons (pe_call (ok_law_note T) (hr.mono (by decide)) (by rfl) T.g_law_note T.F_law_note.kp T.b_law_note .nil pass0 (pa_cons (pv 2) (pa_cons (pe_tup (pa_cons pe_str (pa_cons (pv 8) pa_nil))) pa_nil))) pa_nil)))))
        (pss_cons (ps_set (i := 9) sc_law_neighbours.nd rfl (Or.inl rfl) (pe_call (ok_law_pick T) (hr.mono (by decide)) (by rfl) T.g_law_pick T.F_law_pick.kp T.b_law_pick .nil pass0 (pa_cons (pv 0) (pa_cons (pv 3) pa_nil))))
         (pss_cons (ps_for PassesOwn.never rfl (pi_range1 (by rfl) T.z_range (pa_cons (pe_call (ok_law_draw T) (hr.mono (by decide)) (by rfl) T.g_law_draw T.F_law_draw.kp T.b_law_draw .nil pass0 (pa_cons (pv 0) (pa_cons pe_int pa_nil))) pa_nil)) (pg_name (i := 10) sc_law_neighbours.nd rfl (Or.inl rfl))
          (pss_cons (ps_set (i := 9) sc_law_neighbours.nd rfl (Or.inl rfl) (pe_call (ok_law_compose T) (hr.mono (by decide)) (by rfl) T.g_law_compose T.F_law_compose.kp T.b_law_compose .nil pass0 (pa_cons (pv 2) (pa_cons pe_str (pa_cons (pv 9) (pa_cons (pv 9) (pa_cons pe_str pa_nil)))))))
           (pss_one (ps_expr (pe_bm PySem.F.plainAttrs_list PySem.F.slot_list_append PySem.F.type_list_append mt_append (pv 4) (pa_cons (pv 9) pa_nil))))))
          (pss_cons (ps_if (pt_cmpR op_eq (pe_call (ok_law_draw T) (hr.mono (by decide)) (by rfl) T.g_law_draw T.F_law_draw.kp T.b_law_draw .nil pass0 (pa_cons (pv 0) (pa_cons pe_int pa_nil))) pe_int (nomark _))
           (pss_one (ps_for PassesOwn.never rfl (pi_range1 (by rfl) T.z_range (pa_cons (pe_op op_add (pe_op op_sub pe_int (pe_m1 PySem.F.slot_str_count PySem.F.type_str_count mt_count (pv 9) pe_str)) (pe_call (ok_law_draw T) (hr.mono (by decide)) (by rfl) T.g_law_draw T.F_law_draw.kp T.b_law_draw .nil pass0 (pa_cons (pv 0) (pa_cons pe_int pa_nil)))) pa_nil)) (pg_name (i := 10) sc_law_neighbours.nd rfl (Or.inl rfl))
            (pss_cons (ps_set (i := 9) sc_law_neighbours.nd rfl (Or.inl rfl) (pe_call (ok_law_compose T) (hr.mono (by decide)) (by rfl) T.g_law_compose T.F_law_compose.kp T.b_law_compose .nil pass0 (pa_cons (pv 2) (pa_cons pe_str (pa_cons (pv 9) (pa_cons (pv 9) (pa_cons pe_str pa_nil)))))))
             (pss_one (ps_if (pt_cmpR op_gt (pe_m1 PySem.F.slot_str_count PySem.F.type_str_count mt_count (pv 9) pe_str) pe_int (nomark _))
              (pss_one (ps_expr (pe_bm PySem.F.plainAttrs_list PySem.F.slot_list_append PySem.F.type_list_append mt_append (pv 4) (pa_cons (pv 9) pa_nil))))
              pss_nil)))))
           pss_nil)
           (pss_cons (ps_set (i := 9) sc_law_neighbours.nd rfl (Or.inl rfl) (pe_call (ok_law_compose T) (hr.mono (by decide)) (by rfl) T.g_law_compose T.F_law_compose.kp T.b_law_compose .nil pass0 (pa_cons (pv 2) (pa_cons pe_str (pa_cons (pe_ix ix_list (pv 3) pe_int (fun _ _ => rfl)) (pa_cons (pe_ix ix_list (pv 3) pe_int (fun _ _ => rfl)) (pa_cons (pv 5) pa_nil)))))))
            (pss_cons (ps_expr (pe_bm PySem.F.plainAttrs_list PySem.F.slot_list_append PySem.F.type_list_append mt_append (pv 4) (pa_cons (pv 9) pa_nil)))
             (pss_cons (ps_expr (pe_bm PySem.F.plainAttrs_list PySem.F.slot_list_append PySem.F.type_list_append mt_append (pv 4) (pa_cons (pe_call (ok_law_compose T) (hr.mono (by decide)) (by rfl) T.g_law_compose T.F_law_compose.kp T.b_law_compose .nil pass0 (pa_cons (pv 2) (pa_cons pe_str (pa_cons (pe_ix ix_list (pv 3) pe_int (fun _ _ => rfl)) (pa_cons (pe_ix ix_list (pv 3) pe_int (fun _ _ => rfl)) (pa_cons (pe_op op_add_str (pv 5) pe_str) pa_nil)))))) pa_nil)))
              (pss_cons (ps_expr (pe_bm PySem.F.plainAttrs_list PySem.F.slot_list_append PySem.F.type_list_append mt_append (pv 4) (pa_cons (pe_call (ok_law_compose T) (hr.mono (by decide)) (by rfl) T.g_law_compose T.F_law_compose.kp T.b_law_compose .nil pass0 (pa_cons (pv 2) (pa_cons pe_str (pa_cons (pv 9) (pa_cons (pe_ix ix_list (pv 3) (pe_un un_neg pe_int) (fun _ _ => rfl)) (pa_cons (pv 5) pa_nil)))))) pa_nil)))
               (pss_cons (ps_expr (pe_bm PySem.F.plainAttrs_list PySem.F.slot_list_append PySem.F.type_list_append mt_append (pv 4) (pa_cons (pe_call (ok_law_compose T) (hr.mono (by decide)) (by rfl) T.g_law_compose T.F_law_compose.kp T.b_law_compose .nil pass0 (pa_cons (pv 2) (pa_cons pe_str (pa_cons (pe_ix ix_list (pv 3) (pe_un un_neg pe_int) (fun _ _ => rfl)) (pa_cons (pv 9) (pa_cons (pv 5) pa_nil)))))) pa_nil)))
                (pss_one (ps_ret (pv 4)))))))))))))))), ?_⟩
    have hnb := hB.na F
    obtain ⟨kvs0, hbk, _⟩ := hB.dict
    have nlb : nl ≠ b := ne_of hnl hbk (by intro z; cases z)
    have nmb : m ≠ b := ne_of hm hbk (by intro z; cases z)
    have hzl : (zs.map V.str).length = zs.length := List.length_map _
    have hmz : (tx (d0 :: made)).length = made.length + 1 := by unfold tx; rw [List.length_map]; rfl
    repeat walk_at "s"
    refine ⟨by walk_at "len", fun l hl => ?_⟩
    have N0 : Nb a c b l H (upd H l (.lst [])) S0 S0 [] 0 := ⟨fun x o e _ _ => by rw [upd_ne (ne_of_none e hl)]; exact e, F.new hl, hB.mono (Tk.new hl) (by rw [upd_ne (ne_of_none hbk hl)]), fun _ h => h, upd_same, fun _ h => (by cases h), Nat.le_refl _, Nat.le_refl _, hl, F.na hl, (ne_of_none hbk hl).symm, F.nc hl, hnb.1, hnb.2⟩
    repeat walk_at "s"
    refine ⟨a, c, nl, _, rfl, N0.fl, N0.fr _ _ hnl hna nlb, hna, by omega, by omega, fun v1 H1 hv1 g1 => ?_⟩
    obtain ⟨x, hx, rfl⟩ := List.mem_map.mp hv1
    obtain ⟨gx, lx⟩ := nm_pre (hzs x hx)
    have hxl := (hzs x hx).len
    have N1 := N0.go g1
    repeat walk_at "s"
    generalize cutS x none (some (7 : Int)) = y at gx lx ⊢
    refine ⟨a, c, rfl, N1.fl, fun o1 H2 x0 x1 g2 => ?_⟩
    have N2 := N1.go g2
    repeat walk_at "s"
    refine ⟨add_ok (by have := len_one o1; omega), ?_⟩
    repeat walk_at "s"
    refine ⟨add_ok (by have : (Str.ofString "a").length = 1 := rfl; omega), ?_⟩
    repeat walk_at "s"
    refine ⟨a, c, y, rfl, N2.fl, gx, fun z3 H3 gz3 g3 => ?_⟩
    have N3 := N2.go g3
    have ga : Nm (y ++ Str.ofString "a") := nm_more (x := 97) gx lx (by decide) (by decide)
    have ws : ∀ v ∈ [V.str y, V.str (y ++ ⟨#[o1]⟩), V.str (y ++ Str.ofString "a"), V.str z3], ∃ z, v = V.str z ∧ Nm z := by
      intro v hv
      simp at hv
      rcases hv with rfl | rfl | rfl | rfl
      · exact ⟨_, rfl, gx⟩
      · exact ⟨_, rfl, nm_more gx lx x0 x1⟩
      · exact ⟨_, rfl, ga⟩
      · exact ⟨_, rfl, gz3⟩
    obtain ⟨wl, ewl⟩ : ∃ wl, [V.str y, V.str (y ++ ⟨#[o1]⟩), V.str (y ++ Str.ofString "a"), V.str z3] = wl := ⟨_, rfl⟩
    rw [ewl] at ws
    have lwl : wl.length = 4 := by rw [← ewl]; rfl
    refine ⟨by walk_at "len", fun pw hpw => ?_⟩
    have nwa := N3.fl.na hpw
    have nwl : pw ≠ l := (ne_of_none N3.nr hpw).symm
    have nwb : pw ≠ b := by obtain ⟨kv, e, _⟩ := N3.bk.dict; exact (ne_of_none e hpw).symm
    repeat walk_at "s"
    refine for_list (K := K) (a := pw) (xs := wl) (fun i σ H4 => ∃ (S near : List PyData) (v : Option V), σ = [some (.ref a), some (.ref nl), some (.ref b), some (.ref m), some (.ref l), some (.str y), v, none, none, none, none] ∧ Nb a c b l H H4 S0 S near (2 * i) ∧ H4 pw = some (.lst wl)) ?_ ?_ ?_ ?_
    · exact ⟨S0, [], none, rfl, N3.new hpw, upd_same.trans (by rw [← ewl])⟩
    · rintro i σ H4 _ ⟨_, _, _, _, _, e⟩
      exact SqL.of e
    · rintro i v σ H4 hi ⟨S, near, v6, rfl, N4, ew⟩
      obtain ⟨z, rfl, gz⟩ := ws v (List.mem_of_getElem? hi)
      have hi4 : i < 4 := by rw [← lwl]; exact (List.getElem?_eq_some_iff.mp hi).1
      obtain ⟨sz1, sz2⟩ := N4.sz hS (by omega)
      have enr := N4.nr
      repeat walk_at "s"
      refine ⟨by walk_at "len", fun t ht => ?_⟩
      have N5 := N4.new (o := .tup [.str "host", .str z]) ht
      repeat walk_at "s"
      refine ⟨b, t, S, [.str "host", .str z], _, rfl, N5.bk, sz1, upd_same, .cons (.str _) (.cons (.str _) .nil), .nm (.inl rfl) gz, by rw [occ_2s]; rfl, fun H6 f6 k6 => ?_⟩
      have N6 := N5.put f6 k6
      repeat walk_at "s"
      refine w_append N6.nr sz2 ?_
      repeat walk_at "s"
      refine ⟨_, _, _, rfl, (N6.app (List.mem_cons_self ..) ?_).up (by omega), ?_⟩
      · rw [sz_2, sz_str]; omega
      · rw [upd_ne nwl]
        exact f6 _ _ (by rw [upd_ne (ne_of_none ew ht)]; exact ew) nwb
    · rintro σ H4 ⟨S, near, v6, rfl, N4, ew⟩
      rw [lwl] at N4
      repeat walk_at "s"
      refine ⟨a, c, 100000, rfl, N4.fl, by omega, by omega, fun n H5 n0 n1 g5 => ?_⟩
      have N5 := N4.go g5
      repeat walk_at "s"
      have rs : ∀ v ∈ [V.int n, V.int (n / 10), V.int (10 * n), V.int (n + 1)], ∃ j : Nat, v = V.int j ∧ j ≤ 999999 := by
        intro v hv
        simp at hv
        rcases hv with rfl | rfl | rfl | rfl
        · exact ⟨n.toNat, by congr 1; omega, by omega⟩
        · exact ⟨(n / 10).toNat, by congr 1; omega, by omega⟩
        · exact ⟨(10 * n).toNat, by congr 1; omega, by omega⟩
        · exact ⟨(n + 1).toNat, by congr 1; omega, by omega⟩
      obtain ⟨rl, erl⟩ : ∃ rl, [V.int n, V.int (n / 10), V.int (10 * n), V.int (n + 1)] = rl := ⟨_, rfl⟩
      rw [erl] at rs
      have lrl : rl.length = 4 := by rw [← erl]; rfl
      refine ⟨by walk_at "len", fun pr hpr => ?_⟩
      have npa := N5.fl.na hpr
      have npl : pr ≠ l := (ne_of_none N5.nr hpr).symm
      have npb : pr ≠ b := by obtain ⟨kv, e, _⟩ := N5.bk.dict; exact (ne_of_none e hpr).symm
      repeat walk_at "s"
      refine for_list (K := K) (a := pr) (xs := rl) (fun i σ H4 => ∃ (S near : List PyData) (v : Option V), σ = [some (.ref a), some (.ref nl), some (.ref b), some (.ref m), some (.ref l), some (.str y), v6, some (.int n), v, none, none] ∧ Nb a c b l H H4 S0 S near (8 + 2 * i) ∧ H4 pr = some (.lst rl)) ?_ ?_ ?_ ?_
      · exact ⟨S, near, none, rfl, N5.new hpr, upd_same.trans (by rw [← erl])⟩
      · rintro i σ H4 _ ⟨_, _, _, _, _, e⟩
        exact SqL.of e
      · rintro i v σ H4 hi ⟨S, near, v8, rfl, N4, ew⟩
        obtain ⟨z, rfl, gz⟩ := rs v (List.mem_of_getElem? hi)
        have hi4 : i < 4 := by rw [← lrl]; exact (List.getElem?_eq_some_iff.mp hi).1
        obtain ⟨sz1, sz2⟩ := N4.sz hS (by omega)
        have enr := N4.nr
        repeat walk_at "s"
        refine ⟨by walk_at "len", fun t ht => ?_⟩
        have N5 := N4.new (o := .tup [.str "road", .int z]) ht
        repeat walk_at "s"
        refine ⟨b, t, S, [.str "road", .int z], _, rfl, N5.bk, sz1, upd_same, .cons (.str _) (.cons (.int _) .nil), .road gz, by rw [occ_2s]; rfl, fun H6 f6 k6 => ?_⟩
        have N6 := N5.put f6 k6
        repeat walk_at "s"
        refine w_append N6.nr sz2 ?_
        repeat walk_at "s"
        refine ⟨_, _, _, rfl, (N6.app (List.mem_cons_self ..) ?_).up (by omega), ?_⟩
        · rw [sz_2, sz_int]; omega
        · rw [upd_ne npl]
          exact f6 _ _ (by rw [upd_ne (ne_of_none ew ht)]; exact ew) npb
      · rintro σ H4 ⟨S1, near1, v8, rfl, N4, ew⟩
        rw [lrl] at N4
        repeat walk_at "s"
        refine ⟨a, c, m, _, rfl, N4.fl, N4.fr _ _ hm hma nmb, hma, by omega, by omega, fun v5 H5 hv5 g5 => ?_⟩
        obtain ⟨d1, hd1, rfl⟩ := List.mem_map.mp hv5
        have N5 := N4.go g5
        repeat walk_at "s"
        refine ⟨a, c, 14, rfl, N5.fl, by omega, by omega, fun n1 H6 n10 n11 g6 => ?_⟩
        have N6 := N5.go g6
        repeat walk_at "s"
        refine for_range (lo := 0) (n := n1.toNat) (fun i σ H4 => ∃ (S near : List PyData) (d : PyData) (v : Option V), σ = [some (.ref a), some (.ref nl), some (.ref b), some (.ref m), some (.ref l), some (.str y), v6, some (.int n), v8, some (.str (wr d)), v] ∧ Nb a c b l H H4 S0 S near (16 + 2 * i) ∧ d ∈ S ∧ sz d ≤ 24 + i) ?_ ?_ ?_
        · exact ⟨S1, near1, d1, none, rfl, N6, N6.sub _ (hmS _ hd1).1, (hmS _ hd1).2⟩
        · rintro i σ H7 hi ⟨S, near, d, v, rfl, N7, hd, hsd⟩
          obtain ⟨sz1, sz2⟩ := N7.sz hS (by omega)
          repeat walk_at "s"
          refine ⟨b, S, "digest", "", d, d, rfl, N7.bk, sz1, hd, hd, by omega, by simp, fun h => (by rcases h with h | h <;> exact absurd h (by decide +kernel)), fun d' H8 ed f8 k8 => ?_⟩
          have ed' : d' = .tuple [.str "digest", d] := ed
          subst ed'
          have N8 := N7.put f8 k8
          have enr := N8.nr
          repeat walk_at "s"
          refine w_append N8.nr sz2 ?_
          repeat walk_at "s"
          refine ⟨_, _, _, _, rfl, (N8.app (List.mem_cons_self ..) ?_).up (by omega), List.mem_cons_self .., ?_⟩
          · rw [sz_2]; omega
          · rw [sz_2]; omega
        · rintro σ H7 ⟨S, near, d, v, rfl, N7, hd, hsd⟩
          repeat walk_at "s"
          refine ⟨a, c, 8, rfl, N7.fl, by omega, by omega, fun e8 H8 e80 e81 g8 => ?_⟩
          have N8 := N7.go g8
          repeat walk_at "s"
          refine j_st (J := fun σ H4 => ∃ (S near : List PyData) (d : PyData) (v : Option V), σ = [some (.ref a), some (.ref nl), some (.ref b), some (.ref m), some (.ref l), some (.str y), v6, some (.int n), v8, some (.str (wr d)), v] ∧ Nb a c b l H H4 S0 S near 300 ∧ d ∈ S) ?_ (fun Kk => ite2 (fun h => ?_) (fun h => ?_))
          · rintro σ H9 ⟨S, near, d, v, rfl, N9, hd⟩
            have hd0 := hmS d0 (List.mem_cons_self ..)
            have at0 : atI (tx (d0 :: made)) 0 = some (V.str (wr d0)) := atI_nat (j := 0) rfl
            obtain ⟨dl, hdl, atl⟩ := last_of (l := d0 :: made) (by simp)
            have hdl' := hmS dl hdl
            obtain ⟨sz1, sz2⟩ := N9.sz hS (by omega)
            have hm9 := N9.fr _ _ hm hma nmb
            repeat walk_at "s"
            refine w_ixL (SqL.of hm9) at0 ?_
            repeat walk_at "s"
            refine w_ixL (SqL.of hm9) at0 ?_
            repeat walk_at "s"
            refine ⟨b, S, "box", y, d0, d0, rfl, N9.bk, sz1, N9.sub _ hd0.1, N9.sub _ hd0.1, by omega, by simp, fun _ => gx, fun d' H10 ed f10 k10 => ?_⟩
            have ed' : d' = .tuple [.str "box", d0, .str y] := ed
            have zd' : sz d' ≤ 25 := by rw [ed', sz_3, sz_str]; omega
            have N10 := N9.put f10 k10
            have enr := N10.nr
            repeat walk_at "s"
            refine w_append N10.nr sz2 ?_
            have N11 := N10.app (List.mem_cons_self ..) (by omega)
            obtain ⟨sz3, sz4⟩ := N11.sz hS (by omega)
            have hm11 := N11.fr _ _ hm hma nmb
            have enr1 := N11.nr
            repeat walk_at "s"
            refine w_ixL (SqL.of hm11) at0 ?_
            repeat walk_at "s"
            refine w_ixL (SqL.of hm11) at0 ?_
            repeat walk_at "s"
            refine ⟨add_ok (by have : (Str.ofString "a").length = 1 := rfl; omega), ?_⟩
            repeat walk_at "s"
            refine ⟨b, _, "box", y ++ Str.ofString "a", d0, d0, rfl, N11.bk, sz3, N11.sub _ hd0.1, N11.sub _ hd0.1, by omega, by simp, fun _ => ga, fun d2 H12 ed2 f12 k12 => ?_⟩
            have ed2' : d2 = .tuple [.str "box", d0, .str (y ++ Str.ofString "a")] := ed2
            have zd2 : sz d2 ≤ 25 := by rw [ed2', sz_3, sz_str]; omega
            have N12 := N11.put f12 k12
            repeat walk_at "s"
            refine w_append N12.nr sz4 ?_
            have N13 := N12.app (List.mem_cons_self ..) (by omega)
            obtain ⟨sz5, sz6⟩ := N13.sz hS (by omega)
            have hm13 := N13.fr _ _ hm hma nmb
            have enr2 := N13.nr
            repeat walk_at "s"
            refine w_ixL (SqL.of hm13) atl ?_
            repeat walk_at "s"
            refine ⟨b, _, "pair", y, d', dl, rfl, N13.bk, sz5, List.mem_cons_of_mem _ (List.mem_cons_self ..), N13.sub _ hdl'.1, by omega, by simp, fun h => (by rcases h with h | h <;> exact absurd h (by decide +kernel)), fun d3 H14 ed3 f14 k14 => ?_⟩
            have ed3' : d3 = .tuple [.str "pair", d', dl] := ed3
            have zd3 : sz d3 ≤ 60 := by rw [ed3', sz_3]; omega
            have N14 := N13.put f14 k14
            repeat walk_at "s"
            refine w_append N14.nr sz6 ?_
            have N15 := N14.app (List.mem_cons_self ..) (by omega)
            obtain ⟨sz7, sz8⟩ := N15.sz hS (by omega)
            have hm15 := N15.fr _ _ hm hma nmb
            have enr3 := N15.nr
            repeat walk_at "s"
            refine w_ixL (SqL.of hm15) atl ?_
            repeat walk_at "s"
            refine ⟨b, _, "pair", y, dl, d', rfl, N15.bk, sz7, N15.sub _ hdl'.1, List.mem_cons_of_mem _ (List.mem_cons_of_mem _ (List.mem_cons_self ..)), by omega, by simp, fun h => (by rcases h with h | h <;> exact absurd h (by decide +kernel)), fun d4 H16 ed4 f16 k16 => ?_⟩
            have ed4' : d4 = .tuple [.str "pair", dl, d'] := ed4
            have zd4 : sz d4 ≤ 60 := by rw [ed4', sz_3]; omega
            have N16 := N15.put f16 k16
            repeat walk_at "s"
            refine w_append N16.nr sz8 ?_
            have N17 := N16.app (List.mem_cons_self ..) (by omega)
            repeat walk_at "s"
            exact q l _ _ _ (N17.up (by omega))
          · have vd := N8.bk.ok d hd
            repeat walk_at "s"
            rw [cnt_wr vd]
            repeat walk_at "s"
            refine ⟨a, c, 3, rfl, N8.fl, by omega, by omega, fun e3 H9 e30 e31 g9 => ?_⟩
            have N9 := N8.go g9
            have hs37 : sz d ≤ 37 := by omega
            repeat walk_at "s"
            refine for_range (lo := 0) (n := (101 - ((sz d : Nat) : Int) + e3).toNat) (fun i σ H4 => ∃ (S near : List PyData) (d2 : PyData) (v : Option V), σ = [some (.ref a), some (.ref nl), some (.ref b), some (.ref m), some (.ref l), some (.str y), v6, some (.int n), v8, some (.str (wr d2)), v] ∧ Nb a c b l H H4 S0 S near (44 + 2 * i) ∧ d2 ∈ S ∧ sz d2 = sz d + i) ?_ ?_ ?_
            · exact ⟨S, near, d, _, rfl, N9.up (by omega), hd, rfl⟩
            · rintro i σ H7 hi ⟨S, near, d2, v, rfl, N7, hd, hsd⟩
              obtain ⟨sz1, sz2⟩ := N7.sz hS (by omega)
              repeat walk_at "s"
              refine ⟨b, S, "digest", "", d2, d2, rfl, N7.bk, sz1, hd, hd, by omega, by simp, fun h => (by rcases h with h | h <;> exact absurd h (by decide +kernel)), fun d' H8 ed f8 k8 => ?_⟩
              have ed' : d' = .tuple [.str "digest", d2] := ed
              have zd' : sz d' = sz d2 + 1 := by rw [ed', sz_2]
              have N8 := N7.put f8 k8
              have enr := N8.nr
              repeat walk_at "s"
              refine ite2 (fun h => ?_) (fun h => ?_)
              · repeat walk_at "s"
                refine w_append N8.nr sz2 ?_
                repeat walk_at "s"
                exact ⟨_, _, _, _, rfl, (N8.app (List.mem_cons_self ..) (by omega)).up (by omega), List.mem_cons_self .., by omega⟩
              · exact ⟨_, _, _, _, rfl, N8.up (by omega), List.mem_cons_self .., by omega⟩
            · rintro σ H7 ⟨S, near, d2, v, rfl, N7, hd, hsd⟩
              exact Kk _ _ ⟨S, near, d2, v, rfl, N7.up (by omega), hd⟩
          · exact Kk _ _ ⟨S, near, d, v, rfl, N8.up (by omega), hd⟩
end
/-! ### rows of texts -/
theorem lex_ky {d e : PyData} (hd : sz d < 1000000) (he : sz e < 1000000) : decide ((ky d).cps.toList < (ky e).cps.toList) = lexIS (rk d) (rk e) := by
  cases h : lexIS (rk d) (rk e) with
  | true => exact decide_eq_true ((ky_lt hd he).mpr h)
  | false =>
    refine decide_eq_false fun q => ?_
    have q' := (ky_lt hd he).mp q
    unfold rk at h
    rw [h] at q'
    cases q'
theorem Bk.same {H H' : Hp} {b : Addr} {S : List PyData} (h : Bk H b S) (s : Same H H') : Bk H' b S := by
  obtain ⟨kvs, hb, _⟩ := h.dict
  exact h.mono (Tk.same s) (by rw [s _ _ hb, hb])
/-- book[text][0] -/
theorem Bk.get {H : Hp} {b : Addr} {S : List PyData} (h : Bk H b S) {d : PyData} (hd : d ∈ S) : ∃ (kvs : List (L2.Key × V)) (p : Addr) (v l : V), H b = some (.dK kvs) ∧ valV kvs (Sum.inr (wr d)) = some (.ref p) ∧ H p = some (.tup [v, l]) ∧ DAt H v d := by
  obtain ⟨kvs, hb, _, hall⟩ := h.dict
  obtain ⟨p, v, l, h1, h2, h3⟩ := hall d hd
  exact ⟨kvs, p, v, l, hb, h1, h2, h3⟩
mutual
theorem DAt.det {H : Hp} : ∀ {v d e}, DAt H v d → DAt H v e → d = e
  | _, _, _, .str x, .str _ => rfl
  | _, _, _, .int i, .int _ => rfl
  | _, _, _, .non, .non => rfl
  | _, _, _, .tup h r, .tup h' r' => by
    rw [h] at h'
    cases h'
    rw [DsAt.det r r']
theorem DsAt.det {H : Hp} : ∀ {vs ds es}, DsAt H vs ds → DsAt H vs es → ds = es
  | _, _, _, .nil, .nil => rfl
  | _, _, _, .cons a r, .cons b t => by rw [DAt.det a b, DsAt.det r t]
end
open Classical in
noncomputable def dof (H : Hp) (v : V) : PyData := if h : ∃ d, DAt H v d then Classical.choose h else .none
theorem dof_eq {H : Hp} {v : V} {d : PyData} (h : DAt H v d) : dof H v = d := by
  have hx : ∃ d, DAt H v d := ⟨d, h⟩
  unfold dof
  rw [dif_pos hx]
  exact DAt.det (Classical.choose_spec hx) h
theorem DsAt.dof {H : Hp} : ∀ {vs : List V} {ds : List PyData}, DsAt H vs ds → vs.map (Mu.dof H) = ds
  | _, _, .nil => rfl
  | _, _, .cons a r => by rw [List.map_cons, dof_eq a, DsAt.dof r]
theorem DsAt.mk {H : Hp} : ∀ {vs : List V}, (∀ v ∈ vs, ∃ d, DAt H v d) → DsAt H vs (vs.map (Mu.dof H))
  | [], _ => .nil
  | v :: r, h => by
    obtain ⟨d, hd⟩ := h v (List.mem_cons_self ..)
    rw [List.map_cons, dof_eq hd]
    exact .cons hd (DsAt.mk fun w hw => h w (List.mem_cons_of_mem _ hw))
theorem DsAt.mem {H : Hp} : ∀ {vs : List V} {ds : List PyData} {v : V}, DsAt H vs ds → v ∈ vs → ∃ d, d ∈ ds ∧ DAt H v d
  | _, _, _, .cons a r, h => by
    rcases List.mem_cons.mp h with rfl | h
    · exact ⟨_, List.mem_cons_self .., a⟩
    · obtain ⟨d, hd, hv⟩ := DsAt.mem r h
      exact ⟨d, List.mem_cons_of_mem _ hd, hv⟩
theorem DsAt.rev {H : Hp} : ∀ {vs : List V} {ds : List PyData}, DsAt H vs ds → DsAt H vs.reverse ds.reverse
  | _, _, .nil => .nil
  | _, _, .cons a r => by
    rw [List.reverse_cons, List.reverse_cons]
    exact r.rev.app (.cons a .nil)
theorem DsAt.refs {H : Hp} : ∀ {vs : List V} {ds : List PyData}, DsAt H vs ds → (∀ d ∈ ds, isTup d = true) → ∃ ts : List Addr, vs = ts.map V.ref
  | _, _, .nil, _ => ⟨[], rfl⟩
  | _, _, .cons a r, h => by
    obtain ⟨ts, e⟩ := DsAt.refs r fun d hd => h d (List.mem_cons_of_mem _ hd)
    have h1 := h _ (List.mem_cons_self ..)
    cases a with
    | @tup x vs ds hx hs => exact ⟨x :: ts, by rw [e]; rfl⟩
    | _ => cases h1
/-- what in_order gives is the due row -/
theorem order_done {H0 H' : Hp} {ts out : List Addr} {ds es : List PyData} (hd : DsAt H0 (ts.map V.ref) ds) (hv : ∀ d ∈ ds, Vt d ∧ sz d ≤ 2000) (po : out.Perm ts) (so : out.Pairwise fun x y => lexIS (rk (dof H0 (.ref y))) (rk (dof H0 (.ref x))) = false) (pe : es.Perm ds) (se : sortedS (es.map ky) = true) (s : Same H0 H') : DsAt H' (out.map V.ref) es := by
  have hv' : ∀ d ∈ ds, Vt d ∧ sz d < 1000000 := fun d h => ⟨(hv d h).1, by have := (hv d h).2; omega⟩
  have h1 : DsAt H0 (out.map V.ref) ((out.map V.ref).map (dof H0)) := DsAt.mk fun v hm => by
    obtain ⟨t, ht, rfl⟩ := List.mem_map.mp hm
    obtain ⟨d, _, h⟩ := hd.mem (List.mem_map.mpr ⟨t, po.subset ht, rfl⟩)
    exact ⟨d, h⟩
  have p1 : ((out.map V.ref).map (dof H0)).Perm ds := by
    rw [← hd.dof]
    exact (po.map _).map _
  have e := order_eq (fs := (out.map V.ref).map (dof H0)) (es := es) (fun d h => hv' d (p1.subset h)) (fun d h => hv' d (pe.subset h)) (p1.trans pe.symm) (by
    rw [List.map_map, List.pairwise_map]
    exact so) (sorted_pw _ se)
  rw [e] at h1
  exact h1.mono (Tk.same s)
theorem nds_le {ds : List PyData} {m : Nat} (h : ∀ d ∈ ds, nd d ≤ m) : nds ds ≤ ds.length * m := by
  induction ds with
  | nil => exact Nat.zero_le _
  | cons d r ih =>
    have h1 := h d (List.mem_cons_self ..)
    have h2 := ih fun e he => h e (List.mem_cons_of_mem _ he)
    show nd d + nds r ≤ (r.length + 1) * m
    rw [Nat.add_mul, Nat.one_mul]
    omega
def sp_pairs : Sp := fun vs H Q _ => ∃ (b r : Addr) (S ds : List PyData), vs = [.ref b, .ref r] ∧ Bk H b S ∧ H r = some (.lst (tx ds)) ∧ (∀ d ∈ ds, d ∈ S ∧ sz d ≤ 20000) ∧ ∀ H', Same H H' → Q (.bl true) H'
section
variable {P : Program} {w : World} {K : PySem.W.Frag} {mg : Str → Option Value} {base : Heap}
theorem ok_law_pairs_right (T : Top K mg) : FnOk P w K mg base CX0 5 T.f_law_pairs_right T.d_law_pairs_right ["book", "row"] sp_pairs := by
  refine T.F_law_pairs_right.ok sc_law_pairs_right (fun vs H Q E h => ?_) (fun cdv A outer s H vs Q E hr h => ?_)
  · obtain ⟨b, r, S, ds, rfl, _⟩ := h
    rfl
  · obtain ⟨b, r, S, ds, rfl, hB, hR, hds, q⟩ := h
    have hu := hu_of hr
    refine ⟨_, (pss_cons (ps_for PassesOwn.never rfl (pi_list (pv 1)) (pg_name (i := 2) sc_law_pairs_right.nd rfl (Or.inl rfl))
    (pss_one (ps_for PassesOwn.never rfl (pi_list (pv 1)) (pg_name (i := 3) sc_law_pairs_right.nd rfl (Or.inl rfl))
     (pss_cons (ps_set (i := 4) sc_law_pairs_right.nd rfl (Or.inl rfl) (pe_call (okis_less T) hr (by rfl) T.gis_less T.Fis_less.kp T.bis_less .nil pass0 (pa_cons (pe_ix ix_tup (pe_dget hu (pv 0) (pv 2) (fun _ _ => rfl)) pe_int (fun _ _ => rfl)) (pa_cons (pe_ix ix_tup (pe_dget hu (pv 0) (pv 3) (fun _ _ => rfl)) pe_int (fun _ _ => rfl)) pa_nil))))
      (pss_one (ps_if (pt_cmpR op_lt_str (pe_call (ok_law_key T) (hr.mono (by decide)) (by rfl) T.g_law_key T.F_law_key.kp T.b_law_key .nil pass0 (pa_cons (pv 2) pa_nil)) (pe_call (ok_law_key T) (hr.mono (by decide)) (by rfl) T.g_law_key T.F_law_key.kp T.b_law_key .nil pass0 (pa_cons (pv 3) pa_nil)) (nomark _))
       (pss_one (ps_if (pt_cmpR op_notBl (pv 4) pe_bl (nomark _))
        (pss_one (ps_ret pe_bl))
        pss_nil))
       (pss_one (ps_if (pt_cmpR op_notBl (pv 4) pe_bl (nomark _))
        (pss_one (ps_ret pe_bl))
        pss_nil))))))))
    (pss_one (ps_ret pe_bl))), ?_⟩
    repeat walk_at "s"
    refine for_list (K := K) (a := r) (xs := tx ds) (fun i σ H1 => ∃ v2 v3 v4 : Option V, σ = [some (.ref b), some (.ref r), v2, v3, v4] ∧ Same H H1) ⟨none, none, none, rfl, Same.refl H⟩ ?_ ?_ ?_
    · rintro i σ H1 _ ⟨_, _, _, _, sm⟩
      exact SqL.of (sm _ _ hR)
    · rintro i x σ H1 hi ⟨v2, v3, v4, rfl, s1⟩
      obtain ⟨d1, hd1, rfl⟩ := tx_get hi
      have m1 := hds d1 (List.mem_of_getElem? hd1)
      have hR1 := s1 _ _ hR
      repeat walk_at "s"
      refine for_list (K := K) (a := r) (xs := tx ds) (fun j σ H2 => ∃ v3 v4 : Option V, σ = [some (.ref b), some (.ref r), some (.str (wr d1)), v3, v4] ∧ Same H H2) ⟨v3, v4, rfl, s1⟩ ?_ ?_ ?_
      · rintro i σ H1 _ ⟨_, _, _, sm⟩
        exact SqL.of (sm _ _ hR)
      · rintro j x σ H2 hj ⟨v3, v4, rfl, s2⟩
        obtain ⟨d2, hd2, rfl⟩ := tx_get hj
        have m2 := hds d2 (List.mem_of_getElem? hd2)
        have B2 := hB.same s2
        have vd1 := B2.ok _ m1.1
        have vd2 := B2.ok _ m2.1
        obtain ⟨kvs, p1, w1, l1, hb, g1, t1, a1⟩ := B2.get m1.1
        obtain ⟨kvs', p2, w2, l2, hb', g2, t2, a2⟩ := B2.get m2.1
        repeat walk_at "s"
        refine w_dgS hb g1 ?_
        repeat walk_at "s"
        refine w_dgS hb' g2 ?_
        repeat walk_at "s"
        refine ⟨w1, w2, d1, d2, rfl, a1, a2, vd1, vd2, m1.2, m2.2, fun H3 s3 => ?_⟩
        repeat walk_at "s"
        refine ⟨d1, rfl, vd1, m1.2, ?_⟩
        repeat walk_at "s"
        refine ⟨d2, rfl, vd2, m2.2, ?_⟩
        repeat walk_at "s"
        rw [lex_ky (by omega) (by omega)]
        have s4 := s2.trans s3
        refine ite2 (fun h => ?_) (fun h => ?_)
        · rw [h]
          repeat walk_at "s"
          rw [show (!decide (true = true)) = false from rfl]
          exact iteF ⟨_, _, rfl, s4⟩
        · rw [ofb h]
          repeat walk_at "s"
          rw [show (!decide (false = false)) = false from rfl]
          exact iteF ⟨_, _, rfl, s4⟩
      · rintro σ H2 ⟨v3, v4, rfl, s2⟩
        exact ⟨_, _, _, rfl, s2⟩
    · rintro σ H1 ⟨v2, v3, v4, rfl, s1⟩
      repeat walk_at "s"
      exact q H1 s1
def sp_row : Sp := fun vs H Q _ => ∃ (b r : Addr) (S ds : List PyData), vs = [.ref b, .ref r] ∧ Bk H b S ∧ H r = some (.lst (tx ds)) ∧ ds.length < 64 ∧ (∀ d ∈ ds, d ∈ S ∧ sz d ≤ 2000) ∧ ∀ H', Same H H' → Q (.bl true) H'
theorem ok_law_row_right (T : Top K mg) : FnOk P w K mg base CX0 7 T.f_law_row_right T.d_law_row_right ["book", "row"] sp_row := by
  refine T.F_law_row_right.ok sc_law_row_right (fun vs H Q E h => ?_) (fun cdv A outer s H vs Q E hr h => ?_)
  · obtain ⟨b, r, S, ds, rfl, _⟩ := h
    rfl
  · obtain ⟨b, r, S, ds, rfl, hB, hR, hn, hds, q⟩ := h
    have hu := hu_of hr
    refine ⟨_, (pss_cons (ps_set (i := 2) sc_law_row_right.nd rfl (Or.inr rfl) pe_dnewK)
    (pss_cons (ps_for PassesOwn.never rfl (pi_list (pv 1)) (pg_name (i := 3) sc_law_row_right.nd rfl (Or.inl rfl))
     (pss_one (ps_dput hu (pv 2) (pe_call (ok_law_key T) (hr.mono (by decide)) (by rfl) T.g_law_key T.F_law_key.kp T.b_law_key .nil pass0 (pa_cons (pv 3) pa_nil)) (pv 3) rfl)))
     (pss_cons (ps_set (i := 4) sc_law_row_right.nd rfl (Or.inl rfl) (pe_callB cr_sortedS (by rfl) T.z_sorted (by decide +kernel) (pa_cons (pe_lc (own := [("text", 3)]) (g := gName 3) (by rfl) sc_law_row_right.nd (pi_list (pv 1)) (blkOk_by (own := [("text", 3)]) (N := N_law_row_right) (sc := defScope s_law_row_right) (by decide +kernel)) (fun _ _ _ _ _ => (pg_name (i := 3) sc_law_row_right.nd rfl (Or.inl rfl))) (fun _ _ _ _ _ => pts_nil) (fun _ _ _ _ _ => (pe_callTy call_str_any (by rfl) T.z_str (by decide +kernel) (pa_cons (pe_call (ok_law_key T) (hr.mono (by decide)) (by rfl) T.g_law_key T.F_law_key.kp T.b_law_key .nil pass0 (pa_cons (pv 3) pa_nil)) pa_nil)))) pa_nil)))
      (pss_cons (ps_set (i := 5) sc_law_row_right.nd rfl (Or.inl rfl) (pe_callTy call_tuple_of (by rfl) T.z_tuple (by decide +kernel) (pa_cons (pe_lc (own := [("key", 6)]) (g := gName 6) (by rfl) sc_law_row_right.nd (pi_list (pv 4)) (blkOk_by (own := [("key", 6)]) (N := N_law_row_right) (sc := defScope s_law_row_right) (by decide +kernel)) (fun _ _ _ _ _ => (pg_name (i := 6) sc_law_row_right.nd rfl (Or.inl rfl))) (fun _ _ _ _ _ => pts_nil) (fun _ _ _ _ _ => (pe_ix (r := rIxT K) ix_tup (pe_dget hu (pv 0) (pe_dget hu (pv 2) (pv 6) (fun _ _ => rfl)) (fun _ _ => rfl)) pe_int (fun _ _ => rfl)))) pa_nil)))
       (pss_cons (ps_set (i := 7) sc_law_row_right.nd rfl (Or.inl rfl) (pe_callTy call_tuple_of (by rfl) T.z_tuple (by decide +kernel) (pa_cons (pe_lc (own := [("text", 3)]) (g := gName 3) (by rfl) sc_law_row_right.nd (pi_list (pv 1)) (blkOk_by (own := [("text", 3)]) (N := N_law_row_right) (sc := defScope s_law_row_right) (by decide +kernel)) (fun _ _ _ _ _ => (pg_name (i := 3) sc_law_row_right.nd rfl (Or.inl rfl))) (fun _ _ _ _ _ => pts_nil) (fun _ _ _ _ _ => (pe_ix (r := rIxT K) ix_tup (pe_dget hu (pv 0) (pv 3) (fun _ _ => rfl)) pe_int (fun _ _ => rfl)))) pa_nil)))
        (pss_one (ps_ret (pe_and (pe_call (ok_law_same T) (hr.mono (by decide)) (by rfl) T.g_law_same T.F_law_same.kp T.b_law_same .nil pass0 (pa_cons (pe_call (okin_order T) hr (by rfl) T.gin_order T.Fin_order.kp T.bin_order .nil pass0 (pa_cons (pv 7) pa_nil)) (pa_cons (pv 5) pa_nil))) (pe_one (pe_call (ok_law_same T) (hr.mono (by decide)) (by rfl) T.g_law_same T.F_law_same.kp T.b_law_same .nil pass0 (pa_cons (pe_callK0 (ks := ["row"]) (g := kwPermV [0]) (gV := kwPermX [0]) (okin_order T) hr (by rfl) T.gin_order T.Fin_order.kp T.kin_order_row (fun r hl => kwPerm_vals r hl (by decide)) pass0 (pk_cons (pe_revT (pv 7)) pk_nil)) (pa_cons (pv 5) pa_nil)))))))))))), ?_⟩
    have hv : ∀ d ∈ ds, Vt d ∧ sz d ≤ 2000 := fun d h => ⟨hB.ok d (hds d h).1, (hds d h).2⟩
    have htl : (tx ds).length = ds.length := by unfold tx; rw [List.length_map]
    repeat walk_at "s"
    intro wh hwh
    have sw : Same H (upd H wh (.dK [])) := sm_new hwh
    have hR0 := sw _ _ hR
    repeat walk_at "s"
    refine for_list (K := K) (a := r) (xs := tx ds) (fun i σ H2 => ∃ (kvs : List (L2.Key × V)) (v3 : Option V), σ = [some (.ref b), some (.ref r), some (.ref wh), v3, none, none, none, none] ∧ H2 wh = some (.dK kvs) ∧ kvs.length ≤ i ∧ (∀ d ∈ ds.take i, valV kvs (Sum.inr (ky d)) = some (.str (wr d))) ∧ Same H H2) ?_ ?_ ?_ ?_
    · exact ⟨[], none, rfl, upd_same, Nat.le_refl _, fun d h => (by cases h), sw⟩
    · rintro i σ H2 _ ⟨_, _, _, _, _, _, sm⟩
      exact SqL.of (sm _ _ hR)
    · rintro i x σ H2 hi ⟨kvs, v3, rfl, e2, hl, hk, s2⟩
      obtain ⟨d, hd, rfl⟩ := tx_get hi
      have hdm := List.mem_of_getElem? hd
      have hi' : i < ds.length := (List.getElem?_eq_some_iff.mp hd).1
      repeat walk_at "s"
      refine ⟨d, rfl, (hv d hdm).1, by have := (hv d hdm).2; omega, ?_⟩
      refine w_dpS e2 (Nat.lt_of_le_of_lt (show kvs.length ≤ 64 by omega) (by decide)) ?_
      repeat walk_at "s"
      refine ⟨_, _, rfl, upd_same, by have := putK_len kvs (Sum.inr (ky d)) (.str (wr d)); omega, fun e he => ?_, fun x o h => ?_⟩
      · rw [valV_put]
        by_cases q : ky e = ky d
        · have hem : e ∈ ds := List.mem_of_mem_take he
          have : e = d := ky_inj (hv e hem).1 (hv d hdm).1 (by have := (hv e hem).2; omega) (by have := (hv d hdm).2; omega) q
          subst this
          rw [if_pos rfl]
        · rw [if_neg (fun z => q (Sum.inr.inj z))]
          rw [List.take_add_one, hd] at he
          rcases List.mem_append.mp he with he | he
          · exact hk e he
          · simp at he
            subst he
            exact absurd rfl q
      · rw [upd_ne (ne_of_none h hwh)]
        exact s2 x o h
    · rintro σ H2 ⟨kvs, v3, rfl, e2, hl, hk, s2⟩
      rw [htl, List.take_length] at hk
      have hR2 := s2 _ _ hR
      repeat walk_at "s"
      intro D hD
      have sD : Same H2 (upd H2 D (.lst [])) := sm_new hD
      refine lc_list (K := K) (a := r) (xs := tx ds) (fun i H3 => H3 D = some (.lst ((ds.take i).map fun d => V.str (ky d))) ∧ Same H2 H3) ⟨upd_same, sD⟩ (fun i H3 _ ⟨_, s3⟩ => SqL.of (s3 _ _ hR2)) ?_ ?_
      · rintro i x H3 hi ⟨e3, s3⟩
        obtain ⟨d, hd, rfl⟩ := tx_get hi
        have hdm := List.mem_of_getElem? hd
        have hi' : i < ds.length := (List.getElem?_eq_some_iff.mp hd).1
        repeat walk_at "s"
        refine ⟨d, rfl, (hv d hdm).1, by have := (hv d hdm).2; omega, ?_⟩
        repeat walk_at "s"
        refine w_strS ?_
        refine ⟨_, e3, ?_, ?_, fun x o h => ?_⟩
        · rw [List.length_map, List.length_take]
          exact small1000 (by omega)
        · rw [upd_same, List.take_add_one, hd, List.map_append]; rfl
        · rw [upd_ne (ne_of_none h hD)]
          exact s3 x o h
      · rintro H3 ⟨e3, s3⟩
        rw [htl, List.take_length] at e3
        have e3' : H3 D = some (.lst ((ds.map ky).map V.str)) := by rw [e3, List.map_map]; rfl
        repeat walk_at "s"
        refine ⟨D, ds.map ky, rfl, SqL.of e3', by rw [List.length_map]; exact hn, fun ys p pe so hp => ?_⟩
        obtain ⟨es, pes, rfl⟩ := perm_map_ex pe
        have s4 : Same H (upd H3 p (.lst ((es.map ky).map V.str))) := (s2.trans s3).trans (sm_new hp)
        have hes : ∀ e ∈ es, e ∈ ds := fun e he => pes.subset he
        have len_es : es.length = ds.length := pes.length_eq
        have hp4 : upd H3 p (.lst ((es.map ky).map V.str)) p = some (.lst ((es.map ky).map V.str)) := upd_same
        have hw4 : upd H3 p (.lst ((es.map ky).map V.str)) wh = some (.dK kvs) := by rw [upd_ne (ne_of_none (s3 _ _ e2) hp)]; exact s3 _ _ e2
        generalize upd H3 p (.lst ((es.map ky).map V.str)) = H4 at s4 hp4 hw4 ⊢
        repeat walk_at "s"
        intro D2 hD2
        refine lc_list (K := K) (a := p) (xs := (es.map ky).map V.str) (fun i H5 => ∃ vs, H5 D2 = some (.lst vs) ∧ DsAt H5 vs (es.take i) ∧ Same H4 H5) ⟨[], upd_same, .nil, sm_new hD2⟩ (fun i H5 _ ⟨_, _, _, s5⟩ => SqL.of (s5 _ _ hp4)) ?_ ?_
        · rintro i x H5 hi ⟨vs, e5, a5, s5⟩
          rw [List.map_map, List.getElem?_map] at hi
          obtain ⟨e, he, rfl⟩ : ∃ e, es[i]? = some e ∧ x = V.str (ky e) := by
            cases h : es[i]? with
            | none => rw [h] at hi; cases hi
            | some e => rw [h] at hi; cases hi; exact ⟨e, rfl, rfl⟩
          have hem := List.mem_of_getElem? he
          have hi' : i < es.length := (List.getElem?_eq_some_iff.mp he).1
          have B5 := hB.same (s4.trans s5)
          obtain ⟨kv, pp, ww, ll, hb, g1, t1, a1⟩ := B5.get (hds e (hes e hem)).1
          have lvs := a5.length
          rw [List.length_take] at lvs
          repeat walk_at "s"
          refine w_dgS (s5 _ _ hw4) (hk e (hes e hem)) ?_
          repeat walk_at "s"
          refine w_dgS hb g1 ?_
          repeat walk_at "s"
          refine ⟨vs, e5, small1000 (by omega), vs ++ [ww], upd_same, ?_, fun x o h => ?_⟩
          · rw [List.take_add_one, he]
            exact (a5.app (.cons a1 .nil)).mono (Tk.lst e5)
          · rw [upd_ne (ne_of_none h hD2)]
            exact s5 x o h
        · rintro H5 ⟨vs, e5, a5, s5⟩
          rw [List.length_map, List.length_map, List.take_length] at a5
          repeat walk_at "s"
          refine ⟨D2, vs, rfl, .inl ⟨SqL.of e5, fun du hdu => ?_⟩⟩
          have s6 : Same H4 (upd H5 du (.tup vs)) := s5.trans (sm_new hdu)
          have a6 : DsAt (upd H5 du (.tup vs)) vs es := a5.mono (Tk.new hdu)
          have hdu6 : upd H5 du (.tup vs) du = some (.tup vs) := upd_same
          generalize upd H5 du (.tup vs) = H6 at s6 a6 hdu6 ⊢
          have s46 := s4.trans s6
          have hR6 := s46 _ _ hR
          repeat walk_at "s"
          intro D3 hD3
          refine lc_list (K := K) (a := r) (xs := tx ds) (fun i H7 => ∃ us, H7 D3 = some (.lst us) ∧ DsAt H7 us (ds.take i) ∧ Same H6 H7) ⟨[], upd_same, .nil, sm_new hD3⟩ (fun i H7 _ ⟨_, _, _, s7⟩ => SqL.of (s7 _ _ hR6)) ?_ ?_
          · rintro i x H7 hi ⟨us, e7, a7, s7⟩
            obtain ⟨d, hd, rfl⟩ := tx_get hi
            have hdm := List.mem_of_getElem? hd
            have hi' : i < ds.length := (List.getElem?_eq_some_iff.mp hd).1
            have B7 := hB.same (s46.trans s7)
            obtain ⟨kv, pp, ww, ll, hb, g1, t1, a1⟩ := B7.get (hds d hdm).1
            have lus := a7.length
            rw [List.length_take] at lus
            repeat walk_at "s"
            refine w_dgS hb g1 ?_
            repeat walk_at "s"
            refine ⟨us, e7, small1000 (by omega), us ++ [ww], upd_same, ?_, fun x o h => ?_⟩
            · rw [List.take_add_one, hd]
              exact (a7.app (.cons a1 .nil)).mono (Tk.lst e7)
            · rw [upd_ne (ne_of_none h hD3)]
              exact s7 x o h
          · rintro H7 ⟨us, e7, a7, s7⟩
            rw [htl, List.take_length] at a7
            repeat walk_at "s"
            refine ⟨D3, us, rfl, .inl ⟨SqL.of e7, fun tm htm => ?_⟩⟩
            obtain ⟨ts, rfl⟩ := a7.refs fun d hd => (hv d hd).1.tup
            have s8 : Same H6 (upd H7 tm (.tup (ts.map V.ref))) := s7.trans (sm_new htm)
            have a8 : DsAt (upd H7 tm (.tup (ts.map V.ref))) (ts.map V.ref) ds := a7.mono (Tk.new htm)
            have htm8 : upd H7 tm (.tup (ts.map V.ref)) tm = some (.tup (ts.map V.ref)) := upd_same
            generalize upd H7 tm (.tup (ts.map V.ref)) = H8 at s8 a8 htm8 ⊢
            have lts := a8.length
            rw [List.length_map] at lts
            have hpl : Pl (.tuple es) := .tup fun d hd => pl_vt (hv d (hes d hd)).1
            have hnd : nd (.tuple es) ≤ 1000000 := by
              have h1 := nds_le (ds := es) (m := 8000) fun d hd => by
                have := nd_vt (hv d (hes d hd)).1
                have := (hv d (hes d hd)).2
                omega
              show nds es + 1 ≤ _
              omega
            repeat walk_at "s"
            refine ⟨tm, ts, fun t => rk (dof H8 (.ref t)), rfl, htm8, by omega, fun t ht => ?_, fun po out H9 s9 e9 pm so9 => ?_⟩
            · obtain ⟨d, hd, hda⟩ := a8.mem (List.mem_map.mpr ⟨t, ht, rfl⟩)
              exact ⟨d, hda, (hv d hd).1, by have := (hv d hd).2; omega, congrArg rk (dof_eq hda)⟩
            have o9 : DsAt H9 (out.map V.ref) es := order_done a8 hv pm so9 pes so s9
            have due9 := (s8.trans s9) _ _ hdu6
            have dd9 : DsAt H9 vs es := a6.mono (Tk.same (s8.trans s9))
            have htm9 := s9 _ _ htm8
            repeat walk_at "s"
            refine ⟨.ref po, .ref du, .tuple es, rfl, .tup e9 o9, .tup due9 dd9, hpl, hnd, fun H10 s10 => ?_⟩
            have htm10 := s10 _ _ htm9
            have a10 : DsAt H10 (ts.map V.ref) ds := a8.mono (Tk.same (s9.trans s10))
            have due10 := s10 _ _ due9
            have dd10 : DsAt H10 vs es := dd9.mono (Tk.same s10)
            repeat walk_at "s"
            refine ⟨tm, _, rfl, SqT.of htm10, fun rv hrv => ?_⟩
            have a11 : DsAt (upd H10 rv (.tup (ts.map V.ref).reverse)) (ts.reverse.map V.ref) ds.reverse := by
              rw [List.map_reverse]
              exact a10.rev.mono (Tk.new hrv)
            have hrv11 : upd H10 rv (.tup (ts.map V.ref).reverse) rv = some (.tup (ts.reverse.map V.ref)) := by rw [upd_same, List.map_reverse]
            have s11 : Same H10 (upd H10 rv (.tup (ts.map V.ref).reverse)) := sm_new hrv
            generalize upd H10 rv (.tup (ts.map V.ref).reverse) = H11 at a11 hrv11 s11 ⊢
            have hvr : ∀ d ∈ ds.reverse, Vt d ∧ sz d ≤ 2000 := fun d hd => hv d (List.mem_reverse.mp hd)
            repeat walk_at "s"
            refine ⟨rfl, rv, ts.reverse, fun t => rk (dof H11 (.ref t)), rfl, hrv11, by rw [List.length_reverse]; omega, fun t ht => ?_, fun po2 out2 H12 s12 e12 pm2 so12 => ?_⟩
            · obtain ⟨d, hd, hda⟩ := a11.mem (List.mem_map.mpr ⟨t, ht, rfl⟩)
              exact ⟨d, hda, (hvr d hd).1, by have := (hvr d hd).2; omega, congrArg rk (dof_eq hda)⟩
            have o12 : DsAt H12 (out2.map V.ref) es := order_done a11 hvr pm2 so12 (pes.trans (List.reverse_perm ds).symm) so s12
            have due12 := (s11.trans s12) _ _ due10
            have dd12 : DsAt H12 vs es := dd10.mono (Tk.same (s11.trans s12))
            repeat walk_at "s"
            refine ⟨.ref po2, .ref du, .tuple es, rfl, .tup e12 o12, .tup due12 dd12, hpl, hnd, fun H13 s13 => ?_⟩
            repeat walk_at "s"
            exact q H13 ((((s46.trans (s8.trans s9)).trans s10).trans (s11.trans s12)).trans s13)
end
/-! ### the law -/
def spLaw (K : PySem.W.Frag) : Sp := fun vs H Q _ => ∃ (a : Addr) (ns : List Int), vs = [.ref a] ∧ SqL K H a (ns.map V.int) ∧ ns.length ≤ 63 ∧ ∀ H', Q (.bl true) H'
structure Ls (a c nl b m : Addr) (zs : List Str) (H : Hp) (S made : List PyData) : Prop where
  fl : Flow H a c
  nz : H nl = some (.lst (zs.map V.str))
  bk : Bk H b S
  md : H m = some (.lst (tx made))
  ms : ∀ d ∈ made, d ∈ S ∧ sz d ≤ 24
  na : nl ≠ a
  nb : nl ≠ b
  nM : nl ≠ m
  ma : m ≠ a
  mb : m ≠ b
  mc : m ≠ c
section
variable {a c nl b m : Addr} {zs : List Str} {H H' : Hp} {S S' made : List PyData}
theorem Ls.go (h : Ls a c nl b m zs H S made) (g : Go a c H H') : Ls a c nl b m zs H' S made :=
  ⟨g.fl, g.fr _ _ h.nz h.na, h.bk.go h.fl g, g.fr _ _ h.md h.ma, h.ms, h.na, h.nb, h.nM, h.ma, h.mb, h.mc⟩
theorem Ls.gb (h : Ls a c nl b m zs H S made) (g : Gb a c b H H') (k : Bk H' b S') (s : ∀ d ∈ S, d ∈ S') : Ls a c nl b m zs H' S' made :=
  ⟨g.fl, g.fr _ _ h.nz h.na h.nb, k, g.fr _ _ h.md h.ma h.mb, fun d hd => ⟨s _ (h.ms d hd).1, (h.ms d hd).2⟩, h.na, h.nb, h.nM, h.ma, h.mb, h.mc⟩
theorem Ls.put (h : Ls a c nl b m zs H S made) {d : PyData} (f : Fr b H H') (k : Bk H' b (d :: S)) : Ls a c nl b m zs H' (d :: S) made :=
  h.gb (Gb.book f h.fl (h.bk.na h.fl).1 (h.bk.na h.fl).2) k fun e he => List.mem_cons_of_mem _ he
theorem Ls.app (h : Ls a c nl b m zs H S made) {d : PyData} (hd : d ∈ S) (hs : sz d ≤ 24) : Ls a c nl b m zs (upd H m (.lst (tx made ++ [V.str (wr d)]))) S (made ++ [d]) := by
  refine ⟨h.fl.put h.ma h.mc, by rw [upd_ne h.nM]; exact h.nz, h.bk.mono (Tk.lst h.md) (by rw [upd_ne h.mb.symm]), by rw [upd_same, tx_app], ?_, h.na, h.nb, h.nM, h.ma, h.mb, h.mc⟩
  intro e he
  rcases List.mem_append.mp he with he | he
  · exact h.ms e he
  · cases List.mem_singleton.mp he; exact ⟨hd, hs⟩
end
section
variable {P : Program} {w : World} {K : PySem.W.Frag} {mg : Str → Option Value} {base : Heap}
theorem oklaw (T : Top K mg) : FnOk P w K mg base CX0 8 T.flaw T.dlaw ["script"] (spLaw K) := by
  refine T.Flaw.ok sclaw (fun vs H Q E h => ?_) (fun cdv A outer s H vs Q E hr h => ?_)
  · obtain ⟨a, ns, rfl, _⟩ := h
    rfl
  · obtain ⟨sc, ns, rfl, hS, hns, q⟩ := h
    have hu := hu_of hr
    refine ⟨_, (pss_cons (ps_set (i := 1) sclaw.nd rfl (Or.inr rfl) (pe_call (ok_law_flow T) (hr.mono (by decide)) (by rfl) T.g_law_flow T.F_law_flow.kp T.b_law_flow .nil pass0 (pa_cons (pv 0) pa_nil)))
    (pss_cons (ps_set (i := 2) sclaw.nd rfl (Or.inl rfl) (pe_call (ok_law_names T) (hr.mono (by decide)) (by rfl) T.g_law_names T.F_law_names.kp T.b_law_names .nil pass0 (pa_cons (pv 1) (pa_cons (pe_op op_add pe_int (pe_call (ok_law_draw T) (hr.mono (by decide)) (by rfl) T.g_law_draw T.F_law_draw.kp T.b_law_draw .nil pass0 (pa_cons (pv 1) (pa_cons pe_int pa_nil)))) pa_nil))))
     (pss_cons (ps_set (i := 3) sclaw.nd rfl (Or.inl rfl) pe_dnewK)
      (pss_cons (ps_set (i := 4) sclaw.nd rfl (Or.inr rfl) (pe_lst pa_nil))
       (pss_cons (ps_for PassesOwn.never rfl (pi_range1 (by rfl) T.z_range (pa_cons (pe_op op_add pe_int (pe_call (ok_law_draw T) (hr.mono (by decide)) (by rfl) T.g_law_draw T.F_law_draw.kp T.b_law_draw .nil pass0 (pa_cons (pv 1) (pa_cons pe_int pa_nil)))) pa_nil)) (pg_name (i := 5) sclaw.nd rfl (Or.inl rfl))
        (pss_one (ps_expr (pe_bm PySem.F.plainAttrs_list PySem.F.slot_list_append PySem.F.type_list_append mt_append (pv 4) (pa_cons (pe_call (ok_law_note T) (hr.mono (by decide)) (by rfl) T.g_law_note T.F_law_note.kp T.b_law_note .nil pass0 (pa_cons (pv 3) (pa_cons (pe_call (ok_law_atom T) (hr.mono (by decide)) (by rfl) T.g_law_atom T.F_law_atom.kp T.b_law_atom .nil pass0 (pa_cons (pv 1) (pa_cons (pv 2) pa_nil))) pa_nil))) pa_nil)))))
        (pss_cons (ps_for PassesOwn.never rfl (pi_range1 (by rfl) T.z_range (pa_cons (pe_call (ok_law_draw T) (hr.mono (by decide)) (by rfl) T.g_law_draw T.F_law_draw.kp T.b_law_draw .nil pass0 (pa_cons (pv 1) (pa_cons pe_int pa_nil))) pa_nil)) (pg_name (i := 5) sclaw.nd rfl (Or.inl rfl))
         (pss_one (ps_expr (pe_bm PySem.F.plainAttrs_list PySem.F.slot_list_append PySem.F.type_list_append mt_append (pv 4) (pa_cons (pe_call (ok_law_grow T) (hr.mono (by decide)) (by rfl) T.g_law_grow T.F_law_grow.kp T.b_law_grow .nil pass0 (pa_cons (pv 1) (pa_cons (pv 2) (pa_cons (pv 3) (pa_cons (pv 4) (pa_cons pe_int pa_nil)))))) pa_nil)))))
         (pss_cons (ps_set (i := 4) sclaw.nd rfl (Or.inr rfl) (pe_op op_cat (pv 4) (pe_call (ok_law_neighbours T) (hr.mono (by decide)) (by rfl) T.g_law_neighbours T.F_law_neighbours.kp T.b_law_neighbours .nil pass0 (pa_cons (pv 1) (pa_cons (pv 2) (pa_cons (pv 3) (pa_cons (pv 4) pa_nil)))))))
          (pss_cons (ps_setLc (i := 6) (own := [("k", 5)]) (g := gName 5) (by rfl) sclaw.nd rfl rfl (sw_true rfl rfl rfl (by decide +kernel)) (pi_range1 (by rfl) T.z_range (pa_cons (pe_call (ok_law_draw T) (hr.mono (by decide)) (by rfl) T.g_law_draw T.F_law_draw.kp T.b_law_draw .nil pass0 (pa_cons (pv 1) (pa_cons pe_int pa_nil))) pa_nil)) (blkOk_by (own := [("k", 5)]) (N := Nlaw) (sc := defScope slaw) (by decide +kernel)) (fun _ _ _ _ _ => (pg_name (i := 5) sclaw.nd rfl (Or.inl rfl))) (fun _ _ _ _ _ => pts_nil) (fun _ _ _ _ _ => (pe_call (ok_law_pick T) (hr.mono (by decide)) (by rfl) T.g_law_pick T.F_law_pick.kp T.b_law_pick .nil pass0 (pa_cons (pv 1) (pa_cons (pv 4) pa_nil)))))
           (pss_cons (ps_for PassesOwn.never rfl (pi_list (pv 4)) (pg_name (i := 7) sclaw.nd rfl (Or.inl rfl))
            (pss_cons (ps_set (i := 8) sclaw.nd rfl (Or.inl rfl) (pe_call (okkey_of T) (hr.mono (by decide)) (by rfl) T.gkey_of T.Fkey_of.kp T.bkey_of .nil pass0 (pa_cons (pe_ix ix_tup (pe_dget hu (pv 3) (pv 7) (fun _ _ => rfl)) pe_int (fun _ _ => rfl)) pa_nil)))
             (pss_cons (ps_if (pt_cmpR op_ne (pe_callK0 (ks := ["term"]) (g := kwPermV [0]) (gV := kwPermX [0]) (okkey_of T) (hr.mono (by decide)) (by rfl) T.gkey_of T.Fkey_of.kp T.kkey_of_term (fun r hl => kwPerm_vals r hl (by decide)) pass0 (pk_cons (pe_ix ix_tup (pe_dget hu (pv 3) (pv 7) (fun _ _ => rfl)) pe_int (fun _ _ => rfl)) pk_nil)) (pv 8) (nomark _))
              (pss_one (ps_ret pe_bl))
              pss_nil)
              (pss_one (ps_if (PW.pt (pw_or (pt_not (pt_val (pe_callB call_isi (by rfl) T.z_isinstance (by decide +kernel) (pa_cons (pv 8) (pa_cons (pe_bltn (v := .ty "str") (by rfl) T.z_str (by decide +kernel) rfl) pa_nil))))) (pw_or1 (pt_cmpR op_ne (pv 8) (pv 7) (nomark _)))))
               (pss_one (ps_ret pe_bl))
               pss_nil)))))
            (pss_cons (ps_set (i := 9) sclaw.nd rfl (Or.inl rfl) (pe_callK0 (ks := ["second", "first"]) (g := kwPermV [1, 0]) (gV := kwPermX [1, 0]) (okis_less T) (hr.mono (by decide)) (by rfl) T.gis_less T.Fis_less.kp T.kis_less_second_first (fun r hl => kwPerm_vals r hl (by decide)) pass0 (pk_cons (pe_ix ix_tup (pe_dget hu (pv 3) (pe_ix ix_list (pv 4) pe_int (fun _ _ => rfl)) (fun _ _ => rfl)) pe_int (fun _ _ => rfl)) (pk_cons (pe_ix ix_tup (pe_dget hu (pv 3) (pe_ix ix_list (pv 4) (pe_un un_neg pe_int) (fun _ _ => rfl)) (fun _ _ => rfl)) pe_int (fun _ _ => rfl)) pk_nil))))
             (pss_cons (ps_if (PW.pt (pw_or (PW.pt (pw_and (pt_cmpR op_notBl (pv 9) pe_bl (nomark _)) (pw_and1 (pt_cmpR op_notBl (pv 9) pe_bl (nomark _))))) (pw_or1 (pt_cmpR op_ne (pv 9) (pe_cmpR op_lt_str (pe_call (ok_law_key T) (hr.mono (by decide)) (by rfl) T.g_law_key T.F_law_key.kp T.b_law_key .nil pass0 (pa_cons (pe_ix ix_list (pv 4) (pe_un un_neg pe_int) (fun _ _ => rfl)) pa_nil)) (pe_call (ok_law_key T) (hr.mono (by decide)) (by rfl) T.g_law_key T.F_law_key.kp T.b_law_key .nil pass0 (pa_cons (pe_ix ix_list (pv 4) pe_int (fun _ _ => rfl)) pa_nil)) (nomark _)) (nomark _)))))
              (pss_one (ps_ret pe_bl))
              pss_nil)
              (pss_one (ps_ret (pe_and (pe_call (ok_law_pairs_right T) (hr.mono (by decide)) (by rfl) T.g_law_pairs_right T.F_law_pairs_right.kp T.b_law_pairs_right .nil pass0 (pa_cons (pv 3) (pa_cons (pv 6) pa_nil))) (pe_one (pe_call (ok_law_row_right T) hr (by rfl) T.g_law_row_right T.F_law_row_right.kp T.b_law_row_right .nil pass0 (pa_cons (pv 3) (pa_cons (pv 6) pa_nil)))))))))))))))))), ?_⟩
    repeat walk_at "s"
    refine ⟨sc, ns, rfl, hS, hns, fun a c H1 s1 hf hc F => ?_⟩
    repeat walk_at "s"
    refine ⟨a, c, 5, rfl, F, by omega, by omega, fun n5 H2 n0 n1 g2 => ?_⟩
    repeat walk_at "s"
    refine ⟨a, c, _, rfl, g2.fl, by omega, by omega, fun nl zs H3 hnl0 hnl hzl hzs g3 => ?_⟩
    have F3 := g3.fl
    have na : nl ≠ a := by
      obtain ⟨xs, h⟩ := g2.fl.isl
      exact (ne_of_none h hnl0).symm
    repeat walk_at "s"
    intro b hb
    have F4 := F3.new (o := .dK []) hb
    have hnl4 : upd H3 b (.dK []) nl = some (.lst (zs.map V.str)) := by rw [upd_ne (ne_of_none hnl hb)]; exact hnl
    have B4 : Bk (upd H3 b (.dK [])) b [] := Bk.nil upd_same
    have nbl : nl ≠ b := ne_of_none hnl hb
    generalize upd H3 b (.dK []) = H4 at F4 hnl4 B4 ⊢
    repeat walk_at "s"
    refine ⟨by walk_at "len", fun m hm => ?_⟩
    have L5 : Ls a c nl b m zs (upd H4 m (.lst [])) [] [] := ⟨F4.new hm, by rw [upd_ne (ne_of_none hnl4 hm)]; exact hnl4, B4.mono (Tk.new hm) (by obtain ⟨kv, e, _⟩ := B4.dict; rw [upd_ne (ne_of_none e hm)]), upd_same, fun _ h => (by cases h), na, nbl, ne_of_none hnl4 hm, F4.na hm, by obtain ⟨kv, e, _⟩ := B4.dict; exact (ne_of_none e hm).symm, F4.nc hm⟩
    generalize upd H4 m (.lst []) = H5 at L5 ⊢
    repeat walk_at "s"
    refine ⟨a, c, 7, rfl, L5.fl, by omega, by omega, fun n7 H6 n70 n71 g6 => ?_⟩
    have L6 := L5.go g6
    repeat walk_at "s"
    refine for_range (lo := 0) (n := (1 + n7).toNat) (fun i σ H7 => ∃ (S made : List PyData) (v : Option V), σ = [some (.ref sc), some (.ref a), some (.ref nl), some (.ref b), some (.ref m), v, none, none, none, none] ∧ Ls a c nl b m zs H7 S made ∧ S.length ≤ i ∧ made.length = i ∧ ∀ d ∈ made, sz d = 1) ?_ ?_ ?_
    · exact ⟨[], [], none, rfl, L6, Nat.le_refl _, rfl, fun _ h => (by cases h)⟩
    · rintro i σ H7 hi ⟨S, made, v, rfl, L7, hS7, hm7, h1⟩
      have md := L7.md
      repeat walk_at "s"
      refine ⟨a, c, nl, zs, rfl, L7.fl, L7.nz, na, by omega, by omega, hzs, fun t us ds H8 ht hds hv ho g8 => ?_⟩
      have L8 := L7.go g8
      repeat walk_at "s"
      refine ⟨b, t, S, ds, us, rfl, L8.bk, by omega, ht, hds, hv, ho, fun H9 f9 k9 => ?_⟩
      have L9 := L8.put f9 k9
      have z1 : sz (.tuple ds) = 1 := by unfold sz; rw [ho]; rfl
      repeat walk_at "s"
      refine w_append L9.md ?_ ?_
      · unfold tx; rw [List.length_map]; exact small1000 (by omega)
      repeat walk_at "s"
      refine ⟨_, _, _, rfl, L9.app (List.mem_cons_self ..) (by omega), by rw [List.length_cons]; omega, by rw [List.length_append, hm7]; rfl, fun d hd => ?_⟩
      rcases List.mem_append.mp hd with hd | hd
      · exact h1 d hd
      · cases List.mem_singleton.mp hd; exact z1
    · rintro σ H7 ⟨S, made, v, rfl, L7, hS7, hm7, h1⟩
      obtain ⟨d0, made', rfl⟩ : ∃ d0 r, made = d0 :: r := by
        cases made with
        | nil => simp at hm7; omega
        | cons d r => exact ⟨d, r, rfl⟩
      have z0 := h1 d0 (List.mem_cons_self ..)
      rw [List.length_cons] at hm7
      repeat walk_at "s"
      refine ⟨a, c, 13, rfl, L7.fl, by omega, by omega, fun n8 H8 n80 n81 g8 => ?_⟩
      have L8 := L7.go g8
      repeat walk_at "s"
      refine for_range (lo := 0) (n := n8.toNat) (fun i σ H7 => ∃ (S made : List PyData) (v : Option V), σ = [some (.ref sc), some (.ref a), some (.ref nl), some (.ref b), some (.ref m), v, none, none, none, none] ∧ Ls a c nl b m zs H7 S (d0 :: made) ∧ S.length ≤ 7 + i ∧ made.length ≤ 7 + i) ?_ ?_ ?_
      · exact ⟨S, made', _, rfl, L8, by omega, by omega⟩
      · rintro i σ H9 hi ⟨S, made, v, rfl, L9, hS9, hm9⟩
        have md := L9.md
        repeat walk_at "s"
        refine ⟨a, c, nl, b, m, zs, S, made, d0, 24, rfl, L9.fl, L9.nz, na, by omega, by omega, hzs, L9.bk, by omega, L9.md, L9.ma, by omega, fun d hd => (L9.ms d hd).1, z0, by omega, by omega, fun d H10 vd sd g10 k10 => ?_⟩
        have L10 := L9.gb g10 k10 fun e he => List.mem_cons_of_mem _ he
        repeat walk_at "s"
        refine w_append L10.md ?_ ?_
        · unfold tx; rw [List.length_map, List.length_cons]; exact small1000 (by omega)
        repeat walk_at "s"
        exact ⟨_, _, _, rfl, L10.app (List.mem_cons_self ..) (by omega), by rw [List.length_cons]; omega, by show (made ++ [d]).length ≤ _; rw [List.length_append]; simp only [List.length_cons, List.length_nil]; omega⟩
      · rintro σ H9 ⟨S, made, v, rfl, L9, hS9, hm9⟩
        have md := L9.md
        repeat walk_at "s"
        refine ⟨a, c, nl, b, m, zs, S, made, d0, rfl, L9.fl, L9.nz, na, by omega, by omega, hzs, L9.bk, by omega, L9.md, L9.ma, by omega, L9.ms, fun l S' near H10 N => ?_⟩
        have md10 := N.fr _ _ L9.md L9.ma L9.mb
        have hle := N.le
        have hln := N.ln
        refine ⟨m, l, _, _, rfl, rfl, md10, N.nr, ?_, fun mm hmm => ?_⟩
        · unfold tx
          rw [List.length_map, List.length_map, List.length_cons]
          exact Nat.le_of_lt (small1000 (by omega))
        have etx : tx (d0 :: made) ++ tx near = tx (d0 :: made ++ near) := by unfold tx; rw [List.map_append]
        have hall : ∀ d ∈ d0 :: made ++ near, d ∈ S' ∧ sz d ≤ 200 := by
          intro d hd
          rcases List.mem_append.mp hd with hd | hd
          · exact ⟨N.sub _ (L9.ms d hd).1, by have := (L9.ms d hd).2; omega⟩
          · exact N.ns d hd
        have hlen : (d0 :: made ++ near).length ≤ 500 := by rw [List.length_append, List.length_cons]; omega
        have F11 : Flow (upd H10 mm (.lst (tx (d0 :: made) ++ tx near))) a c := N.fl.new hmm
        have B11 : Bk (upd H10 mm (.lst (tx (d0 :: made) ++ tx near))) b S' := N.bk.mono (Tk.new hmm) (by obtain ⟨kv, e, _⟩ := N.bk.dict; rw [upd_ne (ne_of_none e hmm)])
        have hmm11 : upd H10 mm (.lst (tx (d0 :: made) ++ tx near)) mm = some (.lst (tx (d0 :: made ++ near))) := by rw [upd_same, etx]
        have nma : mm ≠ a := N.fl.na hmm
        obtain ⟨dr, edr⟩ : ∃ dr, d0 :: made ++ near = d0 :: dr := ⟨_, rfl⟩
        rw [edr] at hall hlen hmm11
        generalize upd H10 mm (.lst (tx (d0 :: made) ++ tx near)) = H11 at F11 B11 hmm11 ⊢
        have hdl : (tx (d0 :: dr)).length = dr.length + 1 := by unfold tx; rw [List.length_map]; rfl
        rw [List.length_cons] at hlen
        repeat walk_at "s"
        refine ⟨a, c, 14, rfl, F11, by omega, by omega, fun n14 H12 n140 n141 g12 => ?_⟩
        repeat walk_at "s"
        intro D hD
        have nDa := g12.fl.na hD
        have nDc := g12.fl.nc hD
        have hmm12 := g12.fr _ _ hmm11 nma
        have B12 := B11.go F11 g12
        refine lc_range (lo := 0) (n := n14.toNat) (fun i H13 => ∃ ds : List PyData, H13 D = some (.lst (tx ds)) ∧ ds.length = i ∧ (∀ d ∈ ds, d ∈ d0 :: dr) ∧ Go a c H12 H13) ⟨[], upd_same, rfl, fun _ h => (by cases h), (Go.refl g12.fl).new hD⟩ ?_ ?_
        · rintro i H13 hi ⟨ds, e13, l13, m13, g13⟩
          repeat walk_at "s"
          refine ⟨a, c, mm, _, rfl, g13.fl, g13.at hmm12 nma, nma, by omega, by omega, fun v' H14 hv' g14 => ?_⟩
          obtain ⟨d, hd, rfl⟩ := List.mem_map.mp hv'
          refine ⟨tx ds, g14.at e13 nDa, ?_, ds ++ [d], ?_, ?_, fun e he => ?_, (g13.trans g14).mut hD nDa nDc⟩
          · unfold tx; rw [List.length_map]; exact small1000 (by omega)
          · rw [upd_same, tx_app]
          · rw [List.length_append, l13]; rfl
          · rcases List.mem_append.mp he with he | he
            · exact m13 e he
            · cases List.mem_singleton.mp he; exact hd
        · rintro H13 ⟨ds, e13, l13, m13, g13⟩
          have hmm13 := g13.at hmm12 nma
          have B13 := B12.go g12.fl g13
          repeat walk_at "s"
          refine for_list (K := K) (a := mm) (xs := tx (d0 :: dr)) (fun i σ H14 => ∃ v7 v8 : Option V, σ = [some (.ref sc), some (.ref a), some (.ref nl), some (.ref b), some (.ref mm), v, some (.ref D), v7, v8, none] ∧ Same H13 H14) ⟨none, none, rfl, Same.refl _⟩ (fun i σ H14 _ ⟨_, _, _, s14⟩ => SqL.of (s14 _ _ hmm13)) ?_ ?_
          · rintro i x σ H14 hi ⟨v7, v8, rfl, s14⟩
            obtain ⟨d, hd, rfl⟩ := tx_get hi
            have hdm := hall d (List.mem_of_getElem? hd)
            have B14 := B13.same s14
            have vd := B14.ok d hdm.1
            obtain ⟨h1, h2⟩ := vt_pre vd (by omega)
            obtain ⟨kvs, p1, w1, l1, hb1, g1, t1, a1⟩ := B14.get hdm.1
            repeat walk_at "s"
            refine w_dgS hb1 g1 ?_
            repeat walk_at "s"
            refine ⟨w1, d, rfl, a1, vd.tup, vd.good, h1, h2, fun H15 s15 => ?_⟩
            have hb15 := s15 _ _ hb1
            have t15 := s15 _ _ t1
            repeat walk_at "s"
            refine w_dgS hb15 g1 ?_
            repeat walk_at "s"
            refine ⟨rfl, w1, d, rfl, a1.mono (Tk.same s15), vd.tup, vd.good, h1, h2, fun H16 s16 => ?_⟩
            repeat walk_at "s"
            rw [decide_eq_true rfl]
            refine iteF ?_
            repeat walk_at "s"
            refine iteF ?_
            repeat walk_at "s"
            rw [decide_eq_true rfl]
            refine iteF ?_
            exact ⟨_, _, rfl, (s14.trans s15).trans s16⟩
          · rintro σ H14 ⟨v7, v8, rfl, s14⟩
            have B14 := B13.same s14
            have at0 : atI (tx (d0 :: dr)) 0 = some (V.str (wr d0)) := atI_nat (j := 0) rfl
            obtain ⟨dl, hdl, atl⟩ := last_of (l := d0 :: dr) (by simp)
            have md0 := hall d0 (List.mem_cons_self ..)
            have mdl := hall dl hdl
            have vd0 := B14.ok d0 md0.1
            have vdl := B14.ok dl mdl.1
            obtain ⟨kvs, p1, w1, l1, hb1, g1, t1, a1⟩ := B14.get md0.1
            obtain ⟨kvs', p2, w2, l2, hb2, g2', t2, a2⟩ := B14.get mdl.1
            have hmm14 := s14 _ _ hmm13
            repeat walk_at "s"
            refine w_ixL (SqL.of hmm14) at0 ?_
            repeat walk_at "s"
            refine w_dgS hb1 g1 ?_
            repeat walk_at "s"
            refine w_ixL (SqL.of hmm14) atl ?_
            repeat walk_at "s"
            refine w_dgS hb2 g2' ?_
            repeat walk_at "s"
            refine ⟨rfl, w2, w1, dl, d0, rfl, a2, a1, vdl, vd0, by omega, by omega, fun H15 s15 => ?_⟩
            have hmm15 := s15 _ _ hmm14
            repeat walk_at "s"
            have B15 := B14.same s15
            have hD15 := s15 _ _ (s14 _ _ e13)
            have fin : ∀ H', Same H15 H' → tRet (tAndV (tCall sp_pairs [] E0 (tCons (tVar 3) (tCons (tVar 6) tNil))) (tCall sp_row [] E0 (tCons (tVar 3) (tCons (tVar 6) tNil)))) { nx := fun x H' => Q V.non H', rt := Q } ([some (V.ref sc), some (V.ref a), some (V.ref nl), some (V.ref b), some (V.ref mm), v, some (V.ref D), v7, v8, none].set 9 (some (V.bl (lexIS (rk dl) (rk d0))))) H' := fun H' s' => by
              have hD' := s' _ _ hD15
              have B' := B15.same s'
              have hds : ∀ d ∈ ds, d ∈ S' ∧ sz d ≤ 200 := fun d hd => hall d (m13 d hd)
              repeat walk_at "s"
              refine ⟨b, D, S', ds, rfl, B', hD', fun d hd => ⟨(hds d hd).1, by have := (hds d hd).2; omega⟩, fun H2 s2 => ?_⟩
              repeat walk_at "s"
              refine ⟨b, D, S', ds, rfl, B'.same s2, s2 _ _ hD', by omega, fun d hd => ⟨(hds d hd).1, by have := (hds d hd).2; omega⟩, fun H3 s3 => ?_⟩
              exact q H3
            generalize hlx : lexIS (rk dl) (rk d0) = lx at fin ⊢
            cases lx with
            | true =>
              rw [show (!decide (true = false)) = true from rfl]
              refine iteT ?_
              repeat walk_at "s"
              rw [show (!decide (true = true)) = false from rfl]
              refine iteF ?_
              repeat walk_at "s"
              refine w_ixL (SqL.of hmm15) atl ?_
              repeat walk_at "s"
              refine ⟨dl, rfl, vdl, by omega, ?_⟩
              repeat walk_at "s"
              refine w_ixL (SqL.of hmm15) at0 ?_
              repeat walk_at "s"
              refine ⟨d0, rfl, vd0, by omega, ?_⟩
              repeat walk_at "s"
              rw [lex_ky (by omega) (by omega), hlx]
              rw [show (!decide (true = true)) = false from rfl]
              refine iteF ?_
              exact fin H15 (Same.refl _)
            | false =>
              rw [show (!decide (false = false)) = false from rfl]
              refine iteF ?_
              repeat walk_at "s"
              refine w_ixL (SqL.of hmm15) atl ?_
              repeat walk_at "s"
              refine ⟨dl, rfl, vdl, by omega, ?_⟩
              repeat walk_at "s"
              refine w_ixL (SqL.of hmm15) at0 ?_
              repeat walk_at "s"
              refine ⟨d0, rfl, vd0, by omega, ?_⟩
              repeat walk_at "s"
              rw [lex_ky (by omega) (by omega), hlx]
              rw [show (!decide (false = false)) = false from rfl]
              refine iteF ?_
              exact fin H15 (Same.refl _)
end
theorem all_mk {l : PySem.W.OpenLaw} {w : World} {K : PySem.W.Frag} {h : Heap} {mg : Str → Option Value} {fa : Addr} (X : K.In h) (G : h.Ns mainGlobals mg) (hfa : mg "law" = some (.ref fa))
    {f0 f1 f2 f3 f4 f5 f6 f7 f8 f9 f10 f11 f12 f13 f14 f15 f16 f17 f18 f19 f20 f21 f22 f23 f24 : Addr} {od0 an0 od1 an1 od2 an2 od3 an3 od4 an4 od5 an5 od6 an6 od7 an7 od8 an8 od9 an9 od10 an10 od11 an11 od12 an12 od13 an13 od14 an14 od15 an15 od16 an16 od17 an17 od18 an18 od19 an19 od20 an20 od21 an21 od22 an22 od23 an23 od24 an24 : Option Addr} {sl0 sl1 sl2 sl3 sl4 sl5 sl6 sl7 sl8 sl9 sl10 sl11 sl12 sl13 sl14 sl15 sl16 sl17 sl18 sl19 sl20 sl21 sl22 sl23 sl24 : Array (Option Value)}
    {oc0 kV0 dc0 pm0 cd0 ct0 oc1 kV1 dc1 pm1 cd1 ct1 oc2 kV2 dc2 pm2 cd2 ct2 oc3 kV3 dc3 pm3 cd3 ct3 oc4 kV4 dc4 pm4 cd4 ct4 oc5 kV5 dc5 pm5 cd5 ct5 oc6 kV6 dc6 pm6 cd6 ct6 oc7 kV7 dc7 pm7 cd7 ct7 oc8 kV8 dc8 pm8 cd8 ct8 oc9 kV9 dc9 pm9 cd9 ct9 oc10 kV10 dc10 pm10 cd10 ct10 oc11 kV11 dc11 pm11 cd11 ct11 oc12 kV12 dc12 pm12 cd12 ct12 oc13 kV13 dc13 pm13 cd13 ct13 oc14 kV14 dc14 pm14 cd14 ct14 oc15 kV15 dc15 pm15 cd15 ct15 oc16 kV16 dc16 pm16 cd16 ct16 oc17 kV17 dc17 pm17 cd17 ct17 oc18 kV18 dc18 pm18 cd18 ct18 oc19 kV19 dc19 pm19 cd19 ct19 oc20 kV20 dc20 pm20 cd20 ct20 oc21 kV21 dc21 pm21 cd21 ct21 oc22 kV22 dc22 pm22 cd22 ct22 oc23 kV23 dc23 pm23 cd23 ct23 oc24 kV24 dc24 pm24 cd24 ct24 : Value}
    (a0 : PySem.W.nsIn K mainGlobals "size" = some (some (.ref f0))) (l0 : K.lookup f0 = some ⟨oc0, od0, .func (PySem.W.fnOf "size" "size" (defArgs ssize) (defBody ssize) (defScope ssize) .none kV0 dc0 pm0 an0 cd0 ct0), sl0⟩) (c0 : PySem.W.codeIn K cd0 "size" = true) (k0 : PySem.W.keepIn K (.ref f0) = true)
    (a1 : PySem.W.nsIn K mainGlobals "occurrences" = some (some (.ref f1))) (l1 : K.lookup f1 = some ⟨oc1, od1, .func (PySem.W.fnOf "occurrences" "occurrences" (defArgs soccurrences) (defBody soccurrences) (defScope soccurrences) .none kV1 dc1 pm1 an1 cd1 ct1), sl1⟩) (c1 : PySem.W.codeIn K cd1 "occurrences" = true) (k1 : PySem.W.keepIn K (.ref f1) = true)
    (a2 : PySem.W.nsIn K mainGlobals "_written" = some (some (.ref f2))) (l2 : K.lookup f2 = some ⟨oc2, od2, .func (PySem.W.fnOf "_written" "_written" (defArgs s_written) (defBody s_written) (defScope s_written) .none kV2 dc2 pm2 an2 cd2 ct2), sl2⟩) (c2 : PySem.W.codeIn K cd2 "_written" = true) (k2 : PySem.W.keepIn K (.ref f2) = true)
    (a3 : PySem.W.nsIn K mainGlobals "key_of" = some (some (.ref f3))) (l3 : K.lookup f3 = some ⟨oc3, od3, .func (PySem.W.fnOf "key_of" "key_of" (defArgs skey_of) (defBody skey_of) (defScope skey_of) .none kV3 dc3 pm3 an3 cd3 ct3), sl3⟩) (c3 : PySem.W.codeIn K cd3 "key_of" = true) (k3 : PySem.W.keepIn K (.ref f3) = true)
    (a4 : PySem.W.nsIn K mainGlobals "_rank" = some (some (.ref f4))) (l4 : K.lookup f4 = some ⟨oc4, od4, .func (PySem.W.fnOf "_rank" "_rank" (defArgs s_rank) (defBody s_rank) (defScope s_rank) .none kV4 dc4 pm4 an4 cd4 ct4), sl4⟩) (c4 : PySem.W.codeIn K cd4 "_rank" = true) (k4 : PySem.W.keepIn K (.ref f4) = true)
    (a5 : PySem.W.nsIn K mainGlobals "is_less" = some (some (.ref f5))) (l5 : K.lookup f5 = some ⟨oc5, od5, .func (PySem.W.fnOf "is_less" "is_less" (defArgs sis_less) (defBody sis_less) (defScope sis_less) .none kV5 dc5 pm5 an5 cd5 ct5), sl5⟩) (c5 : PySem.W.codeIn K cd5 "is_less" = true) (k5 : PySem.W.keepIn K (.ref f5) = true)
    (a6 : PySem.W.nsIn K mainGlobals "in_order" = some (some (.ref f6))) (l6 : K.lookup f6 = some ⟨oc6, od6, .func (PySem.W.fnOf "in_order" "in_order" (defArgs sin_order) (defBody sin_order) (defScope sin_order) .none kV6 dc6 pm6 an6 cd6 ct6), sl6⟩) (c6 : PySem.W.codeIn K cd6 "in_order" = true) (k6 : PySem.W.keepIn K (.ref f6) = true)
    (a7 : PySem.W.nsIn K mainGlobals "_law_flow" = some (some (.ref f7))) (l7 : K.lookup f7 = some ⟨oc7, od7, .func (PySem.W.fnOf "_law_flow" "_law_flow" (defArgs s_law_flow) (defBody s_law_flow) (defScope s_law_flow) .none kV7 dc7 pm7 an7 cd7 ct7), sl7⟩) (c7 : PySem.W.codeIn K cd7 "_law_flow" = true) (k7 : PySem.W.keepIn K (.ref f7) = true)
    (a8 : PySem.W.nsIn K mainGlobals "_law_load" = some (some (.ref f8))) (l8 : K.lookup f8 = some ⟨oc8, od8, .func (PySem.W.fnOf "_law_load" "_law_load" (defArgs s_law_load) (defBody s_law_load) (defScope s_law_load) .none kV8 dc8 pm8 an8 cd8 ct8), sl8⟩) (c8 : PySem.W.codeIn K cd8 "_law_load" = true) (k8 : PySem.W.keepIn K (.ref f8) = true)
    (a9 : PySem.W.nsIn K mainGlobals "_law_draw" = some (some (.ref f9))) (l9 : K.lookup f9 = some ⟨oc9, od9, .func (PySem.W.fnOf "_law_draw" "_law_draw" (defArgs s_law_draw) (defBody s_law_draw) (defScope s_law_draw) .none kV9 dc9 pm9 an9 cd9 ct9), sl9⟩) (c9 : PySem.W.codeIn K cd9 "_law_draw" = true) (k9 : PySem.W.keepIn K (.ref f9) = true)
    (a10 : PySem.W.nsIn K mainGlobals "_law_pick" = some (some (.ref f10))) (l10 : K.lookup f10 = some ⟨oc10, od10, .func (PySem.W.fnOf "_law_pick" "_law_pick" (defArgs s_law_pick) (defBody s_law_pick) (defScope s_law_pick) .none kV10 dc10 pm10 an10 cd10 ct10), sl10⟩) (c10 : PySem.W.codeIn K cd10 "_law_pick" = true) (k10 : PySem.W.keepIn K (.ref f10) = true)
    (a11 : PySem.W.nsIn K mainGlobals "_law_letter" = some (some (.ref f11))) (l11 : K.lookup f11 = some ⟨oc11, od11, .func (PySem.W.fnOf "_law_letter" "_law_letter" (defArgs s_law_letter) (defBody s_law_letter) (defScope s_law_letter) .none kV11 dc11 pm11 an11 cd11 ct11), sl11⟩) (c11 : PySem.W.codeIn K cd11 "_law_letter" = true) (k11 : PySem.W.keepIn K (.ref f11) = true)
    (a12 : PySem.W.nsIn K mainGlobals "_law_name" = some (some (.ref f12))) (l12 : K.lookup f12 = some ⟨oc12, od12, .func (PySem.W.fnOf "_law_name" "_law_name" (defArgs s_law_name) (defBody s_law_name) (defScope s_law_name) .none kV12 dc12 pm12 an12 cd12 ct12), sl12⟩) (c12 : PySem.W.codeIn K cd12 "_law_name" = true) (k12 : PySem.W.keepIn K (.ref f12) = true)
    (a13 : PySem.W.nsIn K mainGlobals "_law_near" = some (some (.ref f13))) (l13 : K.lookup f13 = some ⟨oc13, od13, .func (PySem.W.fnOf "_law_near" "_law_near" (defArgs s_law_near) (defBody s_law_near) (defScope s_law_near) .none kV13 dc13 pm13 an13 cd13 ct13), sl13⟩) (c13 : PySem.W.codeIn K cd13 "_law_near" = true) (k13 : PySem.W.keepIn K (.ref f13) = true)
    (a14 : PySem.W.nsIn K mainGlobals "_law_names" = some (some (.ref f14))) (l14 : K.lookup f14 = some ⟨oc14, od14, .func (PySem.W.fnOf "_law_names" "_law_names" (defArgs s_law_names) (defBody s_law_names) (defScope s_law_names) .none kV14 dc14 pm14 an14 cd14 ct14), sl14⟩) (c14 : PySem.W.codeIn K cd14 "_law_names" = true) (k14 : PySem.W.keepIn K (.ref f14) = true)
    (a15 : PySem.W.nsIn K mainGlobals "_law_atom" = some (some (.ref f15))) (l15 : K.lookup f15 = some ⟨oc15, od15, .func (PySem.W.fnOf "_law_atom" "_law_atom" (defArgs s_law_atom) (defBody s_law_atom) (defScope s_law_atom) .none kV15 dc15 pm15 an15 cd15 ct15), sl15⟩) (c15 : PySem.W.codeIn K cd15 "_law_atom" = true) (k15 : PySem.W.keepIn K (.ref f15) = true)
    (a16 : PySem.W.nsIn K mainGlobals "_law_note" = some (some (.ref f16))) (l16 : K.lookup f16 = some ⟨oc16, od16, .func (PySem.W.fnOf "_law_note" "_law_note" (defArgs s_law_note) (defBody s_law_note) (defScope s_law_note) .none kV16 dc16 pm16 an16 cd16 ct16), sl16⟩) (c16 : PySem.W.codeIn K cd16 "_law_note" = true) (k16 : PySem.W.keepIn K (.ref f16) = true)
    (a17 : PySem.W.nsIn K mainGlobals "_law_compose" = some (some (.ref f17))) (l17 : K.lookup f17 = some ⟨oc17, od17, .func (PySem.W.fnOf "_law_compose" "_law_compose" (defArgs s_law_compose) (defBody s_law_compose) (defScope s_law_compose) .none kV17 dc17 pm17 an17 cd17 ct17), sl17⟩) (c17 : PySem.W.codeIn K cd17 "_law_compose" = true) (k17 : PySem.W.keepIn K (.ref f17) = true)
    (a18 : PySem.W.nsIn K mainGlobals "_law_grow" = some (some (.ref f18))) (l18 : K.lookup f18 = some ⟨oc18, od18, .func (PySem.W.fnOf "_law_grow" "_law_grow" (defArgs s_law_grow) (defBody s_law_grow) (defScope s_law_grow) .none kV18 dc18 pm18 an18 cd18 ct18), sl18⟩) (c18 : PySem.W.codeIn K cd18 "_law_grow" = true) (k18 : PySem.W.keepIn K (.ref f18) = true)
    (a19 : PySem.W.nsIn K mainGlobals "_law_same" = some (some (.ref f19))) (l19 : K.lookup f19 = some ⟨oc19, od19, .func (PySem.W.fnOf "_law_same" "_law_same" (defArgs s_law_same) (defBody s_law_same) (defScope s_law_same) .none kV19 dc19 pm19 an19 cd19 ct19), sl19⟩) (c19 : PySem.W.codeIn K cd19 "_law_same" = true) (k19 : PySem.W.keepIn K (.ref f19) = true)
    (a20 : PySem.W.nsIn K mainGlobals "_law_key" = some (some (.ref f20))) (l20 : K.lookup f20 = some ⟨oc20, od20, .func (PySem.W.fnOf "_law_key" "_law_key" (defArgs s_law_key) (defBody s_law_key) (defScope s_law_key) .none kV20 dc20 pm20 an20 cd20 ct20), sl20⟩) (c20 : PySem.W.codeIn K cd20 "_law_key" = true) (k20 : PySem.W.keepIn K (.ref f20) = true)
    (a21 : PySem.W.nsIn K mainGlobals "_law_neighbours" = some (some (.ref f21))) (l21 : K.lookup f21 = some ⟨oc21, od21, .func (PySem.W.fnOf "_law_neighbours" "_law_neighbours" (defArgs s_law_neighbours) (defBody s_law_neighbours) (defScope s_law_neighbours) .none kV21 dc21 pm21 an21 cd21 ct21), sl21⟩) (c21 : PySem.W.codeIn K cd21 "_law_neighbours" = true) (k21 : PySem.W.keepIn K (.ref f21) = true)
    (a22 : PySem.W.nsIn K mainGlobals "_law_pairs_right" = some (some (.ref f22))) (l22 : K.lookup f22 = some ⟨oc22, od22, .func (PySem.W.fnOf "_law_pairs_right" "_law_pairs_right" (defArgs s_law_pairs_right) (defBody s_law_pairs_right) (defScope s_law_pairs_right) .none kV22 dc22 pm22 an22 cd22 ct22), sl22⟩) (c22 : PySem.W.codeIn K cd22 "_law_pairs_right" = true) (k22 : PySem.W.keepIn K (.ref f22) = true)
    (a23 : PySem.W.nsIn K mainGlobals "_law_row_right" = some (some (.ref f23))) (l23 : K.lookup f23 = some ⟨oc23, od23, .func (PySem.W.fnOf "_law_row_right" "_law_row_right" (defArgs s_law_row_right) (defBody s_law_row_right) (defScope s_law_row_right) .none kV23 dc23 pm23 an23 cd23 ct23), sl23⟩) (c23 : PySem.W.codeIn K cd23 "_law_row_right" = true) (k23 : PySem.W.keepIn K (.ref f23) = true)
    (a24 : PySem.W.nsIn K mainGlobals "law" = some (some (.ref f24))) (l24 : K.lookup f24 = some ⟨oc24, od24, .func (PySem.W.fnOf "law" "law" (defArgs slaw) (defBody slaw) (defScope slaw) .none kV24 dc24 pm24 an24 cd24 ct24), sl24⟩) (c24 : PySem.W.codeIn K cd24 "law" = true) (k24 : PySem.W.keepIn K (.ref f24) = true)
    (z_abs : PySem.W.nsIn K mainGlobals "abs" = some none)
    (z_bool : PySem.W.nsIn K mainGlobals "bool" = some none)
    (z_int : PySem.W.nsIn K mainGlobals "int" = some none)
    (z_isinstance : PySem.W.nsIn K mainGlobals "isinstance" = some none)
    (z_len : PySem.W.nsIn K mainGlobals "len" = some none)
    (z_list : PySem.W.nsIn K mainGlobals "list" = some none)
    (z_max : PySem.W.nsIn K mainGlobals "max" = some none)
    (z_min : PySem.W.nsIn K mainGlobals "min" = some none)
    (z_range : PySem.W.nsIn K mainGlobals "range" = some none)
    (z_reversed : PySem.W.nsIn K mainGlobals "reversed" = some none)
    (z_sorted : PySem.W.nsIn K mainGlobals "sorted" = some none)
    (z_str : PySem.W.nsIn K mainGlobals "str" = some none)
    (z_tuple : PySem.W.nsIn K mainGlobals "tuple" = some none)
    : ∃ fd : FuncData, (∀ (s : Shared) (v : Value), BindsTo s fd ⟨[v], []⟩ [("script", v)]) ∧ ∀ base : Heap, K.In base → base.Ns mainGlobals mg → FnOk l.prog w K mg base CX0 8 fa fd ["script"] (spLaw K) := by
  have e := hfa.symm.trans (PySem.W.mg_of X G a24)
  cases e
  let T : Top K mg := {
    fsize := f0, dsize := _, Fsize := fun_mk (st := ssize) l0 c0 k0, gsize := PySem.W.mg_of X G a0, bsize := (fun_mk (st := ssize) l0 c0 k0).binds (ps := ["term"]) fun _ _ _ _ _ _ us hl => match us, hl with | [_], _ => rfl,
    foccurrences := f1, doccurrences := _, Foccurrences := fun_mk (st := soccurrences) l1 c1 k1, goccurrences := PySem.W.mg_of X G a1, boccurrences := (fun_mk (st := soccurrences) l1 c1 k1).binds (ps := ["term"]) fun _ _ _ _ _ _ us hl => match us, hl with | [_], _ => rfl,
    f_written := f2, d_written := _, F_written := fun_mk (st := s_written) l2 c2 k2, g_written := PySem.W.mg_of X G a2, b_written := (fun_mk (st := s_written) l2 c2 k2).binds (ps := ["node", "inner"]) fun _ _ _ _ _ _ us hl => match us, hl with | [_, _], _ => rfl,
    fkey_of := f3, dkey_of := _, Fkey_of := fun_mk (st := skey_of) l3 c3 k3, gkey_of := PySem.W.mg_of X G a3, bkey_of := (fun_mk (st := skey_of) l3 c3 k3).binds (ps := ["term"]) fun _ _ _ _ _ _ us hl => match us, hl with | [_], _ => rfl,
    f_rank := f4, d_rank := _, F_rank := fun_mk (st := s_rank) l4 c4 k4, g_rank := PySem.W.mg_of X G a4, b_rank := (fun_mk (st := s_rank) l4 c4 k4).binds (ps := ["term"]) fun _ _ _ _ _ _ us hl => match us, hl with | [_], _ => rfl,
    fis_less := f5, dis_less := _, Fis_less := fun_mk (st := sis_less) l5 c5 k5, gis_less := PySem.W.mg_of X G a5, bis_less := (fun_mk (st := sis_less) l5 c5 k5).binds (ps := ["first", "second"]) fun _ _ _ _ _ _ us hl => match us, hl with | [_, _], _ => rfl,
    fin_order := f6, din_order := _, Fin_order := fun_mk (st := sin_order) l6 c6 k6, gin_order := PySem.W.mg_of X G a6, bin_order := (fun_mk (st := sin_order) l6 c6 k6).binds (ps := ["row"]) fun _ _ _ _ _ _ us hl => match us, hl with | [_], _ => rfl,
    f_law_flow := f7, d_law_flow := _, F_law_flow := fun_mk (st := s_law_flow) l7 c7 k7, g_law_flow := PySem.W.mg_of X G a7, b_law_flow := (fun_mk (st := s_law_flow) l7 c7 k7).binds (ps := ["script"]) fun _ _ _ _ _ _ us hl => match us, hl with | [_], _ => rfl,
    f_law_load := f8, d_law_load := _, F_law_load := fun_mk (st := s_law_load) l8 c8 k8, g_law_load := PySem.W.mg_of X G a8, b_law_load := (fun_mk (st := s_law_load) l8 c8 k8).binds (ps := ["flow"]) fun _ _ _ _ _ _ us hl => match us, hl with | [_], _ => rfl,
    f_law_draw := f9, d_law_draw := _, F_law_draw := fun_mk (st := s_law_draw) l9 c9 k9, g_law_draw := PySem.W.mg_of X G a9, b_law_draw := (fun_mk (st := s_law_draw) l9 c9 k9).binds (ps := ["flow", "many"]) fun _ _ _ _ _ _ us hl => match us, hl with | [_, _], _ => rfl,
    f_law_pick := f10, d_law_pick := _, F_law_pick := fun_mk (st := s_law_pick) l10 c10 k10, g_law_pick := PySem.W.mg_of X G a10, b_law_pick := (fun_mk (st := s_law_pick) l10 c10 k10).binds (ps := ["flow", "things"]) fun _ _ _ _ _ _ us hl => match us, hl with | [_, _], _ => rfl,
    f_law_letter := f11, d_law_letter := _, F_law_letter := fun_mk (st := s_law_letter) l11 c11 k11, g_law_letter := PySem.W.mg_of X G a11, b_law_letter := (fun_mk (st := s_law_letter) l11 c11 k11).binds (ps := ["flow"]) fun _ _ _ _ _ _ us hl => match us, hl with | [_], _ => rfl,
    f_law_name := f12, d_law_name := _, F_law_name := fun_mk (st := s_law_name) l12 c12 k12, g_law_name := PySem.W.mg_of X G a12, b_law_name := (fun_mk (st := s_law_name) l12 c12 k12).binds (ps := ["flow"]) fun _ _ _ _ _ _ us hl => match us, hl with | [_], _ => rfl,
    f_law_near := f13, d_law_near := _, F_law_near := fun_mk (st := s_law_near) l13 c13 k13, g_law_near := PySem.W.mg_of X G a13, b_law_near := (fun_mk (st := s_law_near) l13 c13 k13).binds (ps := ["flow", "name"]) fun _ _ _ _ _ _ us hl => match us, hl with | [_, _], _ => rfl,
    f_law_names := f14, d_law_names := _, F_law_names := fun_mk (st := s_law_names) l14 c14 k14, g_law_names := PySem.W.mg_of X G a14, b_law_names := (fun_mk (st := s_law_names) l14 c14 k14).binds (ps := ["flow", "many"]) fun _ _ _ _ _ _ us hl => match us, hl with | [_, _], _ => rfl,
    f_law_atom := f15, d_law_atom := _, F_law_atom := fun_mk (st := s_law_atom) l15 c15 k15, g_law_atom := PySem.W.mg_of X G a15, b_law_atom := (fun_mk (st := s_law_atom) l15 c15 k15).binds (ps := ["flow", "names"]) fun _ _ _ _ _ _ us hl => match us, hl with | [_, _], _ => rfl,
    f_law_note := f16, d_law_note := _, F_law_note := fun_mk (st := s_law_note) l16 c16 k16, g_law_note := PySem.W.mg_of X G a16, b_law_note := (fun_mk (st := s_law_note) l16 c16 k16).binds (ps := ["book", "atom"]) fun _ _ _ _ _ _ us hl => match us, hl with | [_, _], _ => rfl,
    f_law_compose := f17, d_law_compose := _, F_law_compose := fun_mk (st := s_law_compose) l17 c17 k17, g_law_compose := PySem.W.mg_of X G a17, b_law_compose := (fun_mk (st := s_law_compose) l17 c17 k17).binds (ps := ["book", "kind", "one", "two", "name"]) fun _ _ _ _ _ _ us hl => match us, hl with | [_, _, _, _, _], _ => rfl,
    f_law_grow := f18, d_law_grow := _, F_law_grow := fun_mk (st := s_law_grow) l18 c18 k18, g_law_grow := PySem.W.mg_of X G a18, b_law_grow := (fun_mk (st := s_law_grow) l18 c18 k18).binds (ps := ["flow", "names", "book", "made", "most"]) fun _ _ _ _ _ _ us hl => match us, hl with | [_, _, _, _, _], _ => rfl,
    f_law_same := f19, d_law_same := _, F_law_same := fun_mk (st := s_law_same) l19 c19 k19, g_law_same := PySem.W.mg_of X G a19, b_law_same := (fun_mk (st := s_law_same) l19 c19 k19).binds (ps := ["actual", "due"]) fun _ _ _ _ _ _ us hl => match us, hl with | [_, _], _ => rfl,
    f_law_key := f20, d_law_key := _, F_law_key := fun_mk (st := s_law_key) l20 c20 k20, g_law_key := PySem.W.mg_of X G a20, b_law_key := (fun_mk (st := s_law_key) l20 c20 k20).binds (ps := ["text"]) fun _ _ _ _ _ _ us hl => match us, hl with | [_], _ => rfl,
    f_law_neighbours := f21, d_law_neighbours := _, F_law_neighbours := fun_mk (st := s_law_neighbours) l21 c21 k21, g_law_neighbours := PySem.W.mg_of X G a21, b_law_neighbours := (fun_mk (st := s_law_neighbours) l21 c21 k21).binds (ps := ["flow", "names", "book", "made"]) fun _ _ _ _ _ _ us hl => match us, hl with | [_, _, _, _], _ => rfl,
    f_law_pairs_right := f22, d_law_pairs_right := _, F_law_pairs_right := fun_mk (st := s_law_pairs_right) l22 c22 k22, g_law_pairs_right := PySem.W.mg_of X G a22, b_law_pairs_right := (fun_mk (st := s_law_pairs_right) l22 c22 k22).binds (ps := ["book", "row"]) fun _ _ _ _ _ _ us hl => match us, hl with | [_, _], _ => rfl,
    f_law_row_right := f23, d_law_row_right := _, F_law_row_right := fun_mk (st := s_law_row_right) l23 c23 k23, g_law_row_right := PySem.W.mg_of X G a23, b_law_row_right := (fun_mk (st := s_law_row_right) l23 c23 k23).binds (ps := ["book", "row"]) fun _ _ _ _ _ _ us hl => match us, hl with | [_, _], _ => rfl,
    flaw := fa, dlaw := _, Flaw := fun_mk (st := slaw) l24 c24 k24, glaw := PySem.W.mg_of X G a24, blaw := (fun_mk (st := slaw) l24 c24 k24).binds (ps := ["script"]) fun _ _ _ _ _ _ us hl => match us, hl with | [_], _ => rfl,
    kis_less_second_first := fun s ws hl => match ws, hl with | [w0, w1], _ => .of_eq rfl,
    kin_order_row := fun s ws hl => match ws, hl with | [w0], _ => .of_eq rfl,
    kkey_of_term := fun s ws hl => match ws, hl with | [w0], _ => .of_eq rfl,
    z_abs := PySem.W.mg_none_of X G z_abs, z_bool := PySem.W.mg_none_of X G z_bool, z_int := PySem.W.mg_none_of X G z_int, z_isinstance := PySem.W.mg_none_of X G z_isinstance, z_len := PySem.W.mg_none_of X G z_len, z_list := PySem.W.mg_none_of X G z_list, z_max := PySem.W.mg_none_of X G z_max, z_min := PySem.W.mg_none_of X G z_min, z_range := PySem.W.mg_none_of X G z_range, z_reversed := PySem.W.mg_none_of X G z_reversed, z_sorted := PySem.W.mg_none_of X G z_sorted, z_str := PySem.W.mg_none_of X G z_str, z_tuple := PySem.W.mg_none_of X G z_tuple }
  exact ⟨PySem.W.fnOf "law" "law" (defArgs slaw) (defBody slaw) (defScope slaw) .none kV24 dc24 pm24 an24 cd24 ct24, fun s v => .of_eq rfl, fun base _ _ => oklaw T⟩
end Mu
open PySem PySem.W PyProof.Rows
set_option maxHeartbeats 0 in
theorem PySem.Challenge.cw_muffline_k03_order_of_terms_holds : PySem.Challenge.rw_muffline_k03_order_of_terms.Holds := by
  w_on; o_law; k_head; (case hw => w_witness2)
  k_fill
  refine L2.walk_of (l := PySem.Challenge.rw_muffline_k03_order_of_terms) (n := 63) (k := 8) (x := "script") (CX := fun _ => L2.CX0) (sp := fun w => Mu.spLaw _) rfl (by decide) rfl ⟨rfl, by decide, by decide⟩ (fun w h Y => PySem.W.kIn_of Y) ?F (fun _ _ a ns hl _ hS => ⟨a, ns, rfl, hS, hl, fun _ => rfl⟩) (fun _ _ _ _ _ h => h)
  case F =>
    intro w mg fa h KX G hmg
    refine' Mu.all_mk  KX G hmg ?a0 ?l0 ?c0 ?k0 ?a1 ?l1 ?c1 ?k1 ?a2 ?l2 ?c2 ?k2 ?a3 ?l3 ?c3 ?k3 ?a4 ?l4 ?c4 ?k4 ?a5 ?l5 ?c5 ?k5 ?a6 ?l6 ?c6 ?k6 ?a7 ?l7 ?c7 ?k7 ?a8 ?l8 ?c8 ?k8 ?a9 ?l9 ?c9 ?k9 ?a10 ?l10 ?c10 ?k10 ?a11 ?l11 ?c11 ?k11 ?a12 ?l12 ?c12 ?k12 ?a13 ?l13 ?c13 ?k13 ?a14 ?l14 ?c14 ?k14 ?a15 ?l15 ?c15 ?k15 ?a16 ?l16 ?c16 ?k16 ?a17 ?l17 ?c17 ?k17 ?a18 ?l18 ?c18 ?k18 ?a19 ?l19 ?c19 ?k19 ?a20 ?l20 ?c20 ?k20 ?a21 ?l21 ?c21 ?k21 ?a22 ?l22 ?c22 ?k22 ?a23 ?l23 ?c23 ?k23 ?a24 ?l24 ?c24 ?k24 ?z_abs ?z_bool ?z_int ?z_isinstance ?z_len ?z_list ?z_max ?z_min ?z_range ?z_reversed ?z_sorted ?z_str ?z_tuple
    (case a0 => k_is); (case l0 => k_is); (case c0 => k_is); (case k0 => k_is); (case a1 => k_is); (case l1 => k_is); (case c1 => k_is); (case k1 => k_is); (case a2 => k_is); (case l2 => k_is); (case c2 => k_is); (case k2 => k_is); (case a3 => k_is); (case l3 => k_is); (case c3 => k_is); (case k3 => k_is); (case a4 => k_is); (case l4 => k_is); (case c4 => k_is); (case k4 => k_is); (case a5 => k_is); (case l5 => k_is); (case c5 => k_is); (case k5 => k_is); (case a6 => k_is); (case l6 => k_is); (case c6 => k_is); (case k6 => k_is); (case a7 => k_is); (case l7 => k_is); (case c7 => k_is); (case k7 => k_is); (case a8 => k_is); (case l8 => k_is); (case c8 => k_is); (case k8 => k_is); (case a9 => k_is); (case l9 => k_is); (case c9 => k_is); (case k9 => k_is); (case a10 => k_is); (case l10 => k_is); (case c10 => k_is); (case k10 => k_is); (case a11 => k_is); (case l11 => k_is); (case c11 => k_is); (case k11 => k_is); (case a12 => k_is); (case l12 => k_is); (case c12 => k_is); (case k12 => k_is); (case a13 => k_is); (case l13 => k_is); (case c13 => k_is); (case k13 => k_is); (case a14 => k_is); (case l14 => k_is); (case c14 => k_is); (case k14 => k_is); (case a15 => k_is); (case l15 => k_is); (case c15 => k_is); (case k15 => k_is); (case a16 => k_is); (case l16 => k_is); (case c16 => k_is); (case k16 => k_is); (case a17 => k_is); (case l17 => k_is); (case c17 => k_is); (case k17 => k_is); (case a18 => k_is); (case l18 => k_is); (case c18 => k_is); (case k18 => k_is); (case a19 => k_is); (case l19 => k_is); (case c19 => k_is); (case k19 => k_is); (case a20 => k_is); (case l20 => k_is); (case c20 => k_is); (case k20 => k_is); (case a21 => k_is); (case l21 => k_is); (case c21 => k_is); (case k21 => k_is); (case a22 => k_is); (case l22 => k_is); (case c22 => k_is); (case k22 => k_is); (case a23 => k_is); (case l23 => k_is); (case c23 => k_is); (case k23 => k_is); (case a24 => k_is); (case l24 => k_is); (case c24 => k_is); (case k24 => k_is); (case z_abs => k_is); (case z_bool => k_is); (case z_int => k_is); (case z_isinstance => k_is); (case z_len => k_is); (case z_list => k_is); (case z_max => k_is); (case z_min => k_is); (case z_range => k_is); (case z_reversed => k_is); (case z_sorted => k_is); (case z_str => k_is); (case z_tuple => k_is)
