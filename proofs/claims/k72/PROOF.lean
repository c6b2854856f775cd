import PyProof.Rows.All
import Wide.All
import OpenK.AllK
import Wide.FinOn
import HandS.ForMost
import HandS.More
import HandS.Rev
import HandS.IsInst
import HandS.TupAny
import HandS.RaiseMore
import HandS.SetKeys
import HandS.SortKw
import HandS.Style
import HandS.StrMore
import KE.KRevSl
import HandS.Walk
import HandS.Conv
import HandS.TupLe
import HandS.Iter
import KE.GoesMore
import PyProof.Draws
import PySem.Challenge.RW_muffline_k72_tunnel_deliveries
import HandS.Property
import HandS.TryOnly
import HandS.WordsExc
import HandS.ExcIs
import HandS.MakeKwOnly
import HandS.Deep
import HandS.Text
import PyProof.StrOps2
set_option Elab.async false
set_option linter.all false
set_option maxRecDepth 100000
set_option maxHeartbeats 4000000
set_option pp.maxSteps 400
namespace Mu
open PySem PySem.Spec PyProof.Rows L2
/-! ### texts by their codes -/
def cd (z : Str) : List Nat := z.cps.toList
theorem cd_app (a b : Str) : cd (a ++ b) = cd a ++ cd b := by
  show (a.cps ++ b.cps).toList = _
  rw [Array.toList_append]; rfl
theorem cd_len (z : Str) : z.length = (cd z).length := by unfold cd Str.length; rw [Array.length_toList]
theorem cd_cut (z : Str) (lo hi : Option Int) : cd (cutS z lo hi) = ((cd z).drop (HT.sIx z.length 0 lo)).take (HT.sIx z.length z.length hi - HT.sIx z.length 0 lo) := rfl
theorem cd_pre (z : Str) (k : Nat) : cd (cutS z none (some (k : Int))) = (cd z).take k := by
  rw [cd_cut, HT.sIx_none, HT.sIx_nat, List.drop_zero, Nat.sub_zero, cd_len, ← List.take_eq_take_min]
theorem join_cons2 (a x y : Str) (r : List Str) : Str.join a (x :: y :: r) = x ++ a ++ Str.join a (y :: r) := rfl
theorem cd_join (a : Str) : ∀ ys : List Str, cd (Txt.join a ys) = ((ys.map cd).intersperse (cd a)).flatten := by
  intro ys
  show cd (Builtin.Str.glued a ys) = _
  rw [StrLaws.glued_eq_join]
  induction ys with
  | nil => rfl
  | cons x r ih =>
    cases r with
    | nil => show cd x = cd x ++ []; rw [List.append_nil]
    | cons y r =>
      rw [join_cons2, cd_app, cd_app, ih]
      simp [List.intersperse, List.append_assoc]
theorem cd_join0 (ys : List Str) : cd (Txt.join "" ys) = ys.flatMap cd := by
  rw [cd_join, show cd "" = [] from rfl]
  induction ys with
  | nil => rfl
  | cons x r ih =>
    cases r with
    | nil => simp
    | cons y r =>
      simp only [List.map_cons, List.intersperse, List.flatten_cons, List.nil_append, List.flatMap_cons] at ih ⊢
      rw [ih]
theorem len_appS (a b : Str) : (a ++ b).length = a.length + b.length := by rw [cd_len, cd_len, cd_len, cd_app, List.length_append]
/-- a name: one to eight small letters -/
structure Nm (z : Str) : Prop where
  lo : 1 ≤ z.length
  hi : z.length ≤ 8
  az : ∀ c ∈ cd z, 97 ≤ c ∧ c ≤ 122
/-! ### data: texts, ints, None, tuples -/
mutual
inductive DAt (H : Hp) : V → PyData → Prop
  | str (x : Str) : DAt H (.str x) (.str x)
  | int (i : Int) : DAt H (.int i) (.int i)
  | non : DAt H .non .none
  | tup {a : Addr} {vs : List V} {ds : List PyData} : H a = some (.tup vs) → DsAt H vs ds → DAt H (.ref a) (.tuple ds)
inductive DsAt (H : Hp) : List V → List PyData → Prop
  | nil : DsAt H [] []
  | cons {v : V} {vs : List V} {d : PyData} {ds : List PyData} : DAt H v d → DsAt H vs ds → DsAt H (v :: vs) (d :: ds)
end
/-- tuples stay -/
def Tk (H H' : Hp) : Prop := ∀ a vs, H a = some (.tup vs) → H' a = some (.tup vs)
theorem Tk.refl (H : Hp) : Tk H H := fun _ _ h => h
theorem Tk.trans {H H1 H2 : Hp} (p : Tk H H1) (q : Tk H1 H2) : Tk H H2 := fun a vs h => q a vs (p a vs h)
theorem Tk.same {H H' : Hp} (s : Same H H') : Tk H H' := fun a vs h => s a _ h
theorem Tk.upd {H : Hp} {a : Addr} {o : HO} (n : ∀ vs, H a ≠ some (.tup vs)) : Tk H (L2.upd H a o) := fun b vs h => by
  have nb : b ≠ a := fun e => by subst e; exact n vs h
  rw [upd_ne nb]
  exact h
theorem Tk.new {H : Hp} {a : Addr} {o : HO} (n : H a = none) : Tk H (L2.upd H a o) := Tk.upd fun vs e => by rw [n] at e; cases e
theorem Tk.lst {H : Hp} {a : Addr} {o : HO} {xs : List V} (h : H a = some (.lst xs)) : Tk H (L2.upd H a o) := Tk.upd fun vs e => by rw [h] at e; cases e
mutual
theorem DAt.mono {H H' : Hp} (t : Tk H H') : ∀ {v d}, DAt H v d → DAt H' v d
  | _, _, .str x => .str x
  | _, _, .int i => .int i
  | _, _, .non => .non
  | _, _, .tup h r => .tup (t _ _ h) (DsAt.mono t r)
theorem DsAt.mono {H H' : Hp} (t : Tk H H') : ∀ {vs ds}, DsAt H vs ds → DsAt H' vs ds
  | _, _, .nil => .nil
  | _, _, .cons h r => .cons (DAt.mono t h) (DsAt.mono t r)
end
theorem DsAt.length {H : Hp} : ∀ {vs ds}, DsAt H vs ds → vs.length = ds.length
  | _, _, .nil => rfl
  | _, _, .cons _ r => congrArg (· + 1) (DsAt.length r)
theorem DsAt.get {H : Hp} : ∀ {vs ds} {i : Nat} {v : V}, DsAt H vs ds → vs[i]? = some v → ∃ d, ds[i]? = some d ∧ DAt H v d
  | _, _, 0, v, .cons h _, e => ⟨_, rfl, by cases e; exact h⟩
  | _, _, i + 1, v, .cons _ r, e => DsAt.get (i := i) r e
theorem DsAt.app {H : Hp} : ∀ {vs ds ws es}, DsAt H vs ds → DsAt H ws es → DsAt H (vs ++ ws) (ds ++ es)
  | _, _, _, _, .nil, h => h
  | _, _, _, _, .cons h r, g => .cons h (DsAt.app r g)
/-! all that occurs: the tuples, each ahead of what it holds -/
/-! the written form -/
mutual
def wr : PyData → Str
  | .tuple ds => ("(" : Str) ++ Txt.join " " (wrs ds) ++ (")" : Str)
  | .str z => z
  | .int i => Str.ofString (toString i)
  | _ => Str.empty
def wrs : List PyData → List Str
  | [] => []
  | d :: r => wr d :: wrs r
end
def isTup : PyData → Bool
  | .tuple _ => true
  | _ => false
/-- the written forms of the tuples of a list -/
def tws : List PyData → List Str
  | [] => []
  | .tuple ds :: r => wr (.tuple ds) :: tws r
  | _ :: r => tws r
/-- the nodes in this order, each taking what its tuples are written as off the end, and putting its own there -/
inductive Runs : List Str → List PyData → List Str → Prop
  | nil {I : List Str} : Runs I [] I
  | cons {I J : List Str} {ds L : List PyData} : Runs (I ++ [wr (.tuple ds)]) L J → Runs (I ++ (tws ds).reverse) (.tuple ds :: L) J
theorem Runs.app {I J M : List Str} {L N : List PyData} (h : Runs I L J) (g : Runs J N M) : Runs I (L ++ N) M := by
  induction h with
  | nil => exact g
  | cons _ ih => exact .cons (ih g)
/-! ### pairs of an int and a text: their order -/
/-! ### sorted, whose keys are tuples of an int and a text (behind h_sortK) -/
/-! ### f(k = v, ..), nothing by position -/
def kwPermV (p : List Nat) (ws : List Value) : List Value := p.map fun i => ws.getD i .none
def kwPermX (p : List Nat) (zs : List V) : List V := p.map fun i => zs.getD i .non
section
variable {X : Cx} {CX : CXT} {k : Nat} {f : Addr} {fd : FuncData} {ps ks : List Str} {sp : Sp} {E : XK} {x : Str} {p pos : Pos} {kws : List Keyword} {tk : TA}
def tCallK0 (sp : Sp) (n : Nat) (gV : List V → List V) (E : XK) (tk : TA) : TE := fun σ H Q => tk σ H fun zs H2 => zs.length = n ∧ sp (gV zs) H2 Q E
end
/-! ### x < y of two tuples of one shape, ints and texts inside: told place by place -/
/-! ### t[::-1] of a tuple -/
def tRevT (K : PySem.W.Frag) (te : TE) : TE := fun σ H Q => te σ H fun x H1 => ∃ a xs, x = .ref a ∧ SqT K H1 a xs ∧ ∀ p, H1 p = none → Q (.ref p) (upd H1 p (.tup xs.reverse))
/-! ### calls that may raise: X(), o.m(..), C(..) at the slots σ -/
section
variable {X : Cx} {CX : CXT} {k : Nat} {C f : Addr} {fd : FuncData} {ps : List Str} {sp : Sp} {D : L2.St → XK} {o : Expr} {ta : TE} {t : TA} {m : Str} {p apos pos : Pos}
theorem pmk_own0 {bmB : List Value} {B newId initId : String} {x : Str} (F : ExcBaseFacts B newId initId bmB) (q : PySem.W.excIn X.K C bmB newId = true)
    (gC : X.mg x = some (.ref C)) (kC : PySem.W.keepIn X.K (.ref C) = true) (r : Raises X (.ref C)) (hg : Gl X x)
    (hdb : (x == ("__debug__" : Str)) = false := by decide) : PMk X (.Call (.Name x p) [] [] pos) fun _ H Q => Q (.ref C) none H := by
  intro pins s σ H Q I h
  refine wpAny_Call_Name_kw (ld_glob I hg gC (PySem.W.callWith_K0 I.kIn kC ?_) hdb)
  obtain ⟨_, _, _, _, _, _, _, _, _, _, _, _, _, _, _, _, _, hC, hN, hni, T⟩ := exc_obj I.kIn q
  exact wpAny_call_exc_subT F T hC hN hni (fun h' e hm => mk_of I hm r h (I.hok.gone hm.new)) (Nat.zero_le _)
def tMethS (C : Addr) (m : Str) (sp : Sp) (D : L2.St → XK) (ta : TE) (t : TA) : TE := fun σ H Q => ta σ H fun x H1 =>
  ∃ a dx fs, x = .ref a ∧ H1 a = some (.ins C dx fs) ∧ fs.lookup m = none ∧ t σ H1 fun vs H2 => sp (x :: vs) H2 Q (D σ)
theorem pe_methT {pl : Sem Bool} {e : Expr} {es : List Expr} (he : PE X o ta) (c : Cls X.K C) (hm : Meth X.K C m f)
    (F : FnOk X.prog X.w X.K X.mg X.base CX k f fd ps sp) (hr : Room k X.A) (hb : Binds X.K fd ps []) (hx : ∀ σ, PassesAt CX X σ (D σ)) (ha : PA X (e :: es) t)
    (hst : starEach (e :: es) X.env = (false, eval e X.env) :: starEach es X.env := by rfl)
    (hpl : (backTo pos (starEach es X.env)).any (·.1) = false := by rfl)
    (ht : eval (.Call (.Attribute o m apos) (e :: es) [] pos) X.env = (do
      let v ← eval o X.env
      standAt apos.atName
      let (g, u) ← holding [v] (getMethod v m pl)
      callWith pos g u (backTo pos (starEach (e :: es) X.env)) (backToKw pos (keywordEach [] X.env))) := by rfl) :
    PE X (.Call (.Attribute o m apos) (e :: es) [] pos) (tMethS C m sp D ta t) := by
  refine ⟨fun pins s σ H Q I h => PySem.W.methodCall_KW (pl := pl) (thn (he.run pins s σ H _ I h) fun u s1 z => ?_) ht⟩
  obtain ⟨x, H1, I1, rx, a, dx, fs, rfl, ea, l, q⟩ := z
  cases (show u = Value.ref a from rx)
  refine getmeth_ok I1 ea c hm l (PySem.W.callWith_K (first := [.ref a]) (h₀ := X.base) I.ok.mod.kin hm.kp (thn (ha.run pos pins s1 σ H1 _ I1 q) fun us s2 z => ?_) hst hpl)
  obtain ⟨vs, H2, I2, r, q2⟩ := z
  exact ⟨I2.kIn, run_fnS (us := .ref a :: us) (vs := .ref a :: vs) F hr hb (hx σ) I2 (.cons rfl r) q2⟩
theorem pe_methT0 {pl : Sem Bool} (he : PE X o ta) (c : Cls X.K C) (hm : Meth X.K C m f)
    (F : FnOk X.prog X.w X.K X.mg X.base CX k f fd ps sp) (hr : Room k X.A) (hb : Binds X.K fd ps []) (hx : ∀ σ, PassesAt CX X σ (D σ))
    (ht : eval (.Call (.Attribute o m apos) [] [] pos) X.env = (do
      let v ← eval o X.env
      standAt apos.atName
      let (g, u) ← holding [v] (getMethod v m pl)
      callWith pos g u (backTo pos (starEach [] X.env)) (backToKw pos (keywordEach [] X.env))) := by rfl) :
    PE X (.Call (.Attribute o m apos) [] [] pos) (tMethS C m sp D ta tNil) := by
  refine ⟨fun pins s σ H Q I h => PySem.W.methodCall_KW (pl := pl) (thn (he.run pins s σ H _ I h) fun u s1 z => ?_) ht⟩
  obtain ⟨x, H1, I1, rx, a, dx, fs, rfl, ea, l, q⟩ := z
  cases (show u = Value.ref a from rx)
  exact getmeth_ok I1 ea c hm l (PySem.W.callWith_K0 (first := [.ref a]) I1.kIn hm.kp (run_fnS (us := [.ref a]) (vs := [.ref a]) F hr hb (hx σ) I1 (.cons rfl .nil) q))
def tMakeS (C : Addr) (sp : Sp) (D : L2.St → XK) (t : TA) : TE := fun σ H Q => t σ H fun vs H1 =>
  ∀ x dx, H1 x = none → H1 dx = none → dx ≠ x → sp (.ref x :: vs) (upd (upd H1 dx (.own x)) x (.ins C dx [])) (fun v H2 => v = .non ∧ Q (.ref x) H2) (D σ)
theorem run_makeT {pins : List (Addr × Obj)} {σ : L2.St} {H : Hp} {s : Shared} {Q : VK} {us : List Value} {vs : List V} {E : XK} (M : Mk X.K C f)
    (F : FnOk X.prog X.w X.K X.mg X.base CX k f fd ps sp) (hr : Room (k + 1) X.A) (hb : Binds X.K fd ps []) (hx : PassesAt CX X σ E) (I : Inv X pins σ H s) (r : Vals vs us)
    (h : ∀ x dx, H x = none → H dx = none → dx ≠ x → sp (.ref x :: vs) (upd (upd H dx (.own x)) x (.ins C dx [])) (fun v H2 => v = .non ∧ Q (.ref x) H2) E) :
    wpAny (model X.prog X.w) X.A (call (.ref C) us) (EP X pins σ Q) X.xe s := by
  have fr {n : Nat} (hn : s.heap.objs.size ≤ n) : H n = none := I.hok.fresh hn
  have hq := h (s.heap.objs.size + 1) s.heap.objs.size (fr (Nat.le_succ _)) (fr (Nat.le_refl _)) (Nat.ne_of_lt (Nat.lt_succ_self _))
  have J := Inv.made (C := C) I
  have rs : Vals (V.ref (s.heap.objs.size + 1) :: vs) (Value.ref (s.heap.objs.size + 1) :: us) := .cons rfl r
  have hl : (Value.ref (s.heap.objs.size + 1) :: us).length = ps.length := rs.length.symm.trans (F.len _ _ _ _ hq)
  have b := hb _ (Value.ref (s.heap.objs.size + 1) :: us) J.kIn (by rw [List.append_nil]; exact hl)
  rw [List.append_nil] at b
  refine wpAny_call (make_map (f := f) I.kIn M.makes M.init (beq_iff_eq.mp M.fn) (codeAny_mono (F.run _ X.stack _ _ ⟨Value.ref (s.heap.objs.size + 1) :: us, []⟩ _ _ _ E (hr.make C us []) (J.env0.make C us []) b rs hq) fun r s' z => ?_))
  match r, z with
  | .error e, z => exact hx pins _ _ e s' J z
  | .ok (.ret u), z =>
    obtain ⟨v, H', I3, rv, rfl, q3⟩ := J.after z
    exact ⟨rv, V.ref (s.heap.objs.size + 1), H', I3, rfl, q3⟩
theorem pe_makeT {x : Str} {e : Expr} {es : List Expr} (M : Mk X.K C f) (F : FnOk X.prog X.w X.K X.mg X.base CX k f fd ps sp) (hr : Room (k + 1) X.A) (hg : Gl X x) (hm : X.mg x = some (.ref C))
    (hb : Binds X.K fd ps []) (hx : ∀ σ, PassesAt CX X σ (D σ)) (ha : PA X (e :: es) t) (hdb : (x == ("__debug__" : Str)) = false := by decide)
    (hst : starEach (e :: es) X.env = (false, eval e X.env) :: starEach es X.env := by rfl)
    (hpl : (backTo pos (starEach es X.env)).any (·.1) = false := by rfl) :
    PE X (.Call (.Name x p) (e :: es) [] pos) (tMakeS C sp D t) := by
  refine ⟨fun pins s σ H Q I h => wpAny_Call_Name_kw (ld_glob I hg hm (PySem.W.callWith_K (h₀ := X.base) I.ok.mod.kin M.kp (thn (ha.run pos pins s σ H _ I h) fun us s1 z => ?_) hst hpl) hdb)⟩
  obtain ⟨vs, H1, I1, r, q⟩ := z
  exact ⟨I1.kIn, run_makeT M F hr hb (hx σ) I1 r q⟩
/-- what no one lets out -/
theorem passX0 : Passes (L2.CX X.prog X.w) X E0 := fun pins σ H s e s' I c => by
  obtain ⟨_, _, _, _, _, _, _, _, _, _, _, _, z⟩ := c
  exact False.elim z
end
/-! ### o.m(k = v, ..), nothing by position -/
section
variable {X : Cx} {CX : CXT} {k : Nat} {C f : Addr} {fd : FuncData} {ps ks : List Str} {sp : Sp} {E : XK} {o : Expr} {ta : TE} {tk : TA} {m : Str} {apos pos : Pos} {kws : List Keyword}
def tMethK (C : Addr) (m : Str) (n : Nat) (sp : Sp) (E : XK) (ta : TE) (tk : TA) : TE := fun σ H Q => ta σ H fun x H1 =>
  ∃ a dx fs, x = .ref a ∧ H1 a = some (.ins C dx fs) ∧ fs.lookup m = none ∧ tk σ H1 fun zs H2 => zs.length = n ∧ sp (x :: zs) H2 Q E
theorem pe_methK {pl : Sem Bool} (he : PE X o ta) (c : Cls X.K C) (hm : Meth X.K C m f) (F : FnOk X.prog X.w X.K X.mg X.base CX k f fd ps sp) (hr : Room k X.A)
    (hb : ∀ (s : Shared) (u : Value) (ws : List Value), ws.length = ks.length → BindsTo s fd ⟨[u], ks.zip ws⟩ (ps.zip (u :: ws))) (hx : Passes CX X E) (hkw : PK X kws tk)
    (hall : (backToKw pos (keywordEach kws X.env)).all (·.1.isSome) = true := by rfl) (hks : (backToKw pos (keywordEach kws X.env)).filterMap (·.1) = ks := by rfl)
    (hpl : ((backTo pos (starEach [] X.env)).any (·.1) || (backToKw pos (keywordEach kws X.env)).any (·.1.isNone)) = false := by rfl)
    (ht : eval (.Call (.Attribute o m apos) [] kws pos) X.env = (do
      let v ← eval o X.env
      standAt apos.atName
      let (g, u) ← holding [v] (getMethod v m pl)
      callWith pos g u (backTo pos (starEach [] X.env)) (backToKw pos (keywordEach kws X.env))) := by rfl) :
    PE X (.Call (.Attribute o m apos) [] kws pos) (tMethK C m ks.length sp E ta tk) := by
  refine ⟨fun pins s σ H Q I h => PySem.W.methodCall_KW (pl := pl) (thn (he.run pins s σ H _ I h) fun u s1 z => ?_) ht⟩
  obtain ⟨x, H1, I1, rx, a, dx, fs, rfl, ea, l, q⟩ := z
  cases (show u = Value.ref a from rx)
  refine getmeth_ok I1 ea c hm l (PySem.W.callWith_KW0 (first := [.ref a]) (h₀ := X.base) I.ok.mod.kin hm.kp hall (thn (hkw.run pos pins s1 σ H1 _ I1 q) fun ws s2 z => ?_) hpl)
  obtain ⟨zs, H2, I2, rz, hl, q2⟩ := z
  refine ⟨I2.kIn, ?_⟩
  rw [hks]
  refine wpAny_call (codeAny_mono (F.run X.A X.stack s2 H2 ⟨[.ref a], ks.zip ws⟩ (.ref a :: ws) (.ref a :: zs) Q E hr I2.env0 (hb s2 (.ref a) ws (rz.length.symm.trans hl)) (.cons rfl rz) q2) fun r s' w => ?_)
  match r, w with
  | .error e, w => exact hx pins σ H2 s2 e s' I2 w
  | .ok (.ret u), w => exact I2.after w
end
theorem call_isE2 {X : Cx} {a : Addr} {oe : Obj} {cls : Value} {d : Option Addr} {pn : List (Addr × Obj)} (hz : Zc cls d oe) (hf : ∃ vs, oe.data = .fields vs) :
    CallR (X.suite a ((a, oe) :: pn)) (.builtin "isinstance") (fun xs H Q => ∃ D, cls = .ref D ∧ d = none ∧ ExcC X.K D ∧ rIsE X.K D a xs H Q) := by
  intro pins s σ H xs us Q I r h
  obtain ⟨D, rfl, rfl, C, h⟩ := h
  exact call_isE C hz hf pins s σ H xs us Q I r h
/-! ### a text times a number -/
theorem rep_list : ∀ (n : Nat) (x acc : Array Nat), ((List.replicate n x).foldl (· ++ ·) acc).toList = acc.toList ++ (List.replicate n x.toList).flatten
  | 0, x, acc => by simp
  | n + 1, x, acc => by
    rw [List.replicate_succ, List.foldl_cons, rep_list n x (acc ++ x), List.replicate_succ, List.flatten_cons, Array.toList_append, List.append_assoc]
theorem rep_len (n : Nat) (a : Str) : (⟨(List.replicate n a.cps).foldl (· ++ ·) #[]⟩ : Str).length = n * a.length := by
  show ((List.replicate n a.cps).foldl (· ++ ·) #[]).size = n * a.cps.size
  rw [← Array.length_toList, rep_list]
  simp
theorem op_repS {X : Cx} : OpR X (binaryOp .Mult) (fun x y H Q => ∃ (a : Str) (k : Int), x = .str a ∧ y = .int k ∧ 2 ≤ k ∧ k ≤ 1000 ∧ 1 ≤ a.length ∧ a.length ≤ 1000 ∧ Q (.str ⟨(List.replicate k.toNat a.cps).foldl (· ++ ·) #[]⟩) H) := by
  intro pins s σ H x y v u Q I rx ry h
  obtain ⟨a, k, rfl, rfl, k2, k1, a1, a2, q⟩ := h
  obtain ⟨t, rfl⟩ := rx
  obtain ⟨t', rfl⟩ := ry
  have c1 : (k == 1 || a.length == 0) = false := by
    rw [Bool.or_eq_false_iff]
    exact ⟨beq_eq_false_iff_ne.mpr (by omega), beq_eq_false_iff_ne.mpr (by omega)⟩
  have hm : a.length * k.toNat ≤ 1000000 := Nat.le_trans (Nat.mul_le_mul a2 (show k.toNat ≤ 1000 by omega)) (by decide)
  refine PySem.P.mul_str (by rw [decide_eq_false (by omega), decide_eq_false (by omega)]; rfl) (fun _ _ => ?_) (fun _ _ => ?_) ?_
  · have h1 : (a.length : Int) * k ≤ 2 ^ 63 - 1 := by
      have e : (k.toNat : Int) = k := by omega
      have : ((a.length * k.toNat : Nat) : Int) ≤ 1000000 := by omega
      rw [Int.natCast_mul, e] at this
      omega
    have := Int.le_ediv_of_mul_le (show 0 < k by omega) h1
    omega
  · show decide (a.length * k.toNat > sizeLine) = false
    exact decide_eq_false (by have : 1000000 ≤ sizeLine := by decide
                              omega)
  · rw [if_neg (by omega), c1, if_neg (by decide)]
    refine ⟨?_, ?_⟩
    · rw [rep_len, Nat.mul_comm]; exact Nat.le_trans hm (by decide)
    · exact ⟨.str _, H, I.tok _, ⟨_, rfl⟩, q⟩
def topS (i : Nat) : Stmt := PySem.Challenge.pw_muffline_k72_tunnel_deliveries.main.body.getD i (.Pass ⟨0, 0, 0, 0⟩)
abbrev sis_name : Stmt := topS 7
abbrev Nis_name : List Str := ["value"]
theorem scis_name : FnScope Nis_name ["value"] (defScope sis_name) := ⟨rfl, rfl, rfl, by decide +kernel, rfl, by decide +kernel, by decide +kernel⟩
abbrev s_is_word : Stmt := topS 8
abbrev N_is_word : List Str := ["value", "least", "greatest", "sign"]
theorem sc_is_word : FnScope N_is_word ["value", "least", "greatest"] (defScope s_is_word) := ⟨rfl, rfl, rfl, by decide +kernel, rfl, by decide +kernel, by decide +kernel⟩
abbrev sTunnel___init__ : Stmt := inClass (topS 12) 0
abbrev NTunnel___init__ : List Str := ["self", "window", "first", "second"]
theorem scTunnel___init__ : FnScope NTunnel___init__ ["self", "window", "first", "second"] (defScope sTunnel___init__) := ⟨rfl, rfl, rfl, by decide +kernel, rfl, by decide +kernel, by decide +kernel⟩
abbrev sTunnel_received : Stmt := inClass (topS 12) 1
abbrev NTunnel_received : List Str := ["self"]
theorem scTunnel_received : FnScope NTunnel_received ["self"] (defScope sTunnel_received) := ⟨rfl, rfl, rfl, by decide +kernel, rfl, by decide +kernel, by decide +kernel⟩
abbrev sTunnel_send : Stmt := inClass (topS 12) 2
abbrev NTunnel_send : List Str := ["self", "payload"]
theorem scTunnel_send : FnScope NTunnel_send ["self", "payload"] (defScope sTunnel_send) := ⟨rfl, rfl, rfl, by decide +kernel, rfl, by decide +kernel, by decide +kernel⟩
abbrev sTunnel_rekey : Stmt := inClass (topS 12) 3
abbrev NTunnel_rekey : List Str := ["self"]
theorem scTunnel_rekey : FnScope NTunnel_rekey ["self"] (defScope sTunnel_rekey) := ⟨rfl, rfl, rfl, by decide +kernel, rfl, by decide +kernel, by decide +kernel⟩
abbrev sTunnel_deliver : Stmt := inClass (topS 12) 4
abbrev NTunnel_deliver : List Str := ["self", "number", "epoch", "count", "_"]
theorem scTunnel_deliver : FnScope NTunnel_deliver ["self", "number"] (defScope sTunnel_deliver) := ⟨rfl, rfl, rfl, by decide +kernel, rfl, by decide +kernel, by decide +kernel⟩
abbrev sTunnel__renew : Stmt := inClass (topS 12) 5
abbrev NTunnel__renew : List Str := ["self", "epoch"]
theorem scTunnel__renew : FnScope NTunnel__renew ["self", "epoch"] (defScope sTunnel__renew) := ⟨rfl, rfl, rfl, by decide +kernel, rfl, by decide +kernel, by decide +kernel⟩
abbrev sTunnel__judged : Stmt := inClass (topS 12) 6
abbrev NTunnel__judged : List Str := ["self", "back", "number", "count", "top"]
theorem scTunnel__judged : FnScope NTunnel__judged ["self", "back", "number", "count"] (defScope sTunnel__judged) := ⟨rfl, rfl, rfl, by decide +kernel, rfl, by decide +kernel, by decide +kernel⟩
abbrev sTunnel_letter : Stmt := inClass (topS 12) 7
abbrev NTunnel_letter : List Str := ["self", "number"]
theorem scTunnel_letter : FnScope NTunnel_letter ["self", "number"] (defScope sTunnel_letter) := ⟨rfl, rfl, rfl, by decide +kernel, rfl, by decide +kernel, by decide +kernel⟩
abbrev sTunnel_sealed : Stmt := inClass (topS 12) 9
abbrev NTunnel_sealed : List Str := ["self", "number", "epoch", "count", "payload"]
theorem scTunnel_sealed : FnScope NTunnel_sealed ["self", "number"] (defScope sTunnel_sealed) := ⟨rfl, rfl, rfl, by decide +kernel, rfl, by decide +kernel, by decide +kernel⟩
abbrev s_law_pile : Stmt := topS 14
abbrev N_law_pile : List Str := ["script", "seed", "found", "cell", "number", "rest", "k"]
theorem sc_law_pile : FnScope N_law_pile ["script"] (defScope s_law_pile) := ⟨rfl, rfl, rfl, by decide +kernel, rfl, by decide +kernel, by decide +kernel⟩
abbrev s_law_draw : Stmt := topS 15
abbrev N_law_draw : List Str := ["pile", "many"]
theorem sc_law_draw : FnScope N_law_draw ["pile", "many"] (defScope s_law_draw) := ⟨rfl, rfl, rfl, by decide +kernel, rfl, by decide +kernel, by decide +kernel⟩
abbrev s_law_names : Stmt := topS 16
abbrev N_law_names : List Str := ["pile", "many", "letters", "base", "k", "spot", "begin", "stride", "found"]
theorem sc_law_names : FnScope N_law_names ["pile", "many"] (defScope s_law_names) := ⟨rfl, rfl, rfl, by decide +kernel, rfl, by decide +kernel, by decide +kernel⟩
abbrev s_law_whole : Stmt := topS 17
abbrev N_law_whole : List Str := ["actual"]
theorem sc_law_whole : FnScope N_law_whole ["actual"] (defScope s_law_whole) := ⟨rfl, rfl, rfl, by decide +kernel, rfl, by decide +kernel, by decide +kernel⟩
abbrev s_law_same : Stmt := topS 18
abbrev N_law_same : List Str := ["actual", "expected", "k"]
theorem sc_law_same : FnScope N_law_same ["actual", "expected"] (defScope s_law_same) := ⟨rfl, rfl, rfl, by decide +kernel, rfl, by decide +kernel, by decide +kernel⟩
abbrev s_law_size : Stmt := topS 19
abbrev N_law_size : List Str := ["pile"]
theorem sc_law_size : FnScope N_law_size ["pile"] (defScope s_law_size) := ⟨rfl, rfl, rfl, by decide +kernel, rfl, by decide +kernel, by decide +kernel⟩
abbrev s_law_word : Stmt := topS 20
abbrev N_law_word : List Str := ["size", "state", "epoch", "count", "top", "taken"]
theorem sc_law_word : FnScope N_law_word ["size", "state", "epoch", "count"] (defScope s_law_word) := ⟨rfl, rfl, rfl, by decide +kernel, rfl, by decide +kernel, by decide +kernel⟩
abbrev s_law_send : Stmt := topS 21
abbrev N_law_send : List Str := ["tunnels", "sender", "letters", "payload", "tunnel"]
theorem sc_law_send : FnScope N_law_send ["tunnels", "sender", "letters", "payload"] (defScope s_law_send) := ⟨rfl, rfl, rfl, by decide +kernel, rfl, by decide +kernel, by decide +kernel⟩
abbrev s_law_rekey : Stmt := topS 22
abbrev N_law_rekey : List Str := ["tunnels", "sender", "tunnel", "refused", "answer"]
theorem sc_law_rekey : FnScope N_law_rekey ["tunnels", "sender"] (defScope s_law_rekey) := ⟨rfl, rfl, rfl, by decide +kernel, rfl, by decide +kernel, by decide +kernel⟩
abbrev s_law_deliver : Stmt := topS 23
abbrev N_law_deliver : List Str := ["tunnel", "size", "state", "letters", "number", "expected"]
theorem sc_law_deliver : FnScope N_law_deliver ["tunnel", "size", "state", "letters", "number"] (defScope s_law_deliver) := ⟨rfl, rfl, rfl, by decide +kernel, rfl, by decide +kernel, by decide +kernel⟩
abbrev s_law_no_names : Stmt := topS 24
abbrev N_law_no_names : List Str := ["names", "found"]
theorem sc_law_no_names : FnScope N_law_no_names ["names"] (defScope s_law_no_names) := ⟨rfl, rfl, rfl, by decide +kernel, rfl, by decide +kernel, by decide +kernel⟩
abbrev s_law_unknown : Stmt := topS 25
abbrev N_law_unknown : List Str := ["tunnel", "number", "kind", "e"]
theorem sc_law_unknown : FnScope N_law_unknown ["tunnel", "number", "kind"] (defScope s_law_unknown) := ⟨rfl, rfl, rfl, by decide +kernel, rfl, by decide +kernel, by decide +kernel⟩
abbrev s_law_refuses : Stmt := topS 26
abbrev N_law_refuses : List Str := ["tunnel", "payload", "e"]
theorem sc_law_refuses : FnScope N_law_refuses ["tunnel", "payload"] (defScope s_law_refuses) := ⟨rfl, rfl, rfl, by decide +kernel, rfl, by decide +kernel, by decide +kernel⟩
abbrev s_law_refusals : Stmt := topS 27
abbrev N_law_refusals : List Str := ["pile", "tunnel", "state", "letters", "names", "number", "kind"]
theorem sc_law_refusals : FnScope N_law_refusals ["pile", "tunnel", "state", "letters", "names"] (defScope s_law_refusals) := ⟨rfl, rfl, rfl, by decide +kernel, rfl, by decide +kernel, by decide +kernel⟩
abbrev s_law_makes : Stmt := topS 28
abbrev N_law_makes : List Str := ["size", "one", "two", "e"]
theorem sc_law_makes : FnScope N_law_makes ["size", "one", "two"] (defScope s_law_makes) := ⟨rfl, rfl, rfl, by decide +kernel, rfl, by decide +kernel, by decide +kernel⟩
abbrev s_law_makings : Stmt := topS 29
abbrev N_law_makings : List Str := ["pile", "names", "size", "bad", "wrong"]
theorem sc_law_makings : FnScope N_law_makings ["pile", "names", "size"] (defScope s_law_makings) := ⟨rfl, rfl, rfl, by decide +kernel, rfl, by decide +kernel, by decide +kernel⟩
abbrev s_law_deed : Stmt := topS 30
abbrev N_law_deed : List Str := ["pile", "tunnels", "sizes", "states", "sender", "letters", "names", "kind", "times", "k", "number", "spot", "j"]
theorem sc_law_deed : FnScope N_law_deed ["pile", "tunnels", "sizes", "states", "sender", "letters", "names"] (defScope s_law_deed) := ⟨rfl, rfl, rfl, by decide +kernel, rfl, by decide +kernel, by decide +kernel⟩
abbrev slaw : Stmt := topS 31
abbrev Nlaw : List Str := ["script", "pile", "names", "sizes", "tunnels", "states", "sender", "letters", "k", "told"]
theorem sclaw : FnScope Nlaw ["script"] (defScope slaw) := ⟨rfl, rfl, rfl, by decide +kernel, rfl, by decide +kernel, by decide +kernel⟩
structure Top (K : PySem.W.Frag) (mg : Str → Option Value) where
  C_Tunnel : Addr
  g_Tunnel : mg "Tunnel" = some (.ref C_Tunnel)
  cl_Tunnel : Cls K C_Tunnel
  n_Tunnel_window : NoAttr K C_Tunnel "window"
  n_Tunnel_first : NoAttr K C_Tunnel "first"
  n_Tunnel_second : NoAttr K C_Tunnel "second"
  n_Tunnel__letters : NoAttr K C_Tunnel "_letters"
  n_Tunnel__epoch : NoAttr K C_Tunnel "_epoch"
  n_Tunnel__sent : NoAttr K C_Tunnel "_sent"
  n_Tunnel__newest : NoAttr K C_Tunnel "_newest"
  n_Tunnel__counts : NoAttr K C_Tunnel "_counts"
  n_Tunnel__tops : NoAttr K C_Tunnel "_tops"
  n_Tunnel__received : NoAttr K C_Tunnel "_received"
  fis_name : Addr
  dis_name : FuncData
  Fis_name : Fun K "is_name" "is_name" sis_name fis_name dis_name
  bis_name : Binds K dis_name ["value"] []
  gis_name : mg "is_name" = some (.ref fis_name)
  f_is_word : Addr
  d_is_word : FuncData
  F_is_word : Fun K "_is_word" "_is_word" s_is_word f_is_word d_is_word
  b_is_word : Binds K d_is_word ["value", "least", "greatest"] []
  g_is_word : mg "_is_word" = some (.ref f_is_word)
  fTunnel___init__ : Addr
  dTunnel___init__ : FuncData
  FTunnel___init__ : Fun K "__init__" "Tunnel.__init__" sTunnel___init__ fTunnel___init__ dTunnel___init__
  bTunnel___init__ : Binds K dTunnel___init__ ["self", "window", "first", "second"] []
  mTunnel___init__ : Meth K C_Tunnel "__init__" fTunnel___init__
  fTunnel_received : Addr
  dTunnel_received : FuncData
  FTunnel_received : Fun K "received" "Tunnel.received" sTunnel_received fTunnel_received dTunnel_received
  bTunnel_received : Binds K dTunnel_received ["self"] []
  p_Tunnel_received : Addr
  pr_Tunnel_received : PropOf K C_Tunnel "received" p_Tunnel_received fTunnel_received
  fTunnel_send : Addr
  dTunnel_send : FuncData
  FTunnel_send : Fun K "send" "Tunnel.send" sTunnel_send fTunnel_send dTunnel_send
  bTunnel_send : Binds K dTunnel_send ["self", "payload"] []
  mTunnel_send : Meth K C_Tunnel "send" fTunnel_send
  fTunnel_rekey : Addr
  dTunnel_rekey : FuncData
  FTunnel_rekey : Fun K "rekey" "Tunnel.rekey" sTunnel_rekey fTunnel_rekey dTunnel_rekey
  bTunnel_rekey : Binds K dTunnel_rekey ["self"] []
  mTunnel_rekey : Meth K C_Tunnel "rekey" fTunnel_rekey
  fTunnel_deliver : Addr
  dTunnel_deliver : FuncData
  FTunnel_deliver : Fun K "deliver" "Tunnel.deliver" sTunnel_deliver fTunnel_deliver dTunnel_deliver
  bTunnel_deliver : Binds K dTunnel_deliver ["self", "number"] []
  mTunnel_deliver : Meth K C_Tunnel "deliver" fTunnel_deliver
  fTunnel__renew : Addr
  dTunnel__renew : FuncData
  FTunnel__renew : Fun K "_renew" "Tunnel._renew" sTunnel__renew fTunnel__renew dTunnel__renew
  bTunnel__renew : Binds K dTunnel__renew ["self", "epoch"] []
  mTunnel__renew : Meth K C_Tunnel "_renew" fTunnel__renew
  fTunnel__judged : Addr
  dTunnel__judged : FuncData
  FTunnel__judged : Fun K "_judged" "Tunnel._judged" sTunnel__judged fTunnel__judged dTunnel__judged
  bTunnel__judged : Binds K dTunnel__judged ["self", "back", "number", "count"] []
  mTunnel__judged : Meth K C_Tunnel "_judged" fTunnel__judged
  fTunnel_letter : Addr
  dTunnel_letter : FuncData
  FTunnel_letter : Fun K "letter" "Tunnel.letter" sTunnel_letter fTunnel_letter dTunnel_letter
  bTunnel_letter : Binds K dTunnel_letter ["self", "number"] []
  mTunnel_letter : Meth K C_Tunnel "letter" fTunnel_letter
  fTunnel_sealed : Addr
  dTunnel_sealed : FuncData
  FTunnel_sealed : Fun K "sealed" "Tunnel.sealed" sTunnel_sealed fTunnel_sealed dTunnel_sealed
  bTunnel_sealed : Binds K dTunnel_sealed ["self", "number"] []
  mTunnel_sealed : Meth K C_Tunnel "sealed" fTunnel_sealed
  f_law_pile : Addr
  d_law_pile : FuncData
  F_law_pile : Fun K "_law_pile" "_law_pile" s_law_pile f_law_pile d_law_pile
  b_law_pile : Binds K d_law_pile ["script"] []
  g_law_pile : mg "_law_pile" = some (.ref f_law_pile)
  f_law_draw : Addr
  d_law_draw : FuncData
  F_law_draw : Fun K "_law_draw" "_law_draw" s_law_draw f_law_draw d_law_draw
  b_law_draw : Binds K d_law_draw ["pile", "many"] []
  g_law_draw : mg "_law_draw" = some (.ref f_law_draw)
  f_law_names : Addr
  d_law_names : FuncData
  F_law_names : Fun K "_law_names" "_law_names" s_law_names f_law_names d_law_names
  b_law_names : Binds K d_law_names ["pile", "many"] []
  g_law_names : mg "_law_names" = some (.ref f_law_names)
  f_law_whole : Addr
  d_law_whole : FuncData
  F_law_whole : Fun K "_law_whole" "_law_whole" s_law_whole f_law_whole d_law_whole
  b_law_whole : Binds K d_law_whole ["actual"] []
  g_law_whole : mg "_law_whole" = some (.ref f_law_whole)
  f_law_same : Addr
  d_law_same : FuncData
  F_law_same : Fun K "_law_same" "_law_same" s_law_same f_law_same d_law_same
  b_law_same : Binds K d_law_same ["actual", "expected"] []
  g_law_same : mg "_law_same" = some (.ref f_law_same)
  f_law_size : Addr
  d_law_size : FuncData
  F_law_size : Fun K "_law_size" "_law_size" s_law_size f_law_size d_law_size
  b_law_size : Binds K d_law_size ["pile"] []
  g_law_size : mg "_law_size" = some (.ref f_law_size)
  f_law_word : Addr
  d_law_word : FuncData
  F_law_word : Fun K "_law_word" "_law_word" s_law_word f_law_word d_law_word
  b_law_word : Binds K d_law_word ["size", "state", "epoch", "count"] []
  g_law_word : mg "_law_word" = some (.ref f_law_word)
  f_law_send : Addr
  d_law_send : FuncData
  F_law_send : Fun K "_law_send" "_law_send" s_law_send f_law_send d_law_send
  b_law_send : Binds K d_law_send ["tunnels", "sender", "letters", "payload"] []
  g_law_send : mg "_law_send" = some (.ref f_law_send)
  f_law_rekey : Addr
  d_law_rekey : FuncData
  F_law_rekey : Fun K "_law_rekey" "_law_rekey" s_law_rekey f_law_rekey d_law_rekey
  b_law_rekey : Binds K d_law_rekey ["tunnels", "sender"] []
  g_law_rekey : mg "_law_rekey" = some (.ref f_law_rekey)
  f_law_deliver : Addr
  d_law_deliver : FuncData
  F_law_deliver : Fun K "_law_deliver" "_law_deliver" s_law_deliver f_law_deliver d_law_deliver
  b_law_deliver : Binds K d_law_deliver ["tunnel", "size", "state", "letters", "number"] []
  g_law_deliver : mg "_law_deliver" = some (.ref f_law_deliver)
  f_law_no_names : Addr
  d_law_no_names : FuncData
  F_law_no_names : Fun K "_law_no_names" "_law_no_names" s_law_no_names f_law_no_names d_law_no_names
  b_law_no_names : Binds K d_law_no_names ["names"] []
  g_law_no_names : mg "_law_no_names" = some (.ref f_law_no_names)
  f_law_unknown : Addr
  d_law_unknown : FuncData
  F_law_unknown : Fun K "_law_unknown" "_law_unknown" s_law_unknown f_law_unknown d_law_unknown
  b_law_unknown : Binds K d_law_unknown ["tunnel", "number", "kind"] []
  g_law_unknown : mg "_law_unknown" = some (.ref f_law_unknown)
  f_law_refuses : Addr
  d_law_refuses : FuncData
  F_law_refuses : Fun K "_law_refuses" "_law_refuses" s_law_refuses f_law_refuses d_law_refuses
  b_law_refuses : Binds K d_law_refuses ["tunnel", "payload"] []
  g_law_refuses : mg "_law_refuses" = some (.ref f_law_refuses)
  f_law_refusals : Addr
  d_law_refusals : FuncData
  F_law_refusals : Fun K "_law_refusals" "_law_refusals" s_law_refusals f_law_refusals d_law_refusals
  b_law_refusals : Binds K d_law_refusals ["pile", "tunnel", "state", "letters", "names"] []
  g_law_refusals : mg "_law_refusals" = some (.ref f_law_refusals)
  f_law_makes : Addr
  d_law_makes : FuncData
  F_law_makes : Fun K "_law_makes" "_law_makes" s_law_makes f_law_makes d_law_makes
  b_law_makes : Binds K d_law_makes ["size", "one", "two"] []
  g_law_makes : mg "_law_makes" = some (.ref f_law_makes)
  f_law_makings : Addr
  d_law_makings : FuncData
  F_law_makings : Fun K "_law_makings" "_law_makings" s_law_makings f_law_makings d_law_makings
  b_law_makings : Binds K d_law_makings ["pile", "names", "size"] []
  g_law_makings : mg "_law_makings" = some (.ref f_law_makings)
  f_law_deed : Addr
  d_law_deed : FuncData
  F_law_deed : Fun K "_law_deed" "_law_deed" s_law_deed f_law_deed d_law_deed
  b_law_deed : Binds K d_law_deed ["pile", "tunnels", "sizes", "states", "sender", "letters", "names"] []
  g_law_deed : mg "_law_deed" = some (.ref f_law_deed)
  flaw : Addr
  dlaw : FuncData
  Flaw : Fun K "law" "law" slaw flaw dlaw
  blaw : Binds K dlaw ["script"] []
  glaw : mg "law" = some (.ref flaw)
  mk_Tunnel : Mk K C_Tunnel fTunnel___init__
  X_MuffError : Addr
  gX_MuffError : mg "MuffError" = some (.ref X_MuffError)
  xX_MuffError : PySem.W.excIn K X_MuffError [.type "ValueError", .type "Exception", .type "BaseException", .type "object"] "ValueError.__new__" = true
  kX_MuffError : PySem.W.keepIn K (.ref X_MuffError) = true
  bX_MuffError : PySem.W.subIn K (.ref X_MuffError) (.type "BaseException") = some true
  tX_MuffError : PySem.W.typeIn K (.ref X_MuffError) = some (.type "type")
  X_UnknownName : Addr
  gX_UnknownName : mg "UnknownName" = some (.ref X_UnknownName)
  xX_UnknownName : PySem.W.excIn K X_UnknownName [.type "ValueError", .type "Exception", .type "BaseException", .type "object"] "ValueError.__new__" = true
  kX_UnknownName : PySem.W.keepIn K (.ref X_UnknownName) = true
  bX_UnknownName : PySem.W.subIn K (.ref X_UnknownName) (.type "BaseException") = some true
  tX_UnknownName : PySem.W.typeIn K (.ref X_UnknownName) = some (.type "type")
  X_BadTunnel : Addr
  gX_BadTunnel : mg "BadTunnel" = some (.ref X_BadTunnel)
  xX_BadTunnel : PySem.W.excIn K X_BadTunnel [.type "ValueError", .type "Exception", .type "BaseException", .type "object"] "ValueError.__new__" = true
  kX_BadTunnel : PySem.W.keepIn K (.ref X_BadTunnel) = true
  bX_BadTunnel : PySem.W.subIn K (.ref X_BadTunnel) (.type "BaseException") = some true
  tX_BadTunnel : PySem.W.typeIn K (.ref X_BadTunnel) = some (.type "type")
  eX_UnknownName_UnknownName : PySem.W.exmOne K (.ref X_UnknownName) (.ref X_UnknownName) = some true
  eX_BadTunnel_BadTunnel : PySem.W.exmOne K (.ref X_BadTunnel) (.ref X_BadTunnel) = some true
  cX_BadTunnel : ExcC K X_BadTunnel
  cX_UnknownName : ExcC K X_UnknownName
  jX_UnknownName_MuffError : PySem.W.kitOne K (.ref X_UnknownName) (.ref X_MuffError) = some true
  jX_UnknownName_ValueError : PySem.W.kitOne K (.ref X_UnknownName) (.type "ValueError") = some true
  jX_UnknownName_BadTunnel : PySem.W.kitOne K (.ref X_UnknownName) (.ref X_BadTunnel) = some false
  jX_BadTunnel_MuffError : PySem.W.kitOne K (.ref X_BadTunnel) (.ref X_MuffError) = some true
  jX_BadTunnel_ValueError : PySem.W.kitOne K (.ref X_BadTunnel) (.type "ValueError") = some true
  jX_BadTunnel_UnknownName : PySem.W.kitOne K (.ref X_BadTunnel) (.ref X_UnknownName) = some false
  qTunnel_letter_number : ∀ (s : Shared) (u : Value) (ws : List Value), ws.length = (["number"] : List Str).length → BindsTo s dTunnel_letter ⟨[u], (["number"] : List Str).zip ws⟩ ((["self", "number"] : List Str).zip (u :: ws))
  qTunnel_deliver_number : ∀ (s : Shared) (u : Value) (ws : List Value), ws.length = (["number"] : List Str).length → BindsTo s dTunnel_deliver ⟨[u], (["number"] : List Str).zip ws⟩ ((["self", "number"] : List Str).zip (u :: ws))
  u_Tunnel_second_first_window : KBn K dTunnel___init__ ["self", "window", "first", "second"] 1 ["second", "first", "window"] (fun us ws => us ++ kwPermV [2, 1, 0] ws) (fun us ws => us ++ kwPermX [2, 1, 0] ws)
  t_LONGEST_NAME : Tok
  c_LONGEST_NAME : mg "LONGEST_NAME" = some (.int 8 t_LONGEST_NAME)
  t_WIDEST_WINDOW : Tok
  c_WIDEST_WINDOW : mg "WIDEST_WINDOW" = some (.int 64 t_WIDEST_WINDOW)
  t_LAST_EPOCH : Tok
  c_LAST_EPOCH : mg "LAST_EPOCH" = some (.int 12 t_LAST_EPOCH)
  z_ValueError : mg "ValueError" = none
  z_abs : mg "abs" = none
  z_all : mg "all" = none
  z_bool : mg "bool" = none
  z_int : mg "int" = none
  z_isinstance : mg "isinstance" = none
  z_len : mg "len" = none
  z_max : mg "max" = none
  z_property : mg "property" = none
  z_range : mg "range" = none
  z_sorted : mg "sorted" = none
  z_str : mg "str" = none
  z_tuple : mg "tuple" = none
/-! ### the hand's short words -/
/-- all but what stands at a is as it was -/
def Fr (a : Addr) (H H' : Hp) : Prop := ∀ x o, H x = some o → x ≠ a → H' x = some o
theorem Fr.refl (a : Addr) (H : Hp) : Fr a H H := fun _ _ h _ => h
theorem Fr.trans {a : Addr} {H H1 H2 : Hp} (p : Fr a H H1) (q : Fr a H1 H2) : Fr a H H2 := fun x o h n => q x o (p x o h n) n
theorem Fr.upd {a : Addr} {o : HO} (H : Hp) : Fr a H (L2.upd H a o) := fun x u h n => by rw [upd_ne n]; exact h
theorem Fr.new {a p : Addr} {o : HO} {H : Hp} (h : H p = none) : Fr a H (L2.upd H p o) := fun x u e _ => by rw [upd_ne (ne_of_none e h)]; exact e
theorem Fr.same {a : Addr} {H H' : Hp} (h : Same H H') : Fr a H H' := fun x o e _ => h x o e
/-- two lists that differ -/
theorem ne_lst {H : Hp} {a b : Addr} {xs ys : List V} (h1 : H a = some (.lst xs)) (h2 : H b = some (.lst ys)) (n : xs ≠ ys) : a ≠ b := fun e => by
  subst e
  rw [h1] at h2
  exact n (HO.lst.inj (Option.some.inj h2))
theorem ofb {b : Bool} (h : ¬ b = true) : b = false := by cases b with | true => exact absurd rfl h | false => rfl
theorem at_ok {α : Type} {xs : List α} {p : Int} (h0 : 0 ≤ p) (h1 : p < (xs.length : Int)) : ∃ z, atI xs p = some z ∧ z ∈ xs := by
  obtain ⟨j, rfl⟩ : ∃ j : Nat, p = (j : Int) := ⟨p.toNat, by omega⟩
  have hj : j < xs.length := by omega
  exact ⟨xs[j], atI_nat (List.getElem?_eq_getElem hj), List.getElem_mem hj⟩
theorem at_map {α β : Type} {f : α → β} {xs : List α} {p : Int} (h0 : 0 ≤ p) (h1 : p < (xs.length : Int)) : ∃ z, z ∈ xs ∧ atI (xs.map f) p = some (f z) := by
  obtain ⟨z, hz, hm⟩ := at_ok (xs := xs.map f) h0 (by rw [List.length_map]; exact h1)
  obtain ⟨y, hy, rfl⟩ := List.mem_map.mp hm
  exact ⟨y, hy, hz⟩
/-! ### one step of a reading -/
section
variable {σ : L2.St} {H : Hp} {Q : VK} {D : Ends} {K : PySem.W.Frag}
theorem w_var {i : Nat} {v : V} (h : σ[i]? = some (some v)) (q : Q v H) : tVar i σ H Q := ⟨v, h, q⟩
theorem w_c {v : V} (q : Q v H) : tC v σ H Q := q
theorem w_op {r : R2} {ta tb : TE} (q : ta σ H fun x H1 => tb σ H1 fun y H2 => r x y H2 Q) : tOp r ta tb σ H Q := q
theorem w_un {r : V → Hp → VK → Prop} {ta : TE} (q : ta σ H fun x H1 => r x H1 Q) : tUn r ta σ H Q := q
theorem w_cb {r : List V → Hp → VK → Prop} {t : TA} (q : t σ H fun vs H1 => r vs H1 Q) : tCB r t σ H Q := q
theorem w_cons {ta : TE} {tr : TA} {R : List V → Hp → Prop} (q : ta σ H fun x H1 => tr σ H1 fun xs H2 => R (x :: xs) H2) : tCons ta tr σ H R := q
theorem w_nil {R : List V → Hp → Prop} (q : R [] H) : tNil σ H R := q
theorem w_seq {t u : TS} (q : t { D with nx := u D } σ H) : tSeq t u D σ H := q
theorem w_next (q : D.nx σ H) : tNext D σ H := q
theorem w_asg {te : TE} {g : TG} (q : te σ H fun x H1 => g x σ H1 D.nx) : tAsg te g D σ H := q
theorem w_gname {i : Nat} {v : V} {R : L2.St → Hp → Prop} (q : R (σ.set i (some v)) H) : gName i v σ H R := q
theorem w_gsub {to ti : TE} {t : TSet} {v : V} {R : L2.St → Hp → Prop} (q : to σ H fun o H1 => ti σ H1 fun i H2 => t o i v H2 fun H3 => R σ H3) : gSub to ti t v σ H R := q
theorem w_drop {te : TE} (q : te σ H fun _ H1 => D.nx σ H1) : tDrop te D σ H := q
theorem w_ret {te : TE} (q : te σ H D.rt) : tRet te D σ H := q
theorem w_retN (q : D.rt .non H) : tRetN D σ H := q
theorem w_ifs {c : TT} {t u : TS} (q : c σ H fun b H1 => if b = true then t D σ H1 else u D σ H1) : tIfS c t u D σ H := q
theorem w_test {te : TE} {R : Bool → Hp → Prop} (q : te σ H fun x H' => ∃ k, x = .bl k ∧ R k H') : tTest te σ H R := q
theorem w_tB {te : TE} {R : Bool → Hp → Prop} (q : te σ H fun x H' => ∃ k, x = .bl k ∧ R k H') : tB te σ H R := q
theorem w_and {t u : TT} {R : Bool → Hp → Prop} (q : t σ H fun c H1 => if c = true then u σ H1 R else R false H1) : tAnd t u σ H R := q
theorem w_or {t u : TT} {R : Bool → Hp → Prop} (q : t σ H fun c H1 => if c = true then R true H1 else u σ H1 R) : tOr t u σ H R := q
theorem w_not {t : TT} {R : Bool → Hp → Prop} (q : t σ H fun c H1 => R (!c) H1) : tNot t σ H R := q
theorem w_k {k : Bool} {R : Bool → Prop} (q : R k) : ∃ k', V.bl k = .bl k' ∧ R k' := ⟨k, rfl, q⟩
theorem w_I0 {g : Int → Int → V} {i j : Int} (q : Q (g i j) H) : rI0 g (.int i) (.int j) H Q := ⟨i, j, rfl, rfl, q⟩
theorem w_I {C : Int → Int → Prop} {g : Int → Int → V} {i j : Int} (c : C i j) (q : Q (g i j) H) : rI C g (.int i) (.int j) H Q := ⟨i, j, rfl, rfl, c, q⟩
theorem w_U {g : Int → V} {i : Int} (q : Q (g i) H) : rU g (.int i) H Q := ⟨i, rfl, q⟩
theorem w_eqI {i j : Int} (q : Q (.bl (decide (i = j))) H) : rEq (.int i) (.int j) H Q := ⟨rfl, by
  rw [show decide (V.int i = V.int j) = decide (i = j) from decide_eq_decide.mpr ⟨fun e => V.int.inj e, fun e => e ▸ rfl⟩]
  exact q⟩
theorem w_neI {i j : Int} (q : Q (.bl (!decide (i = j))) H) : rNe (.int i) (.int j) H Q := ⟨rfl, by
  rw [show decide (V.int i = V.int j) = decide (i = j) from decide_eq_decide.mpr ⟨fun e => V.int.inj e, fun e => e ▸ rfl⟩]
  exact q⟩
theorem w_eqS {i j : Str} (q : Q (.bl (decide (i = j))) H) : rEq (.str i) (.str j) H Q := ⟨rfl, by
  rw [show decide (V.str i = V.str j) = decide (i = j) from decide_eq_decide.mpr ⟨fun e => V.str.inj e, fun e => e ▸ rfl⟩]
  exact q⟩
theorem w_neS {i j : Str} (q : Q (.bl (!decide (i = j))) H) : rNe (.str i) (.str j) H Q := ⟨rfl, by
  rw [show decide (V.str i = V.str j) = decide (i = j) from decide_eq_decide.mpr ⟨fun e => V.str.inj e, fun e => e ▸ rfl⟩]
  exact q⟩
theorem w_ixL {p : Addr} {xs : List V} {i : Int} {v : V} (h : SqL K H p xs) (e : atI xs i = some v) (q : Q v H) : rIxL K (.ref p) (.int i) H Q := ⟨p, xs, i, v, rfl, rfl, h, e, q⟩
theorem w_ixT {p : Addr} {xs : List V} {i : Int} {v : V} (h : SqT K H p xs) (e : atI xs i = some v) (q : Q v H) : rIxT K (.ref p) (.int i) H Q := ⟨p, xs, i, v, rfl, rfl, h, e, q⟩
theorem w_setL {p : Addr} {xs : List V} {k : Int} {j : Nat} {v : V} {R : Hp → Prop} (h : H p = some (.lst xs)) (e : ixN xs.length k = some j) (q : R (upd H p (.lst (xs.set j v)))) : rSetL (.ref p) (.int k) v H R := ⟨p, xs, k, j, rfl, rfl, h, e, q⟩
theorem w_call {sp : Sp} {dvs : List V} {E : XK} {t : TA} (q : t σ H fun vs H1 => sp (vs ++ dvs) H1 Q E) : tCall sp dvs E t σ H Q := q
theorem w_tup {t : TA} (q : t σ H fun xs H1 => xs.length ≤ sizeLine ∧ ∀ p, H1 p = none → Q (.ref p) (upd H1 p (.tup xs))) : tTup t σ H Q := q
theorem w_lst {t : TA} (q : t σ H fun xs H1 => xs.length ≤ sizeLine ∧ ∀ p, H1 p = none → Q (.ref p) (upd H1 p (.lst xs))) : tLst t σ H Q := q
theorem w_int {i : Int} {C : Prop} {R : Int → Prop} (q : R i) : (∃ j, [V.int i] = [.int j] ∧ R j) ∨ C := .inl ⟨i, rfl, q⟩
theorem w_bm {T : String} {r : V → List V → Hp → VK → Prop} {to : TE} {t : TA} (q : to σ H fun x H1 => tyV K T x H1 ∧ t σ H1 fun xs H2 => r x xs H2 Q) : tBM K T r to t σ H Q := q
theorem w_bm0 {T : String} {r : V → List V → Hp → VK → Prop} {to : TE} (q : to σ H fun x H1 => tyV K T x H1 ∧ r x [] H1 Q) : tBM0 K T r to σ H Q := q
theorem w_append {l : Addr} {xs : List V} {y : V} (h : H l = some (.lst xs)) (n : xs.length < sizeLine) (q : Q .non (upd H l (.lst (xs ++ [y])))) : rAppend (.ref l) [y] H Q := ⟨l, xs, y, rfl, rfl, h, n, q⟩
theorem ty_l {l : Addr} {xs : List V} (h : H l = some (.lst xs)) : tyV K "list" (.ref l) H := Or.inl ⟨rfl, _, Or.inl (Or.inl h)⟩
theorem w_tyl {l : Addr} {xs : List V} {C : Prop} (h : H l = some (.lst xs)) (q : C) : tyV K "list" (.ref l) H ∧ C := ⟨ty_l h, q⟩
theorem w_sl {r : V → Option Int → Option Int → Hp → VK → Prop} {te : TE} {tl th : TO} (q : te σ H fun x H1 => tl σ H1 fun l H2 => th σ H2 fun u H3 => r x l u H3 Q) : tSl r te tl th σ H Q := q
theorem w_no {R : Option Int → Hp → Prop} (q : R none H) : tNoPart σ H R := q
theorem w_part {t : TE} {R : Option Int → Hp → Prop} (q : t σ H fun x H1 => ∃ i, x = .int i ∧ R (some i) H1) : tPart t σ H R := q
theorem w_pi {i : Int} {R : Int → Prop} (q : R i) : ∃ j, V.int i = .int j ∧ R j := ⟨i, rfl, q⟩
theorem w_slS {z : Str} {lo hi : Option Int} (n : z.length ≤ sizeLine) (q : Q (.str (cutS z lo hi)) H) : rSlS (.str z) lo hi H Q := ⟨z, rfl, n, q⟩
theorem w_m1 {r : V → List V → Hp → VK → Prop} {to te : TE} (q : to σ H fun x H1 => (∃ a, x = .str a) ∧ te σ H1 fun y H2 => r x [y] H2 Q) : tM1 r to te σ H Q := q
theorem w_s {z : Str} {C : Prop} (q : C) : (∃ a, V.str z = .str a) ∧ C := ⟨⟨z, rfl⟩, q⟩
theorem w_len {p : Addr} {ys : List V} {R : List V → Prop} (h : SqL K H p ys) (q : R ys) : ∃ p' ys', [V.ref p] = [V.ref p'] ∧ (SqL K H p' ys' ∨ SqT K H p' ys') ∧ R ys' := ⟨p, ys, rfl, .inl h, q⟩
theorem w_lenT {p : Addr} {ys : List V} {R : List V → Prop} (h : SqT K H p ys) (q : R ys) : ∃ p' ys', [V.ref p] = [V.ref p'] ∧ (SqL K H p' ys' ∨ SqT K H p' ys') ∧ R ys' := ⟨p, ys, rfl, .inr h, q⟩
theorem w_lenS {z : Str} {R : Str → Prop} (n : z.length ≤ sizeLine) (q : R z) : ∃ z', [V.str z] = [V.str z'] ∧ z'.length ≤ sizeLine ∧ R z' := ⟨z, rfl, n, q⟩
theorem w_one {i : Int} {R : Int → Prop} (q : R i) : ∃ j, [V.int i] = [V.int j] ∧ R j := ⟨i, rfl, q⟩
theorem w_two {i j : Int} {R : Int → Int → Prop} (q : R i j) : ∃ i' j', [V.int i, V.int j] = [V.int i', V.int j'] ∧ R i' j' := ⟨i, j, rfl, q⟩
theorem w_for {wi : TI} {g : TG} {tb : TS} (q : wi σ H fun J H1 => ∃ W : Nat → Nat → L2.St → Hp → Prop, (∃ m, W 0 m σ H1) ∧ ∀ i m σ H, W i m σ H → (J.stop i H ∧ D.nx σ H) ∨ (J.go i H ∧ ∃ N : L2.St → Hp → Prop, (∀ σ' H', N σ' H' → ∃ m', m' < m ∧ W (i + 1) m' σ' H') ∧ ∀ x H', J.yld i H x H' → g x σ H' fun σ2 H2 => tb { D with nx := N, ct := N, bk := D.nx } σ2 H2)) : tFor wi g tb D σ H := q
theorem w_iList {tl : TE} {R : It → Hp → Prop} (q : tl σ H fun x H1 => ∃ a, x = .ref a ∧ (∃ xs, SqL K H1 a xs) ∧ R (Itl K a) H1) : iList K tl σ H R := q
theorem w_iTup {tl : TE} {R : It → Hp → Prop} (q : tl σ H fun x H1 => ∃ a, x = .ref a ∧ (∃ xs, SqT K H1 a xs) ∧ R (Itt K a) H1) : iTup K tl σ H R := q
theorem w_itl {a : Addr} {xs : List V} {R : Addr → Prop} (h : SqL K H a xs) (q : R a) : ∃ a', V.ref a = .ref a' ∧ (∃ xs, SqL K H a' xs) ∧ R a' := ⟨a, rfl, ⟨xs, h⟩, q⟩
theorem w_itt {a : Addr} {xs : List V} {R : Addr → Prop} (h : SqT K H a xs) (q : R a) : ∃ a', V.ref a = .ref a' ∧ (∃ xs, SqT K H a' xs) ∧ R a' := ⟨a, rfl, ⟨xs, h⟩, q⟩
theorem w_iRng1 {ta : TA} {R : It → Hp → Prop} (q : ta σ H fun vs H1 => ∃ j : Int, vs = [.int j] ∧ -(2 ^ 62) ≤ j ∧ j < 2 ^ 62 ∧ R (Itr 0 j.toNat) H1) : iRng1 ta σ H R := q
theorem w_rng {j : Int} {R : Int → Prop} (h1 : -(2 ^ 62) ≤ j) (h2 : j < 2 ^ 62) (q : R j) : ∃ j' : Int, [V.int j] = [.int j'] ∧ -(2 ^ 62) ≤ j' ∧ j' < 2 ^ 62 ∧ R j' := ⟨j, rfl, h1, h2, q⟩
theorem w_lc {wi : TI} {g : TG} {tt : TT} {te : TE} {vs : List Nat} (q : wi σ H fun J H1 => ∀ D, H1 D = none → ∃ W : Nat → Nat → Hp → Prop, (∃ m, W 0 m (upd H1 D (.lst []))) ∧ ∀ i m H, W i m H →
      (J.stop i H ∧ Q (.ref D) H) ∨ (J.go i H ∧ ∃ Nx : Hp → Prop, (∀ H', Nx H' → ∃ m', m' < m ∧ W (i + 1) m' H') ∧ ∀ x H', J.yld i H x H' → g x (wipe σ vs) H' fun σ2 H2 => wipe σ2 vs = wipe σ vs ∧ tt σ2 H2 fun b H3 =>
        if b = true then te σ2 H3 fun y H4 => ∃ acc, H4 D = some (.lst acc) ∧ acc.length < sizeLine ∧ Nx (upd H4 D (.lst (acc ++ [y]))) else Nx H3)) : tLc wi g tt te vs σ H Q := q
theorem w_yes {R : Bool → Hp → Prop} (q : R true H) : tYes σ H R := q
theorem w_wipe {σ1 σ2 : L2.St} {C : Prop} (h : σ1 = σ2) (q : C) : σ1 = σ2 ∧ C := ⟨h, q⟩
theorem w_cmpS {i j : Str} {R : Str → Str → Prop} (q : R i j) : ∃ i' j', V.str i = .str i' ∧ V.str j = .str j' ∧ R i' j' := ⟨i, j, rfl, rfl, q⟩
theorem w_truL {p : Addr} {xs : List V} {R : Bool → Prop} (h : SqL K H p xs) (q : R (!xs.isEmpty)) : ∃ k, TruV K (.ref p) H k ∧ R k := ⟨_, Or.inl ⟨xs, h, rfl⟩, q⟩
theorem w_pop {l : Addr} {xs : List V} {y : V} (h : H l = some (.lst (xs ++ [y]))) (q : Q y (upd H l (.lst xs))) : rPop (.ref l) [] H Q := ⟨l, xs ++ [y], y, rfl, rfl, h, by simp, by rw [List.dropLast_concat]; exact q⟩
theorem w_revA {te : TE} {R : It → Hp → Prop} (q : te σ H fun v H1 => ∃ (a : Addr) (xs : List V), v = .ref a ∧ ((SqL K H1 a xs ∧ R (Itv K a xs.length) H1) ∨ (SqT K H1 a xs ∧ R (RT.ItvT K a xs.length) H1))) : RT.iRevA K te σ H R := q
theorem w_rvT {a : Addr} {xs : List V} {C R : Addr → List V → Prop} (h : SqT K H a xs) (q : R a xs) : ∃ (a' : Addr) (xs' : List V), V.ref a = .ref a' ∧ (C a' xs' ∨ (SqT K H a' xs' ∧ R a' xs')) := ⟨a, xs, rfl, .inr ⟨h, q⟩⟩
theorem w_rvL {a : Addr} {xs : List V} {C R : Addr → List V → Prop} (h : SqL K H a xs) (q : R a xs) : ∃ (a' : Addr) (xs' : List V), V.ref a = .ref a' ∧ ((SqL K H a' xs' ∧ R a' xs') ∨ C a' xs') := ⟨a, xs, rfl, .inl ⟨h, q⟩⟩
theorem w_isi {v : V} {d : PyData} (h : DAt H v d) (q : Q (.bl (isTup d)) H) : rIsi K [v, .ty "tuple"] H Q := by
  cases h with
  | str x => exact ⟨_, _, _, _, false, rfl, .ty _, .base (.str x), kit_ty (by decide +kernel), q⟩
  | int x => exact ⟨_, _, _, _, false, rfl, .ty _, .base (.int x), kit_ty (by decide +kernel), q⟩
  | non => exact ⟨_, _, _, _, false, rfl, .ty _, .base .non, kit_ty (by decide +kernel), q⟩
  | tup h _ => exact ⟨_, _, _, _, true, rfl, .ty _, .base (.tup h), kit_ty (by decide +kernel), q⟩
theorem w_join {a : Str} {p : Addr} {ys : List Str} {R : Str → List Str → Prop} (h : SqL K H p (ys.map V.str)) (n : (ys.map (·.length)).sum + ys.length * a.length ≤ 16777216) (q : R a ys) : ∃ a' p', ∃ ys' : List Str, V.str a = .str a' ∧ [V.ref p] = [.ref p'] ∧ (SqL K H p' (ys'.map V.str) ∨ SqT K H p' (ys'.map V.str)) ∧ (ys'.map (·.length)).sum + ys'.length * a'.length ≤ 16777216 ∧ R a' ys' := ⟨a, p, ys, rfl, rfl, .inl h, n, q⟩
theorem w_dg {td ty : TE} (q : td σ H fun x H1 => ty σ H1 fun y H2 => ∃ a v, x = .ref a ∧ DGet H2 a y (some v) ∧ Q v H2) : tDGet td ty σ H Q := q
theorem w_dp {td ty tv : TE} (q : tv σ H fun v H1 => td σ H1 fun x H2 => ty σ H2 fun y H3 => ∃ a H4, x = .ref a ∧ DPut H3 a y v H4 ∧ D.nx σ H4) : sDPut td ty tv D σ H := q
theorem w_it {c A B : Prop} [Decidable c] (h : c) (q : A) : if c then A else B := by rw [if_pos h]; exact q
theorem w_if {c A B : Prop} [Decidable c] (h : ¬ c) (q : B) : if c then A else B := by rw [if_neg h]; exact q
theorem w_cnt {x y : Str} {R : Str → Str → Prop} (q : R x y) : ∃ a b, V.str x = .str a ∧ [V.str y] = [.str b] ∧ R a b := ⟨x, y, rfl, rfl, q⟩
theorem w_par {i j : Nat} {ta : TA} (q : ta σ H fun vs H1 => ∃ v w, vs = [v, w] ∧ D.nx ((σ.set i (some v)).set j (some w)) H1) : tPar i j ta D σ H := q
theorem w_par2 {v w : V} {R : V → V → Prop} (q : R v w) : ∃ v' w', [v, w] = [v', w'] ∧ R v' w' := ⟨v, w, rfl, q⟩
end
theorem Nm.len {z : Str} (h : Nm z) : z.length ≤ sizeLine := Nat.le_trans h.hi (by decide)
theorem add_ok {m n : Nat} (h : m + n ≤ 1000000) : m + n ≤ sizeLine := Nat.le_trans h (by decide)
theorem len_app (a b : Str) : (a ++ b).length = a.length + b.length := by rw [cd_len, cd_len, cd_len, cd_app, List.length_append]
local macro_rules | `(tactic| walk_at "ne") => `(tactic| first | assumption | exact Ne.symm (by assumption) | exact ne_of_none (by assumption) (by assumption) | exact Ne.symm (ne_of_none (by assumption) (by assumption)))
local macro_rules | `(tactic| walk_at "hp") => `(tactic| first | assumption | exact upd_same | (rw [upd_ne (by walk_at "ne")]; walk_at "hp"))
local macro_rules | `(tactic| walk_at "sl") => `(tactic| first | assumption | exact SqL.of (by walk_at "hp"))
local macro_rules | `(tactic| walk_at "st") => `(tactic| first | assumption | exact SqT.of (by walk_at "hp"))
local macro_rules | `(tactic| walk_at "c") => `(tactic| first | assumption | decide | exact ⟨by omega, by omega⟩ | (show (0 : Int) < _; omega) | exact Or.inl ⟨by omega, by omega⟩ | exact Or.inr ⟨by omega, by omega⟩)
local macro_rules | `(tactic| walk_at "len") => `(tactic| (simp only [List.length_cons, List.length_nil]; decide))
local macro_rules | `(tactic| walk_at "z") => `(tactic| first | assumption | exact Nm.len (by assumption))
local macro_rules | `(tactic| walk_at "s0") => `(tactic| with_reducible first
  | (apply w_var; case h => with_unfolding_all rfl) | apply w_c | apply w_op | apply w_seq | apply w_asg | apply w_gname | apply w_cb | apply w_cons | apply w_nil | apply w_next
  | apply w_gsub | apply w_drop | apply w_ret | apply w_retN | apply w_test | apply w_tB | apply w_and | apply w_or | apply w_not | apply w_un | apply w_call | apply w_tup | apply w_lst
  | apply w_bm | apply w_bm0 | apply w_sl | apply w_no | apply w_part | apply w_m1 | apply w_dg | apply w_dp | apply w_for | apply w_iList | apply w_iTup | apply w_iRng1 | apply w_lc | apply w_yes | apply w_revA | apply w_par
  | apply w_I0 | apply w_U | apply w_eqI | apply w_neI | apply w_eqS | apply w_neS | apply w_k | apply w_pi | apply w_s | apply w_int
  | (apply w_ixL; (case h => with_unfolding_all walk_at "sl"); (case e => with_unfolding_all rfl)) | (apply w_ixT; (case h => with_unfolding_all walk_at "st"); (case e => with_unfolding_all rfl))
  | (apply w_setL; (case h => with_unfolding_all walk_at "hp"); (case e => with_unfolding_all rfl))
  | (apply w_tyl; (case h => with_unfolding_all walk_at "hp")) | (apply w_len; (case h => with_unfolding_all walk_at "sl")) | (apply w_lenT; (case h => with_unfolding_all walk_at "st"))
  | (apply w_rng; (case h1 => with_unfolding_all omega); (case h2 => with_unfolding_all omega)) | apply w_one | apply w_two
  | (apply w_I; (case c => with_unfolding_all walk_at "c"))
  | (apply w_itl; (case h => with_unfolding_all walk_at "sl")) | (apply w_itt; (case h => with_unfolding_all walk_at "st"))
  | (apply w_wipe; (case h => with_unfolding_all rfl)) | apply iteT | apply iteF | apply w_cmpS | apply w_cnt | apply w_par2
  | (apply w_slS; (case n => with_unfolding_all walk_at "z")) | (apply w_truL; (case h => with_unfolding_all walk_at "sl")) | (apply w_pop; (case h => with_unfolding_all walk_at "hp"))
  | (apply w_rvT; (case h => with_unfolding_all walk_at "st")) | (apply w_rvL; (case h => with_unfolding_all walk_at "sl")) | (apply w_isi; (case h => with_unfolding_all assumption)) | (apply w_lenS; (case n => with_unfolding_all walk_at "z")))
local macro_rules | `(tactic| walk_at "s") => `(tactic| first | walk_at "s0" | with_reducible apply w_ifs)
local macro_rules | `(tactic| walk_at "dc") => `(tactic| first | refine w_it (by decide +kernel) ?_ | refine w_if (by decide +kernel) ?_)
local macro_rules | `(tactic| walk_at "sa") => `(tactic| first | walk_at "s" | refine ⟨add_ok (by (try simp only [len_appS]); omega), ?_⟩ | walk_at "dc")
section
variable {σ : L2.St} {H : Hp} {Q : VK} {D : Ends} {K : PySem.W.Frag}
theorem w_ckw {r : List V → List V → Hp → VK → Prop} {t tk : TA} (q : t σ H fun vs H1 => tk σ H1 fun zs H2 => r vs zs H2 Q) : tCKw r t tk σ H Q := q
theorem w_ck0 {sp : Sp} {n : Nat} {gV : List V → List V} {E : XK} {tk : TA} (q : tk σ H fun zs H2 => zs.length = n ∧ sp (gV zs) H2 Q E) : tCallK0 sp n gV E tk σ H Q := q
theorem w_gtup {n : Nat} {t : TGs} {a : Addr} {xs : List V} {R : L2.St → Hp → Prop} (h : SqT K H a xs) (e : xs.length = n) (q : t xs σ H R) : gTup K n t (.ref a) σ H R := ⟨a, xs, rfl, h, e, q⟩
theorem w_gcons {t : TG} {u : TGs} {v : V} {r : List V} {R : L2.St → Hp → Prop} (q : t v σ H fun σ' H' => u r σ' H' R) : gCons t u (v :: r) σ H R := ⟨v, r, rfl, q⟩
theorem w_gnil {R : L2.St → Hp → Prop} (q : R σ H) : gNil [] σ H R := ⟨rfl, q⟩
theorem isi_s {z : Str} {n : String} {b : Bool} (k : kitB "str" n = some b) (q : Q (.bl b) H) : rIsi K [.str z, .ty n] H Q := ⟨_, _, _, _, b, rfl, .ty _, .base (.str z), kit_ty k, q⟩
theorem isi_i {z : Int} {n : String} {b : Bool} (k : kitB "int" n = some b) (q : Q (.bl b) H) : rIsi K [.int z, .ty n] H Q := ⟨_, _, _, _, b, rfl, .ty _, .base (.int z), kit_ty k, q⟩
theorem isi_t {a : Addr} {vs : List V} {n : String} {b : Bool} (h : H a = some (.tup vs)) (k : kitB "tuple" n = some b) (q : Q (.bl b) H) : rIsi K [.ref a, .ty n] H Q := ⟨_, _, _, _, b, rfl, .ty _, .base (.tup h), kit_ty k, q⟩
theorem isi_st {z : Str} (q : Q (.bl false) H) : rIsi K [.str z, .ty "tuple"] H Q := isi_s (by decide +kernel) q
theorem isi_ss {z : Str} (q : Q (.bl true) H) : rIsi K [.str z, .ty "str"] H Q := isi_s (by decide +kernel) q
theorem isi_it {z : Int} (q : Q (.bl false) H) : rIsi K [.int z, .ty "tuple"] H Q := isi_i (by decide +kernel) q
theorem isi_is {z : Int} (q : Q (.bl false) H) : rIsi K [.int z, .ty "str"] H Q := isi_i (by decide +kernel) q
theorem isi_ib {z : Int} (q : Q (.bl false) H) : rIsi K [.int z, .ty "bool"] H Q := isi_i (by decide +kernel) q
theorem isi_ii {z : Int} (q : Q (.bl true) H) : rIsi K [.int z, .ty "int"] H Q := isi_i (by decide +kernel) q
theorem isi_tt {a : Addr} {vs : List V} (h : H a = some (.tup vs)) (q : Q (.bl true) H) : rIsi K [.ref a, .ty "tuple"] H Q := isi_t h (by decide +kernel) q
theorem w_isN {C : Prop} (q : C) : V.non = V.non ∧ C := ⟨rfl, q⟩
theorem w_isB {a b : Bool} (q : Q (.bl (decide (a = b))) H) : rIsB (.bl a) (.bl b) H Q := ⟨a, b, rfl, rfl, q⟩
theorem w_notB {a b : Bool} (q : Q (.bl (!decide (a = b))) H) : rNotB (.bl a) (.bl b) H Q := ⟨a, b, rfl, rfl, q⟩
theorem w_tys {z : Str} {C : Prop} (q : C) : tyV K "str" (.str z) H ∧ C := ⟨rfl, q⟩
theorem w_revT {te : TE} (q : te σ H fun x H1 => ∃ a xs, x = .ref a ∧ SqT K H1 a xs ∧ ∀ p, H1 p = none → Q (.ref p) (upd H1 p (.tup xs.reverse))) : tRevT K te σ H Q := q
theorem w_andV {ta tb : TE} (q : ta σ H fun x H1 => ∃ c, x = .bl c ∧ if c = true then tb σ H1 Q else Q (.bl false) H1) : tAndV ta tb σ H Q := q
theorem w_orV {ta tb : TE} (q : ta σ H fun x H1 => ∃ c, x = .bl c ∧ if c = true then Q (.bl true) H1 else tb σ H1 Q) : tOrV ta tb σ H Q := q
theorem w_dnew (q : ∀ p, H p = none → Q (.ref p) (upd H p (.dK []))) : tDNewK σ H Q := q
theorem w_neB {i j : Bool} (q : Q (.bl (!decide (i = j))) H) : rNe (.bl i) (.bl j) H Q := ⟨rfl, by
  rw [show decide (V.bl i = V.bl j) = decide (i = j) from decide_eq_decide.mpr ⟨fun e => V.bl.inj e, fun e => e ▸ rfl⟩]
  exact q⟩
theorem w_chain {r1 r2 : R2} {ta tb tc : TE} (q : ta σ H fun x H1 => tb σ H1 fun y H2 => r1 x y H2 fun z H3 => ∃ k, z = .bl k ∧ if k = true then tc σ H3 fun u H4 => r2 y u H4 Q else Q (.bl false) H3) : tChain r1 r2 ta tb tc σ H Q := q
theorem sm_new {p : Addr} {o : HO} (h : H p = none) : Same H (upd H p o) := fun b u e => by rw [upd_ne (ne_of_none e h)]; exact e
end
local macro_rules | `(tactic| walk_at "s0") => `(tactic| with_reducible first
  | apply w_ckw | apply w_chain | apply w_neB | apply w_andV | apply w_orV | apply w_dnew | apply w_ck0 | apply w_gcons | apply w_gnil | apply isi_st | apply isi_ss | apply isi_it | apply isi_is | apply isi_ib | apply isi_ii | (apply isi_tt; (case h => with_unfolding_all walk_at "hp"))
  | apply w_isN | apply w_isB | apply w_notB | apply w_tys | apply w_revT | (apply w_gtup; (case h => with_unfolding_all walk_at "st"); (case e => with_unfolding_all rfl)))
/-! ### instances; what never runs -/
theorem ps_no {X : Cx} {s : Stmt} : PS X s (fun _ _ _ => False) := ⟨fun _ _ _ _ _ _ h => h.elim⟩
section
variable {σ : L2.St} {H : Hp} {Q : VK} {D : Ends} {K : PySem.W.Frag}
theorem w_fld {ta : TE} {f : Str} (q : ta σ H fun x H1 => ∃ a C dx fs v, x = .ref a ∧ H1 a = some (.ins C dx fs) ∧ Cls K C ∧ NoAttr K C f ∧ fs.lookup f = some v ∧ Q v H1) : tFld K ta f σ H Q := q
theorem w_fldA {p C dx : Addr} {fs : List (Str × V)} {f : Str} {v : V} {R : V → Prop} (h : H p = some (.ins C dx fs)) (c : Cls K C) (n : NoAttr K C f) (l : fs.lookup f = some v) (q : R v) : ∃ a C dx fs v, V.ref p = .ref a ∧ H a = some (.ins C dx fs) ∧ Cls K C ∧ NoAttr K C f ∧ fs.lookup f = some v ∧ R v := ⟨p, C, dx, fs, v, rfl, h, c, n, l, q⟩
theorem w_sfld {ta tv : TE} {f : Str} (q : tv σ H fun y H1 => ta σ H1 fun x H2 => ∃ a C dx fs, x = .ref a ∧ H2 a = some (.ins C dx fs) ∧ Cls K C ∧ NoAttr K C f ∧ fs.length < 1000 ∧ D.nx σ (upd H2 a (.ins C dx (putF f y fs)))) : sFld K ta tv f D σ H := q
theorem w_meth {C : Addr} {m : Str} {sp : Sp} {dvs : List V} {E : XK} {ta : TE} {t : TA} (q : ta σ H fun x H1 => ∃ a dx fs, x = .ref a ∧ H1 a = some (.ins C dx fs) ∧ fs.lookup m = none ∧ t σ H1 fun vs H2 => sp (x :: (vs ++ dvs)) H2 Q E) : tMeth C m sp dvs E ta t σ H Q := q
theorem w_make {C : Addr} {sp : Sp} {dvs : List V} {E : XK} {t : TA} (q : t σ H fun vs H1 => ∀ x dx, H1 x = none → H1 dx = none → dx ≠ x → sp (.ref x :: (vs ++ dvs)) (upd (upd H1 dx (.own x)) x (.ins C dx [])) (fun v H2 => v = .non ∧ Q (.ref x) H2) E) : tMake C sp dvs E t σ H Q := q
theorem w_dnin {ty td : TE} (q : ty σ H fun y H1 => td σ H1 fun x H2 => ∃ a o, x = .ref a ∧ DGet H2 a y o ∧ Q (.bl (!o.isSome)) H2) : tDNotIn ty td σ H Q := q
theorem w_din {ty td : TE} (q : ty σ H fun y H1 => td σ H1 fun x H2 => ∃ a o, x = .ref a ∧ DGet H2 a y o ∧ Q (.bl o.isSome) H2) : tDIn ty td σ H Q := q
end
local macro_rules | `(tactic| walk_at "s0") => `(tactic| with_reducible first | apply w_fld | apply w_sfld | apply w_meth | apply w_make | apply w_dnin | apply w_din)
/-! ### the pile of draws -/
theorem upd_self2 {H : Hp} {a : Addr} (_ : H a = none) (o : HO) : upd H a o a = some o := upd_same
theorem big99 {n : Nat} (h : n ≤ 100000) : n < sizeLine := Nat.lt_of_le_of_lt h (by decide)
theorem w_revL {K : PySem.W.Frag} {te : TE} {σ : L2.St} {H : Hp} {Q : VK} (q : te σ H fun x H1 => ∃ a xs, x = .ref a ∧ SqL K H1 a xs ∧ ∀ p, H1 p = none → Q (.ref p) (upd H1 p (.lst xs.reverse))) : tRevL K te σ H Q := q
theorem w_break {D : Ends} {σ : L2.St} {H : Hp} (q : D.bk σ H) : tBreak D σ H := q
def inz (ns : List Int) : List V := ns.map V.int
theorem inz_app (a b : List Int) : inz (a ++ b) = inz a ++ inz b := List.map_append
theorem inz_len (a : List Int) : (inz a).length = a.length := List.length_map _
def Pil (H : Hp) (p : Addr) : Prop := ∃ (n : Int) (ns : List Int), H p = some (.lst (inz (n :: ns))) ∧ 0 ≤ n ∧ n < 2147483647 ∧ ns.length ≤ 4000
/-- what a stretch of draws leaves -/
structure Gp (p : Addr) (H H' : Hp) : Prop where
  fr : Fr p H H'
  pl : Pil H' p
theorem Gp.trans {p : Addr} {H H1 H2 : Hp} (a : Gp p H H1) (b : Gp p H1 H2) : Gp p H H2 := ⟨a.fr.trans b.fr, b.pl⟩
theorem Pil.same {p : Addr} {H H1 : Hp} (a : Pil H p) (s : Same H H1) : Pil H1 p := by
  obtain ⟨n, ns, h, r⟩ := a
  exact ⟨n, ns, s _ _ h, r⟩
theorem Pil.ne {p q : Addr} {H : Hp} (a : Pil H p) (h : H q = none) : q ≠ p := by
  obtain ⟨n, ns, e, r⟩ := a
  exact (ne_of_none e h).symm
theorem Gp.refl {p : Addr} {H : Hp} (a : Pil H p) : Gp p H H := ⟨Fr.refl _ _, a⟩
theorem Gp.same {p : Addr} {H H1 H2 : Hp} (a : Gp p H H1) (s : Same H1 H2) : Gp p H H2 := ⟨a.fr.trans (Fr.same s), a.pl.same s⟩
theorem Gp.at {p q : Addr} {H H1 : Hp} {o : HO} (a : Gp p H H1) (h : H q = some o) (n : q ≠ p) : H1 q = some o := a.fr q o h n
theorem Gp.un {p q : Addr} {H H1 : Hp} (a : Gp p H H1) (n : H1 q = none) : H q = none := by
  cases e : H q with
  | none => rfl
  | some o =>
    have := a.fr q o e (a.pl.ne n)
    rw [this] at n
    cases n
/-- an object that H does not know changes -/
theorem Gp.mut {p q : Addr} {H H1 : Hp} {o : HO} (a : Gp p H H1) (n : H q = none) (nq : q ≠ p) : Gp p H (upd H1 q o) := ⟨fun x u e h => by
  rw [upd_ne (ne_of_none e n)]
  exact a.fr x u e h, by
  obtain ⟨m, ns, h, r⟩ := a.pl
  exact ⟨m, ns, by rw [upd_ne nq.symm]; exact h, r⟩⟩
def sp_pile (K : PySem.W.Frag) : Sp := fun vs H Q _ => ∃ (a : Addr) (ns : List Int), vs = [.ref a] ∧ SqL K H a (ns.map V.int) ∧ ns.length ≤ 63 ∧ ∀ (p : Addr) (H' : Hp), Same H H' → H p = none → Pil H' p → Q (.ref p) H'
def sp_draw : Sp := fun vs H Q _ => ∃ (p : Addr) (n : Int), vs = [.ref p, .int n] ∧ Pil H p ∧ 1 ≤ n ∧ ∀ (d : Int) (H' : Hp), 0 ≤ d → d < n → Gp p H H' → Q (.int d) H'
theorem sqL_same {K : PySem.W.Frag} {H H' : Hp} {a : Addr} {xs : List V} (h : SqL K H a xs) (s : Same H H') : SqL K H' a xs :=
  h.elim (fun h => .inl (h.elim (fun h => .inl (s _ _ h)) fun ⟨o, h⟩ => .inr ⟨o, s _ _ h⟩)) fun h => .inr h
section
variable {P : Program} {w : World} {K : PySem.W.Frag} {mg : Str → Option Value} {base : Heap}
theorem ok_law_pile (T : Top K mg) : FnOk P w K mg base CX0 1 T.f_law_pile T.d_law_pile ["script"] (sp_pile K) := by
  refine T.F_law_pile.ok sc_law_pile (fun vs H Q E h => ?_) (fun cdv A outer s H vs Q E hr h => ?_)
  · obtain ⟨a, n, rfl, _⟩ := h
    rfl
  · obtain ⟨a, ns, rfl, hS, hl, q⟩ := h
    refine ⟨_, (pss_cons (ps_set (i := 1) sc_law_pile.nd rfl (Or.inl rfl) (pe_op op_add pe_int (pe_callB call_len_seq (by rfl) T.z_len (by decide +kernel) (pa_cons (pv 0) pa_nil))))
    (pss_cons (ps_set (i := 2) sc_law_pile.nd rfl (Or.inl rfl) (pe_lst pa_nil))
     (pss_cons (ps_for PassesOwn.never rfl (pi_list (pv 0)) (pg_name (i := 3) sc_law_pile.nd rfl (Or.inl rfl))
      (pss_cons (ps_set (i := 4) sc_law_pile.nd rfl (Or.inl rfl) (pe_callTy call_int1 (by rfl) T.z_int (by decide +kernel) (pa_cons (pv 3) pa_nil)))
       (pss_cons (ps_set (i := 1) sc_law_pile.nd rfl (Or.inl rfl) (pe_op op_mod (pe_callTy call_int1 (by rfl) T.z_int (by decide +kernel) (pa_cons (pe_op op_add (pe_op op_mul (pv 1) pe_int) (pv 4)) pa_nil)) pe_int))
        (pss_one (ps_if (pt_cmpR op_eq (pe_op op_mod (pv 4) pe_int) pe_int (nomark _))
         (pss_cons (ps_set (i := 5) sc_law_pile.nd rfl (Or.inl rfl) (pe_op op_fdiv (pe_callB call_abs (by rfl) T.z_abs (by decide +kernel) (pa_cons (pv 4) pa_nil)) pe_int))
          (pss_one (ps_for PassesOwn.never rfl (pi_range1 (by rfl) T.z_range (pa_cons pe_int pa_nil)) (pg_name (i := 6) sc_law_pile.nd rfl (Or.inl rfl))
           (pss_cons (ps_expr (pe_bm PySem.F.plainAttrs_list PySem.F.slot_list_append PySem.F.type_list_append mt_append (pv 2) (pa_cons (pe_op op_mod (pv 5) pe_int) pa_nil)))
            (pss_cons (ps_set (i := 5) sc_law_pile.nd rfl (Or.inl rfl) (pe_op op_fdiv (pv 5) pe_int))
             (pss_one (ps_if (pt_cmpR op_eq (pv 5) pe_int (nomark _))
              (pss_one ps_break)
              pss_nil)))))))
         (pss_one (ps_for PassesOwn.never rfl (pi_range1 (by rfl) T.z_range (pa_cons pe_int pa_nil)) (pg_name (i := 6) sc_law_pile.nd rfl (Or.inl rfl))
          (pss_cons (ps_set (i := 1) sc_law_pile.nd rfl (Or.inl rfl) (pe_op op_mod (pe_callTy call_int1 (by rfl) T.z_int (by decide +kernel) (pa_cons (pe_op op_add (pe_op op_mul (pv 1) pe_int) (pv 4)) pa_nil)) pe_int))
           (pss_one (ps_expr (pe_bm PySem.F.plainAttrs_list PySem.F.slot_list_append PySem.F.type_list_append mt_append (pv 2) (pa_cons (pe_op op_fdiv (pv 1) pe_int) pa_nil))))))))))))
      (pss_one (ps_ret (pe_op op_cat (pe_lst (pa_cons (pv 1) pa_nil)) (pe_revL (pv 2)))))))), ?_⟩
    repeat walk_at "s"
    refine ⟨by walk_at "len", fun f hf => ?_⟩
    have s1 := sm_new (o := .lst []) hf
    have e1 := upd_self2 hf (.lst [])
    generalize upd H f (.lst []) = H1 at s1 e1 ⊢
    repeat walk_at "s"
    refine ⟨a, rfl, ⟨_, sqL_same hS s1⟩, ?_⟩
    refine for_list (K := K) (a := a) (xs := ns.map V.int) (fun i σ H2 => ∃ (sd : Int) (fs : List Int) (v3 v4 v5 v6 : Option V), σ = [some (.ref a), some (.int sd), some (.ref f), v3, v4, v5, v6] ∧ 0 ≤ sd ∧ sd < 2147483647 ∧ H2 f = some (.lst (inz fs)) ∧ fs.length ≤ 60 * i ∧ Same H H2) ?_ ?_ ?_ ?_
    · refine ⟨_, [], none, none, none, none, rfl, ?_, ?_, e1, Nat.zero_le _, s1⟩
      · omega
      · rw [List.length_map]; omega
    · rintro i σ H2 _ ⟨_, _, _, _, _, _, _, _, _, _, _, s2⟩
      exact sqL_same hS s2
    · rintro i x σ H2 hi ⟨sd, fs, v3, v4, v5, v6, rfl, hs0, hs1, e2, lf, s2⟩
      obtain ⟨z, hz, rfl⟩ := List.mem_map.mp (List.mem_of_getElem? hi)
      have hil : i < 63 := by
        have := (List.getElem?_eq_some_iff.mp hi).1
        rw [List.length_map] at this
        omega
      repeat walk_at "s"
      refine ite2 (fun h => ?_) (fun h => ?_)
      · repeat walk_at "s"
        refine for_range (lo := 0) (n := (60 : Int).toNat) (fun j σ H3 => ∃ (fs' : List Int) (sd' rs zz : Int) (v6 : Option V), σ = [some (.ref a), some (.int sd'), some (.ref f), some (.int z), some (.int zz), some (.int rs), v6] ∧ 0 ≤ sd' ∧ sd' < 2147483647 ∧ H3 f = some (.lst (inz fs')) ∧ fs'.length ≤ fs.length + j ∧ Same H H3) ?_ ?_ ?_
        · exact ⟨fs, _, _, _, v6, rfl, Int.emod_nonneg _ (by omega), Int.emod_lt_of_pos _ (by omega), e2, by omega, s2⟩
        · rintro j σ H3 hj ⟨fs', sd', rs, zz, w6, rfl, g0, g1, e3, lf3, s3⟩
          have hj' : j < 60 := hj
          repeat walk_at "s"
          refine w_append e3 ?_ ?_
          · rw [inz_len]; exact big99 (by omega)
          repeat walk_at "s"
          have ee : inz fs' ++ [V.int (rs % 60)] = inz (fs' ++ [rs % 60]) := by rw [inz_app]; rfl
          have ss : Same H (upd H3 f (.lst (inz fs' ++ [V.int (rs % 60)]))) := fun x o h => by rw [upd_ne (ne_of_none h hf)]; exact s3 x o h
          have ll : (fs' ++ [rs % 60]).length = fs'.length + 1 := by rw [List.length_append]; rfl
          refine ite2 (fun h => ?_) (fun h => ?_)
          · refine w_break ?_
            exact ⟨_, fs' ++ [rs % 60], _, _, _, _, rfl, g0, g1, by rw [upd_same, ee], by omega, ss⟩
          · exact ⟨fs' ++ [rs % 60], _, _, _, _, rfl, g0, g1, by rw [upd_same, ee], by omega, ss⟩
        · rintro σ H3 ⟨fs', sd', rs, zz, w6, rfl, g0, g1, e3, lf3, s3⟩
          have lf4 : fs'.length ≤ fs.length + 60 := lf3
          exact ⟨_, fs', _, _, _, _, rfl, g0, g1, e3, by omega, s3⟩
      · repeat walk_at "s"
        refine for_range (lo := 0) (n := (4 : Int).toNat) (fun j σ H3 => ∃ (fs' : List Int) (sd' : Int) (v6 : Option V), σ = [some (.ref a), some (.int sd'), some (.ref f), some (.int z), some (.int z), v5, v6] ∧ 0 ≤ sd' ∧ sd' < 2147483647 ∧ H3 f = some (.lst (inz fs')) ∧ fs'.length ≤ fs.length + j ∧ Same H H3) ?_ ?_ ?_
        · exact ⟨fs, _, v6, rfl, Int.emod_nonneg _ (by omega), Int.emod_lt_of_pos _ (by omega), e2, by omega, s2⟩
        · rintro j σ H3 hj ⟨fs', sd', w6, rfl, g0, g1, e3, lf3, s3⟩
          have hj' : j < 4 := hj
          repeat walk_at "s"
          refine w_append e3 ?_ ?_
          · rw [inz_len]; exact big99 (by omega)
          repeat walk_at "s"
          refine ⟨fs' ++ [(sd' * 48271 + z) % 2147483647 / 4096], _, _, rfl, Int.emod_nonneg _ (by omega), Int.emod_lt_of_pos _ (by omega), by rw [upd_same, inz_app]; rfl, by rw [List.length_append, List.length_singleton]; omega, fun x o h => by rw [upd_ne (ne_of_none h hf)]; exact s3 x o h⟩
        · rintro σ H3 ⟨fs', sd', w6, rfl, g0, g1, e3, lf3, s3⟩
          have lf4 : fs'.length ≤ fs.length + 4 := lf3
          exact ⟨_, fs', _, _, _, _, rfl, g0, g1, e3, by omega, s3⟩
    · rintro σ H2 ⟨sd, fs, v3, v4, v5, v6, rfl, hs0, hs1, e2, lf, s2⟩
      rw [List.length_map] at lf
      repeat walk_at "s"
      refine ⟨by walk_at "len", fun p hp => ?_⟩
      have s3 := sm_new (o := .lst [V.int sd]) hp
      have e3 := upd_self2 hp (.lst [V.int sd])
      generalize upd H2 p (.lst [V.int sd]) = H3 at s3 e3 ⊢
      refine w_revL ?_
      repeat walk_at "s"
      refine ⟨f, _, rfl, SqL.of (s3 _ _ e2), fun r hr => ?_⟩
      have s4 := sm_new (o := .lst (inz fs).reverse) hr
      have e4 := upd_self2 hr (.lst (inz fs).reverse)
      generalize upd H3 r (.lst (inz fs).reverse) = H4 at s4 e4 ⊢
      refine ⟨p, r, _, _, rfl, rfl, s4 _ _ e3, e4, ?_, fun p2 hp2 => ?_⟩
      · rw [List.length_reverse, inz_len]
        exact Nat.le_of_lt (big99 (by show 1 + fs.length ≤ _; omega))
      · have s24 := s3.trans s4
        refine q p2 _ ((s2.trans s24).trans (sm_new hp2)) ((s2.trans s24).free hp2) ⟨sd, fs.reverse, ?_, hs0, hs1, by rw [List.length_reverse]; omega⟩
        rw [upd_same]
        unfold inz
        rw [List.map_cons, List.map_reverse]
        rfl
theorem ok_law_draw (T : Top K mg) : FnOk P w K mg base CX0 1 T.f_law_draw T.d_law_draw ["pile", "many"] sp_draw := by
  refine T.F_law_draw.ok sc_law_draw (fun vs H Q E h => ?_) (fun cdv A outer s H vs Q E hr h => ?_)
  · obtain ⟨a, n, rfl, _⟩ := h
    rfl
  · obtain ⟨p, n, rfl, ⟨m, ns, hp, h0, h1, hl⟩, hn, q⟩ := h
    refine ⟨_, (pss_cons (ps_if (pt_cmpR op_gt (pe_callB call_len_seq (by rfl) T.z_len (by decide +kernel) (pa_cons (pv 0) pa_nil)) pe_int (nomark _))
    (pss_one (ps_ret (pe_op op_mod (pe_callTy call_int1 (by rfl) T.z_int (by decide +kernel) (pa_cons (pe_bm0 PySem.F.plainAttrs_list PySem.F.slot_list_pop PySem.F.type_list_pop mt_pop (pv 0)) pa_nil)) (pv 1))))
    pss_nil)
    (pss_cons (ps_asg (pe_op op_mod (pe_callTy call_int1 (by rfl) T.z_int (by decide +kernel) (pa_cons (pe_op op_add (pe_op op_mul (pe_ix ix_list (pv 0) pe_int (fun _ _ => rfl)) pe_int) pe_int) pa_nil)) pe_int) (pg_sub (pv 0) pe_int set_list))
     (pss_one (ps_ret (pe_op op_mod (pe_op op_fdiv (pe_ix ix_list (pv 0) pe_int (fun _ _ => rfl)) pe_int) (pv 1)))))), ?_⟩
    repeat walk_at "s"
    refine ite2 (fun h => ?_) (fun h => ?_)
    · rcases List.eq_nil_or_concat ns with rfl | ⟨ms, y, rfl⟩
      · exact absurd (of_decide_eq_true h) (by show ¬ ((1 : Nat) : Int) > 1; omega)
      · rw [List.concat_eq_append] at hp hl
        have hp' : H p = some (.lst (inz (m :: ms) ++ [V.int y])) := by
          rw [hp, ← List.cons_append, inz_app]
          rfl
        repeat walk_at "s"
        refine q _ _ (Int.emod_nonneg _ (by omega)) (Int.emod_lt_of_pos _ (by omega)) ⟨fun x o e n => by rw [upd_ne n]; exact e, m, ms, upd_same, h0, h1, ?_⟩
        rw [List.length_append] at hl
        omega
    · repeat walk_at "s"
      refine w_ixL (SqL.of hp) (atI_nat (j := 0) rfl) ?_
      repeat walk_at "s"
      refine w_setL hp (j := 0) (by unfold ixN; simp [inz_len]) ?_
      repeat walk_at "s"
      refine w_ixL (SqL.of upd_same) (atI_nat (j := 0) rfl) ?_
      repeat walk_at "s"
      refine q _ _ (Int.emod_nonneg _ (by omega)) (Int.emod_lt_of_pos _ (by omega)) ⟨fun x o e n => by rw [upd_ne n]; exact e, (m * 48271 + 12345) % 2147483647, ns, upd_same, Int.emod_nonneg _ (by omega), Int.emod_lt_of_pos _ (by omega), hl⟩
end
/-! ### names -/
def intIn (lo hi : Int) : V → Bool
  | .int i => decide (lo ≤ i) && decide (i ≤ hi)
  | _ => false
theorem pick_int {xs : List V} {d lo hi : Int} (h0 : 0 ≤ d) (h1 : d < (xs.length : Int)) (hx : xs.all (intIn lo hi) = true) : ∃ i, atI xs d = some (.int i) ∧ lo ≤ i ∧ i ≤ hi := by
  obtain ⟨z, hz, hm⟩ := at_ok h0 h1
  have := List.all_eq_true.mp hx z hm
  cases z with
  | int i =>
    have h := Bool.and_eq_true_iff.mp this
    exact ⟨i, hz, of_decide_eq_true h.1, of_decide_eq_true h.2⟩
  | _ => cases this
theorem abc_all : ∀ k : Fin 26, atI (Str.ofString "abcdefghijklmnopqrstuvwxyz").cps.toList (k.val : Int) = some (97 + k.val) := by decide +kernel
theorem abc_at {d : Int} (h0 : 0 ≤ d) (h1 : d < 26) : atI (Str.ofString "abcdefghijklmnopqrstuvwxyz").cps.toList d = some (97 + d.toNat) := by
  have := abc_all ⟨d.toNat, by omega⟩
  rw [show ((⟨d.toNat, by omega⟩ : Fin 26).val : Int) = d by show ((d.toNat : Nat) : Int) = d; omega] at this
  exact this
def one (x : Nat) : V := .str ⟨#[x]⟩
theorem ones_str (zs : List Nat) : zs.map one = (zs.map fun x => (⟨#[x]⟩ : Str)).map V.str := by rw [List.map_map]; rfl
theorem ones_sum (zs : List Nat) : ((zs.map (fun x => (⟨#[x]⟩ : Str))).map (fun x => x.length)).sum = zs.length := by
  induction zs with
  | nil => rfl
  | cons x r ih => rw [List.map_cons, List.map_cons, List.sum_cons, ih, List.length_cons, Nat.add_comm]; rfl
theorem ones_cd (zs : List Nat) : cd (Txt.join "" (zs.map (fun x => (⟨#[x]⟩ : Str)))) = zs := by
  rw [cd_join0]
  induction zs with
  | nil => rfl
  | cons x r ih => rw [List.map_cons, List.flatMap_cons, ih]; rfl
def nmF (bs : List Nat) (j : Nat) (b s : Int) (i : Nat) : Str := Txt.join "" ((bs.set j (97 + ((b + s * (i : Int)) % 26).toNat)).map (fun x => (⟨#[x]⟩ : Str)))
theorem nmF_nm {bs : List Nat} {j : Nat} {b s : Int} {i : Nat} (h1 : 1 ≤ bs.length) (h2 : bs.length ≤ 8) (ha : ∀ c ∈ bs, 97 ≤ c ∧ c ≤ 122) : Nm (nmF bs j b s i) := by
  have e : cd (nmF bs j b s i) = bs.set j (97 + ((b + s * (i : Int)) % 26).toNat) := ones_cd _
  refine ⟨?_, ?_, ?_⟩
  · rw [cd_len, e, List.length_set]; exact h1
  · rw [cd_len, e, List.length_set]; exact h2
  · rw [e]
    intro c hc
    rcases List.mem_or_eq_of_mem_set hc with h | h
    · exact ha c h
    · subst h
      have h3 := Int.emod_nonneg (b + s * (i : Int)) (show (26 : Int) ≠ 0 by omega)
      have h4 := Int.emod_lt_of_pos (b + s * (i : Int)) (show (0 : Int) < 26 by omega)
      omega
theorem nmF_ne {bs : List Nat} {j : Nat} {b s : Int} (hj : j < bs.length) (h1 : 1 ≤ s) (h2 : s ≤ 25) : nmF bs j b s 0 ≠ nmF bs j b s 1 := by
  intro e
  have e1 : bs.set j (97 + ((b + s * ((0 : Nat) : Int)) % 26).toNat) = bs.set j (97 + ((b + s * ((1 : Nat) : Int)) % 26).toNat) := by
    rw [← ones_cd (bs.set j (97 + ((b + s * ((0 : Nat) : Int)) % 26).toNat)), ← ones_cd (bs.set j (97 + ((b + s * ((1 : Nat) : Int)) % 26).toNat))]
    exact congrArg cd e
  have e2 := congrArg (fun l => l[j]?) e1
  simp only [List.getElem?_set_self hj] at e2
  have e3 := Option.some.inj e2
  rw [show s * ((0 : Nat) : Int) = 0 by simp, show s * ((1 : Nat) : Int) = s by simp] at e3
  have a1 := Int.emod_nonneg (b + 0) (show (26 : Int) ≠ 0 by omega)
  have a2 := Int.emod_nonneg (b + s) (show (26 : Int) ≠ 0 by omega)
  have e4 : (b + 0) % 26 = (b + s) % 26 := by omega
  omega
def sp_names : Sp := fun vs H Q _ => ∃ (p : Addr) (n : Int), vs = [.ref p, .int n] ∧ Pil H p ∧ 2 ≤ n ∧ n ≤ 10 ∧
  ∀ (l : Addr) (f : Nat → Str) (H' : Hp), H l = none → H' l = some (.lst ((List.range n.toNat).map fun i => V.str (f i))) → (∀ i, Nm (f i)) → f 0 ≠ f 1 → Gp p H H' → Q (.ref l) H'
def sp_size : Sp := fun vs H Q _ => ∃ (p : Addr), vs = [.ref p] ∧ Pil H p ∧ ∀ (d : Int) (H' : Hp), 1 ≤ d → d ≤ 64 → Gp p H H' → Q (.int d) H'
section
variable {P : Program} {w : World} {K : PySem.W.Frag} {mg : Str → Option Value} {base : Heap}
theorem ok_law_size (T : Top K mg) : FnOk P w K mg base CX0 2 T.f_law_size T.d_law_size ["pile"] sp_size := by
  refine T.F_law_size.ok sc_law_size (fun vs H Q E h => ?_) (fun cdv A outer s H vs Q E hr h => ?_)
  · obtain ⟨p, rfl, _⟩ := h
    rfl
  · obtain ⟨p, rfl, hp, q⟩ := h
    refine ⟨_, (pss_cons (ps_if (pt_cmpR op_eq (pe_call (ok_law_draw T) hr (by rfl) T.g_law_draw T.F_law_draw.kp T.b_law_draw .nil pass0 (pa_cons (pv 0) (pa_cons pe_int pa_nil))) pe_int (nomark _))
    (pss_one (ps_ret (pe_op op_add pe_int (pe_call (ok_law_draw T) hr (by rfl) T.g_law_draw T.F_law_draw.kp T.b_law_draw .nil pass0 (pa_cons (pv 0) (pa_cons pe_int pa_nil))))))
    pss_nil)
    (pss_one (ps_ret (pe_op op_add pe_int (pe_op op_mod (pe_callTy call_int1 (by rfl) T.z_int (by decide +kernel) (pa_cons (pe_op op_add (pe_op op_mul (pe_call (ok_law_draw T) hr (by rfl) T.g_law_draw T.F_law_draw.kp T.b_law_draw .nil pass0 (pa_cons (pv 0) (pa_cons pe_int pa_nil))) pe_int) (pe_call (ok_law_draw T) hr (by rfl) T.g_law_draw T.F_law_draw.kp T.b_law_draw .nil pass0 (pa_cons (pv 0) (pa_cons pe_int pa_nil)))) pa_nil)) pe_int))))), ?_⟩
    repeat walk_at "s"
    refine ⟨p, 2, rfl, hp, by omega, fun d H1 d0 d1 g1 => ?_⟩
    repeat walk_at "s"
    refine ite2 (fun h => ?_) (fun h => ?_)
    · repeat walk_at "s"
      refine ⟨p, 4, rfl, g1.pl, by omega, fun d2 H2 e0 e1 g2 => ?_⟩
      repeat walk_at "s"
      exact q _ _ (by omega) (by omega) (g1.trans g2)
    · repeat walk_at "s"
      refine ⟨p, 60, rfl, g1.pl, by omega, fun d2 H2 e0 e1 g2 => ?_⟩
      repeat walk_at "s"
      refine ⟨p, 60, rfl, g2.pl, by omega, fun d3 H3 f0 f1 g3 => ?_⟩
      repeat walk_at "s"
      exact q _ _ (by have := Int.emod_nonneg (d2 * 60 + d3) (show (64 : Int) ≠ 0 by omega); omega) (by have := Int.emod_lt_of_pos (d2 * 60 + d3) (show (0 : Int) < 64 by omega); omega) ((g1.trans g2).trans g3)
theorem ok_law_names (T : Top K mg) : FnOk P w K mg base CX0 2 T.f_law_names T.d_law_names ["pile", "many"] sp_names := by
  refine T.F_law_names.ok sc_law_names (fun vs H Q E h => ?_) (fun cdv A outer s H vs Q E hr h => ?_)
  · obtain ⟨p, n, rfl, _⟩ := h
    rfl
  · obtain ⟨p, n, rfl, hp, hn1, hn2, q⟩ := h
    refine ⟨_, (pss_cons (ps_set (i := 2) sc_law_names.nd rfl (Or.inr rfl) pe_str)
    (pss_cons (ps_setLc (i := 3) (own := [("k", 4)]) (g := gName 4) (by rfl) sc_law_names.nd rfl rfl (sw_true rfl rfl rfl (by decide +kernel)) (pi_range1 (by rfl) T.z_range (pa_cons (pe_op op_add pe_int (pe_call (ok_law_draw T) hr (by rfl) T.g_law_draw T.F_law_draw.kp T.b_law_draw .nil pass0 (pa_cons (pv 0) (pa_cons pe_int pa_nil)))) pa_nil)) (blkOk_by (own := [("k", 4)]) (N := N_law_names) (sc := defScope s_law_names) (by decide +kernel)) (fun _ _ _ _ _ => (pg_name (i := 4) sc_law_names.nd rfl (Or.inl rfl))) (fun _ _ _ _ _ => pts_nil) (fun _ _ _ _ _ => (pe_ix ix_str (pv 2) (pe_call (ok_law_draw T) hr (by rfl) T.g_law_draw T.F_law_draw.kp T.b_law_draw .nil pass0 (pa_cons (pv 0) (pa_cons pe_int pa_nil))) (fun _ _ => rfl))))
     (pss_cons (ps_set (i := 5) sc_law_names.nd rfl (Or.inl rfl) (pe_call (ok_law_draw T) hr (by rfl) T.g_law_draw T.F_law_draw.kp T.b_law_draw .nil pass0 (pa_cons (pv 0) (pa_cons (pe_callB call_len_seq (by rfl) T.z_len (by decide +kernel) (pa_cons (pv 3) pa_nil)) pa_nil))))
      (pss_cons (ps_set (i := 6) sc_law_names.nd rfl (Or.inl rfl) (pe_call (ok_law_draw T) hr (by rfl) T.g_law_draw T.F_law_draw.kp T.b_law_draw .nil pass0 (pa_cons (pv 0) (pa_cons pe_int pa_nil))))
       (pss_cons (ps_set (i := 7) sc_law_names.nd rfl (Or.inl rfl) (pe_ix ix_list (pe_lst (pa_cons pe_int (pa_cons pe_int (pa_cons pe_int (pa_cons pe_int (pa_cons pe_int (pa_cons pe_int (pa_cons pe_int (pa_cons pe_int (pa_cons pe_int (pa_cons pe_int (pa_cons pe_int (pa_cons pe_int pa_nil))))))))))))) (pe_call (ok_law_draw T) hr (by rfl) T.g_law_draw T.F_law_draw.kp T.b_law_draw .nil pass0 (pa_cons (pv 0) (pa_cons pe_int pa_nil))) (fun _ _ => rfl)))
        (pss_cons (ps_set (i := 8) sc_law_names.nd rfl (Or.inl rfl) (pe_lst pa_nil))
         (pss_cons (ps_for PassesOwn.never rfl (pi_range1 (by rfl) T.z_range (pa_cons (pv 1) pa_nil)) (pg_name (i := 4) sc_law_names.nd rfl (Or.inl rfl))
          (pss_cons (ps_asg (pe_ix ix_str (pv 2) (pe_op op_mod (pe_callTy call_int1 (by rfl) T.z_int (by decide +kernel) (pa_cons (pe_op op_add (pv 6) (pe_op op_mul (pv 7) (pv 4))) pa_nil)) pe_int) (fun _ _ => rfl)) (pg_sub (pv 3) (pv 5) set_list))
           (pss_one (ps_expr (pe_bm PySem.F.plainAttrs_list PySem.F.slot_list_append PySem.F.type_list_append mt_append (pv 8) (pa_cons (pe_join pe_str (pv 3)) pa_nil))))))
          (pss_one (ps_ret (pv 8)))))))))), ?_⟩
    repeat walk_at "s"
    refine ⟨p, 8, rfl, hp, by omega, fun d H1 d0 d1 g1 => ?_⟩
    repeat walk_at "s"
    intro D hD
    have hD0 := g1.un hD
    have nDp := g1.pl.ne hD
    refine lc_range (lo := 0) (n := (1 + d).toNat) (fun i H2 => ∃ bs : List Nat, H2 D = some (.lst (bs.map one)) ∧ bs.length = i ∧ (∀ c ∈ bs, 97 ≤ c ∧ c ≤ 122) ∧ Gp p H H2) ⟨[], upd_same, rfl, (by simp), g1.same (sm_new hD)⟩ ?_ ?_
    · rintro i H2 hi ⟨bs, e, hl, ha, g2⟩
      repeat walk_at "s"
      refine ⟨p, 26, rfl, g2.pl, by omega, fun d2 H3 e0 e1 g3 => ?_⟩
      refine ⟨_, d2, _, rfl, rfl, by decide +kernel, abc_at e0 e1, ?_⟩
      refine ⟨_, g3.at e nDp, ?_, bs ++ [97 + d2.toNat], ?_, ?_, ?_, (g2.trans g3).mut hD0 nDp⟩
      · rw [List.length_map]; exact big99 (by omega)
      · rw [upd_same, List.map_append]; rfl
      · rw [List.length_append, hl]; rfl
      · intro c hc
        rcases List.mem_append.mp hc with h | h
        · exact ha c h
        · cases List.mem_singleton.mp h; omega
    · rintro H2 ⟨bs, e, hl, ha, g2⟩
      have hb1 : 1 ≤ bs.length := by omega
      have hb8 : bs.length ≤ 8 := by omega
      have hlb : ((bs.map one).length : Int) = (bs.length : Int) := by rw [List.length_map]
      repeat walk_at "s"
      rw [hlb]
      refine ⟨p, bs.length, rfl, g2.pl, by omega, fun sp H3 sp0 sp1 g3 => ?_⟩
      repeat walk_at "s"
      refine ⟨p, 26, rfl, g3.pl, by omega, fun b H4 b0 b1 g4 => ?_⟩
      have g34 := g3.trans g4
      repeat walk_at "s"
      refine ⟨by walk_at "len", fun sl hsl => ?_⟩
      have s5 := sm_new (o := .lst [.int 1, .int 3, .int 5, .int 7, .int 9, .int 11, .int 15, .int 17, .int 19, .int 21, .int 23, .int 25]) hsl
      have e5 := upd_self2 hsl (.lst [.int 1, .int 3, .int 5, .int 7, .int 9, .int 11, .int 15, .int 17, .int 19, .int 21, .int 23, .int 25])
      have nsl := g4.pl.ne hsl
      generalize upd H4 sl (.lst [.int 1, .int 3, .int 5, .int 7, .int 9, .int 11, .int 15, .int 17, .int 19, .int 21, .int 23, .int 25]) = H5 at s5 e5 ⊢
      repeat walk_at "s"
      refine ⟨p, 12, rfl, g4.pl.same s5, by omega, fun d6 H6 d60 d61 g6 => ?_⟩
      obtain ⟨st, hst, st0, st1⟩ := pick_int (lo := 1) (hi := 25) d60 d61 (xs := [.int 1, .int 3, .int 5, .int 7, .int 9, .int 11, .int 15, .int 17, .int 19, .int 21, .int 23, .int 25]) (by decide +kernel)
      refine w_ixL (SqL.of (g6.at e5 nsl)) hst ?_
      have g36 := (g34.same s5).trans g6
      have eD := g36.at e nDp
      repeat walk_at "s"
      refine ⟨by walk_at "len", fun F hF => ?_⟩
      have nFp := g6.pl.ne hF
      have g26 := g2.trans g36
      have hF0 := g26.un hF
      have nDF : D ≠ F := ne_of_none eD hF
      repeat walk_at "s"
      refine for_range (lo := 0) (n := n.toNat) (fun i σ H7 => ∃ (bs' : List Nat) (v7 : Option V), σ = [some (.ref p), some (.int n), some (.str (Str.ofString "abcdefghijklmnopqrstuvwxyz")), some (.ref D), v7, some (.int sp), some (.int b), some (.int st), some (.ref F)] ∧ H7 D = some (.lst (bs'.map one)) ∧ bs'.length = bs.length ∧ (∀ c, bs'.set sp.toNat c = bs.set sp.toNat c) ∧ H7 F = some (.lst ((List.range i).map fun i => V.str (nmF bs sp.toNat b st i))) ∧ Gp p H H7) ?_ ?_ ?_
      · exact ⟨bs, none, rfl, by rw [upd_ne nDF]; exact eD, rfl, fun c => rfl, upd_same, g26.same (sm_new hF)⟩
      · rintro i σ H7 hi ⟨bs', v7, rfl, eD7, lb7, hset, eF7, g7⟩
        repeat walk_at "s"
        have ei : b + st * (0 + (i : Int)) = b + st * (i : Int) := by rw [Int.zero_add]
        rw [ei]
        have x0 := Int.emod_nonneg (b + st * (i : Int)) (show (26 : Int) ≠ 0 by omega)
        have x1 := Int.emod_lt_of_pos (b + st * (i : Int)) (show (0 : Int) < 26 by omega)
        refine ⟨_, _, _, rfl, rfl, by decide +kernel, abc_at x0 x1, ?_⟩
        repeat walk_at "s"
        refine w_setL eD7 (j := sp.toNat) (by unfold ixN; rw [List.length_map, lb7, if_pos sp0, if_pos sp1]) ?_
        have eD8 : upd H7 D (.lst ((bs'.map one).set sp.toNat (V.str ⟨#[97 + ((b + st * (i : Int)) % 26).toNat]⟩))) D = some (.lst ((bs.set sp.toNat (97 + ((b + st * (i : Int)) % 26).toNat)).map one)) := by
          rw [upd_same, ← hset, List.map_set]
          rfl
        have eF8 : upd H7 D (.lst ((bs'.map one).set sp.toNat (V.str ⟨#[97 + ((b + st * (i : Int)) % 26).toNat]⟩))) F = some (.lst ((List.range i).map fun i => V.str (nmF bs sp.toNat b st i))) := by
          rw [upd_ne nDF.symm]; exact eF7
        have g8 : Gp p H (upd H7 D (.lst ((bs'.map one).set sp.toNat (V.str ⟨#[97 + ((b + st * (i : Int)) % 26).toNat]⟩)))) := g7.mut hD0 nDp
        generalize upd H7 D (.lst ((bs'.map one).set sp.toNat (V.str ⟨#[97 + ((b + st * (i : Int)) % 26).toNat]⟩))) = H8 at eD8 eF8 g8 ⊢
        repeat walk_at "s"
        refine w_join (ys := (bs.set sp.toNat (97 + ((b + st * (i : Int)) % 26).toNat)).map (fun x => (⟨#[x]⟩ : Str))) (SqL.of (by rw [eD8, ones_str])) ?_ ?_
        · rw [ones_sum, List.length_set, show ("" : Str).length = 0 from rfl]; omega
        repeat walk_at "s"
        refine w_append eF8 ?_ ?_
        · rw [List.length_map, List.length_range]; exact big99 (by omega)
        repeat walk_at "s"
        refine ⟨bs.set sp.toNat (97 + ((b + st * (i : Int)) % 26).toNat), _, rfl, by rw [upd_ne nDF]; exact eD8, List.length_set, fun c => List.set_set .., ?_, g8.mut hF0 nFp⟩
        rw [upd_same, List.range_succ, List.map_append]
        rfl
      · rintro σ H7 ⟨bs', v7, rfl, eD7, lb7, hset, eF7, g7⟩
        repeat walk_at "s"
        exact q F _ H7 hF0 eF7 (fun i => nmF_nm hb1 hb8 ha) (nmF_ne (by omega) st0 st1) g7
end
/-! ### what is asked, what is said -/
def Dq : Nat → PyData → Prop
  | 0, _ => False
  | n + 1, d => (∃ z, d = .str z) ∨ (∃ i, d = .int i) ∨ d = .none ∨ ∃ ds, d = .tuple ds ∧ ds.length ≤ 2000 ∧ ∀ e ∈ ds, Dq n e
def sp_whole : Sp := fun vs H Q _ => ∃ i : Int, vs = [.int i] ∧ Q (.bl true) H
def sp_same (n : Nat) : Sp := fun vs H Q _ => ∃ x y : V, vs = [x, y] ∧ ((∃ a b : Str, x = .str a ∧ y = .str b ∧ 1 ≤ n ∧ Q (.bl (decide (a = b))) H) ∨ ∃ d : PyData, DAt H x d ∧ DAt H y d ∧ Dq n d ∧ ∀ H', Same H H' → Q (.bl true) H')
def spNo : Sp := fun _ _ _ _ => False
theorem DsAt.both {H : Hp} : ∀ {xs ys : List V} {ds : List PyData} {i : Nat}, DsAt H xs ds → DsAt H ys ds → i < ds.length → ∃ x y d, xs[i]? = some x ∧ ys[i]? = some y ∧ ds[i]? = some d ∧ DAt H x d ∧ DAt H y d
  | _, _, _, 0, .cons h _, .cons g _, _ => ⟨_, _, _, rfl, rfl, rfl, h, g⟩
  | _, _, _, i + 1, .cons _ h, .cons _ g, hi => DsAt.both (i := i) h g (Nat.lt_of_succ_lt_succ hi)
  | _, _, _, _, .nil, _, hi => absurd hi (Nat.not_lt_zero _)
section
variable {σ : L2.St} {H : Hp} {Q : VK} {D : Ends} {K : PySem.W.Frag}
theorem isi_nt (q : Q (.bl false) H) : rIsi K [.non, .ty "tuple"] H Q := ⟨_, _, _, _, false, rfl, .ty _, .base .non, kit_ty (by decide +kernel), q⟩
theorem w_notV {t : TE} (q : t σ H fun x H1 => ∃ k, x = .bl k ∧ Q (.bl (!k)) H1) : tNotV t σ H Q := q
end
section
variable {P : Program} {w : World} {K : PySem.W.Frag} {mg : Str → Option Value} {base : Heap}
theorem ok_law_whole (T : Top K mg) : FnOk P w K mg base CX0 1 T.f_law_whole T.d_law_whole ["actual"] sp_whole := by
  refine T.F_law_whole.ok sc_law_whole (fun vs H Q E h => ?_) (fun cdv A outer s H vs Q E hr h => ?_)
  · obtain ⟨i, rfl, _⟩ := h
    rfl
  · obtain ⟨i, rfl, q⟩ := h
    refine ⟨_, (pss_one (ps_ret (pe_and (pe_callB call_isi (by rfl) T.z_isinstance (by decide +kernel) (pa_cons (pv 0) (pa_cons (pe_bltn (v := .ty "int") (by rfl) T.z_int (by decide +kernel) rfl) pa_nil))) (pe_one (pe_not (pe_callB call_isi (by rfl) T.z_isinstance (by decide +kernel) (pa_cons (pv 0) (pa_cons (pe_bltn (v := .ty "bool") (by rfl) T.z_bool (by decide +kernel) rfl) pa_nil)))))))), ?_⟩
    repeat walk_at "s"
    refine w_notV ?_
    repeat walk_at "s"
    exact q
theorem same_step (T : Top K mg) (k n : Nat) (spr : Sp) (ih : FnOk P w K mg base CX0 (k + 1) T.f_law_same T.d_law_same ["actual", "expected"] spr) (hn : ∀ m, n = m + 1 → spr = sp_same m) : FnOk P w K mg base CX0 (k + 2) T.f_law_same T.d_law_same ["actual", "expected"] (sp_same n) := by
  refine T.F_law_same.ok sc_law_same (fun vs H Q E h => ?_) (fun cdv A outer s H vs Q E hr h => ?_)
  · obtain ⟨x, y, rfl, _⟩ := h
    rfl
  · obtain ⟨x, y, rfl, h⟩ := h
    refine ⟨_, (pss_cons (ps_if (pt_val (pe_callB call_isi (by rfl) T.z_isinstance (by decide +kernel) (pa_cons (pv 1) (pa_cons (pe_bltn (v := .ty "tuple") (by rfl) T.z_tuple (by decide +kernel) rfl) pa_nil))))
    (pss_cons (ps_if (PW.pt (pw_or (pt_not (pt_val (pe_callB call_isi (by rfl) T.z_isinstance (by decide +kernel) (pa_cons (pv 0) (pa_cons (pe_bltn (v := .ty "tuple") (by rfl) T.z_tuple (by decide +kernel) rfl) pa_nil))))) (pw_or1 (pt_cmpR op_ne (pe_callB call_len_seq (by rfl) T.z_len (by decide +kernel) (pa_cons (pv 0) pa_nil)) (pe_callB call_len_seq (by rfl) T.z_len (by decide +kernel) (pa_cons (pv 1) pa_nil)) (nomark _)))))
     (pss_one (ps_ret pe_bl))
     pss_nil)
     (pss_one (ps_ret (pe_callB (cr_all rfl) (by rfl) T.z_all (by decide +kernel) (pa_cons (pe_lc (own := [("k", 2)]) (g := gName 2) (by rfl) sc_law_same.nd (pi_range1 (by rfl) T.z_range (pa_cons (pe_callB call_len_seq (by rfl) T.z_len (by decide +kernel) (pa_cons (pv 1) pa_nil)) pa_nil)) (blkOk_by (own := [("k", 2)]) (N := N_law_same) (sc := defScope s_law_same) (by decide +kernel)) (fun _ _ _ _ _ => (pg_name (i := 2) sc_law_same.nd rfl (Or.inl rfl))) (fun _ _ _ _ _ => pts_nil) (fun _ _ _ _ _ => (pe_call ih hr (by rfl) T.g_law_same T.F_law_same.kp T.b_law_same .nil pass0 (pa_cons (pe_ix (r := rIxT K) ix_tup (pv 0) (pv 2) (fun _ _ => rfl)) (pa_cons (pe_ix (r := rIxT K) ix_tup (pv 1) (pv 2) (fun _ _ => rfl)) pa_nil))))) pa_nil)))))
    pss_nil)
    (pss_cons (ps_if (pt_cmpR op_isN (pv 1) pe_non (nomark _))
     (pss_one (ps_ret (pe_cmpR op_isN (pv 0) pe_non (nomark _))))
     pss_nil)
     (pss_cons (ps_if (pt_val (pe_callB call_isi (by rfl) T.z_isinstance (by decide +kernel) (pa_cons (pv 1) (pa_cons (pe_bltn (v := .ty "str") (by rfl) T.z_str (by decide +kernel) rfl) pa_nil))))
      (pss_one (ps_ret (pe_and (pe_callB call_isi (by rfl) T.z_isinstance (by decide +kernel) (pa_cons (pv 0) (pa_cons (pe_bltn (v := .ty "str") (by rfl) T.z_str (by decide +kernel) rfl) pa_nil))) (pe_one (pe_cmpR op_eq (pv 0) (pv 1) (nomark _))))))
      pss_nil)
      (pss_cons (ps_if (pt_val (pe_callB call_isi (by rfl) T.z_isinstance (by decide +kernel) (pa_cons (pv 1) (pa_cons (pe_bltn (v := .ty "bool") (by rfl) T.z_bool (by decide +kernel) rfl) pa_nil))))
       (pss_one (ps_ret (pe_and (pe_callB call_isi (by rfl) T.z_isinstance (by decide +kernel) (pa_cons (pv 0) (pa_cons (pe_bltn (v := .ty "bool") (by rfl) T.z_bool (by decide +kernel) rfl) pa_nil))) (pe_one (pe_cmpR op_eq (pv 0) (pv 1) (nomark _))))))
       pss_nil)
       (pss_one (ps_ret (pe_and (pe_call (ok_law_whole T) (hr.mono (by omega)) (by rfl) T.g_law_whole T.F_law_whole.kp T.b_law_whole .nil pass0 (pa_cons (pv 0) pa_nil)) (pe_one (pe_cmpR op_eq (pv 0) (pv 1) (nomark _)))))))))), ?_⟩
    rcases h with ⟨a, b, rfl, rfl, -, q⟩ | ⟨d, hx, hy, hq, q⟩
    · repeat walk_at "s"
      rw [decide_eq_false (fun h => by cases h)]
      refine iteF ?_
      repeat walk_at "s"
      exact q
    · obtain ⟨m, rfl⟩ : ∃ m, n = m + 1 := by
        cases n with
        | zero => cases hq
        | succ m => exact ⟨m, rfl⟩
      have e := hn m rfl
      subst e
      rcases hq with ⟨z, rfl⟩ | ⟨z, rfl⟩ | rfl | ⟨ds, rfl, hl, ha⟩
      · cases hx
        cases hy
        repeat walk_at "s"
        rw [decide_eq_false (fun h => by cases h)]
        refine iteF ?_
        repeat walk_at "s"
        rw [decide_eq_true rfl]
        exact q H (Same.refl H)
      · cases hx
        cases hy
        repeat walk_at "s"
        rw [decide_eq_false (fun h => by cases h)]
        refine iteF ?_
        repeat walk_at "s"
        refine ⟨z, rfl, ?_⟩
        repeat walk_at "s"
        rw [decide_eq_true rfl]
        exact q H (Same.refl H)
      · cases hx
        cases hy
        repeat walk_at "s"
        refine isi_nt ?_
        repeat walk_at "s"
        rw [decide_eq_true rfl]
        refine iteT ?_
        repeat walk_at "s"
        rw [decide_eq_true rfl]
        exact q H (Same.refl H)
      · cases hx with
        | @tup xa xvs _ hxa hxs =>
        cases hy with
        | @tup ya yvs _ hya hys =>
        have lx := hxs.length
        have ly := hys.length
        repeat walk_at "s"
        refine iteF ?_
        repeat walk_at "s"
        rw [show (!decide ((xvs.length : Int) = (yvs.length : Int))) = false by rw [lx, ly, decide_eq_true rfl]; rfl]
        refine iteF ?_
        have hys5 : yvs.length ≤ 2000 := by rw [ly]; exact hl
        repeat walk_at "s"
        intro D hD
        refine lc_range (lo := 0) (n := ((yvs.length : Int)).toNat) (fun i H2 => H2 D = some (.lst ((List.replicate i true).map V.bl)) ∧ Same H H2) ⟨upd_same, sm_new hD⟩ ?_ ?_
        · rintro i H2 hi ⟨e2, s2⟩
          have hiy : i < ds.length := by omega
          obtain ⟨x, y, e, hx1, hy1, he, hx3, hy3⟩ := DsAt.both hxs hys hiy
          repeat walk_at "s"
          refine w_ixT (SqT.of (s2 _ _ hxa)) (by rw [show (0 : Int) + (i : Int) = (i : Int) by omega]; exact atI_nat hx1) ?_
          repeat walk_at "s"
          refine w_ixT (SqT.of (s2 _ _ hya)) (by rw [show (0 : Int) + (i : Int) = (i : Int) by omega]; exact atI_nat hy1) ?_
          refine ⟨x, y, rfl, .inr ⟨e, hx3.mono (Tk.same s2), hy3.mono (Tk.same s2), ha e (List.mem_of_getElem? he), fun H3 s3 => ?_⟩⟩
          refine ⟨_, s3 _ _ e2, ?_, ?_, fun b o h => ?_⟩
          · rw [List.length_map, List.length_replicate]; exact big99 (by omega)
          · rw [upd_same, List.replicate_succ', List.map_append]; rfl
          · rw [upd_ne (ne_of_none h hD)]; exact s3 _ _ (s2 _ _ h)
        · rintro H2 ⟨e2, s2⟩
          repeat walk_at "s"
          refine ⟨D, _, rfl, SqL.of e2, ?_⟩
          rw [show ((List.replicate ((yvs.length : Int)).toNat true).all id) = true by rw [List.all_eq_true]; intro b hb; exact (List.mem_replicate.mp hb).2]
          exact q H2 s2
theorem ok_law_same (T : Top K mg) : ∀ n : Nat, FnOk P w K mg base CX0 (n + 2) T.f_law_same T.d_law_same ["actual", "expected"] (sp_same n)
  | 0 => same_step T 0 0 spNo (T.F_law_same.ok sc_law_same (fun _ _ _ _ h => h.elim) (fun _ _ _ _ _ _ _ _ _ h => h.elim)) (fun _ h => by cases h)
  | n + 1 => same_step T (n + 1) (n + 1) (sp_same n) (ok_law_same T n) (fun m h => by cases h; rfl)
end
/-! ### a tunnel -/
structure TS where
  win : Int
  n1 : Str
  n2 : Str
  ls : List (Int × Int × Str)
  ep : Int
  snt : Int
  nw : Int
  c0 : List Int
  c1 : List Int
  t0 : Int
  t1 : Int
  rc : List Int
structure TD where
  p : Addr
  dx : Addr
  lt : Addr
  cs : Addr
  d0 : Addr
  d1 : Addr
  ts : Addr
  rv : Addr
def tfs (a : TD) (S : TS) : List (Str × V) := [("window", .int S.win), ("first", .str S.n1), ("second", .str S.n2), ("_letters", .ref a.lt), ("_epoch", .int S.ep), ("_sent", .int S.snt), ("_newest", .int S.nw), ("_counts", .ref a.cs), ("_tops", .ref a.ts), ("_received", .ref a.rv)]
def ld (x : Int × Int × Str) : PyData := .tuple [.int x.1, .int x.2.1, .str x.2.2]
theorem ld_at {H : Hp} {v : V} {x : Int × Int × Str} (h : DAt H v (ld x)) : ∃ q, v = .ref q ∧ H q = some (.tup [.int x.1, .int x.2.1, .str x.2.2]) := by
  unfold ld at h
  cases h with
  | @tup q vs _ hq hs =>
    cases hs with
    | cons h1 hs => cases h1; cases hs with
      | cons h2 hs => cases h2; cases hs with
        | cons h3 hs => cases h3; cases hs; exact ⟨q, rfl, hq⟩
theorem ld_get {H : Hp} {us : List V} {ls : List (Int × Int × Str)} {n : Nat} {x : Int × Int × Str} (d : DsAt H us (ls.map ld)) (hn : ls[n]? = some x) : ∃ q, us[n]? = some (.ref q) ∧ H q = some (.tup [.int x.1, .int x.2.1, .str x.2.2]) := by
  have l := d.length
  rw [List.length_map] at l
  have hnl := (List.getElem?_eq_some_iff.mp hn).1
  obtain ⟨e, h1, h2⟩ := d.get (List.getElem?_eq_getElem (show n < us.length by omega))
  rw [List.getElem?_map, hn] at h1
  cases h1
  obtain ⟨q, h3, h4⟩ := ld_at h2
  exact ⟨q, by rw [List.getElem?_eq_getElem (show n < us.length by omega), h3], h4⟩
def kz (c : List Int) : List (L2.Key × V) := c.map fun n => (Sum.inl n, .bl true)
theorem kz_val (c : List Int) (n : Int) : (valV (kz c) (Sum.inl n)).isSome = decide (n ∈ c) := by
  unfold kz valV
  induction c with
  | nil => rfl
  | cons m r ih =>
    rw [List.map_cons, List.find?_cons]
    by_cases h : m = n
    · subst h
      simp
    · rw [show (decide ((Sum.inl m : L2.Key) = Sum.inl n)) = false from decide_eq_false (fun e => h (Sum.inl.inj e))]
      simp only []
      rw [ih]
      simp [Ne.symm h]
theorem kz_put (c : List Int) (n : Int) (h : n ∉ c) : putK (kz c) (Sum.inl n) (.bl true) = kz (c ++ [n]) := by
  have e : ((kz c).any fun kv => decide (kv.1 = Sum.inl n)) = false := by
    rw [List.any_eq_false]
    intro kv hkv
    obtain ⟨m, hm, rfl⟩ := List.mem_map.mp hkv
    intro q
    exact h ((Sum.inl.inj (of_decide_eq_true q)) ▸ hm)
  unfold putK
  rw [e, if_neg (by decide)]
  unfold kz
  rw [List.map_append]
  rfl
structure Tun (C : Addr) (a : TD) (H : Hp) (S : TS) : Prop where
  ins : H a.p = some (.ins C a.dx (tfs a S))
  lt : ∃ us, H a.lt = some (.lst us) ∧ DsAt H us (S.ls.map ld)
  cs : H a.cs = some (.tup [.ref a.d0, .ref a.d1])
  e0 : H a.d0 = some (.dK (kz S.c0))
  e1 : H a.d1 = some (.dK (kz S.c1))
  ts : H a.ts = some (.tup [.int S.t0, .int S.t1])
  rv : H a.rv = some (.lst (inz S.rc))
  nd : a.d0 ≠ a.d1
  nl : a.lt ≠ a.rv
def ft (a : TD) : List Addr := [a.p, a.lt, a.d0, a.d1, a.rv]
def Frm (F : List Addr) (H H' : Hp) : Prop := ∀ x o, H x = some o → x ∉ F → H' x = some o
def Own (F : List Addr) (H : Hp) (F' : List Addr) : Prop := ∀ x ∈ F', x ∈ F ∨ H x = none
theorem Frm.same {F : List Addr} {H H' : Hp} (s : Same H H') : Frm F H H' := fun x o h _ => s x o h
theorem Frm.trans {F F' : List Addr} {H H1 H2 : Hp} (a : Frm F H H1) (b : Frm F' H1 H2) (o : Own F H F') : Frm F H H2 := fun x u h n => b x u (a x u h n) fun hx => (o x hx).elim n (fun e => by rw [h] at e; cases e)
theorem Own.refl (F : List Addr) (H : Hp) : Own F H F := fun x h => .inl h
theorem Own.trans {F F1 F2 : List Addr} {H H1 : Hp} (a : Own F H F1) (f : Frm F H H1) (b : Own F1 H1 F2) : Own F H F2 := fun x hx => by
  rcases b x hx with h | h
  · exact a x h
  · by_cases hF : x ∈ F
    · exact .inl hF
    · refine .inr ?_
      cases e : H x with
      | none => rfl
      | some o => rw [f x o e hF] at h; cases h
section
variable {C : Addr} {a b : TD} {H H' : Hp} {S : TS} {F : List Addr}
theorem Tun.notup (T : Tun C a H S) : ∀ x ∈ ft a, ∀ vs, H x ≠ some (.tup vs) := by
  obtain ⟨us, h, _⟩ := T.lt
  intro x hx vs e
  simp only [ft, List.mem_cons, List.not_mem_nil, or_false] at hx
  rcases hx with rfl | rfl | rfl | rfl | rfl
  · rw [T.ins] at e; cases e
  · rw [h] at e; cases e
  · rw [T.e0] at e; cases e
  · rw [T.e1] at e; cases e
  · rw [T.rv] at e; cases e
theorem Tun.there (T : Tun C a H S) : ∀ x ∈ ft a, H x ≠ none := by
  obtain ⟨us, h, _⟩ := T.lt
  intro x hx e
  simp only [ft, List.mem_cons, List.not_mem_nil, or_false] at hx
  rcases hx with rfl | rfl | rfl | rfl | rfl
  · rw [T.ins] at e; cases e
  · rw [h] at e; cases e
  · rw [T.e0] at e; cases e
  · rw [T.e1] at e; cases e
  · rw [T.rv] at e; cases e
theorem Tun.frame (T : Tun C b H S) (f : Frm F H H') (dj : ∀ x ∈ ft b, x ∉ F) (nt : ∀ x ∈ F, ∀ vs, H x ≠ some (.tup vs)) : Tun C b H' S := by
  obtain ⟨us, h, d⟩ := T.lt
  have tk : Tk H H' := fun x vs hx => f x _ hx fun hF => nt x hF vs hx
  have go : ∀ x ∈ ft b, ∀ o, H x = some o → H' x = some o := fun x hx o e => f x o e (dj x hx)
  exact ⟨go _ (by simp [ft]) _ T.ins, ⟨us, go _ (by simp [ft]) _ h, d.mono tk⟩, tk _ _ T.cs, go _ (by simp [ft]) _ T.e0, go _ (by simp [ft]) _ T.e1, tk _ _ T.ts, go _ (by simp [ft]) _ T.rv, T.nd, T.nl⟩
theorem Tun.same (T : Tun C b H S) (s : Same H H') : Tun C b H' S := T.frame (F := []) (Frm.same s) (fun _ _ h => by cases h) (fun _ h => by cases h)
theorem Tun.pl (T : Tun C a H S) : a.p ≠ a.lt ∧ a.p ≠ a.d0 ∧ a.p ≠ a.d1 ∧ a.p ≠ a.rv ∧ a.lt ≠ a.d0 ∧ a.lt ≠ a.d1 ∧ a.rv ≠ a.d0 ∧ a.rv ≠ a.d1 := by
  obtain ⟨us, h, _⟩ := T.lt
  exact ⟨ne_of T.ins h (by intro z; cases z), ne_of T.ins T.e0 (by intro z; cases z), ne_of T.ins T.e1 (by intro z; cases z), ne_of T.ins T.rv (by intro z; cases z), ne_of h T.e0 (by intro z; cases z), ne_of h T.e1 (by intro z; cases z), ne_of T.rv T.e0 (by intro z; cases z), ne_of T.rv T.e1 (by intro z; cases z)⟩
end
theorem Tun.ui {C : Addr} {a : TD} {H : Hp} {S S' : TS} (U : Tun C a H S) (h1 : S'.ls = S.ls) (h2 : S'.c0 = S.c0) (h3 : S'.c1 = S.c1) (h4 : S'.t0 = S.t0) (h5 : S'.t1 = S.t1) (h6 : S'.rc = S.rc) : Tun C a (upd H a.p (.ins C a.dx (tfs a S'))) S' := by
  obtain ⟨us, hus, dus⟩ := U.lt
  obtain ⟨p1, p2, p3, p4, _⟩ := U.pl
  have tk : Tk H (upd H a.p (.ins C a.dx (tfs a S'))) := Tk.upd fun vs e => by rw [U.ins] at e; cases e
  refine ⟨upd_same, ⟨us, by rw [upd_ne p1.symm]; exact hus, by rw [h1]; exact dus.mono tk⟩, tk _ _ U.cs, ?_, ?_, ?_, ?_, U.nd, U.nl⟩
  · rw [upd_ne p2.symm, h2]; exact U.e0
  · rw [upd_ne p3.symm, h3]; exact U.e1
  · rw [h4, h5]; exact tk _ _ U.ts
  · rw [upd_ne p4.symm, h6]; exact U.rv
theorem frm_p {a : TD} {H H' : Hp} {o : HO} (f : Frm (ft a) H H') : Frm (ft a) H (upd H' a.p o) := fun x u h n => by
  rw [upd_ne (fun e => n (by rw [e]; simp [ft]))]
  exact f x u h n
theorem one_lt (x y : Nat) : ([x] < [y]) ↔ x < y := by
  rw [List.cons_lt_cons_iff]
  constructor
  · rintro (h | ⟨_, h⟩)
    · exact h
    · exact absurd h (List.lt_irrefl _)
  · exact .inl
def S0 (win : Int) (z1 z2 : Str) : TS := ⟨win, z1, z2, [], 0, 0, 0, [], [], -1, -1, []⟩
def renew (S : TS) (e : Int) : TS := if e = S.nw + 1 then { S with c0 := [], c1 := S.c0, t0 := -1, t1 := S.t0, nw := e } else { S with c0 := [], c1 := [], t0 := -1, t1 := -1, nw := e }
def jdg (S : TS) (back : Nat) (n : Nat) (c : Int) : Str × TS :=
  if back = 0 then
    if c ≤ S.t0 - S.win then ("late", S) else if c ∈ S.c0 then ("again", S) else ("taken", { S with c0 := S.c0 ++ [c], t0 := if c > S.t0 then c else S.t0, rc := S.rc ++ [(n : Int)] })
  else
    if c ≤ S.t1 - S.win then ("late", S) else if c ∈ S.c1 then ("again", S) else ("taken", { S with c1 := S.c1 ++ [c], t1 := if c > S.t1 then c else S.t1, rc := S.rc ++ [(n : Int)] })
def dlv (S : TS) (n : Nat) (e c : Int) : Str × TS :=
  if e < S.nw - 1 then ("old", S) else if e > S.nw then jdg (renew S e) 0 n c else jdg S (S.nw - e).toNat n c
section
variable {σ : L2.St} {H : Hp} {K : PySem.W.Frag}
theorem w_dgoI {b : Addr} {kvs : List (L2.Key × V)} {z : Int} {o : Option V} {R : Option V → Prop} (h : H b = some (.dK kvs)) (e : valV kvs (Sum.inl z) = o) (q : R o) : ∃ a o, V.ref b = .ref a ∧ DGet H a (.int z) o ∧ R o := ⟨b, o, rfl, e ▸ DGet.k (k := Sum.inl z) h, q⟩
theorem w_dpI {b : Addr} {kvs : List (L2.Key × V)} {z : Int} {v : V} {R : Hp → Prop} (h : H b = some (.dK kvs)) (n : kvs.length < sizeLine) (q : R (upd H b (.dK (putK kvs (Sum.inl z) v)))) : ∃ a H4, V.ref b = .ref a ∧ DPut H a (.int z) v H4 ∧ R H4 := ⟨b, _, rfl, DPut.k (k := Sum.inl z) h n, q⟩
theorem w_prop {C : Addr} {sp : Sp} {dvs : List V} {E : XK} {ta : TE} {Q : VK} (q : ta σ H fun x H1 => ∃ a dx fs, x = .ref a ∧ H1 a = some (.ins C dx fs) ∧ sp (.ref a :: dvs) H1 Q E) : tProp C sp dvs E ta σ H Q := q
theorem w_faug {ta tv : TE} {rd : V → V → Hp → VK → Prop} {f : Str} {D : Ends} (q : ta σ H fun x H1 => ∃ a C dx fs v, x = .ref a ∧ H1 a = some (.ins C dx fs) ∧ Cls K C ∧ NoAttr K C f ∧ fs.lookup f = some v ∧
  tv σ H1 fun y H2 => rd v y H2 fun z H3 => ∃ dx' fs', H3 a = some (.ins C dx' fs') ∧ fs'.length < 1000 ∧ D.nx σ (upd H3 a (.ins C dx' (putF f z fs')))) : sFldAug K ta tv rd f D σ H := q
end
theorem tf1 (a : TD) (S : TS) : (tfs a S).lookup ("window" : Str) = some (.int S.win) := by rfl
theorem tf4 (a : TD) (S : TS) : (tfs a S).lookup ("_letters" : Str) = some (.ref a.lt) := by rfl
theorem tf5 (a : TD) (S : TS) : (tfs a S).lookup ("_epoch" : Str) = some (.int S.ep) := by rfl
theorem tf6 (a : TD) (S : TS) : (tfs a S).lookup ("_sent" : Str) = some (.int S.snt) := by rfl
theorem tf7 (a : TD) (S : TS) : (tfs a S).lookup ("_newest" : Str) = some (.int S.nw) := by rfl
theorem tf8 (a : TD) (S : TS) : (tfs a S).lookup ("_counts" : Str) = some (.ref a.cs) := by rfl
theorem tf9 (a : TD) (S : TS) : (tfs a S).lookup ("_tops" : Str) = some (.ref a.ts) := by rfl
theorem tf10 (a : TD) (S : TS) : (tfs a S).lookup ("_received" : Str) = some (.ref a.rv) := by rfl
theorem tn1 (a : TD) (S : TS) : (tfs a S).lookup ("letter" : Str) = none := by rfl
theorem tn2 (a : TD) (S : TS) : (tfs a S).lookup ("_renew" : Str) = none := by rfl
theorem tn3 (a : TD) (S : TS) : (tfs a S).lookup ("_judged" : Str) = none := by rfl
theorem tn4 (a : TD) (S : TS) : (tfs a S).lookup ("send" : Str) = none := by rfl
theorem tn5 (a : TD) (S : TS) : (tfs a S).lookup ("rekey" : Str) = none := by rfl
theorem tn6 (a : TD) (S : TS) : (tfs a S).lookup ("deliver" : Str) = none := by rfl
theorem tfs_len (a : TD) (S : TS) : (tfs a S).length < 1000 := by show 10 < 1000; decide
/-! ### names, again -/
def isNm (z : Str) : Bool := decide (1 ≤ z.length) && (decide (z.length ≤ 8) && (cd z).all fun c => decide (97 ≤ c) && decide (c ≤ 122))
theorem isNm_iff {z : Str} : isNm z = true ↔ Nm z := by
  unfold isNm
  rw [Bool.and_eq_true, Bool.and_eq_true, List.all_eq_true, decide_eq_true_iff, decide_eq_true_iff]
  constructor
  · rintro ⟨h1, h2, h3⟩
    exact ⟨h1, h2, fun c hc => by
      have := h3 c hc
      rw [Bool.and_eq_true, decide_eq_true_iff, decide_eq_true_iff] at this
      exact this⟩
  · rintro ⟨h1, h2, h3⟩
    exact ⟨h1, h2, fun c hc => by rw [Bool.and_eq_true, decide_eq_true_iff, decide_eq_true_iff]; exact h3 c hc⟩
def sp_isword : Sp := fun vs H Q _ => ∃ z : Str, vs = [.str z, .str "a", .str "z"] ∧ z.length ≤ 1000 ∧ ∀ H', Same H H' → Q (.bl (isNm z)) H'
def sp_isname : Sp := fun vs H Q _ => ∃ z : Str, vs = [.str z] ∧ z.length ≤ 1000 ∧ ∀ H', Same H H' → Q (.bl (isNm z)) H'
def okI (win : Int) (z1 z2 : Str) : Prop := 1 ≤ win ∧ win ≤ 64 ∧ Nm z1 ∧ Nm z2 ∧ z1 ≠ z2
def sp_init (C XB : Addr) : Sp := fun vs H Q E => ∃ (p dx : Addr) (win : Int) (z1 z2 : Str), vs = [.ref p, .int win, .str z1, .str z2] ∧ H p = some (.ins C dx []) ∧ z1.length ≤ 1000 ∧ z2.length ≤ 1000 ∧ (okI win z1 z2 → ∀ (a : TD) (H' : Hp), a.p = p → (∀ x o, H x = some o → x ≠ p → H' x = some o) → (∀ x ∈ ft a, x = p ∨ H x = none) → Tun C a H' (S0 win z1 z2) → Q .non H') ∧ (¬ okI win z1 z2 → ∀ H', Same H H' → E (.ref XB) none H')
def sp_send (C XB : Addr) : Sp := fun vs H Q E => ∃ (a : TD) (S : TS) (z : Str), vs = [.ref a.p, .str z] ∧ Tun C a H S ∧ z.length ≤ 1000 ∧ S.ls.length < 1000 ∧ (Nm z → ∀ H', Frm (ft a) H H' → Tun C a H' { S with ls := S.ls ++ [(S.ep, S.snt, z)], snt := S.snt + 1 } → Q (.int S.ls.length) H') ∧ (¬ Nm z → ∀ H', Same H H' → E (.ref XB) none H')
def sp_rekey (C XB : Addr) : Sp := fun vs H Q E => ∃ (a : TD) (S : TS), vs = [.ref a.p] ∧ Tun C a H S ∧ (S.ep ≠ 12 → ∀ H', Frm (ft a) H H' → Tun C a H' { S with ep := S.ep + 1, snt := 0 } → Q .non H') ∧ (S.ep = 12 → E (.ref XB) none H)
def sp_letter (C XU : Addr) : Sp := fun vs H Q E => ∃ (a : TD) (S : TS) (i : Int), vs = [.ref a.p, .int i] ∧ Tun C a H S ∧ (∀ (n : Nat) x, i = (n : Int) → S.ls[n]? = some x → ∀ q, H q = some (.tup [.int x.1, .int x.2.1, .str x.2.2]) → Q (.ref q) H) ∧ (¬ (0 ≤ i ∧ i < (S.ls.length : Int)) → E (.ref XU) none H)
def sp_received (C : Addr) : Sp := fun vs H Q _ => ∃ (a : TD) (S : TS), vs = [.ref a.p] ∧ Tun C a H S ∧ ∀ q H', Same H H' → H' q = some (.tup (inz S.rc)) → Q (.ref q) H'
def sp_renew (C : Addr) : Sp := fun vs H Q _ => ∃ (a : TD) (S : TS) (e : Int), vs = [.ref a.p, .int e] ∧ Tun C a H S ∧ ∀ (a' : TD) (H' : Hp), a'.p = a.p → Frm (ft a) H H' → Own (ft a) H (ft a') → Tun C a' H' (renew S e) → Q .non H'
def sp_judged (C : Addr) : Sp := fun vs H Q _ => ∃ (a : TD) (S : TS) (back n : Nat) (c : Int), vs = [.ref a.p, .int (back : Int), .int (n : Int), .int c] ∧ Tun C a H S ∧ back ≤ 1 ∧ S.c0.length < 5000 ∧ S.c1.length < 5000 ∧ S.rc.length < 5000 ∧ ∀ (a' : TD) (H' : Hp), a'.p = a.p → Frm (ft a) H H' → Own (ft a) H (ft a') → Tun C a' H' (jdg S back n c).2 → Q (.str (jdg S back n c).1) H'
def sp_deliver (C XU : Addr) : Sp := fun vs H Q E => ∃ (a : TD) (S : TS) (i : Int), vs = [.ref a.p, .int i] ∧ Tun C a H S ∧ S.c0.length < 5000 ∧ S.c1.length < 5000 ∧ S.rc.length < 5000 ∧ (∀ (n : Nat) x, i = (n : Int) → S.ls[n]? = some x → ∀ (a' : TD) (H' : Hp), a'.p = a.p → Frm (ft a) H H' → Own (ft a) H (ft a') → Tun C a' H' (dlv S n x.1 x.2.1).2 → Q (.str (dlv S n x.1 x.2.1).1) H') ∧ (¬ (0 ≤ i ∧ i < (S.ls.length : Int)) → E (.ref XU) none H)
def sp_sealed (C XU : Addr) : Sp := fun vs H _ E => ∃ (a : TD) (S : TS) (i : Int), vs = [.ref a.p, .int i] ∧ Tun C a H S ∧ ¬ (0 ≤ i ∧ i < (S.ls.length : Int)) ∧ E (.ref XU) none H
section
variable {P : Program} {w : World} {K : PySem.W.Frag} {mg : Str → Option Value} {base : Heap}
theorem ok_is_word (T : Top K mg) : FnOk P w K mg base CX0 1 T.f_is_word T.d_is_word ["value", "least", "greatest"] sp_isword := by
  refine T.F_is_word.ok sc_is_word (fun vs H Q E h => ?_) (fun cdv A outer s H vs Q E hr h => ?_)
  · obtain ⟨z, rfl, _⟩ := h
    rfl
  · obtain ⟨z, rfl, hz, q⟩ := h
    refine ⟨_, (pss_cons (ps_if (PW.pt (pw_or (pt_not (pt_val (pe_callB call_isi (by rfl) T.z_isinstance (by decide +kernel) (pa_cons (pv 0) (pa_cons (pe_bltn (v := .ty "str") (by rfl) T.z_str (by decide +kernel) rfl) pa_nil))))) (pw_or1 (pt_not (pt_chain op_le op_le pe_int (pe_callB call_len_str (by rfl) T.z_len (by decide +kernel) (pa_cons (pv 0) pa_nil)) (pe_glob (v := .int 8) (by rfl) T.c_LONGEST_NAME ⟨_, rfl⟩))))))
    (pss_one (ps_ret pe_bl))
    pss_nil)
    (pss_one (ps_ret (pe_callB (cr_all rfl) (by rfl) T.z_all (by decide +kernel) (pa_cons (pe_lc (own := [("sign", 3)]) (g := gName 3) (by rfl) sc_is_word.nd (pi_str (pv 0)) (blkOk_by (own := [("sign", 3)]) (N := N_is_word) (sc := defScope s_is_word) (by decide +kernel)) (fun _ _ _ _ _ => (pg_name (i := 3) sc_is_word.nd rfl (Or.inl rfl))) (fun _ _ _ _ _ => pts_nil) (fun _ _ _ _ _ => (pe_chain op_le_str op_le_str (pv 1) (pv 3) (pv 2)))) pa_nil))))), ?_⟩
    have hzl : z.length ≤ sizeLine := Nat.le_trans hz (by decide)
    repeat walk_at "s"
    refine iteF ?_
    repeat walk_at "s"
    refine ite2 (fun h => ?_) (fun h => ?_)
    · repeat walk_at "s"
      by_cases h8 : (z.length : Int) ≤ 8
      · rw [decide_eq_true h8]
        refine iteF ?_
        repeat walk_at "s"
        refine ⟨.str z, rfl, z, rfl, fun D hD => ?_⟩
        refine lc_it walk_str (fun i H2 => H2 D = some (.lst ((((cd z).take i).map fun c => decide (97 ≤ c) && decide (c ≤ 122)).map V.bl)) ∧ Same H H2) ⟨upd_same, sm_new hD⟩ (fun _ _ _ _ => trivial) ?_ ?_
        · rintro i x H2 H3 hi ⟨e2, s2⟩ ⟨rfl, c, hc, rfl⟩
          have hcm : (cd z)[i]? = some c := by
            have : z.cps.toList[i]? = some c := by rw [Array.getElem?_toList]; exact hc
            exact this
          have iz : i < 8 := by
            have : i < z.length := hi
            omega
          have hU : ((cd z).take (i + 1)).map (fun c => decide (97 ≤ c) && decide (c ≤ 122)) = ((cd z).take i).map (fun c => decide (97 ≤ c) && decide (c ≤ 122)) ++ [decide (97 ≤ c) && decide (c ≤ 122)] := by
            rw [List.take_add_one, hcm, List.map_append]
            rfl
          have lt9 : ∀ b : Bool, ((((cd z).take i).map fun c => decide (97 ≤ c) && decide (c ≤ 122)).map V.bl).length < sizeLine := fun _ => by
            rw [List.length_map, List.length_map, List.length_take]; exact big99 (by omega)
          repeat walk_at "s"
          by_cases c1 : c < 97
          · rw [show decide ((⟨#[c]⟩ : Str).cps.toList < (Str.ofString "a").cps.toList) = true from decide_eq_true ((one_lt c 97).mpr c1)]
            refine iteF ?_
            refine ⟨_, e2, lt9 true, ?_, fun x o h => by rw [upd_ne (ne_of_none h hD)]; exact s2 x o h⟩
            rw [upd_same, hU, List.map_append, decide_eq_false (show ¬ 97 ≤ c by omega)]
            rfl
          · rw [show decide ((⟨#[c]⟩ : Str).cps.toList < (Str.ofString "a").cps.toList) = false from decide_eq_false (fun q => c1 ((one_lt c 97).mp q))]
            refine iteT ?_
            repeat walk_at "s"
            refine ⟨_, e2, lt9 true, ?_, fun x o h => by rw [upd_ne (ne_of_none h hD)]; exact s2 x o h⟩
            rw [upd_same, hU, List.map_append, decide_eq_true (show 97 ≤ c by omega)]
            by_cases c2 : c ≤ 122
            · rw [show decide ((Str.ofString "z").cps.toList < (⟨#[c]⟩ : Str).cps.toList) = false from decide_eq_false (fun q => by have := (one_lt 122 c).mp q; omega), decide_eq_true c2]
              rfl
            · rw [show decide ((Str.ofString "z").cps.toList < (⟨#[c]⟩ : Str).cps.toList) = true from decide_eq_true ((one_lt 122 c).mpr (by omega)), decide_eq_false c2]
              rfl
        · rintro H2 ⟨e2, s2⟩
          repeat walk_at "s"
          refine ⟨D, _, rfl, SqL.of e2, ?_⟩
          have e : ((((cd z).take z.cps.size).map fun c => decide (97 ≤ c) && decide (c ≤ 122)).all id) = isNm z := by
            have l1 : z.cps.size = (cd z).length := rfl
            have d1 : 1 ≤ z.length := by have := of_decide_eq_true h; omega
            have d8 : z.length ≤ 8 := by omega
            unfold isNm
            rw [l1, List.take_length, List.all_map, decide_eq_true d1, decide_eq_true d8]
            rfl
          rw [e]
          exact q H2 s2
      · rw [decide_eq_false h8]
        refine iteT ?_
        repeat walk_at "s"
        have := q H (Same.refl H)
        rw [show isNm z = false by unfold isNm; rw [decide_eq_false (show ¬ z.length ≤ 8 by omega), Bool.false_and, Bool.and_false]] at this
        exact this
    · have h1 := of_decide_eq_false (ofb h)
      repeat walk_at "s"
      have := q H (Same.refl H)
      rw [show isNm z = false by unfold isNm; rw [decide_eq_false (show ¬ 1 ≤ z.length by omega), Bool.false_and]] at this
      exact this
end
section
variable {P : Program} {w : World} {K : PySem.W.Frag} {mg : Str → Option Value} {base : Heap}
theorem okis_name (T : Top K mg) : FnOk P w K mg base CX0 2 T.fis_name T.dis_name ["value"] sp_isname := by
  refine T.Fis_name.ok scis_name (fun vs H Q E h => ?_) (fun cdv A outer s H vs Q E hr h => ?_)
  · obtain ⟨z, rfl, _⟩ := h
    rfl
  · obtain ⟨z, rfl, hz, q⟩ := h
    refine ⟨_, (pss_one (ps_ret (pe_call (ok_is_word T) hr (by rfl) T.g_is_word T.F_is_word.kp T.b_is_word .nil pass0 (pa_cons (pv 0) (pa_cons pe_str (pa_cons pe_str pa_nil)))))), ?_⟩
    repeat walk_at "s"
    exact ⟨z, rfl, hz, q⟩
theorem okTunnel_letter (T : Top K mg) : FnOk P w K mg base (L2.CX P w) 1 T.fTunnel_letter T.dTunnel_letter ["self", "number"] (sp_letter T.C_Tunnel T.X_UnknownName) := by
  refine T.FTunnel_letter.okX scTunnel_letter (fun vs H Q E h => ?_) (fun cdv A outer s H vs Q E hr h => ?_)
  · obtain ⟨a, S, i, rfl, _⟩ := h
    rfl
  · obtain ⟨a, S, i, rfl, U, q, qe⟩ := h
    refine ⟨_, (pss_cons (ps_if (pt_not (pt_chain op_le op_lt pe_int (pv 1) (pe_callB call_len_seq (by rfl) T.z_len (by decide +kernel) (pa_cons (pe_fld (pv 0) rfl) pa_nil))))
    (pss_one (ps_raise rfl (takes_of rfl rfl rfl rfl) (pmk_own0 PySem.F.excBase_ValueError T.xX_UnknownName T.gX_UnknownName T.kX_UnknownName (raises_own T.bX_UnknownName T.tX_UnknownName) rfl)))
    pss_nil)
    (pss_one (ps_ret (pe_ix ix_list (pe_fld (pv 0) rfl) (pv 1) (fun _ _ => rfl))))), ?_⟩
    obtain ⟨us, hus, dus⟩ := U.lt
    have lus := dus.length
    rw [List.length_map] at lus
    repeat walk_at "s"
    refine ite2 (fun h => ?_) (fun h => ?_)
    · have h0 : 0 ≤ i := of_decide_eq_true h
      repeat walk_at "s"
      refine w_fldA U.ins T.cl_Tunnel T.n_Tunnel__letters (tf4 a S) ?_
      repeat walk_at "s"
      by_cases hi : i < (us.length : Int)
      · rw [decide_eq_true hi]
        refine iteF ?_
        repeat walk_at "s"
        refine w_fldA U.ins T.cl_Tunnel T.n_Tunnel__letters (tf4 a S) ?_
        obtain ⟨n, rfl⟩ : ∃ n : Nat, i = (n : Int) := ⟨i.toNat, by omega⟩
        have hn := List.getElem?_eq_getElem (show n < S.ls.length by omega)
        obtain ⟨v, hv, hq⟩ := ld_get dus hn
        repeat walk_at "s"
        refine w_ixL (SqL.of hus) (atI_nat hv) ?_
        exact q n _ rfl hn v hq
      · rw [decide_eq_false hi]
        refine iteT ?_
        exact qe (by omega)
    · have h0 := of_decide_eq_false (ofb h)
      repeat walk_at "s"
      exact qe (by omega)
theorem okTunnel_received (T : Top K mg) : FnOk P w K mg base CX0 1 T.fTunnel_received T.dTunnel_received ["self"] (sp_received T.C_Tunnel) := by
  refine T.FTunnel_received.ok scTunnel_received (fun vs H Q E h => ?_) (fun cdv A outer s H vs Q E hr h => ?_)
  · obtain ⟨a, S, rfl, _⟩ := h
    rfl
  · obtain ⟨a, S, rfl, U, q⟩ := h
    refine ⟨_, (pss_one (ps_ret (pe_callTy call_tuple_of (by rfl) T.z_tuple (by decide +kernel) (pa_cons (pe_fld (pv 0) rfl) pa_nil)))), ?_⟩
    repeat walk_at "s"
    refine w_fldA U.ins T.cl_Tunnel T.n_Tunnel__received (tf10 a S) ?_
    refine ⟨a.rv, inz S.rc, rfl, .inl ⟨SqL.of U.rv, fun l hl => ?_⟩⟩
    exact q l _ (sm_new hl) upd_same
theorem okTunnel_send (T : Top K mg) : FnOk P w K mg base (L2.CX P w) 3 T.fTunnel_send T.dTunnel_send ["self", "payload"] (sp_send T.C_Tunnel T.X_BadTunnel) := by
  refine T.FTunnel_send.okX scTunnel_send (fun vs H Q E h => ?_) (fun cdv A outer s H vs Q E hr h => ?_)
  · obtain ⟨a, S, z, rfl, _⟩ := h
    rfl
  · obtain ⟨a, S, z, rfl, U, hzl, hl, q, qe⟩ := h
    refine ⟨_, (pss_cons (ps_if (pt_not (pt_val (pe_call (okis_name T) hr (by rfl) T.gis_name T.Fis_name.kp T.bis_name .nil pass0 (pa_cons (pv 1) pa_nil))))
    (pss_one (ps_raise rfl (takes_of rfl rfl rfl rfl) (pmk_own0 PySem.F.excBase_ValueError T.xX_BadTunnel T.gX_BadTunnel T.kX_BadTunnel (raises_own T.bX_BadTunnel T.tX_BadTunnel) rfl)))
    pss_nil)
    (pss_cons (ps_expr (pe_bm PySem.F.plainAttrs_list PySem.F.slot_list_append PySem.F.type_list_append mt_append (pe_fld (pv 0) rfl) (pa_cons (pe_tup (pa_cons (pe_fld (pv 0) rfl) (pa_cons (pe_fld (pv 0) rfl) (pa_cons (pv 1) pa_nil)))) pa_nil)))
     (pss_cons (ps_fldaug (pv 0) pe_int in_add)
      (pss_one (ps_ret (pe_op op_sub (pe_callB call_len_seq (by rfl) T.z_len (by decide +kernel) (pa_cons (pe_fld (pv 0) rfl) pa_nil)) pe_int)))))), ?_⟩
    repeat walk_at "s"
    refine ⟨z, rfl, hzl, fun H1 s1 => ?_⟩
    repeat walk_at "s"
    by_cases hz : isNm z = true
    rotate_left
    · rw [ofb hz]
      refine iteT ?_
      exact qe (fun n => hz (isNm_iff.mpr n)) H1 s1
    rw [hz]
    have q := q (isNm_iff.mp hz)
    refine iteF ?_
    have U1 := U.same s1
    obtain ⟨us, hus, dus⟩ := U1.lt
    have lus := dus.length
    rw [List.length_map] at lus
    repeat walk_at "s"
    refine w_fldA U1.ins T.cl_Tunnel T.n_Tunnel__letters (tf4 a S) ?_
    refine w_tyl hus ?_
    repeat walk_at "s"
    refine w_fldA U1.ins T.cl_Tunnel T.n_Tunnel__epoch (tf5 a S) ?_
    repeat walk_at "s"
    refine w_fldA U1.ins T.cl_Tunnel T.n_Tunnel__sent (tf6 a S) ?_
    repeat walk_at "s"
    refine ⟨by walk_at "len", fun p hp => ?_⟩
    have s2 := sm_new (o := .tup [.int S.ep, .int S.snt, .str z]) hp
    have e2 := upd_self2 hp (.tup [.int S.ep, .int S.snt, .str z])
    generalize upd H1 p (.tup [.int S.ep, .int S.snt, .str z]) = H2 at s2 e2 ⊢
    have U2 := U1.same s2
    repeat walk_at "s"
    refine w_append (s2 _ _ hus) (big99 (by omega)) ?_
    have npl := U.pl
    have tk3 : Tk H2 (upd H2 a.lt (.lst (us ++ [.ref p]))) := Tk.lst (s2 _ _ hus)
    have f3 : Frm (ft a) H (upd H2 a.lt (.lst (us ++ [.ref p]))) := fun x o h n => by
      rw [upd_ne (fun e => n (by rw [e]; simp [ft]))]
      exact s2 _ _ (s1 _ _ h)
    have d3 : DsAt (upd H2 a.lt (.lst (us ++ [.ref p]))) (us ++ [.ref p]) ((S.ls ++ [(S.ep, S.snt, z)]).map ld) := by
      rw [List.map_append]
      exact ((dus.mono (Tk.same s2)).mono tk3).app (.cons (.tup (tk3 _ _ e2) (.cons (.int _) (.cons (.int _) (.cons (.str _) .nil)))) .nil)
    have U3 : Tun T.C_Tunnel a (upd H2 a.lt (.lst (us ++ [.ref p]))) { S with ls := S.ls ++ [(S.ep, S.snt, z)] } := by
      obtain ⟨p1, p2, p3, p4, p5, p6, p7, p8⟩ := npl
      exact ⟨by rw [upd_ne p1]; exact U2.ins, ⟨_, upd_same, d3⟩, tk3 _ _ U2.cs, by rw [upd_ne p5.symm]; exact U2.e0, by rw [upd_ne p6.symm]; exact U2.e1, tk3 _ _ U2.ts, by rw [upd_ne U2.nl.symm]; exact U2.rv, U2.nd, U2.nl⟩
    generalize upd H2 a.lt (.lst (us ++ [.ref p])) = H3 at f3 U3 ⊢
    repeat walk_at "s"
    refine w_faug ?_
    repeat walk_at "s"
    refine ⟨a.p, _, _, _, _, rfl, U3.ins, T.cl_Tunnel, T.n_Tunnel__sent, tf6 a _, ?_⟩
    repeat walk_at "s"
    refine ⟨_, _, rfl, rfl, _, _, U3.ins, tfs_len a _, ?_⟩
    have U4 := U3.ui (S' := { S with ls := S.ls ++ [(S.ep, S.snt, z)], snt := S.snt + 1 }) rfl rfl rfl rfl rfl rfl
    have f4 := frm_p (o := .ins T.C_Tunnel a.dx (tfs a { S with ls := S.ls ++ [(S.ep, S.snt, z)], snt := S.snt + 1 })) f3
    have ep : putF (Str.ofString "_sent") (V.int (S.snt + 1)) (tfs a { S with ls := S.ls ++ [(S.ep, S.snt, z)] }) = tfs a { S with ls := S.ls ++ [(S.ep, S.snt, z)], snt := S.snt + 1 } := rfl
    rw [ep]
    generalize upd H3 a.p (.ins T.C_Tunnel a.dx (tfs a { S with ls := S.ls ++ [(S.ep, S.snt, z)], snt := S.snt + 1 })) = H4 at U4 f4 ⊢
    obtain ⟨us4, hus4, dus4⟩ := U4.lt
    have lus4 : (us4.length : Int) = (S.ls.length : Int) + 1 := by
      have := dus4.length
      rw [List.length_map] at this
      have e : (S.ls ++ [(S.ep, S.snt, z)]).length = S.ls.length + 1 := by rw [List.length_append]; rfl
      have : us4.length = (S.ls ++ [(S.ep, S.snt, z)]).length := this
      omega
    repeat walk_at "s"
    refine w_fldA U4.ins T.cl_Tunnel T.n_Tunnel__letters (tf4 a _) ?_
    repeat walk_at "s"
    rw [lus4, Int.add_sub_cancel]
    exact q H4 f4 U4
theorem okTunnel_rekey (T : Top K mg) : FnOk P w K mg base (L2.CX P w) 1 T.fTunnel_rekey T.dTunnel_rekey ["self"] (sp_rekey T.C_Tunnel T.X_BadTunnel) := by
  refine T.FTunnel_rekey.okX scTunnel_rekey (fun vs H Q E h => ?_) (fun cdv A outer s H vs Q E hr h => ?_)
  · obtain ⟨a, S, rfl, _⟩ := h
    rfl
  · obtain ⟨a, S, rfl, U, q, qe⟩ := h
    refine ⟨_, (pss_cons (ps_if (pt_cmpR op_eq (pe_fld (pv 0) rfl) (pe_glob (v := .int 12) (by rfl) T.c_LAST_EPOCH ⟨_, rfl⟩) (nomark _))
    (pss_one (ps_raise rfl (takes_of rfl rfl rfl rfl) (pmk_own0 PySem.F.excBase_ValueError T.xX_BadTunnel T.gX_BadTunnel T.kX_BadTunnel (raises_own T.bX_BadTunnel T.tX_BadTunnel) rfl)))
    pss_nil)
    (pss_cons (ps_fldaug (pv 0) pe_int in_add)
     (pss_one (ps_fld (pv 0) pe_int rfl)))), ?_⟩
    repeat walk_at "s"
    refine w_fldA U.ins T.cl_Tunnel T.n_Tunnel__epoch (tf5 a S) ?_
    repeat walk_at "s"
    by_cases he : S.ep = 12
    · rw [decide_eq_true he]
      refine iteT ?_
      exact qe he
    rw [decide_eq_false he]
    have q := q he
    refine iteF ?_
    repeat walk_at "s"
    refine w_faug ?_
    repeat walk_at "s"
    refine ⟨a.p, _, _, _, _, rfl, U.ins, T.cl_Tunnel, T.n_Tunnel__epoch, tf5 a S, ?_⟩
    repeat walk_at "s"
    refine ⟨_, _, rfl, rfl, _, _, U.ins, tfs_len a S, ?_⟩
    have U4 := U.ui (S' := { S with ep := S.ep + 1 }) rfl rfl rfl rfl rfl rfl
    have f4 := frm_p (a := a) (o := .ins T.C_Tunnel a.dx (tfs a { S with ep := S.ep + 1 })) (Frm.same (Same.refl H))
    have ep : putF (Str.ofString "_epoch") (V.int (S.ep + 1)) (tfs a S) = tfs a { S with ep := S.ep + 1 } := rfl
    rw [ep]
    generalize upd H a.p (.ins T.C_Tunnel a.dx (tfs a { S with ep := S.ep + 1 })) = H4 at U4 f4 ⊢
    repeat walk_at "s"
    refine ⟨a.p, _, _, _, rfl, U4.ins, T.cl_Tunnel, T.n_Tunnel__sent, tfs_len a _, ?_⟩
    exact q _ (frm_p f4) (U4.ui (S' := { S with ep := S.ep + 1, snt := 0 }) rfl rfl rfl rfl rfl rfl)
end
/-! ### a tunnel is made; letters are delivered: with refusals -/
theorem w_methS {C : Addr} {m : Str} {sp : Sp} {D : L2.St → XK} {ta : TE} {t : TA} {σ : L2.St} {H : Hp} {Q : VK} (q : ta σ H fun x H1 => ∃ a dx fs, x = .ref a ∧ H1 a = some (.ins C dx fs) ∧ fs.lookup m = none ∧ t σ H1 fun vs H2 => sp (x :: vs) H2 Q (D σ)) : tMethS C m sp D ta t σ H Q := q
theorem tn7 (a : TD) (S : TS) : (tfs a S).lookup ("sealed" : Str) = none := by rfl
section
variable {C : Addr} {a : TD} {H : Hp} {S : TS} {c : Int}
theorem Tun.put0 (U : Tun C a H S) : Tun C a (upd H a.d0 (.dK (kz (S.c0 ++ [c])))) { S with c0 := S.c0 ++ [c] } := by
  obtain ⟨us, hus, dus⟩ := U.lt
  obtain ⟨p1, p2, p3, p4, p5, p6, p7, p8⟩ := U.pl
  have tk : ∀ o, Tk H (upd H a.d0 o) := fun o => Tk.upd fun vs e => by rw [U.e0] at e; cases e
  exact ⟨by rw [upd_ne p2]; exact U.ins, ⟨us, by rw [upd_ne p5]; exact hus, dus.mono (tk _)⟩, tk _ _ _ U.cs, upd_same, by rw [upd_ne U.nd.symm]; exact U.e1, tk _ _ _ U.ts, by rw [upd_ne p7]; exact U.rv, U.nd, U.nl⟩
theorem Tun.put1 (U : Tun C a H S) : Tun C a (upd H a.d1 (.dK (kz (S.c1 ++ [c])))) { S with c1 := S.c1 ++ [c] } := by
  obtain ⟨us, hus, dus⟩ := U.lt
  obtain ⟨p1, p2, p3, p4, p5, p6, p7, p8⟩ := U.pl
  have tk : ∀ o, Tk H (upd H a.d1 o) := fun o => Tk.upd fun vs e => by rw [U.e1] at e; cases e
  exact ⟨by rw [upd_ne p3]; exact U.ins, ⟨us, by rw [upd_ne p6]; exact hus, dus.mono (tk _)⟩, tk _ _ _ U.cs, by rw [upd_ne U.nd]; exact U.e0, upd_same, tk _ _ _ U.ts, by rw [upd_ne p8]; exact U.rv, U.nd, U.nl⟩
theorem Tun.tops (U : Tun C a H S) {q : Addr} {x y : Int} (hq : H q = none) : Tun C { a with ts := q } (upd (upd H q (.tup [.int x, .int y])) a.p (.ins C a.dx (tfs { a with ts := q } { S with t0 := x, t1 := y }))) { S with t0 := x, t1 := y } := by
  have U1 : Tun C a (upd H q (.tup [.int x, .int y])) S := U.same (sm_new hq)
  obtain ⟨us, hus, dus⟩ := U1.lt
  obtain ⟨p1, p2, p3, p4, p5, p6, p7, p8⟩ := U1.pl
  have tk : ∀ o, Tk (upd H q (.tup [.int x, .int y])) (upd (upd H q (.tup [.int x, .int y])) a.p o) := fun o => Tk.upd fun vs e => by rw [U1.ins] at e; cases e
  exact ⟨upd_same, ⟨us, by rw [upd_ne p1.symm]; exact hus, dus.mono (tk _)⟩, tk _ _ _ U1.cs, by rw [upd_ne p2.symm]; exact U1.e0, by rw [upd_ne p3.symm]; exact U1.e1, tk _ _ _ upd_same, by rw [upd_ne p4.symm]; exact U1.rv, U.nd, U.nl⟩
theorem Tun.recd (U : Tun C a H S) {n : Int} : Tun C a (upd H a.rv (.lst (inz (S.rc ++ [n])))) { S with rc := S.rc ++ [n] } := by
  obtain ⟨us, hus, dus⟩ := U.lt
  obtain ⟨p1, p2, p3, p4, p5, p6, p7, p8⟩ := U.pl
  have tk : ∀ o, Tk H (upd H a.rv o) := fun o => Tk.lst U.rv
  exact ⟨by rw [upd_ne p4]; exact U.ins, ⟨us, by rw [upd_ne U.nl]; exact hus, dus.mono (tk _)⟩, tk _ _ _ U.cs, by rw [upd_ne p7.symm]; exact U.e0, by rw [upd_ne p8.symm]; exact U.e1, tk _ _ _ U.ts, upd_same, U.nd, U.nl⟩
theorem frm_in {H H' : Hp} {o : HO} {x : Addr} (f : Frm (ft a) H H') (hx : x ∈ ft a) : Frm (ft a) H (upd H' x o) := fun y u h n => by
  rw [upd_ne (fun e => n (by rw [e]; exact hx))]
  exact f y u h n
theorem frm_new {F : List Addr} {H H' : Hp} {o : HO} {x : Addr} (f : Frm F H H') (hx : H' x = none) : Frm F H (upd H' x o) := fun y u h n => by
  rw [upd_ne (ne_of_none (f y u h n) hx)]
  exact f y u h n
theorem w_tif {σ : L2.St} {H : Hp} {Q : VK} {c : TT} {ta tb : TE} (q : c σ H fun k H1 => if k = true then ta σ H1 Q else tb σ H1 Q) : tIf c ta tb σ H Q := q
theorem fld_step {K : PySem.W.Frag} {C p dx : Addr} {fs : List (Str × V)} {Hi : Hp} {f : Str} {v : V} {R : Hp → Prop} (ip : Hi p = some (.ins C dx fs)) (c : Cls K C) (n : NoAttr K C f) (l : fs.length < 1000) (q : ∀ Hj : Hp, Hj p = some (.ins C dx (putF f v fs)) → (∀ x, x ≠ p → Hj x = Hi x) → R Hj) : ∃ a C dx fs, V.ref p = .ref a ∧ Hi a = some (.ins C dx fs) ∧ Cls K C ∧ NoAttr K C f ∧ fs.length < 1000 ∧ R (upd Hi a (.ins C dx (putF f v fs))) := ⟨p, C, dx, fs, rfl, ip, c, n, l, q _ upd_same (fun x h => upd_ne h)⟩
theorem renew_nw (S : TS) (e : Int) : (renew S e).nw = e := by unfold renew; split <;> rfl
theorem renew_win (S : TS) (e : Int) : (renew S e).win = S.win := by unfold renew; split <;> rfl
theorem renew_rc (S : TS) (e : Int) : (renew S e).rc = S.rc := by unfold renew; split <;> rfl
theorem renew_len (S : TS) (e : Int) (h0 : S.c0.length < 5000) : (renew S e).c0.length < 5000 ∧ (renew S e).c1.length < 5000 := by
  unfold renew
  split
  · exact ⟨by show 0 < 5000; decide, h0⟩
  · exact ⟨by show 0 < 5000; decide, by show 0 < 5000; decide⟩
end
section
variable {P : Program} {w : World} {K : PySem.W.Frag} {mg : Str → Option Value} {base : Heap}
theorem okTunnel___init__ (T : Top K mg) : FnOk P w K mg base (L2.CX P w) 3 T.fTunnel___init__ T.dTunnel___init__ ["self", "window", "first", "second"] (sp_init T.C_Tunnel T.X_BadTunnel) := by
  refine T.FTunnel___init__.okX scTunnel___init__ (fun vs H Q E h => ?_) (fun cdv A outer s H vs Q E hr h => ?_)
  · obtain ⟨p, dx, win, z1, z2, rfl, _⟩ := h
    rfl
  · obtain ⟨p, dx, win, z1, z2, rfl, hp, l1, l2, q, qe⟩ := h
    refine ⟨_, (pss_cons (ps_if (PW.pt (pw_or (pt_not (pt_chain op_le op_le pe_int (pv 1) (pe_glob (v := .int 64) (by rfl) T.c_WIDEST_WINDOW ⟨_, rfl⟩))) (pw_or (pt_cmpR op_eq (pv 2) (pv 3) (nomark _)) (pw_or (pt_not (pt_val (pe_call (okis_name T) hr (by rfl) T.gis_name T.Fis_name.kp T.bis_name .nil pass0 (pa_cons (pv 2) pa_nil)))) (pw_or1 (pt_not (pt_val (pe_call (okis_name T) hr (by rfl) T.gis_name T.Fis_name.kp T.bis_name .nil pass0 (pa_cons (pv 3) pa_nil)))))))))
    (pss_one (ps_raise rfl (takes_of rfl rfl rfl rfl) (pmk_own0 PySem.F.excBase_ValueError T.xX_BadTunnel T.gX_BadTunnel T.kX_BadTunnel (raises_own T.bX_BadTunnel T.tX_BadTunnel) rfl)))
    pss_nil)
    (pss_cons (ps_fld (pv 0) (pv 1) rfl)
     (pss_cons (ps_fld (pv 0) (pv 2) rfl)
      (pss_cons (ps_fld (pv 0) (pv 3) rfl)
       (pss_cons (ps_fld (pv 0) (pe_lst pa_nil) rfl)
        (pss_cons (ps_fld (pv 0) pe_int rfl)
         (pss_cons (ps_fld (pv 0) pe_int rfl)
          (pss_cons (ps_fld (pv 0) pe_int rfl)
           (pss_cons (ps_fld (pv 0) (pe_tup (pa_cons pe_dnewK (pa_cons pe_dnewK pa_nil))) rfl)
            (pss_cons (ps_fld (pv 0) (pe_tup (pa_cons (pe_un un_neg pe_int) (pa_cons (pe_un un_neg pe_int) pa_nil))) rfl)
             (pss_one (ps_fld (pv 0) (pe_lst pa_nil) rfl)))))))))))), ?_⟩
    have c := T.cl_Tunnel
    by_cases ok : okI win z1 z2
    rotate_left
    · have qe := qe ok
      repeat walk_at "s"
      refine ite2 (fun h => ?_) (fun h => ?_)
      rotate_left
      · repeat walk_at "s"
        exact qe H (Same.refl H)
      have w1 := of_decide_eq_true h
      repeat walk_at "s"
      by_cases w2 : win ≤ 64
      rotate_left
      · rw [decide_eq_false w2]
        refine iteT ?_
        exact qe H (Same.refl H)
      rw [decide_eq_true w2]
      refine iteF ?_
      repeat walk_at "s"
      by_cases hne : z1 = z2
      · rw [decide_eq_true hne]
        refine iteT ?_
        exact qe H (Same.refl H)
      rw [decide_eq_false hne]
      refine iteF ?_
      repeat walk_at "s"
      refine ⟨z1, rfl, l1, fun H1 s1 => ?_⟩
      repeat walk_at "s"
      by_cases hz1 : isNm z1 = true
      rotate_left
      · rw [ofb hz1]
        refine iteT ?_
        exact qe H1 s1
      rw [hz1]
      refine iteF ?_
      repeat walk_at "s"
      refine ⟨z2, rfl, l2, fun H2 s2 => ?_⟩
      repeat walk_at "s"
      rw [show isNm z2 = false from ofb fun hz2 => ok ⟨w1, w2, isNm_iff.mp hz1, isNm_iff.mp hz2, hne⟩]
      refine iteT ?_
      exact qe H2 (s1.trans s2)
    have q := q ok
    obtain ⟨w1, w2, hz1, hz2, hne⟩ := ok
    repeat walk_at "s"
    refine ite2 (fun h => ?_) (fun h => absurd (decide_eq_true w1) h)
    repeat walk_at "s"
    rw [decide_eq_true w2]
    refine iteF ?_
    repeat walk_at "s"
    rw [decide_eq_false hne]
    refine iteF ?_
    repeat walk_at "s"
    refine ⟨z1, rfl, l1, fun H1 s1 => ?_⟩
    repeat walk_at "s"
    rw [isNm_iff.mpr hz1]
    refine iteF ?_
    repeat walk_at "s"
    refine ⟨z2, rfl, l2, fun H2 s2 => ?_⟩
    repeat walk_at "s"
    rw [isNm_iff.mpr hz2]
    refine iteF ?_
    have hp2 := s2 _ _ (s1 _ _ hp)
    have s12 : ∀ x o, H x = some o → x ≠ p → H2 x = some o := fun x o h _ => s2 _ _ (s1 _ _ h)
    repeat walk_at "s"
    have r2 := s12
    have i2 := hp2
    refine fld_step i2 c T.n_Tunnel_window (by show 0 < 1000; decide) (fun H3 i3 k3 => ?_)
    have r3 : ∀ x o, H x = some o → x ≠ p → H3 x = some o := fun x o h n => (k3 x n).trans (r2 x o h n)
    repeat walk_at "s"
    refine fld_step i3 c T.n_Tunnel_first (by show 1 < 1000; decide) (fun H4 i4 k4 => ?_)
    have r4 : ∀ x o, H x = some o → x ≠ p → H4 x = some o := fun x o h n => (k4 x n).trans (r3 x o h n)
    repeat walk_at "s"
    refine fld_step i4 c T.n_Tunnel_second (by show 2 < 1000; decide) (fun H5 i5 k5 => ?_)
    have r5 : ∀ x o, H x = some o → x ≠ p → H5 x = some o := fun x o h n => (k5 x n).trans (r4 x o h n)
    repeat walk_at "s"
    refine ⟨by walk_at "len", fun lt h_lt => ?_⟩
    have np_lt : lt ≠ p := (ne_of_none i5 h_lt).symm
    have e6_lt : upd H5 lt (.lst []) lt = some (.lst []) := upd_same
    have k6 : ∀ y, y ≠ lt → upd H5 lt (.lst []) y = H5 y := fun y h => upd_ne h
    generalize upd H5 lt (.lst []) = H6 at e6_lt k6 ⊢
    have r6 : ∀ x o, H x = some o → x ≠ p → H6 x = some o := fun x o h n => (k6 x (ne_of_none (r5 x o h n) h_lt)).trans (r5 x o h n)
    have z_lt : H lt = none := (by cases ez : H lt with | none => rfl | some o => exact absurd (r5 _ o ez np_lt) (by rw [h_lt]; intro q; cases q))
    have i6 := (k6 _ np_lt.symm).trans i5
    repeat walk_at "s"
    refine fld_step i6 c T.n_Tunnel__letters (by show 3 < 1000; decide) (fun H7 i7 k7 => ?_)
    have r7 : ∀ x o, H x = some o → x ≠ p → H7 x = some o := fun x o h n => (k7 x n).trans (r6 x o h n)
    have e7_lt := (k7 _ np_lt).trans e6_lt
    repeat walk_at "s"
    refine fld_step i7 c T.n_Tunnel__epoch (by show 4 < 1000; decide) (fun H8 i8 k8 => ?_)
    have r8 : ∀ x o, H x = some o → x ≠ p → H8 x = some o := fun x o h n => (k8 x n).trans (r7 x o h n)
    have e8_lt := (k8 _ np_lt).trans e7_lt
    repeat walk_at "s"
    refine fld_step i8 c T.n_Tunnel__sent (by show 5 < 1000; decide) (fun H9 i9 k9 => ?_)
    have r9 : ∀ x o, H x = some o → x ≠ p → H9 x = some o := fun x o h n => (k9 x n).trans (r8 x o h n)
    have e9_lt := (k9 _ np_lt).trans e8_lt
    repeat walk_at "s"
    refine fld_step i9 c T.n_Tunnel__newest (by show 6 < 1000; decide) (fun H10 i10 k10 => ?_)
    have r10 : ∀ x o, H x = some o → x ≠ p → H10 x = some o := fun x o h n => (k10 x n).trans (r9 x o h n)
    have e10_lt := (k10 _ np_lt).trans e9_lt
    repeat walk_at "s"
    intro d0 h_d0
    have np_d0 : d0 ≠ p := (ne_of_none i10 h_d0).symm
    have n_lt_d0 : lt ≠ d0 := ne_of_none e10_lt h_d0
    have e11_d0 : upd H10 d0 (.dK []) d0 = some (.dK []) := upd_same
    have k11 : ∀ y, y ≠ d0 → upd H10 d0 (.dK []) y = H10 y := fun y h => upd_ne h
    generalize upd H10 d0 (.dK []) = H11 at e11_d0 k11 ⊢
    have r11 : ∀ x o, H x = some o → x ≠ p → H11 x = some o := fun x o h n => (k11 x (ne_of_none (r10 x o h n) h_d0)).trans (r10 x o h n)
    have z_d0 : H d0 = none := (by cases ez : H d0 with | none => rfl | some o => exact absurd (r10 _ o ez np_d0) (by rw [h_d0]; intro q; cases q))
    have i11 := (k11 _ np_d0.symm).trans i10
    have e11_lt := (k11 _ n_lt_d0).trans e10_lt
    repeat walk_at "s"
    intro d1 h_d1
    have np_d1 : d1 ≠ p := (ne_of_none i11 h_d1).symm
    have n_lt_d1 : lt ≠ d1 := ne_of_none e11_lt h_d1
    have n_d0_d1 : d0 ≠ d1 := ne_of_none e11_d0 h_d1
    have e12_d1 : upd H11 d1 (.dK []) d1 = some (.dK []) := upd_same
    have k12 : ∀ y, y ≠ d1 → upd H11 d1 (.dK []) y = H11 y := fun y h => upd_ne h
    generalize upd H11 d1 (.dK []) = H12 at e12_d1 k12 ⊢
    have r12 : ∀ x o, H x = some o → x ≠ p → H12 x = some o := fun x o h n => (k12 x (ne_of_none (r11 x o h n) h_d1)).trans (r11 x o h n)
    have z_d1 : H d1 = none := (by cases ez : H d1 with | none => rfl | some o => exact absurd (r11 _ o ez np_d1) (by rw [h_d1]; intro q; cases q))
    have i12 := (k12 _ np_d1.symm).trans i11
    have e12_lt := (k12 _ n_lt_d1).trans e11_lt
    have e12_d0 := (k12 _ n_d0_d1).trans e11_d0
    repeat walk_at "s"
    refine ⟨by walk_at "len", fun cs h_cs => ?_⟩
    have np_cs : cs ≠ p := (ne_of_none i12 h_cs).symm
    have n_lt_cs : lt ≠ cs := ne_of_none e12_lt h_cs
    have n_d0_cs : d0 ≠ cs := ne_of_none e12_d0 h_cs
    have n_d1_cs : d1 ≠ cs := ne_of_none e12_d1 h_cs
    have e13_cs : upd H12 cs (.tup [.ref d0, .ref d1]) cs = some (.tup [.ref d0, .ref d1]) := upd_same
    have k13 : ∀ y, y ≠ cs → upd H12 cs (.tup [.ref d0, .ref d1]) y = H12 y := fun y h => upd_ne h
    generalize upd H12 cs (.tup [.ref d0, .ref d1]) = H13 at e13_cs k13 ⊢
    have r13 : ∀ x o, H x = some o → x ≠ p → H13 x = some o := fun x o h n => (k13 x (ne_of_none (r12 x o h n) h_cs)).trans (r12 x o h n)
    have z_cs : H cs = none := (by cases ez : H cs with | none => rfl | some o => exact absurd (r12 _ o ez np_cs) (by rw [h_cs]; intro q; cases q))
    have i13 := (k13 _ np_cs.symm).trans i12
    have e13_lt := (k13 _ n_lt_cs).trans e12_lt
    have e13_d0 := (k13 _ n_d0_cs).trans e12_d0
    have e13_d1 := (k13 _ n_d1_cs).trans e12_d1
    repeat walk_at "s"
    refine fld_step i13 c T.n_Tunnel__counts (by show 7 < 1000; decide) (fun H14 i14 k14 => ?_)
    have r14 : ∀ x o, H x = some o → x ≠ p → H14 x = some o := fun x o h n => (k14 x n).trans (r13 x o h n)
    have e14_lt := (k14 _ np_lt).trans e13_lt
    have e14_d0 := (k14 _ np_d0).trans e13_d0
    have e14_d1 := (k14 _ np_d1).trans e13_d1
    have e14_cs := (k14 _ np_cs).trans e13_cs
    repeat walk_at "s"
    refine ⟨by walk_at "len", fun ts h_ts => ?_⟩
    have np_ts : ts ≠ p := (ne_of_none i14 h_ts).symm
    have n_lt_ts : lt ≠ ts := ne_of_none e14_lt h_ts
    have n_d0_ts : d0 ≠ ts := ne_of_none e14_d0 h_ts
    have n_d1_ts : d1 ≠ ts := ne_of_none e14_d1 h_ts
    have n_cs_ts : cs ≠ ts := ne_of_none e14_cs h_ts
    have e15_ts : upd H14 ts (.tup [.int (-1), .int (-1)]) ts = some (.tup [.int (-1), .int (-1)]) := upd_same
    have k15 : ∀ y, y ≠ ts → upd H14 ts (.tup [.int (-1), .int (-1)]) y = H14 y := fun y h => upd_ne h
    generalize upd H14 ts (.tup [.int (-1), .int (-1)]) = H15 at e15_ts k15 ⊢
    have r15 : ∀ x o, H x = some o → x ≠ p → H15 x = some o := fun x o h n => (k15 x (ne_of_none (r14 x o h n) h_ts)).trans (r14 x o h n)
    have z_ts : H ts = none := (by cases ez : H ts with | none => rfl | some o => exact absurd (r14 _ o ez np_ts) (by rw [h_ts]; intro q; cases q))
    have i15 := (k15 _ np_ts.symm).trans i14
    have e15_lt := (k15 _ n_lt_ts).trans e14_lt
    have e15_d0 := (k15 _ n_d0_ts).trans e14_d0
    have e15_d1 := (k15 _ n_d1_ts).trans e14_d1
    have e15_cs := (k15 _ n_cs_ts).trans e14_cs
    repeat walk_at "s"
    refine fld_step i15 c T.n_Tunnel__tops (by show 8 < 1000; decide) (fun H16 i16 k16 => ?_)
    have r16 : ∀ x o, H x = some o → x ≠ p → H16 x = some o := fun x o h n => (k16 x n).trans (r15 x o h n)
    have e16_lt := (k16 _ np_lt).trans e15_lt
    have e16_d0 := (k16 _ np_d0).trans e15_d0
    have e16_d1 := (k16 _ np_d1).trans e15_d1
    have e16_cs := (k16 _ np_cs).trans e15_cs
    have e16_ts := (k16 _ np_ts).trans e15_ts
    repeat walk_at "s"
    refine ⟨by walk_at "len", fun rv h_rv => ?_⟩
    have np_rv : rv ≠ p := (ne_of_none i16 h_rv).symm
    have n_lt_rv : lt ≠ rv := ne_of_none e16_lt h_rv
    have n_d0_rv : d0 ≠ rv := ne_of_none e16_d0 h_rv
    have n_d1_rv : d1 ≠ rv := ne_of_none e16_d1 h_rv
    have n_cs_rv : cs ≠ rv := ne_of_none e16_cs h_rv
    have n_ts_rv : ts ≠ rv := ne_of_none e16_ts h_rv
    have e17_rv : upd H16 rv (.lst []) rv = some (.lst []) := upd_same
    have k17 : ∀ y, y ≠ rv → upd H16 rv (.lst []) y = H16 y := fun y h => upd_ne h
    generalize upd H16 rv (.lst []) = H17 at e17_rv k17 ⊢
    have r17 : ∀ x o, H x = some o → x ≠ p → H17 x = some o := fun x o h n => (k17 x (ne_of_none (r16 x o h n) h_rv)).trans (r16 x o h n)
    have z_rv : H rv = none := (by cases ez : H rv with | none => rfl | some o => exact absurd (r16 _ o ez np_rv) (by rw [h_rv]; intro q; cases q))
    have i17 := (k17 _ np_rv.symm).trans i16
    have e17_lt := (k17 _ n_lt_rv).trans e16_lt
    have e17_d0 := (k17 _ n_d0_rv).trans e16_d0
    have e17_d1 := (k17 _ n_d1_rv).trans e16_d1
    have e17_cs := (k17 _ n_cs_rv).trans e16_cs
    have e17_ts := (k17 _ n_ts_rv).trans e16_ts
    repeat walk_at "s"
    refine fld_step i17 c T.n_Tunnel__received (by show 9 < 1000; decide) (fun H18 i18 k18 => ?_)
    have r18 : ∀ x o, H x = some o → x ≠ p → H18 x = some o := fun x o h n => (k18 x n).trans (r17 x o h n)
    have e18_lt := (k18 _ np_lt).trans e17_lt
    have e18_d0 := (k18 _ np_d0).trans e17_d0
    have e18_d1 := (k18 _ np_d1).trans e17_d1
    have e18_cs := (k18 _ np_cs).trans e17_cs
    have e18_ts := (k18 _ np_ts).trans e17_ts
    have e18_rv := (k18 _ np_rv).trans e17_rv
    refine q ⟨p, dx, lt, cs, d0, d1, ts, rv⟩ H18 rfl r18 (fun x hx => ?_) ⟨i18, ⟨[], e18_lt, .nil⟩, e18_cs, e18_d0, e18_d1, e18_ts, e18_rv, n_d0_d1, n_lt_rv⟩
    simp only [ft, List.mem_cons, List.not_mem_nil, or_false] at hx
    rcases hx with rfl | rfl | rfl | rfl | rfl
    · exact .inl rfl
    · exact .inr z_lt
    · exact .inr z_d0
    · exact .inr z_d1
    · exact .inr z_rv
theorem okTunnel__renew (T : Top K mg) : FnOk P w K mg base CX0 1 T.fTunnel__renew T.dTunnel__renew ["self", "epoch"] (sp_renew T.C_Tunnel) := by
  refine T.FTunnel__renew.ok scTunnel__renew (fun vs H Q E h => ?_) (fun cdv A outer s H vs Q E hr h => ?_)
  · obtain ⟨a, S, e, rfl, _⟩ := h
    rfl
  · obtain ⟨a, S, e, rfl, U, q⟩ := h
    refine ⟨_, (pss_cons (ps_if (pt_cmpR op_eq (pv 1) (pe_op op_add (pe_fld (pv 0) rfl) pe_int) (nomark _))
    (pss_cons (ps_fld (pv 0) (pe_tup (pa_cons pe_dnewK (pa_cons (pe_ix ix_tup (pe_fld (pv 0) rfl) pe_int (fun _ _ => rfl)) pa_nil))) rfl)
     (pss_one (ps_fld (pv 0) (pe_tup (pa_cons (pe_un un_neg pe_int) (pa_cons (pe_ix ix_tup (pe_fld (pv 0) rfl) pe_int (fun _ _ => rfl)) pa_nil))) rfl)))
    (pss_cons (ps_fld (pv 0) (pe_tup (pa_cons pe_dnewK (pa_cons pe_dnewK pa_nil))) rfl)
     (pss_one (ps_fld (pv 0) (pe_tup (pa_cons (pe_un un_neg pe_int) (pa_cons (pe_un un_neg pe_int) pa_nil))) rfl))))
    (pss_one (ps_fld (pv 0) (pv 1) rfl))), ?_⟩
    repeat walk_at "s"
    refine w_fldA U.ins T.cl_Tunnel T.n_Tunnel__newest (tf7 a S) ?_
    repeat walk_at "s"
    refine ite2 (fun h => ?_) (fun h => ?_)
    · have he := of_decide_eq_true h
      repeat walk_at "s"
      intro d0 hd0
      have s1 := sm_new (o := .dK []) hd0
      have e1 := upd_self2 hd0 (.dK [])
      generalize upd H d0 (.dK []) = H1 at s1 e1 ⊢
      have U1 := U.same s1
      repeat walk_at "s"
      refine w_fldA U1.ins T.cl_Tunnel T.n_Tunnel__counts (tf8 a S) ?_
      repeat walk_at "s"
      refine w_ixT (SqT.of U1.cs) (atI_nat (j := 0) rfl) ?_
      repeat walk_at "s"
      refine ⟨by walk_at "len", fun cs hcs => ?_⟩
      have s2 := sm_new (o := .tup [.ref d0, .ref a.d0]) hcs
      have e2 := upd_self2 hcs (.tup [.ref d0, .ref a.d0])
      generalize upd H1 cs (.tup [.ref d0, .ref a.d0]) = H2 at s2 e2 ⊢
      have U2 := U1.same s2
      repeat walk_at "s"
      refine fld_step U2.ins T.cl_Tunnel T.n_Tunnel__counts (tfs_len a S) (fun H3 i3 k3 => ?_)
      replace i3 : H3 a.p = some (.ins T.C_Tunnel a.dx (tfs { a with cs := cs, d0 := d0, d1 := a.d0 } S)) := i3
      have t3 : H3 a.ts = some (.tup [.int S.t0, .int S.t1]) := (k3 _ (ne_of U2.ts U2.ins (by intro z; cases z))).trans U2.ts
      repeat walk_at "s"
      refine w_fldA i3 T.cl_Tunnel T.n_Tunnel__tops (tf9 _ S) ?_
      repeat walk_at "s"
      refine ⟨by walk_at "len", fun ts hts => ?_⟩
      have s4 := sm_new (o := .tup [.int (-1), .int S.t0]) hts
      have e4 := upd_self2 hts (.tup [.int (-1), .int S.t0])
      generalize upd H3 ts (.tup [.int (-1), .int S.t0]) = H4 at s4 e4 ⊢
      repeat walk_at "s"
      refine fld_step (s4 _ _ i3) T.cl_Tunnel T.n_Tunnel__tops (tfs_len _ S) (fun H5 i5 k5 => ?_)
      replace i5 : H5 a.p = some (.ins T.C_Tunnel a.dx (tfs { a with cs := cs, d0 := d0, d1 := a.d0, ts := ts } S)) := i5
      repeat walk_at "s"
      refine fld_step i5 T.cl_Tunnel T.n_Tunnel__newest (tfs_len _ S) (fun H6 i6 k6 => ?_)
      have er : renew S e = { S with c0 := [], c1 := S.c0, t0 := -1, t1 := S.t0, nw := e } := by unfold renew; rw [if_pos he]
      have all : ∀ x o, H2 x = some o → x ≠ a.p → H6 x = some o := fun x o h n => (k6 x n).trans ((k5 x n).trans (s4 x o ((k3 x n).trans h)))
      obtain ⟨us, hus, dus⟩ := U2.lt
      obtain ⟨p1, p2, p3, p4, p5, p6, p7, p8⟩ := U2.pl
      have tk6 : Tk H2 H6 := fun x vs h => all x _ h (ne_of h U2.ins (by intro z; cases z))
      have hd0p : d0 ≠ a.p := (ne_of_none U.ins hd0).symm
      have htsp : ts ≠ a.p := (ne_of_none i3 hts).symm
      rw [er] at q
      refine q { a with cs := cs, d0 := d0, d1 := a.d0, ts := ts } H6 rfl (fun x o h n => all x o (s2 _ _ (s1 _ _ h)) (fun z => n (by rw [z]; simp [ft]))) (fun x hx => ?_) ⟨i6, ⟨us, all _ _ hus p1.symm, dus.mono tk6⟩, tk6 _ _ e2, all _ _ (s2 _ _ e1) hd0p, all _ _ U2.e0 p2.symm, (k6 _ htsp).trans ((k5 _ htsp).trans e4), all _ _ U2.rv p4.symm, (ne_of_none U.e0 hd0).symm, U.nl⟩
      simp only [ft, List.mem_cons, List.not_mem_nil, or_false] at hx
      rcases hx with rfl | rfl | rfl | rfl | rfl
      · exact .inl (by simp [ft])
      · exact .inl (by simp [ft])
      · exact .inr hd0
      · exact .inl (by simp [ft])
      · exact .inl (by simp [ft])
    · have he : ¬ e = S.nw + 1 := of_decide_eq_false (ofb h)
      repeat walk_at "s"
      intro d0 hd0
      have s1 := sm_new (o := .dK []) hd0
      have e1 := upd_self2 hd0 (.dK [])
      generalize upd H d0 (.dK []) = H1 at s1 e1 ⊢
      repeat walk_at "s"
      intro d1 hd1
      have s1b := sm_new (o := .dK []) hd1
      have e1b := upd_self2 hd1 (.dK [])
      generalize upd H1 d1 (.dK []) = H1b at s1b e1b ⊢
      repeat walk_at "s"
      refine ⟨by walk_at "len", fun cs hcs => ?_⟩
      have s2 := sm_new (o := .tup [.ref d0, .ref d1]) hcs
      have e2 := upd_self2 hcs (.tup [.ref d0, .ref d1])
      generalize upd H1b cs (.tup [.ref d0, .ref d1]) = H2 at s2 e2 ⊢
      have s12 := (s1.trans s1b).trans s2
      have U2 := U.same s12
      repeat walk_at "s"
      refine fld_step U2.ins T.cl_Tunnel T.n_Tunnel__counts (tfs_len a S) (fun H3 i3 k3 => ?_)
      replace i3 : H3 a.p = some (.ins T.C_Tunnel a.dx (tfs { a with cs := cs, d0 := d0, d1 := d1 } S)) := i3
      repeat walk_at "s"
      refine ⟨by walk_at "len", fun ts hts => ?_⟩
      have s4 := sm_new (o := .tup [.int (-1), .int (-1)]) hts
      have e4 := upd_self2 hts (.tup [.int (-1), .int (-1)])
      generalize upd H3 ts (.tup [.int (-1), .int (-1)]) = H4 at s4 e4 ⊢
      repeat walk_at "s"
      refine fld_step (s4 _ _ i3) T.cl_Tunnel T.n_Tunnel__tops (tfs_len _ S) (fun H5 i5 k5 => ?_)
      replace i5 : H5 a.p = some (.ins T.C_Tunnel a.dx (tfs { a with cs := cs, d0 := d0, d1 := d1, ts := ts } S)) := i5
      repeat walk_at "s"
      refine fld_step i5 T.cl_Tunnel T.n_Tunnel__newest (tfs_len _ S) (fun H6 i6 k6 => ?_)
      have er : renew S e = { S with c0 := [], c1 := [], t0 := -1, t1 := -1, nw := e } := by unfold renew; rw [if_neg he]
      have all : ∀ x o, H2 x = some o → x ≠ a.p → H6 x = some o := fun x o h n => (k6 x n).trans ((k5 x n).trans (s4 x o ((k3 x n).trans h)))
      obtain ⟨us, hus, dus⟩ := U2.lt
      obtain ⟨p1, p2, p3, p4, p5, p6, p7, p8⟩ := U2.pl
      have tk6 : Tk H2 H6 := fun x vs h => all x _ h (ne_of h U2.ins (by intro z; cases z))
      have hd0p : d0 ≠ a.p := (ne_of_none U.ins hd0).symm
      have hd1p : d1 ≠ a.p := (ne_of_none (s1 _ _ U.ins) hd1).symm
      have htsp : ts ≠ a.p := (ne_of_none i3 hts).symm
      rw [er] at q
      refine q { a with cs := cs, d0 := d0, d1 := d1, ts := ts } H6 rfl (fun x o h n => all x o (s12 _ _ h) (fun z => n (by rw [z]; simp [ft]))) (fun x hx => ?_) ⟨i6, ⟨us, all _ _ hus p1.symm, dus.mono tk6⟩, tk6 _ _ e2, all _ _ (s2 _ _ (s1b _ _ e1)) hd0p, all _ _ (s2 _ _ e1b) hd1p, (k6 _ htsp).trans ((k5 _ htsp).trans e4), all _ _ U2.rv p4.symm, ne_of_none e1 hd1, U.nl⟩
      simp only [ft, List.mem_cons, List.not_mem_nil, or_false] at hx
      rcases hx with rfl | rfl | rfl | rfl | rfl
      · exact .inl (by simp [ft])
      · exact .inl (by simp [ft])
      · exact .inr hd0
      · exact .inr (s1.free hd1)
      · exact .inl (by simp [ft])
theorem okTunnel__judged (T : Top K mg) : FnOk P w K mg base CX0 1 T.fTunnel__judged T.dTunnel__judged ["self", "back", "number", "count"] (sp_judged T.C_Tunnel) := by
  refine T.FTunnel__judged.ok scTunnel__judged (fun vs H Q E h => ?_) (fun cdv A outer s H vs Q E hr h => ?_)
  · obtain ⟨a, S, back, n, c, rfl, _⟩ := h
    rfl
  · obtain ⟨a, S, back, n, c, rfl, U, hb, l0, l1, lr, q⟩ := h
    have hu := hu_of hr
    refine ⟨_, (pss_cons (ps_set (i := 4) scTunnel__judged.nd rfl (Or.inl rfl) (pe_ix ix_tup (pe_fld (pv 0) rfl) (pv 1) (fun _ _ => rfl)))
    (pss_cons (ps_if (pt_cmpR op_le (pv 3) (pe_op op_sub (pv 4) (pe_fld (pv 0) rfl)) (nomark _))
     (pss_one (ps_ret pe_str))
     pss_nil)
     (pss_cons (ps_if (pt_cmp (pc_din hu (pv 3) (pe_ix ix_tup (pe_fld (pv 0) rfl) (pv 1) (fun _ _ => rfl))))
      (pss_one (ps_ret pe_str))
      pss_nil)
      (pss_cons (ps_dput hu (pe_ix ix_tup (pe_fld (pv 0) rfl) (pv 1) (fun _ _ => rfl)) (pv 3) pe_bl rfl)
       (pss_cons (ps_if (pt_cmpR op_gt (pv 3) (pv 4) (nomark _))
        (pss_one (ps_fld (pv 0) (pe_ifExp (pt_cmpR op_eq (pv 1) pe_int (nomark _)) (pe_tup (pa_cons (pv 3) (pa_cons (pe_ix ix_tup (pe_fld (pv 0) rfl) pe_int (fun _ _ => rfl)) pa_nil))) (pe_tup (pa_cons (pe_ix ix_tup (pe_fld (pv 0) rfl) pe_int (fun _ _ => rfl)) (pa_cons (pv 3) pa_nil)))) rfl))
        pss_nil)
        (pss_cons (ps_expr (pe_bm PySem.F.plainAttrs_list PySem.F.slot_list_append PySem.F.type_list_append mt_append (pe_fld (pv 0) rfl) (pa_cons (pv 2) pa_nil)))
         (pss_one (ps_ret pe_str)))))))), ?_⟩
    repeat walk_at "s"
    refine w_fldA U.ins T.cl_Tunnel T.n_Tunnel__tops (tf9 a S) ?_
    repeat walk_at "s"
    obtain rfl | rfl : back = 0 ∨ back = 1 := by omega
    · refine w_ixT (SqT.of U.ts) (atI_nat (j := 0) rfl) ?_
      repeat walk_at "s"
      refine w_fldA U.ins T.cl_Tunnel T.n_Tunnel_window (tf1 a S) ?_
      repeat walk_at "s"
      refine ite2 (fun h => ?_) (fun h1 => ?_)
      · have ej : jdg S 0 n c = (("late" : Str), S) := by unfold jdg; rw [if_pos rfl, if_pos (of_decide_eq_true h)]
        have qq := q a H rfl (Frm.same (Same.refl H)) (Own.refl _ _)
        rw [ej] at qq
        repeat walk_at "s"
        exact qq U
      · have hl : ¬ c ≤ S.t0 - S.win := of_decide_eq_false (ofb h1)
        repeat walk_at "s"
        refine w_fldA U.ins T.cl_Tunnel T.n_Tunnel__counts (tf8 a S) ?_
        repeat walk_at "s"
        refine w_ixT (SqT.of U.cs) (atI_nat (j := 0) rfl) ?_
        refine w_dgoI U.e0 (o := _) rfl ?_
        rw [kz_val]
        repeat walk_at "s"
        refine ite2 (fun h => ?_) (fun h2 => ?_)
        · have ej : jdg S 0 n c = (("again" : Str), S) := by unfold jdg; rw [if_pos rfl, if_neg hl, if_pos (of_decide_eq_true h)]
          have qq := q a H rfl (Frm.same (Same.refl H)) (Own.refl _ _)
          rw [ej] at qq
          repeat walk_at "s"
          exact qq U
        · have hc : ¬ c ∈ S.c0 := of_decide_eq_false (ofb h2)
          have ej : jdg S 0 n c = (("taken" : Str), { S with c0 := S.c0 ++ [c], t0 := if c > S.t0 then c else S.t0, rc := S.rc ++ [(n : Int)] }) := by unfold jdg; rw [if_pos rfl, if_neg hl, if_neg hc]
          rw [ej] at q
          repeat walk_at "s"
          refine w_fldA U.ins T.cl_Tunnel T.n_Tunnel__counts (tf8 a S) ?_
          repeat walk_at "s"
          refine w_ixT (SqT.of U.cs) (atI_nat (j := 0) rfl) ?_
          repeat walk_at "s"
          refine w_dpI U.e0 (by unfold kz; rw [List.length_map]; exact big99 (by omega)) ?_
          rw [kz_put _ _ hc]
          have U1 := U.put0 (c := c)
          have f1 : Frm (ft a) H (upd H a.d0 (.dK (kz (S.c0 ++ [c])))) := frm_in (Frm.same (Same.refl H)) (by simp [ft])
          generalize upd H a.d0 (.dK (kz (S.c0 ++ [c]))) = H1 at U1 f1 ⊢
          repeat walk_at "s"
          refine ite2 (fun h => ?_) (fun h3 => ?_)
          · have ht : c > S.t0 := of_decide_eq_true h
            rw [if_pos ht] at q
            repeat walk_at "s"
            refine w_tif ?_
            repeat walk_at "s"
            refine w_it (by decide) ?_
            repeat walk_at "s"
            refine w_fldA U1.ins T.cl_Tunnel T.n_Tunnel__tops (tf9 a _) ?_
            repeat walk_at "s"
            refine w_ixT (SqT.of U1.ts) (atI_nat (j := 1) rfl) ?_
            repeat walk_at "s"
            refine ⟨by walk_at "len", fun ts hts => ?_⟩
            have U2 := U1.tops (q := ts) (x := c) (y := S.t1) hts
            have f2 := frm_p (o := .ins T.C_Tunnel a.dx (tfs { a with ts := ts } { S with c0 := S.c0 ++ [c], t0 := c, t1 := S.t1 })) (frm_new (o := .tup [.int c, .int S.t1]) f1 hts)
            repeat walk_at "s"
            refine ⟨a.p, _, _, _, rfl, by rw [upd_ne (ne_of_none U1.ins hts)]; exact U1.ins, T.cl_Tunnel, T.n_Tunnel__tops, tfs_len a _, ?_⟩
            have ep : putF (Str.ofString "_tops") (V.ref ts) (tfs a { S with c0 := S.c0 ++ [c] }) = tfs { a with ts := ts } { S with c0 := S.c0 ++ [c], t0 := c, t1 := S.t1 } := rfl
            rw [ep]
            generalize upd (upd H1 ts (.tup [.int c, .int S.t1])) a.p (.ins T.C_Tunnel a.dx (tfs { a with ts := ts } { S with c0 := S.c0 ++ [c], t0 := c, t1 := S.t1 })) = H2 at U2 f2 ⊢
            repeat walk_at "s"
            refine w_fldA U2.ins T.cl_Tunnel T.n_Tunnel__received (tf10 _ _) ?_
            refine w_tyl U2.rv ?_
            repeat walk_at "s"
            refine w_append U2.rv (by rw [inz_len]; exact big99 (by show S.rc.length ≤ _; omega)) ?_
            have U3 := U2.recd (n := (n : Int))
            have f3 := frm_in (o := .lst (inz (S.rc ++ [(n : Int)]))) (x := a.rv) f2 (by simp [ft])
            have ez : inz S.rc ++ [V.int (n : Int)] = inz (S.rc ++ [(n : Int)]) := by rw [inz_app]; rfl
            rw [ez]
            repeat walk_at "s"
            exact q { a with ts := ts } _ rfl f3 (Own.refl _ _) U3
          · have ht : ¬ c > S.t0 := of_decide_eq_false (ofb h3)
            rw [if_neg ht] at q
            repeat walk_at "s"
            refine w_fldA U1.ins T.cl_Tunnel T.n_Tunnel__received (tf10 a _) ?_
            refine w_tyl U1.rv ?_
            repeat walk_at "s"
            refine w_append U1.rv (by rw [inz_len]; exact big99 (by show S.rc.length ≤ _; omega)) ?_
            have U2 := U1.recd (n := (n : Int))
            have f2 := frm_in (o := .lst (inz (S.rc ++ [(n : Int)]))) (x := a.rv) f1 (by simp [ft])
            have ez : inz S.rc ++ [V.int (n : Int)] = inz (S.rc ++ [(n : Int)]) := by rw [inz_app]; rfl
            rw [ez]
            repeat walk_at "s"
            exact q a _ rfl f2 (Own.refl _ _) U2
    · refine w_ixT (SqT.of U.ts) (atI_nat (j := 1) rfl) ?_
      repeat walk_at "s"
      refine w_fldA U.ins T.cl_Tunnel T.n_Tunnel_window (tf1 a S) ?_
      repeat walk_at "s"
      refine ite2 (fun h => ?_) (fun h1 => ?_)
      · have ej : jdg S 1 n c = (("late" : Str), S) := by unfold jdg; rw [if_neg (by decide), if_pos (of_decide_eq_true h)]
        have qq := q a H rfl (Frm.same (Same.refl H)) (Own.refl _ _)
        rw [ej] at qq
        repeat walk_at "s"
        exact qq U
      · have hl : ¬ c ≤ S.t1 - S.win := of_decide_eq_false (ofb h1)
        repeat walk_at "s"
        refine w_fldA U.ins T.cl_Tunnel T.n_Tunnel__counts (tf8 a S) ?_
        repeat walk_at "s"
        refine w_ixT (SqT.of U.cs) (atI_nat (j := 1) rfl) ?_
        refine w_dgoI U.e1 (o := _) rfl ?_
        rw [kz_val]
        repeat walk_at "s"
        refine ite2 (fun h => ?_) (fun h2 => ?_)
        · have ej : jdg S 1 n c = (("again" : Str), S) := by unfold jdg; rw [if_neg (by decide), if_neg hl, if_pos (of_decide_eq_true h)]
          have qq := q a H rfl (Frm.same (Same.refl H)) (Own.refl _ _)
          rw [ej] at qq
          repeat walk_at "s"
          exact qq U
        · have hc : ¬ c ∈ S.c1 := of_decide_eq_false (ofb h2)
          have ej : jdg S 1 n c = (("taken" : Str), { S with c1 := S.c1 ++ [c], t1 := if c > S.t1 then c else S.t1, rc := S.rc ++ [(n : Int)] }) := by unfold jdg; rw [if_neg (by decide), if_neg hl, if_neg hc]
          rw [ej] at q
          repeat walk_at "s"
          refine w_fldA U.ins T.cl_Tunnel T.n_Tunnel__counts (tf8 a S) ?_
          repeat walk_at "s"
          refine w_ixT (SqT.of U.cs) (atI_nat (j := 1) rfl) ?_
          repeat walk_at "s"
          refine w_dpI U.e1 (by unfold kz; rw [List.length_map]; exact big99 (by omega)) ?_
          rw [kz_put _ _ hc]
          have U1 := U.put1 (c := c)
          have f1 : Frm (ft a) H (upd H a.d1 (.dK (kz (S.c1 ++ [c])))) := frm_in (Frm.same (Same.refl H)) (by simp [ft])
          generalize upd H a.d1 (.dK (kz (S.c1 ++ [c]))) = H1 at U1 f1 ⊢
          repeat walk_at "s"
          refine ite2 (fun h => ?_) (fun h3 => ?_)
          · have ht : c > S.t1 := of_decide_eq_true h
            rw [if_pos ht] at q
            repeat walk_at "s"
            refine w_tif ?_
            repeat walk_at "s"
            refine w_if (by decide) ?_
            repeat walk_at "s"
            refine w_fldA U1.ins T.cl_Tunnel T.n_Tunnel__tops (tf9 a _) ?_
            repeat walk_at "s"
            refine w_ixT (SqT.of U1.ts) (atI_nat (j := 0) rfl) ?_
            repeat walk_at "s"
            refine ⟨by walk_at "len", fun ts hts => ?_⟩
            have U2 := U1.tops (q := ts) (x := S.t0) (y := c) hts
            have f2 := frm_p (o := .ins T.C_Tunnel a.dx (tfs { a with ts := ts } { S with c1 := S.c1 ++ [c], t0 := S.t0, t1 := c })) (frm_new (o := .tup [.int S.t0, .int c]) f1 hts)
            repeat walk_at "s"
            refine ⟨a.p, _, _, _, rfl, by rw [upd_ne (ne_of_none U1.ins hts)]; exact U1.ins, T.cl_Tunnel, T.n_Tunnel__tops, tfs_len a _, ?_⟩
            have ep : putF (Str.ofString "_tops") (V.ref ts) (tfs a { S with c1 := S.c1 ++ [c] }) = tfs { a with ts := ts } { S with c1 := S.c1 ++ [c], t0 := S.t0, t1 := c } := rfl
            rw [ep]
            generalize upd (upd H1 ts (.tup [.int S.t0, .int c])) a.p (.ins T.C_Tunnel a.dx (tfs { a with ts := ts } { S with c1 := S.c1 ++ [c], t0 := S.t0, t1 := c })) = H2 at U2 f2 ⊢
            repeat walk_at "s"
            refine w_fldA U2.ins T.cl_Tunnel T.n_Tunnel__received (tf10 _ _) ?_
            refine w_tyl U2.rv ?_
            repeat walk_at "s"
            refine w_append U2.rv (by rw [inz_len]; exact big99 (by show S.rc.length ≤ _; omega)) ?_
            have U3 := U2.recd (n := (n : Int))
            have f3 := frm_in (o := .lst (inz (S.rc ++ [(n : Int)]))) (x := a.rv) f2 (by simp [ft])
            have ez : inz S.rc ++ [V.int (n : Int)] = inz (S.rc ++ [(n : Int)]) := by rw [inz_app]; rfl
            rw [ez]
            repeat walk_at "s"
            exact q { a with ts := ts } _ rfl f3 (Own.refl _ _) U3
          · have ht : ¬ c > S.t1 := of_decide_eq_false (ofb h3)
            rw [if_neg ht] at q
            repeat walk_at "s"
            refine w_fldA U1.ins T.cl_Tunnel T.n_Tunnel__received (tf10 a _) ?_
            refine w_tyl U1.rv ?_
            repeat walk_at "s"
            refine w_append U1.rv (by rw [inz_len]; exact big99 (by show S.rc.length ≤ _; omega)) ?_
            have U2 := U1.recd (n := (n : Int))
            have f2 := frm_in (o := .lst (inz (S.rc ++ [(n : Int)]))) (x := a.rv) f1 (by simp [ft])
            have ez : inz S.rc ++ [V.int (n : Int)] = inz (S.rc ++ [(n : Int)]) := by rw [inz_app]; rfl
            rw [ez]
            repeat walk_at "s"
            exact q a _ rfl f2 (Own.refl _ _) U2
theorem okTunnel_deliver (T : Top K mg) : FnOk P w K mg base (L2.CX P w) 2 T.fTunnel_deliver T.dTunnel_deliver ["self", "number"] (sp_deliver T.C_Tunnel T.X_UnknownName) := by
  refine T.FTunnel_deliver.okX scTunnel_deliver (fun vs H Q E h => ?_) (fun cdv A outer s H vs Q E hr h => ?_)
  · obtain ⟨a, S, i, rfl, _⟩ := h
    rfl
  · obtain ⟨a, S, i, rfl, U, l0, l1, lr, q, qe⟩ := h
    refine ⟨_, (pss_cons (ps_asg (pe_methT (pv 0) T.cl_Tunnel T.mTunnel_letter (okTunnel_letter T) hr T.bTunnel_letter (fun σ => passAt (takes_of rfl rfl rfl rfl) σ) (pa_cons (pv 1) pa_nil)) (pg_tup (by rfl) (pgs_cons (pg_name (i := 2) scTunnel_deliver.nd rfl (Or.inl rfl)) (pgs_cons (pg_name (i := 3) scTunnel_deliver.nd rfl (Or.inl rfl)) (pgs_cons (pg_name (i := 4) scTunnel_deliver.nd rfl (Or.inl rfl)) pgs_nil)))))
    (pss_cons (ps_if (pt_cmpR op_lt (pv 2) (pe_op op_sub (pe_fld (pv 0) rfl) pe_int) (nomark _))
     (pss_one (ps_ret pe_str))
     pss_nil)
     (pss_cons (ps_if (pt_cmpR op_gt (pv 2) (pe_fld (pv 0) rfl) (nomark _))
      (pss_one (ps_expr (pe_meth (pv 0) T.cl_Tunnel T.mTunnel__renew (okTunnel__renew T) hr T.bTunnel__renew .nil pass0 (pa_cons (pv 2) pa_nil))))
      pss_nil)
      (pss_one (ps_ret (pe_meth (pv 0) T.cl_Tunnel T.mTunnel__judged (okTunnel__judged T) hr T.bTunnel__judged .nil pass0 (pa_cons (pe_op op_sub (pe_fld (pv 0) rfl) (pv 2)) (pa_cons (pv 1) (pa_cons (pv 3) pa_nil))))))))), ?_⟩
    repeat walk_at "s"
    refine w_methS ?_
    repeat walk_at "s"
    refine ⟨a.p, _, _, rfl, U.ins, tn1 a S, ?_⟩
    repeat walk_at "s"
    refine ⟨a, S, i, rfl, U, fun n x ei hn v hv => ?_, fun hb => qe hb⟩
    subst ei
    have q := q n x rfl hn
    refine w_gtup (SqT.of hv) rfl ?_
    repeat walk_at "s"
    refine w_fldA U.ins T.cl_Tunnel T.n_Tunnel__newest (tf7 a S) ?_
    repeat walk_at "s"
    refine ite2 (fun h => ?_) (fun h1 => ?_)
    · have ej : dlv S n x.1 x.2.1 = (("old" : Str), S) := by unfold dlv; rw [if_pos (of_decide_eq_true h)]
      have qq := q a H rfl (Frm.same (Same.refl H)) (Own.refl _ _)
      rw [ej] at qq
      repeat walk_at "s"
      exact qq U
    · have ho : ¬ x.1 < S.nw - 1 := of_decide_eq_false (ofb h1)
      repeat walk_at "s"
      refine w_fldA U.ins T.cl_Tunnel T.n_Tunnel__newest (tf7 a S) ?_
      repeat walk_at "s"
      refine ite2 (fun h => ?_) (fun h2 => ?_)
      · have hn' : x.1 > S.nw := of_decide_eq_true h
        have ej : dlv S n x.1 x.2.1 = jdg (renew S x.1) 0 n x.2.1 := by unfold dlv; rw [if_neg ho, if_pos hn']
        repeat walk_at "s"
        refine ⟨a.p, _, _, rfl, U.ins, tn2 a S, ?_⟩
        repeat walk_at "s"
        refine ⟨a, S, x.1, rfl, U, fun a1 H1 hp1 f1 o1 U1 => ?_⟩
        have ip : H1 a.p = some (.ins T.C_Tunnel a1.dx (tfs a1 (renew S x.1))) := by rw [← hp1]; exact U1.ins
        repeat walk_at "s"
        refine ⟨a.p, _, _, rfl, ip, tn3 a1 _, ?_⟩
        repeat walk_at "s"
        refine w_fldA ip T.cl_Tunnel T.n_Tunnel__newest (tf7 a1 _) ?_
        repeat walk_at "s"
        rw [renew_nw]
        obtain ⟨g0, g1⟩ := renew_len S x.1 l0
        refine ⟨a1, renew S x.1, 0, n, x.2.1, by rw [hp1, Int.sub_self]; rfl, U1, by decide, g0, g1, by rw [renew_rc]; exact lr, fun a2 H2 hp2 f2 o2 U2 => ?_⟩
        have qq := q a2 H2 (hp2.trans hp1) (f1.trans f2 o1) (o1.trans f1 o2)
        rw [ej] at qq
        exact qq U2
      · have hn' : ¬ x.1 > S.nw := of_decide_eq_false (ofb h2)
        have ej : dlv S n x.1 x.2.1 = jdg S (S.nw - x.1).toNat n x.2.1 := by unfold dlv; rw [if_neg ho, if_neg hn']
        repeat walk_at "s"
        refine ⟨a.p, _, _, rfl, U.ins, tn3 a S, ?_⟩
        repeat walk_at "s"
        refine w_fldA U.ins T.cl_Tunnel T.n_Tunnel__newest (tf7 a S) ?_
        repeat walk_at "s"
        refine ⟨a, S, (S.nw - x.1).toNat, n, x.2.1, by rw [show (((S.nw - x.1).toNat : Nat) : Int) = S.nw - x.1 by omega]; rfl, U, by omega, l0, l1, lr, fun a2 H2 hp2 f2 o2 U2 => ?_⟩
        have qq := q a2 H2 hp2 f2 o2
        rw [ej] at qq
        exact qq U2
theorem okTunnel_sealed (T : Top K mg) : FnOk P w K mg base (L2.CX P w) 2 T.fTunnel_sealed T.dTunnel_sealed ["self", "number"] (sp_sealed T.C_Tunnel T.X_UnknownName) := by
  refine T.FTunnel_sealed.okX scTunnel_sealed (fun vs H Q E h => ?_) (fun cdv A outer s H vs Q E hr h => ?_)
  · obtain ⟨a, S, i, rfl, _⟩ := h
    rfl
  · obtain ⟨a, S, i, rfl, U, hb, qe⟩ := h
    refine ⟨_, (pss_cons (ps_asg (pe_methT (pv 0) T.cl_Tunnel T.mTunnel_letter (okTunnel_letter T) hr T.bTunnel_letter (fun σ => passAt (takes_of rfl rfl rfl rfl) σ) (pa_cons (pv 1) pa_nil)) (pg_tup (by rfl) (pgs_cons (pg_name (i := 2) scTunnel_sealed.nd rfl (Or.inl rfl)) (pgs_cons (pg_name (i := 3) scTunnel_sealed.nd rfl (Or.inl rfl)) (pgs_cons (pg_name (i := 4) scTunnel_sealed.nd rfl (Or.inl rfl)) pgs_nil)))))
    (pss_one ps_no)), ?_⟩
    repeat walk_at "s"
    refine w_methS ?_
    repeat walk_at "s"
    refine ⟨a.p, _, _, rfl, U.ins, tn1 a S, ?_⟩
    repeat walk_at "s"
    refine ⟨a, S, i, rfl, U, fun n x ei hn v hv => ?_, fun hb => qe⟩
    have := (List.getElem?_eq_some_iff.mp hn).1
    exact absurd ⟨by omega, by omega⟩ hb
end
/-! ### what is refused -/
def sp_unknown (C : Addr) : Sp := fun vs H Q _ => ∃ (a : TD) (S : TS) (i : Int) (k : Int), vs = [.ref a.p, .int i, .int k] ∧ Tun C a H S ∧ S.c0.length < 5000 ∧ S.c1.length < 5000 ∧ S.rc.length < 5000 ∧ 0 ≤ k ∧ k < 3 ∧ ¬ (0 ≤ i ∧ i < (S.ls.length : Int)) ∧ Q (.bl true) H
def sp_refuses (C : Addr) : Sp := fun vs H Q _ => ∃ (a : TD) (S : TS) (z : Str), vs = [.ref a.p, .str z] ∧ Tun C a H S ∧ S.ls.length < 1000 ∧ z.length ≤ 1000 ∧ ¬ Nm z ∧ ∀ H', Same H H' → Q (.bl true) H'
theorem w_isE {K : PySem.W.Frag} {D a : Addr} {c : V} {cv : Value} {b : Bool} {H : Hp} {Q : VK} (C : ExcC K D) (j : PySem.W.kitOne K (.ref D) cv = some b) (hcv : ∀ u, RelV c u → u = cv) (q : Q (.bl b) H) :
    ∃ D', Value.ref D = Value.ref D' ∧ (none : Option Addr) = none ∧ ExcC K D' ∧ rIsE K D' a [.ref a, c] H Q := ⟨D, rfl, rfl, C, c, cv, b, rfl, hcv, j, q⟩
section
variable {P : Program} {w : World} {K : PySem.W.Frag} {mg : Str → Option Value} {base : Heap}
theorem ok_law_refuses (T : Top K mg) : FnOk P w K mg base CX0 4 T.f_law_refuses T.d_law_refuses ["tunnel", "payload"] (sp_refuses T.C_Tunnel) := by
  refine T.F_law_refuses.ok sc_law_refuses (fun vs H Q E h => ?_) (fun cdv A outer s H vs Q E hr h => ?_)
  · obtain ⟨a, S, z, rfl, _⟩ := h
    rfl
  · obtain ⟨a, S, z, rfl, U, hl, hzl, hz, q⟩ := h
    refine ⟨_, (pss_cons (ps_try_as (i := 2) rfl rfl sc_law_refuses.nd rfl rfl ⟨rfl, by decide, .inl T.gX_BadTunnel⟩ takes0 (fun W pn xe tk _ => (pss_one (ps_expr (pe_methT (pv 0) T.cl_Tunnel T.mTunnel_send (okTunnel_send T) hr T.bTunnel_send (fun σ => passAt tk σ) (pa_cons (pv 1) pa_nil))))) (fun a oe cls d pn hz hf => (pss_one (ps_ret (pe_and (pe_callB (call_isE2 hz hf) (by rfl) T.z_isinstance (by decide +kernel) (pa_cons (pv 2) (pa_cons (pe_glob (v := .ref T.X_MuffError) (by rfl) T.gX_MuffError rfl) pa_nil))) (pe_and (pe_callB (call_isE2 hz hf) (by rfl) T.z_isinstance (by decide +kernel) (pa_cons (pv 2) (pa_cons (pe_bltn (v := .ty "ValueError") (by rfl) T.z_ValueError (by decide +kernel) rfl) pa_nil))) (pe_one (pe_not (pe_callB (call_isE2 hz hf) (by rfl) T.z_isinstance (by decide +kernel) (pa_cons (pv 2) (pa_cons (pe_glob (v := .ref T.X_UnknownName) (by rfl) T.gX_UnknownName rfl) pa_nil)))))))))))
    (pss_one (ps_ret pe_bl))), ?_⟩
    repeat walk_at "s"
    refine w_methS ?_
    repeat walk_at "s"
    refine ⟨a.p, _, _, rfl, U.ins, tn4 a S, ?_⟩
    repeat walk_at "s"
    refine ⟨a, S, z, rfl, U, hzl, hl, fun n => absurd n hz, fun _ H1 s1 => ?_⟩
    refine ⟨true, T.eX_BadTunnel_BadTunnel, fun _ x hx => ?_, fun q => nomatch q⟩
    repeat walk_at "s"
    refine w_isE T.cX_BadTunnel T.jX_BadTunnel_MuffError (fun u h => h) ⟨_, rfl, ?_⟩
    rw [if_pos rfl]
    repeat walk_at "s"
    refine w_isE T.cX_BadTunnel T.jX_BadTunnel_ValueError (fun u h => h) ⟨_, rfl, ?_⟩
    rw [if_pos rfl]
    refine w_notV ?_
    repeat walk_at "s"
    refine w_isE T.cX_BadTunnel T.jX_BadTunnel_UnknownName (fun u h => h) ⟨_, rfl, ?_⟩
    exact q H1 s1
theorem ok_law_unknown (T : Top K mg) : FnOk P w K mg base CX0 3 T.f_law_unknown T.d_law_unknown ["tunnel", "number", "kind"] (sp_unknown T.C_Tunnel) := by
  refine T.F_law_unknown.ok sc_law_unknown (fun vs H Q E h => ?_) (fun cdv A outer s H vs Q E hr h => ?_)
  · obtain ⟨a, S, i, k, rfl, _⟩ := h
    rfl
  · obtain ⟨a, S, i, k, rfl, U, l0, l1, lr, k0, k3, hb, q⟩ := h
    refine ⟨_, (pss_cons (ps_try_as (i := 3) rfl rfl sc_law_unknown.nd rfl rfl ⟨rfl, by decide, .inl T.gX_UnknownName⟩ takes0 (fun W pn xe tk _ => (pss_cons (ps_if (pt_cmpR op_eq (pv 2) pe_int (nomark _))
     (pss_one (ps_expr (pe_methT (pv 0) T.cl_Tunnel T.mTunnel_deliver (okTunnel_deliver T) hr T.bTunnel_deliver (fun σ => passAt tk σ) (pa_cons (pv 1) pa_nil))))
     pss_nil)
     (pss_cons (ps_if (pt_cmpR op_eq (pv 2) pe_int (nomark _))
      (pss_one (ps_expr (pe_methT (pv 0) T.cl_Tunnel T.mTunnel_letter (okTunnel_letter T) (hr.mono (by decide)) T.bTunnel_letter (fun σ => passAt tk σ) (pa_cons (pv 1) pa_nil))))
      pss_nil)
      (pss_one (ps_if (pt_cmpR op_eq (pv 2) pe_int (nomark _))
       (pss_one (ps_expr (pe_methT (pv 0) T.cl_Tunnel T.mTunnel_sealed (okTunnel_sealed T) hr T.bTunnel_sealed (fun σ => passAt tk σ) (pa_cons (pv 1) pa_nil))))
       pss_nil))))) (fun a oe cls d pn hz hf => (pss_one (ps_ret (pe_and (pe_callB (call_isE2 hz hf) (by rfl) T.z_isinstance (by decide +kernel) (pa_cons (pv 3) (pa_cons (pe_glob (v := .ref T.X_MuffError) (by rfl) T.gX_MuffError rfl) pa_nil))) (pe_and (pe_callB (call_isE2 hz hf) (by rfl) T.z_isinstance (by decide +kernel) (pa_cons (pv 3) (pa_cons (pe_bltn (v := .ty "ValueError") (by rfl) T.z_ValueError (by decide +kernel) rfl) pa_nil))) (pe_one (pe_not (pe_callB (call_isE2 hz hf) (by rfl) T.z_isinstance (by decide +kernel) (pa_cons (pv 3) (pa_cons (pe_glob (v := .ref T.X_BadTunnel) (by rfl) T.gX_BadTunnel rfl) pa_nil)))))))))))
    (pss_one (ps_ret pe_bl))), ?_⟩
    have no : ∀ (n : Nat) (x : Int × Int × Str), i = (n : Int) → S.ls[n]? = some x → False := fun n x e hx => hb ⟨by omega, by have := (List.getElem?_eq_some_iff.mp hx).1; omega⟩
    repeat walk_at "s"
    refine ite2 (fun h => ?_) (fun h => ?_)
    · repeat walk_at "s"
      refine w_methS ?_
      repeat walk_at "s"
      refine ⟨a.p, _, _, rfl, U.ins, tn6 a S, ?_⟩
      repeat walk_at "s"
      refine ⟨a, S, i, rfl, U, l0, l1, lr, fun n x e hx => (no n x e hx).elim, fun _ => ?_⟩
      refine ⟨true, T.eX_UnknownName_UnknownName, fun _ x hx => ?_, fun q => nomatch q⟩
      repeat walk_at "s"
      refine w_isE T.cX_UnknownName T.jX_UnknownName_MuffError (fun u h => h) ⟨_, rfl, ?_⟩
      rw [if_pos rfl]
      repeat walk_at "s"
      refine w_isE T.cX_UnknownName T.jX_UnknownName_ValueError (fun u h => h) ⟨_, rfl, ?_⟩
      rw [if_pos rfl]
      refine w_notV ?_
      repeat walk_at "s"
      refine w_isE T.cX_UnknownName T.jX_UnknownName_BadTunnel (fun u h => h) ⟨_, rfl, ?_⟩
      exact q
    · have n0 : ¬ k = 0 := of_decide_eq_false (ofb h)
      repeat walk_at "s"
      refine ite2 (fun h => ?_) (fun h => ?_)
      · repeat walk_at "s"
        refine w_methS ?_
        repeat walk_at "s"
        refine ⟨a.p, _, _, rfl, U.ins, tn1 a S, ?_⟩
        repeat walk_at "s"
        refine ⟨a, S, i, rfl, U, fun n x e hx => (no n x e hx).elim, fun _ => ?_⟩
        refine ⟨true, T.eX_UnknownName_UnknownName, fun _ x hx => ?_, fun q => nomatch q⟩
        repeat walk_at "s"
        refine w_isE T.cX_UnknownName T.jX_UnknownName_MuffError (fun u h => h) ⟨_, rfl, ?_⟩
        rw [if_pos rfl]
        repeat walk_at "s"
        refine w_isE T.cX_UnknownName T.jX_UnknownName_ValueError (fun u h => h) ⟨_, rfl, ?_⟩
        rw [if_pos rfl]
        refine w_notV ?_
        repeat walk_at "s"
        refine w_isE T.cX_UnknownName T.jX_UnknownName_BadTunnel (fun u h => h) ⟨_, rfl, ?_⟩
        exact q
      · have n1 : ¬ k = 1 := of_decide_eq_false (ofb h)
        repeat walk_at "s"
        rw [decide_eq_true (show k = 2 by omega)]
        refine iteT ?_
        repeat walk_at "s"
        refine w_methS ?_
        repeat walk_at "s"
        refine ⟨a.p, _, _, rfl, U.ins, tn7 a S, ?_⟩
        repeat walk_at "s"
        refine ⟨a, S, i, rfl, U, hb, ?_⟩
        refine ⟨true, T.eX_UnknownName_UnknownName, fun _ x hx => ?_, fun q => nomatch q⟩
        repeat walk_at "s"
        refine w_isE T.cX_UnknownName T.jX_UnknownName_MuffError (fun u h => h) ⟨_, rfl, ?_⟩
        rw [if_pos rfl]
        repeat walk_at "s"
        refine w_isE T.cX_UnknownName T.jX_UnknownName_ValueError (fun u h => h) ⟨_, rfl, ?_⟩
        rw [if_pos rfl]
        refine w_notV ?_
        repeat walk_at "s"
        refine w_isE T.cX_UnknownName T.jX_UnknownName_BadTunnel (fun u h => h) ⟨_, rfl, ?_⟩
        exact q
end
/-! ### tunnels that cannot be made -/
theorem made2 {C p dx : Addr} {a : TD} {H3 H' : Hp} (hp : H3 p = none) (hdx : H3 dx = none) (fr : ∀ x o, upd (upd H3 dx (.own p)) p (.ins C dx []) x = some o → x ≠ p → H' x = some o) (ow : ∀ x ∈ ft a, x = p ∨ upd (upd H3 dx (.own p)) p (.ins C dx []) x = none) : Same H3 H' ∧ ∀ x ∈ ft a, H3 x = none := by
  refine ⟨fun x o h => fr x o ?_ (ne_of_none h hp), fun x hx => ?_⟩
  · rw [upd_ne (ne_of_none h hp), upd_ne (ne_of_none h hdx)]; exact h
  · rcases ow x hx with rfl | h
    · exact hp
    · by_cases e1 : x = p
      · rw [e1]; exact hp
      · by_cases e2 : x = dx
        · rw [e2]; exact hdx
        · rw [upd_ne e1, upd_ne e2] at h; exact h
theorem w_makeS {C : Addr} {sp : Sp} {D : L2.St → XK} {t : TA} {σ : L2.St} {H : Hp} {Q : VK} (q : t σ H fun vs H1 => ∀ x dx, H1 x = none → H1 dx = none → dx ≠ x → sp (.ref x :: vs) (upd (upd H1 dx (.own x)) x (.ins C dx [])) (fun v H2 => v = .non ∧ Q (.ref x) H2) (D σ)) : tMakeS C sp D t σ H Q := q
def sp_makes : Sp := fun vs H Q _ => ∃ (win : Int) (z1 z2 : Str), vs = [.int win, .str z1, .str z2] ∧ z1.length ≤ 1000 ∧ z2.length ≤ 1000 ∧ (okI win z1 z2 → ∀ H', Same H H' → Q (.bl true) H') ∧ (¬ okI win z1 z2 → ∀ H', Same H H' → Q (.bl false) H')
section
variable {P : Program} {w : World} {K : PySem.W.Frag} {mg : Str → Option Value} {base : Heap}
theorem ok_law_makes (T : Top K mg) : FnOk P w K mg base CX0 5 T.f_law_makes T.d_law_makes ["size", "one", "two"] sp_makes := by
  refine T.F_law_makes.ok sc_law_makes (fun vs H Q E h => ?_) (fun cdv A outer s H vs Q E hr h => ?_)
  · obtain ⟨win, z1, z2, rfl, _⟩ := h
    rfl
  · obtain ⟨win, z1, z2, rfl, l1, l2, q, qe⟩ := h
    refine ⟨_, (pss_cons (ps_try_as (i := 3) rfl rfl sc_law_makes.nd rfl rfl ⟨rfl, by decide, .inl T.gX_BadTunnel⟩ takes0 (fun W pn xe tk _ => (pss_one (ps_expr (pe_makeT T.mk_Tunnel (okTunnel___init__ T) hr (by rfl) T.g_Tunnel T.bTunnel___init__ (fun σ => passAt tk σ) (pa_cons (pv 0) (pa_cons (pv 1) (pa_cons (pv 2) pa_nil))))))) (fun a oe cls d pn hz hf => (pss_one (ps_ret (pe_or (pe_not (pe_callB (call_isE2 hz hf) (by rfl) T.z_isinstance (by decide +kernel) (pa_cons (pv 3) (pa_cons (pe_glob (v := .ref T.X_MuffError) (by rfl) T.gX_MuffError rfl) pa_nil)))) (pe_one (pe_not (pe_callB (call_isE2 hz hf) (by rfl) T.z_isinstance (by decide +kernel) (pa_cons (pv 3) (pa_cons (pe_bltn (v := .ty "ValueError") (by rfl) T.z_ValueError (by decide +kernel) rfl) pa_nil))))))))))
    (pss_one (ps_ret pe_bl))), ?_⟩
    repeat walk_at "s"
    refine w_makeS ?_
    repeat walk_at "s"
    intro p dx hp hdx hne
    have sm : Same H (upd (upd H dx (.own p)) p (.ins T.C_Tunnel dx [])) := (sm_new hdx).trans (sm_new (by rw [upd_ne hne.symm]; exact hp))
    refine ⟨p, dx, win, z1, z2, rfl, upd_same, l1, l2, fun ok a H1 ea fr ow U => ?_, fun nok H1 s1 => ?_⟩
    · obtain ⟨s1, -⟩ := made2 hp hdx fr ow
      refine ⟨rfl, ?_⟩
      repeat walk_at "s"
      exact q ok H1 s1
    · refine ⟨true, T.eX_BadTunnel_BadTunnel, fun _ x hx => ?_, fun q => nomatch q⟩
      repeat walk_at "s"
      refine w_notV ?_
      repeat walk_at "s"
      refine w_isE T.cX_BadTunnel T.jX_BadTunnel_MuffError (fun u h => h) ⟨_, rfl, ⟨_, rfl, ?_⟩⟩
      refine iteF ?_
      refine w_notV ?_
      repeat walk_at "s"
      refine w_isE T.cX_BadTunnel T.jX_BadTunnel_ValueError (fun u h => h) ⟨_, rfl, ?_⟩
      exact qe nok H1 (sm.trans s1)
end
/-! ### the words of deliveries -/
abbrev Ev := Int × Int
def IsNew (nw : Int) (P : Ev → Prop) : Prop := 0 ≤ nw ∧ (∀ x, P x → x.1 ≤ nw) ∧ (nw = 0 ∨ ∃ x, P x ∧ x.1 = nw)
def IsTop (tp e : Int) (P : Ev → Prop) : Prop := (∀ c, P (e, c) → c ≤ tp) ∧ (tp = -1 ∨ P (e, tp))
theorem IsNew.uniq {n m : Int} {P : Ev → Prop} (h : IsNew n P) (g : IsNew m P) : n = m := by
  obtain ⟨h0, h1, h2⟩ := h
  obtain ⟨g0, g1, g2⟩ := g
  have a : n ≤ m := by
    rcases h2 with rfl | ⟨x, hx, rfl⟩
    · exact g0
    · exact g1 x hx
  have b : m ≤ n := by
    rcases g2 with rfl | ⟨x, hx, rfl⟩
    · exact h0
    · exact h1 x hx
  omega
theorem IsTop.uniq {s t e : Int} {P : Ev → Prop} (h : IsTop s e P) (g : IsTop t e P) (nn : ∀ x, P x → 0 ≤ x.2) : s = t := by
  obtain ⟨h1, h2⟩ := h
  obtain ⟨g1, g2⟩ := g
  rcases h2 with rfl | h2
  · rcases g2 with rfl | g2
    · rfl
    · have := h1 _ g2
      have := nn _ g2
      have : (0 : Int) ≤ t := this
      omega
  · have := g1 _ h2
    rcases g2 with rfl | g2
    · have := nn _ h2
      have : (0 : Int) ≤ s := this
      omega
    · have := h1 _ g2
      omega
/-- what the tunnel knows of the events P -/
structure Ic (S : TS) (P : Ev → Prop) : Prop where
  t0 : IsTop S.t0 S.nw P
  t1 : IsTop S.t1 (S.nw - 1) P
  c0 : ∀ c, c > S.t0 - S.win → (c ∈ S.c0 ↔ P (S.nw, c))
  c1 : ∀ c, c > S.t1 - S.win → (c ∈ S.c1 ↔ P (S.nw - 1, c))
open Classical in
noncomputable def wd (win nw tp e c : Int) (p : Prop) : Str := if e < nw - 1 then "old" else if c ≤ tp - win then "late" else if p then "again" else "taken"
def Add (P : Ev → Prop) (e c : Int) : Ev → Prop := fun x => P x ∨ x = (e, c)
theorem add_ne {P : Ev → Prop} {e c e' c' : Int} (h : e' ≠ e) : Add P e c (e', c') ↔ P (e', c') := ⟨fun q => q.elim id fun z => absurd (congrArg Prod.fst z) h, .inl⟩
theorem add_ne2 {P : Ev → Prop} {e c e' c' : Int} (h : c' ≠ c) : Add P e c (e', c') ↔ P (e', c') := ⟨fun q => q.elim id fun z => absurd (congrArg Prod.snd z) h, .inl⟩
theorem add_in {P : Ev → Prop} {e c : Int} (h : P (e, c)) (x : Ev) : Add P e c x ↔ P x := ⟨fun q => q.elim id fun z => z ▸ h, .inl⟩
theorem top_other {P : Ev → Prop} {t e e' c : Int} (h : IsTop t e' P) (n : e' ≠ e) : IsTop t e' (Add P e c) := ⟨fun c' q => h.1 c' ((add_ne n).mp q), h.2.imp id .inl⟩
theorem top_late {P : Ev → Prop} {t e c : Int} (h : IsTop t e P) (n : c ≤ t) (c0 : 0 ≤ c) : IsTop t e (Add P e c) := ⟨fun c' q => q.elim (h.1 c') fun z => by have := congrArg Prod.snd z; have : c' = c := this; omega, h.2.imp id .inl⟩
theorem top_max {P : Ev → Prop} {t e c : Int} (h : IsTop t e P) : IsTop (if c > t then c else t) e (Add P e c) := by
  by_cases hc : c > t
  · rw [if_pos hc]
    exact ⟨fun c' q => q.elim (fun z => by have := h.1 c' z; omega) fun z => by have := congrArg Prod.snd z; have : c' = c := this; omega, .inr (.inr rfl)⟩
  · rw [if_neg hc]
    exact ⟨fun c' q => q.elim (h.1 c') fun z => by have := congrArg Prod.snd z; have : c' = c := this; omega, h.2.imp id .inl⟩
theorem top_same {P : Ev → Prop} {t e e' c : Int} (h : IsTop t e' P) (n : P (e, c)) : IsTop t e' (Add P e c) := ⟨fun c' q => h.1 c' ((add_in n _).mp q), h.2.imp id .inl⟩
theorem jdg_ok {S : TS} {P : Ev → Prop} (I : Ic S P) (hw : 1 ≤ S.win) (back n : Nat) (hb : back ≤ 1) (c : Int) (hc : 0 ≤ c) {tp : Int} (ht : IsTop tp (S.nw - back) P) (nn : ∀ x, P x → 0 ≤ x.2) :
    (jdg S back n c).1 = wd S.win S.nw tp (S.nw - back) c (P (S.nw - back, c)) ∧ Ic (jdg S back n c).2 (Add P (S.nw - back) c) ∧ (jdg S back n c).2.nw = S.nw := by
  have old : ¬ S.nw - (back : Int) < S.nw - 1 := by omega
  obtain rfl | rfl : back = 0 ∨ back = 1 := by omega
  · have e0 : S.nw - ((0 : Nat) : Int) = S.nw := by omega
    rw [e0] at ht old ⊢
    have := ht.uniq I.t0 nn
    subst this
    have n1 : S.nw - 1 ≠ S.nw := by omega
    unfold jdg wd
    rw [if_pos rfl, if_neg old]
    by_cases h1 : c ≤ S.t0 - S.win
    · rw [if_pos h1, if_pos h1]
      dsimp only
      refine ⟨rfl, ⟨top_late I.t0 (by omega) hc, top_other I.t1 n1, fun c' h => ?_, fun c' h => ?_⟩, rfl⟩
      · rw [add_ne2 (by show c' ≠ c; omega)]; exact I.c0 c' h
      · rw [add_ne n1]; exact I.c1 c' h
    · rw [if_neg h1, if_neg h1]
      have hm := I.c0 c (by omega)
      by_cases h2 : c ∈ S.c0
      · have hp := hm.mp h2
        rw [if_pos h2, if_pos hp]
        dsimp only
        refine ⟨rfl, ⟨top_same I.t0 hp, top_same I.t1 hp, fun c' h => ?_, fun c' h => ?_⟩, rfl⟩
        · rw [add_in hp]; exact I.c0 c' h
        · rw [add_in hp]; exact I.c1 c' h
      · have hp : ¬ P (S.nw, c) := fun q => h2 (hm.mpr q)
        rw [if_neg h2, if_neg hp]
        refine ⟨rfl, ⟨top_max I.t0, top_other I.t1 n1, fun c' h => ?_, fun c' h => ?_⟩, rfl⟩
        · have h' : c' > (if c > S.t0 then c else S.t0) - S.win := h
          have h'' : c' > S.t0 - S.win := by
            split at h' <;> omega
          show c' ∈ S.c0 ++ [c] ↔ P (S.nw, c') ∨ (S.nw, c') = (S.nw, c)
          rw [List.mem_append, List.mem_singleton, I.c0 c' h'']
          constructor
          · rintro (q | rfl)
            · exact .inl q
            · exact .inr rfl
          · rintro (q | q)
            · exact .inl q
            · exact .inr (congrArg Prod.snd q)
        · show c' ∈ S.c1 ↔ Add P S.nw c (S.nw - 1, c')
          rw [add_ne n1]; exact I.c1 c' h
  · have e0 : S.nw - ((1 : Nat) : Int) = S.nw - 1 := by omega
    rw [e0] at ht old ⊢
    have := ht.uniq I.t1 nn
    subst this
    have n1 : S.nw ≠ S.nw - 1 := by omega
    unfold jdg wd
    rw [if_neg (show ¬ 1 = 0 by decide), if_neg old]
    by_cases h1 : c ≤ S.t1 - S.win
    · rw [if_pos h1, if_pos h1]
      dsimp only
      refine ⟨rfl, ⟨top_other I.t0 n1, top_late I.t1 (by omega) hc, fun c' h => ?_, fun c' h => ?_⟩, rfl⟩
      · rw [add_ne n1]; exact I.c0 c' h
      · rw [add_ne2 (by show c' ≠ c; omega)]; exact I.c1 c' h
    · rw [if_neg h1, if_neg h1]
      have hm := I.c1 c (by omega)
      by_cases h2 : c ∈ S.c1
      · have hp := hm.mp h2
        rw [if_pos h2, if_pos hp]
        dsimp only
        refine ⟨rfl, ⟨top_same I.t0 hp, top_same I.t1 hp, fun c' h => ?_, fun c' h => ?_⟩, rfl⟩
        · rw [add_in hp]; exact I.c0 c' h
        · rw [add_in hp]; exact I.c1 c' h
      · have hp : ¬ P (S.nw - 1, c) := fun q => h2 (hm.mpr q)
        rw [if_neg h2, if_neg hp]
        refine ⟨rfl, ⟨top_other I.t0 n1, top_max I.t1, fun c' h => ?_, fun c' h => ?_⟩, rfl⟩
        · show c' ∈ S.c0 ↔ Add P (S.nw - 1) c (S.nw, c')
          rw [add_ne n1]; exact I.c0 c' h
        · have h' : c' > (if c > S.t1 then c else S.t1) - S.win := h
          have h'' : c' > S.t1 - S.win := by
            split at h' <;> omega
          show c' ∈ S.c1 ++ [c] ↔ P (S.nw - 1, c') ∨ (S.nw - 1, c') = (S.nw - 1, c)
          rw [List.mem_append, List.mem_singleton, I.c1 c' h'']
          constructor
          · rintro (q | rfl)
            · exact .inl q
            · exact .inr rfl
          · rintro (q | q)
            · exact .inl q
            · exact .inr (congrArg Prod.snd q)
theorem renew_ok {S : TS} {P : Ev → Prop} (I : Ic S P) (le : ∀ x, P x → x.1 ≤ S.nw) {e : Int} (he : e > S.nw) : Ic (renew S e) P := by
  have no : ∀ c, ¬ P (e, c) := fun c h => by have := le _ h; have : e ≤ S.nw := this; omega
  unfold renew
  by_cases h : e = S.nw + 1
  · rw [if_pos h]
    have e1 : e - 1 = S.nw := by omega
    exact ⟨⟨fun c q => absurd q (no c), .inl rfl⟩, by show IsTop S.t0 (e - 1) P; rw [e1]; exact I.t0, fun c _ => ⟨fun q => (by cases q), fun q => absurd q (no c)⟩, fun c h => by show c ∈ S.c0 ↔ P (e - 1, c); rw [e1]; exact I.c0 c h⟩
  · rw [if_neg h]
    have no1 : ∀ c, ¬ P (e - 1, c) := fun c h => by have := le _ h; have : e - 1 ≤ S.nw := this; omega
    exact ⟨⟨fun c q => absurd q (no c), .inl rfl⟩, ⟨fun c q => absurd q (no1 c), .inl rfl⟩, fun c _ => ⟨fun q => (by cases q), fun q => absurd q (no c)⟩, fun c _ => ⟨fun q => (by cases q), fun q => absurd q (no1 c)⟩⟩
/-- what else stays -/
structure Stay (S S' : TS) : Prop where
  win : S'.win = S.win
  ls : S'.ls = S.ls
  ep : S'.ep = S.ep
  snt : S'.snt = S.snt
theorem jdg_stay (S : TS) (back n : Nat) (c : Int) : Stay S (jdg S back n c).2 ∧ ((jdg S back n c).2.rc = if (jdg S back n c).1 = "taken" then S.rc ++ [(n : Int)] else S.rc) ∧ (jdg S back n c).2.c0.length ≤ S.c0.length + 1 ∧ (jdg S back n c).2.c1.length ≤ S.c1.length + 1 := by
  have d1 : ¬ (("late" : Str) = "taken") := by decide +kernel
  have d2 : ¬ (("again" : Str) = "taken") := by decide +kernel
  unfold jdg
  split
  · split
    · exact ⟨⟨rfl, rfl, rfl, rfl⟩, (if_neg d1 (t := S.rc ++ [(n : Int)])).symm, Nat.le_succ _, Nat.le_succ _⟩
    · split
      · exact ⟨⟨rfl, rfl, rfl, rfl⟩, (if_neg d2 (t := S.rc ++ [(n : Int)])).symm, Nat.le_succ _, Nat.le_succ _⟩
      · exact ⟨⟨rfl, rfl, rfl, rfl⟩, (if_pos rfl).symm, by show (S.c0 ++ [c]).length ≤ _; rw [List.length_append]; exact Nat.le_refl _, Nat.le_succ _⟩
  · split
    · exact ⟨⟨rfl, rfl, rfl, rfl⟩, (if_neg d1 (t := S.rc ++ [(n : Int)])).symm, Nat.le_succ _, Nat.le_succ _⟩
    · split
      · exact ⟨⟨rfl, rfl, rfl, rfl⟩, (if_neg d2 (t := S.rc ++ [(n : Int)])).symm, Nat.le_succ _, Nat.le_succ _⟩
      · exact ⟨⟨rfl, rfl, rfl, rfl⟩, (if_pos rfl).symm, Nat.le_succ _, by show (S.c1 ++ [c]).length ≤ _; rw [List.length_append]; exact Nat.le_refl _⟩
theorem dlv_stay (S : TS) (n : Nat) (e c : Int) {m : Nat} (h0 : S.c0.length ≤ m) (h1 : S.c1.length ≤ m) : Stay S (dlv S n e c).2 ∧ ((dlv S n e c).2.rc = if (dlv S n e c).1 = "taken" then S.rc ++ [(n : Int)] else S.rc) ∧ (dlv S n e c).2.c0.length ≤ m + 1 ∧ (dlv S n e c).2.c1.length ≤ m + 1 := by
  have d3 : ¬ (("old" : Str) = "taken") := by decide +kernel
  unfold dlv
  split
  · exact ⟨⟨rfl, rfl, rfl, rfl⟩, (if_neg d3 (t := S.rc ++ [(n : Int)])).symm, by show S.c0.length ≤ _; omega, by show S.c1.length ≤ _; omega⟩
  · split
    · obtain ⟨⟨a1, a2, a3, a4⟩, b, c2, d⟩ := jdg_stay (renew S e) 0 n c
      have r : (renew S e).win = S.win ∧ (renew S e).ls = S.ls ∧ (renew S e).ep = S.ep ∧ (renew S e).snt = S.snt ∧ (renew S e).rc = S.rc ∧ (renew S e).c0.length ≤ m ∧ (renew S e).c1.length ≤ m := by
        unfold renew
        split
        · exact ⟨rfl, rfl, rfl, rfl, rfl, Nat.zero_le _, h0⟩
        · exact ⟨rfl, rfl, rfl, rfl, rfl, Nat.zero_le _, Nat.zero_le _⟩
      obtain ⟨r1, r2, r3, r4, r5, r6, r7⟩ := r
      exact ⟨⟨a1.trans r1, a2.trans r2, a3.trans r3, a4.trans r4⟩, by rw [b, r5], by omega, by omega⟩
    · obtain ⟨a, b, c2, d⟩ := jdg_stay S (S.nw - e).toNat n c
      exact ⟨a, b, by omega, by omega⟩
/-! ### the law's own record: the newest epoch, the taken letters, their numbers -/
structure RI (S : TS) (n0 : Int) (P : List Ev) (rc : List Nat) : Prop where
  nw : S.nw = n0
  ic : Ic S (fun x => x ∈ P)
  le : ∀ x ∈ P, x.1 ≤ n0
  nn : ∀ x ∈ P, 0 ≤ x.2
  n0 : 0 ≤ n0
  rc : S.rc = rc.map fun n : Nat => (n : Int)
theorem jdg_else (S : TS) (back n : Nat) (c : Int) : (jdg S back n c).1 = "taken" ∨ (jdg S back n c).2 = S := by
  unfold jdg
  split
  · split
    · exact .inr rfl
    · split
      · exact .inr rfl
      · exact .inl rfl
  · split
    · exact .inr rfl
    · split
      · exact .inr rfl
      · exact .inl rfl
theorem mem_add {P : List Ev} {e c : Int} : (fun x => x ∈ P ++ [(e, c)]) = Add (fun x => x ∈ P) e c := funext fun x => propext (by
  rw [List.mem_append, List.mem_singleton]
  exact Iff.rfl)
theorem jdg_rec {S : TS} {P : List Ev} {rc : List Nat} {n0 : Int} (nw : S.nw = n0) (ic : Ic S (fun x => x ∈ P)) (le : ∀ x ∈ P, x.1 ≤ n0) (nn : ∀ x ∈ P, 0 ≤ x.2) (h0 : 0 ≤ n0) (hr : S.rc = rc.map fun n : Nat => (n : Int)) (hw : 1 ≤ S.win)
    (back n : Nat) (hb : back ≤ 1) (c : Int) (hc : 0 ≤ c) {tp : Int} (ht : IsTop tp (n0 - back) (fun x => x ∈ P)) :
    (jdg S back n c).1 = wd S.win n0 tp (n0 - back) c ((n0 - back, c) ∈ P) ∧ RI (jdg S back n c).2 n0 (if (jdg S back n c).1 = "taken" then P ++ [(n0 - back, c)] else P) (if (jdg S back n c).1 = "taken" then rc ++ [n] else rc) := by
  subst nw
  obtain ⟨w1, w2, w3⟩ := jdg_ok ic hw back n hb c hc ht nn
  obtain ⟨_, hrc, _, _⟩ := jdg_stay S back n c
  refine ⟨w1, ?_⟩
  by_cases h : (jdg S back n c).1 = "taken"
  · rw [if_pos h, if_pos h]
    rw [if_pos h] at hrc
    refine ⟨w3, by rw [mem_add]; exact w2, fun x hx => ?_, fun x hx => ?_, h0, ?_⟩
    · rcases List.mem_append.mp hx with q | q
      · exact le x q
      · cases List.mem_singleton.mp q
        show S.nw - (back : Int) ≤ S.nw
        omega
    · rcases List.mem_append.mp hx with q | q
      · exact nn x q
      · cases List.mem_singleton.mp q
        exact hc
    · rw [hrc, hr, List.map_append]
      rfl
  · rw [if_neg h, if_neg h]
    rcases jdg_else S back n c with q | q
    · exact absurd q h
    · rw [q]
      exact ⟨rfl, ic, le, nn, h0, hr⟩
theorem rec_step {S : TS} {n0 : Int} {P : List Ev} {rc : List Nat} (R : RI S n0 P rc) (hw : 1 ≤ S.win) (n : Nat) (e c : Int) (he : 0 ≤ e) (hc : 0 ≤ c) {tp : Int} (ht : IsTop tp e (fun x => x ∈ P)) :
    (dlv S n e c).1 = wd S.win n0 tp e c ((e, c) ∈ P) ∧ RI (dlv S n e c).2 (if e < n0 - 1 then n0 else if e > n0 then e else n0) (if (dlv S n e c).1 = "taken" then P ++ [(e, c)] else P) (if (dlv S n e c).1 = "taken" then rc ++ [n] else rc) := by
  obtain ⟨nw, ic, le, nn, h0, hr⟩ := R
  have d3 : ¬ (("old" : Str) = "taken") := by decide +kernel
  subst nw
  by_cases h1 : e < S.nw - 1
  · have ej : dlv S n e c = (("old" : Str), S) := by unfold dlv; rw [if_pos h1]
    rw [ej, if_pos h1, if_neg d3, if_neg d3]
    refine ⟨?_, rfl, ic, le, nn, h0, hr⟩
    unfold wd
    rw [if_pos h1]
  · rw [if_neg h1]
    by_cases h2 : e > S.nw
    · rw [if_pos h2]
      have ej : dlv S n e c = jdg (renew S e) 0 n c := by unfold dlv; rw [if_neg h1, if_pos h2]
      rw [ej]
      have z : e - ((0 : Nat) : Int) = e := by omega
      have hh := jdg_rec (S := renew S e) (n0 := e) (rc := rc) (renew_nw S e) (renew_ok ic le h2) (fun x hx => Int.le_trans (le x hx) (Int.le_of_lt h2)) nn he (by rw [renew_rc]; exact hr) (by rw [renew_win]; exact hw) 0 n (by decide) c hc (tp := tp) (by rw [z]; exact ht)
      rw [z, renew_win] at hh
      refine ⟨hh.1.trans ?_, hh.2⟩
      unfold wd
      rw [if_neg (show ¬ e < e - 1 by omega), if_neg h1]
    · rw [if_neg h2]
      have ej : dlv S n e c = jdg S (S.nw - e).toNat n c := by unfold dlv; rw [if_neg h1, if_neg h2]
      rw [ej]
      have z : S.nw - (((S.nw - e).toNat : Nat) : Int) = e := by omega
      have hh := jdg_rec (rc := rc) rfl ic le nn h0 hr hw (S.nw - e).toNat n (by omega) c hc (tp := tp) (by rw [z]; exact ht)
      rw [z] at hh
      exact hh
/-! ### the word of the record -/
def pd (x : Ev) : PyData := .tuple [.int x.1, .int x.2]
structure Rd (H : Hp) (st tl rl : Addr) (n0 : Int) (P : List Ev) (rc : List Nat) : Prop where
  es : H st = some (.lst [.int n0, .ref tl, .ref rl])
  et : ∃ us, H tl = some (.lst us) ∧ DsAt H us (P.map pd)
  er : H rl = some (.lst (inz (rc.map fun n : Nat => (n : Int))))
  n1 : tl ≠ st
  n2 : rl ≠ st
  n3 : rl ≠ tl
theorem pd_get {H : Hp} {us : List V} {P : List Ev} {i : Nat} {x : Ev} (d : DsAt H us (P.map pd)) (hn : P[i]? = some x) : ∃ q, us[i]? = some (.ref q) ∧ H q = some (.tup [.int x.1, .int x.2]) := by
  have l := d.length
  rw [List.length_map] at l
  have hil := (List.getElem?_eq_some_iff.mp hn).1
  obtain ⟨e, h1, h2⟩ := d.get (List.getElem?_eq_getElem (show i < us.length by omega))
  rw [List.getElem?_map, hn] at h1
  cases h1
  rw [List.getElem?_eq_getElem (show i < us.length by omega)]
  unfold pd at h2
  generalize us[i] = v at h2
  cases h2 with
  | @tup q vs _ hq hs =>
    cases hs with
    | cons h1 hs => cases h1; cases hs with
      | cons h2 hs => cases h2; cases hs; exact ⟨q, rfl, hq⟩
theorem depthAll_le {n : Nat} : ∀ {ds : List PyData}, (∀ d ∈ ds, d.depth ≤ n) → PyData.depthAll ds ≤ n
  | [], _ => by rw [PyData.depthAll]; exact Nat.zero_le _
  | d :: r, h => by
    rw [PyData.depthAll]
    exact Nat.max_le.mpr ⟨h d (List.mem_cons_self ..), depthAll_le fun e he => h e (List.mem_cons_of_mem _ he)⟩
theorem layAll {ds : List PyData} : (∀ d ∈ ds, d.canLay0 = true) → PyData.canLayAll0 ds = true := by
  induction ds with
  | nil => intro _; rw [PyData.canLayAll0]
  | cons d r ih =>
    intro h
    rw [PyData.canLayAll0, h d (List.mem_cons_self ..), ih fun e he => h e (List.mem_cons_of_mem _ he)]
    rfl
theorem pd_lay (x : Ev) : (pd x).canLay0 = true ∧ (pd x).depth ≤ 1 := by
  have all : ∀ e ∈ ([.int x.1, .int x.2] : List PyData), e.canLay0 = true ∧ e.depth ≤ 0 := by
    intro e he
    simp only [List.mem_cons, List.not_mem_nil, or_false] at he
    rcases he with rfl | rfl <;> exact ⟨by rw [PyData.canLay0], by rw [PyData.depth]; exact Nat.le_refl 0⟩
  unfold pd
  exact ⟨by rw [PyData.canLay0]; exact layAll fun e he => (all e he).1, by rw [PyData.depth]; exact Nat.succ_le_succ (depthAll_le fun e he => (all e he).2)⟩
theorem pd_shaped (x : Ev) : SeqAt.shaped (pd x) = true := by
  unfold SeqAt.shaped
  rw [(pd_lay x).1, decide_eq_true (by have := (pd_lay x).2; omega)]
  rfl
theorem pds_shaped (P : List Ev) : SeqAt.shaped (.list (P.map pd)) = true := by
  unfold SeqAt.shaped
  have all : ∀ e ∈ P.map pd, e.canLay0 = true ∧ e.depth ≤ 1 := fun e he => by
    obtain ⟨x, _, rfl⟩ := List.mem_map.mp he
    exact pd_lay x
  rw [show (PyData.list (P.map pd)).canLay0 = true from by rw [PyData.canLay0]; exact layAll fun e he => (all e he).1]
  rw [decide_eq_true (show (PyData.list (P.map pd)).depth ≤ 64 from by
    rw [PyData.depth]
    have := depthAll_le (n := 1) (ds := P.map pd) fun e he => (all e he).2
    omega)]
  rfl
theorem pd_any (P : List Ev) (x : Ev) : ((P.map pd).any fun z => PyData.eqv z (pd x)) = decide (x ∈ P) := by
  rw [List.any_map]
  induction P with
  | nil => rfl
  | cons y r ih =>
    rw [List.any_cons, ih]
    have e : ((fun z => PyData.eqv z (pd x)) ∘ pd) y = (y.1 == x.1 && (y.2 == x.2 && true)) := by
      show PyData.eqv (pd y) (pd x) = _
      unfold pd
      simp [PyData.eqv, PyData.eqvAll]
    rw [e]
    by_cases h : y = x
    · subst h
      simp
    · have : ¬ (y.1 = x.1 ∧ y.2 = x.2) := fun ⟨a, b⟩ => h (Prod.ext a b)
      have hb : (y.1 == x.1 && (y.2 == x.2 && true)) = false := by
        cases hq : (y.1 == x.1 && (y.2 == x.2 && true)) with
        | false => rfl
        | true =>
          simp at hq
          exact absurd hq this
      rw [hb, Bool.false_or]
      simp [Ne.symm h]
mutual
theorem dat_dp {K : PySem.W.Frag} {H : Hp} : ∀ {v d}, DAt H v d → Dp K H v d
  | _, _, .str x => .str x
  | _, _, .int i => .int i
  | _, _, .non => .non
  | _, _, .tup h r => .tup (SqT.of h) (dats_dp r)
theorem dats_dp {K : PySem.W.Frag} {H : Hp} : ∀ {vs ds}, DsAt H vs ds → DpAll K H vs ds
  | _, _, .nil => .nil
  | _, _, .cons h r => .cons (dat_dp h) (dats_dp r)
end
theorem w_inP {K : PySem.W.Frag} {H : Hp} {Q : VK} {p q : Addr} {us : List V} {P : List Ev} {x : Ev} (hq : H q = some (.tup [.int x.1, .int x.2])) (h : H p = some (.lst us)) (d : DsAt H us (P.map pd)) (k : Q (.bl (decide (x ∈ P))) H) : rInD K (.ref q) (.ref p) H Q :=
  ⟨pd x, P.map pd, .tup (SqT.of hq) (.cons (.int _) (.cons (.int _) .nil)), .lst (SqL.of h) (dats_dp d), pd_shaped x, pds_shaped P, by rw [pd_any]; exact k⟩
theorem max_ex : ∀ (a : Int) (l : List Int), ∃ m, m ∈ a :: l ∧ ∀ y ∈ a :: l, y ≤ m
  | a, [] => ⟨a, List.mem_cons_self .., fun y h => by rw [List.mem_singleton.mp h]; exact Int.le_refl _⟩
  | a, b :: l => by
    obtain ⟨m, h1, h2⟩ := max_ex b l
    by_cases h : a ≤ m
    · exact ⟨m, List.mem_cons_of_mem _ h1, fun y hy => by
        rcases List.mem_cons.mp hy with rfl | hy
        · exact h
        · exact h2 y hy⟩
    · exact ⟨a, List.mem_cons_self .., fun y hy => by
        rcases List.mem_cons.mp hy with rfl | hy
        · exact Int.le_refl _
        · have := h2 y hy
          omega⟩
def cnF (e : Int) (x : Ev) : Option Int := if x.1 = e then some x.2 else none
theorem top_of {P : List Ev} {e m : Int} (h1 : m ∈ (-1 : Int) :: P.filterMap (cnF e)) (h2 : ∀ y ∈ (-1 : Int) :: P.filterMap (cnF e), y ≤ m) : IsTop m e (fun x => x ∈ P) := by
  constructor
  · intro c hc
    refine h2 _ (List.mem_cons_of_mem _ (List.mem_filterMap.mpr ⟨(e, c), hc, ?_⟩))
    unfold cnF
    rw [if_pos rfl]
  · rcases List.mem_cons.mp h1 with rfl | h
    · exact .inl rfl
    · obtain ⟨y, hy, e'⟩ := List.mem_filterMap.mp h
      unfold cnF at e'
      split at e'
      · rename_i hye
        cases e'
        rw [← hye]
        exact .inr hy
      · cases e'
theorem top_ex (P : List Ev) (e : Int) : ∃ tp, IsTop tp e (fun x => x ∈ P) := by
  obtain ⟨m, h1, h2⟩ := max_ex (-1) (P.filterMap (cnF e))
  exact ⟨m, top_of h1 h2⟩
def sp_word2 : Sp := fun vs H Q _ => ∃ (size : Int) (st tl rl : Addr) (n0 : Int) (P : List Ev) (rc : List Nat) (e c : Int), vs = [.int size, .ref st, .int e, .int c] ∧ Rd H st tl rl n0 P rc ∧ P.length ≤ 5000 ∧
  ∀ (H' : Hp) (tp : Int) (w : Str), IsTop tp e (fun x => x ∈ P) → w = wd size n0 tp e c ((e, c) ∈ P) → Frm [st, tl] H H' → Rd H' st tl rl (if e < n0 - 1 then n0 else if e > n0 then e else n0) (if w = "taken" then P ++ [(e, c)] else P) rc → Q (.str w) H'
section
variable {P : Program} {w : World} {K : PySem.W.Frag} {mg : Str → Option Value} {base : Heap}
theorem ok_law_word (T : Top K mg) : FnOk P w K mg base CX0 1 T.f_law_word T.d_law_word ["size", "state", "epoch", "count"] sp_word2 := by
  refine T.F_law_word.ok sc_law_word (fun vs H Q E h => ?_) (fun cdv A outer s H vs Q E hr h => ?_)
  · obtain ⟨size, st, tl, rl, n0, Pq, rc, e, c, rfl, _⟩ := h
    rfl
  · obtain ⟨size, st, tl, rl, n0, Pq, rc, e, c, rfl, R, hl, q⟩ := h
    have hu : (A.deeper (envOfC (Str.ofString "_law_word") (defScope s_law_word) s.heap.objs.size T.f_law_word cdv)).units + 65 < cLine := by have := hr.un; omega
    refine ⟨_, (pss_cons (ps_if (pt_cmpR op_lt (pv 2) (pe_op op_sub (pe_ix ix_list (pv 1) pe_int (fun _ _ => rfl)) pe_int) (nomark _))
    (pss_one (ps_ret pe_str))
    pss_nil)
    (pss_cons (ps_asg (pe_callB (call_max2 rfl) (by rfl) T.z_max (by decide +kernel) (pa_cons (pe_ix ix_list (pv 1) pe_int (fun _ _ => rfl)) (pa_cons (pv 2) pa_nil))) (pg_sub (pv 1) pe_int set_list))
     (pss_cons (ps_set (i := 4) sc_law_word.nd rfl (Or.inl rfl) (pe_callB (cr_max rfl) (by rfl) T.z_max (by decide +kernel) (pa_cons (pe_op op_cat (pe_lst (pa_cons (pe_un un_neg pe_int) pa_nil)) (pe_lc (own := [("taken", 5)]) (g := gName 5) (by rfl) sc_law_word.nd (pi_list (pe_ix ix_list (pv 1) pe_int (fun _ _ => rfl))) (blkOk_by (own := [("taken", 5)]) (N := N_law_word) (sc := defScope s_law_word) (by decide +kernel)) (fun _ _ _ _ _ => (pg_name (i := 5) sc_law_word.nd rfl (Or.inl rfl))) (fun _ _ _ _ _ => (pts_one (pt_cmpR op_eq (pe_ix (r := rIxT K) ix_tup (pv 5) pe_int (fun _ _ => rfl)) (pv 2) (nomark _)))) (fun _ _ _ _ _ => (pe_ix (r := rIxT K) ix_tup (pv 5) pe_int (fun _ _ => rfl))))) pa_nil)))
      (pss_cons (ps_if (pt_cmpR op_le (pv 3) (pe_op op_sub (pv 4) (pv 0)) (nomark _))
       (pss_one (ps_ret pe_str))
       pss_nil)
       (pss_cons (ps_if (pt_cmpR (op_inD hu) (pe_tup (pa_cons (pv 2) (pa_cons (pv 3) pa_nil))) (pe_ix ix_list (pv 1) pe_int (fun _ _ => rfl)) (by rfl))
        (pss_one (ps_ret pe_str))
        pss_nil)
        (pss_cons (ps_expr (pe_bm PySem.F.plainAttrs_list PySem.F.slot_list_append PySem.F.type_list_append mt_append (pe_ix ix_list (pv 1) pe_int (fun _ _ => rfl)) (pa_cons (pe_tup (pa_cons (pv 2) (pa_cons (pv 3) pa_nil))) pa_nil)))
         (pss_one (ps_ret pe_str)))))))), ?_⟩
    have hst := R.es
    obtain ⟨us, hus, dus⟩ := R.et
    repeat walk_at "s"
    refine ite2 (fun h => ?_) (fun h => ?_)
    · have hlt : e < n0 - 1 := of_decide_eq_true h
      obtain ⟨tp, htp⟩ := top_ex Pq e
      have d3 : ¬ (("old" : Str) = "taken") := by decide +kernel
      have q' := q H tp "old" htp (by unfold wd; rw [if_pos hlt]) (Frm.same (Same.refl H))
      rw [if_pos hlt, if_neg d3] at q'
      repeat walk_at "s"
      exact q' R
    · have hge : ¬ e < n0 - 1 := of_decide_eq_false (ofb h)
      rw [if_neg hge] at q
      have nts := R.n1
      have nrs := R.n2
      repeat walk_at "s"
      have tk1 : ∀ o, Tk H (upd H st o) := fun o => Tk.lst hst
      have R1 : Rd (upd H st (.lst ([V.int n0, V.ref tl, V.ref rl].set (Int.toNat 0) (V.int (if e > n0 then e else n0))))) st tl rl (if e > n0 then e else n0) Pq rc := ⟨upd_same, ⟨us, by rw [upd_ne nts]; exact hus, dus.mono (tk1 _)⟩, by rw [upd_ne nrs]; exact R.er, R.n1, R.n2, R.n3⟩
      have f1 : Frm [st, tl] H (upd H st (.lst ([V.int n0, V.ref tl, V.ref rl].set (Int.toNat 0) (V.int (if e > n0 then e else n0))))) := fun x u hx hn => by rw [upd_ne (fun z => hn (by rw [z]; exact List.mem_cons_self ..))]; exact hx
      generalize upd H st (.lst ([V.int n0, V.ref tl, V.ref rl].set (Int.toNat 0) (V.int (if e > n0 then e else n0)))) = H1 at R1 f1 ⊢
      generalize (if e > n0 then e else n0) = n1 at R1 q ⊢
      obtain ⟨us1, hus1, dus1⟩ := R1.et
      have hst1 := R1.es
      refine ⟨by walk_at "len", fun p5 hp5 => ?_⟩
      have s5 := sm_new (o := .lst [.int (-1)]) hp5
      have e5 := upd_self2 hp5 (.lst [.int (-1)])
      generalize upd H1 p5 (.lst [.int (-1)]) = H5 at s5 e5 ⊢
      have hst5 := s5 _ _ hst1
      repeat walk_at "s"
      refine ⟨tl, rfl, ⟨_, SqL.of (s5 _ _ hus1)⟩, fun D hD => ?_⟩
      refine lc_list (K := K) (a := tl) (xs := us1) (fun i H2 => H2 D = some (.lst (inz ((Pq.take i).filterMap (cnF e)))) ∧ Same H5 H2) ⟨upd_same, sm_new hD⟩ (fun i H2 _ ⟨_, s2⟩ => SqL.of (s2 _ _ (s5 _ _ hus1))) ?_ ?_
      · rintro i y H2 hi ⟨eD, s2⟩
        have lus := dus1.length
        rw [List.length_map] at lus
        have hil : i < Pq.length := by have := (List.getElem?_eq_some_iff.mp hi).1; omega
        have hx := List.getElem?_eq_getElem hil
        obtain ⟨v2, hv2, hq2⟩ := pd_get dus1 hx
        rw [hv2] at hi
        cases hi
        have hU : (Pq.take (i + 1)).filterMap (cnF e) = (Pq.take i).filterMap (cnF e) ++ (if Pq[i].1 = e then [Pq[i].2] else []) := by
          rw [List.take_add_one, hx, List.filterMap_append]
          congr 1
          unfold cnF
          by_cases g : Pq[i].1 = e
          · simp [g]
          · simp [g]
        have lD := List.length_filterMap_le (cnF e) (Pq.take i)
        rw [List.length_take] at lD
        generalize Pq[i] = x at hx hq2 hU
        have hq3 := s2 _ _ (s5 _ _ hq2)
        repeat walk_at "s"
        refine ite2 (fun g => ?_) (fun g => ?_)
        · rw [if_pos (of_decide_eq_true g)] at hU
          repeat walk_at "s"
          refine ⟨_, eD, ?_, ?_, fun x o h => by rw [upd_ne (ne_of_none h hD)]; exact s2 x o h⟩
          · rw [inz_len]; exact big99 (by omega)
          · rw [upd_same, hU, inz_app]
            rfl
        · rw [if_neg (of_decide_eq_false (ofb g)), List.append_nil] at hU
          rw [hU]
          exact ⟨eD, s2⟩
      · rintro H4 ⟨eD, s4⟩
        have lus := dus1.length
        rw [List.length_map] at lus
        rw [lus, List.take_length] at eD
        have s54 := s5.trans s4
        have hfl := List.length_filterMap_le (cnF e) Pq
        refine ⟨p5, D, _, _, rfl, rfl, s4 _ _ e5, eD, ?_, fun p hp => ?_⟩
        · rw [inz_len]; exact Nat.le_of_lt (big99 (by show 1 + _ ≤ _; omega))
        have s6 := s54.trans (sm_new (o := .lst ([V.int (-1)] ++ inz (Pq.filterMap (cnF e)))) hp)
        have e6 : upd H4 p (.lst ([V.int (-1)] ++ inz (Pq.filterMap (cnF e)))) p = some (.lst (((-1 : Int) :: Pq.filterMap (cnF e)).map V.int)) := upd_same
        generalize upd H4 p (.lst ([V.int (-1)] ++ inz (Pq.filterMap (cnF e)))) = H6 at s6 e6 ⊢
        repeat walk_at "s"
        refine ⟨p, _, rfl, SqL.of e6, by show 0 < (Pq.filterMap (cnF e)).length + 1; omega, fun tp hm3 hm4 => ?_⟩
        have htp := top_of hm3 hm4
        have hst6 := s6 _ _ hst1
        have hus6 := s6 _ _ hus1
        have dus6 := dus1.mono (Tk.same s6)
        have R6 : Rd H6 st tl rl n1 Pq rc := ⟨hst6, ⟨us1, hus6, dus6⟩, s6 _ _ R1.er, R.n1, R.n2, R.n3⟩
        have f6 : Frm [st, tl] H H6 := f1.trans (Frm.same (F := []) s6) (fun x hx => by cases hx)
        clear e5 e6 eD s4 s5 s54 hm3 hm4
        repeat walk_at "s"
        refine ite2 (fun g => ?_) (fun g => ?_)
        · have d3 : ¬ (("late" : Str) = "taken") := by decide +kernel
          have q' := q H6 tp "late" htp (by unfold wd; rw [if_neg hge, if_pos (of_decide_eq_true g)]) f6
          rw [if_neg d3] at q'
          repeat walk_at "s"
          exact q' R6
        · have hnl : ¬ c ≤ tp - size := of_decide_eq_false (ofb g)
          repeat walk_at "s"
          refine ⟨by walk_at "len", fun t ht => ?_⟩
          have s7 := sm_new (o := .tup [.int e, .int c]) ht
          have e7 := upd_self2 ht (.tup [.int e, .int c])
          generalize upd H6 t (.tup [.int e, .int c]) = H7 at s7 e7 ⊢
          have hst7 := s7 _ _ hst6
          have hus7 := s7 _ _ hus6
          have dus7 := dus6.mono (Tk.same s7)
          repeat walk_at "s"
          refine w_inP (x := (e, c)) e7 hus7 dus7 ⟨_, rfl, ?_⟩
          have R7 : Rd H7 st tl rl n1 Pq rc := ⟨hst7, ⟨us1, hus7, dus7⟩, s7 _ _ R6.er, R.n1, R.n2, R.n3⟩
          have f7 : Frm [st, tl] H H7 := f6.trans (Frm.same (F := []) s7) (fun x hx => by cases hx)
          clear e7 s7
          refine ite2 (fun g => ?_) (fun g => ?_)
          · have hin := of_decide_eq_true g
            have d3 : ¬ (("again" : Str) = "taken") := by decide +kernel
            have q' := q H7 tp "again" htp (by unfold wd; rw [if_neg hge, if_neg hnl, if_pos hin]) f7
            rw [if_neg d3] at q'
            repeat walk_at "s"
            exact q' R7
          · have hin := of_decide_eq_false (ofb g)
            have q' := fun H8 => q H8 tp "taken" htp (by unfold wd; rw [if_neg hge, if_neg hnl, if_neg hin])
            rw [if_pos rfl] at q'
            repeat walk_at "s"
            refine ⟨by walk_at "len", fun t2 ht2 => ?_⟩
            have s8 := sm_new (o := .tup [.int e, .int c]) ht2
            have e8 := upd_self2 ht2 (.tup [.int e, .int c])
            generalize upd H7 t2 (.tup [.int e, .int c]) = H8 at s8 e8 ⊢
            have hus8 := s8 _ _ hus7
            have dus8 := dus7.mono (Tk.same s8)
            have hst8 := s8 _ _ hst7
            have er8 := s8 _ _ R7.er
            have f8 : Frm [st, tl] H H8 := f7.trans (Frm.same (F := []) s8) (fun x hx => by cases hx)
            repeat walk_at "s"
            refine w_append hus8 (by have := dus8.length; rw [List.length_map] at this; exact big99 (by omega)) ?_
            have tk : Tk H8 (upd H8 tl (.lst (us1 ++ [.ref t2]))) := Tk.lst hus8
            have d9 : DsAt (upd H8 tl (.lst (us1 ++ [.ref t2]))) (us1 ++ [.ref t2]) ((Pq ++ [(e, c)]).map pd) := by
              rw [List.map_append]
              exact (dus8.mono tk).app (.cons (.tup (tk _ _ e8) (.cons (.int _) (.cons (.int _) .nil))) .nil)
            have f9 : Frm [st, tl] H (upd H8 tl (.lst (us1 ++ [.ref t2]))) := fun x u hx hn => by
              rw [upd_ne (fun z => hn (by rw [z]; simp))]
              exact f8 x u hx hn
            have R9 : Rd (upd H8 tl (.lst (us1 ++ [.ref t2]))) st tl rl n1 (Pq ++ [(e, c)]) rc := ⟨by rw [upd_ne R.n1.symm]; exact hst8, ⟨_, upd_same, d9⟩, by rw [upd_ne R.n3]; exact er8, R.n1, R.n2, R.n3⟩
            generalize upd H8 tl (.lst (us1 ++ [.ref t2])) = H9 at f9 R9 ⊢
            repeat walk_at "s"
            exact q' H9 f9 R9
end
/-! ### k72's world: two tunnels, two records; who owns what -/
theorem Tun.fr {C : Addr} {b : TD} {H H' : Hp} {S : TS} (T : Tun C b H S) (tk : Tk H H') (go : ∀ x ∈ ft b, ∀ o, H x = some o → H' x = some o) : Tun C b H' S := by
  obtain ⟨us, h, d⟩ := T.lt
  exact ⟨go _ (by simp [ft]) _ T.ins, ⟨us, go _ (by simp [ft]) _ h, d.mono tk⟩, tk _ _ T.cs, go _ (by simp [ft]) _ T.e0, go _ (by simp [ft]) _ T.e1, tk _ _ T.ts, go _ (by simp [ft]) _ T.rv, T.nd, T.nl⟩
def Lts (H : Hp) (ll : Addr) (L : List (Int × Int × Str)) : Prop := ∃ us, H ll = some (.lst us) ∧ DsAt H us (L.map ld)
def up2 {α : Type} (f : Fin 2 → α) (i : Fin 2) (v : α) : Fin 2 → α := fun j => if j = i then v else f j
theorem up2_eq {α : Type} {f : Fin 2 → α} {i : Fin 2} {v : α} : up2 f i v i = v := if_pos rfl
theorem up2_ne {α : Type} {f : Fin 2 → α} {i j : Fin 2} {v : α} (h : j ≠ i) : up2 f i v j = f j := if_neg h
theorem up2_self {α : Type} (f : Fin 2 → α) (i : Fin 2) : up2 f i (f i) = f := funext fun j => by
  by_cases h : j = i
  · subst h; exact up2_eq
  · exact up2_ne h
def Kp (o : Addr → Nat) (k : Nat) (H H' : Hp) : Prop := Tk H H' ∧ ∀ x u, H x = some u → o x ≠ k → H' x = some u
theorem Kp.same {o : Addr → Nat} {H H' : Hp} (s : Same H H') : Kp o 100 H H' := ⟨Tk.same s, fun x u h _ => s x u h⟩
theorem Kp.cell {o : Addr → Nat} {H : Hp} {q : Addr} {us vs : List V} (h : H q = some (.lst us)) : Kp o (o q) H (upd H q (.lst vs)) := ⟨Tk.upd fun vs' e => (by rw [h] at e; cases e), fun x u e n => by rw [upd_ne (fun z => n (by rw [z]))]; exact e⟩
def ext (o : Addr → Nat) (i : Nat) (H : Hp) : Addr → Nat := fun x => match H x with | none => i | some _ => o x
theorem ext_eq {o : Addr → Nat} {i : Nat} {H : Hp} {x : Addr} {u : HO} (h : H x = some u) : ext o i H x = o x := by unfold ext; rw [h]
theorem ext_none {o : Addr → Nat} {i : Nat} {H : Hp} {x : Addr} (h : H x = none) : ext o i H x = i := by unfold ext; rw [h]
structure Ad2 where
  st : Fin 2 → Addr
  tl : Fin 2 → Addr
  rl : Fin 2 → Addr
  ll : Addr
  sl : Addr
  pl : Addr
  cs : List (Addr × List V)
/-- the law's records -/
structure Rc2 where
  n0 : Int
  P : List Ev
  rc : List Nat
structure W2 (C : Addr) (o : Addr → Nat) (A : Fin 2 → TD) (D : Ad2) (H : Hp) (S : Fin 2 → TS) (R : Fin 2 → Rc2) (L : List (Int × Int × Str)) (ep snt : Int) : Prop where
  t : ∀ i, Tun C (A i) H (S i)
  ow : ∀ i, ∀ x ∈ ft (A i), o x = i.val
  r : ∀ i, Rd H (D.st i) (D.tl i) (D.rl i) (R i).n0 (R i).P (R i).rc
  ro : ∀ i : Fin 2, o (D.st i) = 10 + i.val ∧ o (D.tl i) = 10 + i.val ∧ o (D.rl i) = 10 + i.val
  lo : o D.ll = 40 ∧ o D.sl = 41 ∧ o D.pl = 42
  l : Lts H D.ll L
  s : H D.sl = some (.lst [.int ep, .int snt])
  p : Pil H D.pl
  c : ∀ q ∈ D.cs, H q.1 = some (.lst q.2) ∧ o q.1 = 43
section
variable {C : Addr} {o : Addr → Nat} {A : Fin 2 → TD} {D : Ad2} {H H' : Hp} {S : Fin 2 → TS} {R : Fin 2 → Rc2} {L : List (Int × Int × Str)} {ep snt : Int}
theorem Kp.rd {k : Nat} {st tl rl : Addr} {n0 : Int} {P : List Ev} {rc : List Nat} (K : Kp o k H H') (h : Rd H st tl rl n0 P rc) (n1 : o st ≠ k) (n2 : o tl ≠ k) (n3 : o rl ≠ k) : Rd H' st tl rl n0 P rc := by
  obtain ⟨a, ⟨us, b, c⟩, d, e, f, g⟩ := h
  exact ⟨K.2 _ _ a n1, ⟨us, K.2 _ _ b n2, c.mono K.1⟩, K.2 _ _ d n3, e, f, g⟩
theorem Kp.lts {k : Nat} {q : Addr} (K : Kp o k H H') (h : Lts H q L) (n : o q ≠ k) : Lts H' q L := by
  obtain ⟨us, h1, h2⟩ := h
  exact ⟨us, K.2 _ _ h1 n, h2.mono K.1⟩
theorem Kp.pil {k : Nat} {q : Addr} (K : Kp o k H H') (h : Pil H q) (n : o q ≠ k) : Pil H' q := by
  obtain ⟨m, ns, h1, h2⟩ := h
  exact ⟨m, ns, K.2 _ _ h1 n, h2⟩
theorem W2.ts (W : W2 C o A D H S R L ep snt) {k : Nat} (K : Kp o k H H') (hk : 2 ≤ k) (i : Fin 2) : Tun C (A i) H' (S i) := (W.t i).fr K.1 fun x hx u h => K.2 x u h (by rw [W.ow i x hx]; have := i.isLt; omega)
theorem W2.rs (W : W2 C o A D H S R L ep snt) {k : Nat} (K : Kp o k H H') (hk : k < 10 ∨ 12 ≤ k) (i : Fin 2) : Rd H' (D.st i) (D.tl i) (D.rl i) (R i).n0 (R i).P (R i).rc := by
  obtain ⟨a, b, c⟩ := W.ro i
  have := i.isLt
  exact K.rd (W.r i) (by omega) (by omega) (by omega)
theorem W2.cc (W : W2 C o A D H S R L ep snt) {k : Nat} (K : Kp o k H H') (hk : k ≠ 43) : ∀ q ∈ D.cs, H' q.1 = some (.lst q.2) ∧ o q.1 = 43 := fun q hq => ⟨K.2 _ _ (W.c q hq).1 (by rw [(W.c q hq).2]; omega), (W.c q hq).2⟩
theorem W2.tun (W : W2 C o A D H S R L ep snt) (i : Fin 2) {a' : TD} {S' : TS} (f : Frm (ft (A i)) H H') (ow : Own (ft (A i)) H (ft a')) (T : Tun C a' H' S') : W2 C (ext o i.val H) (up2 A i a') D H' (up2 S i S') R L ep snt := by
  have K : Kp o i.val H H' := ⟨fun x vs hx => f x _ hx fun hF => (W.t i).notup x hF vs hx, fun x u h n => f x u h fun hF => n (W.ow i x hF)⟩
  obtain ⟨q1, q2, q3⟩ := W.lo
  have hi := i.isLt
  obtain ⟨us, hl1, hl2⟩ := W.l
  obtain ⟨pn, pns, hp1, hp2⟩ := W.p
  refine ⟨fun j => ?_, fun j x hx => ?_, W.rs K (.inl (by omega)), fun j => ?_, ⟨?_, ?_, ?_⟩, K.lts W.l (by omega), K.2 _ _ W.s (by omega), K.pil W.p (by omega), fun q hq => ?_⟩
  · by_cases e : j = i
    · subst e; rw [up2_eq, up2_eq]; exact T
    · rw [up2_ne e, up2_ne e]
      exact (W.t j).fr K.1 fun x hx u h => K.2 x u h (by rw [W.ow j x hx]; intro z; exact e (Fin.ext z))
  · by_cases e : j = i
    · subst e
      rw [up2_eq] at hx
      cases hu : H x with
      | none => exact ext_none hu
      | some u =>
        rw [ext_eq hu]
        rcases ow x hx with h | h
        · exact W.ow j x h
        · rw [h] at hu; cases hu
    · rw [up2_ne e] at hx
      have := (W.t j).there x hx
      cases hu : H x with
      | none => exact absurd hu this
      | some u => rw [ext_eq hu]; exact W.ow j x hx
  · obtain ⟨a, b, c⟩ := W.ro j
    obtain ⟨vs, hv, _⟩ := (W.r j).et
    rw [ext_eq (W.r j).es, ext_eq hv, ext_eq (W.r j).er]
    exact ⟨a, b, c⟩
  · rw [ext_eq hl1]; exact q1
  · rw [ext_eq W.s]; exact q2
  · rw [ext_eq hp1]; exact q3
  · obtain ⟨h, e⟩ := W.c q hq
    exact ⟨(W.cc K (by omega) q hq).1, by rw [ext_eq h]; exact e⟩
theorem W2.same (W : W2 C o A D H S R L ep snt) (s : Same H H') : W2 C o A D H' S R L ep snt := by
  obtain ⟨q1, q2, q3⟩ := W.lo
  have K : Kp o 100 H H' := Kp.same s
  exact ⟨W.ts K (by omega), W.ow, W.rs K (.inr (by omega)), W.ro, W.lo, K.lts W.l (by omega), K.2 _ _ W.s (by omega), K.pil W.p (by omega), W.cc K (by omega)⟩
theorem W2.sl (W : W2 C o A D H S R L ep snt) {ep' snt' : Int} : W2 C o A D (upd H D.sl (.lst [.int ep', .int snt'])) S R L ep' snt' := by
  obtain ⟨q1, q2, q3⟩ := W.lo
  have K := Kp.cell (o := o) (vs := [.int ep', .int snt']) W.s
  exact ⟨W.ts K (by omega), W.ow, W.rs K (.inr (by omega)), W.ro, W.lo, K.lts W.l (by omega), upd_same, K.pil W.p (by omega), W.cc K (by omega)⟩
theorem W2.ll (W : W2 C o A D H S R L ep snt) {us vs : List V} {L' : List (Int × Int × Str)} (h : H D.ll = some (.lst us)) (d : DsAt H vs (L'.map ld)) : W2 C o A D (upd H D.ll (.lst vs)) S R L' ep snt := by
  obtain ⟨q1, q2, q3⟩ := W.lo
  have K := Kp.cell (o := o) (vs := vs) h
  exact ⟨W.ts K (by omega), W.ow, W.rs K (.inr (by omega)), W.ro, W.lo, ⟨vs, upd_same, d.mono K.1⟩, K.2 _ _ W.s (by omega), K.pil W.p (by omega), W.cc K (by omega)⟩
theorem W2.pl (W : W2 C o A D H S R L ep snt) (g : Gp D.pl H H') : W2 C o A D H' S R L ep snt := by
  obtain ⟨q1, q2, q3⟩ := W.lo
  obtain ⟨pn, pns, hp1, hp2⟩ := W.p
  have K : Kp o 42 H H' := ⟨fun x vs hx => g.fr x _ hx (fun z => (by subst z; rw [hp1] at hx; cases hx)), fun x u h n => g.fr x u h (fun z => n (by rw [z]; exact q3))⟩
  exact ⟨W.ts K (by omega), W.ow, W.rs K (.inr (by omega)), W.ro, W.lo, K.lts W.l (by omega), K.2 _ _ W.s (by omega), g.pl, W.cc K (by omega)⟩
/-- a record changes -/
theorem W2.rcd (W : W2 C o A D H S R L ep snt) (i : Fin 2) {R' : Rc2} (f : ∀ x u, H x = some u → x ≠ D.st i → x ≠ D.tl i → x ≠ D.rl i → H' x = some u) (h : Rd H' (D.st i) (D.tl i) (D.rl i) R'.n0 R'.P R'.rc) : W2 C o A D H' S (up2 R i R') L ep snt := by
  obtain ⟨q1, q2, q3⟩ := W.lo
  obtain ⟨a, b, c⟩ := W.ro i
  have hi := i.isLt
  have h1 := (W.r i).es
  obtain ⟨us, h2, _⟩ := (W.r i).et
  have h3 := (W.r i).er
  have K : Kp o (10 + i.val) H H' := ⟨fun x vs hx => f x _ hx (fun z => (by subst z; rw [h1] at hx; cases hx)) (fun z => (by subst z; rw [h2] at hx; cases hx)) (fun z => (by subst z; rw [h3] at hx; cases hx)), fun x u h n => f x u h (fun z => n (by rw [z]; exact a)) (fun z => n (by rw [z]; exact b)) (fun z => n (by rw [z]; exact c))⟩
  refine ⟨W.ts K (by omega), W.ow, fun j => ?_, W.ro, W.lo, K.lts W.l (by omega), K.2 _ _ W.s (by omega), K.pil W.p (by omega), W.cc K (by omega)⟩
  by_cases e : j = i
  · subst e; rw [up2_eq]; exact h
  · rw [up2_ne e]
    obtain ⟨a', b', c'⟩ := W.ro j
    have ne : j.val ≠ i.val := fun z => e (Fin.ext z)
    exact K.rd (W.r j) (by omega) (by omega) (by omega)
end
/-! ### k72's steps -/
structure Lk2 (L : List (Int × Int × Str)) (ep snt : Int) : Prop where
  e0 : 0 ≤ ep
  e1 : ep ≤ 12
  s0 : 0 ≤ snt
  z : ∀ x ∈ L, 0 ≤ x.1 ∧ 0 ≤ x.2.1
structure N2 (S : Fin 2 → TS) (R : Fin 2 → Rc2) (sz : Fin 2 → Int) (nm : Fin 2 → Str × Str) (L : List (Int × Int × Str)) (ep snt : Int) (M : Nat) : Prop where
  ls : ∀ i, (S i).ls = L
  epp : ∀ i, (S i).ep = ep
  sn : ∀ i, (S i).snt = snt
  wn : ∀ i, (S i).win = sz i
  ri : ∀ i, RI (S i) (R i).n0 (R i).P (R i).rc
  c0 : ∀ i, (S i).c0.length ≤ M
  c1 : ∀ i, (S i).c1.length ≤ M
  pm : ∀ i, (R i).P.length ≤ M
  rm : ∀ i, (R i).rc.length ≤ M
  lk : Lk2 L ep snt
  w1 : ∀ i, 1 ≤ sz i
  n1 : ∀ i, (S i).n1 = (nm i).1
  n2 : ∀ i, (S i).n2 = (nm i).2
def I2 (C : Addr) (sz : Fin 2 → Int) (nm : Fin 2 → Str × Str) (p : Fin 2 → Addr) (D : Ad2) (H : Hp) (M : Nat) (L : List (Int × Int × Str)) : Prop := ∃ o A S R ep snt, W2 C o A D H S R L ep snt ∧ N2 S R sz nm L ep snt M ∧ ∀ i, (A i).p = p i
def gS (z : Str) (T : TS) : TS := { T with ls := T.ls ++ [(T.ep, T.snt, z)], snt := T.snt + 1 }
def gR (T : TS) : TS := { T with ep := T.ep + 1, snt := 0 }
theorem N2.send {S : Fin 2 → TS} {R : Fin 2 → Rc2} {sz : Fin 2 → Int} {nm : Fin 2 → Str × Str} {L : List (Int × Int × Str)} {ep snt : Int} {M : Nat} (N : N2 S R sz nm L ep snt M) (z : Str) : N2 (fun i => gS z (S i)) R sz nm (L ++ [(ep, snt, z)]) ep (snt + 1) M := by
  refine ⟨fun i => ?_, N.epp, fun i => ?_, N.wn, fun i => ?_, N.c0, N.c1, N.pm, N.rm, ⟨N.lk.e0, N.lk.e1, by have := N.lk.s0; omega, fun x hx => ?_⟩, N.w1, N.n1, N.n2⟩
  · show (S i).ls ++ [((S i).ep, (S i).snt, z)] = _
    rw [N.ls, N.epp, N.sn]
  · show (S i).snt + 1 = _
    rw [N.sn]
  · obtain ⟨a, ⟨b1, b2, b3, b4⟩, c, d, e, f⟩ := N.ri i
    exact ⟨a, ⟨b1, b2, b3, b4⟩, c, d, e, f⟩
  · rcases List.mem_append.mp hx with h | h
    · exact N.lk.z x h
    · cases List.mem_singleton.mp h
      exact ⟨N.lk.e0, N.lk.s0⟩
theorem N2.rekey {S : Fin 2 → TS} {R : Fin 2 → Rc2} {sz : Fin 2 → Int} {nm : Fin 2 → Str × Str} {L : List (Int × Int × Str)} {ep snt : Int} {M : Nat} (N : N2 S R sz nm L ep snt M) (h : ep < 12) : N2 (fun i => gR (S i)) R sz nm L (ep + 1) 0 M := by
  refine ⟨N.ls, fun i => ?_, fun i => rfl, N.wn, fun i => ?_, N.c0, N.c1, N.pm, N.rm, ⟨by have := N.lk.e0; omega, by omega, Int.le_refl _, N.lk.z⟩, N.w1, N.n1, N.n2⟩
  · show (S i).ep + 1 = _
    rw [N.epp]
  · obtain ⟨a, ⟨b1, b2, b3, b4⟩, c, d, e, f⟩ := N.ri i
    exact ⟨a, ⟨b1, b2, b3, b4⟩, c, d, e, f⟩
theorem jdg_nm (S : TS) (back n : Nat) (c : Int) : (jdg S back n c).2.n1 = S.n1 ∧ (jdg S back n c).2.n2 = S.n2 := by
  unfold jdg
  split <;> split <;> (try split) <;> exact ⟨rfl, rfl⟩
theorem dlv_nm (S : TS) (n : Nat) (e c : Int) : (dlv S n e c).2.n1 = S.n1 ∧ (dlv S n e c).2.n2 = S.n2 := by
  unfold dlv
  split
  · exact ⟨rfl, rfl⟩
  · split
    · have h := jdg_nm (renew S e) 0 n c
      have r : (renew S e).n1 = S.n1 ∧ (renew S e).n2 = S.n2 := by unfold renew; split <;> exact ⟨rfl, rfl⟩
      exact ⟨h.1.trans r.1, h.2.trans r.2⟩
    · exact jdg_nm _ _ _ _
theorem stay2 (S : TS) (n : Nat) (e c : Int) : (dlv S n e c).2.win = S.win ∧ (dlv S n e c).2.ls = S.ls ∧ (dlv S n e c).2.ep = S.ep ∧ (dlv S n e c).2.snt = S.snt := by
  obtain ⟨⟨a, b, c, d⟩, _⟩ := dlv_stay S n e c (m := max S.c0.length S.c1.length) (Nat.le_max_left ..) (Nat.le_max_right ..)
  exact ⟨a, b, c, d⟩
theorem N2.deliver {S : Fin 2 → TS} {R : Fin 2 → Rc2} {sz : Fin 2 → Int} {nm : Fin 2 → Str × Str} {L : List (Int × Int × Str)} {ep snt : Int} {M : Nat} (N : N2 S R sz nm L ep snt M) (j : Fin 2) {n : Nat} {x : Int × Int × Str} (hn : L[n]? = some x) {tp : Int} (ht : IsTop tp x.1 (fun y => y ∈ (R j).P)) :
    (dlv (S j) n x.1 x.2.1).1 = wd (sz j) (R j).n0 tp x.1 x.2.1 ((x.1, x.2.1) ∈ (R j).P) ∧
    N2 (up2 S j (dlv (S j) n x.1 x.2.1).2) (up2 R j ⟨if x.1 < (R j).n0 - 1 then (R j).n0 else if x.1 > (R j).n0 then x.1 else (R j).n0, if (dlv (S j) n x.1 x.2.1).1 = "taken" then (R j).P ++ [(x.1, x.2.1)] else (R j).P, if (dlv (S j) n x.1 x.2.1).1 = "taken" then (R j).rc ++ [n] else (R j).rc⟩) sz nm L ep snt (M + 1) := by
  obtain ⟨z0, z1⟩ := N.lk.z x (List.mem_of_getElem? hn)
  obtain ⟨w1, w2⟩ := rec_step (N.ri j) (by rw [N.wn]; exact N.w1 j) n x.1 x.2.1 z0 z1 ht
  obtain ⟨s1, s2, s3, s4⟩ := stay2 (S j) n x.1 x.2.1
  obtain ⟨_, _, b0, b1⟩ := dlv_stay (S j) n x.1 x.2.1 (m := M) (N.c0 j) (N.c1 j)
  rw [N.wn] at w1
  obtain ⟨m1, m2⟩ := dlv_nm (S j) n x.1 x.2.1
  refine ⟨w1, ?_⟩
  have all : ∀ (Q : Fin 2 → TS → Rc2 → Prop), (∀ i, Q i (S i) (R i)) → Q j (dlv (S j) n x.1 x.2.1).2 ⟨if x.1 < (R j).n0 - 1 then (R j).n0 else if x.1 > (R j).n0 then x.1 else (R j).n0, if (dlv (S j) n x.1 x.2.1).1 = "taken" then (R j).P ++ [(x.1, x.2.1)] else (R j).P, if (dlv (S j) n x.1 x.2.1).1 = "taken" then (R j).rc ++ [n] else (R j).rc⟩ → ∀ i, Q i (up2 S j (dlv (S j) n x.1 x.2.1).2 i) (up2 R j ⟨if x.1 < (R j).n0 - 1 then (R j).n0 else if x.1 > (R j).n0 then x.1 else (R j).n0, if (dlv (S j) n x.1 x.2.1).1 = "taken" then (R j).P ++ [(x.1, x.2.1)] else (R j).P, if (dlv (S j) n x.1 x.2.1).1 = "taken" then (R j).rc ++ [n] else (R j).rc⟩ i) := fun Q h1 h2 i => by
    by_cases e : i = j
    · subst e; rw [up2_eq, up2_eq]; exact h2
    · rw [up2_ne e, up2_ne e]; exact h1 i
  have len : ∀ (q : Prop) [Decidable q] {α : Type} (l : List α) (y : α), l.length ≤ M → (if q then l ++ [y] else l).length ≤ M + 1 := fun q _ _ l y h => by
    split
    · rw [List.length_append]; exact Nat.succ_le_succ h
    · exact Nat.le_succ_of_le h
  refine ⟨all (fun i s r => s.ls = L) N.ls (s2.trans (N.ls j)), all (fun i s r => s.ep = ep) N.epp (s3.trans (N.epp j)), all (fun i s r => s.snt = snt) N.sn (s4.trans (N.sn j)), all (fun i s r => s.win = sz i) N.wn (s1.trans (N.wn j)), all (fun i s r => RI s r.n0 r.P r.rc) N.ri w2,
    all (fun i s r => s.c0.length ≤ M + 1) (fun i => Nat.le_succ_of_le (N.c0 i)) b0, all (fun i s r => s.c1.length ≤ M + 1) (fun i => Nat.le_succ_of_le (N.c1 i)) b1, all (fun i s r => r.P.length ≤ M + 1) (fun i => Nat.le_succ_of_le (N.pm i)) (len _ _ _ (N.pm j)), all (fun i s r => r.rc.length ≤ M + 1) (fun i => Nat.le_succ_of_le (N.rm i)) (len _ _ _ (N.rm j)), N.lk, N.w1, all (fun i s r => s.n1 = (nm i).1) N.n1 (m1.trans (N.n1 j)), all (fun i s r => s.n2 = (nm i).2) N.n2 (m2.trans (N.n2 j))⟩
/-! ### k72: send, rekey -/
def stg2 (g : TS → TS) (S : Fin 2 → TS) (n : Nat) : Fin 2 → TS := fun j => if j.val < n then g (S j) else S j
theorem stg2_0 (g : TS → TS) (S : Fin 2 → TS) : stg2 g S 0 = S := funext fun j => if_neg (Nat.not_lt_zero _)
theorem stg2_2 (g : TS → TS) (S : Fin 2 → TS) : stg2 g S 2 = fun j => g (S j) := funext fun j => if_pos j.isLt
theorem stg2_up (g : TS → TS) (S : Fin 2 → TS) (i : Fin 2) : up2 (stg2 g S i.val) i (g (S i)) = stg2 g S (i.val + 1) := funext fun j => by
  by_cases h : j = i
  · subst h
    rw [up2_eq]
    exact (if_pos (Nat.lt_succ_self _)).symm
  · rw [up2_ne h]
    have : j.val ≠ i.val := fun e => h (Fin.ext e)
    unfold stg2
    by_cases h2 : j.val < i.val
    · rw [if_pos h2, if_pos (by omega)]
    · rw [if_neg h2, if_neg (by omega)]
section
variable {C : Addr} {o : Addr → Nat} {A : Fin 2 → TD} {D : Ad2} {H H' : Hp} {S : Fin 2 → TS} {R : Fin 2 → Rc2} {L : List (Int × Int × Str)} {ep snt : Int} {g : TS → TS}
theorem W2.pre (i : Fin 2) (W : W2 C o A D H (stg2 g S i.val) R L ep snt) : Tun C (A i) H (S i) := by
  have := W.t i
  unfold stg2 at this
  rw [if_neg (Nat.lt_irrefl _)] at this
  exact this
theorem W2.stg (i : Fin 2) (W : W2 C o A D H (stg2 g S i.val) R L ep snt) (f : Frm (ft (A i)) H H') (T : Tun C (A i) H' (g (S i))) : ∃ o', W2 C o' A D H' (stg2 g S (i.val + 1)) R L ep snt := by
  have := W.tun i f (Own.refl _ _) T
  rw [up2_self, stg2_up] at this
  exact ⟨_, this⟩
end
theorem two_at {p : Fin 2 → Addr} {i : Nat} {v : V} (h : [V.ref (p 0), V.ref (p 1)][i]? = some v) : ∃ j : Fin 2, j.val = i ∧ v = .ref (p j) := by
  match i, h with
  | 0, h => cases h; exact ⟨0, rfl, rfl⟩
  | 1, h => cases h; exact ⟨1, rfl, rfl⟩
def sp_send2 (C : Addr) : Sp := fun vs H Q _ => ∃ (sz : Fin 2 → Int) (nm : Fin 2 → Str × Str) (p : Fin 2 → Addr) (D : Ad2) (M : Nat) (L : List (Int × Int × Str)) (z : Str) (tul : Addr), vs = [.ref tul, .ref D.sl, .ref D.ll, .str z] ∧ I2 C sz nm p D H M L ∧ (tul, [V.ref (p 0), V.ref (p 1)]) ∈ D.cs ∧ Nm z ∧ L.length < 900 ∧ ∀ H' L', L'.length = L.length + 1 → I2 C sz nm p D H' M L' → Q (.bl true) H'
section
variable {P : Program} {w : World} {K : PySem.W.Frag} {mg : Str → Option Value} {base : Heap}
theorem ok_law_send (T : Top K mg) : FnOk P w K mg base CX0 5 T.f_law_send T.d_law_send ["tunnels", "sender", "letters", "payload"] (sp_send2 T.C_Tunnel) := by
  refine T.F_law_send.ok sc_law_send (fun vs H Q E h => ?_) (fun cdv A outer s H vs Q E hr h => ?_)
  · obtain ⟨sz, nm, p, D, M, L, z, tul, rfl, _⟩ := h
    rfl
  · obtain ⟨sz, nm, p, D, M, L, z, tul, rfl, ⟨o, A', S, R, ep, snt, W, N, hp⟩, ht, hz, hl, q⟩ := h
    refine ⟨_, (pss_cons (ps_for PassesOwn.never rfl (pi_list (pv 0)) (pg_name (i := 4) sc_law_send.nd rfl (Or.inl rfl))
    (pss_one (ps_if (pt_not (pt_val (pe_call (ok_law_same T 2) hr (by rfl) T.g_law_same T.F_law_same.kp T.b_law_same .nil pass0 (pa_cons (pe_methT (pv 4) T.cl_Tunnel T.mTunnel_send (okTunnel_send T) (hr.mono (by decide)) T.bTunnel_send (fun σ => passAt takes0 σ) (pa_cons (pv 3) pa_nil)) (pa_cons (pe_callB call_len_seq (by rfl) T.z_len (by decide +kernel) (pa_cons (pv 2) pa_nil)) pa_nil)))))
     (pss_one (ps_ret pe_bl))
     pss_nil)))
    (pss_cons (ps_expr (pe_bm PySem.F.plainAttrs_list PySem.F.slot_list_append PySem.F.type_list_append mt_append (pv 2) (pa_cons (pe_tup (pa_cons (pe_ix ix_list (pv 1) pe_int (fun _ _ => rfl)) (pa_cons (pe_ix ix_list (pv 1) pe_int (fun _ _ => rfl)) (pa_cons (pv 3) pa_nil)))) pa_nil)))
     (pss_cons (ps_asg (pe_op op_add (pe_ix ix_list (pv 1) pe_int (fun _ _ => rfl)) pe_int) (pg_sub (pv 1) pe_int set_list))
      (pss_one (ps_ret pe_bl))))), ?_⟩
    have htu := (W.c _ ht).1
    repeat walk_at "s"
    refine for_list (K := K) (a := tul) (xs := [V.ref (p 0), V.ref (p 1)]) (fun i σ H1 => ∃ (v4 : Option V) (o1 : Addr → Nat), σ = [some (.ref tul), some (.ref D.sl), some (.ref D.ll), some (.str z), v4] ∧ W2 T.C_Tunnel o1 A' D H1 (stg2 (gS z) S i) R L ep snt) ?_ ?_ ?_ ?_
    · exact ⟨_, o, rfl, by rw [stg2_0]; exact W⟩
    · rintro i σ H1 hi ⟨v4, o1, rfl, W1⟩
      exact SqL.of (W1.c _ ht).1
    · rintro i v σ H1 hi ⟨v4, o1, rfl, W1⟩
      obtain ⟨j, rfl, rfl⟩ := two_at hi
      have U := W2.pre j W1
      have iu : H1 (p j) = some (.ins T.C_Tunnel (A' j).dx (tfs (A' j) (S j))) := by rw [← hp j]; exact U.ins
      obtain ⟨us, hus, dus⟩ := W1.l
      have lus := dus.length
      rw [List.length_map] at lus
      repeat walk_at "s"
      refine w_methS ?_
      repeat walk_at "s"
      refine ⟨p j, _, _, rfl, iu, tn4 _ _, ?_⟩
      repeat walk_at "s"
      refine ⟨A' j, S j, z, by rw [hp j], U, Nat.le_trans hz.hi (by decide), by rw [N.ls]; omega, fun _ H2 f2 U2 => ?_, fun n => absurd hz n⟩
      obtain ⟨o2, W2'⟩ := W2.stg j W1 f2 U2
      obtain ⟨us2, hus2, dus2⟩ := W2'.l
      have lus2 := dus2.length
      rw [List.length_map] at lus2
      repeat walk_at "s"
      rw [N.ls, lus2]
      refine ⟨_, _, rfl, .inr ⟨_, .int _, .int _, .inr (.inl ⟨_, rfl⟩), fun H3 s3 => ?_⟩⟩
      refine ⟨_, rfl, ?_⟩
      refine iteF ?_
      exact ⟨_, o2, rfl, W2'.same s3⟩
    · rintro σ H1 ⟨v4, o1, rfl, W1⟩
      have W1 : W2 T.C_Tunnel o1 A' D H1 (stg2 (gS z) S 2) R L ep snt := W1
      rw [stg2_2] at W1
      obtain ⟨us, hus, dus⟩ := W1.l
      have lus := dus.length
      rw [List.length_map] at lus
      have hs1 := W1.s
      repeat walk_at "s"
      refine ⟨by walk_at "len", fun t3 ht3 => ?_⟩
      have s7 := sm_new (o := .tup [.int ep, .int snt, .str z]) ht3
      have W7 := W1.same s7
      have dz : DAt (upd H1 t3 (.tup [.int ep, .int snt, .str z])) (.ref t3) (ld (ep, snt, z)) := DAt.tup upd_same (DsAt.cons (.int ep) (DsAt.cons (.int snt) (DsAt.cons (.str z) DsAt.nil)))
      have dus7 := dus.mono (Tk.same s7)
      have hus7 := s7 _ _ hus
      have hs7 := s7 _ _ hs1
      generalize upd H1 t3 (.tup [.int ep, .int snt, .str z]) = H7 at W7 dz dus7 hus7 hs7 ⊢
      repeat walk_at "s"
      refine w_append hus7 (big99 (by omega)) ?_
      have W8 := W7.ll (L' := L ++ [(ep, snt, z)]) hus7 (by rw [List.map_append]; exact dus7.app (DsAt.cons dz DsAt.nil))
      have hs8 := W8.s
      generalize upd H7 D.ll (.lst (us ++ [V.ref t3])) = H8 at W8 hs8 ⊢
      repeat walk_at "s"
      have W9 : W2 T.C_Tunnel o1 A' D (upd H8 D.sl (.lst ([V.int ep, V.int snt].set (Int.toNat 1) (V.int (snt + 1))))) (fun j => gS z (S j)) R (L ++ [(ep, snt, z)]) ep (snt + 1) := W8.sl
      exact q _ _ (by rw [List.length_append]; rfl) ⟨o1, A', _, R, ep, snt + 1, W9, N.send z, hp⟩
end
def sp_rekey2 (C : Addr) : Sp := fun vs H Q _ => ∃ (sz : Fin 2 → Int) (nm : Fin 2 → Str × Str) (p : Fin 2 → Addr) (D : Ad2) (M : Nat) (L : List (Int × Int × Str)) (tul : Addr), vs = [.ref tul, .ref D.sl] ∧ I2 C sz nm p D H M L ∧ (tul, [V.ref (p 0), V.ref (p 1)]) ∈ D.cs ∧ ∀ H', I2 C sz nm p D H' M L → Q (.bl true) H'
section
variable {P : Program} {w : World} {K : PySem.W.Frag} {mg : Str → Option Value} {base : Heap}
theorem ok_law_rekey (T : Top K mg) : FnOk P w K mg base CX0 2 T.f_law_rekey T.d_law_rekey ["tunnels", "sender"] (sp_rekey2 T.C_Tunnel) := by
  refine T.F_law_rekey.ok sc_law_rekey (fun vs H Q E h => ?_) (fun cdv A outer s H vs Q E hr h => ?_)
  · obtain ⟨sz, nm, p, D, M, L, tul, rfl, _⟩ := h
    rfl
  · obtain ⟨sz, nm, p, D, M, L, tul, rfl, ⟨o, A', S, R, ep, snt, W, N, hp⟩, ht, q⟩ := h
    refine ⟨_, (pss_cons (ps_for PassesOwn.never rfl (pi_list (pv 0)) (pg_name (i := 2) sc_law_rekey.nd rfl (Or.inl rfl))
    (pss_cons (ps_set (i := 3) sc_law_rekey.nd rfl (Or.inl rfl) pe_bl)
     (pss_cons (ps_set (i := 4) sc_law_rekey.nd rfl (Or.inl rfl) pe_non)
      (pss_cons (ps_try_only rfl rfl ⟨rfl, by decide, .inl T.gX_BadTunnel⟩ takes0 (fun W pn xe tk _ => (pss_one (ps_set (i := 4) sc_law_rekey.nd rfl (Or.inl rfl) (pe_methT0 (pv 2) T.cl_Tunnel T.mTunnel_rekey (okTunnel_rekey T) hr T.bTunnel_rekey (fun σ => passAt tk σ))))) (fun a oe cls d pn _ _ => (pss_one (ps_set (i := 3) sc_law_rekey.nd rfl (Or.inl rfl) pe_bl))))
       (pss_one (ps_if (PW.pt (pw_or (pt_cmpR op_notN (pv 4) pe_non (nomark _)) (pw_or1 (pt_cmpR op_ne (pv 3) (pe_cmpR op_eq (pe_ix ix_list (pv 1) pe_int (fun _ _ => rfl)) pe_int (nomark _)) (nomark _)))))
        (pss_one (ps_ret pe_bl))
        pss_nil))))))
    (pss_cons (ps_if (pt_cmpR op_lt (pe_ix ix_list (pv 1) pe_int (fun _ _ => rfl)) pe_int (nomark _))
     (pss_cons (ps_asg (pe_op op_add (pe_ix ix_list (pv 1) pe_int (fun _ _ => rfl)) pe_int) (pg_sub (pv 1) pe_int set_list))
      (pss_one (ps_asg pe_int (pg_sub (pv 1) pe_int set_list))))
     pss_nil)
     (pss_one (ps_ret pe_bl)))), ?_⟩
    have htu := (W.c _ ht).1
    by_cases hep : ep = 12
    · repeat walk_at "s"
      refine for_list (K := K) (a := tul) (xs := [V.ref (p 0), V.ref (p 1)]) (fun i σ H1 => ∃ (v2 v3 v4 : Option V), σ = [some (.ref tul), some (.ref D.sl), v2, v3, v4] ∧ W2 T.C_Tunnel o A' D H1 S R L ep snt) ?_ ?_ ?_ ?_
      · exact ⟨_, _, _, rfl, W⟩
      · rintro i σ H1 hi ⟨v2, v3, v4, rfl, W1⟩
        exact SqL.of (W1.c _ ht).1
      · rintro i v σ H1 hi ⟨v2, v3, v4, rfl, W1⟩
        obtain ⟨j, rfl, rfl⟩ := two_at hi
        have U := W1.t j
        have iu : H1 (p j) = some (.ins T.C_Tunnel (A' j).dx (tfs (A' j) (S j))) := by rw [← hp j]; exact U.ins
        have hs1 := W1.s
        repeat walk_at "s"
        refine w_methS ?_
        repeat walk_at "s"
        refine ⟨p j, _, _, rfl, iu, tn5 _ _, ?_⟩
        repeat walk_at "s"
        refine ⟨A' j, S j, by rw [hp j], U, fun n => absurd ((N.epp j).trans hep) n, fun _ => ?_⟩
        refine ⟨true, T.eX_BadTunnel_BadTunnel, fun _ x hx => ?_, fun q => nomatch q⟩
        repeat walk_at "s"
        rw [show decide (V.non = V.non) = true from decide_eq_true rfl]
        refine iteF ?_
        repeat walk_at "s"
        rw [show decide (true = decide (ep = 12)) = true from decide_eq_true (decide_eq_true hep).symm]
        refine iteF ?_
        exact ⟨_, _, _, rfl, W1⟩
      · rintro σ H1 ⟨v2, v3, v4, rfl, W1⟩
        have hs1 := W1.s
        repeat walk_at "s"
        rw [decide_eq_false (show ¬ ep < 12 by omega)]
        refine iteF ?_
        repeat walk_at "s"
        exact q H1 ⟨o, A', S, R, ep, snt, W1, N, hp⟩
    · repeat walk_at "s"
      refine for_list (K := K) (a := tul) (xs := [V.ref (p 0), V.ref (p 1)]) (fun i σ H1 => ∃ (v2 v3 v4 : Option V) (o1 : Addr → Nat), σ = [some (.ref tul), some (.ref D.sl), v2, v3, v4] ∧ W2 T.C_Tunnel o1 A' D H1 (stg2 gR S i) R L ep snt) ?_ ?_ ?_ ?_
      · exact ⟨_, _, _, o, rfl, by rw [stg2_0]; exact W⟩
      · rintro i σ H1 hi ⟨v2, v3, v4, o1, rfl, W1⟩
        exact SqL.of (W1.c _ ht).1
      · rintro i v σ H1 hi ⟨v2, v3, v4, o1, rfl, W1⟩
        obtain ⟨j, rfl, rfl⟩ := two_at hi
        have U := W2.pre j W1
        have iu : H1 (p j) = some (.ins T.C_Tunnel (A' j).dx (tfs (A' j) (S j))) := by rw [← hp j]; exact U.ins
        repeat walk_at "s"
        refine w_methS ?_
        repeat walk_at "s"
        refine ⟨p j, _, _, rfl, iu, tn5 _ _, ?_⟩
        repeat walk_at "s"
        refine ⟨A' j, S j, by rw [hp j], U, fun _ H2 f2 U2 => ?_, fun n => absurd ((N.epp j).symm.trans n) hep⟩
        obtain ⟨o2, W2'⟩ := W2.stg j W1 f2 U2
        have hs2 := W2'.s
        repeat walk_at "s"
        rw [show decide (V.non = V.non) = true from decide_eq_true rfl]
        refine iteF ?_
        repeat walk_at "s"
        rw [show decide (false = decide (ep = 12)) = true from decide_eq_true (decide_eq_false hep).symm]
        refine iteF ?_
        exact ⟨_, _, _, o2, rfl, W2'⟩
      · rintro σ H1 ⟨v2, v3, v4, o1, rfl, W1⟩
        have W1 : W2 T.C_Tunnel o1 A' D H1 (stg2 gR S 2) R L ep snt := W1
        rw [stg2_2] at W1
        have hs1 := W1.s
        have he := N.lk.e1
        repeat walk_at "s"
        rw [decide_eq_true (show ep < 12 by omega)]
        refine iteT ?_
        repeat walk_at "s"
        have W3 : W2 T.C_Tunnel o1 A' D (upd (upd H1 D.sl (.lst ([V.int ep, V.int snt].set (Int.toNat 0) (V.int (ep + 1))))) D.sl (.lst (([V.int ep, V.int snt].set (Int.toNat 0) (V.int (ep + 1))).set (Int.toNat 1) (V.int 0)))) (fun j => gR (S j)) R L (ep + 1) 0 := (W1.sl (ep' := ep + 1) (snt' := snt)).sl
        exact q _ ⟨o1, A', _, R, ep + 1, 0, W3, N.rekey (by omega), hp⟩
end
/-! ### k72: deliver -/
theorem j2N {c : Prop} [Decidable c] {t u : Ends → L2.St → Hp → Prop} {D : Ends} {σ : L2.St} {H : Hp} (J : Hp → Prop) (k : ∀ H1, J H1 → D.nx σ H1) (h : ∀ nx : L2.St → Hp → Prop, (∀ H1, J H1 → nx σ H1) → if c then t { D with nx := nx } σ H else u { D with nx := nx } σ H) : if c then t D σ H else u D σ H := h D.nx k
theorem w_methK {C : Addr} {m : Str} {n : Nat} {sp : Sp} {E : XK} {ta : TE} {tk : TA} {σ : L2.St} {H : Hp} {Q : VK} (q : ta σ H fun x H1 => ∃ a dx fs, x = .ref a ∧ H1 a = some (.ins C dx fs) ∧ fs.lookup m = none ∧ tk σ H1 fun zs H2 => zs.length = n ∧ sp (x :: zs) H2 Q E) : tMethK C m n sp E ta tk σ H Q := q
theorem ld_at' {H : Hp} {q : Addr} {x : Int × Int × Str} (h : H q = some (.tup [.int x.1, .int x.2.1, .str x.2.2])) : DAt H (.ref q) (ld x) := .tup h (.cons (.int _) (.cons (.int _) (.cons (.str _) .nil)))
theorem dq_ld (x : Int × Int × Str) : Dq 2 (ld x) := .inr (.inr (.inr ⟨_, rfl, by show 3 ≤ 2000; decide, fun e he => by
  simp only [List.mem_cons, List.not_mem_nil, or_false] at he
  rcases he with rfl | rfl | rfl
  · exact .inr (.inl ⟨_, rfl⟩)
  · exact .inr (.inl ⟨_, rfl⟩)
  · exact .inl ⟨_, rfl⟩⟩))
def sp_ldel2 (C : Addr) : Sp := fun vs H Q _ => ∃ (sz : Fin 2 → Int) (nm : Fin 2 → Str × Str) (p : Fin 2 → Addr) (D : Ad2) (M : Nat) (L : List (Int × Int × Str)) (j : Fin 2) (n : Nat), vs = [.ref (p j), .int (sz j), .ref (D.st j), .ref D.ll, .int (n : Int)] ∧ I2 C sz nm p D H M L ∧ M ≤ 4000 ∧ n < L.length ∧ ∀ H', I2 C sz nm p D H' (M + 1) L → Q (.bl true) H'
section
variable {P : Program} {w : World} {K : PySem.W.Frag} {mg : Str → Option Value} {base : Heap}
theorem ok_law_deliver (T : Top K mg) : FnOk P w K mg base CX0 5 T.f_law_deliver T.d_law_deliver ["tunnel", "size", "state", "letters", "number"] (sp_ldel2 T.C_Tunnel) := by
  refine T.F_law_deliver.ok sc_law_deliver (fun vs H Q E h => ?_) (fun cdv A outer s H vs Q E hr h => ?_)
  · obtain ⟨sz, nm, p, D, M, L, j, n, rfl, _⟩ := h
    rfl
  · obtain ⟨sz, nm, p, D, M, L, j, n, rfl, ⟨o, A', S, R, ep, snt, W, N, hp⟩, hM, hnL, q⟩ := h
    refine ⟨_, (pss_cons (ps_set (i := 5) sc_law_deliver.nd rfl (Or.inl rfl) (pe_call (ok_law_word T) (hr.mono (by decide)) (by rfl) T.g_law_word T.F_law_word.kp T.b_law_word .nil pass0 (pa_cons (pv 1) (pa_cons (pv 2) (pa_cons (pe_ix ix_tup (pe_ix ix_list (pv 3) (pv 4) (fun _ _ => rfl)) pe_int (fun _ _ => rfl)) (pa_cons (pe_ix ix_tup (pe_ix ix_list (pv 3) (pv 4) (fun _ _ => rfl)) pe_int (fun _ _ => rfl)) pa_nil))))))
    (pss_cons (ps_if (pt_cmpR op_eq (pv 5) pe_str (nomark _))
     (pss_one (ps_expr (pe_bm PySem.F.plainAttrs_list PySem.F.slot_list_append PySem.F.type_list_append mt_append (pe_ix ix_list (pv 2) pe_int (fun _ _ => rfl)) (pa_cons (pv 4) pa_nil))))
     pss_nil)
     (pss_cons (ps_if (pt_not (pt_val (pe_call (ok_law_same T 2) hr (by rfl) T.g_law_same T.F_law_same.kp T.b_law_same .nil pass0 (pa_cons (pe_methK (pv 0) T.cl_Tunnel T.mTunnel_deliver (okTunnel_deliver T) (hr.mono (by decide)) T.qTunnel_deliver_number passX0 (pk_cons (pv 4) pk_nil)) (pa_cons (pv 5) pa_nil)))))
      (pss_one (ps_ret pe_bl))
      pss_nil)
      (pss_one (ps_ret (pe_call (ok_law_same T 2) hr (by rfl) T.g_law_same T.F_law_same.kp T.b_law_same .nil pass0 (pa_cons (pe_methK (pv 0) T.cl_Tunnel T.mTunnel_letter (okTunnel_letter T) (hr.mono (by decide)) T.qTunnel_letter_number passX0 (pk_cons (pv 4) pk_nil)) (pa_cons (pe_ix ix_list (pv 3) (pv 4) (fun _ _ => rfl)) pa_nil)))))))), ?_⟩
    obtain ⟨x, hn⟩ : ∃ x, L[n]? = some x := ⟨_, List.getElem?_eq_getElem hnL⟩
    obtain ⟨us, hus, dus⟩ := W.l
    obtain ⟨v, hv, hq⟩ := ld_get dus hn
    have pm := N.pm j
    have rm := N.rm j
    repeat walk_at "s"
    refine w_ixL (SqL.of hus) (atI_nat hv) ?_
    repeat walk_at "s"
    refine w_ixL (SqL.of hus) (atI_nat hv) ?_
    repeat walk_at "s"
    refine ⟨sz j, D.st j, D.tl j, D.rl j, (R j).n0, (R j).P, (R j).rc, x.1, x.2.1, rfl, W.r j, by omega, fun H1 tp w htp hw f1 R1 => ?_⟩
    obtain ⟨a1, N'⟩ := N.deliver j hn htp
    rw [← hw] at a1
    rw [a1] at N'
    repeat walk_at "s"
    refine j2N (fun H2 => (∀ x u, H x = some u → x ≠ D.st j → x ≠ D.tl j → x ≠ D.rl j → H2 x = some u) ∧ Rd H2 (D.st j) (D.tl j) (D.rl j) (if x.1 < (R j).n0 - 1 then (R j).n0 else if x.1 > (R j).n0 then x.1 else (R j).n0) (if w = "taken" then (R j).P ++ [(x.1, x.2.1)] else (R j).P) (if w = "taken" then (R j).rc ++ [n] else (R j).rc)) ?_ (fun nx kk => ite2 (fun h => ?_) (fun h => ?_))
    · rintro H2 ⟨f2, R2⟩
      have W2' := W.rcd j (R' := ⟨if x.1 < (R j).n0 - 1 then (R j).n0 else if x.1 > (R j).n0 then x.1 else (R j).n0, if w = "taken" then (R j).P ++ [(x.1, x.2.1)] else (R j).P, if w = "taken" then (R j).rc ++ [n] else (R j).rc⟩) f2 R2
      have U2 := W2'.t j
      have iu : H2 (p j) = some (.ins T.C_Tunnel (A' j).dx (tfs (A' j) (S j))) := by rw [← hp j]; exact U2.ins
      dsimp only
      repeat walk_at "s"
      refine w_methK ?_
      repeat walk_at "s"
      refine ⟨p j, _, _, rfl, iu, tn6 _ _, ?_⟩
      repeat walk_at "s"
      refine ⟨rfl, A' j, S j, (n : Int), by rw [hp j], U2, Nat.lt_of_le_of_lt (N.c0 j) (by omega), Nat.lt_of_le_of_lt (N.c1 j) (by omega), ?_, fun m x' em hx' a3 H3 ep3 f3 ow3 U3 => ?_, fun hb => (hb ⟨by omega, by rw [N.ls]; omega⟩).elim⟩
      · rw [(N.ri j).rc, List.length_map]; omega
      obtain rfl : n = m := by omega
      rw [N.ls, hn] at hx'
      cases hx'
      have W3 := W2'.tun j f3 ow3 U3
      have hp3 : ∀ i, (up2 A' j a3 i).p = p i := fun i => by
        by_cases h : i = j
        · subst h; rw [up2_eq, ep3, hp]
        · rw [up2_ne h, hp]
      rw [a1]
      repeat walk_at "s"
      refine ⟨_, _, rfl, .inl ⟨_, _, rfl, rfl, by decide, ?_⟩⟩
      refine ⟨_, rfl, ?_⟩
      rw [decide_eq_true rfl]
      refine iteF ?_
      have U4 := W3.t j
      have iu4 : H3 (p j) = some (.ins T.C_Tunnel (up2 A' j a3 j).dx (tfs (up2 A' j a3 j) (up2 S j (dlv (S j) n x.1 x.2.1).2 j))) := by rw [← hp3 j]; exact U4.ins
      have ls4 := N'.ls j
      obtain ⟨us3, hus3, dus3⟩ := W3.l
      obtain ⟨v3, hv3, hq3⟩ := ld_get dus3 hn
      repeat walk_at "s"
      refine w_methK ?_
      repeat walk_at "s"
      refine ⟨p j, _, _, rfl, iu4, tn1 _ _, ?_⟩
      repeat walk_at "s"
      refine ⟨rfl, up2 A' j a3 j, _, (n : Int), by rw [hp3 j], U4, fun m x' em hx' v4 hv4 => ?_, fun hb => (hb ⟨by omega, by rw [ls4]; omega⟩).elim⟩
      obtain rfl : n = m := by omega
      rw [ls4, hn] at hx'
      cases hx'
      repeat walk_at "s"
      refine w_ixL (SqL.of hus3) (atI_nat hv3) ?_
      repeat walk_at "s"
      refine ⟨_, _, rfl, .inr ⟨_, ld_at' hv4, ld_at' hq3, dq_ld x, fun H4 s4 => ?_⟩⟩
      exact q H4 ⟨_, _, _, _, ep, snt, W3.same s4, N', hp3⟩
    · have ht : w = "taken" := of_decide_eq_true h
      obtain ⟨r1, ⟨us1, r2, r3⟩, r4, r5, r6, r7⟩ := id R1
      repeat walk_at "s"
      refine w_append r4 (by rw [inz_len, List.length_map]; exact big99 (by omega)) (kk _ ⟨fun y u hy n1 n2 n3 => ?_, ?_⟩)
      · rw [upd_ne n3]
        exact f1 y u hy (by simp [n1, n2])
      · rw [if_pos ht] at r3 ⊢
        rw [if_pos ht]
        have er : inz ((R j).rc.map fun n : Nat => (n : Int)) ++ [V.int (n : Int)] = inz (((R j).rc ++ [n]).map fun n : Nat => (n : Int)) := by rw [List.map_append, inz_app]; rfl
        rw [er]
        exact ⟨by rw [upd_ne r6.symm]; exact r1, ⟨us1, by rw [upd_ne r7.symm]; exact r2, r3.mono (Tk.lst r4)⟩, upd_same, r5, r6, r7⟩
    · have ht : ¬ w = "taken" := of_decide_eq_false (ofb h)
      refine kk _ ⟨fun y u hy n1 n2 n3 => f1 y u hy (by simp [n1, n2]), ?_⟩
      rw [if_neg ht] at R1 ⊢
      rw [if_neg ht]
      exact R1
end
/-! ### texts that are no names -/
def sp_nono : Sp := fun vs H Q _ => ∃ (nl : Addr) (f : Nat → Str), vs = [.ref nl] ∧ H nl = some (.lst ((List.range 6).map fun i => V.str (f i))) ∧ (∀ i, Nm (f i)) ∧ ∀ (l : Addr) (zs : List Str) (H' : Hp), Same H H' → H' l = some (.lst (zs.map V.str)) → zs.length = 9 → (∀ z ∈ zs, ¬ Nm z ∧ z.length ≤ 100) → Q (.ref l) H'
theorem nm_at6 {f : Nat → Str} {j : Nat} (h : j < 6) : atI ((List.range 6).map fun i => V.str (f i)) ((j : Nat) : Int) = some (V.str (f j)) := by
  refine atI_nat ?_
  rw [List.getElem?_map, List.getElem?_range h]
  rfl
theorem bad {z : Str} {c : Nat} (h : c ∈ cd z) (hc : c < 97) : ¬ Nm z := fun n => by have := n.az c h; omega
theorem w_m0 {r : V → List V → Hp → VK → Prop} {te : TE} {σ : L2.St} {H : Hp} {Q : VK} (q : te σ H fun x H1 => (∃ a, x = .str a) ∧ r x [] H1 Q) : tM0 r te σ H Q := q
section
variable {P : Program} {w : World} {K : PySem.W.Frag} {mg : Str → Option Value} {base : Heap}
theorem ok_law_no_names (T : Top K mg) : FnOk P w K mg base CX0 1 T.f_law_no_names T.d_law_no_names ["names"] sp_nono := by
  refine T.F_law_no_names.ok sc_law_no_names (fun vs H Q E h => ?_) (fun cdv A outer s H vs Q E hr h => ?_)
  · obtain ⟨nl, f, rfl, _⟩ := h
    rfl
  · obtain ⟨nl, f, rfl, hnl, hf, q⟩ := h
    refine ⟨_, (pss_cons (ps_set (i := 1) sc_law_no_names.nd rfl (Or.inl rfl) (pe_lst (pa_cons pe_str (pa_cons (pe_slice sl_str (pe_op op_repS (pe_ix ix_list (pv 0) pe_int (fun _ _ => rfl)) pe_int) po_none (po_some pe_int)) (pa_cons (pe_op op_add_str (pe_slice sl_str (pe_ix ix_list (pv 0) pe_int (fun _ _ => rfl)) po_none (po_some pe_int)) pe_str) (pa_cons (pe_op op_add_str pe_str (pe_slice sl_str (pe_ix ix_list (pv 0) pe_int (fun _ _ => rfl)) po_none (po_some pe_int))) (pa_cons (pe_op op_add_str (pe_op op_add_str (pe_slice sl_str (pe_ix ix_list (pv 0) pe_int (fun _ _ => rfl)) po_none (po_some pe_int)) pe_str) (pe_slice sl_str (pe_ix ix_list (pv 0) pe_int (fun _ _ => rfl)) po_none (po_some pe_int))) pa_nil)))))))
    (pss_one (ps_ret (pe_op op_cat (pv 1) (pe_lst (pa_cons (pe_op op_add_str (pe_slice sl_str (pe_ix ix_list (pv 0) pe_int (fun _ _ => rfl)) po_none (po_some pe_int)) pe_str) (pa_cons (pe_upper (pe_ix ix_list (pv 0) pe_int (fun _ _ => rfl))) (pa_cons (pe_op op_add_str pe_str (pe_slice sl_str (pe_ix ix_list (pv 0) pe_int (fun _ _ => rfl)) po_none (po_some pe_int))) (pa_cons (pe_op op_add_str (pe_slice sl_str (pe_ix ix_list (pv 0) pe_int (fun _ _ => rfl)) po_none (po_some pe_int)) pe_str) pa_nil))))))))), ?_⟩
    have n2 := hf 2
    have n3 := hf 3
    have lo2 := n2.lo
    have hi2 := n2.hi
    have lo3 := n3.lo
    have hi3 := n3.hi
    repeat walk_at "s"
    refine ⟨f 2, 9, rfl, rfl, by omega, by omega, lo2, by omega, ?_⟩
    repeat walk_at "s"
    have l9 : (⟨(List.replicate (Int.toNat 9) (f 2).cps).foldl (· ++ ·) #[]⟩ : Str).length = 9 * (f 2).length := rep_len 9 (f 2)
    refine w_slS (by rw [l9]; exact Nat.le_trans (show 9 * (f 2).length ≤ 72 by omega) (by decide)) ?_
    have cl : ∀ i lo hi, (cutS (f i) lo hi).length ≤ 8 := fun i lo hi => Nat.le_trans (cutS_length (f i) lo hi) (hf i).hi
    have sz : ∀ a b : Str, a.length ≤ 100 → b.length ≤ 100 → a.length + b.length ≤ sizeLine := fun a b h g => Nat.le_trans (Nat.add_le_add h g) (by decide)
    have c100 : ∀ i lo hi, (cutS (f i) lo hi).length ≤ 100 := fun i lo hi => Nat.le_trans (cl i lo hi) (by decide)
    have one : ∀ z : Str, z.length = 1 → z.length ≤ 100 := fun z h => by omega
    repeat walk_at "s"
    refine ⟨sz _ _ (c100 ..) (one _ rfl), ?_⟩
    repeat walk_at "s"
    refine ⟨sz _ _ (one _ rfl) (c100 ..), ?_⟩
    repeat walk_at "s"
    refine ⟨sz _ _ (c100 ..) (one _ rfl), ?_⟩
    repeat walk_at "s"
    refine ⟨sz _ _ (by rw [len_app]; exact Nat.le_trans (Nat.add_le_add (cl 2 none (some 3)) (Nat.le_refl 1)) (by decide)) (c100 ..), ?_⟩
    repeat walk_at "s"
    refine ⟨by walk_at "len", fun p hp => ?_⟩
    have s1 := sm_new (o := .lst ([Str.ofString "", cutS ⟨List.foldl (· ++ ·) #[] (List.replicate (Int.toNat 9) (f 2).cps)⟩ none (some 9), cutS (f 2) none (some 7) ++ Str.ofString "Z", Str.ofString "7" ++ cutS (f 2) none (some 7), cutS (f 2) none (some 3) ++ Str.ofString " " ++ cutS (f 3) none (some 3)].map V.str)) hp
    have e1 := upd_self2 hp (.lst ([Str.ofString "", cutS ⟨List.foldl (· ++ ·) #[] (List.replicate (Int.toNat 9) (f 2).cps)⟩ none (some 9), cutS (f 2) none (some 7) ++ Str.ofString "Z", Str.ofString "7" ++ cutS (f 2) none (some 7), cutS (f 2) none (some 3) ++ Str.ofString " " ++ cutS (f 3) none (some 3)].map V.str))
    have hnl1 := s1 _ _ hnl
    repeat walk_at "s"
    refine ⟨sz _ _ (c100 ..) (one _ rfl), ?_⟩
    repeat walk_at "s"
    refine w_m0 ?_
    refine w_op ?_
    refine w_var rfl ?_
    refine w_c ?_
    refine w_ixL (SqL.of hnl1) (nm_at6 (j := 3) (by decide)) ?_
    refine ⟨⟨_, rfl⟩, _, rfl, rfl, Nat.le_trans hi3 (show 8 ≤ 5592405 by decide), ?_⟩
    repeat walk_at "s"
    refine ⟨sz _ _ (one _ rfl) (c100 ..), ?_⟩
    repeat walk_at "s"
    refine ⟨sz _ _ (c100 ..) (one _ rfl), ?_⟩
    repeat walk_at "s"
    refine ⟨by walk_at "len", fun p2 hp2 => ?_⟩
    repeat walk_at "s"
    have ne : p ≠ p2 := ne_of_none e1 hp2
    refine ⟨p, p2, _, _, rfl, rfl, (upd_ne ne).trans upd_same, upd_same, (by show 9 ≤ sizeLine; decide), fun l hl => ?_⟩
    have s2 := sm_new (o := .lst ([cutS (f 2) none (some 3) ++ Str.ofString "-", Txt.upper (f 3), Str.ofString " " ++ cutS (f 3) none (some 7), cutS (f 3) none (some 7) ++ Str.ofString "\n"].map V.str)) hp2
    refine q l ([Str.ofString "", cutS ⟨List.foldl (· ++ ·) #[] (List.replicate (Int.toNat 9) (f 2).cps)⟩ none (some 9), cutS (f 2) none (some 7) ++ Str.ofString "Z", Str.ofString "7" ++ cutS (f 2) none (some 7), cutS (f 2) none (some 3) ++ Str.ofString " " ++ cutS (f 3) none (some 3)] ++ [cutS (f 2) none (some 3) ++ Str.ofString "-", Txt.upper (f 3), Str.ofString " " ++ cutS (f 3) none (some 7), cutS (f 3) none (some 7) ++ Str.ofString "\n"]) _ ((s1.trans s2).trans (sm_new hl)) upd_same rfl ?_
    intro z hz
    simp only [List.cons_append, List.nil_append, List.mem_cons, List.not_mem_nil, or_false] at hz
    have c1 : (Str.ofString "Z").length = 1 ∧ (Str.ofString "7").length = 1 ∧ (Str.ofString " ").length = 1 ∧ (Str.ofString "-").length = 1 ∧ (Str.ofString "\n").length = 1 := ⟨rfl, rfl, rfl, rfl, rfl⟩
    rcases hz with rfl | rfl | rfl | rfl | rfl | rfl | rfl | rfl | rfl
    · exact ⟨fun n => absurd n.lo (by decide +kernel), by decide +kernel⟩
    · have e : cd (cutS ⟨List.foldl (· ++ ·) #[] (List.replicate (Int.toNat 9) (f 2).cps)⟩ none (some 9)) = (cd (⟨List.foldl (· ++ ·) #[] (List.replicate (Int.toNat 9) (f 2).cps)⟩ : Str)).take 9 := cd_pre _ 9
      have l : (cutS ⟨List.foldl (· ++ ·) #[] (List.replicate (Int.toNat 9) (f 2).cps)⟩ none (some 9)).length = 9 := by
        rw [cd_len, e, List.length_take, ← cd_len, l9]; omega
      exact ⟨fun n => by have := n.hi; omega, by omega⟩
    · exact ⟨bad (c := 90) (by rw [cd_app]; exact List.mem_append_right _ (List.mem_cons_self ..)) (by decide), by rw [len_app]; have := cl 2 none (some 7); omega⟩
    · exact ⟨bad (c := 55) (by rw [cd_app]; exact List.mem_append_left _ (List.mem_cons_self ..)) (by decide), by rw [len_app]; have := cl 2 none (some 7); omega⟩
    · exact ⟨bad (c := 32) (by rw [cd_app, cd_app]; exact List.mem_append_left _ (List.mem_append_right _ (List.mem_cons_self ..))) (by decide), by rw [len_app, len_app]; have := cl 2 none (some 3); have := cl 3 none (some 3); omega⟩
    · exact ⟨bad (c := 45) (by rw [cd_app]; exact List.mem_append_right _ (List.mem_cons_self ..)) (by decide), by rw [len_app]; have := cl 2 none (some 3); omega⟩
    · have e : cd (Txt.upper (f 3)) = (cd (f 3)).map PyProof.Rows.up1 := by
        rw [PyProof.Rows.upper_ascii (x := f 3) (fun c hc => by have := n3.az c hc; omega)]
        show ((f 3).cps.map PyProof.Rows.up1).toList = _
        rw [Array.toList_map]
        rfl
      have hl : (cd (f 3)).length = (f 3).length := (cd_len _).symm
      have h0 : 0 < (cd (f 3)).length := by omega
      have hm := List.getElem_mem h0
      have h97 := n3.az _ hm
      refine ⟨bad (c := PyProof.Rows.up1 (cd (f 3))[0]) (by rw [e]; exact List.mem_map_of_mem hm) ?_, by rw [cd_len, e, List.length_map]; omega⟩
      unfold PyProof.Rows.up1
      rw [if_pos h97]
      omega
    · exact ⟨bad (c := 32) (by rw [cd_app]; exact List.mem_append_left _ (List.mem_cons_self ..)) (by decide), by rw [len_app]; have := cl 3 none (some 7); omega⟩
    · exact ⟨bad (c := 10) (by rw [cd_app]; exact List.mem_append_right _ (List.mem_cons_self ..)) (by decide), by rw [len_app]; have := cl 3 none (some 7); omega⟩
end
/-! ### makings -/
theorem nm_at6i {f : Nat → Str} {d : Int} (h0 : 0 ≤ d) (h1 : d < 6) : atI ((List.range 6).map fun i => V.str (f i)) d = some (V.str (f d.toNat)) := by
  obtain ⟨j, rfl⟩ : ∃ j : Nat, d = (j : Int) := ⟨d.toNat, by omega⟩
  exact nm_at6 (by omega)
def sp_makings : Sp := fun vs H Q _ => ∃ (pl nl : Addr) (f : Nat → Str) (size : Int), vs = [.ref pl, .ref nl, .int size] ∧ Pil H pl ∧ nl ≠ pl ∧ H nl = some (.lst ((List.range 6).map fun i => V.str (f i))) ∧ (∀ i, Nm (f i)) ∧ f 0 ≠ f 1 ∧ 1 ≤ size ∧ size ≤ 64 ∧ ∀ H', Gp pl H H' → Q (.bl true) H'
theorem strs_ne {H : Hp} {l pl : Addr} {zs : List Str} (h : H l = some (.lst (zs.map V.str))) (hp : Pil H pl) : l ≠ pl := by
  obtain ⟨n, ns, e, _⟩ := hp
  refine ne_lst h e ?_
  cases zs with
  | nil => intro q; cases q
  | cons z r => intro q; cases q
theorem bad_at {zs : List Str} {d : Int} (h0 : 0 ≤ d) (h1 : d < 9) (l : zs.length = 9) : ∃ z, z ∈ zs ∧ atI (zs.map V.str) d = some (V.str z) := at_map h0 (by omega)
section
variable {P : Program} {w : World} {K : PySem.W.Frag} {mg : Str → Option Value} {base : Heap}
theorem ok_law_makings (T : Top K mg) : FnOk P w K mg base CX0 6 T.f_law_makings T.d_law_makings ["pile", "names", "size"] sp_makings := by
  refine T.F_law_makings.ok sc_law_makings (fun vs H Q E h => ?_) (fun cdv A outer s H vs Q E hr h => ?_)
  · obtain ⟨pl, nl, f, size, rfl, _⟩ := h
    rfl
  · obtain ⟨pl, nl, f, size, rfl, hp, nne, hnl, hf, hf01, z1, z64, q⟩ := h
    refine ⟨_, (pss_cons (ps_set (i := 3) sc_law_makings.nd rfl (Or.inl rfl) (pe_ix ix_list (pe_call (ok_law_no_names T) (hr.mono (by decide)) (by rfl) T.g_law_no_names T.F_law_no_names.kp T.b_law_no_names .nil pass0 (pa_cons (pv 1) pa_nil)) (pe_call (ok_law_draw T) (hr.mono (by decide)) (by rfl) T.g_law_draw T.F_law_draw.kp T.b_law_draw .nil pass0 (pa_cons (pv 0) (pa_cons pe_int pa_nil))) (fun _ _ => rfl)))
    (pss_cons (ps_set (i := 4) sc_law_makings.nd rfl (Or.inl rfl) (pe_ix ix_list (pe_lst (pa_cons pe_int (pa_cons pe_int (pa_cons (pe_op op_sub (pe_un un_neg pe_int) (pe_call (ok_law_draw T) (hr.mono (by decide)) (by rfl) T.g_law_draw T.F_law_draw.kp T.b_law_draw .nil pass0 (pa_cons (pv 0) (pa_cons pe_int pa_nil)))) (pa_cons (pe_op op_add pe_int (pe_call (ok_law_draw T) (hr.mono (by decide)) (by rfl) T.g_law_draw T.F_law_draw.kp T.b_law_draw .nil pass0 (pa_cons (pv 0) (pa_cons pe_int pa_nil)))) pa_nil))))) (pe_call (ok_law_draw T) (hr.mono (by decide)) (by rfl) T.g_law_draw T.F_law_draw.kp T.b_law_draw .nil pass0 (pa_cons (pv 0) (pa_cons pe_int pa_nil))) (fun _ _ => rfl)))
     (pss_cons (ps_if (PW.pt (pw_or (pt_val (pe_call (ok_law_makes T) hr (by rfl) T.g_law_makes T.F_law_makes.kp T.b_law_makes .nil pass0 (pa_cons (pv 4) (pa_cons (pe_ix ix_list (pv 1) pe_int (fun _ _ => rfl)) (pa_cons (pe_ix ix_list (pv 1) pe_int (fun _ _ => rfl)) pa_nil))))) (pw_or1 (pt_val (pe_call (ok_law_makes T) hr (by rfl) T.g_law_makes T.F_law_makes.kp T.b_law_makes .nil pass0 (pa_cons (pv 2) (pa_cons (pe_ix ix_list (pv 1) pe_int (fun _ _ => rfl)) (pa_cons (pe_ix ix_list (pv 1) pe_int (fun _ _ => rfl)) pa_nil))))))))
      (pss_one (ps_ret pe_bl))
      pss_nil)
      (pss_cons (ps_if (PW.pt (pw_or (pt_val (pe_call (ok_law_makes T) hr (by rfl) T.g_law_makes T.F_law_makes.kp T.b_law_makes .nil pass0 (pa_cons (pv 2) (pa_cons (pv 3) (pa_cons (pe_ix ix_list (pv 1) pe_int (fun _ _ => rfl)) pa_nil))))) (pw_or1 (pt_val (pe_call (ok_law_makes T) hr (by rfl) T.g_law_makes T.F_law_makes.kp T.b_law_makes .nil pass0 (pa_cons (pv 2) (pa_cons (pe_ix ix_list (pv 1) pe_int (fun _ _ => rfl)) (pa_cons (pv 3) pa_nil))))))))
       (pss_one (ps_ret pe_bl))
       pss_nil)
       (pss_one (ps_ret (pe_and (pe_call (ok_law_makes T) hr (by rfl) T.g_law_makes T.F_law_makes.kp T.b_law_makes .nil pass0 (pa_cons pe_int (pa_cons (pe_ix ix_list (pv 1) pe_int (fun _ _ => rfl)) (pa_cons (pe_ix ix_list (pv 1) pe_int (fun _ _ => rfl)) pa_nil)))) (pe_one (pe_call (ok_law_makes T) hr (by rfl) T.g_law_makes T.F_law_makes.kp T.b_law_makes .nil pass0 (pa_cons pe_int (pa_cons (pe_ix ix_list (pv 1) pe_int (fun _ _ => rfl)) (pa_cons (pe_ix ix_list (pv 1) pe_int (fun _ _ => rfl)) pa_nil)))))))))))), ?_⟩
    have lf : ∀ i, (f i).length ≤ 1000 := fun i => Nat.le_trans (hf i).hi (by decide)
    repeat walk_at "s"
    refine ⟨nl, f, rfl, hnl, hf, fun bl zs H1 s1 hbl lz hbad => ?_⟩
    have hp1 := hp.same s1
    have nbl := strs_ne hbl hp1
    repeat walk_at "s"
    refine ⟨pl, 9, rfl, hp1, by omega, fun d H2 d0 d1 g2 => ?_⟩
    obtain ⟨z, hz, hzd⟩ := bad_at d0 d1 lz
    obtain ⟨nz, lz'⟩ := hbad z hz
    have lz1 : z.length ≤ 1000 := by omega
    refine w_ixL (SqL.of (g2.at hbl nbl)) hzd ?_
    have hnl2 := g2.at (s1 _ _ hnl) nne
    have g02 : Gp pl H H2 := ⟨(Fr.same s1).trans g2.fr, g2.pl⟩
    clear hbl hbad hzd
    repeat walk_at "s"
    refine ⟨pl, 60, rfl, g02.pl, by omega, fun a H3 a0 a1 g3 => ?_⟩
    repeat walk_at "s"
    refine ⟨pl, 60, rfl, g3.pl, by omega, fun b H4 b0 b1 g4 => ?_⟩
    repeat walk_at "s"
    refine ⟨by walk_at "len", fun wl hwl => ?_⟩
    have nwl := g4.pl.ne hwl
    have s5 := sm_new (o := .lst [.int 0, .int 65, .int (-1 - a), .int (66 + b)]) hwl
    have e5 := upd_self2 hwl (.lst [.int 0, .int 65, .int (-1 - a), .int (66 + b)])
    generalize upd H4 wl (.lst [.int 0, .int 65, .int (-1 - a), .int (66 + b)]) = H5 at s5 e5 ⊢
    have g05 := ((g02.trans g3).trans g4).same s5
    have hnl5 := s5 _ _ (g4.at (g3.at hnl2 nne) nne)
    repeat walk_at "s"
    refine ⟨pl, 4, rfl, g05.pl, by omega, fun c H6 c0 c1 g6 => ?_⟩
    have hw : ∃ wr : Int, atI [V.int 0, .int 65, .int (-1 - a), .int (66 + b)] c = some (.int wr) ∧ ¬ (1 ≤ wr ∧ wr ≤ 64) := by
      obtain rfl | rfl | rfl | rfl : c = 0 ∨ c = 1 ∨ c = 2 ∨ c = 3 := by omega
      · exact ⟨0, rfl, by omega⟩
      · exact ⟨65, rfl, by omega⟩
      · exact ⟨-1 - a, rfl, by omega⟩
      · exact ⟨66 + b, rfl, by omega⟩
    obtain ⟨wr, hwr, nwr⟩ := hw
    refine w_ixL (SqL.of (g6.at e5 nwl)) hwr ?_
    have hnl6 := g6.at hnl5 nne
    have g06 := g05.trans g6
    clear e5 hwr hnl5 hnl2 hnl
    repeat walk_at "s"
    refine ⟨wr, f 0, f 1, rfl, lf 0, lf 1, fun ok => absurd ⟨ok.1, ok.2.1⟩ nwr, fun _ H7 s7 => ?_⟩
    have hnl7 := s7 _ _ hnl6
    refine ⟨_, rfl, ?_⟩
    refine iteF ?_
    repeat walk_at "s"
    refine ⟨size, f 0, f 0, rfl, lf 0, lf 0, fun ok => absurd rfl ok.2.2.2.2, fun _ H8 s8 => ?_⟩
    have hnl8 := s8 _ _ hnl7
    refine ⟨_, rfl, ?_⟩
    refine iteF ?_
    repeat walk_at "s"
    refine ⟨size, z, f 1, rfl, lz1, lf 1, fun ok => absurd ok.2.2.1 nz, fun _ H9 s9 => ?_⟩
    have hnl9 := s9 _ _ hnl8
    refine ⟨_, rfl, ?_⟩
    refine iteF ?_
    repeat walk_at "s"
    refine ⟨size, f 0, z, rfl, lf 0, lz1, fun ok => absurd ok.2.2.2.1 nz, fun _ H10 s10 => ?_⟩
    have hnl10 := s10 _ _ hnl9
    refine ⟨_, rfl, ?_⟩
    refine iteF ?_
    repeat walk_at "s"
    refine ⟨1, f 0, f 1, rfl, lf 0, lf 1, fun _ H11 s11 => ?_, fun n => absurd ⟨by omega, by omega, hf 0, hf 1, hf01⟩ n⟩
    have hnl11 := s11 _ _ hnl10
    refine ⟨_, rfl, ?_⟩
    refine iteT ?_
    repeat walk_at "s"
    refine ⟨64, f 1, f 0, rfl, lf 1, lf 0, fun _ H12 s12 => ?_, fun n => absurd ⟨by omega, by omega, hf 1, hf 0, fun e => hf01 e.symm⟩ n⟩
    exact q H12 (g06.same (((((s7.trans s8).trans s9).trans s10).trans s11).trans s12))
end
/-! ### lists of one's own beside the world -/
theorem inz_d {H : Hp} : ∀ a : List Int, DsAt H (inz a) (a.map PyData.int)
  | [] => .nil
  | n :: a => .cons (.int n) (inz_d a)
theorem tup_inz {H : Hp} {q : Addr} {a : List Int} (h : H q = some (.tup (inz a))) : DAt H (.ref q) (.tuple (a.map PyData.int)) := .tup h (inz_d a)
theorem dq_inz {a : List Int} (h : a.length ≤ 2000) : Dq 2 (.tuple (a.map PyData.int)) := .inr (.inr (.inr ⟨_, rfl, by rw [List.length_map]; exact h, fun e he => by
  obtain ⟨n, _, rfl⟩ := List.mem_map.mp he
  exact .inr (.inl ⟨n, rfl⟩)⟩))
section
variable {C : Addr} {o : Addr → Nat} {A : Fin 2 → TD} {st tl rl : Fin 2 → Addr} {ll sl pl q : Addr} {cs : List (Addr × List V)} {xs ys : List V} {H H' : Hp} {S : Fin 2 → TS} {R : Fin 2 → Rc2} {L : List (Int × Int × Str)} {ep snt : Int}
theorem W2.cdrop (W : W2 C o A ⟨st, tl, rl, ll, sl, pl, (q, xs) :: cs⟩ H S R L ep snt) : W2 C o A ⟨st, tl, rl, ll, sl, pl, cs⟩ H S R L ep snt :=
  ⟨W.t, W.ow, W.r, W.ro, W.lo, W.l, W.s, W.p, fun z hz => W.c z (List.mem_cons_of_mem _ hz)⟩
theorem W2.cset (W : W2 C o A ⟨st, tl, rl, ll, sl, pl, (q, xs) :: cs⟩ H S R L ep snt) (n : ∀ z ∈ cs, z.1 ≠ q) : W2 C o A ⟨st, tl, rl, ll, sl, pl, (q, ys) :: cs⟩ (upd H q (.lst ys)) S R L ep snt := by
  obtain ⟨q1, q2, q3⟩ := W.lo
  obtain ⟨h, e⟩ := W.c (q, xs) (List.mem_cons_self ..)
  have h : H q = some (.lst xs) := h
  have e : o q = 43 := e
  have K := Kp.cell (o := o) (vs := ys) h
  refine ⟨W.ts K (by omega), W.ow, W.rs K (.inr (by omega)), W.ro, W.lo, K.lts W.l (by rw [q1, e]; decide), K.2 _ _ W.s (by rw [q2, e]; decide), K.pil W.p (by rw [q3, e]; decide), fun z hz => ?_⟩
  rcases List.mem_cons.mp hz with rfl | hz
  · exact ⟨upd_same, e⟩
  · have := W.c z (List.mem_cons_of_mem _ hz)
    exact ⟨by rw [upd_ne (n z hz)]; exact this.1, this.2⟩
theorem W2.cnew (W : W2 C o A ⟨st, tl, rl, ll, sl, pl, cs⟩ H S R L ep snt) (hq : H q = none) (s : Same H H') (e : H' q = some (.lst xs)) : W2 C (ext o 43 H) A ⟨st, tl, rl, ll, sl, pl, (q, xs) :: cs⟩ H' S R L ep snt := by
  have W' := W.same s
  obtain ⟨q1, q2, q3⟩ := W.lo
  obtain ⟨us, hl1, hl2⟩ := W.l
  obtain ⟨pn, pns, hp1, hp2⟩ := W.p
  refine ⟨W'.t, fun j x hx => ?_, W'.r, fun j => ?_, ⟨?_, ?_, ?_⟩, W'.l, W'.s, W'.p, fun z hz => ?_⟩
  · have := (W.t j).there x hx
    cases hu : H x with
    | none => exact absurd hu this
    | some u => rw [ext_eq hu]; exact W.ow j x hx
  · obtain ⟨a, b, c⟩ := W.ro j
    obtain ⟨vs, hv, _⟩ := (W.r j).et
    exact ⟨by rw [ext_eq (W.r j).es]; exact a, by rw [ext_eq hv]; exact b, by rw [ext_eq (W.r j).er]; exact c⟩
  · show ext o 43 H ll = 40
    rw [ext_eq hl1]; exact q1
  · show ext o 43 H sl = 41
    rw [ext_eq W.s]; exact q2
  · show ext o 43 H pl = 42
    rw [ext_eq hp1]; exact q3
  · rcases List.mem_cons.mp hz with rfl | hz
    · exact ⟨e, ext_none hq⟩
    · have := W.c z hz
      exact ⟨s _ _ this.1, by rw [ext_eq this.1]; exact this.2⟩
end
theorem N2.mono {S : Fin 2 → TS} {R : Fin 2 → Rc2} {sz : Fin 2 → Int} {nm : Fin 2 → Str × Str} {L : List (Int × Int × Str)} {ep snt : Int} {M M' : Nat} (N : N2 S R sz nm L ep snt M) (h : M ≤ M') : N2 S R sz nm L ep snt M' :=
  ⟨N.ls, N.epp, N.sn, N.wn, N.ri, fun i => Nat.le_trans (N.c0 i) h, fun i => Nat.le_trans (N.c1 i) h, fun i => Nat.le_trans (N.pm i) h, fun i => Nat.le_trans (N.rm i) h, N.lk, N.w1, N.n1, N.n2⟩
section
variable {C : Addr} {sz : Fin 2 → Int} {nm : Fin 2 → Str × Str} {p st tl rl : Fin 2 → Addr} {ll sl pl q : Addr} {cs : List (Addr × List V)} {xs ys : List V} {D : Ad2} {H H' : Hp} {M : Nat} {L : List (Int × Int × Str)}
theorem I2.mono (I : I2 C sz nm p D H M L) {M' : Nat} (h : M ≤ M') : I2 C sz nm p D H M' L := by
  obtain ⟨o, A, S, R, ep, snt, W, N, hp⟩ := I
  exact ⟨o, A, S, R, ep, snt, W, N.mono h, hp⟩
theorem I2.gp (I : I2 C sz nm p D H M L) (g : Gp D.pl H H') : I2 C sz nm p D H' M L := by
  obtain ⟨o, A, S, R, ep, snt, W, N, hp⟩ := I
  exact ⟨o, A, S, R, ep, snt, W.pl g, N, hp⟩
theorem I2.same (I : I2 C sz nm p D H M L) (s : Same H H') : I2 C sz nm p D H' M L := by
  obtain ⟨o, A, S, R, ep, snt, W, N, hp⟩ := I
  exact ⟨o, A, S, R, ep, snt, W.same s, N, hp⟩
theorem I2.pil (I : I2 C sz nm p D H M L) : Pil H D.pl := by
  obtain ⟨o, A, S, R, ep, snt, W, N, hp⟩ := I
  exact W.p
theorem I2.at (I : I2 C sz nm p D H M L) {q : Addr} {xs : List V} (h : (q, xs) ∈ D.cs) : H q = some (.lst xs) := by
  obtain ⟨o, A, S, R, ep, snt, W, N, hp⟩ := I
  exact (W.c _ h).1
theorem I2.lts (I : I2 C sz nm p D H M L) : Lts H D.ll L := by
  obtain ⟨o, A, S, R, ep, snt, W, N, hp⟩ := I
  exact W.l
theorem I2.tun (I : I2 C sz nm p D H M L) (j : Fin 2) : ∃ (a : TD) (T : TS) (n0 : Int) (rc : List Nat), a.p = p j ∧ Tun C a H T ∧ T.ls = L ∧ T.win = sz j ∧ T.n1 = (nm j).1 ∧ T.n2 = (nm j).2 ∧ T.c0.length ≤ M ∧ T.c1.length ≤ M ∧ T.rc = (rc.map fun n : Nat => (n : Int)) ∧ rc.length ≤ M ∧ H (D.st j) = some (.lst [.int n0, .ref (D.tl j), .ref (D.rl j)]) ∧ H (D.rl j) = some (.lst (inz (rc.map fun n : Nat => (n : Int)))) := by
  obtain ⟨o, A, S, R, ep, snt, W, N, hp⟩ := I
  exact ⟨A j, S j, _, (R j).rc, hp j, W.t j, N.ls j, N.wn j, N.n1 j, N.n2 j, N.c0 j, N.c1 j, (N.ri j).rc, N.rm j, (W.r j).es, (W.r j).er⟩
theorem I2.cdrop (I : I2 C sz nm p ⟨st, tl, rl, ll, sl, pl, (q, xs) :: cs⟩ H M L) : I2 C sz nm p ⟨st, tl, rl, ll, sl, pl, cs⟩ H M L := by
  obtain ⟨o, A, S, R, ep, snt, W, N, hp⟩ := I
  exact ⟨o, A, S, R, ep, snt, W.cdrop, N, hp⟩
theorem I2.cset (I : I2 C sz nm p ⟨st, tl, rl, ll, sl, pl, (q, xs) :: cs⟩ H M L) (n : ∀ z ∈ cs, z.1 ≠ q) : I2 C sz nm p ⟨st, tl, rl, ll, sl, pl, (q, ys) :: cs⟩ (upd H q (.lst ys)) M L := by
  obtain ⟨o, A, S, R, ep, snt, W, N, hp⟩ := I
  exact ⟨o, A, S, R, ep, snt, W.cset n, N, hp⟩
theorem I2.cnew (I : I2 C sz nm p ⟨st, tl, rl, ll, sl, pl, cs⟩ H M L) (hq : H q = none) (s : Same H H') (e : H' q = some (.lst xs)) : I2 C sz nm p ⟨st, tl, rl, ll, sl, pl, (q, xs) :: cs⟩ H' M L := by
  obtain ⟨o, A, S, R, ep, snt, W, N, hp⟩ := I
  exact ⟨_, A, S, R, ep, snt, W.cnew hq s e, N, hp⟩
theorem I2.cne (I : I2 C sz nm p ⟨st, tl, rl, ll, sl, pl, cs⟩ H M L) (hq : H q = none) : ∀ z ∈ cs, z.1 ≠ q := fun z hz => by
  have := I.at (q := z.1) (xs := z.2) hz
  exact ne_of_none this hq
end
theorem j2S {c : Prop} [Decidable c] {t u : Ends → L2.St → Hp → Prop} {D : Ends} {σ : L2.St} {H : Hp} (J : L2.St → Hp → Prop) (k : ∀ σ1 H1, J σ1 H1 → D.nx σ1 H1) (h : ∀ nx : L2.St → Hp → Prop, (∀ σ1 H1, J σ1 H1 → nx σ1 H1) → if c then t { D with nx := nx } σ H else u { D with nx := nx } σ H) : if c then t D σ H else u D σ H := h D.nx k
def rTupK (K : PySem.W.Frag) : List V → Hp → VK → Prop := fun xs H Q => ∃ p ys, xs = [V.ref p] ∧ ((SqL K H p ys ∧ ∀ (l : Addr), H l = none → Q (V.ref l) (upd H l (HO.tup ys))) ∨ SqT K H p ys ∧ Q (V.ref p) H)
/-! ### refusals, all of them -/
def sp_refusals (C : Addr) : Sp := fun vs H Q _ => ∃ (sz : Fin 2 → Int) (nm : Fin 2 → Str × Str) (p : Fin 2 → Addr) (D : Ad2) (M : Nat) (L : List (Int × Int × Str)) (j : Fin 2) (nl : Addr) (f : Nat → Str), vs = [.ref D.pl, .ref (p j), .ref (D.st j), .ref D.ll, .ref nl] ∧ I2 C sz nm p D H M L ∧ (nl, (List.range 6).map fun i => V.str (f i)) ∈ D.cs ∧ (∀ i, Nm (f i)) ∧ M ≤ 1900 ∧ L.length < 900 ∧ ∀ H', I2 C sz nm p D H' M L → Q (.bl true) H'
section
variable {P : Program} {w : World} {K : PySem.W.Frag} {mg : Str → Option Value} {base : Heap}
theorem ok_law_refusals (T : Top K mg) : FnOk P w K mg base CX0 5 T.f_law_refusals T.d_law_refusals ["pile", "tunnel", "state", "letters", "names"] (sp_refusals T.C_Tunnel) := by
  refine T.F_law_refusals.ok sc_law_refusals (fun vs H Q E h => ?_) (fun cdv A outer s H vs Q E hr h => ?_)
  · obtain ⟨sz, nm, p, D, M, L, j, nl, f, rfl, _⟩ := h
    rfl
  · obtain ⟨sz, nm, p, D, M, L, j, nl, f, rfl, I, hnl, hf, hM, hL, q⟩ := h
    refine ⟨_, (pss_cons (ps_set (i := 5) sc_law_refusals.nd rfl (Or.inr rfl) (pe_op op_sub (pe_un un_neg pe_int) (pe_call (ok_law_draw T) (hr.mono (by decide)) (by rfl) T.g_law_draw T.F_law_draw.kp T.b_law_draw .nil pass0 (pa_cons (pv 0) (pa_cons pe_int pa_nil)))))
    (pss_cons (ps_if (pt_cmpR op_eq (pe_call (ok_law_draw T) (hr.mono (by decide)) (by rfl) T.g_law_draw T.F_law_draw.kp T.b_law_draw .nil pass0 (pa_cons (pv 0) (pa_cons pe_int pa_nil))) pe_int (nomark _))
     (pss_one (ps_set (i := 5) sc_law_refusals.nd rfl (Or.inr rfl) (pe_op op_add (pe_callB call_len_seq (by rfl) T.z_len (by decide +kernel) (pa_cons (pv 3) pa_nil)) (pe_call (ok_law_draw T) (hr.mono (by decide)) (by rfl) T.g_law_draw T.F_law_draw.kp T.b_law_draw .nil pass0 (pa_cons (pv 0) (pa_cons pe_int pa_nil))))))
     pss_nil)
     (pss_cons (ps_if (pt_not (pt_val (pe_callB (cr_all rfl) (by rfl) T.z_all (by decide +kernel) (pa_cons (pe_lc (own := [("kind", 6)]) (g := gName 6) (by rfl) sc_law_refusals.nd (pi_range1 (by rfl) T.z_range (pa_cons pe_int pa_nil)) (blkOk_by (own := [("kind", 6)]) (N := N_law_refusals) (sc := defScope s_law_refusals) (by decide +kernel)) (fun _ _ _ _ _ => (pg_name (i := 6) sc_law_refusals.nd rfl (Or.inl rfl))) (fun _ _ _ _ _ => pts_nil) (fun _ _ _ _ _ => (pe_call (ok_law_unknown T) (hr.mono (by decide)) (by rfl) T.g_law_unknown T.F_law_unknown.kp T.b_law_unknown .nil pass0 (pa_cons (pv 1) (pa_cons (pv 5) (pa_cons (pv 6) pa_nil)))))) pa_nil))))
      (pss_one (ps_ret pe_bl))
      pss_nil)
      (pss_one (ps_ret (pe_and (pe_call (ok_law_refuses T) hr (by rfl) T.g_law_refuses T.F_law_refuses.kp T.b_law_refuses .nil pass0 (pa_cons (pv 1) (pa_cons (pe_ix ix_list (pe_call (ok_law_no_names T) (hr.mono (by decide)) (by rfl) T.g_law_no_names T.F_law_no_names.kp T.b_law_no_names .nil pass0 (pa_cons (pv 4) pa_nil)) (pe_call (ok_law_draw T) (hr.mono (by decide)) (by rfl) T.g_law_draw T.F_law_draw.kp T.b_law_draw .nil pass0 (pa_cons (pv 0) (pa_cons pe_int pa_nil))) (fun _ _ => rfl)) pa_nil))) (pe_one (pe_call (ok_law_same T 2) hr (by rfl) T.g_law_same T.F_law_same.kp T.b_law_same .nil pass0 (pa_cons (pe_prop (pv 1) T.cl_Tunnel T.pr_Tunnel_received (okTunnel_received T) (hr.mono (by decide)) T.bTunnel_received .nil pass0 rfl) (pa_cons (pe_callTy call_tuple_of (by rfl) T.z_tuple (by decide +kernel) (pa_cons (pe_ix ix_list (pv 2) pe_int (fun _ _ => rfl)) pa_nil)) pa_nil)))))))))), ?_⟩
    repeat walk_at "s"
    refine ⟨D.pl, 60, rfl, I.pil, by omega, fun a H1 a0 a1 g1 => ?_⟩
    have I1 := I.gp g1
    repeat walk_at "s"
    refine ⟨D.pl, 2, rfl, I1.pil, by omega, fun b H2 b0 b1 g2 => ?_⟩
    have I2' := I1.gp g2
    clear I I1 g1 g2
    obtain ⟨st, tl, rl, ll, sl, pl, cs⟩ := D
    repeat walk_at "s"
    refine j2S (fun σ3 H3 => ∃ (i : Int) (v6 : Option V), σ3 = [some (.ref pl), some (.ref (p j)), some (.ref (st j)), some (.ref ll), some (.ref nl), some (.int i), v6] ∧ ¬ (0 ≤ i ∧ i < (L.length : Int)) ∧ I2 T.C_Tunnel sz nm p ⟨st, tl, rl, ll, sl, pl, cs⟩ H3 M L) ?_ (fun nx kk => ite2 (fun h => ?_) (fun h => ?_))
    · rintro σ3 H3 ⟨i, v6, rfl, hi, I3⟩
      clear I2'
      dsimp only
      repeat walk_at "s"
      intro D hD
      have I4 := I3.cnew (xs := []) hD (sm_new (o := .lst []) hD) upd_same
      have cne := I3.cne hD
      refine lc_range (lo := 0) (n := (Int.toNat 3)) (fun i H4 => I2 T.C_Tunnel sz nm p ⟨st, tl, rl, ll, sl, pl, (D, (List.replicate i true).map V.bl) :: cs⟩ H4 M L) I4 ?_ ?_
      · rintro k H4 hk I4
        have hk3 : k < 3 := hk
        obtain ⟨aa, S, n0, rc, ea, U, els, ewn, -, -, lc0, lc1, erc, lrc, -, -⟩ := I4.tun j
        repeat walk_at "s"
        refine ⟨aa, S, i, 0 + (k : Int), by rw [ea]; rfl, U, by omega, by omega, by rw [erc, List.length_map]; omega, by omega, by omega, by rw [els]; exact hi, ?_⟩
        refine ⟨_, I4.at (List.mem_cons_self ..), ?_, ?_⟩
        · rw [List.length_map, List.length_replicate]; exact big99 (by omega)
        · rw [show ((List.replicate k true).map V.bl) ++ [V.bl true] = (List.replicate (k + 1) true).map V.bl by rw [List.replicate_succ', List.map_append]; rfl]
          exact I4.cset cne
      · intro H4 I4
        repeat walk_at "s"
        refine ⟨D, _, rfl, SqL.of (I4.at (List.mem_cons_self ..)), ?_⟩
        rw [show ((List.replicate (Int.toNat 3) true).all id) = true from rfl]
        have I5 := I4.cdrop
        clear I4
        refine ⟨_, rfl, ?_⟩
        refine iteF ?_
        repeat walk_at "s"
        refine ⟨nl, f, rfl, I5.at hnl, hf, fun bl zs H6 s6 hbl lz hbad => ?_⟩
        have I6 := I5.same s6
        have nbl := strs_ne hbl I6.pil
        repeat walk_at "s"
        refine ⟨pl, 9, rfl, I6.pil, by omega, fun d H7 d0 d1 g7 => ?_⟩
        have I7 := I6.gp g7
        obtain ⟨z, hz, hzd⟩ := bad_at d0 d1 lz
        obtain ⟨nz, lz'⟩ := hbad z hz
        refine w_ixL (SqL.of (g7.at hbl nbl)) hzd ?_
        obtain ⟨aa, S, n0, rc, ea, U, els, ewn, -, -, lc0, lc1, erc, lrc, -, -⟩ := I7.tun j
        clear hbl hbad hzd I5 I6 I4 I3
        repeat walk_at "s"
        refine ⟨aa, S, z, by rw [ea]; rfl, U, by rw [els]; omega, by omega, nz, fun H8 s8 => ?_⟩
        have I8 := I7.same s8
        refine ⟨_, rfl, ?_⟩
        refine iteT ?_
        clear U I7
        obtain ⟨aa, S, n0, rc, ea, U, els, ewn, -, -, lc0, lc1, erc, lrc, hst, hrl⟩ := I8.tun j
        have ip : H8 (p j) = some (.ins T.C_Tunnel aa.dx (tfs aa S)) := by rw [← ea]; exact U.ins
        repeat walk_at "s"
        refine w_prop ?_
        repeat walk_at "s"
        refine ⟨p j, _, _, rfl, ip, aa, S, by rw [ea], U, fun t H9 s9 ht => ?_⟩
        have hst9 := s9 _ _ hst
        have hrl9 := s9 _ _ hrl
        repeat walk_at "s"

        refine ⟨_, _, rfl, .inl ⟨SqL.of hrl9, fun t2 ht2 => ?_⟩⟩
        have sa := sm_new (o := .tup (inz (rc.map fun n : Nat => (n : Int)))) ht2
        have ht' := sa _ _ ht
        rw [erc] at ht'
        refine ⟨_, _, rfl, .inr ⟨_, tup_inz ht', tup_inz upd_same, dq_inz (by rw [List.length_map]; omega), fun H10 s10 => ?_⟩⟩
        exact q H10 (((I8.same s9).same sa).same s10)
    · obtain ⟨us, hus, dus⟩ := I2'.lts
      have lus := dus.length
      rw [List.length_map] at lus
      repeat walk_at "s"
      refine ⟨pl, 60, rfl, I2'.pil, by omega, fun c H3 c0 c1 g3 => ?_⟩
      have I3 := I2'.gp g3
      repeat walk_at "s"
      exact kk _ _ ⟨_, _, rfl, by omega, I3⟩
    · exact kk _ _ ⟨_, _, rfl, by omega, I2'⟩
end
/-! ### a deed -/
theorem w_tifN {σ : L2.St} {H : Hp} {Q : VK} {c : TT} {ta tb : TE} (J : V → Hp → Prop) (k : ∀ v H1, J v H1 → Q v H1) (h : ∀ Q' : VK, (∀ v H1, J v H1 → Q' v H1) → c σ H fun b H1 => if b = true then ta σ H1 Q' else tb σ H1 Q') : tIf c ta tb σ H Q := h Q k
def csOf (p : Fin 2 → Addr) (sz : Fin 2 → Int) (st : Fin 2 → Addr) (tul szl stl nl : Addr) (f : Nat → Str) : List (Addr × List V) := [(tul, [.ref (p 0), .ref (p 1)]), (szl, [.int (sz 0), .int (sz 1)]), (stl, [.ref (st 0), .ref (st 1)]), (nl, (List.range 6).map fun i => V.str (f i))]
theorem csT {p : Fin 2 → Addr} {sz : Fin 2 → Int} {st : Fin 2 → Addr} {tul szl stl nl : Addr} {f : Nat → Str} : (tul, [V.ref (p 0), .ref (p 1)]) ∈ csOf p sz st tul szl stl nl f := List.mem_cons_self ..
theorem csZ {p : Fin 2 → Addr} {sz : Fin 2 → Int} {st : Fin 2 → Addr} {tul szl stl nl : Addr} {f : Nat → Str} : (szl, [V.int (sz 0), .int (sz 1)]) ∈ csOf p sz st tul szl stl nl f := List.mem_cons_of_mem _ (List.mem_cons_self ..)
theorem csS {p : Fin 2 → Addr} {sz : Fin 2 → Int} {st : Fin 2 → Addr} {tul szl stl nl : Addr} {f : Nat → Str} : (stl, [V.ref (st 0), .ref (st 1)]) ∈ csOf p sz st tul szl stl nl f := List.mem_cons_of_mem _ (List.mem_cons_of_mem _ (List.mem_cons_self ..))
theorem csN {p : Fin 2 → Addr} {sz : Fin 2 → Int} {st : Fin 2 → Addr} {tul szl stl nl : Addr} {f : Nat → Str} : (nl, (List.range 6).map fun i => V.str (f i)) ∈ csOf p sz st tul szl stl nl f := List.mem_cons_of_mem _ (List.mem_cons_of_mem _ (List.mem_cons_of_mem _ (List.mem_cons_self ..)))
def sp_deed (C : Addr) : Sp := fun vs H Q _ => ∃ (sz : Fin 2 → Int) (nm : Fin 2 → Str × Str) (p st tl rl : Fin 2 → Addr) (ll sl pl tul szl stl nl : Addr) (f : Nat → Str) (M : Nat) (L : List (Int × Int × Str)), vs = [.ref pl, .ref tul, .ref szl, .ref stl, .ref sl, .ref ll, .ref nl] ∧ I2 C sz nm p ⟨st, tl, rl, ll, sl, pl, csOf p sz st tul szl stl nl f⟩ H M L ∧ (∀ i, Nm (f i)) ∧ M ≤ 1500 ∧ 1 ≤ L.length ∧ L.length ≤ 195 ∧ ∀ H' L', I2 C sz nm p ⟨st, tl, rl, ll, sl, pl, csOf p sz st tul szl stl nl f⟩ H' (M + 40) L' → 1 ≤ L'.length → L'.length ≤ 195 → Q (.bl true) H'
theorem all_true {H : Hp} {Q : VK} {n : Nat} (h : Q (.bl true) H) : Q (.bl ((List.replicate n true).all id)) H := by
  rw [show ((List.replicate n true).all id) = true by rw [List.all_eq_true]; intro b hb; exact (List.mem_replicate.mp hb).2]
  exact h
theorem rep_bl (n : Nat) : ((List.replicate n true).map V.bl) ++ [V.bl true] = (List.replicate (n + 1) true).map V.bl := by
  rw [List.replicate_succ', List.map_append]; rfl
theorem rep_lt {n : Nat} (h : n ≤ 1000) : ((List.replicate n true).map V.bl).length < sizeLine := by
  rw [List.length_map, List.length_replicate]; exact big99 (by omega)
theorem fin2 {p : Fin 2 → Addr} {i : Nat} (hi : i < 2) : ∃ j : Fin 2, j.val = i := ⟨⟨i, hi⟩, rfl⟩
theorem at2 {α : Type} {g : Fin 2 → α} (w : α → V) (j : Fin 2) : atI [w (g 0), w (g 1)] ((0 : Int) + (j.val : Int)) = some (w (g j)) := by
  rw [Int.zero_add]
  match j with
  | 0 => rfl
  | 1 => rfl
theorem at2' {α : Type} {g : Fin 2 → α} (w : α → V) (j : Fin 2) : atI [w (g 0), w (g 1)] (j.val : Int) = some (w (g j)) := by
  match j with
  | 0 => rfl
  | 1 => rfl
section
variable {P : Program} {w : World} {K : PySem.W.Frag} {mg : Str → Option Value} {base : Heap}
theorem ok_law_deed (T : Top K mg) : FnOk P w K mg base CX0 6 T.f_law_deed T.d_law_deed ["pile", "tunnels", "sizes", "states", "sender", "letters", "names"] (sp_deed T.C_Tunnel) := by
  refine T.F_law_deed.ok sc_law_deed (fun vs H Q E h => ?_) (fun cdv A outer s H vs Q E hr h => ?_)
  · obtain ⟨sz, nm, p, st, tl, rl, ll, sl, pl, tul, szl, stl, nl, f, M, L, rfl, _⟩ := h
    rfl
  · obtain ⟨sz, nm, p, st, tl, rl, ll, sl, pl, tul, szl, stl, nl, f, M, L, rfl, I, hf, hM, l1, l2, q⟩ := h
    refine ⟨_, (pss_cons (ps_set (i := 7) sc_law_deed.nd rfl (Or.inl rfl) (pe_call (ok_law_draw T) (hr.mono (by decide)) (by rfl) T.g_law_draw T.F_law_draw.kp T.b_law_draw .nil pass0 (pa_cons (pv 0) (pa_cons pe_int pa_nil))))
    (pss_cons (ps_if (pt_cmpR op_lt (pv 7) pe_int (nomark _))
     (pss_cons (ps_set (i := 8) sc_law_deed.nd rfl (Or.inl rfl) (pe_ifExp (pt_cmpR op_eq (pv 7) pe_int (nomark _)) (pe_op op_add pe_int (pe_call (ok_law_draw T) (hr.mono (by decide)) (by rfl) T.g_law_draw T.F_law_draw.kp T.b_law_draw .nil pass0 (pa_cons (pv 0) (pa_cons pe_int pa_nil)))) pe_int))
      (pss_cons (ps_if (pt_cmpR op_gt (pe_callB call_len_seq (by rfl) T.z_len (by decide +kernel) (pa_cons (pv 5) pa_nil)) pe_int (nomark _))
       (pss_one (ps_ret pe_bl))
       pss_nil)
       (pss_one (ps_ret (pe_callB (cr_all rfl) (by rfl) T.z_all (by decide +kernel) (pa_cons (pe_lc (own := [("k", 9)]) (g := gName 9) (by rfl) sc_law_deed.nd (pi_range1 (by rfl) T.z_range (pa_cons (pv 8) pa_nil)) (blkOk_by (own := [("k", 9)]) (N := N_law_deed) (sc := defScope s_law_deed) (by decide +kernel)) (fun _ _ _ _ _ => (pg_name (i := 9) sc_law_deed.nd rfl (Or.inl rfl))) (fun _ _ _ _ _ => pts_nil) (fun _ _ _ _ _ => (pe_call (ok_law_send T) hr (by rfl) T.g_law_send T.F_law_send.kp T.b_law_send .nil pass0 (pa_cons (pv 1) (pa_cons (pv 4) (pa_cons (pv 5) (pa_cons (pe_ix (r := rIxL K) ix_list (pv 6) (pe_call (ok_law_draw T) (hr.mono (by decide)) (by rfl) T.g_law_draw T.F_law_draw.kp T.b_law_draw .nil pass0 (pa_cons (pv 0) (pa_cons pe_int pa_nil))) (fun _ _ => rfl)) pa_nil))))))) pa_nil))))))
     pss_nil)
     (pss_cons (ps_if (pt_cmpR op_lt (pv 7) pe_int (nomark _))
      (pss_cons (ps_set (i := 8) sc_law_deed.nd rfl (Or.inl rfl) (pe_ifExp (pt_cmpR op_eq (pv 7) pe_int (nomark _)) (pe_op op_add pe_int (pe_call (ok_law_draw T) (hr.mono (by decide)) (by rfl) T.g_law_draw T.F_law_draw.kp T.b_law_draw .nil pass0 (pa_cons (pv 0) (pa_cons pe_int pa_nil)))) pe_int))
       (pss_one (ps_ret (pe_callB (cr_all rfl) (by rfl) T.z_all (by decide +kernel) (pa_cons (pe_lc (own := [("k", 9)]) (g := gName 9) (by rfl) sc_law_deed.nd (pi_range1 (by rfl) T.z_range (pa_cons (pv 8) pa_nil)) (blkOk_by (own := [("k", 9)]) (N := N_law_deed) (sc := defScope s_law_deed) (by decide +kernel)) (fun _ _ _ _ _ => (pg_name (i := 9) sc_law_deed.nd rfl (Or.inl rfl))) (fun _ _ _ _ _ => pts_nil) (fun _ _ _ _ _ => (pe_call (ok_law_rekey T) (hr.mono (by decide)) (by rfl) T.g_law_rekey T.F_law_rekey.kp T.b_law_rekey .nil pass0 (pa_cons (pv 1) (pa_cons (pv 4) pa_nil))))) pa_nil)))))
      pss_nil)
      (pss_cons (ps_if (pt_cmpR op_eq (pv 7) pe_int (nomark _))
       (pss_one (ps_ret (pe_callB (cr_all rfl) (by rfl) T.z_all (by decide +kernel) (pa_cons (pe_lc (own := [("k", 9)]) (g := gName 9) (by rfl) sc_law_deed.nd (pi_range1 (by rfl) T.z_range (pa_cons pe_int pa_nil)) (blkOk_by (own := [("k", 9)]) (N := N_law_deed) (sc := defScope s_law_deed) (by decide +kernel)) (fun _ _ _ _ _ => (pg_name (i := 9) sc_law_deed.nd rfl (Or.inl rfl))) (fun _ _ _ _ _ => pts_nil) (fun _ _ _ _ _ => (pe_call (ok_law_refusals T) hr (by rfl) T.g_law_refusals T.F_law_refusals.kp T.b_law_refusals .nil pass0 (pa_cons (pv 0) (pa_cons (pe_ix (r := rIxL K) ix_list (pv 1) (pv 9) (fun _ _ => rfl)) (pa_cons (pe_ix (r := rIxL K) ix_list (pv 3) (pv 9) (fun _ _ => rfl)) (pa_cons (pv 5) (pa_cons (pv 6) pa_nil)))))))) pa_nil))))
       pss_nil)
       (pss_cons (ps_set (i := 10) sc_law_deed.nd rfl (Or.inl rfl) (pe_op op_mod (pe_callTy call_int1 (by rfl) T.z_int (by decide +kernel) (pa_cons (pe_op op_add (pe_op op_mul (pe_call (ok_law_draw T) (hr.mono (by decide)) (by rfl) T.g_law_draw T.F_law_draw.kp T.b_law_draw .nil pass0 (pa_cons (pv 0) (pa_cons pe_int pa_nil))) pe_int) (pe_call (ok_law_draw T) (hr.mono (by decide)) (by rfl) T.g_law_draw T.F_law_draw.kp T.b_law_draw .nil pass0 (pa_cons (pv 0) (pa_cons pe_int pa_nil)))) pa_nil)) (pe_callB call_len_seq (by rfl) T.z_len (by decide +kernel) (pa_cons (pv 5) pa_nil))))
        (pss_cons (ps_set (i := 8) sc_law_deed.nd rfl (Or.inl rfl) (pe_ifExp (pt_cmpR op_gt (pv 7) pe_int (nomark _)) (pe_op op_add pe_int (pe_call (ok_law_draw T) (hr.mono (by decide)) (by rfl) T.g_law_draw T.F_law_draw.kp T.b_law_draw .nil pass0 (pa_cons (pv 0) (pa_cons pe_int pa_nil)))) pe_int))
         (pss_cons (ps_for PassesOwn.never rfl (pi_range1 (by rfl) T.z_range (pa_cons (pv 8) pa_nil)) (pg_name (i := 9) sc_law_deed.nd rfl (Or.inl rfl))
          (pss_cons (ps_set (i := 11) sc_law_deed.nd rfl (Or.inl rfl) (pe_ifExp (pt_cmpR op_eq (pv 7) pe_int (nomark _)) (pe_op op_sub (pv 10) (pv 9)) (pe_op op_add (pv 10) (pv 9))))
           (pss_one (ps_if (pt_chain op_le op_lt pe_int (pv 11) (pe_callB call_len_seq (by rfl) T.z_len (by decide +kernel) (pa_cons (pv 5) pa_nil)))
            (pss_one (ps_for PassesOwn.never rfl (pi_range1 (by rfl) T.z_range (pa_cons pe_int pa_nil)) (pg_name (i := 12) sc_law_deed.nd rfl (Or.inl rfl))
             (pss_one (ps_if (pt_not (pt_val (pe_call (ok_law_deliver T) hr (by rfl) T.g_law_deliver T.F_law_deliver.kp T.b_law_deliver .nil pass0 (pa_cons (pe_ix ix_list (pv 1) (pv 12) (fun _ _ => rfl)) (pa_cons (pe_ix ix_list (pv 2) (pv 12) (fun _ _ => rfl)) (pa_cons (pe_ix ix_list (pv 3) (pv 12) (fun _ _ => rfl)) (pa_cons (pv 5) (pa_cons (pv 11) pa_nil))))))))
              (pss_one (ps_ret pe_bl))
              pss_nil))))
            pss_nil))))
          (pss_one (ps_ret (pe_callB (cr_all rfl) (by rfl) T.z_all (by decide +kernel) (pa_cons (pe_lc (own := [("j", 12)]) (g := gName 12) (by rfl) sc_law_deed.nd (pi_range1 (by rfl) T.z_range (pa_cons pe_int pa_nil)) (blkOk_by (own := [("j", 12)]) (N := N_law_deed) (sc := defScope s_law_deed) (by decide +kernel)) (fun _ _ _ _ _ => (pg_name (i := 12) sc_law_deed.nd rfl (Or.inl rfl))) (fun _ _ _ _ _ => pts_nil) (fun _ _ _ _ _ => (pe_call (ok_law_same T 2) (hr.mono (by decide)) (by rfl) T.g_law_same T.F_law_same.kp T.b_law_same .nil pass0 (pa_cons (pe_prop (pe_ix (r := rIxL K) ix_list (pv 1) (pv 12) (fun _ _ => rfl)) T.cl_Tunnel T.pr_Tunnel_received (okTunnel_received T) (hr.mono (by decide)) T.bTunnel_received .nil pass0 rfl) (pa_cons (pe_callTy (T := "tuple") (r := rTupK K) call_tuple_of (by rfl) T.z_tuple (by decide +kernel) (pa_cons (pe_ix (r := rIxL K) ix_list (pe_ix (r := rIxL K) ix_list (pv 3) (pv 12) (fun _ _ => rfl)) pe_int (fun _ _ => rfl)) pa_nil)) pa_nil))))) pa_nil))))))))))), ?_⟩
    repeat walk_at "s"
    refine ⟨pl, 12, rfl, I.pil, by omega, fun kd H1 kd0 kd1 g1 => ?_⟩
    have I1 := I.gp g1
    clear I g1
    repeat walk_at "s"
    refine ite2 (fun h => ?_) (fun h => ?_)
    · repeat walk_at "s"
      refine w_tifN (fun v H2 => ∃ t : Int, v = .int t ∧ 1 ≤ t ∧ t ≤ 40 ∧ I2 T.C_Tunnel sz nm p ⟨st, tl, rl, ll, sl, pl, csOf p sz st tul szl stl nl f⟩ H2 M L) ?_ (fun Q' kk => ?_)
      · rintro v H2 ⟨t, rfl, t1, t40, I2'⟩
        clear I1
        obtain ⟨us, hus, dus⟩ := I2'.lts
        have lus := dus.length
        rw [List.length_map] at lus
        repeat walk_at "s"
        refine ite2 (fun h => ?_) (fun h => ?_)
        · repeat walk_at "s"
          exact q _ _ (I2'.mono (by omega)) l1 l2
        · have h150 : ¬ (us.length : Int) > 150 := of_decide_eq_false (ofb h)
          repeat walk_at "s"
          intro D hD
          have I3 := I2'.cnew (xs := []) hD (sm_new (o := .lst []) hD) upd_same
          have cne := I2'.cne hD
          refine lc_range (lo := 0) (n := t.toNat) (fun i H3 => ∃ L', I2 T.C_Tunnel sz nm p ⟨st, tl, rl, ll, sl, pl, (D, (List.replicate i true).map V.bl) :: csOf p sz st tul szl stl nl f⟩ H3 M L' ∧ L'.length = L.length + i) ⟨L, I3, rfl⟩ ?_ ?_
          · rintro i H3 hi ⟨L', I3, hl'⟩
            repeat walk_at "s"
            refine ⟨pl, 6, rfl, I3.pil, by omega, fun d H4 d0 d1 g4 => ?_⟩
            have I4 := I3.gp g4
            refine w_ixL (SqL.of (I4.at (List.mem_cons_of_mem _ csN))) (nm_at6i d0 d1) ?_
            repeat walk_at "s"
            refine ⟨sz, nm, p, ⟨st, tl, rl, ll, sl, pl, (D, (List.replicate i true).map V.bl) :: csOf p sz st tul szl stl nl f⟩, M, L', f d.toNat, tul, rfl, I4, List.mem_cons_of_mem _ csT, hf _, by omega, fun H5 L5 hl5 I5 => ?_⟩
            refine ⟨_, I5.at (List.mem_cons_self ..), rep_lt (by omega), L5, ?_, by omega⟩
            rw [rep_bl]
            exact I5.cset cne
          · rintro H3 ⟨L', I3, hl'⟩
            repeat walk_at "s"
            refine ⟨D, _, rfl, SqL.of (I3.at (List.mem_cons_self ..)), all_true ?_⟩
            exact q _ L' (I3.cdrop.mono (by omega)) (by omega) (by omega)
      · repeat walk_at "s"
        refine ite2 (fun g => ?_) (fun g => ?_)
        · repeat walk_at "s"
          refine ⟨pl, 40, rfl, I1.pil, by omega, fun d H2 d0 d1 g2 => ?_⟩
          repeat walk_at "s"
          exact kk _ _ ⟨_, rfl, by omega, by omega, I1.gp g2⟩
        · repeat walk_at "s"
          exact kk _ _ ⟨1, rfl, by omega, by omega, I1⟩
    · have k4 : ¬ kd < 4 := of_decide_eq_false (ofb h)
      repeat walk_at "s"
      refine ite2 (fun h => ?_) (fun h => ?_)
      · repeat walk_at "s"
        refine w_tifN (fun v H2 => ∃ t : Int, v = .int t ∧ 1 ≤ t ∧ t ≤ 13 ∧ I2 T.C_Tunnel sz nm p ⟨st, tl, rl, ll, sl, pl, csOf p sz st tul szl stl nl f⟩ H2 M L) ?_ (fun Q' kk => ?_)
        · rintro v H2 ⟨t, rfl, t1, t13, I2'⟩
          clear I1
          repeat walk_at "s"
          intro D hD
          have I3 := I2'.cnew (xs := []) hD (sm_new (o := .lst []) hD) upd_same
          have cne := I2'.cne hD
          refine lc_range (lo := 0) (n := t.toNat) (fun i H3 => I2 T.C_Tunnel sz nm p ⟨st, tl, rl, ll, sl, pl, (D, (List.replicate i true).map V.bl) :: csOf p sz st tul szl stl nl f⟩ H3 M L) I3 ?_ ?_
          · rintro i H3 hi I3
            repeat walk_at "s"
            refine ⟨sz, nm, p, ⟨st, tl, rl, ll, sl, pl, (D, (List.replicate i true).map V.bl) :: csOf p sz st tul szl stl nl f⟩, M, L, tul, rfl, I3, List.mem_cons_of_mem _ csT, fun H5 I5 => ?_⟩
            refine ⟨_, I5.at (List.mem_cons_self ..), rep_lt (by omega), ?_⟩
            rw [rep_bl]
            exact I5.cset cne
          · rintro H3 I3
            repeat walk_at "s"
            refine ⟨D, _, rfl, SqL.of (I3.at (List.mem_cons_self ..)), all_true ?_⟩
            exact q _ L (I3.cdrop.mono (by omega)) l1 l2
        · repeat walk_at "s"
          refine ite2 (fun g => ?_) (fun g => ?_)
          · repeat walk_at "s"
            refine ⟨pl, 13, rfl, I1.pil, by omega, fun d H2 d0 d1 g2 => ?_⟩
            repeat walk_at "s"
            exact kk _ _ ⟨_, rfl, by omega, by omega, I1.gp g2⟩
          · repeat walk_at "s"
            exact kk _ _ ⟨1, rfl, by omega, by omega, I1⟩
      · have k6 : ¬ kd < 6 := of_decide_eq_false (ofb h)
        repeat walk_at "s"
        refine ite2 (fun h => ?_) (fun h => ?_)
        · repeat walk_at "s"
          intro D hD
          have I3 := I1.cnew (xs := []) hD (sm_new (o := .lst []) hD) upd_same
          have cne := I1.cne hD
          refine lc_range (lo := 0) (n := (Int.toNat 2)) (fun i H3 => I2 T.C_Tunnel sz nm p ⟨st, tl, rl, ll, sl, pl, (D, (List.replicate i true).map V.bl) :: csOf p sz st tul szl stl nl f⟩ H3 M L) I3 ?_ ?_
          · rintro i H3 hi I3
            obtain ⟨j, rfl⟩ := fin2 (p := p) (show i < 2 from hi)
            repeat walk_at "s"
            refine w_ixL (SqL.of (I3.at (List.mem_cons_of_mem _ csT))) (at2 V.ref j) ?_
            repeat walk_at "s"
            refine w_ixL (SqL.of (I3.at (List.mem_cons_of_mem _ csS))) (at2 V.ref j) ?_
            repeat walk_at "s"
            refine ⟨sz, nm, p, ⟨st, tl, rl, ll, sl, pl, (D, (List.replicate j.val true).map V.bl) :: csOf p sz st tul szl stl nl f⟩, M, L, j, nl, f, rfl, I3, List.mem_cons_of_mem _ csN, hf, by omega, by omega, fun H5 I5 => ?_⟩
            refine ⟨_, I5.at (List.mem_cons_self ..), rep_lt (by omega), ?_⟩
            rw [rep_bl]
            exact I5.cset cne
          · rintro H3 I3
            repeat walk_at "s"
            refine ⟨D, _, rfl, SqL.of (I3.at (List.mem_cons_self ..)), all_true ?_⟩
            exact q _ L (I3.cdrop.mono (by omega)) l1 l2
        · repeat walk_at "s"
          refine ⟨pl, 60, rfl, I1.pil, by omega, fun a H2 a0 a1 g2 => ?_⟩
          have I2' := I1.gp g2
          repeat walk_at "s"
          refine ⟨pl, 60, rfl, I2'.pil, by omega, fun b H3 b0 b1 g3 => ?_⟩
          have I3 := I2'.gp g3
          clear I1 I2' g2 g3
          obtain ⟨us, hus, dus⟩ := I3.lts
          have lus := dus.length
          rw [List.length_map] at lus
          repeat walk_at "s"
          refine w_tifN (fun v H2 => ∃ t : Int, v = .int t ∧ 1 ≤ t ∧ t ≤ 20 ∧ I2 T.C_Tunnel sz nm p ⟨st, tl, rl, ll, sl, pl, csOf p sz st tul szl stl nl f⟩ H2 M L) ?_ (fun Q' kk => ?_)
          · rintro v H4 ⟨t, rfl, t1, t20, I4⟩
            clear I3 hus dus
            repeat walk_at "s"
            generalize (a * 60 + b) % (us.length : Int) = nb
            refine for_range (lo := 0) (n := t.toNat) (fun i σ H => ∃ (v9 v11 v12 : Option V), σ = [some (.ref pl), some (.ref tul), some (.ref szl), some (.ref stl), some (.ref sl), some (.ref ll), some (.ref nl), some (.int kd), some (.int t), v9, some (.int nb), v11, v12] ∧ I2 T.C_Tunnel sz nm p ⟨st, tl, rl, ll, sl, pl, csOf p sz st tul szl stl nl f⟩ H (M + 2 * i) L) ?_ ?_ ?_
            · exact ⟨_, _, _, rfl, I4⟩
            · rintro i σ H5 hi ⟨v9, v11, v12, rfl, I5⟩
              clear I4
              repeat walk_at "s"
              refine w_tifN (fun v H6 => ∃ sp : Int, v = .int sp ∧ I2 T.C_Tunnel sz nm p ⟨st, tl, rl, ll, sl, pl, csOf p sz st tul szl stl nl f⟩ H6 (M + 2 * i) L) ?_ (fun Q' kk => ?_)
              · rintro v H6 ⟨sp, rfl, I6⟩
                clear I5
                obtain ⟨us6, hus6, dus6⟩ := I6.lts
                have lus6 := dus6.length
                rw [List.length_map] at lus6
                repeat walk_at "s"
                refine ite2 (fun g => ?_) (fun g => ?_)
                · have g0 : 0 ≤ sp := of_decide_eq_true g
                  repeat walk_at "s"
                  refine ite2 (fun g => ?_) (fun g => ?_)
                  · have g1 : sp < us6.length := of_decide_eq_true g
                    obtain ⟨n, rfl⟩ : ∃ n : Nat, sp = (n : Int) := ⟨sp.toNat, by omega⟩
                    clear hus6 dus6
                    repeat walk_at "s"
                    refine for_range (lo := 0) (n := Int.toNat 2) (fun k σ H => ∃ (v12 : Option V), σ = [some (.ref pl), some (.ref tul), some (.ref szl), some (.ref stl), some (.ref sl), some (.ref ll), some (.ref nl), some (.int kd), some (.int t), some (.int (0 + (i : Int))), some (.int nb), some (.int (n : Int)), v12] ∧ I2 T.C_Tunnel sz nm p ⟨st, tl, rl, ll, sl, pl, csOf p sz st tul szl stl nl f⟩ H (M + 2 * i + k) L) ?_ ?_ ?_
                    · exact ⟨_, rfl, I6⟩
                    · rintro k σ H7 hk ⟨v12, rfl, I7⟩
                      obtain ⟨j, rfl⟩ := fin2 (p := p) (show k < 2 from hk)
                      clear I6
                      repeat walk_at "s"
                      refine w_ixL (SqL.of (I7.at csT)) (at2 V.ref j) ?_
                      repeat walk_at "s"
                      refine w_ixL (SqL.of (I7.at csZ)) (at2 V.int j) ?_
                      repeat walk_at "s"
                      refine w_ixL (SqL.of (I7.at csS)) (at2 V.ref j) ?_
                      repeat walk_at "s"
                      refine ⟨sz, nm, p, ⟨st, tl, rl, ll, sl, pl, csOf p sz st tul szl stl nl f⟩, _, L, j, n, rfl, I7, by omega, by omega, fun H8 I8 => ?_⟩
                      refine ⟨_, rfl, ?_⟩
                      refine iteF ?_
                      exact ⟨_, rfl, I8⟩
                    · rintro σ H7 ⟨v12, rfl, I7⟩
                      exact ⟨_, _, _, rfl, I7⟩
                  · exact ⟨_, _, _, rfl, I6.mono (by omega)⟩
                · repeat walk_at "s"
                  exact ⟨_, _, _, rfl, I6.mono (by omega)⟩
              · repeat walk_at "s"
                refine ite2 (fun g => ?_) (fun g => ?_)
                · repeat walk_at "s"
                  exact kk _ _ ⟨_, rfl, I5⟩
                · repeat walk_at "s"
                  exact kk _ _ ⟨_, rfl, I5⟩
            · rintro σ H5 ⟨v9, v11, v12, rfl, I5⟩
              have I5 := I5.mono (M' := M + 40) (by omega)
              clear I4
              repeat walk_at "s"
              intro D hD
              have I6 := I5.cnew (xs := []) hD (sm_new (o := .lst []) hD) upd_same
              have cne := I5.cne hD
              refine lc_range (lo := 0) (n := (Int.toNat 2)) (fun i H3 => I2 T.C_Tunnel sz nm p ⟨st, tl, rl, ll, sl, pl, (D, (List.replicate i true).map V.bl) :: csOf p sz st tul szl stl nl f⟩ H3 (M + 40) L) I6 ?_ ?_
              · rintro i H6 hi I6
                obtain ⟨j, rfl⟩ := fin2 (p := p) (show i < 2 from hi)
                obtain ⟨aa, S, n0, rc, ea, U, els, ewn, -, -, lc0, lc1, erc, lrc, hst, hrl⟩ := I6.tun j
                have ip : H6 (p j) = some (.ins T.C_Tunnel aa.dx (tfs aa S)) := by rw [← ea]; exact U.ins
                repeat walk_at "s"
                refine w_prop ?_
                repeat walk_at "s"
                refine w_ixL (SqL.of (I6.at (List.mem_cons_of_mem _ csT))) (at2 V.ref j) ?_
                repeat walk_at "s"
                refine ⟨p j, _, _, rfl, ip, aa, S, by rw [ea], U, fun t H9 s9 ht => ?_⟩
                have hst9 := s9 _ _ hst
                have hrl9 := s9 _ _ hrl
                have I9 := I6.same s9
                repeat walk_at "s"
                refine w_ixL (SqL.of (I9.at (List.mem_cons_of_mem _ csS))) (at2 V.ref j) ?_
                repeat walk_at "s"
                refine ⟨_, _, rfl, .inl ⟨SqL.of hrl9, fun t2 ht2 => ?_⟩⟩
                have sa := sm_new (o := .tup (inz (rc.map fun n : Nat => (n : Int)))) ht2
                have ht' := sa _ _ ht
                rw [erc] at ht'
                refine ⟨_, _, rfl, .inr ⟨_, tup_inz ht', tup_inz upd_same, dq_inz (by rw [List.length_map]; omega), fun H10 s10 => ?_⟩⟩
                have I10 := (I9.same sa).same s10
                refine ⟨_, I10.at (List.mem_cons_self ..), rep_lt (by omega), ?_⟩
                rw [rep_bl]
                exact I10.cset cne
              · rintro H6 I6
                repeat walk_at "s"
                refine ⟨D, _, rfl, SqL.of (I6.at (List.mem_cons_self ..)), all_true ?_⟩
                exact q _ L I6.cdrop l1 l2
          · repeat walk_at "s"
            refine ite2 (fun g => ?_) (fun g => ?_)
            · repeat walk_at "s"
              refine ⟨pl, 20, rfl, I3.pil, by omega, fun d H2 d0 d1 g2 => ?_⟩
              repeat walk_at "s"
              exact kk _ _ ⟨_, rfl, by omega, by omega, I3.gp g2⟩
            · repeat walk_at "s"
              exact kk _ _ ⟨1, rfl, by omega, by omega, I3⟩
end
/-! ### C(k = v, ..): the values by their names -/
theorem vals_getD_any : ∀ {zs : List V} {ws : List Value}, Vals zs ws → ∀ i, RelV (zs.getD i .non) (ws.getD i .none)
  | _, _, .nil, _ => rfl
  | _, _, .cons h _, 0 => h
  | _, _, .cons _ r, i + 1 => vals_getD_any r i
theorem kwPerm_any {zs : List V} {ws : List Value} (r : Vals zs ws) : ∀ p : List Nat, Vals (kwPermX p zs) (kwPermV p ws)
  | [] => .nil
  | i :: p => .cons (vals_getD_any r i) (kwPerm_any r p)
theorem vals_app : ∀ {xs zs : List V} {us ws : List Value}, Vals xs us → Vals zs ws → Vals (xs ++ zs) (us ++ ws)
  | _, _, _, _, .nil, r => r
  | _, _, _, _, .cons h q, r => .cons h (vals_app q r)
/-! ### isinstance of an error: from the classes' chains -/
theorem kit_ref {K : PySem.W.Frag} {X Y : Addr} {b : Bool} (hd : PySem.W.hasDictIn K Y = true) (ht : PySem.W.typeIn K (.ref Y) = some (.type "type")) (s : PySem.W.subIn K (.ref X) (.ref Y) = some b) (r : PySem.W.subIn K (.ref X) (.ref X) = some true) : PySem.W.kitOne K (.ref X) (.ref Y) = some b := by
  obtain ⟨cd, hc, _⟩ := PySem.W.any_some hd
  have e2 : ((PySem.W.clsIn K Y).isSome && PySem.W.typeIn K (.ref Y) == some (.type "type")) = true := by rw [hc, ht] <;> rfl
  show (if (Value.ref X == Value.ref Y) = true then some true else (if ((PySem.W.clsIn K Y).isSome && PySem.W.typeIn K (.ref Y) == some (.type "type")) = true then PySem.W.subIn K (.ref X) (.ref Y) else none)) = some b
  by_cases e : (Value.ref X == Value.ref Y) = true
  · have e' : X = Y := Value.ref.inj (beq_iff_eq.mp e)
    subst e'
    rw [if_pos e]
    exact r.symm.trans s
  · rw [if_neg e, if_pos e2]
    exact s
theorem kit_type {K : PySem.W.Frag} {X : Addr} {T : String} {b : Bool} (m : PySem.W.kitMeta T = true) (s : PySem.W.subIn K (.ref X) (.type T) = some b) : PySem.W.kitOne K (.ref X) (.type T) = some b := by
  show (if (Value.ref X == Value.type T) = true then some true else (if PySem.W.kitMeta T = true then PySem.W.subIn K (.ref X) (.type T) else none)) = some b
  rw [if_neg (by intro h; cases beq_iff_eq.mp h), if_pos m]
  exact s
/-! ### the law -/
theorem w_makeK {C : Addr} {n m : Nat} {sp : Sp} {gV : List V → List V → List V} {E : XK} {t tk : TA} {σ : L2.St} {H : Hp} {Q : VK} (q : t σ H fun vs H1 => tk σ H1 fun zs H2 => vs.length = n ∧ zs.length = m ∧ ∀ x dx, H2 x = none → H2 dx = none → dx ≠ x → sp (gV (.ref x :: vs) zs) (upd (upd H2 dx (.own x)) x (.ins C dx [])) (fun v H3 => v = .non ∧ Q (.ref x) H3) E) : tMakeK C n m sp gV E t tk σ H Q := q
/-- who owns what -/
def Os (o : Addr → Nat) (H : Hp) (l : List (Addr × Nat)) : Prop := ∀ z ∈ l, H z.1 ≠ none ∧ o z.1 = z.2
theorem Os.step {o : Addr → Nat} {H H' : Hp} {l m : List (Addr × Nat)} {i : Nat} (O : Os o H l) (s : Same H H') (n : ∀ z ∈ m, H z.1 = none ∧ H' z.1 ≠ none ∧ z.2 = i) : Os (ext o i H) H' (m ++ l) := fun z hz => by
  rcases List.mem_append.mp hz with h | h
  · obtain ⟨a, b, c⟩ := n z h
    exact ⟨b, by rw [ext_none a, c]⟩
  · obtain ⟨a, b⟩ := O z h
    cases e : H z.1 with
    | none => exact absurd e a
    | some u => exact ⟨by rw [s _ _ e]; exact nofun, by rw [ext_eq e]; exact b⟩
theorem Os.one {o : Addr → Nat} {H H' : Hp} {l : List (Addr × Nat)} (i : Nat) {q : Addr} {u : HO} (O : Os o H l) (s : Same H H') (n : H q = none) (e : H' q = some u) : Os (ext o i H) H' ((q, i) :: l) := O.step (m := [(q, i)]) s fun z hz => by
  obtain rfl := List.mem_singleton.mp hz
  exact ⟨n, by rw [e]; exact nofun, rfl⟩
def two {α : Type} (a b : α) : Fin 2 → α := fun i => if i = 0 then a else b
theorem ri0 (win : Int) (z1 z2 : Str) : RI (S0 win z1 z2) 0 [] [] := by
  have no : ∀ c e : Int, (e, c) ∈ ([] : List Ev) ↔ False := fun c e => ⟨nofun, False.elim⟩
  have tp : ∀ e : Int, IsTop (-1) e (fun x => x ∈ ([] : List Ev)) := fun e => ⟨fun c h => ((no c e).mp h).elim, .inl rfl⟩
  refine ⟨rfl, ⟨tp _, tp _, fun c _ => ?_, fun c _ => ?_⟩, nofun, nofun, Int.le_refl 0, rfl⟩
  · exact ⟨nofun, fun h => ((no _ _).mp h).elim⟩
  · exact ⟨nofun, fun h => ((no _ _).mp h).elim⟩
theorem two_c (j : Fin 2) : j = 0 ∨ j = 1 := by
  revert j; decide
theorem W2.init {C : Addr} {o : Addr → Nat} {H : Hp} {a0 a1 : TD} {S0 S1 : TS} {st0 st1 tl0 tl1 rl0 rl1 ll sl pl : Addr} {cs : List (Addr × List V)} (T0 : Tun C a0 H S0) (T1 : Tun C a1 H S1) (h0 : ∀ x ∈ ft a0, o x = 0) (h1 : ∀ x ∈ ft a1, o x = 1)
    (r0 : Rd H st0 tl0 rl0 0 [] []) (r1 : Rd H st1 tl1 rl1 0 [] []) (q0 : o st0 = 10 ∧ o tl0 = 10 ∧ o rl0 = 10) (q1 : o st1 = 11 ∧ o tl1 = 11 ∧ o rl1 = 11) (lo : o ll = 40 ∧ o sl = 41 ∧ o pl = 42) (l : H ll = some (.lst [])) (hs : H sl = some (.lst [.int 0, .int 0])) (hp : Pil H pl) (hc : ∀ q ∈ cs, H q.1 = some (.lst q.2) ∧ o q.1 = 43) :
    W2 C o (two a0 a1) ⟨two st0 st1, two tl0 tl1, two rl0 rl1, ll, sl, pl, cs⟩ H (two S0 S1) (fun _ => ⟨0, [], []⟩) [] 0 0 := by
  refine ⟨fun i => ?_, fun i => ?_, fun i => ?_, fun i => ?_, lo, ⟨[], l, .nil⟩, hs, hp, hc⟩
  · rcases two_c i with rfl | rfl
    · exact T0
    · exact T1
  · rcases two_c i with rfl | rfl
    · exact h0
    · exact h1
  · rcases two_c i with rfl | rfl
    · exact r0
    · exact r1
  · rcases two_c i with rfl | rfl
    · exact q0
    · exact q1
theorem N2.init {z1 z2 : Int} {m1 m2 m3 m4 : Str} (h1 : 1 ≤ z1) (h2 : 1 ≤ z2) : N2 (two (S0 z1 m1 m2) (S0 z2 m3 m4)) (fun _ => ⟨0, [], []⟩) (two z1 z2) (two (m1, m2) (m3, m4)) [] 0 0 0 := by
  refine ⟨fun i => ?_, fun i => ?_, fun i => ?_, fun i => ?_, fun i => ?_, fun i => ?_, fun i => ?_, fun i => ?_, fun i => ?_, ⟨by omega, by omega, by omega, nofun⟩, fun i => ?_, fun i => ?_, fun i => ?_⟩
  all_goals rcases two_c i with rfl | rfl
  all_goals first | rfl | exact Nat.le_refl 0 | exact ri0 _ _ _ | assumption
theorem rd0 {H : Hp} {st tl rl : Addr} (h1 : H st = some (.lst [.int 0, .ref tl, .ref rl])) (h2 : H tl = some (.lst [])) (h3 : H rl = some (.lst [])) (n1 : tl ≠ st) (n2 : rl ≠ st) (n3 : rl ≠ tl) : Rd H st tl rl 0 [] [] := ⟨h1, ⟨[], h2, .nil⟩, h3, n1, n2, n3⟩
theorem dq_up : ∀ {n : Nat} {d : PyData}, Dq n d → Dq (n + 1) d
  | 0, _, h => h.elim
  | _ + 1, _, .inl h => .inl h
  | _ + 1, _, .inr (.inl h) => .inr (.inl h)
  | _ + 1, _, .inr (.inr (.inl h)) => .inr (.inr (.inl h))
  | _ + 1, _, .inr (.inr (.inr ⟨ds, e, l, a⟩)) => .inr (.inr (.inr ⟨ds, e, l, fun x hx => dq_up (a x hx)⟩))
theorem tf2 (a : TD) (S : TS) : (tfs a S).lookup ("first" : Str) = some (.str S.n1) := by rfl
theorem tf3 (a : TD) (S : TS) : (tfs a S).lookup ("second" : Str) = some (.str S.n2) := by rfl
theorem nm_two {f : Nat → Str} (j : Fin 2) : two (f 0, f 1) (f 1, f 0) j = (f ((0 : Int) + (j.val : Int)).toNat, f ((1 : Int) - (0 + (j.val : Int))).toNat) := by
  rcases two_c j with rfl | rfl <;> rfl
def spLaw (K : PySem.W.Frag) : Sp := fun vs H Q _ => ∃ (a : Addr) (ns : List Int), vs = [.ref a] ∧ SqL K H a (ns.map V.int) ∧ ns.length ≤ 63 ∧ ∀ H', Q (.bl true) H'
section
variable {P : Program} {w : World} {K : PySem.W.Frag} {mg : Str → Option Value} {base : Heap}
theorem oklaw (T : Top K mg) : FnOk P w K mg base CX0 7 T.flaw T.dlaw ["script"] (spLaw K) := by
  refine T.Flaw.ok sclaw (fun vs H Q E h => ?_) (fun cdv A outer s H vs Q E hr h => ?_)
  · obtain ⟨a, ns, rfl, _⟩ := h
    rfl
  · obtain ⟨a, ns, rfl, hS, hl, q⟩ := h
    refine ⟨_, (pss_cons (ps_set (i := 1) sclaw.nd rfl (Or.inl rfl) (pe_call (ok_law_pile T) (hr.mono (by decide)) (by rfl) T.g_law_pile T.F_law_pile.kp T.b_law_pile .nil pass0 (pa_cons (pv 0) pa_nil)))
    (pss_cons (ps_set (i := 2) sclaw.nd rfl (Or.inl rfl) (pe_call (ok_law_names T) (hr.mono (by decide)) (by rfl) T.g_law_names T.F_law_names.kp T.b_law_names .nil pass0 (pa_cons (pv 1) (pa_cons pe_int pa_nil))))
     (pss_cons (ps_set (i := 3) sclaw.nd rfl (Or.inl rfl) (pe_lst (pa_cons (pe_call (ok_law_size T) (hr.mono (by decide)) (by rfl) T.g_law_size T.F_law_size.kp T.b_law_size .nil pass0 (pa_cons (pv 1) pa_nil)) (pa_cons (pe_call (ok_law_size T) (hr.mono (by decide)) (by rfl) T.g_law_size T.F_law_size.kp T.b_law_size .nil pass0 (pa_cons (pv 1) pa_nil)) pa_nil))))
      (pss_cons (ps_if (pt_not (pt_val (pe_call (ok_law_makings T) hr (by rfl) T.g_law_makings T.F_law_makings.kp T.b_law_makings .nil pass0 (pa_cons (pv 1) (pa_cons (pv 2) (pa_cons (pe_ix ix_list (pv 3) pe_int (fun _ _ => rfl)) pa_nil))))))
       (pss_one (ps_ret pe_bl))
       pss_nil)
       (pss_cons (ps_set (i := 4) sclaw.nd rfl (Or.inl rfl) (pe_lst (pa_cons (pe_makeT T.mk_Tunnel (okTunnel___init__ T) (hr.mono (by decide)) (by rfl) T.g_Tunnel T.bTunnel___init__ (fun σ => passAt takes0 σ) (pa_cons (pe_ix ix_list (pv 3) pe_int (fun _ _ => rfl)) (pa_cons (pe_ix ix_list (pv 2) pe_int (fun _ _ => rfl)) (pa_cons (pe_ix ix_list (pv 2) pe_int (fun _ _ => rfl)) pa_nil)))) (pa_cons (pe_makeK0 T.mk_Tunnel (okTunnel___init__ T) (hr.mono (by decide)) (by rfl) T.g_Tunnel T.u_Tunnel_second_first_window passX0 (pk_cons (pe_ix ix_list (pv 2) pe_int (fun _ _ => rfl)) (pk_cons (pe_ix ix_list (pv 2) pe_int (fun _ _ => rfl)) (pk_cons (pe_ix ix_list (pv 3) pe_int (fun _ _ => rfl)) pk_nil)))) pa_nil))))
        (pss_cons (ps_set (i := 5) sclaw.nd rfl (Or.inl rfl) (pe_lst (pa_cons (pe_lst (pa_cons pe_int (pa_cons (pe_lst pa_nil) (pa_cons (pe_lst pa_nil) pa_nil)))) (pa_cons (pe_lst (pa_cons pe_int (pa_cons (pe_lst pa_nil) (pa_cons (pe_lst pa_nil) pa_nil)))) pa_nil))))
         (pss_cons (ps_set (i := 6) sclaw.nd rfl (Or.inl rfl) (pe_lst (pa_cons pe_int (pa_cons pe_int pa_nil))))
          (pss_cons (ps_set (i := 7) sclaw.nd rfl (Or.inl rfl) (pe_lst pa_nil))
           (pss_cons (ps_if (PW.pt (pw_or (pt_not (pt_val (pe_call (ok_law_same T 3) (hr.mono (by decide)) (by rfl) T.g_law_same T.F_law_same.kp T.b_law_same .nil pass0 (pa_cons (pe_prop (pe_ix ix_list (pv 4) pe_int (fun _ _ => rfl)) T.cl_Tunnel T.pr_Tunnel_received (okTunnel_received T) (hr.mono (by decide)) T.bTunnel_received .nil pass0 rfl) (pa_cons (pe_tup pa_nil) pa_nil))))) (pw_or1 (pt_not (pt_val (pe_call (ok_law_unknown T) (hr.mono (by decide)) (by rfl) T.g_law_unknown T.F_law_unknown.kp T.b_law_unknown .nil pass0 (pa_cons (pe_ix ix_list (pv 4) pe_int (fun _ _ => rfl)) (pa_cons pe_int (pa_cons pe_int pa_nil)))))))))
            (pss_one (ps_ret pe_bl))
            pss_nil)
            (pss_cons (ps_for PassesOwn.never rfl (pi_range1 (by rfl) T.z_range (pa_cons (pe_op op_add pe_int (pe_call (ok_law_draw T) (hr.mono (by decide)) (by rfl) T.g_law_draw T.F_law_draw.kp T.b_law_draw .nil pass0 (pa_cons (pv 1) (pa_cons pe_int pa_nil)))) pa_nil)) (pg_name (i := 8) sclaw.nd rfl (Or.inl rfl))
             (pss_one (ps_if (pt_not (pt_val (pe_call (ok_law_send T) (hr.mono (by decide)) (by rfl) T.g_law_send T.F_law_send.kp T.b_law_send .nil pass0 (pa_cons (pv 4) (pa_cons (pv 6) (pa_cons (pv 7) (pa_cons (pe_ix ix_list (pv 2) (pe_call (ok_law_draw T) (hr.mono (by decide)) (by rfl) T.g_law_draw T.F_law_draw.kp T.b_law_draw .nil pass0 (pa_cons (pv 1) (pa_cons pe_int pa_nil))) (fun _ _ => rfl)) pa_nil)))))))
              (pss_one (ps_ret pe_bl))
              pss_nil)))
             (pss_cons (ps_for PassesOwn.never rfl (pi_range1 (by rfl) T.z_range (pa_cons (pe_op op_add pe_int (pe_call (ok_law_draw T) (hr.mono (by decide)) (by rfl) T.g_law_draw T.F_law_draw.kp T.b_law_draw .nil pass0 (pa_cons (pv 1) (pa_cons pe_int pa_nil)))) pa_nil)) (pg_name (i := 8) sclaw.nd rfl (Or.inl rfl))
              (pss_one (ps_if (pt_not (pt_val (pe_call (ok_law_deed T) hr (by rfl) T.g_law_deed T.F_law_deed.kp T.b_law_deed .nil pass0 (pa_cons (pv 1) (pa_cons (pv 4) (pa_cons (pv 3) (pa_cons (pv 5) (pa_cons (pv 6) (pa_cons (pv 7) (pa_cons (pv 2) pa_nil))))))))))
               (pss_one (ps_ret pe_bl))
               pss_nil)))
              (pss_cons (ps_for PassesOwn.never rfl (pi_range1 (by rfl) T.z_range (pa_cons (pe_callB call_len_seq (by rfl) T.z_len (by decide +kernel) (pa_cons (pv 7) pa_nil)) pa_nil)) (pg_name (i := 8) sclaw.nd rfl (Or.inl rfl))
               (pss_one (ps_if (pt_not (pt_val (pe_call (ok_law_same T 3) (hr.mono (by decide)) (by rfl) T.g_law_same T.F_law_same.kp T.b_law_same .nil pass0 (pa_cons (pe_methT (pe_ix ix_list (pv 4) (pe_op op_mod (pe_callTy call_int1 (by rfl) T.z_int (by decide +kernel) (pa_cons (pv 8) pa_nil)) pe_int) (fun _ _ => rfl)) T.cl_Tunnel T.mTunnel_letter (okTunnel_letter T) (hr.mono (by decide)) T.bTunnel_letter (fun σ => passAt takes0 σ) (pa_cons (pv 8) pa_nil)) (pa_cons (pe_ix ix_list (pv 7) (pv 8) (fun _ _ => rfl)) pa_nil)))))
                (pss_one (ps_ret pe_bl))
                pss_nil)))
               (pss_cons (ps_for PassesOwn.never rfl (pi_range1 (by rfl) T.z_range (pa_cons pe_int pa_nil)) (pg_name (i := 8) sclaw.nd rfl (Or.inl rfl))
                (pss_cons (ps_set (i := 9) sclaw.nd rfl (Or.inl rfl) (pe_tup (pa_cons (pe_fld (pe_ix ix_list (pv 4) (pv 8) (fun _ _ => rfl)) rfl) (pa_cons (pe_fld (pe_ix ix_list (pv 4) (pv 8) (fun _ _ => rfl)) rfl) (pa_cons (pe_fld (pe_ix ix_list (pv 4) (pv 8) (fun _ _ => rfl)) rfl) (pa_cons (pe_prop (pe_ix ix_list (pv 4) (pv 8) (fun _ _ => rfl)) T.cl_Tunnel T.pr_Tunnel_received (okTunnel_received T) (hr.mono (by decide)) T.bTunnel_received .nil pass0 rfl) pa_nil))))))
                 (pss_one (ps_if (pt_not (pt_val (pe_call (ok_law_same T 3) (hr.mono (by decide)) (by rfl) T.g_law_same T.F_law_same.kp T.b_law_same .nil pass0 (pa_cons (pv 9) (pa_cons (pe_tup (pa_cons (pe_ix ix_list (pv 3) (pv 8) (fun _ _ => rfl)) (pa_cons (pe_ix ix_list (pv 2) (pv 8) (fun _ _ => rfl)) (pa_cons (pe_ix ix_list (pv 2) (pe_op op_sub pe_int (pv 8)) (fun _ _ => rfl)) (pa_cons (pe_callTy call_tuple_of (by rfl) T.z_tuple (by decide +kernel) (pa_cons (pe_ix ix_list (pe_ix ix_list (pv 5) (pv 8) (fun _ _ => rfl)) pe_int (fun _ _ => rfl)) pa_nil)) pa_nil))))) pa_nil)))))
                  (pss_one (ps_ret pe_bl))
                  pss_nil))))
                (pss_one (ps_ret pe_bl))))))))))))))), ?_⟩
    repeat walk_at "s"
    refine ⟨a, ns, rfl, hS, hl, fun pl H1 s1 hpn hp => ?_⟩
    repeat walk_at "s"
    refine ⟨pl, 6, rfl, hp, by omega, by omega, fun nl f H2 hnn hnl hf hf01 g2 => ?_⟩
    have nne : nl ≠ pl := hp.ne hnn
    repeat walk_at "s"
    refine ⟨pl, rfl, g2.pl, fun z1 H3 z11 z164 g3 => ?_⟩
    have hnl3 := g3.at hnl nne
    repeat walk_at "s"
    refine ⟨pl, rfl, g3.pl, fun z2 H4 z21 z264 g4 => ?_⟩
    have hnl4 := g4.at hnl3 nne
    have hp4 := g4.pl
    clear hS hp hnl hnl3 g2 g3 g4
    repeat walk_at "s"
    refine ⟨by walk_at "len", fun szl nsz => ?_⟩
    have s5 := sm_new (o := .lst [.int z1, .int z2]) nsz
    have e5 := upd_self2 nsz (.lst [.int z1, .int z2])
    have nszp := hp4.ne nsz
    have nszn : nl ≠ szl := ne_of_none hnl4 nsz
    generalize upd H4 szl (.lst [.int z1, .int z2]) = H5 at s5 e5 ⊢
    have hp5 := hp4.same s5
    have hnl5 := s5 _ _ hnl4
    repeat walk_at "s"
    refine ⟨pl, nl, f, z1, rfl, hp5, nne, hnl5, hf, hf01, z11, z164, fun H6 g6 => ?_⟩
    have hnl6 := g6.at hnl5 nne
    have e6 := g6.at e5 nszp
    have hp6 := g6.pl
    clear e5 hp5 hnl5 g6 hnl4 hp4
    refine ⟨_, rfl, ?_⟩
    refine iteF ?_
    repeat walk_at "s"
    have O6 : Os (fun x => if x = pl then 42 else 43) H6 [(pl, 42), (nl, 43), (szl, 43)] := by
      obtain ⟨pn, pns, hpe, _⟩ := hp6
      intro z hz
      simp only [List.mem_cons, List.not_mem_nil, or_false] at hz
      rcases hz with rfl | rfl | rfl
      · exact ⟨by rw [hpe]; exact nofun, if_pos rfl⟩
      · exact ⟨by rw [hnl6]; exact nofun, if_neg nne⟩
      · exact ⟨by rw [e6]; exact nofun, if_neg nszp⟩
    generalize (fun x => if x = pl then 42 else 43 : Addr → Nat) = o6 at O6
    have lf : ∀ i, (f i).length ≤ 1000 := fun i => Nat.le_trans (hf i).hi (by decide)
    refine w_makeS ?_
    repeat walk_at "s"
    intro p7 dx7 hpn7 hdn7 h3
    refine ⟨p7, dx7, z1, f 0, f 1, rfl, upd_same, lf 0, lf 1, fun _ a7 H7 ea7 fr ow U7 => ?_, fun nok => absurd ⟨z11, z164, hf 0, hf 1, hf01⟩ nok⟩
    obtain ⟨s7, fr7⟩ := made2 hpn7 hdn7 fr ow
    refine ⟨rfl, ?_⟩
    clear fr ow h3
    have O7 := O6.step (m := (ft a7).map fun x => (x, 0)) (i := 0) s7 fun z hz => by
      obtain ⟨x, hx, rfl⟩ := List.mem_map.mp hz
      exact ⟨fr7 x hx, U7.there x hx, rfl⟩
    have hnl7 := s7 _ _ hnl6
    have e7 := s7 _ _ e6
    generalize ext o6 0 H6 = o7 at O7
    repeat walk_at "s"
    refine w_makeK ?_
    repeat walk_at "s"
    refine ⟨rfl, rfl, ?_⟩
    intro p8 dx8 hpn8 hdn8 h3
    refine ⟨p8, dx8, z2, f 1, f 0, rfl, upd_same, lf 1, lf 0, fun _ a8 H8 ea8 fr ow U8 => ?_, fun nok => absurd ⟨z21, z264, hf 1, hf 0, fun e => hf01 e.symm⟩ nok⟩
    obtain ⟨s8, fr8⟩ := made2 hpn8 hdn8 fr ow
    refine ⟨rfl, ?_⟩
    clear fr ow h3
    have O8 := O7.step (m := (ft a8).map fun x => (x, 1)) (i := 1) s8 fun z hz => by
      obtain ⟨x, hx, rfl⟩ := List.mem_map.mp hz
      exact ⟨fr8 x hx, U8.there x hx, rfl⟩
    generalize ext o7 1 H7 = o8 at O8
    repeat walk_at "s"
    refine ⟨by walk_at "len", fun tul n9 => ?_⟩
    have s9 := sm_new (o := .lst [.ref p7, .ref p8]) n9
    have e9 := upd_self2 n9 (.lst [.ref p7, .ref p8])
    generalize upd H8 tul (.lst [.ref p7, .ref p8]) = H9 at s9 e9 ⊢
    have O9 := O8.one 43 s9 n9 e9
    generalize ext o8 43 H8 = o9 at O9
    repeat walk_at "s"
    refine ⟨by walk_at "len", fun tl0 n10 => ?_⟩
    have s10 := sm_new (o := .lst []) n10
    have e10 := upd_self2 n10 (.lst [])
    generalize upd H9 tl0 (.lst []) = H10 at s10 e10 ⊢
    have O10 := O9.one 10 s10 n10 e10
    generalize ext o9 10 H9 = o10 at O10
    repeat walk_at "s"
    refine ⟨by walk_at "len", fun rl0 n11 => ?_⟩
    have s11 := sm_new (o := .lst []) n11
    have e11 := upd_self2 n11 (.lst [])
    generalize upd H10 rl0 (.lst []) = H11 at s11 e11 ⊢
    have O11 := O10.one 10 s11 n11 e11
    generalize ext o10 10 H10 = o11 at O11
    repeat walk_at "s"
    refine ⟨by walk_at "len", fun st0 n12 => ?_⟩
    have s12 := sm_new (o := .lst [.int 0, .ref tl0, .ref rl0]) n12
    have e12 := upd_self2 n12 (.lst [.int 0, .ref tl0, .ref rl0])
    generalize upd H11 st0 (.lst [.int 0, .ref tl0, .ref rl0]) = H12 at s12 e12 ⊢
    have O12 := O11.one 10 s12 n12 e12
    generalize ext o11 10 H11 = o12 at O12
    repeat walk_at "s"
    refine ⟨by walk_at "len", fun tl1 n13 => ?_⟩
    have s13 := sm_new (o := .lst []) n13
    have e13 := upd_self2 n13 (.lst [])
    generalize upd H12 tl1 (.lst []) = H13 at s13 e13 ⊢
    have O13 := O12.one 11 s13 n13 e13
    generalize ext o12 11 H12 = o13 at O13
    repeat walk_at "s"
    refine ⟨by walk_at "len", fun rl1 n14 => ?_⟩
    have s14 := sm_new (o := .lst []) n14
    have e14 := upd_self2 n14 (.lst [])
    generalize upd H13 rl1 (.lst []) = H14 at s14 e14 ⊢
    have O14 := O13.one 11 s14 n14 e14
    generalize ext o13 11 H13 = o14 at O14
    repeat walk_at "s"
    refine ⟨by walk_at "len", fun st1 n15 => ?_⟩
    have s15 := sm_new (o := .lst [.int 0, .ref tl1, .ref rl1]) n15
    have e15 := upd_self2 n15 (.lst [.int 0, .ref tl1, .ref rl1])
    generalize upd H14 st1 (.lst [.int 0, .ref tl1, .ref rl1]) = H15 at s15 e15 ⊢
    have O15 := O14.one 11 s15 n15 e15
    generalize ext o14 11 H14 = o15 at O15
    repeat walk_at "s"
    refine ⟨by walk_at "len", fun stl n16 => ?_⟩
    have s16 := sm_new (o := .lst [.ref st0, .ref st1]) n16
    have e16 := upd_self2 n16 (.lst [.ref st0, .ref st1])
    generalize upd H15 stl (.lst [.ref st0, .ref st1]) = H16 at s16 e16 ⊢
    have O16 := O15.one 43 s16 n16 e16
    generalize ext o15 43 H15 = o16 at O16
    repeat walk_at "s"
    refine ⟨by walk_at "len", fun sl n17 => ?_⟩
    have s17 := sm_new (o := .lst [.int 0, .int 0]) n17
    have e17 := upd_self2 n17 (.lst [.int 0, .int 0])
    generalize upd H16 sl (.lst [.int 0, .int 0]) = H17 at s17 e17 ⊢
    have O17 := O16.one 41 s17 n17 e17
    generalize ext o16 41 H16 = o17 at O17
    repeat walk_at "s"
    refine ⟨by walk_at "len", fun ll n18 => ?_⟩
    have s18 := sm_new (o := .lst []) n18
    have e18 := upd_self2 n18 (.lst [])
    generalize upd H17 ll (.lst []) = H18 at s18 e18 ⊢
    have O18 := O17.one 40 s18 n18 e18
    generalize ext o17 40 H17 = o18 at O18
    have u17 := s18
    have u16 := s17.trans u17
    have u15 := s16.trans u16
    have u14 := s15.trans u15
    have u13 := s14.trans u14
    have u12 := s13.trans u13
    have u11 := s12.trans u12
    have u10 := s11.trans u11
    have u9 := s10.trans u10
    have u8 := s9.trans u9
    have u7 := s8.trans u8
    have d1 := rd0 (u12 _ _ e12) (u10 _ _ e10) (u11 _ _ e11) (ne_of_none (s11 _ _ e10) n12) (ne_of_none e11 n12) (ne_of_none e10 n11).symm
    have d2 := rd0 (u15 _ _ e15) (u13 _ _ e13) (u14 _ _ e14) (ne_of_none (s14 _ _ e13) n15) (ne_of_none e14 n15) (ne_of_none e13 n14).symm
    have W : W2 T.C_Tunnel o18 (two a7 a8) ⟨two st0 st1, two tl0 tl1, two rl0 rl1, ll, sl, pl, csOf (two p7 p8) (two z1 z2) (two st0 st1) tul szl stl nl f⟩ H18 (two (S0 z1 (f 0) (f 1)) (S0 z2 (f 1) (f 0))) (fun _ => ⟨0, [], []⟩) [] 0 0 := by
      refine W2.init (U7.same (s8.trans u8)) (U8.same u8) (fun x hx => (O18 (x, 0) (by simp [hx])).2) (fun x hx => (O18 (x, 1) (by simp [hx])).2) d1 d2 ⟨(O18 (st0, 10) (by simp)).2, (O18 (tl0, 10) (by simp)).2, (O18 (rl0, 10) (by simp)).2⟩ ⟨(O18 (st1, 11) (by simp)).2, (O18 (tl1, 11) (by simp)).2, (O18 (rl1, 11) (by simp)).2⟩ ⟨(O18 (ll, 40) (by simp)).2, (O18 (sl, 41) (by simp)).2, (O18 (pl, 42) (by simp)).2⟩ e18 (u17 _ _ e17) (hp6.same (s7.trans u7)) ?_
      intro z hz
      simp only [csOf, List.mem_cons, List.not_mem_nil, or_false] at hz
      rcases hz with rfl | rfl | rfl | rfl
      · exact ⟨u9 _ _ e9, (O18 (tul, 43) (by simp)).2⟩
      · exact ⟨u7 _ _ e7, (O18 (szl, 43) (by simp)).2⟩
      · exact ⟨u16 _ _ e16, (O18 (stl, 43) (by simp)).2⟩
      · exact ⟨u7 _ _ hnl7, (O18 (nl, 43) (by simp)).2⟩
    have I : I2 T.C_Tunnel (two z1 z2) (two (f 0, f 1) (f 1, f 0)) (two p7 p8) ⟨two st0 st1, two tl0 tl1, two rl0 rl1, ll, sl, pl, csOf (two p7 p8) (two z1 z2) (two st0 st1) tul szl stl nl f⟩ H18 0 [] := ⟨o18, _, _, _, 0, 0, W, N2.init z11 z21, fun i => by
      rcases two_c i with rfl | rfl
      · exact ea7
      · exact ea8⟩
    clear W d1 d2 O6 O7 O8 O9 O10 O11 O12 O13 O14 O15 O16 O17 O18 s7 s8 s9 s10 s11 s12 s13 s14 s15 s16 s17 s18 u7 u8 u9 u10 u11 u12 u13 u14 u15 u16 u17 e6 e7 e9 e10 e11 e12 e13 e14 e15 e16 e17 e18 U7 U8 hnl6 hnl7 hp6 s5 s1
    generalize hsz : two z1 z2 = sz at I
    generalize hnm : two (f 0, f 1) (f 1, f 0) = nm at I
    generalize hpp : two p7 p8 = p at I
    generalize hst : two st0 st1 = st at I
    generalize two tl0 tl1 = tl at I
    generalize two rl0 rl1 = rl at I
    have epp : ∀ i, p i = two p7 p8 i := fun i => by rw [hpp]
    have p70 : p7 = p 0 := (epp 0).symm
    have p81 : p8 = p 1 := (epp 1).symm
    have hnm0 : nm = two (f 0, f 1) (f 1, f 0) := hnm.symm
    clear hpp hst hsz hnm epp ea7 ea8 fr7 fr8 hpn7 hpn8 hdn7 hdn8 n9 n10 n11 n12 n13 n14 n15 n16 n17 n18 nsz nszp nszn hnn hpn
    subst p70 p81
    have htul := I.at csT
    obtain ⟨aa, S, n0, rc, ea, U, els, -, -, -, -, -, erc, lrc, -, -⟩ := I.tun 0
    have erc0 : rc = [] := List.eq_nil_of_length_eq_zero (by omega)
    have ip : H18 (p 0) = some (.ins T.C_Tunnel aa.dx (tfs aa S)) := by rw [← ea]; exact U.ins
    repeat walk_at "s"
    refine w_prop ?_
    repeat walk_at "s"
    refine ⟨p 0, _, _, rfl, ip, aa, S, by rw [ea], U, fun t H19 s19 ht => ?_⟩
    rw [erc, erc0] at ht
    have I19 := I.same s19
    repeat walk_at "s"
    refine ⟨by walk_at "len", fun t2 ht2 => ?_⟩
    have s20 := sm_new (o := .tup []) ht2
    refine ⟨_, _, rfl, .inr ⟨.tuple [], tup_inz (a := []) (s20 _ _ ht), tup_inz (a := []) upd_same, .inr (.inr (.inr ⟨_, rfl, by show 0 ≤ 2000; decide, nofun⟩)), fun H21 s21 => ?_⟩⟩
    have I21 := (I19.same s20).same s21
    clear I U ip htul I19 s20 s21 ht ea els erc lrc erc0 s19
    refine ⟨_, rfl, ?_⟩
    refine iteF ?_
    have htul := I21.at csT
    obtain ⟨aa, S, n0, rc, ea, U, els, -, -, -, lc0, lc1, erc, lrc, -, -⟩ := I21.tun 1
    repeat walk_at "s"
    refine ⟨aa, S, 0, 0, by rw [ea]; rfl, U, by omega, by omega, by rw [erc, List.length_map]; omega, by omega, by omega, by rw [els]; decide, ?_⟩
    refine ⟨_, rfl, ?_⟩
    refine iteF ?_
    clear U ea els erc lrc lc0 lc1 htul
    repeat walk_at "s"
    refine ⟨pl, 12, rfl, I21.pil, by omega, fun d H22 d0 d1 g22 => ?_⟩
    have I22 := I21.gp g22
    clear I21 g22
    repeat walk_at "s"
    refine for_range (lo := 0) (n := (1 + d).toNat) (fun i σ H => ∃ (v8 v9 : Option V) (L : List (Int × Int × Str)), σ = [some (.ref a), some (.ref pl), some (.ref nl), some (.ref szl), some (.ref tul), some (.ref stl), some (.ref sl), some (.ref ll), v8, v9] ∧ I2 T.C_Tunnel sz nm p ⟨st, tl, rl, ll, sl, pl, csOf p sz st tul szl stl nl f⟩ H 0 L ∧ L.length = i) ?_ ?_ ?_
    · exact ⟨_, _, [], rfl, I22, rfl⟩
    · rintro i σ H23 hi ⟨v8, v9, L, rfl, I23, hL⟩
      clear I22
      repeat walk_at "s"
      refine ⟨pl, 6, rfl, I23.pil, by omega, fun e H24 e0 e1 g24 => ?_⟩
      have I24 := I23.gp g24
      refine w_ixL (SqL.of (I24.at csN)) (nm_at6i e0 e1) ?_
      repeat walk_at "s"
      refine ⟨sz, nm, p, ⟨st, tl, rl, ll, sl, pl, csOf p sz st tul szl stl nl f⟩, 0, L, f e.toNat, tul, rfl, I24, csT, hf _, by omega, fun H25 L5 hl5 I25 => ?_⟩
      refine ⟨_, rfl, ?_⟩
      refine iteF ?_
      exact ⟨_, _, L5, rfl, I25, by omega⟩
    · rintro σ H23 ⟨v8, v9, L, rfl, I23, hL⟩
      clear I22
      repeat walk_at "s"
      refine ⟨pl, 30, rfl, I23.pil, by omega, fun e H24 e0 e1 g24 => ?_⟩
      have I24 := I23.gp g24
      clear I23 g24
      repeat walk_at "s"
      refine for_range (lo := 0) (n := (4 + e).toNat) (fun i σ H => ∃ (v8 v9 : Option V) (L : List (Int × Int × Str)), σ = [some (.ref a), some (.ref pl), some (.ref nl), some (.ref szl), some (.ref tul), some (.ref stl), some (.ref sl), some (.ref ll), v8, v9] ∧ I2 T.C_Tunnel sz nm p ⟨st, tl, rl, ll, sl, pl, csOf p sz st tul szl stl nl f⟩ H (40 * i) L ∧ 1 ≤ L.length ∧ L.length ≤ 195) ?_ ?_ ?_
      · exact ⟨_, _, L, rfl, I24, by omega, by omega⟩
      · rintro i σ H25 hi ⟨v8, v9, L, rfl, I25, hL1, hL2⟩
        clear I24
        repeat walk_at "s"
        refine ⟨sz, nm, p, st, tl, rl, ll, sl, pl, tul, szl, stl, nl, f, 40 * i, L, rfl, I25, hf, by omega, hL1, hL2, fun H26 L6 I26 h61 h62 => ?_⟩
        refine ⟨_, rfl, ?_⟩
        refine iteF ?_
        exact ⟨_, _, L6, rfl, I26, h61, h62⟩
      · rintro σ H25 ⟨v8, v9, L, rfl, I25, hL1, hL2⟩
        clear I24
        obtain ⟨us, hus, dus⟩ := I25.lts
        have lus := dus.length
        rw [List.length_map] at lus
        repeat walk_at "s"
        refine for_range (lo := 0) (n := ((us.length : Int)).toNat) (fun i σ H => ∃ (v8 v9 : Option V), σ = [some (.ref a), some (.ref pl), some (.ref nl), some (.ref szl), some (.ref tul), some (.ref stl), some (.ref sl), some (.ref ll), v8, v9] ∧ I2 T.C_Tunnel sz nm p ⟨st, tl, rl, ll, sl, pl, csOf p sz st tul szl stl nl f⟩ H (40 * (4 + e).toNat) L) ?_ ?_ ?_
        · exact ⟨_, _, rfl, I25⟩
        · rintro i σ H26 hi ⟨v8, v9, rfl, I26⟩
          clear I25 hus dus
          have htul := I26.at csT
          obtain ⟨us6, hus6, dus6⟩ := I26.lts
          obtain ⟨x, hx⟩ : ∃ x, L[i]? = some x := ⟨_, List.getElem?_eq_getElem (by omega)⟩
          obtain ⟨v, hv, hq⟩ := ld_get dus6 hx
          obtain ⟨j, hj⟩ : ∃ j : Fin 2, (0 + (i : Int)) % 2 = (j.val : Int) := ⟨⟨i % 2, Nat.mod_lt _ (by decide)⟩, by show (0 + (i : Int)) % 2 = ((i % 2 : Nat) : Int); omega⟩
          obtain ⟨aa, S, n0, rc, ea, U, els, -, -, -, -, -, -, -, -, -⟩ := I26.tun j
          have ip : H26 (p j) = some (.ins T.C_Tunnel aa.dx (tfs aa S)) := by rw [← ea]; exact U.ins
          repeat walk_at "s"
          refine w_methS ?_
          repeat walk_at "s"
          rw [hj]
          refine w_ixL (SqL.of htul) (at2' V.ref j) ?_
          refine ⟨p j, _, _, rfl, ip, tn1 aa S, ?_⟩
          repeat walk_at "s"
          refine ⟨aa, S, 0 + (i : Int), by rw [ea], U, fun m x' em hx' v' hv' => ?_, fun nb => (nb ⟨by omega, by rw [els]; omega⟩).elim⟩
          obtain rfl : i = m := by omega
          rw [els, hx] at hx'
          obtain rfl := Option.some.inj hx'
          repeat walk_at "s"
          refine w_ixL (SqL.of hus6) (by rw [Int.zero_add]; exact atI_nat hv) ?_
          refine ⟨_, _, rfl, .inr ⟨_, ld_at' hv', ld_at' hq, dq_up (dq_ld x), fun H27 s27 => ?_⟩⟩
          have I27 := I26.same s27
          refine ⟨_, rfl, ?_⟩
          refine iteF ?_
          exact ⟨_, _, rfl, I27⟩
        · rintro σ H26 ⟨v8, v9, rfl, I26⟩
          clear I25 hus dus
          repeat walk_at "s"
          refine for_range (lo := 0) (n := Int.toNat 2) (fun i σ H => ∃ (v8 v9 : Option V), σ = [some (.ref a), some (.ref pl), some (.ref nl), some (.ref szl), some (.ref tul), some (.ref stl), some (.ref sl), some (.ref ll), v8, v9] ∧ I2 T.C_Tunnel sz nm p ⟨st, tl, rl, ll, sl, pl, csOf p sz st tul szl stl nl f⟩ H (40 * (4 + e).toNat) L) ?_ ?_ ?_
          · exact ⟨_, _, rfl, I26⟩
          · rintro i σ H27 hi ⟨v8, v9, rfl, I27⟩
            clear I26
            obtain ⟨j, rfl⟩ := fin2 (p := p) (show i < 2 from hi)
            have hj2 := j.isLt
            obtain ⟨aa, S, n0, rc, ea, U, els, ewn, en1, en2, -, -, erc, lrc, hst, hrl⟩ := I27.tun j
            have ip : H27 (p j) = some (.ins T.C_Tunnel aa.dx (tfs aa S)) := by rw [← ea]; exact U.ins
            rw [hnm0, nm_two] at en1 en2
            have en1 : S.n1 = f ((0 : Int) + (j.val : Int)).toNat := en1
            have en2 : S.n2 = f ((1 : Int) - (0 + (j.val : Int))).toNat := en2
            have htul := SqL.of (K := K) (I27.at csT)
            repeat walk_at "s"
            refine w_ixL htul (at2 V.ref j) ?_
            refine w_fldA ip T.cl_Tunnel T.n_Tunnel_window (tf1 aa S) ?_
            repeat walk_at "s"
            refine w_ixL htul (at2 V.ref j) ?_
            refine w_fldA ip T.cl_Tunnel T.n_Tunnel_first (tf2 aa S) ?_
            repeat walk_at "s"
            refine w_ixL htul (at2 V.ref j) ?_
            refine w_fldA ip T.cl_Tunnel T.n_Tunnel_second (tf3 aa S) ?_
            repeat walk_at "s"
            refine w_prop ?_
            repeat walk_at "s"
            refine w_ixL htul (at2 V.ref j) ?_
            refine ⟨p j, _, _, rfl, ip, aa, S, by rw [ea], U, fun t H28 s28 ht => ?_⟩
            rw [erc] at ht
            repeat walk_at "s"
            refine ⟨by walk_at "len", fun tt htt => ?_⟩
            have s29 := sm_new (o := .tup [.int S.win, .str S.n1, .str S.n2, .ref t]) htt
            have e29 := upd_self2 htt (.tup [.int S.win, .str S.n1, .str S.n2, .ref t])
            generalize upd H28 tt (.tup [.int S.win, .str S.n1, .str S.n2, .ref t]) = H29 at s29 e29 ⊢
            have I29 := (I27.same s28).same s29
            have ht9 := s29 _ _ ht
            have hst9 := s29 _ _ (s28 _ _ hst)
            have hrl9 := s29 _ _ (s28 _ _ hrl)
            clear I27 U ip htul ht hst hrl
            repeat walk_at "s"
            refine w_ixL (SqL.of (I29.at csZ)) (at2 V.int j) ?_
            repeat walk_at "s"
            refine w_ixL (SqL.of (I29.at csN)) (nm_at6i (by omega) (by omega)) ?_
            repeat walk_at "s"
            refine w_ixL (SqL.of (I29.at csN)) (nm_at6i (by omega) (by omega)) ?_
            repeat walk_at "s"
            refine w_ixL (SqL.of (I29.at csS)) (at2 V.ref j) ?_
            repeat walk_at "s"
            refine ⟨_, _, rfl, .inl ⟨SqL.of hrl9, fun t2 ht2 => ?_⟩⟩
            have s30 := sm_new (o := .tup (inz (rc.map fun n : Nat => (n : Int)))) ht2
            have e30 := upd_self2 ht2 (.tup (inz (rc.map fun n : Nat => (n : Int))))
            generalize upd H29 t2 (.tup (inz (rc.map fun n : Nat => (n : Int)))) = H30 at s30 e30 ⊢
            repeat walk_at "s"
            refine ⟨by walk_at "len", fun t3 ht3 => ?_⟩
            have s31 := sm_new (o := .tup [.int (sz j), .str (f ((0 : Int) + (j.val : Int)).toNat), .str (f ((1 : Int) - (0 + (j.val : Int))).toNat), .ref t2]) ht3
            have e31 := upd_self2 ht3 (.tup [.int (sz j), .str (f ((0 : Int) + (j.val : Int)).toNat), .str (f ((1 : Int) - (0 + (j.val : Int))).toNat), .ref t2])
            generalize upd H30 t3 (.tup [.int (sz j), .str (f ((0 : Int) + (j.val : Int)).toNat), .str (f ((1 : Int) - (0 + (j.val : Int))).toNat), .ref t2]) = H31 at s31 e31 ⊢
            rw [en1, en2, ewn] at e29
            repeat walk_at "s"
            refine ⟨_, _, rfl, .inr ⟨.tuple [.int (sz j), .str (f ((0 : Int) + (j.val : Int)).toNat), .str (f ((1 : Int) - (0 + (j.val : Int))).toNat), .tuple ((rc.map fun n : Nat => (n : Int)).map PyData.int)], .tup (s31 _ _ (s30 _ _ e29)) (.cons (.int _) (.cons (.str _) (.cons (.str _) (.cons (tup_inz (s31 _ _ (s30 _ _ ht9))) .nil)))), .tup e31 (.cons (.int _) (.cons (.str _) (.cons (.str _) (.cons (tup_inz (s31 _ _ e30)) .nil)))), .inr (.inr (.inr ⟨_, rfl, by show 4 ≤ 2000; decide, fun y hy => ?_⟩)), fun H32 s32 => ?_⟩⟩
            · simp only [List.mem_cons, List.not_mem_nil, or_false] at hy
              rcases hy with rfl | rfl | rfl | rfl
              · exact .inr (.inl ⟨_, rfl⟩)
              · exact .inl ⟨_, rfl⟩
              · exact .inl ⟨_, rfl⟩
              · exact dq_inz (by rw [List.length_map]; omega)
            · refine ⟨_, rfl, ?_⟩
              refine iteF ?_
              exact ⟨_, _, rfl, ((I29.same s30).same s31).same s32⟩
          · rintro σ H27 ⟨v8, v9, rfl, I27⟩
            repeat walk_at "s"
            exact q _
end
theorem all_mk {l : PySem.W.OpenLaw} {w : World} {K : PySem.W.Frag} {h : Heap} {mg : Str → Option Value} {fa : Addr} (X : K.In h) (G : h.Ns mainGlobals mg) (hfa : mg "law" = some (.ref fa))
    {f0 f1 f2 f3 f4 f5 f6 f7 f8 f9 f10 f11 f12 f13 f14 f15 f16 f17 f18 f19 f20 f21 f22 f23 f24 f25 f26 f27 f28 : Addr} {od0 an0 od1 an1 od2 an2 od3 an3 od4 an4 od5 an5 od6 an6 od7 an7 od8 an8 od9 an9 od10 an10 od11 an11 od12 an12 od13 an13 od14 an14 od15 an15 od16 an16 od17 an17 od18 an18 od19 an19 od20 an20 od21 an21 od22 an22 od23 an23 od24 an24 od25 an25 od26 an26 od27 an27 od28 an28 : Option Addr} {sl0 sl1 sl2 sl3 sl4 sl5 sl6 sl7 sl8 sl9 sl10 sl11 sl12 sl13 sl14 sl15 sl16 sl17 sl18 sl19 sl20 sl21 sl22 sl23 sl24 sl25 sl26 sl27 sl28 : Array (Option Value)}
    {oc0 kV0 dc0 pm0 cd0 ct0 oc1 kV1 dc1 pm1 cd1 ct1 oc2 kV2 dc2 pm2 cd2 ct2 oc3 kV3 dc3 pm3 cd3 ct3 oc4 kV4 dc4 pm4 cd4 ct4 oc5 kV5 dc5 pm5 cd5 ct5 oc6 kV6 dc6 pm6 cd6 ct6 oc7 kV7 dc7 pm7 cd7 ct7 oc8 kV8 dc8 pm8 cd8 ct8 oc9 kV9 dc9 pm9 cd9 ct9 oc10 kV10 dc10 pm10 cd10 ct10 oc11 kV11 dc11 pm11 cd11 ct11 oc12 kV12 dc12 pm12 cd12 ct12 oc13 kV13 dc13 pm13 cd13 ct13 oc14 kV14 dc14 pm14 cd14 ct14 oc15 kV15 dc15 pm15 cd15 ct15 oc16 kV16 dc16 pm16 cd16 ct16 oc17 kV17 dc17 pm17 cd17 ct17 oc18 kV18 dc18 pm18 cd18 ct18 oc19 kV19 dc19 pm19 cd19 ct19 oc20 kV20 dc20 pm20 cd20 ct20 oc21 kV21 dc21 pm21 cd21 ct21 oc22 kV22 dc22 pm22 cd22 ct22 oc23 kV23 dc23 pm23 cd23 ct23 oc24 kV24 dc24 pm24 cd24 ct24 oc25 kV25 dc25 pm25 cd25 ct25 oc26 kV26 dc26 pm26 cd26 ct26 oc27 kV27 dc27 pm27 cd27 ct27 oc28 kV28 dc28 pm28 cd28 ct28 : Value}
    {C0 : Addr}
    (aC0 : PySem.W.nsIn K mainGlobals "Tunnel" = some (some (.ref C0))) (pg0 : PySem.W.plainGet K C0 Str.empty = true) (hd0 : PySem.W.hasDictIn K C0 = true) (po0 : PySem.W.plainOver K C0 = true) (sa0 : PySem.W.findIn K (.ref C0) "__setattr__" = some (some (.builtin "object.__setattr__"))) (mk0 : PySem.W.makesIn K C0 = true) (kc0 : PySem.W.keepIn K (.ref C0) = true)
    (n0_0 : PySem.W.findIn K (.ref C0) "window" = some none)
    (n0_1 : PySem.W.findIn K (.ref C0) "first" = some none)
    (n0_2 : PySem.W.findIn K (.ref C0) "second" = some none)
    (n0_3 : PySem.W.findIn K (.ref C0) "_letters" = some none)
    (n0_4 : PySem.W.findIn K (.ref C0) "_epoch" = some none)
    (n0_5 : PySem.W.findIn K (.ref C0) "_sent" = some none)
    (n0_6 : PySem.W.findIn K (.ref C0) "_newest" = some none)
    (n0_7 : PySem.W.findIn K (.ref C0) "_counts" = some none)
    (n0_8 : PySem.W.findIn K (.ref C0) "_tops" = some none)
    (n0_9 : PySem.W.findIn K (.ref C0) "_received" = some none)
    (a0 : PySem.W.nsIn K mainGlobals "is_name" = some (some (.ref f0))) (l0 : K.lookup f0 = some ⟨oc0, od0, .func (PySem.W.fnOf "is_name" "is_name" (defArgs sis_name) (defBody sis_name) (defScope sis_name) .none kV0 dc0 pm0 an0 cd0 ct0), sl0⟩) (c0 : PySem.W.codeIn K cd0 "is_name" = true) (k0 : PySem.W.keepIn K (.ref f0) = true)
    (a1 : PySem.W.nsIn K mainGlobals "_is_word" = some (some (.ref f1))) (l1 : K.lookup f1 = some ⟨oc1, od1, .func (PySem.W.fnOf "_is_word" "_is_word" (defArgs s_is_word) (defBody s_is_word) (defScope s_is_word) .none kV1 dc1 pm1 an1 cd1 ct1), sl1⟩) (c1 : PySem.W.codeIn K cd1 "_is_word" = true) (k1 : PySem.W.keepIn K (.ref f1) = true)
    (a2 : PySem.W.findIn K (.ref C0) "__init__" = some (some (.ref f2))) (i2 : PySem.W.isFn K (.ref f2) = true) (l2 : K.lookup f2 = some ⟨oc2, od2, .func (PySem.W.fnOf "__init__" "Tunnel.__init__" (defArgs sTunnel___init__) (defBody sTunnel___init__) (defScope sTunnel___init__) .none kV2 dc2 pm2 an2 cd2 ct2), sl2⟩) (c2 : PySem.W.codeIn K cd2 "Tunnel.__init__" = true) (k2 : PySem.W.keepIn K (.ref f2) = true)
    {pp3 : Addr} {pe3 : List Value} (pa3 : PySem.W.findIn K (.ref C0) "received" = some (some (.ref pp3))) (pb3 : PySem.W.recIn K pp3 "property" = some (.ref f3 :: pe3)) (pc3 : PySem.W.specialIn K (.ref pp3) "__get__" = some (some (.builtin "property.__get__"))) (pd3 : PySem.W.takesIn K (.ref pp3) = some true) (l3 : K.lookup f3 = some ⟨oc3, od3, .func (PySem.W.fnOf "received" "Tunnel.received" (defArgs sTunnel_received) (defBody sTunnel_received) (defScope sTunnel_received) .none kV3 dc3 pm3 an3 cd3 ct3), sl3⟩) (c3 : PySem.W.codeIn K cd3 "Tunnel.received" = true) (k3 : PySem.W.keepIn K (.ref f3) = true)
    (a4 : PySem.W.findIn K (.ref C0) "send" = some (some (.ref f4))) (i4 : PySem.W.isFn K (.ref f4) = true) (l4 : K.lookup f4 = some ⟨oc4, od4, .func (PySem.W.fnOf "send" "Tunnel.send" (defArgs sTunnel_send) (defBody sTunnel_send) (defScope sTunnel_send) .none kV4 dc4 pm4 an4 cd4 ct4), sl4⟩) (c4 : PySem.W.codeIn K cd4 "Tunnel.send" = true) (k4 : PySem.W.keepIn K (.ref f4) = true)
    (a5 : PySem.W.findIn K (.ref C0) "rekey" = some (some (.ref f5))) (i5 : PySem.W.isFn K (.ref f5) = true) (l5 : K.lookup f5 = some ⟨oc5, od5, .func (PySem.W.fnOf "rekey" "Tunnel.rekey" (defArgs sTunnel_rekey) (defBody sTunnel_rekey) (defScope sTunnel_rekey) .none kV5 dc5 pm5 an5 cd5 ct5), sl5⟩) (c5 : PySem.W.codeIn K cd5 "Tunnel.rekey" = true) (k5 : PySem.W.keepIn K (.ref f5) = true)
    (a6 : PySem.W.findIn K (.ref C0) "deliver" = some (some (.ref f6))) (i6 : PySem.W.isFn K (.ref f6) = true) (l6 : K.lookup f6 = some ⟨oc6, od6, .func (PySem.W.fnOf "deliver" "Tunnel.deliver" (defArgs sTunnel_deliver) (defBody sTunnel_deliver) (defScope sTunnel_deliver) .none kV6 dc6 pm6 an6 cd6 ct6), sl6⟩) (c6 : PySem.W.codeIn K cd6 "Tunnel.deliver" = true) (k6 : PySem.W.keepIn K (.ref f6) = true)
    (a7 : PySem.W.findIn K (.ref C0) "_renew" = some (some (.ref f7))) (i7 : PySem.W.isFn K (.ref f7) = true) (l7 : K.lookup f7 = some ⟨oc7, od7, .func (PySem.W.fnOf "_renew" "Tunnel._renew" (defArgs sTunnel__renew) (defBody sTunnel__renew) (defScope sTunnel__renew) .none kV7 dc7 pm7 an7 cd7 ct7), sl7⟩) (c7 : PySem.W.codeIn K cd7 "Tunnel._renew" = true) (k7 : PySem.W.keepIn K (.ref f7) = true)
    (a8 : PySem.W.findIn K (.ref C0) "_judged" = some (some (.ref f8))) (i8 : PySem.W.isFn K (.ref f8) = true) (l8 : K.lookup f8 = some ⟨oc8, od8, .func (PySem.W.fnOf "_judged" "Tunnel._judged" (defArgs sTunnel__judged) (defBody sTunnel__judged) (defScope sTunnel__judged) .none kV8 dc8 pm8 an8 cd8 ct8), sl8⟩) (c8 : PySem.W.codeIn K cd8 "Tunnel._judged" = true) (k8 : PySem.W.keepIn K (.ref f8) = true)
    (a9 : PySem.W.findIn K (.ref C0) "letter" = some (some (.ref f9))) (i9 : PySem.W.isFn K (.ref f9) = true) (l9 : K.lookup f9 = some ⟨oc9, od9, .func (PySem.W.fnOf "letter" "Tunnel.letter" (defArgs sTunnel_letter) (defBody sTunnel_letter) (defScope sTunnel_letter) .none kV9 dc9 pm9 an9 cd9 ct9), sl9⟩) (c9 : PySem.W.codeIn K cd9 "Tunnel.letter" = true) (k9 : PySem.W.keepIn K (.ref f9) = true)
    (a10 : PySem.W.findIn K (.ref C0) "sealed" = some (some (.ref f10))) (i10 : PySem.W.isFn K (.ref f10) = true) (l10 : K.lookup f10 = some ⟨oc10, od10, .func (PySem.W.fnOf "sealed" "Tunnel.sealed" (defArgs sTunnel_sealed) (defBody sTunnel_sealed) (defScope sTunnel_sealed) .none kV10 dc10 pm10 an10 cd10 ct10), sl10⟩) (c10 : PySem.W.codeIn K cd10 "Tunnel.sealed" = true) (k10 : PySem.W.keepIn K (.ref f10) = true)
    (a11 : PySem.W.nsIn K mainGlobals "_law_pile" = some (some (.ref f11))) (l11 : K.lookup f11 = some ⟨oc11, od11, .func (PySem.W.fnOf "_law_pile" "_law_pile" (defArgs s_law_pile) (defBody s_law_pile) (defScope s_law_pile) .none kV11 dc11 pm11 an11 cd11 ct11), sl11⟩) (c11 : PySem.W.codeIn K cd11 "_law_pile" = true) (k11 : PySem.W.keepIn K (.ref f11) = true)
    (a12 : PySem.W.nsIn K mainGlobals "_law_draw" = some (some (.ref f12))) (l12 : K.lookup f12 = some ⟨oc12, od12, .func (PySem.W.fnOf "_law_draw" "_law_draw" (defArgs s_law_draw) (defBody s_law_draw) (defScope s_law_draw) .none kV12 dc12 pm12 an12 cd12 ct12), sl12⟩) (c12 : PySem.W.codeIn K cd12 "_law_draw" = true) (k12 : PySem.W.keepIn K (.ref f12) = true)
    (a13 : PySem.W.nsIn K mainGlobals "_law_names" = some (some (.ref f13))) (l13 : K.lookup f13 = some ⟨oc13, od13, .func (PySem.W.fnOf "_law_names" "_law_names" (defArgs s_law_names) (defBody s_law_names) (defScope s_law_names) .none kV13 dc13 pm13 an13 cd13 ct13), sl13⟩) (c13 : PySem.W.codeIn K cd13 "_law_names" = true) (k13 : PySem.W.keepIn K (.ref f13) = true)
    (a14 : PySem.W.nsIn K mainGlobals "_law_whole" = some (some (.ref f14))) (l14 : K.lookup f14 = some ⟨oc14, od14, .func (PySem.W.fnOf "_law_whole" "_law_whole" (defArgs s_law_whole) (defBody s_law_whole) (defScope s_law_whole) .none kV14 dc14 pm14 an14 cd14 ct14), sl14⟩) (c14 : PySem.W.codeIn K cd14 "_law_whole" = true) (k14 : PySem.W.keepIn K (.ref f14) = true)
    (a15 : PySem.W.nsIn K mainGlobals "_law_same" = some (some (.ref f15))) (l15 : K.lookup f15 = some ⟨oc15, od15, .func (PySem.W.fnOf "_law_same" "_law_same" (defArgs s_law_same) (defBody s_law_same) (defScope s_law_same) .none kV15 dc15 pm15 an15 cd15 ct15), sl15⟩) (c15 : PySem.W.codeIn K cd15 "_law_same" = true) (k15 : PySem.W.keepIn K (.ref f15) = true)
    (a16 : PySem.W.nsIn K mainGlobals "_law_size" = some (some (.ref f16))) (l16 : K.lookup f16 = some ⟨oc16, od16, .func (PySem.W.fnOf "_law_size" "_law_size" (defArgs s_law_size) (defBody s_law_size) (defScope s_law_size) .none kV16 dc16 pm16 an16 cd16 ct16), sl16⟩) (c16 : PySem.W.codeIn K cd16 "_law_size" = true) (k16 : PySem.W.keepIn K (.ref f16) = true)
    (a17 : PySem.W.nsIn K mainGlobals "_law_word" = some (some (.ref f17))) (l17 : K.lookup f17 = some ⟨oc17, od17, .func (PySem.W.fnOf "_law_word" "_law_word" (defArgs s_law_word) (defBody s_law_word) (defScope s_law_word) .none kV17 dc17 pm17 an17 cd17 ct17), sl17⟩) (c17 : PySem.W.codeIn K cd17 "_law_word" = true) (k17 : PySem.W.keepIn K (.ref f17) = true)
    (a18 : PySem.W.nsIn K mainGlobals "_law_send" = some (some (.ref f18))) (l18 : K.lookup f18 = some ⟨oc18, od18, .func (PySem.W.fnOf "_law_send" "_law_send" (defArgs s_law_send) (defBody s_law_send) (defScope s_law_send) .none kV18 dc18 pm18 an18 cd18 ct18), sl18⟩) (c18 : PySem.W.codeIn K cd18 "_law_send" = true) (k18 : PySem.W.keepIn K (.ref f18) = true)
    (a19 : PySem.W.nsIn K mainGlobals "_law_rekey" = some (some (.ref f19))) (l19 : K.lookup f19 = some ⟨oc19, od19, .func (PySem.W.fnOf "_law_rekey" "_law_rekey" (defArgs s_law_rekey) (defBody s_law_rekey) (defScope s_law_rekey) .none kV19 dc19 pm19 an19 cd19 ct19), sl19⟩) (c19 : PySem.W.codeIn K cd19 "_law_rekey" = true) (k19 : PySem.W.keepIn K (.ref f19) = true)
    (a20 : PySem.W.nsIn K mainGlobals "_law_deliver" = some (some (.ref f20))) (l20 : K.lookup f20 = some ⟨oc20, od20, .func (PySem.W.fnOf "_law_deliver" "_law_deliver" (defArgs s_law_deliver) (defBody s_law_deliver) (defScope s_law_deliver) .none kV20 dc20 pm20 an20 cd20 ct20), sl20⟩) (c20 : PySem.W.codeIn K cd20 "_law_deliver" = true) (k20 : PySem.W.keepIn K (.ref f20) = true)
    (a21 : PySem.W.nsIn K mainGlobals "_law_no_names" = some (some (.ref f21))) (l21 : K.lookup f21 = some ⟨oc21, od21, .func (PySem.W.fnOf "_law_no_names" "_law_no_names" (defArgs s_law_no_names) (defBody s_law_no_names) (defScope s_law_no_names) .none kV21 dc21 pm21 an21 cd21 ct21), sl21⟩) (c21 : PySem.W.codeIn K cd21 "_law_no_names" = true) (k21 : PySem.W.keepIn K (.ref f21) = true)
    (a22 : PySem.W.nsIn K mainGlobals "_law_unknown" = some (some (.ref f22))) (l22 : K.lookup f22 = some ⟨oc22, od22, .func (PySem.W.fnOf "_law_unknown" "_law_unknown" (defArgs s_law_unknown) (defBody s_law_unknown) (defScope s_law_unknown) .none kV22 dc22 pm22 an22 cd22 ct22), sl22⟩) (c22 : PySem.W.codeIn K cd22 "_law_unknown" = true) (k22 : PySem.W.keepIn K (.ref f22) = true)
    (a23 : PySem.W.nsIn K mainGlobals "_law_refuses" = some (some (.ref f23))) (l23 : K.lookup f23 = some ⟨oc23, od23, .func (PySem.W.fnOf "_law_refuses" "_law_refuses" (defArgs s_law_refuses) (defBody s_law_refuses) (defScope s_law_refuses) .none kV23 dc23 pm23 an23 cd23 ct23), sl23⟩) (c23 : PySem.W.codeIn K cd23 "_law_refuses" = true) (k23 : PySem.W.keepIn K (.ref f23) = true)
    (a24 : PySem.W.nsIn K mainGlobals "_law_refusals" = some (some (.ref f24))) (l24 : K.lookup f24 = some ⟨oc24, od24, .func (PySem.W.fnOf "_law_refusals" "_law_refusals" (defArgs s_law_refusals) (defBody s_law_refusals) (defScope s_law_refusals) .none kV24 dc24 pm24 an24 cd24 ct24), sl24⟩) (c24 : PySem.W.codeIn K cd24 "_law_refusals" = true) (k24 : PySem.W.keepIn K (.ref f24) = true)
    (a25 : PySem.W.nsIn K mainGlobals "_law_makes" = some (some (.ref f25))) (l25 : K.lookup f25 = some ⟨oc25, od25, .func (PySem.W.fnOf "_law_makes" "_law_makes" (defArgs s_law_makes) (defBody s_law_makes) (defScope s_law_makes) .none kV25 dc25 pm25 an25 cd25 ct25), sl25⟩) (c25 : PySem.W.codeIn K cd25 "_law_makes" = true) (k25 : PySem.W.keepIn K (.ref f25) = true)
    (a26 : PySem.W.nsIn K mainGlobals "_law_makings" = some (some (.ref f26))) (l26 : K.lookup f26 = some ⟨oc26, od26, .func (PySem.W.fnOf "_law_makings" "_law_makings" (defArgs s_law_makings) (defBody s_law_makings) (defScope s_law_makings) .none kV26 dc26 pm26 an26 cd26 ct26), sl26⟩) (c26 : PySem.W.codeIn K cd26 "_law_makings" = true) (k26 : PySem.W.keepIn K (.ref f26) = true)
    (a27 : PySem.W.nsIn K mainGlobals "_law_deed" = some (some (.ref f27))) (l27 : K.lookup f27 = some ⟨oc27, od27, .func (PySem.W.fnOf "_law_deed" "_law_deed" (defArgs s_law_deed) (defBody s_law_deed) (defScope s_law_deed) .none kV27 dc27 pm27 an27 cd27 ct27), sl27⟩) (c27 : PySem.W.codeIn K cd27 "_law_deed" = true) (k27 : PySem.W.keepIn K (.ref f27) = true)
    (a28 : PySem.W.nsIn K mainGlobals "law" = some (some (.ref f28))) (l28 : K.lookup f28 = some ⟨oc28, od28, .func (PySem.W.fnOf "law" "law" (defArgs slaw) (defBody slaw) (defScope slaw) .none kV28 dc28 pm28 an28 cd28 ct28), sl28⟩) (c28 : PySem.W.codeIn K cd28 "law" = true) (k28 : PySem.W.keepIn K (.ref f28) = true)
    {X_MuffError : Addr} (aX_MuffError : PySem.W.nsIn K mainGlobals "MuffError" = some (some (.ref X_MuffError))) (xX_MuffError : PySem.W.excIn K X_MuffError [.type "ValueError", .type "Exception", .type "BaseException", .type "object"] "ValueError.__new__" = true) (kX_MuffError : PySem.W.keepIn K (.ref X_MuffError) = true) (bX_MuffError : PySem.W.subIn K (.ref X_MuffError) (.type "BaseException") = some true) (tX_MuffError : PySem.W.typeIn K (.ref X_MuffError) = some (.type "type")) (hdX_MuffError : PySem.W.hasDictIn K X_MuffError = true)
    {X_UnknownName : Addr} (aX_UnknownName : PySem.W.nsIn K mainGlobals "UnknownName" = some (some (.ref X_UnknownName))) (xX_UnknownName : PySem.W.excIn K X_UnknownName [.type "ValueError", .type "Exception", .type "BaseException", .type "object"] "ValueError.__new__" = true) (kX_UnknownName : PySem.W.keepIn K (.ref X_UnknownName) = true) (bX_UnknownName : PySem.W.subIn K (.ref X_UnknownName) (.type "BaseException") = some true) (tX_UnknownName : PySem.W.typeIn K (.ref X_UnknownName) = some (.type "type")) (hdX_UnknownName : PySem.W.hasDictIn K X_UnknownName = true)
    {X_BadTunnel : Addr} (aX_BadTunnel : PySem.W.nsIn K mainGlobals "BadTunnel" = some (some (.ref X_BadTunnel))) (xX_BadTunnel : PySem.W.excIn K X_BadTunnel [.type "ValueError", .type "Exception", .type "BaseException", .type "object"] "ValueError.__new__" = true) (kX_BadTunnel : PySem.W.keepIn K (.ref X_BadTunnel) = true) (bX_BadTunnel : PySem.W.subIn K (.ref X_BadTunnel) (.type "BaseException") = some true) (tX_BadTunnel : PySem.W.typeIn K (.ref X_BadTunnel) = some (.type "type")) (hdX_BadTunnel : PySem.W.hasDictIn K X_BadTunnel = true)
    (sX_UnknownName_UnknownName : PySem.W.subIn K (.ref X_UnknownName) (.ref X_UnknownName) = some true)
    (sX_BadTunnel_BadTunnel : PySem.W.subIn K (.ref X_BadTunnel) (.ref X_BadTunnel) = some true)
    (sX_UnknownName_MuffError : PySem.W.subIn K (.ref X_UnknownName) (.ref X_MuffError) = some true)
    (sX_UnknownName_ValueError : PySem.W.subIn K (.ref X_UnknownName) (.type "ValueError") = some true)
    (sX_UnknownName_BadTunnel : PySem.W.subIn K (.ref X_UnknownName) (.ref X_BadTunnel) = some false)
    (sX_BadTunnel_MuffError : PySem.W.subIn K (.ref X_BadTunnel) (.ref X_MuffError) = some true)
    (sX_BadTunnel_ValueError : PySem.W.subIn K (.ref X_BadTunnel) (.type "ValueError") = some true)
    (sX_BadTunnel_UnknownName : PySem.W.subIn K (.ref X_BadTunnel) (.ref X_UnknownName) = some false)
    (gaX_BadTunnel : PySem.W.findIn K (.ref X_BadTunnel) "__getattribute__" = some (some (.builtin "BaseException.__getattribute__"))) (gkX_BadTunnel : PySem.W.findIn K (.ref X_BadTunnel) "__getattr__" = some none) (hcX_BadTunnel : PySem.W.findIn K (.ref X_BadTunnel) "__class__" = some (some (.builtin "object.__class__"))) (hmX_BadTunnel : PySem.W.mroIn K X_BadTunnel (.type "object") = some true)
    (gaX_UnknownName : PySem.W.findIn K (.ref X_UnknownName) "__getattribute__" = some (some (.builtin "BaseException.__getattribute__"))) (gkX_UnknownName : PySem.W.findIn K (.ref X_UnknownName) "__getattr__" = some none) (hcX_UnknownName : PySem.W.findIn K (.ref X_UnknownName) "__class__" = some (some (.builtin "object.__class__"))) (hmX_UnknownName : PySem.W.mroIn K X_UnknownName (.type "object") = some true)
    (hnX : PySem.W.specialIn K (.builtin "object.__class__") "__get__" = some (some (.builtin "getset_descriptor.__get__"))) (htX : PySem.W.takesIn K (.builtin "object.__class__") = some true)
    {tk_LONGEST_NAME : Tok} (cc_LONGEST_NAME : PySem.W.nsIn K mainGlobals "LONGEST_NAME" = some (some (.int 8 tk_LONGEST_NAME)))
    {tk_WIDEST_WINDOW : Tok} (cc_WIDEST_WINDOW : PySem.W.nsIn K mainGlobals "WIDEST_WINDOW" = some (some (.int 64 tk_WIDEST_WINDOW)))
    {tk_LAST_EPOCH : Tok} (cc_LAST_EPOCH : PySem.W.nsIn K mainGlobals "LAST_EPOCH" = some (some (.int 12 tk_LAST_EPOCH)))
    (z_ValueError : PySem.W.nsIn K mainGlobals "ValueError" = some none)
    (z_abs : PySem.W.nsIn K mainGlobals "abs" = some none)
    (z_all : PySem.W.nsIn K mainGlobals "all" = some none)
    (z_bool : PySem.W.nsIn K mainGlobals "bool" = some none)
    (z_int : PySem.W.nsIn K mainGlobals "int" = some none)
    (z_isinstance : PySem.W.nsIn K mainGlobals "isinstance" = some none)
    (z_len : PySem.W.nsIn K mainGlobals "len" = some none)
    (z_max : PySem.W.nsIn K mainGlobals "max" = some none)
    (z_property : PySem.W.nsIn K mainGlobals "property" = some none)
    (z_range : PySem.W.nsIn K mainGlobals "range" = some none)
    (z_sorted : PySem.W.nsIn K mainGlobals "sorted" = some none)
    (z_str : PySem.W.nsIn K mainGlobals "str" = some none)
    (z_tuple : PySem.W.nsIn K mainGlobals "tuple" = some none)
    : ∃ fd : FuncData, (∀ (s : Shared) (v : Value), BindsTo s fd ⟨[v], []⟩ [("script", v)]) ∧ ∀ base : Heap, K.In base → base.Ns mainGlobals mg → FnOk l.prog w K mg base CX0 7 fa fd ["script"] (spLaw K) := by
  have e := hfa.symm.trans (PySem.W.mg_of X G a28)
  cases e
  let T : Top K mg := {
    C_Tunnel := C0, g_Tunnel := PySem.W.mg_of X G aC0, cl_Tunnel := ⟨pg0, hd0, po0, sa0⟩, mk_Tunnel := ⟨mk0, a2, i2, kc0⟩,
    n_Tunnel_window := n0_0,
    n_Tunnel_first := n0_1,
    n_Tunnel_second := n0_2,
    n_Tunnel__letters := n0_3,
    n_Tunnel__epoch := n0_4,
    n_Tunnel__sent := n0_5,
    n_Tunnel__newest := n0_6,
    n_Tunnel__counts := n0_7,
    n_Tunnel__tops := n0_8,
    n_Tunnel__received := n0_9,
    fis_name := f0, dis_name := _, Fis_name := fun_mk (st := sis_name) l0 c0 k0, gis_name := PySem.W.mg_of X G a0, bis_name := (fun_mk (st := sis_name) l0 c0 k0).binds (ps := ["value"]) fun _ _ _ _ _ _ us hl => match us, hl with | [_], _ => rfl,
    f_is_word := f1, d_is_word := _, F_is_word := fun_mk (st := s_is_word) l1 c1 k1, g_is_word := PySem.W.mg_of X G a1, b_is_word := (fun_mk (st := s_is_word) l1 c1 k1).binds (ps := ["value", "least", "greatest"]) fun _ _ _ _ _ _ us hl => match us, hl with | [_, _, _], _ => rfl,
    fTunnel___init__ := f2, dTunnel___init__ := _, FTunnel___init__ := fun_mk (st := sTunnel___init__) l2 c2 k2, mTunnel___init__ := ⟨a2, i2, k2⟩, bTunnel___init__ := (fun_mk (st := sTunnel___init__) l2 c2 k2).binds (ps := ["self", "window", "first", "second"]) fun _ _ _ _ _ _ us hl => match us, hl with | [_, _, _, _], _ => rfl,
    fTunnel_received := f3, dTunnel_received := _, FTunnel_received := fun_mk (st := sTunnel_received) l3 c3 k3, p_Tunnel_received := pp3, pr_Tunnel_received := ⟨pa3, pc3, pd3, pe3, pb3⟩, bTunnel_received := (fun_mk (st := sTunnel_received) l3 c3 k3).binds (ps := ["self"]) fun _ _ _ _ _ _ us hl => match us, hl with | [_], _ => rfl,
    fTunnel_send := f4, dTunnel_send := _, FTunnel_send := fun_mk (st := sTunnel_send) l4 c4 k4, mTunnel_send := ⟨a4, i4, k4⟩, bTunnel_send := (fun_mk (st := sTunnel_send) l4 c4 k4).binds (ps := ["self", "payload"]) fun _ _ _ _ _ _ us hl => match us, hl with | [_, _], _ => rfl,
    fTunnel_rekey := f5, dTunnel_rekey := _, FTunnel_rekey := fun_mk (st := sTunnel_rekey) l5 c5 k5, mTunnel_rekey := ⟨a5, i5, k5⟩, bTunnel_rekey := (fun_mk (st := sTunnel_rekey) l5 c5 k5).binds (ps := ["self"]) fun _ _ _ _ _ _ us hl => match us, hl with | [_], _ => rfl,
    fTunnel_deliver := f6, dTunnel_deliver := _, FTunnel_deliver := fun_mk (st := sTunnel_deliver) l6 c6 k6, mTunnel_deliver := ⟨a6, i6, k6⟩, bTunnel_deliver := (fun_mk (st := sTunnel_deliver) l6 c6 k6).binds (ps := ["self", "number"]) fun _ _ _ _ _ _ us hl => match us, hl with | [_, _], _ => rfl,
    fTunnel__renew := f7, dTunnel__renew := _, FTunnel__renew := fun_mk (st := sTunnel__renew) l7 c7 k7, mTunnel__renew := ⟨a7, i7, k7⟩, bTunnel__renew := (fun_mk (st := sTunnel__renew) l7 c7 k7).binds (ps := ["self", "epoch"]) fun _ _ _ _ _ _ us hl => match us, hl with | [_, _], _ => rfl,
    fTunnel__judged := f8, dTunnel__judged := _, FTunnel__judged := fun_mk (st := sTunnel__judged) l8 c8 k8, mTunnel__judged := ⟨a8, i8, k8⟩, bTunnel__judged := (fun_mk (st := sTunnel__judged) l8 c8 k8).binds (ps := ["self", "back", "number", "count"]) fun _ _ _ _ _ _ us hl => match us, hl with | [_, _, _, _], _ => rfl,
    fTunnel_letter := f9, dTunnel_letter := _, FTunnel_letter := fun_mk (st := sTunnel_letter) l9 c9 k9, mTunnel_letter := ⟨a9, i9, k9⟩, bTunnel_letter := (fun_mk (st := sTunnel_letter) l9 c9 k9).binds (ps := ["self", "number"]) fun _ _ _ _ _ _ us hl => match us, hl with | [_, _], _ => rfl,
    fTunnel_sealed := f10, dTunnel_sealed := _, FTunnel_sealed := fun_mk (st := sTunnel_sealed) l10 c10 k10, mTunnel_sealed := ⟨a10, i10, k10⟩, bTunnel_sealed := (fun_mk (st := sTunnel_sealed) l10 c10 k10).binds (ps := ["self", "number"]) fun _ _ _ _ _ _ us hl => match us, hl with | [_, _], _ => rfl,
    f_law_pile := f11, d_law_pile := _, F_law_pile := fun_mk (st := s_law_pile) l11 c11 k11, g_law_pile := PySem.W.mg_of X G a11, b_law_pile := (fun_mk (st := s_law_pile) l11 c11 k11).binds (ps := ["script"]) fun _ _ _ _ _ _ us hl => match us, hl with | [_], _ => rfl,
    f_law_draw := f12, d_law_draw := _, F_law_draw := fun_mk (st := s_law_draw) l12 c12 k12, g_law_draw := PySem.W.mg_of X G a12, b_law_draw := (fun_mk (st := s_law_draw) l12 c12 k12).binds (ps := ["pile", "many"]) fun _ _ _ _ _ _ us hl => match us, hl with | [_, _], _ => rfl,
    f_law_names := f13, d_law_names := _, F_law_names := fun_mk (st := s_law_names) l13 c13 k13, g_law_names := PySem.W.mg_of X G a13, b_law_names := (fun_mk (st := s_law_names) l13 c13 k13).binds (ps := ["pile", "many"]) fun _ _ _ _ _ _ us hl => match us, hl with | [_, _], _ => rfl,
    f_law_whole := f14, d_law_whole := _, F_law_whole := fun_mk (st := s_law_whole) l14 c14 k14, g_law_whole := PySem.W.mg_of X G a14, b_law_whole := (fun_mk (st := s_law_whole) l14 c14 k14).binds (ps := ["actual"]) fun _ _ _ _ _ _ us hl => match us, hl with | [_], _ => rfl,
    f_law_same := f15, d_law_same := _, F_law_same := fun_mk (st := s_law_same) l15 c15 k15, g_law_same := PySem.W.mg_of X G a15, b_law_same := (fun_mk (st := s_law_same) l15 c15 k15).binds (ps := ["actual", "expected"]) fun _ _ _ _ _ _ us hl => match us, hl with | [_, _], _ => rfl,
    f_law_size := f16, d_law_size := _, F_law_size := fun_mk (st := s_law_size) l16 c16 k16, g_law_size := PySem.W.mg_of X G a16, b_law_size := (fun_mk (st := s_law_size) l16 c16 k16).binds (ps := ["pile"]) fun _ _ _ _ _ _ us hl => match us, hl with | [_], _ => rfl,
    f_law_word := f17, d_law_word := _, F_law_word := fun_mk (st := s_law_word) l17 c17 k17, g_law_word := PySem.W.mg_of X G a17, b_law_word := (fun_mk (st := s_law_word) l17 c17 k17).binds (ps := ["size", "state", "epoch", "count"]) fun _ _ _ _ _ _ us hl => match us, hl with | [_, _, _, _], _ => rfl,
    f_law_send := f18, d_law_send := _, F_law_send := fun_mk (st := s_law_send) l18 c18 k18, g_law_send := PySem.W.mg_of X G a18, b_law_send := (fun_mk (st := s_law_send) l18 c18 k18).binds (ps := ["tunnels", "sender", "letters", "payload"]) fun _ _ _ _ _ _ us hl => match us, hl with | [_, _, _, _], _ => rfl,
    f_law_rekey := f19, d_law_rekey := _, F_law_rekey := fun_mk (st := s_law_rekey) l19 c19 k19, g_law_rekey := PySem.W.mg_of X G a19, b_law_rekey := (fun_mk (st := s_law_rekey) l19 c19 k19).binds (ps := ["tunnels", "sender"]) fun _ _ _ _ _ _ us hl => match us, hl with | [_, _], _ => rfl,
    f_law_deliver := f20, d_law_deliver := _, F_law_deliver := fun_mk (st := s_law_deliver) l20 c20 k20, g_law_deliver := PySem.W.mg_of X G a20, b_law_deliver := (fun_mk (st := s_law_deliver) l20 c20 k20).binds (ps := ["tunnel", "size", "state", "letters", "number"]) fun _ _ _ _ _ _ us hl => match us, hl with | [_, _, _, _, _], _ => rfl,
    f_law_no_names := f21, d_law_no_names := _, F_law_no_names := fun_mk (st := s_law_no_names) l21 c21 k21, g_law_no_names := PySem.W.mg_of X G a21, b_law_no_names := (fun_mk (st := s_law_no_names) l21 c21 k21).binds (ps := ["names"]) fun _ _ _ _ _ _ us hl => match us, hl with | [_], _ => rfl,
    f_law_unknown := f22, d_law_unknown := _, F_law_unknown := fun_mk (st := s_law_unknown) l22 c22 k22, g_law_unknown := PySem.W.mg_of X G a22, b_law_unknown := (fun_mk (st := s_law_unknown) l22 c22 k22).binds (ps := ["tunnel", "number", "kind"]) fun _ _ _ _ _ _ us hl => match us, hl with | [_, _, _], _ => rfl,
    f_law_refuses := f23, d_law_refuses := _, F_law_refuses := fun_mk (st := s_law_refuses) l23 c23 k23, g_law_refuses := PySem.W.mg_of X G a23, b_law_refuses := (fun_mk (st := s_law_refuses) l23 c23 k23).binds (ps := ["tunnel", "payload"]) fun _ _ _ _ _ _ us hl => match us, hl with | [_, _], _ => rfl,
    f_law_refusals := f24, d_law_refusals := _, F_law_refusals := fun_mk (st := s_law_refusals) l24 c24 k24, g_law_refusals := PySem.W.mg_of X G a24, b_law_refusals := (fun_mk (st := s_law_refusals) l24 c24 k24).binds (ps := ["pile", "tunnel", "state", "letters", "names"]) fun _ _ _ _ _ _ us hl => match us, hl with | [_, _, _, _, _], _ => rfl,
    f_law_makes := f25, d_law_makes := _, F_law_makes := fun_mk (st := s_law_makes) l25 c25 k25, g_law_makes := PySem.W.mg_of X G a25, b_law_makes := (fun_mk (st := s_law_makes) l25 c25 k25).binds (ps := ["size", "one", "two"]) fun _ _ _ _ _ _ us hl => match us, hl with | [_, _, _], _ => rfl,
    f_law_makings := f26, d_law_makings := _, F_law_makings := fun_mk (st := s_law_makings) l26 c26 k26, g_law_makings := PySem.W.mg_of X G a26, b_law_makings := (fun_mk (st := s_law_makings) l26 c26 k26).binds (ps := ["pile", "names", "size"]) fun _ _ _ _ _ _ us hl => match us, hl with | [_, _, _], _ => rfl,
    f_law_deed := f27, d_law_deed := _, F_law_deed := fun_mk (st := s_law_deed) l27 c27 k27, g_law_deed := PySem.W.mg_of X G a27, b_law_deed := (fun_mk (st := s_law_deed) l27 c27 k27).binds (ps := ["pile", "tunnels", "sizes", "states", "sender", "letters", "names"]) fun _ _ _ _ _ _ us hl => match us, hl with | [_, _, _, _, _, _, _], _ => rfl,
    flaw := fa, dlaw := _, Flaw := fun_mk (st := slaw) l28 c28 k28, glaw := PySem.W.mg_of X G a28, blaw := (fun_mk (st := slaw) l28 c28 k28).binds (ps := ["script"]) fun _ _ _ _ _ _ us hl => match us, hl with | [_], _ => rfl,
    X_MuffError := X_MuffError, gX_MuffError := PySem.W.mg_of X G aX_MuffError, xX_MuffError := xX_MuffError, kX_MuffError := kX_MuffError, bX_MuffError := bX_MuffError, tX_MuffError := tX_MuffError,
    X_UnknownName := X_UnknownName, gX_UnknownName := PySem.W.mg_of X G aX_UnknownName, xX_UnknownName := xX_UnknownName, kX_UnknownName := kX_UnknownName, bX_UnknownName := bX_UnknownName, tX_UnknownName := tX_UnknownName,
    X_BadTunnel := X_BadTunnel, gX_BadTunnel := PySem.W.mg_of X G aX_BadTunnel, xX_BadTunnel := xX_BadTunnel, kX_BadTunnel := kX_BadTunnel, bX_BadTunnel := bX_BadTunnel, tX_BadTunnel := tX_BadTunnel,
    eX_UnknownName_UnknownName := PySem.W.exm_ref bX_UnknownName hdX_UnknownName tX_UnknownName sX_UnknownName_UnknownName,
    eX_BadTunnel_BadTunnel := PySem.W.exm_ref bX_BadTunnel hdX_BadTunnel tX_BadTunnel sX_BadTunnel_BadTunnel,
    jX_UnknownName_MuffError := kit_ref hdX_MuffError tX_MuffError sX_UnknownName_MuffError sX_UnknownName_UnknownName,
    jX_UnknownName_ValueError := kit_type (by decide +kernel) sX_UnknownName_ValueError,
    jX_UnknownName_BadTunnel := kit_ref hdX_BadTunnel tX_BadTunnel sX_UnknownName_BadTunnel sX_UnknownName_UnknownName,
    jX_BadTunnel_MuffError := kit_ref hdX_MuffError tX_MuffError sX_BadTunnel_MuffError sX_BadTunnel_BadTunnel,
    jX_BadTunnel_ValueError := kit_type (by decide +kernel) sX_BadTunnel_ValueError,
    jX_BadTunnel_UnknownName := kit_ref hdX_UnknownName tX_UnknownName sX_BadTunnel_UnknownName sX_BadTunnel_BadTunnel,
    cX_BadTunnel := ⟨gaX_BadTunnel, gkX_BadTunnel, bX_BadTunnel, hdX_BadTunnel, hcX_BadTunnel, hnX, htX, hmX_BadTunnel⟩,
    cX_UnknownName := ⟨gaX_UnknownName, gkX_UnknownName, bX_UnknownName, hdX_UnknownName, hcX_UnknownName, hnX, htX, hmX_UnknownName⟩,
    qTunnel_letter_number := fun s u ws hl => match ws, hl with | [w0], _ => .of_eq rfl,
    qTunnel_deliver_number := fun s u ws hl => match ws, hl with | [w0], _ => .of_eq rfl,
    u_Tunnel_second_first_window := ⟨fun s us ws _ l1 l2 => match us, ws, l1, l2 with | [_], [w0, w1, w2], _, _ => .of_eq rfl, fun r1 r2 => vals_app r1 (kwPerm_any r2 _)⟩,
    t_LONGEST_NAME := tk_LONGEST_NAME, c_LONGEST_NAME := PySem.W.mg_of X G cc_LONGEST_NAME,
    t_WIDEST_WINDOW := tk_WIDEST_WINDOW, c_WIDEST_WINDOW := PySem.W.mg_of X G cc_WIDEST_WINDOW,
    t_LAST_EPOCH := tk_LAST_EPOCH, c_LAST_EPOCH := PySem.W.mg_of X G cc_LAST_EPOCH,
    z_ValueError := PySem.W.mg_none_of X G z_ValueError, z_abs := PySem.W.mg_none_of X G z_abs, z_all := PySem.W.mg_none_of X G z_all, z_bool := PySem.W.mg_none_of X G z_bool, z_int := PySem.W.mg_none_of X G z_int, z_isinstance := PySem.W.mg_none_of X G z_isinstance, z_len := PySem.W.mg_none_of X G z_len, z_max := PySem.W.mg_none_of X G z_max, z_property := PySem.W.mg_none_of X G z_property, z_range := PySem.W.mg_none_of X G z_range, z_sorted := PySem.W.mg_none_of X G z_sorted, z_str := PySem.W.mg_none_of X G z_str, z_tuple := PySem.W.mg_none_of X G z_tuple }
  exact ⟨PySem.W.fnOf "law" "law" (defArgs slaw) (defBody slaw) (defScope slaw) .none kV28 dc28 pm28 an28 cd28 ct28, fun s v => .of_eq rfl, fun base _ _ => oklaw T⟩
end Mu
open PySem PySem.W PyProof.Rows
set_option maxHeartbeats 0 in
theorem PySem.Challenge.cw_muffline_k72_tunnel_deliveries_holds : PySem.Challenge.rw_muffline_k72_tunnel_deliveries.Holds := by
  w_on; o_law; k_head; (case hw => w_witness2)
  k_fill
  refine L2.walk_of (l := PySem.Challenge.rw_muffline_k72_tunnel_deliveries) (n := 63) (k := 7) (x := "script") (CX := fun _ => L2.CX0) (sp := fun w => Mu.spLaw _) rfl (by decide) rfl ⟨rfl, by decide, by decide⟩ (fun w h Y => PySem.W.kIn_of Y) ?F (fun _ _ a ns hl _ hS => ⟨a, ns, rfl, hS, hl, fun _ => rfl⟩) (fun _ _ _ _ _ h => h)
  case F =>
    intro w mg fa h KX G hmg
    refine' Mu.all_mk  KX G hmg ?aC0 ?pg0 ?hd0 ?po0 ?sa0 ?mk0 ?kc0 ?n0_0 ?n0_1 ?n0_2 ?n0_3 ?n0_4 ?n0_5 ?n0_6 ?n0_7 ?n0_8 ?n0_9 ?a0 ?l0 ?c0 ?k0 ?a1 ?l1 ?c1 ?k1 ?a2 ?i2 ?l2 ?c2 ?k2 ?pa3 ?pb3 ?l3 ?c3 ?k3 ?pc3 ?pd3 ?a4 ?i4 ?l4 ?c4 ?k4 ?a5 ?i5 ?l5 ?c5 ?k5 ?a6 ?i6 ?l6 ?c6 ?k6 ?a7 ?i7 ?l7 ?c7 ?k7 ?a8 ?i8 ?l8 ?c8 ?k8 ?a9 ?i9 ?l9 ?c9 ?k9 ?a10 ?i10 ?l10 ?c10 ?k10 ?a11 ?l11 ?c11 ?k11 ?a12 ?l12 ?c12 ?k12 ?a13 ?l13 ?c13 ?k13 ?a14 ?l14 ?c14 ?k14 ?a15 ?l15 ?c15 ?k15 ?a16 ?l16 ?c16 ?k16 ?a17 ?l17 ?c17 ?k17 ?a18 ?l18 ?c18 ?k18 ?a19 ?l19 ?c19 ?k19 ?a20 ?l20 ?c20 ?k20 ?a21 ?l21 ?c21 ?k21 ?a22 ?l22 ?c22 ?k22 ?a23 ?l23 ?c23 ?k23 ?a24 ?l24 ?c24 ?k24 ?a25 ?l25 ?c25 ?k25 ?a26 ?l26 ?c26 ?k26 ?a27 ?l27 ?c27 ?k27 ?a28 ?l28 ?c28 ?k28 ?aX_MuffError ?xX_MuffError ?kX_MuffError ?bX_MuffError ?tX_MuffError ?hdX_MuffError ?aX_UnknownName ?xX_UnknownName ?kX_UnknownName ?bX_UnknownName ?tX_UnknownName ?hdX_UnknownName ?aX_BadTunnel ?xX_BadTunnel ?kX_BadTunnel ?bX_BadTunnel ?tX_BadTunnel ?hdX_BadTunnel ?sX_UnknownName_UnknownName ?sX_BadTunnel_BadTunnel ?sX_UnknownName_MuffError ?sX_UnknownName_ValueError ?sX_UnknownName_BadTunnel ?sX_BadTunnel_MuffError ?sX_BadTunnel_ValueError ?sX_BadTunnel_UnknownName ?gaX_BadTunnel ?gkX_BadTunnel ?hcX_BadTunnel ?hmX_BadTunnel ?gaX_UnknownName ?gkX_UnknownName ?hcX_UnknownName ?hmX_UnknownName ?hnX ?htX ?cc_LONGEST_NAME ?cc_WIDEST_WINDOW ?cc_LAST_EPOCH ?z_ValueError ?z_abs ?z_all ?z_bool ?z_int ?z_isinstance ?z_len ?z_max ?z_property ?z_range ?z_sorted ?z_str ?z_tuple
    (case aC0 => k_is); (case pg0 => k_is); (case hd0 => k_is); (case po0 => k_is); (case sa0 => k_is); (case mk0 => k_is); (case kc0 => k_is); (case n0_0 => k_is); (case n0_1 => k_is); (case n0_2 => k_is); (case n0_3 => k_is); (case n0_4 => k_is); (case n0_5 => k_is); (case n0_6 => k_is); (case n0_7 => k_is); (case n0_8 => k_is); (case n0_9 => k_is); (case a0 => k_is); (case l0 => k_is); (case c0 => k_is); (case k0 => k_is); (case a1 => k_is); (case l1 => k_is); (case c1 => k_is); (case k1 => k_is); (case a2 => k_is); (case i2 => k_is); (case l2 => k_is); (case c2 => k_is); (case k2 => k_is); (case pa3 => k_is); (case pb3 => k_is); (case l3 => k_is); (case c3 => k_is); (case k3 => k_is); (case pc3 => k_is); (case pd3 => k_is); (case a4 => k_is); (case i4 => k_is); (case l4 => k_is); (case c4 => k_is); (case k4 => k_is); (case a5 => k_is); (case i5 => k_is); (case l5 => k_is); (case c5 => k_is); (case k5 => k_is); (case a6 => k_is); (case i6 => k_is); (case l6 => k_is); (case c6 => k_is); (case k6 => k_is); (case a7 => k_is); (case i7 => k_is); (case l7 => k_is); (case c7 => k_is); (case k7 => k_is); (case a8 => k_is); (case i8 => k_is); (case l8 => k_is); (case c8 => k_is); (case k8 => k_is); (case a9 => k_is); (case i9 => k_is); (case l9 => k_is); (case c9 => k_is); (case k9 => k_is); (case a10 => k_is); (case i10 => k_is); (case l10 => k_is); (case c10 => k_is); (case k10 => k_is); (case a11 => k_is); (case l11 => k_is); (case c11 => k_is); (case k11 => k_is); (case a12 => k_is); (case l12 => k_is); (case c12 => k_is); (case k12 => k_is); (case a13 => k_is); (case l13 => k_is); (case c13 => k_is); (case k13 => k_is); (case a14 => k_is); (case l14 => k_is); (case c14 => k_is); (case k14 => k_is); (case a15 => k_is); (case l15 => k_is); (case c15 => k_is); (case k15 => k_is); (case a16 => k_is); (case l16 => k_is); (case c16 => k_is); (case k16 => k_is); (case a17 => k_is); (case l17 => k_is); (case c17 => k_is); (case k17 => k_is); (case a18 => k_is); (case l18 => k_is); (case c18 => k_is); (case k18 => k_is); (case a19 => k_is); (case l19 => k_is); (case c19 => k_is); (case k19 => k_is); (case a20 => k_is); (case l20 => k_is); (case c20 => k_is); (case k20 => k_is); (case a21 => k_is); (case l21 => k_is); (case c21 => k_is); (case k21 => k_is); (case a22 => k_is); (case l22 => k_is); (case c22 => k_is); (case k22 => k_is); (case a23 => k_is); (case l23 => k_is); (case c23 => k_is); (case k23 => k_is); (case a24 => k_is); (case l24 => k_is); (case c24 => k_is); (case k24 => k_is); (case a25 => k_is); (case l25 => k_is); (case c25 => k_is); (case k25 => k_is); (case a26 => k_is); (case l26 => k_is); (case c26 => k_is); (case k26 => k_is); (case a27 => k_is); (case l27 => k_is); (case c27 => k_is); (case k27 => k_is); (case a28 => k_is); (case l28 => k_is); (case c28 => k_is); (case k28 => k_is); (case aX_MuffError => k_is); (case xX_MuffError => k_exc); (case kX_MuffError => k_is); (case bX_MuffError => k_is); (case tX_MuffError => k_is); (case hdX_MuffError => k_is); (case aX_UnknownName => k_is); (case xX_UnknownName => k_exc); (case kX_UnknownName => k_is); (case bX_UnknownName => k_is); (case tX_UnknownName => k_is); (case hdX_UnknownName => k_is); (case aX_BadTunnel => k_is); (case xX_BadTunnel => k_exc); (case kX_BadTunnel => k_is); (case bX_BadTunnel => k_is); (case tX_BadTunnel => k_is); (case hdX_BadTunnel => k_is); (case sX_UnknownName_UnknownName => first | rfl | k_is); (case sX_BadTunnel_BadTunnel => first | rfl | k_is); (case sX_UnknownName_MuffError => first | rfl | k_is); (case sX_UnknownName_ValueError => first | rfl | k_is); (case sX_UnknownName_BadTunnel => first | rfl | k_is); (case sX_BadTunnel_MuffError => first | rfl | k_is); (case sX_BadTunnel_ValueError => first | rfl | k_is); (case sX_BadTunnel_UnknownName => first | rfl | k_is); (case gaX_BadTunnel => k_is); (case gkX_BadTunnel => k_is); (case hcX_BadTunnel => k_is); (case hmX_BadTunnel => k_is); (case gaX_UnknownName => k_is); (case gkX_UnknownName => k_is); (case hcX_UnknownName => k_is); (case hmX_UnknownName => k_is); (case hnX => k_is); (case htX => k_is); (case cc_LONGEST_NAME => k_is); (case cc_WIDEST_WINDOW => k_is); (case cc_LAST_EPOCH => k_is); (case z_ValueError => k_is); (case z_abs => k_is); (case z_all => k_is); (case z_bool => k_is); (case z_int => k_is); (case z_isinstance => k_is); (case z_len => k_is); (case z_max => k_is); (case z_property => k_is); (case z_range => k_is); (case z_sorted => k_is); (case z_str => k_is); (case z_tuple => k_is)
