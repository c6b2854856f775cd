import PyProof.Rows.All
import Wide.All
import OpenK.AllK
import Wide.FinOn
import HandS.ForMost
import HandS.More
import HandS.Rev
import HandS.IsInst
import HandS.TupAny
import HandS.RaiseMore
import HandS.SetKeys
import HandS.SortKw
import HandS.Style
import HandS.StrMore
import KE.KRevSl
import HandS.Walk
import HandS.Conv
import HandS.TupLe
import HandS.Iter
import KE.GoesMore
import PyProof.Draws
import PySem.Challenge.RW_muffline_k74_keys_and_sealed
import HandS.HeadEnd
import HandS.HeadHook2
import HandS.HeadHook3
import HandS.SortKw
import HandS.Wide
import HandS.Base
import HandS.Head2
import HandS.Dict
import HandS.DictTup
import HandS.Words
import HandS.More
import HandS.Property
import HandS.Star
import KE.GoesEnumKw
set_option Elab.async false
set_option linter.all false
set_option maxRecDepth 100000
set_option maxHeartbeats 0
/-! ### a module's top told by the calculus: pieces that the kernel runs, and one that it can't -/
namespace TopX
open PySem PySem.W PySem.Calls PyProof.Rows
section
variable {α β : Type} {M : Model} {Γ : Ctx}
theorem wp_wrapI {K : α → Sem β} {H : Value → Sem β} {Q : β → Pos → Shared → Prop} {E : Value → Pos → Shared → Prop} (x : Sem α) : ∀ (p : Pos) (s : Shared), Sem.wp M Γ (x.wrap K H id id) Q E p s ↔ Sem.wp M Γ x (fun a p' s' => Sem.wp M Γ (K a) Q E p' s') (fun e p' s' => Sem.wp M Γ (H e) Q E p' s') p s := by
  induction x with
  | pure a => intro p s; simp only [Sem.wrap, Sem.wp]
  | raise e => intro p s; simp only [Sem.wrap, Sem.wp]
  | _ => intro p s; simp only [Sem.wrap, Sem.wp, id, *]
end
/-- a flow that goes on -/
def nx : Flow → Sem Fin
  | .next => .pure (.done .next)
  | _ => .unsupported ""
def piece (x : Sem Flow) (c : Code) (p q : Pos) : Thread := ⟨x.wrap nx deadEnd id id, c, p, [topFrame q]⟩
section
variable {prog : Program} {w : World}
/-- the run of the real machine, alone, to the end -/
theorem run_of_top {n₀ : Nat} {ann : Option Value} : ∀ (n : Nat) (s : Shared) (t : Thread) (s₁ : Shared), topRun table prog w n₀ ann n s t = some s₁ → leftWithCleanup s₁.gens = false →
    ∃ m f, PySem.runN (denote table) prog w m s t = .halted (.done f) s₁ ∧ ∀ k s₂ t₂, PySem.runN (denote table) prog w k s t = .running s₂ t₂ → t₂.calm = true
  | 0, _, _, _, h, _ => by simp [topRun] at h
  | n + 1, s, t, s₁, h, hg => by
    unfold topRun at h
    cases thr : through t with
    | true =>
      rw [thr] at h
      have same := Option.some.inj h
      subst same
      obtain ⟨cur, code, pos, st⟩ := t
      unfold through at thr
      obtain ⟨h1, h2⟩ := Bool.and_eq_true_iff.mp thr
      obtain rfl : st = [] := List.isEmpty_iff.mp h1
      cases cur with
      | pure fin =>
        cases fin with
        | done f =>
          have e : step (denote table) prog w s ⟨.pure (.done f), code, pos, []⟩ = .halt (.done f) s := by
            obtain ⟨heap, gens, drawn, toks, os⟩ := s
            simp only [step, finish]
            rw [if_neg (by rw [show leftWithCleanup gens = false from hg]; decide)]
          refine ⟨1, f, by simp only [PySem.runN, e], fun k s₂ t₂ okt => ?_⟩
          cases k with
          | zero => cases okt; rfl
          | succ k => simp only [PySem.runN, e] at okt; cases okt
        | again c => cases h2
      | _ => cases h2
    | false =>
      rw [thr] at h
      cases okt : stepOk n₀ ann t with
      | false => rw [okt] at h; cases h
      | true =>
        rw [okt] at h
        cases stp : step (denote table) prog w s t with
        | halt o s' => rw [stp] at h; cases h
        | go s' t' =>
          rw [stp] at h
          obtain ⟨m, f, hm, hc⟩ := run_of_top n s' t' s₁ h hg
          refine ⟨m + 1, f, by simp only [PySem.runN, stp]; exact hm, fun k s₂ t₂ hk' => ?_⟩
          cases k with
          | zero => cases hk'; exact (Bool.and_eq_true_iff.mp okt).1
          | succ k => simp only [PySem.runN, stp] at hk'; exact hc k s₂ t₂ hk'
/-- what the kernel ran, told by the calculus -/
theorem piece_wp {n₀ : Nat} {ann : Option Value} {n : Nat} {s s₁ : Shared} {x : Sem Flow} {c : Code} {p q : Pos} (h : topRun table prog w n₀ ann n s (piece x c p q) = some s₁) (hg : s₁.gens = #[]) :
    Sem.wp (model prog w) (Ctx.of c [topFrame q]) x (fun f _ s' => f = .next ∧ s' = s₁) (fun _ _ _ => False) p s := by
  have hl : leftWithCleanup s₁.gens = false := by rw [hg]; simp [leftWithCleanup]
  obtain ⟨m, f, hm, hc⟩ := run_of_top n s _ s₁ h hl
  obtain ⟨m', σ, h1, h2⟩ := (halts_real_iff (M := model prog w) (r := .ok f) s₁.forget).mp ⟨m, s₁, hm, rfl, hc⟩
  obtain ⟨R, hL⟩ := halts_iff.mp ⟨m', h1⟩
  obtain rfl : σ = s₁ := Shared.eq_of_forget_eq h2 hg
  have key : ∃ r₁ s₂, Runs (model prog w) (Ctx.of c [topFrame q]) p (x.wrap nx deadEnd id id) [] s (.ret r₁) s₂ ∧ Runs (model prog w) ((⟨c, none, none, [], none⟩ : Ctx).goto (.builtin "claim.caller" {})) q (topAfter r₁) [] s₂ (.ret (.ok f)) σ := by
    have R' : Runs (model prog w) ⟨c, none, none, [], none⟩ p (x.wrap nx deadEnd id id) [topFrame q] s (.ret (.ok f)) σ := R
    generalize x.wrap nx deadEnd id id = t at R' ⊢
    cases R' with
    | segRet a b => exact ⟨_, _, a, b⟩
    | segSuspGen stp => exact absurd stp (by simp [splitAtGen])
  obtain ⟨r₁, s₂, a, b⟩ := key
  obtain ⟨g, rfl⟩ : ∃ g, r₁ = .ok g := by
    cases r₁ with
    | ok g => exact ⟨g, rfl⟩
    | error e => cases b
  have e2 : s₂ = σ := by
    have b' : Runs (model prog w) ((⟨c, none, none, [], none⟩ : Ctx).goto (.builtin "claim.caller" {})) q (.pure (.done (.ret .none))) [] s₂ (.ret (.ok f)) σ := b
    cases b'
    rfl
  subst e2
  have W := (Sem.wp_iff_runs (model prog w) (Ctx.of c [topFrame q]) (x.wrap nx deadEnd id id) (fun r s' => r = .ok g ∧ s' = s₂) p s).mpr ⟨_, _, a, rfl, rfl⟩
  refine Sem.wp_mono _ _ x (fun a' p' s' h' => ?_) (fun e p' s' h' => ?_) p s ((wp_wrapI x p s).mp W)
  · cases a' with
    | next =>
      have h3 : ((Except.ok Flow.next : Result) = .ok g ∧ s' = s₂) := by simpa only [nx, Sem.wp, Sem.finPost] using h'
      exact ⟨rfl, h3.2⟩
    | _ => simp only [nx, Sem.wp] at h'
  · simp only [deadEnd, Sem.wp] at h'
/-- from a thread the run comes to the end of the top, in the state r -/
def Reached (prog : Program) (w : World) (s : Shared) (t : Thread) (r : Shared) : Prop := ∃ m t₁, schedN (denote table) prog w m (.single s t) = .running (.single r t₁) ∧ through t₁ = true
theorem step_done {den : Code → Sem Fin} {s r : Shared} {t : Thread} {f : Flow} (h : step den prog w s t = .halt (.done f) r) : s = r ∧ through t = true := by
  obtain ⟨heap, gens, drawn, toks, os⟩ := s
  obtain ⟨cur, code, pos, st⟩ := t
  cases cur with
  | pure fin =>
    cases fin with
    | done g =>
      cases st with
      | nil =>
        simp only [step, finish] at h
        split at h
        · cases h
        · cases h; exact ⟨rfl, rfl⟩
      | cons F st => cases F <;> (simp only [step] at h; cases h)
    | again c => cases st with
      | nil => cases code <;> cases c <;> (simp only [step] at h; cases h)
      | cons F st => cases F with
        | ret k hd g l c' q kept => rw [PySem.W.step_again] at h; cases h
        | gen n k l c' q => rw [PySem.W.step_again_gen] at h; cases h
  | _ =>
    simp only [step, finish] at h
    (repeat' split at h) <;> cases h
theorem run_last {den : Code → Sem Fin} {f : Flow} {r : Shared} : ∀ (n : Nat) (s : Shared) (t : Thread), PySem.runN den prog w n s t = .halted (.done f) r → ∃ m t₁, PySem.runN den prog w m s t = .running r t₁ ∧ through t₁ = true
  | 0, _, _, h => by cases h
  | n + 1, s, t, h => by
    simp only [PySem.runN] at h
    cases stp : step den prog w s t with
    | halt o s' =>
      rw [stp] at h
      cases h
      obtain ⟨rfl, thr⟩ := step_done stp
      exact ⟨0, t, rfl, thr⟩
    | go s' t' =>
      rw [stp] at h
      obtain ⟨m, t₁, hm, thr⟩ := run_last n s' t' h
      exact ⟨m + 1, t₁, by simp only [PySem.runN, stp]; exact hm, thr⟩
theorem reached_of_runs {s r : Shared} {t : Sem Fin} {c : Code} {p q : Pos} (h : Runs (model prog w) (Ctx.of c [topFrame q]) p t [] s (.ret (.ok .next)) r) (hg : r.gens = #[]) (hr : s.asleep) : Reached prog w s ⟨t, c, p, [topFrame q]⟩ r := by
  have hl : leftWithCleanup r.gens = false := by rw [hg]; simp [leftWithCleanup]
  have b : Runs (model prog w) ((⟨c, none, none, [], none⟩ : Ctx).goto (.builtin "claim.caller" {})) q (topAfter (.ok .next)) [] r (.ret (.ok (.ret .none))) r := .done
  have R : Runs (model prog w) ⟨c, none, none, [], none⟩ p t [topFrame q] s (.ret (.ok (.ret .none))) r := .segRet h b
  obtain ⟨n, hn⟩ := halts_iff.mpr ⟨R, hl⟩
  obtain ⟨s'', h1, h2, hc⟩ := runNI_real (denote table) prog w hn (outcomeOf_ends (.ok (.ret .none)))
  obtain rfl : s'' = r := Shared.eq_of_forget_eq h2 hg
  have hne : ∀ k s₂, PySem.runN (denote table) prog w k s ⟨t, c, p, [topFrame q]⟩ ≠ .halted (.unsupported "lifetime:generator-with-cleanup-left-suspended") s₂ := fun k s₂ okt => by
    have a1 := runN_mono (denote table) prog w n k s _ _ _ h1
    have b1 := runN_mono (denote table) prog w k n s _ _ _ okt
    rw [Nat.add_comm, b1] at a1
    cases a1
  obtain ⟨m, t₁, hm, thr⟩ := run_last n s _ h1
  exact ⟨m, t₁, (schedN_eq_runN (denote table) prog w s _ hr ⟨hc, hne⟩ m).trans (congrArg Run.lift hm), thr⟩
/-- steps that the kernel took ahead -/
theorem Reached.go {n₀ : Nat} {ann : Option Value} {r : Shared} : ∀ {n : Nat} {s s' : Shared} {t t' : Thread}, topGo table prog w n₀ ann n s t = some (s', t') → s.asleep → Reached prog w s' t' r → Reached prog w s t r ∧ s'.asleep
  | 0, s, s', t, t', h, hr, k => by
    obtain ⟨es, et⟩ : s = s' ∧ t = t' := by simpa [topGo] using h
    subst es et
    exact ⟨k, hr⟩
  | n + 1, s, s', t, t', h, hr, k => by
    unfold topGo at h
    cases thr : through t with
    | true => rw [thr] at h; cases h
    | false =>
      rw [thr] at h
      cases okt : stepOk n₀ ann t with
      | false => rw [okt] at h; cases h
      | true =>
        rw [okt] at h
        cases stp : step (denote table) prog w s t with
        | halt o s₂ => rw [stp] at h; cases h
        | go s₂ t₂ =>
          rw [stp] at h
          obtain ⟨hc, _⟩ := Bool.and_eq_true_iff.mp okt
          have hl := step_life (denote table) prog w s s₂ t t₂ stp
          obtain ⟨⟨m, t₁, hm, ht₁⟩, hz⟩ := Reached.go h (Shared.asleep_of_life hl hr) k
          have e : sstep (denote table) prog w (.single s t) = .go (.single s₂ t₂) := by
            rcases sstep_single (denote table) prog w s t hc hr with e | e
            · rw [e, stp]; rfl
            · rw [stp] at e; cases e
          exact ⟨⟨m + 1, t₁, by simp only [schedN, e]; exact hm, ht₁⟩, hz⟩
end
end TopX
/-! ### from what stands behind the top to the law -/
namespace TopX
open PySem PySem.W PySem.Calls PyProof.Rows
/-- what is asked of the state behind the top -/
def Behind (r : OpenRow) (q : Program) (loose : List Str) (YP : World → Heap → Prop) (w : World) : Prop :=
  (∃ s, AfterRun (opening r.prog) w s) ∧ ∀ s, AfterRun (opening r.prog) w s → ∃ s₀, fenceModules? r.prog s = some s₀ ∧ s₀.gens = #[] ∧
    ∃ s₁, TopRan r.prog w s₀ s₁ ∧ s₁.asleep ∧ s₁.gens = #[] ∧ s₁.heap.isNs mainGlobals = true ∧
      Ground q loose [] (XL q []) w s₁ (s₁.heap.nsMap mainGlobals) (s₁.heap.nsMap builtinsNs) s₁.heap ∧ RecFacts r.toRowW.records s₁.heap ∧ YP w s₁.heap
theorem holds_behind {r : OpenRow} {q : Program} {loose : List Str} {YP : World → Heap → Prop} {d : DefRec} {kwd : List (Str × Expr)}
    (bh : ∀ w, Behind r q loose YP w) (keep : ∀ w h h', YP w h → (∀ b o, h.get? b = some o → h'.get? b = some o) → YP w h')
    (hdef : defOf q r.name = some (d, kwd)) (hp : r.prog.theDef r.name = some (d.params, d.body, d.scope))
    (hk : kwWritten? d.params.kwonlyargs d.params.kw_defaults = some kwd) (hwr : (!r.writes || r.records.isEmpty) = true) (well : r.wellSaid = true)
    (open1 : opensWell r.prog = true) (open2 : (frees r.toRowW && r.within.isEmpty) = true) (hb : r.prog.bare) (hw : r.toRowW.promised)
    (call : WalkO q loose (XL q []) YP r.toRowW d kwd fun f vs => PySem.call f vs) : r.Holds := by
  obtain ⟨fr, wi⟩ := Bool.and_eq_true_iff.mp open2
  have wi' : r.toRowW.claim.within = [] := List.isEmpty_iff.mp wi
  obtain ⟨same, hu, ha, hap, mk⟩ := frees_parts fr
  have idn := ident_freeW hu ha hap
  have claim : ∀ w, Behind r q loose YP w := bh
  refine ⟨well, hw, ⟨hb, open1, ?_⟩, hw.witness, fun w => ⟨(claim w).1, fun s' hs' => ?_⟩⟩
  · show r.toRowW.makers.map _ = []
    rw [mk]
    rfl
  obtain ⟨s₀, hf, g0, s, top, zz, gg, ns, G0, RF, Y⟩ := (claim w).2 s' hs'
  refine ⟨s₀, hf, g0, s, top, fun n hn => ?_, RF.1, RF.2.1, ?_⟩
  · have en : n = r.name := by split at hn <;> simp_all
    rw [en]
    exact pinned_of_view ns G0 hdef hp hk
  have G := RF.ground G0
  refine ClaimW.callFrom_of_specG (c := r.toRowW.claim) zz gg fun args pre lay ord hord => ?_
  have lays := layAllW_isSome (P := w.params) (ord := ord) G.has args r.toRowW.args s (pre_splitW pre).1
  obtain ⟨⟨vs, s₁⟩, laid⟩ := Option.isSome_iff_exists.mp lays
  have kp := layAllW_keeps _ _ _ laid
  have rest := layAllW_rest _ _ _ laid
  obtain ⟨as, rd, inn, old⟩ := reads_layAllW hord _ _ _ laid lay s₁.heap fun _ _ e => e
  have L : Laid r.toRowW.records w s s₁ args vs as := ⟨⟨ord, hord, laid⟩, rd, inn, old, kp, rest.1.trans gg, rest.2.2.1⟩
  have G₁ := G.keeps XL.keeps kp
  obtain ⟨a, o, pm, cd, doc, dV, kV, f1, f2, f3, f4, f5⟩ := G₁.fn hdef
  have run := call w s s₁ _ _ G₁ (keep _ _ _ Y kp) a o pm cd doc dV kV f2 f3 f4 f5 (defOf_name hdef ▸ f1) L.gens args vs as pre lay L.reads L.well (L.low G.low)
  have fin : ∀ {R : Result} {s2 : Shared}, GoodWG r.toRowW.claim (classAt s.heap) (ExcName.means s.heap) args s₁ R s2 → _ := fun g => g.laid (c := r.toRowW.claim) same wi' idn L
  refine ⟨vs, s₁, laid, wpAny_bind (wpAny_nsGet G₁.T.g ?_)⟩
  rw [f1]
  refine wpAny_bind (wpAny_mono run (fun v s2 g => wpAny_pure ?_) fun e s2 g => ?_)
  · have z := fin g
    exact ⟨_, rfl, z.1, z.2.1, z.2.2, fun _ => ⟨namesKept_of top ns _ kp g.2.1.old, noTable hwr ‹_›⟩⟩
  · have z := fin g
    exact ⟨z.1, z.2.1, z.2.2, fun _ => ⟨namesKept_of top ns _ kp g.2.1.old, noTable hwr ‹_›⟩⟩
end TopX
/-! ### what stands behind the top, from its runs -/
namespace TopX
open PySem PySem.W PySem.Calls PyProof.Rows
/-- the looks at the state behind the top -/
noncomputable def looksB (r : OpenRow) (w : World) (s : Shared) : Bool := staticsOk (importedModules r.prog.main.body) (boot_heap w.params) s.heap && namesBound r.prog s.heap && gensDone s && laidKept (boot_heap w.params) s.heap
def seesAll (r : OpenRow) (q : Program) (loose : List Str) (w : World) (s : Shared) : Prop :=
  looksB r w s = true ∧ openSeen q loose (importedModules r.prog.main.body) (fun s => xlAt q [] s && recOk r.toRowW.records s) true s = openGood q loose
/-- what a run leaves as it was -/
structure Left (s s' : Shared) : Prop where
  life : s'.heap.life = s.heap.life
  os : s'.os = s.os
  fr : ∀ b o, b < s.heap.objs.size → b ≠ mainNs → b ≠ cStatics → s.heap.nsMap mainGlobals "__annotations__" ≠ some (.ref b) → s.heap.get? b = some o → s'.heap.get? b = some o
theorem behind_of {r : OpenRow} {q : Program} {loose : List Str} {YP : World → Heap → Prop} {w : World} (e : opening r.prog = plainProg r.prog.main.scope.names) (f : ∀ s, fenceModules? r.prog s = some s) (hch : chainsOk q = true)
    (top : ∀ os, ∃ s₁, Reached r.prog w ⟨boot_heap w.params, #[], boot_drawn, boot_toks, os⟩ (topStub r.prog) s₁ ∧ Left ⟨boot_heap w.params, #[], boot_drawn, boot_toks, os⟩ s₁ ∧ s₁.gens = #[] ∧ seesAll r q loose w s₁ ∧ YP w s₁.heap) : Behind r q loose YP w := by
  obtain ⟨⟨hp, gs, dr, tk, os⟩, h1, b⟩ := Option.map_eq_some_iff.mp (boot_open (N := 600) e rfl f w)
  obtain ⟨b1, b2, b3, b4⟩ : hp = boot_heap w.params ∧ gs = Array.mk [] ∧ dr = boot_drawn ∧ tk = boot_toks := by simpa using b
  subst b1 b2 b3 b4
  rw [← table_eq_tree] at h1
  obtain ⟨s, i1, i2⟩ := Option.bind_eq_some_iff.mp h1
  have A := AfterImport.of_importEnds i1
  refine ⟨⟨s, A⟩, fun u hu => ?_⟩
  have es : u = s := AfterImport.unique hu A
  subst es
  have z := Shared.asleep_of_life (fence_lifeW i2) A.life
  obtain ⟨s₁, ⟨m, t, hm, thr⟩, L, hg, ⟨lk, sn⟩, Y⟩ := top os
  have hX : ∀ s : Shared, (xlAt q [] s && recOk r.toRowW.records s) = true → XL q [] (s.heap.nsMap mainGlobals) s.heap ∧ RecFacts r.toRowW.records s.heap := fun s stp => ⟨xl_of s (Bool.and_eq_true_iff.mp stp).1, recFacts_of (Bool.and_eq_true_iff.mp stp).2⟩
  have gr := ground_of_open (XP := fun mg h => XL q [] mg h ∧ RecFacts r.toRowW.records h) (w := w) hX hch sn
  obtain ⟨G, _, n1, n2, n3, n4, n5⟩ := gr
  unfold looksB at lk
  obtain ⟨lk, k4⟩ := Bool.and_eq_true_iff.mp lk
  obtain ⟨lk, k3⟩ := Bool.and_eq_true_iff.mp lk
  obtain ⟨k1, k2⟩ := Bool.and_eq_true_iff.mp lk
  have ns0 : (boot_heap w.params).isNs mainGlobals = true := by
    unfold laidKept at k4
    exact (Bool.and_eq_true_iff.mp (Bool.and_eq_true_iff.mp k4).1).1
  have ran : TopRan r.prog w ⟨boot_heap w.params, #[], boot_drawn, boot_toks, os⟩ s₁ := by
    refine ⟨⟨m, t, hm, thr⟩, L.life, Shared.rest_eq L.os, fun b o ho own => ?_, n2, statics_of_ok k1, n3, n4, n5, gens_of_done k3, names_of_bound k2, laid_of_kept k4⟩
    have main : b ≠ mainNs := fun q => own (.inl q)
    have stat : b ≠ cStatics := fun q => own (.inr (.inl q))
    exact L.fr b o (Heap.lt_size ho) main stat (fun q => own (.inr (.inr ((Pin.globalOf_eq ns0 _).trans q)))) ho
  exact ⟨_, i2, rfl, s₁, ran, Shared.asleep_of_life L.life z, hg, n1, ⟨G.T, G.B, G.D, G.TE, G.TD, G.W, G.X.1, G.cls, G.has, G.apart, G.once, G.K⟩, G.X.2, Y⟩
/-- the real machine's rows say what a run leaves -/
theorem left_of_top {prog : Program} {w : World} {n : Nat} {s s₁ : Shared} {t : Thread} {n₀ : Nat} {ann : Option Value} (h : topRun table prog w n₀ ann n s t = some s₁) (hz : s.asleep) :
    s₁.heap.life = s.heap.life ∧ s₁.os = s.os ∧ ∀ b o, b < n₀ → b ≠ mainNs → b ≠ cStatics → ann ≠ some (.ref b) → s.heap.get? b = some o → s₁.heap.get? b = some o := (topRun_spec n s t s₁ hz h).2
end TopX
namespace TopX
open PySem PySem.W PySem.Calls PyProof.Rows
theorem go_left {prog : Program} {w : World} {n₀ : Nat} {ann : Option Value} : ∀ {n : Nat} {s s' : Shared} {t t' : Thread}, topGo table prog w n₀ ann n s t = some (s', t') →
    s'.heap.life = s.heap.life ∧ s'.os = s.os ∧ ∀ b o, b < n₀ → b ≠ mainNs → b ≠ cStatics → ann ≠ some (.ref b) → s.heap.get? b = some o → s'.heap.get? b = some o
  | 0, s, s', t, t', h => by
    obtain ⟨es, et⟩ : s = s' ∧ t = t' := by simpa [topGo] using h
    subst es et
    exact ⟨rfl, rfl, fun _ _ _ _ _ _ e => e⟩
  | n + 1, s, s', t, t', h => by
    unfold topGo at h
    cases thr : through t with
    | true => rw [thr] at h; cases h
    | false =>
      rw [thr] at h
      cases okt : stepOk n₀ ann t with
      | false => rw [okt] at h; cases h
      | true =>
        rw [okt] at h
        cases stp : step (denote table) prog w s t with
        | halt o s₂ => rw [stp] at h; cases h
        | go s₂ t₂ =>
          rw [stp] at h
          obtain ⟨l, os, fr⟩ := go_left h
          have ok := (Bool.and_eq_true_iff.mp okt).2
          have hos := step_os_same stp (by revert ok; cases t.cur <;> simp)
          refine ⟨l.trans (step_life (denote table) prog w s s₂ t t₂ stp), os.trans hos, fun b o lt m c a g => fr b o lt m c a ?_⟩
          rw [step_heap (denote table) prog w s s₂ t t₂ stp]
          revert ok
          cases t.cur with
          | update a' x f k =>
            intro ok
            have ne : b ≠ a' := fun z => by
              subst z
              simp only [Bool.or_eq_true, Nat.ble_eq, beq_iff_eq] at ok
              rcases ok with ((z | z) | z) | z
              · exact absurd lt (Nat.not_lt.mpr z)
              · exact m z
              · exact c z
              · exact a z
            exact (Heap.get?_update_ne _ _ _ _ ne).trans g
          | alloc x k => intro _; exact Heap.get?_push_of_some x g
          | _ => intro _; exact g
/-- a change that keeps the elder objects -/
structure Keeps (n₀ : Nat) (ann : Option Value) (s s' : Shared) : Prop where
  life : s'.heap.life = s.heap.life
  os : s'.os = s.os
  fr : ∀ b o, b < n₀ → b ≠ mainNs → b ≠ cStatics → ann ≠ some (.ref b) → s.heap.get? b = some o → s'.heap.get? b = some o
theorem Keeps.trans {n₀ : Nat} {ann : Option Value} {s s' s2 : Shared} (a : Keeps n₀ ann s s') (b : Keeps n₀ ann s' s2) : Keeps n₀ ann s s2 := ⟨b.life.trans a.life, b.os.trans a.os, fun x o h1 h2 h3 h4 h5 => b.fr x o h1 h2 h3 h4 (a.fr x o h1 h2 h3 h4 h5)⟩
end TopX
/-! ### a long display of a dict whose keys are tuples of texts -/
namespace TopX
open PySem PySem.W PySem.Calls PyProof.Rows
section
variable {prog : Program} {w : World} {K : Type} [DecidableEq K] {knd : HeapKind prog w K} {A : Around} {E : Value → Shared → Prop} {s : Shared} {d a : Addr} {k : K} {v : Value} {xs : List (K × Addr × Value)}
/-- a new key put at the end -/
def put1 (knd : HeapKind prog w K) (d : Addr) (h : Heap) (x : K × Addr × Value) : Heap := h.update d (Obj.mapDictKeys (·.push (entryOfKey knd x)))
theorem put1_at (hkey : knd.is s.heap k a) (hm : s.heap.DictOfH knd d xs) (nk : k ∉ xs.map (·.1)) : (put1 knd d s.heap (k, a, v)).DictOfH knd d (xs ++ [(k, a, v)]) := by
  obtain ⟨o, es, ep, ho, ex, hd, he, his, one⟩ := hm
  have sb : Heap.SameBut d s.heap (put1 knd d s.heap (k, a, v)) := Heap.SameBut.update ..
  refine ⟨_, _, ep + 1, Heap.get?_update_self _ ho (Obj.isFreed_of_dict (Obj.data_mapDictKeys hd _)), ex.mapDictKeys _, Obj.data_mapDictKeys hd _, ?_, ?_, ?_⟩
  · rw [List.map_append, ← he]
    simp
  · intro x hx
    rcases List.mem_append.mp hx with hx | hx
    · exact knd.keeps (his x hx) ho hd sb
    · rw [List.mem_singleton.mp hx]
      exact knd.keeps hkey ho hd sb
  · rw [List.map_append, List.nodup_append]
    refine ⟨one, by simp, fun x hx y hy e => nk ?_⟩
    have ey : y = k := List.mem_singleton.mp hy
    rw [← ey, ← e]
    exact hx
theorem no_key (nk : k ∉ xs.map (·.1)) {j : Nat} {p : Addr × Value} (h : xs[j]? = some (k, p)) : False := nk (List.mem_map.mpr ⟨_, List.mem_of_getElem? h, rfl⟩)
theorem wp_put (hu : knd.room A) (hkey : knd.is s.heap k a) (hm : s.heap.DictOfH knd d xs) (nk : k ∉ xs.map (·.1)) (hs : xs.length ≤ sizeLine) {Q : Unit → Shared → Prop}
    (h : Q () { s with heap := put1 knd d s.heap (k, a, v) }) : wpAny (model prog w) A (dictPut d (knd.hash k) (.ref a) v) Q E s := by
  obtain ⟨o, es, ep, ho, ex, hd, he, his, one⟩ := hm
  unfold dictPut
  refine wpAny_bind (wpAny_dictFind_heap hu hkey ho hd he his one (fun _ => ?_) fun j p hj => (no_key nk hj).elim)
  exact wpAny_updateDictKeys (hz := by rw [size_of_entries he]; exact hs) ho hd h
theorem wp_set (hu : knd.room A) (hkey : knd.is s.heap k a) (hm : s.heap.DictOfH knd d xs) (nk : k ∉ xs.map (·.1)) (hs : xs.length ≤ sizeLine) {Q : Unit → Shared → Prop}
    (h : Q () { s with heap := put1 knd d s.heap (k, a, v), toks := s.toks + knd.draws k }) : wpAny (model prog w) A (dictSet d (.ref a) v) Q E s := by
  obtain ⟨o, es, ep, ho, ex, hd, he, his, one⟩ := hm
  unfold dictSet
  refine wpAny_holding ?_
  refine wpAny_bind (knd.pyHash hu hkey ?_)
  unfold dictSetHashed
  refine wpAny_holding ?_
  refine wpAny_bind (wpAny_dictFind_heap (s := { s with toks := s.toks + knd.draws k }) hu hkey ho hd he his one (fun _ => ?_) fun j p hj => (no_key nk hj).elim)
  exact wpAny_bind (wpAny_rule (wpAny_updateDictKeys (s := { s with toks := s.toks + knd.draws k }) (hz := by rw [size_of_entries he]; exact hs) ho hd h))
end
abbrev KD (prog : Program) (w : World) : HeapKind prog w (List L2.Key) := tupleKind (L2.mixKind prog w)
/-- a row's key, a row's value -/
abbrev Row := List Str × List Str
def keyOf (r : Row) : List L2.Key := r.1.map .inr
def txs : List Str → Nat → List Value
  | [], _ => []
  | x :: r, t => .str x t :: txs r (t + 1)
def tupO (ss : List Str) (t : Nat) : Obj := { cls := .type "tuple", data := .seq (txs ss t).toArray }
def putT (s : Shared) (ss : List Str) : Shared := { s with heap := s.heap.push (tupO ss s.toks), toks := s.toks + ss.length }
section
variable {prog : Program} {w : World} {A : Around} {E : Value → Shared → Prop} {s : Shared} {d : Addr}
/-- what makes a tuple of texts -/
def Ev (prog : Program) (w : World) (x : Sem Value) (ss : List Str) : Prop := ∀ (A : Around) (E : Value → Shared → Prop) (s : Shared) (Q : Value → Shared → Prop), Q (.ref s.heap.objs.size) (putT s ss) → wpAny (model prog w) A x Q E s
theorem txs_items : ∀ (ss : List Str) (t : Nat), ItemsAre (L2.mixKind prog w) (ss.map Sum.inr) (txs ss t)
  | [], _ => .nil
  | x :: r, t => .cons (by show L2.keyIs (.inr x) (.str x t) = true; simp [L2.keyIs, Value.isStrOf]) (txs_items r (t + 1))
theorem tup_is {h : Heap} {b : Addr} {ss : List Str} {t : Nat} (e : h.get? b = some (tupO ss t)) : (KD prog w).is h (ss.map .inr) b := ⟨_, _, _, e, rfl, rfl, by rw [List.toList_toArray]; exact txs_items ss t⟩
/-- a row put into the dict d -/
def putRow (prog : Program) (w : World) (d : Addr) (s : Shared) (r : Row) : Shared :=
  let s1 := putT s r.1
  let s2 := putT s1 r.2
  { s2 with heap := put1 (KD prog w) d s2.heap (keyOf r, s.heap.objs.size, .ref s1.heap.objs.size), toks := s2.toks + (KD prog w).draws (keyOf r) }
theorem putT_get {ss : List Str} {b : Addr} {o : Obj} (e : s.heap.get? b = some o) : (putT s ss).heap.get? b = some o := Heap.get?_push_of_some _ e
theorem putT_new {ss : List Str} : (putT s ss).heap.get? s.heap.objs.size = some (tupO ss s.toks) := Heap.get?_push_size _ rfl
theorem dict_keep {h h' : Heap} {xs : List (List L2.Key × Addr × Value)} (m : h.DictOfH (KD prog w) d xs) (k : ∀ b o, h.get? b = some o → h'.get? b = some o) : h'.DictOfH (KD prog w) d xs := by
  obtain ⟨o, es, ep, ho, ex, hd, he, his, one⟩ := m
  refine ⟨o, es, ep, k _ _ ho, ex, hd, he, fun x hx => ?_, one⟩
  obtain ⟨o', items, n, e1, e2, e3, e4⟩ := his x hx
  exact ⟨o', items, n, k _ _ e1, e2, e3, e4⟩
/-- the entries of rows that were put from the state s on -/
def entsOf (prog : Program) (w : World) (d : Addr) : Shared → List Row → List (List L2.Key × Addr × Value)
  | _, [] => []
  | s, r :: rs => (keyOf r, s.heap.objs.size, .ref (putT s r.1).heap.objs.size) :: entsOf prog w d (putRow prog w d s r) rs
def putRows (prog : Program) (w : World) (d : Addr) : Shared → List Row → Shared
  | s, [] => s
  | s, r :: rs => putRows prog w d (putRow prog w d s r) rs
theorem entsOf_keys : ∀ (rs : List Row) (s : Shared), (entsOf prog w d s rs).map (·.1) = rs.map keyOf
  | [], _ => rfl
  | r :: rs, s => by
    show keyOf r :: (entsOf prog w d (putRow prog w d s r) rs).map (·.1) = keyOf r :: rs.map keyOf
    rw [entsOf_keys rs]
theorem putRow_dict {xs : List (List L2.Key × Addr × Value)} {r : Row} (hm : s.heap.DictOfH (KD prog w) d xs) (nk : keyOf r ∉ xs.map (·.1)) :
    (putRow prog w d s r).heap.DictOfH (KD prog w) d (xs ++ [(keyOf r, s.heap.objs.size, .ref (putT s r.1).heap.objs.size)]) := by
  have m2 : (putT (putT s r.1) r.2).heap.DictOfH (KD prog w) d xs := dict_keep hm fun b o e => putT_get (putT_get e)
  exact put1_at (s := putT (putT s r.1) r.2) (tup_is (putT_get (s := putT s r.1) putT_new)) m2 nk
/-- the rows of a long part of the display -/
theorem wp_rows (hu : A.units < cLine) : ∀ (ps : List (Sem Value × Sem Value)) (rs : List Row) (xs : List (List L2.Key × Addr × Value)) (s : Shared) (Q : PUnit → Shared → Prop), Paired (fun (p : Sem Value × Sem Value) (r : Row) => Ev prog w p.1 r.1 ∧ Ev prog w p.2 r.2) ps rs →
    s.heap.DictOfH (KD prog w) d xs → (xs.map (·.1) ++ rs.map keyOf).Nodup → xs.length + rs.length ≤ sizeLine → Q PUnit.unit (putRows prog w d s rs) →
    wpAny (model prog w) A (forIn ps PUnit.unit fun (x : Sem Value × Sem Value) (_ : PUnit) => (do let kv ← x.1; let vv ← holding [kv] x.2; holding [kv, vv] (dictSet d kv vv); pure (ForInStep.yield PUnit.unit) : Sem (ForInStep PUnit))) Q E s
  | _, _, _, s, Q, .nil, _, _, _, hq => by
    rw [List.forIn_nil]
    exact wpAny_pure hq
  | _, _, xs, s, Q, .cons (a := p) (b := r) (l₁ := ps) (l₂ := rs) h t, hm, nd, hl, hq => by
    rw [List.forIn_cons]
    have nk : keyOf r ∉ xs.map (·.1) := fun z => (List.nodup_append.mp nd).2.2 _ z _ (.head _) rfl
    have m2 : (putT (putT s r.1) r.2).heap.DictOfH (KD prog w) d xs := dict_keep hm fun b o e => putT_get (putT_get e)
    rw [List.length_cons] at hl
    refine wpAny_bind (wpAny_bind (h.1 _ _ _ _ (wpAny_bind (wpAny_holding (h.2 _ _ _ _ (wpAny_bind (wpAny_holding (wp_set (knd := KD prog w) hu (tup_is (putT_get (s := putT s r.1) putT_new)) m2 nk (by omega) (wpAny_pure ?_)))))))))
    refine wp_rows hu ps rs (xs ++ [(keyOf r, s.heap.objs.size, .ref (putT s r.1).heap.objs.size)]) (putRow prog w d s r) Q t (putRow_dict hm nk) ?_ (by rw [List.length_append]; exact (by show xs.length + 1 + rs.length ≤ sizeLine; omega)) hq
    rw [List.map_append, List.append_assoc]
    exact nd
end
end TopX
namespace TopX
open PySem PySem.W PySem.Calls PyProof.Rows
section
variable {prog : Program} {w : World} {A : Around} {E : Value → Shared → Prop} {s : Shared} {d : Addr}
def newD (s : Shared) : Shared := { s with heap := s.heap.push { cls := .type "dict", data := .dict #[] } }
abbrev Evs (prog : Program) (w : World) (ps : List (Sem Value × Sem Value)) (rs : List Row) : Prop := Paired (fun (p : Sem Value × Sem Value) (r : Row) => Ev prog w p.1 r.1 ∧ Ev prog w p.2 r.2) ps rs
theorem wp_long (hu : A.units < cLine) {ps : List (Sem Value × Sem Value)} {rs : List Row} (h : Evs prog w ps rs) (l : 15 < ps.length) (nd : (rs.map keyOf).Nodup) (hl : rs.length ≤ sizeLine) {Q : Addr → Shared → Prop}
    (hq : Q s.heap.objs.size (putRows prog w s.heap.objs.size (newD s) rs)) : wpAny (model prog w) A (subDict ps) Q E s := by
  unfold subDict
  refine wpAny_bind (wpAny_alloc ?_)
  refine wpAny_bind (wpAny_holding ?_)
  rw [if_neg (Nat.not_le.mpr l)]
  refine wpAny_bind (wpAny_rule ?_)
  refine wpAny_bind (wp_rows hu ps rs [] (newD s) _ h (Heap.DictOfH.new s.heap) (by simpa using nd) (by simpa using hl) ?_)
  exact wpAny_pure (wpAny_pure hq)
/-! the short part: the rows' tuples first, then the entries -/
def valsOf : Shared → List Row → List (Value × Value)
  | _, [] => []
  | s, r :: rs => (.ref s.heap.objs.size, .ref (putT s r.1).heap.objs.size) :: valsOf (putT (putT s r.1) r.2) rs
def entsV : Shared → List Row → List (List L2.Key × Addr × Value)
  | _, [] => []
  | s, r :: rs => (keyOf r, s.heap.objs.size, .ref (putT s r.1).heap.objs.size) :: entsV (putT (putT s r.1) r.2) rs
def putVals : Shared → List Row → Shared
  | s, [] => s
  | s, r :: rs => putVals (putT (putT s r.1) r.2) rs
theorem wp_vals : ∀ (ps : List (Sem Value × Sem Value)) (rs : List Row) (s : Shared) (Q : List (Value × Value) → Shared → Prop), Evs prog w ps rs → Q (valsOf s rs) (putVals s rs) → wpAny (model prog w) A (evalPairs ps) Q E s
  | _, _, s, Q, .nil, hq => evalPairs_nil hq
  | _, _, s, Q, .cons (a := p) (b := r) (l₁ := ps) (l₂ := rs) h t, hq => evalPairs_cons (h.1 _ _ _ _ (h.2 _ _ _ _ (wp_vals ps rs _ _ t hq)))
theorem putVals_get : ∀ (rs : List Row) {s : Shared} {b : Addr} {o : Obj}, s.heap.get? b = some o → (putVals s rs).heap.get? b = some o
  | [], _, _, _, e => e
  | _ :: rs, _, _, _, e => putVals_get rs (putT_get (putT_get e))
theorem entsV_is : ∀ (rs : List Row) (s : Shared), ∀ x ∈ entsV s rs, (KD prog w).is (putVals s rs).heap x.1 x.2.1
  | [], _, _, h => nomatch h
  | r :: rs, s, x, h => by
    rcases List.mem_cons.mp h with rfl | h
    · exact tup_is (putVals_get rs (putT_get (s := putT s r.1) putT_new))
    · exact entsV_is rs (putT (putT s r.1) r.2) x h
theorem entsV_keys : ∀ (rs : List Row) (s : Shared), (entsV s rs).map (·.1) = rs.map keyOf
  | [], _ => rfl
  | r :: rs, s => by
    show keyOf r :: (entsV (putT (putT s r.1) r.2) rs).map (·.1) = keyOf r :: rs.map keyOf
    rw [entsV_keys rs]
theorem entsV_vals : ∀ (rs : List Row) (s : Shared), (entsV s rs).map (fun x => (Value.ref x.2.1, x.2.2)) = valsOf s rs
  | [], _ => rfl
  | r :: rs, s => by
    show _ :: (entsV (putT (putT s r.1) r.2) rs).map (fun x => (Value.ref x.2.1, x.2.2)) = _ :: valsOf (putT (putT s r.1) r.2) rs
    rw [entsV_vals rs]
def setEnts (prog : Program) (w : World) (d : Addr) (s : Shared) (ys : List (List L2.Key × Addr × Value)) : Shared := ys.foldl (fun s x => { s with heap := put1 (KD prog w) d s.heap x, toks := s.toks + (KD prog w).draws x.1 }) s
theorem is_put {s : Shared} {xs : List (List L2.Key × Addr × Value)} {x : List L2.Key × Addr × Value} {k : List L2.Key} {a : Addr} (hm : s.heap.DictOfH (KD prog w) d xs) (h : (KD prog w).is s.heap k a) : (KD prog w).is (put1 (KD prog w) d s.heap x) k a := by
  obtain ⟨o, es, ep, ho, _, hd, _⟩ := hm
  exact (KD prog w).keeps h ho hd (Heap.SameBut.update ..)
theorem wp_sets (hu : A.units < cLine) : ∀ (ys xs : List (List L2.Key × Addr × Value)) (s : Shared) (Q : PUnit → Shared → Prop), (∀ y ∈ ys, (KD prog w).is s.heap y.1 y.2.1) → s.heap.DictOfH (KD prog w) d xs → (xs.map (·.1) ++ ys.map (·.1)).Nodup → xs.length + ys.length ≤ sizeLine →
    Q PUnit.unit (setEnts prog w d s ys) → wpAny (model prog w) A (forIn (ys.map fun x => (Value.ref x.2.1, x.2.2)) PUnit.unit fun (x : Value × Value) (_ : PUnit) => (do dictSet d x.1 x.2; pure (ForInStep.yield PUnit.unit) : Sem (ForInStep PUnit))) Q E s
  | [], _, s, Q, _, _, _, _, hq => by
    rw [List.map_nil, List.forIn_nil]
    exact wpAny_pure hq
  | y :: ys, xs, s, Q, hy, hm, nd, hl, hq => by
    rw [List.map_cons, List.forIn_cons]
    obtain ⟨k, a, v⟩ := y
    have nk : k ∉ xs.map (·.1) := fun z => (List.nodup_append.mp nd).2.2 _ z _ (.head _) rfl
    have ha := hy (k, a, v) (.head _)
    rw [List.length_cons] at hl
    refine wpAny_bind (wpAny_bind (wp_set (knd := KD prog w) hu ha hm nk (by omega) (wpAny_pure ?_)))
    refine wp_sets hu ys (xs ++ [(k, a, v)]) _ Q (fun y h => is_put hm (hy y (.tail _ h))) (put1_at ha hm nk) ?_ (by rw [List.length_append]; exact (by show xs.length + 1 + ys.length ≤ sizeLine; omega)) hq
    rw [List.map_append, List.append_assoc]
    exact nd
theorem wp_short (hu : A.units < cLine) {ps : List (Sem Value × Sem Value)} {rs : List Row} (h : Evs prog w ps rs) (l : ps.length ≤ 15) (nd : (rs.map keyOf).Nodup) (hl : rs.length ≤ sizeLine) {Q : Addr → Shared → Prop}
    (hq : Q s.heap.objs.size (setEnts prog w s.heap.objs.size (putVals (newD s) rs) (entsV (newD s) rs))) : wpAny (model prog w) A (subDict ps) Q E s := by
  unfold subDict
  refine wpAny_bind (wpAny_alloc ?_)
  refine wpAny_bind (wpAny_holding ?_)
  rw [if_pos l]
  refine wpAny_bind (wp_vals ps rs (newD s) _ h ?_)
  refine wpAny_holding ?_
  rw [← entsV_vals]
  have e1 := entsV_keys rs (newD s)
  have e2 : (entsV (newD s) rs).length = rs.length := by have := congrArg List.length e1; rwa [List.length_map, List.length_map] at this
  refine wpAny_bind (wp_sets hu (entsV (newD s) rs) [] (putVals (newD s) rs) _ (entsV_is rs (newD s)) (dict_keep (Heap.DictOfH.new s.heap) fun b o e => putVals_get rs e) (by rw [e1]; simpa using nd) (by rw [e2]; simpa using hl) ?_)
  exact wpAny_pure (wpAny_pure hq)
end
end TopX
namespace TopX
open PySem PySem.W PySem.Calls PyProof.Rows
section
variable {prog : Program} {w : World} {A : Around} {E : Value → Shared → Prop} {s : Shared} {d b : Addr}
def putEnts (prog : Program) (w : World) (d : Addr) (h : Heap) (ys : List (List L2.Key × Addr × Value)) : Heap := ys.foldl (put1 (KD prog w) d) h
theorem put_other {h : Heap} {x : List L2.Key × Addr × Value} {c : Addr} (n : c ≠ d) : (put1 (KD prog w) d h x).get? c = h.get? c := Heap.get?_update_ne _ _ _ _ n
/-- a part of the display merged into what stands -/
theorem wp_merge (hu : A.units < cLine) (hb : (b == sysModules) = false) {xs ys : List (List L2.Key × Addr × Value)} (hx : s.heap.DictOfH (KD prog w) d xs) (hy : s.heap.DictOfH (KD prog w) b ys) (nb : b ≠ d) (ne : ys ≠ []) (nx : xs ≠ []) (nd : (xs.map (·.1) ++ ys.map (·.1)).Nodup) (hl : xs.length + ys.length ≤ sizeLine)
    {Q : Unit → Shared → Prop} (hq : Q () { s with heap := putEnts prog w d s.heap ys }) : wpAny (model prog w) A (mergeMapping d (.ref b) false) Q E s := by
  have ty : s.TypeIs (.ref b) "dict" := hy.typeIs
  obtain ⟨o, es, ep, ho, hc, hd, he, his, hn⟩ := id hy
  obtain ⟨o1, es1, ep1, ho1, hc1, hd1, he1, his1, hn1⟩ := id hx
  have len : es.size = ys.length := size_of_entries he
  have e1 : es1.isEmpty = false := by
    have q := size_of_entries he1
    cases xs with
    | nil => exact absurd rfl nx
    | cons x xs =>
      cases h : es1.isEmpty with
      | false => rfl
      | true =>
        rw [Array.isEmpty_iff_size_eq_zero.mp h] at q
        cases q
  unfold mergeMapping
  refine wpAny_bind (wpAny_isInstance (b := true) ty rfl ?_)
  rw [if_pos rfl]
  refine wpAny_bind (wpAny_specialOf ty F.slot_dict_iter.lookup ?_)
  refine wpAny_bind (wpAny_pure ?_)
  simp only [beq_self_eq_true]
  rw [if_neg (by rw [hb]; exact Bool.false_ne_true)]
  refine wpAny_bind (wpAny_dictEntries ho1 hd1 ?_)
  rw [if_neg (by rw [e1]; exact Bool.false_ne_true)]
  refine wpAny_bind (wpAny_dictEntries ho hd ?_)
  refine wpAny_bind (wpAny_dictEpoch ho hd ?_)
  refine wpAny_bind ?_
  refine wpAny_forIn_list _ (fun rest _ s' => ∃ i, i ≤ ys.length ∧ rest = List.range' i (ys.length - i) ∧ s' = { s with heap := putEnts prog w d s.heap (ys.take i) } ∧ s'.heap.DictOfH (KD prog w) d (xs ++ ys.take i) ∧ s'.heap.get? b = some o ∧ ∀ y ∈ ys, (KD prog w).is s'.heap y.1 y.2.1) _ ?_ ?_ _ _ ⟨0, Nat.zero_le _, by rw [len, List.range_eq_range', Nat.sub_zero], by rw [List.take_zero]; rfl, by rw [List.take_zero, List.append_nil]; exact hx, ho, his⟩
  · rintro x rest _ s' ⟨i, li, er, es', hm, hb', hi⟩
    have lt : i < ys.length := by
      rcases Nat.lt_or_ge i ys.length with h | h
      · exact h
      · rw [show ys.length - i = 0 by omega] at er
        cases er
    rw [show ys.length - i = (ys.length - (i + 1)) + 1 by omega, List.range'_succ] at er
    obtain ⟨rfl, rfl⟩ := List.cons.inj er
    have hy' : ys[x]? = some ys[x] := List.getElem?_eq_getElem lt
    have ey : es[x]? = some (entryOfKey (KD prog w) ys[x]) := by rw [entry_at he x, hy']; rfl
    have mem : ys[x] ∈ ys := List.getElem_mem lt
    have tk : ys.take (x + 1) = ys.take x ++ [ys[x]] := by rw [List.take_add_one, hy']; rfl
    generalize ys[x] = y at hy' ey mem tk
    obtain ⟨k, a, v⟩ := y
    have ha := hi (k, a, v) mem
    have nk : k ∉ (xs ++ ys.take x).map (·.1) := by
      have e2 : ys = ys.take x ++ (k, a, v) :: ys.drop (x + 1) := by
        obtain ⟨h1, h2⟩ := List.getElem?_eq_some_iff.mp hy'
        rw [← h2, List.getElem_cons_drop, List.take_append_drop]
      rw [e2, List.map_append, ← List.append_assoc, ← List.map_append] at nd
      exact fun z => (List.nodup_append.mp nd).2.2 _ z k (.head _) rfl
    refine wpAny_bind (wpAny_dictEntries hb' hd ?_)
    rw [ey]
    refine wpAny_bind (wpAny_holding ?_)
    rw [if_neg Bool.false_ne_true]
    refine wp_put (knd := KD prog w) (k := k) (a := a) (v := v) hu ha hm nk (by rw [List.length_append, List.length_take]; omega) ?_
    refine wpAny_bind (wpAny_dictEpoch (o := o) (by rw [← hb']; exact put_other nb) hd ?_)
    rw [if_neg (by simp)]
    refine wpAny_pure ⟨x + 1, lt, rfl, ?_, ?_, ?_, fun y h => is_put hm (hi y h)⟩
    · subst es'
      rw [tk]
      show _ = ({ s with heap := (ys.take x ++ [(k, a, v)]).foldl _ s.heap } : Shared)
      rw [List.foldl_append]
      rfl
    · rw [tk, ← List.append_assoc]
      exact put1_at ha hm nk
    · rw [← hb']
      exact put_other nb
  · rintro _ s' ⟨i, li, er, es', hm, hb', hi⟩
    have ei : i = ys.length := by
      have := congrArg List.length er
      rw [List.length_range', List.length_nil] at this
      omega
    rw [ei, List.take_length] at es'
    rw [es']
    exact wpAny_pure hq
end
end TopX
/-! ### a display of 41 pairs: parts of 17, 17 and 7 -/
namespace TopX
open PySem PySem.W PySem.Calls PyProof.Rows
def someP (p : Sem Value × Sem Value) : Option (Sem Value) × Sem Value := (some p.1, p.2)
theorem gather (f : (Option (Sem Value) × Sem Value) → (Option Addr × List (Sem Value × Sem Value)) → Sem (ForInStep (Option Addr × List (Sem Value × Sem Value)))) (m : Option Addr)
    (hf : ∀ (p : Sem Value × Sem Value) (run : List (Sem Value × Sem Value)), run.length + 1 < 17 → f (some p.1, p.2) (m, run) = pure (.yield (m, run ++ [p]))) (rest : List (Option (Sem Value) × Sem Value)) :
    ∀ (items run : List (Sem Value × Sem Value)), run.length + items.length < 17 → forIn (items.map someP ++ rest) (m, run) f = forIn rest (m, run ++ items) f
  | [], run, _ => by simp
  | p :: t, run, h => by
    rw [List.length_cons] at h
    rw [List.map_cons, List.cons_append, List.forIn_cons]
    show (f (some p.1, p.2) (m, run) >>= _) = _
    rw [hf p run (by omega), pure_bind]
    have := gather f m hf rest t (run ++ [p]) (by rw [List.length_append]; simp; omega)
    simpa using this
def freeing (vs : List Value) : Sem Unit := do let _ ← holding vs (runValue (.builtin "proto.let_go" {}))
def merging (d : Addr) (ps : List (Sem Value × Sem Value)) : Sem Unit := do
  let sub ← holding [.ref d] (subDict ps)
  Sem.onRaise (holding [.ref d, .ref sub] (mergeMapping d (.ref sub) false)) fun x => freeing [.ref d, x]
theorem emp (a : List (Sem Value × Sem Value)) (p : Sem Value × Sem Value) : (a ++ [p]).isEmpty = false := by cases a <;> rfl
theorem show3 {a b c : List (Sem Value × Sem Value)} {p q : Sem Value × Sem Value} (ha : a.length = 16) (hb : b.length = 16) (h0 : c ≠ []) (hc : c.length < 17) :
    dictDisplay ((a ++ [p] ++ (b ++ [q]) ++ c).map someP) = (do let d ← subDict (a ++ [p]); merging d (b ++ [q]); merging d c; pure (.ref d)) := by
  unfold dictDisplay
  dsimp only
  have f0 : ∀ (p : Sem Value × Sem Value) (run : List (Sem Value × Sem Value)), run.length + 1 < 17 → ((run ++ [p]).length == 17) = false := fun p run h => by simp; omega
  have f1 : ∀ (p : Sem Value × Sem Value) (run : List (Sem Value × Sem Value)), run.length + 1 < 17 → (run.length + 1 == 17) = false := fun p run h => by simp; omega
  rw [List.map_append, List.map_append, List.map_append, List.map_append, List.append_assoc, List.append_assoc, gather _ none (fun p run h => by simp only [f0 p run h, Bool.false_eq_true, if_false]) _ a [] (by rw [ha]; simp)]
  rw [List.map_singleton, List.singleton_append, List.forIn_cons]
  simp only [someP, List.nil_append, List.length_append, ha, List.length_singleton, Nat.reduceAdd, beq_self_eq_true, if_true, emp, Bool.false_eq_true, if_false, bind_assoc, pure_bind]
  congr 1
  funext d
  rw [List.append_assoc]
  rw [gather _ (some d) (fun p run h => by simp only [f1 p run h, Bool.false_eq_true, if_false]) _ b [] (by rw [hb]; simp)]
  rw [List.map_singleton, List.singleton_append, List.forIn_cons]
  simp only [someP, List.nil_append, List.length_append, hb, List.length_singleton, Nat.reduceAdd, beq_self_eq_true, if_true, emp, Bool.false_eq_true, if_false, bind_assoc, pure_bind, merging, freeing]
  congr 1
  funext e
  congr 1
  funext _
  rw [← List.append_nil (List.map someP c)]
  rw [gather _ (some d) (fun p run h => by simp only [f1 p run h, Bool.false_eq_true, if_false]) _ c [] (by simpa using hc)]
  rw [List.forIn_nil]
  have e0 : c.isEmpty = false := by cases c with | nil => exact absurd rfl h0 | cons _ _ => rfl
  simp only [List.nil_append, e0, Bool.false_eq_true, if_false, bind_assoc, pure_bind]
end TopX
namespace TopX
open PySem PySem.W PySem.Calls PyProof.Rows
section
variable {prog : Program} {w : World} {A : Around} {E : Value → Shared → Prop} {s : Shared} {d b : Addr}
abbrev Ent := List L2.Key × Addr × Value
theorem sz_put1 {h : Heap} {x : Ent} : (put1 (KD prog w) d h x).objs.size = h.objs.size := Heap.size_update ..
theorem sz_putT {ss : List Str} : (putT s ss).heap.objs.size = s.heap.objs.size + 1 := Array.size_push ..
theorem sz_putRow {r : Row} : (putRow prog w d s r).heap.objs.size = s.heap.objs.size + 2 := by
  show (put1 (KD prog w) d (putT (putT s r.1) r.2).heap _).objs.size = _
  rw [sz_put1, sz_putT, sz_putT]
theorem sz_putRows : ∀ (rs : List Row) (s : Shared), (putRows prog w d s rs).heap.objs.size = s.heap.objs.size + 2 * rs.length
  | [], _ => rfl
  | r :: rs, s => by
    show (putRows prog w d (putRow prog w d s r) rs).heap.objs.size = _
    rw [sz_putRows rs, sz_putRow, List.length_cons]; omega
theorem sz_putEnts : ∀ (ys : List Ent) (h : Heap), (putEnts prog w d h ys).objs.size = h.objs.size
  | [], _ => rfl
  | y :: ys, h => by
    show (putEnts prog w d (put1 (KD prog w) d h y) ys).objs.size = _
    rw [sz_putEnts ys, sz_put1]
theorem get_putRows : ∀ (rs : List Row) {s : Shared} {b : Addr} {o : Obj}, b ≠ d → s.heap.get? b = some o → (putRows prog w d s rs).heap.get? b = some o
  | [], _, _, _, _, e => e
  | r :: rs, s, b, o, n, e => by
    show (putRows prog w d (putRow prog w d s r) rs).heap.get? b = _
    refine get_putRows rs n ?_
    show (put1 (KD prog w) d (putT (putT s r.1) r.2).heap _).get? b = _
    rw [put_other n]
    exact putT_get (putT_get e)
theorem get_setEnts : ∀ (ys : List Ent) {s : Shared} {b : Addr} {o : Obj}, b ≠ d → s.heap.get? b = some o → (setEnts prog w d s ys).heap.get? b = some o
  | [], _, _, _, _, e => e
  | y :: ys, s, b, o, n, e => by
    show (setEnts prog w d _ ys).heap.get? b = _
    exact get_setEnts ys n (by show (put1 (KD prog w) d s.heap y).get? b = _; rw [put_other n]; exact e)
theorem get_putEnts : ∀ (ys : List Ent) {h : Heap} {b : Addr} {o : Obj}, b ≠ d → h.get? b = some o → (putEnts prog w d h ys).get? b = some o
  | [], _, _, _, _, e => e
  | y :: ys, h, b, o, n, e => by
    show (putEnts prog w d (put1 (KD prog w) d h y) ys).get? b = _
    exact get_putEnts ys n (by rw [put_other n]; exact e)
theorem nodup_snoc {α β : Type} {f : α → β} {xs : List α} {y : α} {l : List β} (n : (xs.map f ++ f y :: l).Nodup) : f y ∉ xs.map f ∧ ((xs ++ [y]).map f ++ l).Nodup := by
  refine ⟨fun z => (List.nodup_append.mp n).2.2 _ z _ (.head _) rfl, ?_⟩
  rw [List.map_append, List.append_assoc]
  exact n
theorem putRows_dict : ∀ (rs : List Row) (xs : List Ent) (s : Shared), s.heap.DictOfH (KD prog w) d xs → (xs.map (·.1) ++ rs.map keyOf).Nodup → (putRows prog w d s rs).heap.DictOfH (KD prog w) d (xs ++ entsOf prog w d s rs)
  | [], xs, s, m, _ => by rw [show entsOf prog w d s [] = [] from rfl, List.append_nil]; exact m
  | r :: rs, xs, s, m, n => by
    have n2 := nodup_snoc (f := fun x : Ent => x.1) (y := (keyOf r, s.heap.objs.size, .ref (putT s r.1).heap.objs.size)) n
    have := putRows_dict rs _ (putRow prog w d s r) (putRow_dict m n2.1) n2.2
    rw [List.append_assoc] at this
    exact this
theorem putEnts_dict (st : Shared) : ∀ (ys xs : List Ent) (h : Heap), h.DictOfH (KD prog w) d xs → (∀ y ∈ ys, (KD prog w).is h y.1 y.2.1) → (xs.map (·.1) ++ ys.map (·.1)).Nodup → (putEnts prog w d h ys).DictOfH (KD prog w) d (xs ++ ys)
  | [], xs, h, m, _, _ => by rw [List.append_nil]; exact m
  | y :: ys, xs, h, m, hi, n => by
    have n2 := nodup_snoc (f := fun x : Ent => x.1) (y := y) n
    obtain ⟨k, a, v⟩ := y
    have := putEnts_dict st ys _ (put1 (KD prog w) d h (k, a, v)) (put1_at (s := { st with heap := h }) (hi _ (.head _)) m n2.1) (fun y hy => is_put (s := { st with heap := h }) m (hi y (.tail _ hy))) n2.2
    rw [List.append_assoc] at this
    exact this
theorem setEnts_dict : ∀ (ys xs : List Ent) (s : Shared), s.heap.DictOfH (KD prog w) d xs → (∀ y ∈ ys, (KD prog w).is s.heap y.1 y.2.1) → (xs.map (·.1) ++ ys.map (·.1)).Nodup → (setEnts prog w d s ys).heap.DictOfH (KD prog w) d (xs ++ ys)
  | [], xs, s, m, _, _ => by rw [List.append_nil]; exact m
  | y :: ys, xs, s, m, hi, n => by
    have n2 := nodup_snoc (f := fun x : Ent => x.1) (y := y) n
    obtain ⟨k, a, v⟩ := y
    have := setEnts_dict ys _ { s with heap := put1 (KD prog w) d s.heap (k, a, v), toks := s.toks + (KD prog w).draws k } (put1_at (hi _ (.head _)) m n2.1) (fun y hy => is_put m (hi y (.tail _ hy))) n2.2
    rw [List.append_assoc] at this
    exact this
/-! the three parts -/
def long2 (prog : Program) (w : World) (d : Addr) (s : Shared) (rs : List Row) : Shared :=
  let s2 := putRows prog w s.heap.objs.size (newD s) rs
  { s2 with heap := putEnts prog w d s2.heap (entsOf prog w s.heap.objs.size (newD s) rs) }
def short2 (prog : Program) (w : World) (d : Addr) (s : Shared) (rs : List Row) : Shared :=
  let s2 := setEnts prog w s.heap.objs.size (putVals (newD s) rs) (entsV (newD s) rs)
  { s2 with heap := putEnts prog w d s2.heap (entsV (newD s) rs) }
def shown (prog : Program) (w : World) (s : Shared) (r1 r2 r3 : List Row) : Shared :=
  short2 prog w s.heap.objs.size (long2 prog w s.heap.objs.size (putRows prog w s.heap.objs.size (newD s) r1) r2) r3
theorem newD_get {b : Addr} {o : Obj} (e : s.heap.get? b = some o) : (newD s).heap.get? b = some o := Heap.get?_push_of_some _ e
theorem sz_newD : (newD s).heap.objs.size = s.heap.objs.size + 1 := Array.size_push ..
theorem lt_of_get {h : Heap} {b : Addr} {o : Obj} (e : h.get? b = some o) : b < h.objs.size := Heap.lt_size e
theorem dict_lt {h : Heap} {xs : List Ent} (m : h.DictOfH (KD prog w) d xs) : d < h.objs.size := by
  obtain ⟨o, es, ep, ho, _⟩ := m
  exact lt_of_get ho
theorem entsOf_ne {rs : List Row} (h : rs ≠ []) : entsOf prog w d s rs ≠ [] := by
  cases rs with
  | nil => exact absurd rfl h
  | cons r rs => exact List.cons_ne_nil _ _
theorem entsV_ne {rs : List Row} (h : rs ≠ []) : entsV s rs ≠ [] := by
  cases rs with
  | nil => exact absurd rfl h
  | cons r rs => exact List.cons_ne_nil _ _
theorem len_of {xs : List Ent} {rs : List Row} (e : xs.map (·.1) = rs.map keyOf) : xs.length = rs.length := by have := congrArg List.length e; rwa [List.length_map, List.length_map] at this
/-- a part and the merge of it, told of any way to make it -/
theorem wp_part (hu : A.units < cLine) (hm : sysModules < s.heap.objs.size) {ps : List (Sem Value × Sem Value)} {xs ys : List Ent} {s2 : Shared} (hx : s.heap.DictOfH (KD prog w) d xs) (nx : xs ≠ []) (ne : ys ≠ [])
    (hy : s2.heap.DictOfH (KD prog w) s.heap.objs.size ys) (keep : ∀ b o, s.heap.get? b = some o → s2.heap.get? b = some o) (nd : (xs.map (·.1) ++ ys.map (·.1)).Nodup) (hl : xs.length + ys.length ≤ sizeLine)
    (hsub : ∀ Q : Addr → Shared → Prop, Q s.heap.objs.size s2 → wpAny (model prog w) A (subDict ps) Q E s)
    {Q : Unit → Shared → Prop} (hq : Q () { s2 with heap := putEnts prog w d s2.heap ys }) : wpAny (model prog w) A (merging d ps) Q E s := by
  unfold merging
  refine wpAny_bind (wpAny_holding (hsub _ ?_))
  refine wpAny_onRaise (wpAny_holding ?_)
  have hb : (s.heap.objs.size == sysModules) = false := beq_eq_false_iff_ne.mpr (Nat.ne_of_gt hm)
  have nb : s.heap.objs.size ≠ d := Nat.ne_of_gt (dict_lt hx)
  exact wp_merge hu hb (dict_keep hx keep) hy nb ne nx nd hl hq
theorem wp_show3 (hu : A.units < cLine) (hm : sysModules < s.heap.objs.size) {a b c : List (Sem Value × Sem Value)} {p q : Sem Value × Sem Value} {r1 r2 r3 : List Row} (ha : a.length = 16) (hb : b.length = 16) (h0 : c ≠ []) (hc : c.length ≤ 15)
    (l1 : r1.length = 17) (l2 : r2.length = 17) (l3 : r3.length = c.length) (h1 : Evs prog w (a ++ [p]) r1) (h2 : Evs prog w (b ++ [q]) r2) (h3 : Evs prog w c r3) (nd : (r1.map keyOf ++ r2.map keyOf ++ r3.map keyOf).Nodup)
    {Q : Value → Shared → Prop} (hq : Q (.ref s.heap.objs.size) (shown prog w s r1 r2 r3)) : wpAny (model prog w) A (dictDisplay ((a ++ [p] ++ (b ++ [q]) ++ c).map someP)) Q E s := by
  have n12 := (List.nodup_append.mp nd).1
  have n1 := (List.nodup_append.mp n12).1
  have n2 := (List.nodup_append.mp n12).2.1
  have n3 := (List.nodup_append.mp nd).2.1
  have z3 : r3 ≠ [] := fun e => by rw [e] at l3; exact h0 (List.length_eq_zero_iff.mp l3.symm)
  have z2 : r2 ≠ [] := fun e => by rw [e] at l2; cases l2
  have z1 : r1 ≠ [] := fun e => by rw [e] at l1; cases l1
  rw [show3 ha hb h0 (by omega)]
  refine wpAny_bind (wp_long hu h1 (by rw [List.length_append, ha]; simp) n1 (by rw [l1, sizeLine_eq]; omega) ?_)
  have d1 := putRows_dict (prog := prog) (w := w) r1 [] (newD s) (Heap.DictOfH.new s.heap) (by simpa using n1)
  rw [List.nil_append] at d1
  have e1 := entsOf_keys (prog := prog) (w := w) (d := s.heap.objs.size) r1 (newD s)
  have y1 := entsOf_ne (prog := prog) (w := w) (d := s.heap.objs.size) (s := newD s) z1
  have g1 : sysModules < (putRows prog w s.heap.objs.size (newD s) r1).heap.objs.size := Nat.lt_of_lt_of_le hm (by rw [sz_putRows, sz_newD]; omega)
  generalize entsOf prog w s.heap.objs.size (newD s) r1 = x1 at d1 e1 y1
  unfold shown at hq
  generalize putRows prog w s.heap.objs.size (newD s) r1 = s1 at d1 g1 hq ⊢
  have d2 := putRows_dict (prog := prog) (w := w) r2 [] (newD s1) (Heap.DictOfH.new s1.heap) (by simpa using n2)
  rw [List.nil_append] at d2
  have e2 := entsOf_keys (prog := prog) (w := w) (d := s1.heap.objs.size) r2 (newD s1)
  have y2 := entsOf_ne (prog := prog) (w := w) (d := s1.heap.objs.size) (s := newD s1) z2
  have k2 : ∀ b o, s1.heap.get? b = some o → (putRows prog w s1.heap.objs.size (newD s1) r2).heap.get? b = some o := fun b o e => get_putRows r2 (Nat.ne_of_lt (lt_of_get e)) (newD_get e)
  refine wpAny_bind (wp_part hu g1 d1 y1 y2 d2 k2 (by rw [e1, e2]; exact n12) (by rw [len_of e1, len_of e2, l1, l2, sizeLine_eq]; omega) (fun Q h => wp_long hu h2 (by rw [List.length_append, hb]; simp) n2 (by rw [l2, sizeLine_eq]; omega) h) ?_)
  have d3 := putEnts_dict s _ _ _ (dict_keep d1 k2) (by obtain ⟨o, es, ep, _, _, _, _, his, _⟩ := d2; exact his) (by rw [e1, e2]; exact n12)
  have g3 : sysModules < (long2 prog w s.heap.objs.size s1 r2).heap.objs.size := by
    refine Nat.lt_of_lt_of_le g1 ?_
    show s1.heap.objs.size ≤ (putEnts prog w s.heap.objs.size (putRows prog w s1.heap.objs.size (newD s1) r2).heap _).objs.size
    rw [sz_putEnts, sz_putRows, sz_newD]; omega
  change (long2 prog w s.heap.objs.size s1 r2).heap.DictOfH (KD prog w) _ _ at d3
  change wpAny _ _ _ _ _ (long2 prog w s.heap.objs.size s1 r2)
  have y3 : x1 ++ entsOf prog w s1.heap.objs.size (newD s1) r2 ≠ [] := fun e => y1 (List.append_eq_nil_iff.mp e).1
  have e3 : (x1 ++ entsOf prog w s1.heap.objs.size (newD s1) r2).map (·.1) = r1.map keyOf ++ r2.map keyOf := by rw [List.map_append, e1, e2]
  generalize x1 ++ entsOf prog w s1.heap.objs.size (newD s1) r2 = x3 at d3 y3 e3
  generalize long2 prog w s.heap.objs.size s1 r2 = s3 at d3 g3 hq ⊢
  have f4 := entsV_keys r3 (newD s3)
  have d4 := setEnts_dict (prog := prog) (w := w) (d := s3.heap.objs.size) (entsV (newD s3) r3) [] (putVals (newD s3) r3) (dict_keep (Heap.DictOfH.new s3.heap) fun b o e => putVals_get r3 e) (entsV_is r3 (newD s3)) (by rw [f4]; simpa using n3)
  rw [List.nil_append] at d4
  have k4 : ∀ b o, s3.heap.get? b = some o → (setEnts prog w s3.heap.objs.size (putVals (newD s3) r3) (entsV (newD s3) r3)).heap.get? b = some o := fun b o e => get_setEnts _ (Nat.ne_of_lt (lt_of_get e)) (putVals_get r3 (newD_get e))
  have l4 : x3.length = 34 := by have := congrArg List.length e3; rw [List.length_map, List.length_append, List.length_map, List.length_map, l1, l2] at this; exact this
  refine wpAny_bind (wp_part hu g3 d3 y3 (entsV_ne z3) d4 k4 (by rw [e3, f4]; exact nd) (by rw [l4, len_of f4, l3, sizeLine_eq]; omega) (fun Q h => wp_short hu h3 hc n3 (by rw [l3, sizeLine_eq]; omega) h) ?_)
  exact wpAny_pure hq
end
end TopX
namespace TopX
open PySem PySem.W PySem.Calls PyProof.Rows
def textOf : Expr → Option Str
  | .Constant (.str x) _ _ => some x
  | _ => none
def textsOf : List Expr → Option (List Str)
  | [] => some []
  | e :: es => match textOf e, textsOf es with
    | some x, some xs => some (x :: xs)
    | _, _ => none
def tupTexts : Expr → Option (List Str)
  | .Tuple es _ _ => textsOf es
  | _ => none
def rowsOf : List (Option Expr) → List Expr → Option (List Row)
  | [], [] => some []
  | some k :: ks, v :: vs => match tupTexts k, tupTexts v, rowsOf ks vs with
    | some a, some b, some rs => some ((a, b) :: rs)
    | _, _, _ => none
  | _, _ => none
section
variable {prog : Program} {w : World} {A : Around} {E : Value → Shared → Prop} {s : Shared} {env : Env}
theorem spliced_texts {pos : Pos} : ∀ (es : List Expr) (ss : List Str) (s : Shared) (Q : List Value → Shared → Prop), textsOf es = some ss →
    Q (txs ss s.toks) { s with toks := s.toks + ss.length } → wpAny (model prog w) A (spliced (backTo pos (starEach es env))) Q E s
  | [], ss, s, Q, hl, h => by
    cases hl
    exact args_nil h
  | e :: es, ss, s, Q, hl, h => by
    have hl' : (match textOf e, textsOf es with | some x, some xs => some (x :: xs) | _, _ => none) = some ss := hl
    cases e with
    | Constant c k p =>
      cases c with
      | str x =>
        cases hr : textsOf es with
        | none => rw [hr] at hl'; cases hl'
        | some ds =>
          rw [hr] at hl'
          cases hl'
          refine args_cons (?_ : wpAny (model prog w) A (mkText x) _ _ _) rfl
          unfold mkText
          refine wpAny_bind (wpAny_fresh (wpAny_pure ?_))
          exact spliced_texts es ds { s with toks := s.toks + 1 } (fun vs s' => Q (.str x s.toks :: vs) s') hr (by
            show Q (.str x s.toks :: txs ds (s.toks + 1)) { s with toks := s.toks + 1 + ds.length }
            rw [List.length_cons, show s.toks + (ds.length + 1) = s.toks + 1 + ds.length by omega] at h
            exact h)
      | _ => cases hl'
    | _ => cases hl'
theorem ev_tup {e : Expr} {ss : List Str} (h : tupTexts e = some ss) (l : ss.length ≤ sizeLine) : Ev prog w (eval e env) ss := by
  intro A E s Q hq
  cases e with
  | Tuple es k pos =>
    rw [arm_eval_Tuple]
    refine wpAny_bind (wpAny_standAt (wpAny_bind (spliced_texts es ss s _ h ?_)))
    have lt : (txs ss s.toks).length ≤ sizeLine := by
      have : ∀ (ss : List Str) (t : Nat), (txs ss t).length = ss.length := fun ss => by
        induction ss with
        | nil => exact fun _ => rfl
        | cons _ _ ih => exact fun t => congrArg (· + 1) (ih _)
      rw [this]; exact l
    exact wpAny_newTuple hq lt
  | _ => cases h
theorem ev_then {x : Sem Value} {pos : Pos} {ss : List Str} (h : Ev prog w x ss) : Ev prog w (do let v ← x; standAt pos; pure v) ss := fun A E s Q hq => wpAny_bind (h A E s _ (wpAny_bind (wpAny_standAt (wpAny_pure hq))))
def small (rs : List Row) : Bool := rs.all fun r => decide (r.1.length ≤ 100) && decide (r.2.length ≤ 100)
theorem evs_of {pos : Pos} : ∀ (ks : List (Option Expr)) (vs : List Expr) (rs : List Row), rowsOf ks vs = some rs → small rs = true →
    ∃ ps : List (Sem Value × Sem Value), (evalEachOpt ks env).zip ((evalEach vs env).map fun v => do let x ← v; standAt pos; pure x) = ps.map someP ∧ Evs prog w ps rs
  | [], [], rs, h, _ => by
    cases h
    exact ⟨[], rfl, .nil⟩
  | [], _ :: _, _, h, _ => nomatch h
  | none :: _, _, _, h, _ => by cases h
  | some _ :: _, [], _, h, _ => nomatch h
  | some k :: ks, v :: vs, rs, h, z => by
    have h' : (match tupTexts k, tupTexts v, rowsOf ks vs with | some a, some b, some rs => some ((a, b) :: rs) | _, _, _ => none) = some rs := h
    cases hk : tupTexts k with
    | none => rw [hk] at h'; cases h'
    | some a =>
      cases hv : tupTexts v with
      | none => rw [hk, hv] at h'; cases h'
      | some b =>
        cases hr : rowsOf ks vs with
        | none => rw [hk, hv, hr] at h'; cases h'
        | some rs' =>
          rw [hk, hv, hr] at h'
          cases h'
          have z' : (decide (a.length ≤ 100) && decide (b.length ≤ 100) && small rs') = true := z
          rw [Bool.and_eq_true, Bool.and_eq_true, decide_eq_true_eq, decide_eq_true_eq] at z'
          obtain ⟨⟨z1, z2⟩, z3⟩ := z'
          obtain ⟨ps, e, hp⟩ := evs_of (pos := pos) ks vs rs' hr z3
          refine ⟨(eval k env, do let x ← eval v env; standAt pos; pure x) :: ps, ?_, .cons ⟨ev_tup hk (by show a.length ≤ _; rw [sizeLine_eq]; omega), ev_then (ev_tup hv (by show b.length ≤ _; rw [sizeLine_eq]; omega))⟩ hp⟩
          rw [List.map_cons, ← e]
          rfl
theorem paired_take {α β : Type _} {R : α → β → Prop} : ∀ (n : Nat) {as : List α} {bs : List β}, Paired R as bs → Paired R (as.take n) (bs.take n) ∧ Paired R (as.drop n) (bs.drop n)
  | 0, _, _, h => ⟨.nil, h⟩
  | n + 1, _, _, .nil => ⟨.nil, .nil⟩
  | n + 1, _, _, .cons h t => ⟨.cons h (paired_take n t).1, (paired_take n t).2⟩
theorem paired_len {α β : Type _} {R : α → β → Prop} : ∀ {as : List α} {bs : List β}, Paired R as bs → as.length = bs.length
  | _, _, .nil => rfl
  | _, _, .cons _ t => congrArg (· + 1) (paired_len t)
theorem split17 {α : Type _} {l : List α} (h : 17 ≤ l.length) : ∃ a p, l.take 17 = a ++ [p] ∧ a.length = 16 := by
  refine ⟨l.take 16, l[16], ?_, by rw [List.length_take]; omega⟩
  rw [List.take_add_one (i := 16), List.getElem?_eq_getElem (by omega)]
  rfl
theorem wp_Dict (hu : A.units < cLine) (hm : sysModules < s.heap.objs.size) {ks : List (Option Expr)} {vs : List Expr} {pos : Pos} {rs : List Row} (hr : rowsOf ks vs = some rs) (hz : small rs = true) (l1 : 34 < rs.length) (l2 : rs.length ≤ 49) (nd : (rs.map keyOf).Nodup)
    {Q : Value → Shared → Prop} (hq : Q (.ref s.heap.objs.size) (shown prog w s (rs.take 17) ((rs.drop 17).take 17) (rs.drop 34))) : wpAny (model prog w) A (eval (.Dict ks vs pos) env) Q E s := by
  obtain ⟨ps, e, hp⟩ := evs_of (prog := prog) (w := w) (env := env) (pos := pos) ks vs rs hr hz
  have len := paired_len hp
  obtain ⟨a, p, ea, la⟩ := split17 (l := ps) (by omega)
  obtain ⟨b, q, eb, lb⟩ := split17 (l := ps.drop 17) (by rw [List.length_drop]; omega)
  have h1 := (paired_take 17 hp).1
  have h2 := (paired_take 17 (paired_take 17 hp).2).1
  have h3 := (paired_take 17 (paired_take 17 hp).2).2
  rw [List.drop_drop, List.drop_drop] at h3
  rw [ea] at h1
  rw [eb] at h2
  have ep : ps = a ++ [p] ++ (b ++ [q]) ++ ps.drop 34 := by
    rw [← ea, ← eb, List.append_assoc, show ps.drop 34 = (ps.drop 17).drop 17 by rw [List.drop_drop], List.take_append_drop, List.take_append_drop]
  rw [arm_eval_Dict, e]
  refine wpAny_bind (wpAny_standAt ?_)
  rw [ep]
  refine wp_show3 hu hm la lb (fun z => by have := congrArg List.length z; rw [List.length_drop, List.length_nil] at this; omega) (by rw [List.length_drop]; omega) (by rw [List.length_take]; omega) (by rw [List.length_take, List.length_drop]; omega) (by rw [List.length_drop, List.length_drop]; omega) h1 h2 h3 ?_ hq
  rw [← List.map_append, ← List.map_append]
  have er : rs = rs.take 17 ++ (rs.drop 17).take 17 ++ rs.drop 34 := by
    rw [List.append_assoc, show rs.drop 34 = (rs.drop 17).drop 17 by rw [List.drop_drop], List.take_append_drop, List.take_append_drop]
  rw [← er]
  exact nd
end
end TopX
/-! ### the statement that binds the display -/
namespace TopX
open PySem PySem.W PySem.Calls PyProof.Rows
section
variable {prog : Program} {w : World} {A : Around} {E : Value → Shared → Prop} {s : Shared} {env : Env}
theorem shown_get {r1 r2 r3 : List Row} {b : Addr} {o : Obj} (e : s.heap.get? b = some o) : (shown prog w s r1 r2 r3).heap.get? b = some o := by
  have n0 : b ≠ s.heap.objs.size := Nat.ne_of_lt (lt_of_get e)
  have e1 := get_putRows (prog := prog) (w := w) r1 n0 (newD_get e)
  unfold shown
  generalize putRows prog w s.heap.objs.size (newD s) r1 = s1 at e1 ⊢
  have e2 := get_putEnts (prog := prog) (w := w) (entsOf prog w s1.heap.objs.size (newD s1) r2) n0 (get_putRows (prog := prog) (w := w) r2 (Nat.ne_of_lt (lt_of_get e1)) (newD_get e1))
  change (long2 prog w s.heap.objs.size s1 r2).heap.get? b = _ at e2
  generalize long2 prog w s.heap.objs.size s1 r2 = s3 at e2 ⊢
  exact get_putEnts (prog := prog) (w := w) (entsV (newD s3) r3) n0 (get_setEnts (prog := prog) (w := w) (entsV (newD s3) r3) (Nat.ne_of_lt (lt_of_get e2)) (putVals_get r3 (newD_get e2)))
def nameHash (w : World) (x : Str) : Int := if x.cps.isEmpty = true then 0 else reduceHash (w.params.strHash x.cps)
/-- a name bound -/
def bound (w : World) (g : Addr) (x : Str) (v : Value) (s : Shared) : Shared := { s with heap := s.heap.update g (Obj.putName x (nameHash w x) (.str x s.toks) v), toks := s.toks + 1 }
theorem wp_nsSet_at {a : Addr} {m : Str → Option Value} (hn : s.heap.Ns a m) {x : Str} {v : Value} {Q : Unit → Shared → Prop} (hq : Q () (bound w a x v s)) : wpAny (model prog w) A (nsSet a x v) Q E s := by
  intro Γ p _
  obtain ⟨o, es, ep, ho, hd, hk, hm⟩ := hn
  simp only [nsSet, strHash, Sem.wp_bind', Sem.wp_cmd_ask, Sem.wp_pure', Sem.wp_cmd_mkText]
  rw [Sem.wp_loadPart_of _ Γ _ p { s with toks := s.toks + 1 } (o := o) _ ho]
  have hany : es.any (·.refKey) = false := by
    rw [Array.any_eq_false']; intro e he; obtain ⟨n, t, h⟩ := hk e he; simp [DictEntry.refKey, h]
  simp only [hd, aRefKeyMayBeTheName_eq, aRefKeyMayBeTheNameByArray, hany, Bool.and_false, Bool.false_eq_true, if_false, Sem.wp_cmd_updatePart]
  refine ⟨by rw [ho]; rfl, ?_⟩
  exact hq
theorem ns_keep {h h' : Heap} {a : Addr} {m : Str → Option Value} (n : h.Ns a m) (k : ∀ b o, h.get? b = some o → h'.get? b = some o) : h'.Ns a m := by
  obtain ⟨o, es, ep, ho, rest⟩ := n
  exact ⟨o, es, ep, k _ _ ho, rest⟩
/-- the state behind the statement -/
def told (prog : Program) (w : World) (g : Addr) (x : Str) (rs : List Row) (s : Shared) : Shared := bound w g x (.ref s.heap.objs.size) (shown prog w s (rs.take 17) ((rs.drop 17).take 17) (rs.drop 34))
theorem wp_assign {g : Addr} {m : Str → Option Value} {x : Str} {tp pos dpos : Pos} {ks : List (Option Expr)} {vs : List Expr} {rs : List Row} (hn : s.heap.Ns g m) (hst : ∀ v, storeName env x v = nsSet g x v)
    (hu : A.units < cLine) (hm : sysModules < s.heap.objs.size) (hr : rowsOf ks vs = some rs) (hz : small rs = true) (l1 : 34 < rs.length) (l2 : rs.length ≤ 49) (nd : (rs.map keyOf).Nodup)
    {Q : Flow → Shared → Prop} (hq : Q .next (told prog w g x rs s)) : wpAny (model prog w) A (exec (.Assign [.Name x tp] (.Dict ks vs dpos) pos) env) Q E s := by
  rw [exec_Assign]
  refine wpAny_bind (wpAny_standAt ?_)
  rw [show swapsWithSole [.Name x tp] (.Dict ks vs dpos) pos.line env = pure false from rfl]
  refine wpAny_bind (wpAny_pure ?_)
  rw [if_neg (by decide)]
  refine wpAny_bind (wp_Dict hu hm hr hz l1 l2 nd ?_)
  rw [show swappedStores [.Name x tp] (.Dict ks vs dpos) env = pure none from rfl]
  refine wpAny_bind (wpAny_pure ?_)
  show wpAny _ A (do assignAll _ [assign (.Name x tp) env]; pure .next) Q E _
  refine wpAny_bind ?_
  show wpAny _ A (assign (.Name x tp) env _) _ E _
  refine assign_Name ?_
  rw [hst]
  exact wp_nsSet_at (ns_keep hn fun b o e => shown_get e) (wpAny_pure hq)
end
/-- the same, of the top's own place -/
theorem mid_of {prog : Program} {w : World} {s : Shared} {env : Env} {g : Addr} {m : Str → Option Value} {x : Str} {tp pos dpos : Pos} {ks : List (Option Expr)} {vs : List Expr} {rs : List Row} {c : Code} {p : Pos} (hn : s.heap.Ns g m) (hst : ∀ v, storeName env x v = nsSet g x v)
    (hu : (Ctx.of c [topFrame p]).units < cLine) (hm : sysModules < s.heap.objs.size) (hr : rowsOf ks vs = some rs) (hz : small rs = true) (l1 : 34 < rs.length) (l2 : rs.length ≤ 49) (nd : (rs.map keyOf).Nodup) (p' : Pos) :
    Sem.wp (model prog w) (Ctx.of c [topFrame p]) (exec (.Assign [.Name x tp] (.Dict ks vs dpos) pos) env) (fun f _ s' => f = .next ∧ s' = told prog w g x rs s) (fun _ _ _ => False) p' s := by
  have W := wp_assign (prog := prog) (w := w) (A := { handled := (Ctx.of c [topFrame p]).handled, depth := frameCount (Ctx.of c [topFrame p]).below + (Ctx.of c [topFrame p]).code.weight, units := (Ctx.of c [topFrame p]).units }) (E := fun _ _ => False) (env := env) (tp := tp) (pos := pos) (dpos := dpos) hn hst hu hm hr hz l1 l2 nd
    (Q := fun f s' => f = .next ∧ s' = told prog w g x rs s) ⟨rfl, rfl⟩
  exact W _ p' ⟨rfl, Nat.le_refl _, (fun l h => by cases h), (fun l h => by cases h), Nat.le_refl _⟩
end TopX
/-! ### the same state as a tree, for the kernel -/
namespace TopX
open PySem PySem.W PySem.Calls PyProof.Rows HandSHeadRun
section
variable {prog : Program} {w : World}
def pushT (o : Obj) (k : Nat) (s : SharedT) : Option SharedT := match ((s.tree.ins s.n o).get s.n).isSome with
  | true => frNat (s.n + 1) fun n => frNat (s.toks + k) fun t => some ⟨s.tree.ins s.n o, n, s.life, s.gens, s.drawn, t, s.os⟩
  | false => none
def setT (a : Addr) (f : Obj → Obj) (k : Nat) (s : SharedT) : Option SharedT := match (s.tree.get a).isSome with
  | true => frNat (s.toks + k) fun t => some ⟨s.tree.set a f, s.n, s.life, s.gens, s.drawn, t, s.os⟩
  | false => none
theorem pushT_ok {o : Obj} {k : Nat} {s s' : SharedT} (h : pushT o k s = some s') : s'.abs = { s.abs with heap := s.abs.heap.push o, toks := s.abs.toks + k } := by
  unfold pushT at h
  split at h
  · rename_i e
    rw [frNat_eq, frNat_eq] at h
    cases h
    show (⟨absHeap (s.tree.ins s.n o) (s.n + 1) s.life, s.gens, s.drawn, s.toks + k, s.os⟩ : Shared) = _
    rw [absHeap_ins e]
    rfl
  · cases h
theorem setT_ok {a : Addr} {f : Obj → Obj} {k : Nat} {s s' : SharedT} (h : setT a f k s = some s') : s'.abs = { s.abs with heap := s.abs.heap.update a f, toks := s.abs.toks + k } := by
  unfold setT at h
  split at h
  · rename_i e
    rw [frNat_eq] at h
    cases h
    obtain ⟨o, g⟩ := Option.isSome_iff_exists.mp e
    show (⟨absHeap (s.tree.set a f) s.n s.life, s.gens, s.drawn, s.toks + k, s.os⟩ : Shared) = _
    rw [absHeap_set g]
    rfl
  · cases h
theorem abs_size (s : SharedT) : s.abs.heap.objs.size = s.n := absHeap_size ..
def andThen {α β : Type} : Option α → (α → Option β) → Option β
  | some a, f => f a
  | none, _ => none
theorem andThen_some {α β : Type} {x : Option α} {f : α → Option β} {b : β} (h : andThen x f = some b) : ∃ a, x = some a ∧ f a = some b := by
  cases x with
  | none => cases h
  | some a => exact ⟨a, rfl, h⟩
def putF (w : World) (prog : Program) (x : Ent) : Obj → Obj := Obj.mapDictKeys (·.push (entryOfKey (KD prog w) x))
def rowT (prog : Program) (w : World) (d : Addr) (r : Row) (s : SharedT) : Option SharedT :=
  andThen (pushT (tupO r.1 s.toks) r.1.length s) fun s1 => andThen (pushT (tupO r.2 s1.toks) r.2.length s1) fun s2 => setT d (putF w prog (keyOf r, s.n, .ref s1.n)) ((KD prog w).draws (keyOf r)) s2
def rowsT (prog : Program) (w : World) (d : Addr) : List Row → SharedT → Option SharedT
  | [], s => some s
  | r :: rs, s => andThen (rowT prog w d r s) (rowsT prog w d rs)
def valsT : List Row → SharedT → Option SharedT
  | [], s => some s
  | r :: rs, s => andThen (pushT (tupO r.1 s.toks) r.1.length s) fun s1 => andThen (pushT (tupO r.2 s1.toks) r.2.length s1) (valsT rs)
def entsT (prog : Program) (w : World) (d : Addr) (k : Ent → Nat) : List Ent → SharedT → Option SharedT
  | [], s => some s
  | y :: ys, s => andThen (setT d (putF w prog y) (k y) s) (entsT prog w d k ys)
def entsN : Nat → List Row → List Ent
  | _, [] => []
  | n, r :: rs => (keyOf r, n, .ref (n + 1)) :: entsN (n + 2) rs
theorem entsOf_N : ∀ (rs : List Row) (d : Addr) (s : Shared), entsOf prog w d s rs = entsN s.heap.objs.size rs
  | [], _, _ => rfl
  | r :: rs, d, s => by
    show (keyOf r, s.heap.objs.size, Value.ref (putT s r.1).heap.objs.size) :: entsOf prog w d (putRow prog w d s r) rs = _
    rw [entsOf_N rs, sz_putRow, sz_putT]
    rfl
theorem entsV_N : ∀ (rs : List Row) (s : Shared), entsV s rs = entsN s.heap.objs.size rs
  | [], _ => rfl
  | r :: rs, s => by
    show (keyOf r, s.heap.objs.size, Value.ref (putT s r.1).heap.objs.size) :: entsV (putT (putT s r.1) r.2) rs = _
    rw [entsV_N rs, sz_putT, sz_putT, sz_putT]
    rfl
theorem putT_ok {ss : List Str} {s s' : SharedT} (h : pushT (tupO ss s.toks) ss.length s = some s') : s'.abs = putT s.abs ss := pushT_ok h
theorem rowT_ok {d : Addr} {r : Row} {s s' : SharedT} (h : rowT prog w d r s = some s') : s'.abs = putRow prog w d s.abs r := by
  obtain ⟨s1, h1, h⟩ := andThen_some h
  obtain ⟨s2, h2, h⟩ := andThen_some h
  rw [setT_ok h, putT_ok h2, ← abs_size s, ← abs_size s1, putT_ok h1]
  rfl
theorem rowsT_ok {d : Addr} : ∀ (rs : List Row) {s s' : SharedT}, rowsT prog w d rs s = some s' → s'.abs = putRows prog w d s.abs rs
  | [], _, _, h => by cases h; rfl
  | r :: rs, s, s', h => by
    obtain ⟨s1, h1, h⟩ := andThen_some h
    rw [rowsT_ok rs h, rowT_ok h1]
    rfl
theorem valsT_ok : ∀ (rs : List Row) {s s' : SharedT}, valsT rs s = some s' → s'.abs = putVals s.abs rs
  | [], _, _, h => by cases h; rfl
  | r :: rs, s, s', h => by
    obtain ⟨s1, h1, h⟩ := andThen_some h
    obtain ⟨s2, h2, h⟩ := andThen_some h
    rw [valsT_ok rs h, putT_ok h2, putT_ok h1]
    rfl
theorem entsT_put {d : Addr} : ∀ (ys : List Ent) {s s' : SharedT}, entsT prog w d (fun _ => 0) ys s = some s' → s'.abs = { s.abs with heap := putEnts prog w d s.abs.heap ys }
  | [], _, _, h => by cases h; rfl
  | y :: ys, s, s', h => by
    obtain ⟨s1, h1, h⟩ := andThen_some h
    rw [entsT_put ys h, setT_ok h1]
    rfl
theorem entsT_set {d : Addr} : ∀ (ys : List Ent) {s s' : SharedT}, entsT prog w d (fun y => (KD prog w).draws y.1) ys s = some s' → s'.abs = setEnts prog w d s.abs ys
  | [], _, _, h => by cases h; rfl
  | y :: ys, s, s', h => by
    obtain ⟨s1, h1, h⟩ := andThen_some h
    rw [entsT_set ys h, setT_ok h1]
    rfl
def dictO : Obj := { cls := .type "dict", data := .dict #[] }
def toldT (prog : Program) (w : World) (g : Addr) (x : Str) (rs : List Row) (s : SharedT) : Option SharedT :=
  andThen (pushT dictO 0 s) fun s0 => andThen (rowsT prog w s.n (rs.take 17) s0) fun s1 =>
  andThen (pushT dictO 0 s1) fun s2 => andThen (rowsT prog w s1.n ((rs.drop 17).take 17) s2) fun s2' => andThen (entsT prog w s.n (fun _ => 0) (entsN s2.n ((rs.drop 17).take 17)) s2') fun s3 =>
  andThen (pushT dictO 0 s3) fun s4 => andThen (valsT (rs.drop 34) s4) fun s5 => andThen (entsT prog w s3.n (fun y => (KD prog w).draws y.1) (entsN s4.n (rs.drop 34)) s5) fun s6 => andThen (entsT prog w s.n (fun _ => 0) (entsN s4.n (rs.drop 34)) s6) fun s7 =>
  setT g (Obj.putName x (nameHash w x) (.str x s7.toks) (.ref s.n)) 1 s7
theorem toldT_ok {g : Addr} {x : Str} {rs : List Row} {s s' : SharedT} (h : toldT prog w g x rs s = some s') : s'.abs = told prog w g x rs s.abs := by
  obtain ⟨s0, h0, h⟩ := andThen_some h
  obtain ⟨s1, h1, h⟩ := andThen_some h
  obtain ⟨s2, h2, h⟩ := andThen_some h
  obtain ⟨s2', h2', h⟩ := andThen_some h
  obtain ⟨s3, h3, h⟩ := andThen_some h
  obtain ⟨s4, h4, h⟩ := andThen_some h
  obtain ⟨s5, h5, h⟩ := andThen_some h
  obtain ⟨s6, h6, h⟩ := andThen_some h
  obtain ⟨s7, h7, h⟩ := andThen_some h
  have e0 : s0.abs = newD s.abs := pushT_ok h0
  have e1 : s1.abs = putRows prog w s.abs.heap.objs.size (newD s.abs) (rs.take 17) := by rw [rowsT_ok _ h1, e0, abs_size]
  have e2 : s2.abs = newD s1.abs := pushT_ok h2
  have e3 : s3.abs = long2 prog w s.abs.heap.objs.size s1.abs ((rs.drop 17).take 17) := by
    rw [entsT_put _ h3, rowsT_ok _ h2', ← abs_size s1, ← abs_size s2, ← entsOf_N (prog := prog) (w := w) _ s1.abs.heap.objs.size, e2, abs_size s]
    rfl
  have e4 : s4.abs = newD s3.abs := pushT_ok h4
  have e7 : s7.abs = short2 prog w s.abs.heap.objs.size s3.abs (rs.drop 34) := by
    rw [entsT_put _ h7, entsT_set _ h6, valsT_ok _ h5, ← abs_size s3, ← abs_size s4, ← entsV_N, e4, abs_size s]
    rfl
  rw [setT_ok h]
  unfold told bound shown
  rw [← e1, ← e3, ← e7]
  rw [abs_size s]
  rfl
end
end TopX
/-! ### the dict behind the statement -/
namespace TopX
open PySem PySem.W PySem.Calls PyProof.Rows HandSHeadRun
section
variable {prog : Program} {w : World} {s : Shared}
/-- an entry of a row, its value's object there -/
def EntIs (n : Nat) (h : Heap) (e : Ent) (r : Row) : Prop := e.1 = keyOf r ∧ n ≤ e.2.1 ∧ ∃ b t, e.2.2 = .ref b ∧ n ≤ b ∧ h.get? b = some (tupO r.2 t)
theorem EntIs.mono {n : Nat} {h h' : Heap} {e : Ent} {r : Row} (x : EntIs n h e r) (k : ∀ b o, n ≤ b → h.get? b = some o → h'.get? b = some o) : EntIs n h' e r := by
  obtain ⟨a, b, c, t, d, f, g⟩ := x
  exact ⟨a, b, c, t, d, f, k _ _ f g⟩
theorem Paired.mono {α β : Type _} {R S : α → β → Prop} (k : ∀ a b, R a b → S a b) : ∀ {as : List α} {bs : List β}, Paired R as bs → Paired S as bs
  | _, _, .nil => .nil
  | _, _, .cons h t => .cons (k _ _ h) (Paired.mono k t)
theorem Paired.app {α β : Type _} {R : α → β → Prop} : ∀ {as as' : List α} {bs bs' : List β}, Paired R as bs → Paired R as' bs' → Paired R (as ++ as') (bs ++ bs')
  | _, _, _, _, .nil, y => y
  | _, _, _, _, .cons h t, y => .cons h (Paired.app t y)
theorem entsOf_is {d : Addr} {n : Nat} : ∀ (rs : List Row) (s : Shared), d < s.heap.objs.size → n ≤ s.heap.objs.size → Paired (EntIs n (putRows prog w d s rs).heap) (entsOf prog w d s rs) rs
  | [], _, _, _ => .nil
  | r :: rs, s, hd, hn => by
    have sz : s.heap.objs.size ≤ (putRow prog w d s r).heap.objs.size := by rw [sz_putRow]; omega
    refine .cons ⟨rfl, hn, (putT s r.1).heap.objs.size, (putT s r.1).toks, rfl, Nat.le_trans hn (by rw [sz_putT]; omega), ?_⟩ (entsOf_is rs (putRow prog w d s r) (Nat.lt_of_lt_of_le hd sz) (Nat.le_trans hn sz))
    refine get_putRows (prog := prog) (w := w) rs (Nat.ne_of_gt (Nat.lt_of_lt_of_le hd (by rw [sz_putT]; omega))) ?_
    show (put1 (KD prog w) d (putT (putT s r.1) r.2).heap _).get? _ = _
    rw [put_other (Nat.ne_of_gt (Nat.lt_of_lt_of_le hd (by rw [sz_putT]; omega)))]
    exact putT_new (s := putT s r.1)
theorem entsV_at {n : Nat} : ∀ (rs : List Row) (s : Shared), n ≤ s.heap.objs.size → Paired (EntIs n (putVals s rs).heap) (entsV s rs) rs
  | [], _, _ => .nil
  | r :: rs, s, hn => by
    refine .cons ⟨rfl, hn, (putT s r.1).heap.objs.size, (putT s r.1).toks, rfl, Nat.le_trans hn (by rw [sz_putT]; omega), putVals_get rs (putT_new (s := putT s r.1))⟩ (entsV_at rs (putT (putT s r.1) r.2) (Nat.le_trans hn (by rw [sz_putT, sz_putT]; omega)))
theorem told_dict {g : Addr} {x : Str} {rs : List Row} (hg : g < s.heap.objs.size) (nd : (rs.map keyOf).Nodup) :
    ∃ ents, (told prog w g x rs s).heap.DictOfH (KD prog w) s.heap.objs.size ents ∧ Paired (EntIs s.heap.objs.size (told prog w g x rs s).heap) ents rs := by
  have er : rs = rs.take 17 ++ (rs.drop 17).take 17 ++ rs.drop 34 := by
    rw [List.append_assoc, show rs.drop 34 = (rs.drop 17).drop 17 by rw [List.drop_drop], List.take_append_drop, List.take_append_drop]
  unfold told
  generalize rs.take 17 = r1 at er ⊢
  generalize (rs.drop 17).take 17 = r2 at er ⊢
  generalize rs.drop 34 = r3 at er ⊢
  subst er
  rw [List.map_append, List.map_append] at nd
  have n12 := (List.nodup_append.mp nd).1
  have n1 := (List.nodup_append.mp n12).1
  have n2 := (List.nodup_append.mp n12).2.1
  have n3 := (List.nodup_append.mp nd).2.1
  suffices H : ∃ ents, (shown prog w s r1 r2 r3).heap.DictOfH (KD prog w) s.heap.objs.size ents ∧ Paired (EntIs s.heap.objs.size (shown prog w s r1 r2 r3).heap) ents (r1 ++ r2 ++ r3) by
    obtain ⟨ents, hd, hp⟩ := H
    have k : ∀ b o, s.heap.objs.size ≤ b → (shown prog w s r1 r2 r3).heap.get? b = some o → (bound w g x (.ref s.heap.objs.size) (shown prog w s r1 r2 r3)).heap.get? b = some o := fun b o l e => (Heap.get?_update_ne _ _ _ _ (Nat.ne_of_gt (Nat.lt_of_lt_of_le hg l))).trans e
    refine ⟨ents, ?_, Paired.mono (fun _ _ y => y.mono k) hp⟩
    obtain ⟨o, es, ep, ho, hc, hdat, he, his, hn⟩ := hd
    refine ⟨o, es, ep, k _ _ (Nat.le_refl _) ho, hc, hdat, he, fun e me => ?_, hn⟩
    have lo : s.heap.objs.size ≤ e.2.1 := by
      have : ∀ {as : List Ent} {bs : List Row}, Paired (EntIs s.heap.objs.size (shown prog w s r1 r2 r3).heap) as bs → ∀ e ∈ as, s.heap.objs.size ≤ e.2.1 := fun {as bs} q => by
        induction q with
        | nil => exact fun _ h => nomatch h
        | cons h _ ih =>
          intro e me
          rcases List.mem_cons.mp me with rfl | me
          · exact h.2.1
          · exact ih e me
      exact this hp e me
    obtain ⟨o', its, n, e1, e2, e3, e4⟩ := his e me
    exact ⟨o', its, n, k _ _ lo e1, e2, e3, e4⟩
  have d1 := putRows_dict (prog := prog) (w := w) r1 [] (newD s) (Heap.DictOfH.new s.heap) (by simpa using n1)
  rw [List.nil_append] at d1
  have z0 : s.heap.objs.size < (newD s).heap.objs.size := by rw [sz_newD]; omega
  have q1 := entsOf_is (prog := prog) (w := w) (d := s.heap.objs.size) (n := s.heap.objs.size) r1 (newD s) z0 (Nat.le_of_lt z0)
  have e1 := entsOf_keys (prog := prog) (w := w) (d := s.heap.objs.size) r1 (newD s)
  have g1 : s.heap.objs.size < (putRows prog w s.heap.objs.size (newD s) r1).heap.objs.size := Nat.lt_of_lt_of_le z0 (by rw [sz_putRows]; omega)
  unfold shown
  generalize entsOf prog w s.heap.objs.size (newD s) r1 = x1 at d1 e1 q1
  generalize putRows prog w s.heap.objs.size (newD s) r1 = s1 at d1 g1 q1 ⊢
  have d2 := putRows_dict (prog := prog) (w := w) r2 [] (newD s1) (Heap.DictOfH.new s1.heap) (by simpa using n2)
  rw [List.nil_append] at d2
  have z1 : s1.heap.objs.size < (newD s1).heap.objs.size := by rw [sz_newD]; omega
  have q2 := entsOf_is (prog := prog) (w := w) (d := s1.heap.objs.size) (n := s.heap.objs.size) r2 (newD s1) z1 (Nat.le_of_lt (Nat.lt_trans g1 z1))
  have e2 := entsOf_keys (prog := prog) (w := w) (d := s1.heap.objs.size) r2 (newD s1)
  have k2 : ∀ b o, s1.heap.get? b = some o → (putRows prog w s1.heap.objs.size (newD s1) r2).heap.get? b = some o := fun b o e => get_putRows r2 (Nat.ne_of_lt (lt_of_get e)) (newD_get e)
  have d3 := putEnts_dict s _ _ _ (dict_keep d1 k2) (by obtain ⟨o, es, ep, _, _, _, _, his, _⟩ := d2; exact his) (by rw [e1, e2]; exact n12)
  have g3 : s.heap.objs.size < (long2 prog w s.heap.objs.size s1 r2).heap.objs.size := by
    refine Nat.lt_of_lt_of_le g1 ?_
    show s1.heap.objs.size ≤ (putEnts prog w s.heap.objs.size (putRows prog w s1.heap.objs.size (newD s1) r2).heap _).objs.size
    rw [sz_putEnts, sz_putRows, sz_newD]; omega
  have p3 : ∀ b o, s.heap.objs.size ≠ b → (putRows prog w s1.heap.objs.size (newD s1) r2).heap.get? b = some o → (long2 prog w s.heap.objs.size s1 r2).heap.get? b = some o := fun b o n e => get_putEnts _ n.symm e
  -- a value's object is no dict
  have nt : ∀ {h : Heap} {xs : List Ent} {ss : List Str} {t : Nat} {b : Addr}, h.DictOfH (KD prog w) s.heap.objs.size xs → h.get? b = some (tupO ss t) → s.heap.objs.size ≠ b := fun {h xs ss t b} m e z => by
    obtain ⟨o, es, ep, ho, hc, hdat, _⟩ := m
    rw [← z, ho] at e
    cases e
    cases hdat
  have up : ∀ {h h' : Heap} {xs : List Ent} {e : Ent} {r : Row}, h.DictOfH (KD prog w) s.heap.objs.size xs → (∀ b o, s.heap.objs.size ≠ b → h.get? b = some o → h'.get? b = some o) → EntIs s.heap.objs.size h e r → EntIs s.heap.objs.size h' e r := fun {h h' xs e r} m k x => by
    obtain ⟨a, b, c, t, d, f, g⟩ := x
    exact ⟨a, b, c, t, d, f, k _ _ (nt m g) g⟩
  have q3 : Paired (EntIs s.heap.objs.size (long2 prog w s.heap.objs.size s1 r2).heap) (x1 ++ entsOf prog w s1.heap.objs.size (newD s1) r2) (r1 ++ r2) :=
    Paired.app (Paired.mono (fun _ _ y => up (dict_keep d1 k2) p3 (y.mono fun b o _ e => k2 b o e)) q1) (Paired.mono (fun _ _ y => up (dict_keep d1 k2) p3 y) q2)
  change (long2 prog w s.heap.objs.size s1 r2).heap.DictOfH (KD prog w) _ _ at d3
  have e3 : (x1 ++ entsOf prog w s1.heap.objs.size (newD s1) r2).map (·.1) = r1.map keyOf ++ r2.map keyOf := by rw [List.map_append, e1, e2]
  generalize x1 ++ entsOf prog w s1.heap.objs.size (newD s1) r2 = x3 at d3 q3 e3
  generalize long2 prog w s.heap.objs.size s1 r2 = s3 at d3 g3 q3 ⊢
  have f4 := entsV_keys r3 (newD s3)
  have z3 : s3.heap.objs.size < (newD s3).heap.objs.size := by rw [sz_newD]; omega
  have q4 := entsV_at (n := s.heap.objs.size) r3 (newD s3) (Nat.le_of_lt (Nat.lt_trans g3 z3))
  have d4 := setEnts_dict (prog := prog) (w := w) (d := s3.heap.objs.size) (entsV (newD s3) r3) [] (putVals (newD s3) r3) (dict_keep (Heap.DictOfH.new s3.heap) fun b o e => putVals_get r3 e) (entsV_is r3 (newD s3)) (by rw [f4]; simpa using n3)
  rw [List.nil_append] at d4
  have k4 : ∀ b o, s3.heap.get? b = some o → (setEnts prog w s3.heap.objs.size (putVals (newD s3) r3) (entsV (newD s3) r3)).heap.get? b = some o := fun b o e => get_setEnts _ (Nat.ne_of_lt (lt_of_get e)) (putVals_get r3 (newD_get e))
  have d5 := putEnts_dict s _ _ _ (dict_keep d3 k4) (by obtain ⟨o, es, ep, _, _, _, _, his, _⟩ := d4; exact his) (by rw [e3, f4]; exact nd)
  have p5 : ∀ b o, s.heap.objs.size ≠ b → (setEnts prog w s3.heap.objs.size (putVals (newD s3) r3) (entsV (newD s3) r3)).heap.get? b = some o → (short2 prog w s.heap.objs.size s3 r3).heap.get? b = some o := fun b o n e => get_putEnts _ n.symm e
  -- the values of the short part stand behind its own entries too
  have q5 : Paired (EntIs s.heap.objs.size (setEnts prog w s3.heap.objs.size (putVals (newD s3) r3) (entsV (newD s3) r3)).heap) (entsV (newD s3) r3) r3 := by
    refine Paired.mono (fun _ _ y => ?_) q4
    obtain ⟨a, b, c, t, d, f, g⟩ := y
    refine ⟨a, b, c, t, d, f, get_setEnts _ (fun z => ?_) g⟩
    have hd0 : (putVals (newD s3) r3).heap.get? s3.heap.objs.size = some dictO := putVals_get r3 (Heap.get?_push_size _ rfl)
    rw [z, hd0] at g
    have q := congrArg (fun o : Option Obj => o.map Obj.cls) g
    simp [dictO, tupO] at q
  exact ⟨_, d5, Paired.app (Paired.mono (fun _ _ y => up (dict_keep d3 k4) p5 (y.mono fun b o _ e => k4 b o e)) q3) (Paired.mono (fun _ _ y => up (dict_keep d3 k4) p5 y) q5)⟩
end
end TopX
/-! ### the head: a top with such a statement -/
namespace TopX
open PySem PySem.W PySem.Calls PyProof.Rows HandSHeadRun
section
variable (sf : SharedT → Thread → Option (SharedT × Thread)) (z0 : Nat) (ann : Option Value)
def goK : Nat → SharedT → Thread → Option (SharedT × Thread)
  | 0, s, t => some (s, t)
  | m + 1, s, t => match through t with
    | true => none
    | false => match stepOk z0 ann t with
      | false => none
      | true => match sf s t with
        | some (s', t') => frS s' fun s' => goK m s' t'
        | none => none
end
theorem goK_ok {tb : String → Option Builtin} {p : Program} {w : World} {z0 : Nat} {ann : Option Value} : ∀ {m : Nat} {s s' : SharedT} {t t' : Thread}, goK (stepT (denote tb) p w) z0 ann m s t = some (s', t') → topGo tb p w z0 ann m s.abs t = some (s'.abs, t')
  | 0, _, _, _, _, h => by cases h; rfl
  | m + 1, s, s', t, t', h => by
    have hm : (match through t with
      | true => none
      | false => match stepOk z0 ann t with
        | false => none
        | true => match stepT (denote tb) p w s t with
          | some (s', t') => frS s' fun s' => goK (stepT (denote tb) p w) z0 ann m s' t'
          | none => none) = some (s', t') := h
    unfold topGo
    cases thr : through t with
    | true =>
      rw [thr] at hm
      cases hm
    | false =>
      rw [thr] at hm
      cases okt : stepOk z0 ann t with
      | false =>
        rw [okt] at hm
        cases hm
      | true =>
        rw [okt] at hm
        have hq : (match stepT (denote tb) p w s t with
          | some (s', t') => frS s' fun s' => goK (stepT (denote tb) p w) z0 ann m s' t'
          | none => none) = some (s', t') := hm
        cases stp : stepT (denote tb) p w s t with
        | none =>
          rw [stp] at hq
          cases hq
        | some r =>
          obtain ⟨s2, t2⟩ := r
          rw [stp] at hq
          have h3 : (frS s2 fun s' => goK (stepT (denote tb) p w) z0 ann m s' t2) = some (s', t') := hq
          rw [frS_eq] at h3
          have q := goK_ok h3
          rw [stepT_spec stp]
          exact q
section
variable (sf : SharedT → Thread → Option (SharedT × Thread)) (p : Program) (w : World) (os : OsState) (z0 k m : Nat)
noncomputable def aheadF : Option (SharedT × Thread) := match putAll (boot_heap w.params).objs.toList .nil 0 with
  | some (t, n) => (match Nat.beq n z0 with
    | true => goK sf z0 (bootAnn w) k (bootT w os (t, z0)) (topStub p)
    | false => none)
  | none => none
noncomputable def saT : SharedT := match aheadF sf p w os z0 k with
  | some (s, _) => s
  | none => bootT w os (.nil, 0)
end
theorem aheadF_ok {tb : String → Option Builtin} {p : Program} {w : World} {os : OsState} {z0 k : Nat} {s : SharedT} {t : Thread} (h : aheadF (stepT (denote tb) p w) p w os z0 k = some (s, t)) :
    (boot_heap w.params).objs.size = z0 ∧ topGo tb p w z0 (bootAnn w) k ⟨boot_heap w.params, #[], boot_drawn, boot_toks, os⟩ (topStub p) = some (s.abs, t) := by
  unfold aheadF at h
  cases e : putAll (boot_heap w.params).objs.toList .nil 0 with
  | none => rw [e] at h; cases h
  | some r =>
    obtain ⟨T, n⟩ := r
    rw [e] at h
    cases b : Nat.beq n z0 with
    | false =>
      have h' : (match Nat.beq n z0 with
        | true => goK (stepT (denote tb) p w) z0 (bootAnn w) k (bootT w os (T, z0)) (topStub p)
        | false => none) = some (s, t) := h
      rw [b] at h'
      cases h'
    | true =>
      have h' : (match Nat.beq n z0 with
        | true => goK (stepT (denote tb) p w) z0 (bootAnn w) k (bootT w os (T, z0)) (topStub p)
        | false => none) = some (s, t) := h
      rw [b] at h'
      have en : n = z0 := Nat.eq_of_beq_eq_true b
      subst en
      have q := goK_ok (show goK (stepT (denote tb) p w) n (bootAnn w) k (bootT w os (T, n)) (topStub p) = some (s, t) from h')
      have eh := putAll_heap e
      have sz : (boot_heap w.params).objs.size = n := by
        rw [← eh]
        exact absHeap_size T n _
      have eb : (bootT w os (T, n)).abs = ⟨boot_heap w.params, #[], boot_drawn, boot_toks, os⟩ := by
        show (⟨absHeap T n (boot_heap w.params).life, #[], boot_drawn, boot_toks, os⟩ : Shared) = _
        rw [eh]
      rw [eb] at q
      exact ⟨sz, q⟩
theorem saT_ok {sf : SharedT → Thread → Option (SharedT × Thread)} {p : Program} {w : World} {os : OsState} {z0 k : Nat} {t : Thread} (h : (aheadF sf p w os z0 k).map (·.2) = some t) : aheadF sf p w os z0 k = some (saT sf p w os z0 k, t) := by
  unfold saT
  cases e : aheadF sf p w os z0 k with
  | none => rw [e] at h; cases h
  | some r => rw [e] at h; cases h; rfl
/-! what stays -/
section
variable {prog : Program} {w : World}
theorem pushT_lf {o : Obj} {k : Nat} {s s' : SharedT} (h : pushT o k s = some s') : s'.life = s.life ∧ s'.os = s.os := by
  unfold pushT at h
  split at h
  · rw [frNat_eq, frNat_eq] at h
    cases h
    exact ⟨rfl, rfl⟩
  · cases h
theorem setT_lf {a : Addr} {f : Obj → Obj} {k : Nat} {s s' : SharedT} (h : setT a f k s = some s') : s'.life = s.life ∧ s'.os = s.os := by
  unfold setT at h
  split at h
  · rw [frNat_eq] at h
    cases h
    exact ⟨rfl, rfl⟩
  · cases h
abbrev Lf (s s' : SharedT) : Prop := s'.life = s.life ∧ s'.os = s.os
theorem Lf.tr {a b c : SharedT} (x : Lf a b) (y : Lf b c) : Lf a c := ⟨y.1.trans x.1, y.2.trans x.2⟩
theorem rowsT_lf {d : Addr} : ∀ (rs : List Row) {s s' : SharedT}, rowsT prog w d rs s = some s' → Lf s s'
  | [], _, _, h => by cases h; exact ⟨rfl, rfl⟩
  | r :: rs, s, s', h => by
    obtain ⟨s1, hm, h⟩ := andThen_some h
    obtain ⟨a, ha, hm⟩ := andThen_some hm
    obtain ⟨b, hb, hm⟩ := andThen_some hm
    exact Lf.tr (Lf.tr (pushT_lf ha) (Lf.tr (pushT_lf hb) (setT_lf hm))) (rowsT_lf rs h)
theorem valsT_lf : ∀ (rs : List Row) {s s' : SharedT}, valsT rs s = some s' → Lf s s'
  | [], _, _, h => by cases h; exact ⟨rfl, rfl⟩
  | r :: rs, s, s', h => by
    obtain ⟨s1, hm, h⟩ := andThen_some h
    obtain ⟨s2, hq, h⟩ := andThen_some h
    exact Lf.tr (Lf.tr (pushT_lf hm) (pushT_lf hq)) (valsT_lf rs h)
theorem entsT_lf {d : Addr} {k : Ent → Nat} : ∀ (ys : List Ent) {s s' : SharedT}, entsT prog w d k ys s = some s' → Lf s s'
  | [], _, _, h => by cases h; exact ⟨rfl, rfl⟩
  | y :: ys, s, s', h => by
    obtain ⟨s1, hm, h⟩ := andThen_some h
    exact Lf.tr (setT_lf hm) (entsT_lf ys h)
theorem toldT_lf {g : Addr} {x : Str} {rs : List Row} {s s' : SharedT} (h : toldT prog w g x rs s = some s') : Lf s s' := by
  obtain ⟨s0, h0, h⟩ := andThen_some h
  obtain ⟨s1, hm, h⟩ := andThen_some h
  obtain ⟨s2, hq, h⟩ := andThen_some h
  obtain ⟨s2', h2', h⟩ := andThen_some h
  obtain ⟨s3, h3, h⟩ := andThen_some h
  obtain ⟨s4, h4, h⟩ := andThen_some h
  obtain ⟨s5, h5, h⟩ := andThen_some h
  obtain ⟨s6, h6, h⟩ := andThen_some h
  obtain ⟨s7, h7, h⟩ := andThen_some h
  exact Lf.tr (pushT_lf h0) (Lf.tr (rowsT_lf _ hm) (Lf.tr (pushT_lf hq) (Lf.tr (rowsT_lf _ h2') (Lf.tr (entsT_lf _ h3) (Lf.tr (pushT_lf h4) (Lf.tr (valsT_lf _ h5) (Lf.tr (entsT_lf _ h6) (Lf.tr (entsT_lf _ h7) (setT_lf h)))))))))
theorem keeps_told {n₀ : Nat} {ann : Option Value} {x : Str} {rs : List Row} {s s' : SharedT} (h : toldT prog w mainNs x rs s = some s') : Keeps n₀ ann s.abs (told prog w mainNs x rs s.abs) := by
  obtain ⟨l, o⟩ := toldT_lf h
  have e := toldT_ok h
  refine ⟨?_, ?_, fun b ob _ hb _ _ g => ?_⟩
  · rw [← e]
    exact l
  · rw [← e]
    exact o
  · show (bound w mainNs x _ (shown prog w s.abs _ _ _)).heap.get? b = _
    exact (Heap.get?_update_ne _ _ _ _ hb).trans (shown_get g)
end
/-! the dict, in a fragment -/
structure PlK (prog : Program) (w : World) (K : PySem.W.Frag) (d : Addr) (ents : List Ent) (rs : List Row) : Prop where
  nos : (d == sysModules) = false
  dict : ∃ o es ep, K.lookup d = some o ∧ o.ExactDict ∧ o.data = .dict es ep ∧ es.toList = ents.map (entryOfKey (KD prog w))
  keys : ∀ e ∈ ents, ∃ o its n, K.lookup e.2.1 = some o ∧ o.cls = .type "tuple" ∧ o.data = .seq its n ∧ ItemsAre (L2.mixKind prog w) e.1 its.toList
  once : (ents.map (·.1)).Nodup
  vals : Paired (fun (e : Ent) (r : Row) => e.1 = keyOf r ∧ ∃ b t, e.2.2 = .ref b ∧ K.lookup b = some (tupO r.2 t)) ents rs
theorem PlK.at {prog : Program} {w : World} {K : PySem.W.Frag} {d : Addr} {ents : List Ent} {rs : List Row} (x : PlK prog w K d ents rs) {h : Heap} (X : K.In h) : h.DictOfH (KD prog w) d ents := by
  obtain ⟨o, es, ep, a, b, c, e⟩ := x.dict
  refine ⟨o, es, ep, X _ _ a, b, c, e, fun y hy => ?_, x.once⟩
  obtain ⟨o', its, n, e1, e2, e3, e4⟩ := x.keys y hy
  exact ⟨o', its, n, X _ _ e1, e2, e3, e4⟩
theorem frG_look {g : Addr → Option Obj} {a : Addr} {o : Obj} (e : g a = some o) : ∀ (as : List Addr), a ∈ as → (He.frG g as).lookup a = some o
  | [], h => nomatch h
  | b :: r, h => by
    unfold He.frG
    rw [List.filterMap_cons]
    cases hb : g b with
    | none =>
      rcases List.mem_cons.mp h with rfl | h
      · rw [e] at hb; cases hb
      · exact frG_look e r h
    | some u =>
      show List.lookup a ((b, u) :: He.frG g r) = _
      by_cases q : a = b
      · subst q
        rw [e] at hb
        cases hb
        simp [List.lookup]
      · rw [List.lookup_cons, beq_eq_false_iff_ne.mpr q]
        rcases List.mem_cons.mp h with z | h
        · exact absurd z q
        · exact frG_look e r h
theorem paired_of {α β : Type _} {R S : α → β → Prop} : ∀ {as : List α} {bs : List β}, (∀ a b, a ∈ as → R a b → S a b) → Paired R as bs → Paired S as bs
  | _, _, _, .nil => .nil
  | _, _, k, .cons h t => .cons (k _ _ (.head _) h) (paired_of (fun a b m => k a b (.tail _ m)) t)
theorem plk_of {prog : Program} {w : World} {K : PySem.W.Frag} {n : Nat} {h : Heap} {ents : List Ent} {rs : List Row} (stp : (n == sysModules) = false) (hd : h.DictOfH (KD prog w) n ents) (hp : Paired (EntIs n h) ents rs) (look : ∀ a o, n ≤ a → h.get? a = some o → K.lookup a = some o) : PlK prog w K n ents rs := by
  obtain ⟨o, es, ep, a, b, c, e, ks, nd⟩ := hd
  have lo : ∀ {as : List Ent} {bs : List Row}, Paired (EntIs n h) as bs → ∀ e ∈ as, n ≤ e.2.1 := fun {as bs} q => by
    induction q with
    | nil => exact fun _ h => nomatch h
    | cons h _ ih =>
      intro e me
      rcases List.mem_cons.mp me with rfl | me
      · exact h.2.1
      · exact ih e me
  refine ⟨stp, ⟨o, es, ep, look _ _ (Nat.le_refl _) a, b, c, e⟩, fun y hy => ?_, nd, paired_of (fun e r _ y => ?_) hp⟩
  · obtain ⟨o', its, m, e1, e2, e3, e4⟩ := ks y hy
    exact ⟨o', its, m, look _ _ (lo hp y hy) e1, e2, e3, e4⟩
  · obtain ⟨y1, _, bb, t, y2, y3, y4⟩ := y
    exact ⟨y1, bb, t, y2, look _ _ y3 y4⟩
end TopX
/-! ### text keys of a small dict -/
namespace TopX
open PySem PySem.W PySem.Calls PyProof.Rows
section
variable {prog : Program} {w : World} {A : Around} {E : Value → Shared → Prop} {s : Shared} {d : Addr}
theorem key_text (x : Str) (t : Nat) : (L2.mixKind prog w).is (.inr x) (.str x t) = true := by show L2.keyIs (.inr x) (.str x t) = true; simp [L2.keyIs, Value.isStrOf]
theorem wp_setS {o : Obj} {es : Array DictEntry} {ep : Nat} {x : Str} {t : Nat} {v : Value} (ho : s.heap.get? d = some o) (hd : o.data = .dict es ep) (ks : KeysOf (L2.mixKind prog w) es) (new : (es.findIdx? fun e => (L2.mixKind prog w).is (.inr x) e.key) = none) (small : es.size ≤ sizeLine)
    {Q : Unit → Shared → Prop} (hq : Q () { s with heap := s.heap.update d (Obj.mapDictKeys (·.push ⟨(L2.mixKind prog w).hash (.inr x), .str x t, v⟩)), toks := s.toks + 1 }) : wpAny (model prog w) A (dictSet d (.str x t) v) Q E s := by
  unfold dictSet
  refine wpAny_holding ?_
  refine wpAny_bind ((L2.mixKind prog w).pyHash (key_text x t) ?_)
  unfold dictSetHashed
  refine wpAny_holding ?_
  refine wpAny_bind (wpAny_dictFind_of (knd := L2.mixKind prog w) (s := { s with toks := s.toks + 1 }) (key_text x t) ho hd ks ?_)
  rw [new]
  exact wpAny_bind (wpAny_rule (wpAny_updateDictKeys (s := { s with toks := s.toks + 1 }) (hz := small) ho hd hq))
theorem wp_text {x : Str} {Q : Value → Shared → Prop} (hq : Q (.str x s.toks) { s with toks := s.toks + 1 }) : wpAny (model prog w) A (mkText x) Q E s := by
  unfold mkText
  exact wpAny_bind (wpAny_fresh (wpAny_pure hq))
end
end TopX
/-! ### a display of texts to constants, told exactly -/
namespace TopX
open PySem PySem.W PySem.Calls PyProof.Rows HandSHeadRun
inductive CV where
  | int (i : Int)
  | str (x : Str)
def CV.val : CV → Nat → Value
  | .int i, t => .int i t
  | .str x, t => .str x t
def CV.expr : CV → Nat → Pos → Expr
  | .int i, k, p => .Constant (.int i) k p
  | .str x, k, p => .Constant (.str x) k p
def CV.mk : CV → Sem Value
  | .int i => mkInt i
  | .str x => mkText x
/-- a pair of the display -/
structure FE where
  k : Str
  kk : Nat
  kp : Pos
  v : CV
  vk : Nat
  vp : Pos
/-- what stands in it: text, its token, value -/
abbrev FV := Str × Nat × Value
def entF (prog : Program) (w : World) (e : FV) : DictEntry := ⟨(L2.mixKind prog w).hash (.inr e.1), .str e.1 e.2.1, e.2.2⟩
def entsF : List FE → Nat → List FV
  | [], _ => []
  | e :: r, t => (e.k, t, e.v.val (t + 1)) :: entsF r (t + 2)
theorem entsF_keys : ∀ (l : List FE) (t : Nat), (entsF l t).map (·.1) = l.map FE.k
  | [], _ => rfl
  | e :: r, t => by rw [entsF, List.map_cons, List.map_cons, entsF_keys r]
theorem entsF_len : ∀ (l : List FE) (t : Nat), (entsF l t).length = l.length
  | [], _ => rfl
  | e :: r, t => by rw [entsF, List.length_cons, List.length_cons, entsF_len r]
def store1 (prog : Program) (w : World) (d : Addr) (e : FV) (s : Shared) : Shared := { s with heap := s.heap.update d (Obj.mapDictKeys (·.push (entF prog w e))), toks := s.toks + 1 }
def storeF (prog : Program) (w : World) (d : Addr) : List FV → Shared → Shared
  | [], s => s
  | e :: r, s => storeF prog w d r (store1 prog w d e s)
def bumpT (k : Nat) (s : Shared) : Shared := { s with toks := s.toks + k }
/-- the state behind the display -/
def flat (prog : Program) (w : World) (l : List FE) (s : Shared) : Shared := storeF prog w s.heap.objs.size (entsF l s.toks) (bumpT (2 * l.length) (newD s))
section
variable {prog : Program} {w : World} {A : Around} {E : Value → Shared → Prop} {s : Shared} {d : Addr} {env : Env}
/-- the dict so far -/
def Has (prog : Program) (w : World) (d : Addr) (l : List FV) (h : Heap) : Prop := ∃ ep, h.get? d = some { cls := .type "dict", data := .dict (l.map (entF prog w)).toArray ep }
theorem Has.put {l : List FV} {e : FV} (h : Has prog w d l s.heap) : Has prog w d (l ++ [e]) (store1 prog w d e s).heap := by
  obtain ⟨ep, g⟩ := h
  refine ⟨ep + 1, (Heap.get?_update_self _ g rfl).trans ?_⟩
  rw [List.map_append, List.map_cons, List.map_nil, ← List.push_toArray]
  rfl
theorem Has.all : ∀ (r l : List FV) (s : Shared), Has prog w d l s.heap → Has prog w d (l ++ r) (storeF prog w d r s).heap
  | [], l, s, h => by rw [List.append_nil]; exact h
  | e :: r, l, s, h => by
    have q := Has.all r (l ++ [e]) (store1 prog w d e s) h.put
    rw [List.append_assoc] at q
    exact q
theorem keys_of (l : List FV) : KeysOf (L2.mixKind prog w) (l.map (entF prog w)).toArray := fun e h => by
  obtain ⟨x, _, rfl⟩ := List.mem_map.mp (List.mem_toArray.mp h)
  exact ⟨.inr x.1, key_text _ _, rfl⟩
theorem not_in {x : Str} : ∀ (l : List FV), x ∉ l.map (·.1) → ((l.map (entF prog w)).toArray.findIdx? fun e => (L2.mixKind prog w).is (.inr x) e.key) = none := fun l h => by
  rw [Array.findIdx?_eq_none_iff]
  intro e he
  obtain ⟨y, hy, rfl⟩ := List.mem_map.mp (List.mem_toArray.mp he)
  show L2.keyIs (.inr x) (.str y.1 y.2.1) = false
  have : x ≠ y.1 := fun z => h (List.mem_map.mpr ⟨y, hy, z.symm⟩)
  simp [L2.keyIs, Value.isStrOf, Ne.symm this]
theorem wp_storeF : ∀ (r l : List FV) (s : Shared) (Q : PUnit → Shared → Prop), Has prog w d l s.heap → (l.map (·.1) ++ r.map (·.1)).Nodup → l.length + r.length ≤ sizeLine → Q PUnit.unit (storeF prog w d r s) →
    wpAny (model prog w) A (forIn (r.map fun e => (Value.str e.1 e.2.1, e.2.2)) PUnit.unit fun (x : Value × Value) (_ : PUnit) => (do dictSet d x.1 x.2; pure (ForInStep.yield PUnit.unit) : Sem (ForInStep PUnit))) Q E s
  | [], _, s, Q, _, _, _, hq => by
    rw [List.map_nil, List.forIn_nil]
    exact wpAny_pure hq
  | e :: r, l, s, Q, h, nd, hl, hq => by
    rw [List.map_cons, List.forIn_cons]
    have nk : e.1 ∉ l.map (·.1) := fun z => (List.nodup_append.mp nd).2.2 _ z _ (.head _) rfl
    obtain ⟨ep, g⟩ := h
    rw [List.length_cons] at hl
    refine wpAny_bind (wpAny_bind (wp_setS g rfl (keys_of l) (not_in l nk) (by rw [List.size_toArray, List.length_map]; omega) (wpAny_pure ?_)))
    refine wp_storeF r (l ++ [e]) (store1 prog w d e s) Q (Has.put ⟨ep, g⟩) ?_ (by rw [List.length_append]; exact (by show l.length + 1 + r.length ≤ sizeLine; omega)) hq
    rw [List.map_append, List.append_assoc]
    exact nd
theorem wp_cv {c : CV} {Q : Value → Shared → Prop} (hq : Q (c.val s.toks) { s with toks := s.toks + 1 }) : wpAny (model prog w) A c.mk Q E s := by
  cases c with
  | int i => exact wpAny_mkInt hq
  | str x => exact wp_text hq
def semF (pos : Pos) (e : FE) : Sem Value × Sem Value := (mkText e.k, do let x ← e.v.mk; standAt pos; pure x)
theorem wp_pairsF {pos : Pos} : ∀ (l : List FE) (s : Shared) (Q : List (Value × Value) → Shared → Prop), Q ((entsF l s.toks).map fun e => (Value.str e.1 e.2.1, e.2.2)) (bumpT (2 * l.length) s) → wpAny (model prog w) A (evalPairs (l.map (semF pos))) Q E s
  | [], s, Q, hq => evalPairs_nil hq
  | e :: r, s, Q, hq => by
    rw [List.map_cons]
    refine evalPairs_cons (wp_text (wpAny_bind (wp_cv (wpAny_bind (wpAny_standAt (wpAny_pure ?_))))))
    refine wp_pairsF r _ _ ?_
    have e1 : bumpT (2 * r.length) { heap := s.heap, gens := s.gens, drawn := s.drawn, toks := s.toks + 1 + 1, os := s.os } = bumpT (2 * (e :: r).length) s := by
      unfold bumpT
      rw [List.length_cons, show s.toks + 1 + 1 + 2 * r.length = s.toks + 2 * (r.length + 1) by omega]
    rw [← e1] at hq
    exact hq
def keysF (l : List FE) : List (Option Expr) := l.map fun e => some (.Constant (.str e.k) e.kk e.kp)
def valsF (l : List FE) : List Expr := l.map fun e => e.v.expr e.vk e.vp
theorem zip_F {pos : Pos} : ∀ (l : List FE), (evalEachOpt (keysF l) env).zip ((evalEach (valsF l) env).map fun v => do let x ← v; standAt pos; pure x) = (l.map (semF pos)).map fun p => (some p.1, p.2)
  | [] => rfl
  | e :: r => by
    have h := zip_F (pos := pos) r
    have hd : eval (e.v.expr e.vk e.vp) env = e.v.mk := by cases e.v <;> rfl
    show (some (mkText e.k), (do let x ← eval (e.v.expr e.vk e.vp) env; standAt pos; pure x)) :: (evalEachOpt (keysF r) env).zip ((evalEach (valsF r) env).map fun v => do let x ← v; standAt pos; pure x) = (some (mkText e.k), (do let x ← e.v.mk; standAt pos; pure x)) :: (r.map (semF pos)).map fun p => (some p.1, p.2)
    rw [h, hd]
theorem newD_has : Has prog w s.heap.objs.size [] (newD s).heap := ⟨0, Heap.get?_push_size _ rfl⟩
theorem wp_flat {l : List FE} {pos : Pos} (h0 : l ≠ []) (hl : l.length ≤ 15) (nd : (l.map FE.k).Nodup) {Q : Value → Shared → Prop} (hq : Q (.ref s.heap.objs.size) (flat prog w l s)) :
    wpAny (model prog w) A (eval (.Dict (keysF l) (valsF l) pos) env) Q E s := by
  rw [arm_eval_Dict, zip_F, dictDisplay_pairs _ (by simpa using h0) (by rw [List.length_map]; omega)]
  refine wpAny_bind (wpAny_standAt (wpAny_bind ?_))
  unfold subDict
  refine wpAny_bind (wpAny_alloc (wpAny_bind (wpAny_holding ?_)))
  rw [if_pos (by rw [List.length_map]; exact hl)]
  refine wpAny_bind (wp_pairsF l _ _ ?_)
  refine wpAny_holding ?_
  refine wpAny_bind (wp_storeF _ [] _ _ ?_ ?_ ?_ (wpAny_pure (wpAny_pure (wpAny_pure hq))))
  · exact newD_has
  · show ((entsF l s.toks).map (·.1)).Nodup
    rw [entsF_keys]; exact nd
  · rw [sizeLine_eq, entsF_len, List.length_nil]; omega
/-- the state behind the statement -/
def toldF (prog : Program) (w : World) (g : Addr) (x : Str) (l : List FE) (s : Shared) : Shared := bound w g x (.ref s.heap.objs.size) (flat prog w l s)
theorem storeF_get {b : Addr} {o : Obj} : ∀ (r : List FV) (s : Shared), b ≠ d → s.heap.get? b = some o → (storeF prog w d r s).heap.get? b = some o
  | [], _, _, h => h
  | e :: r, s, n, h => storeF_get r (store1 prog w d e s) n ((Heap.get?_update_ne _ _ _ _ n).trans h)
theorem flat_get {l : List FE} {b : Addr} {o : Obj} (h : s.heap.get? b = some o) : (flat prog w l s).heap.get? b = some o := storeF_get _ _ (Nat.ne_of_lt (lt_of_get h)) (newD_get h)
theorem mid_flat {g : Addr} {m : Str → Option Value} {x : Str} {tp pos dpos : Pos} {l : List FE} {c : Code} {p : Pos} (hn : s.heap.Ns g m) (hst : ∀ v, storeName env x v = nsSet g x v) (h0 : l ≠ []) (hl : l.length ≤ 15) (nd : (l.map FE.k).Nodup) (p' : Pos) :
    Sem.wp (model prog w) (Ctx.of c [topFrame p]) (exec (.Assign [.Name x tp] (.Dict (keysF l) (valsF l) dpos) pos) env) (fun f _ s' => f = .next ∧ s' = toldF prog w g x l s) (fun _ _ _ => False) p' s := by
  have W : wpAny (model prog w) { handled := (Ctx.of c [topFrame p]).handled, depth := frameCount (Ctx.of c [topFrame p]).below + (Ctx.of c [topFrame p]).code.weight, units := (Ctx.of c [topFrame p]).units } (exec (.Assign [.Name x tp] (.Dict (keysF l) (valsF l) dpos) pos) env) (fun f s' => f = .next ∧ s' = toldF prog w g x l s) (fun _ _ => False) s := by
    rw [exec_Assign]
    refine wpAny_bind (wpAny_standAt ?_)
    rw [show swapsWithSole [.Name x tp] (.Dict (keysF l) (valsF l) dpos) pos.line env = pure false from rfl]
    refine wpAny_bind (wpAny_pure ?_)
    rw [if_neg (by decide)]
    refine wpAny_bind (wp_flat h0 hl nd ?_)
    rw [show swappedStores [.Name x tp] (.Dict (keysF l) (valsF l) dpos) env = pure none from rfl]
    refine wpAny_bind (wpAny_pure ?_)
    show wpAny _ _ (do assignAll _ [assign (.Name x tp) env]; pure Flow.next) _ _ _
    refine wpAny_bind ?_
    show wpAny _ _ (assign (.Name x tp) env _) _ _ _
    refine assign_Name ?_
    rw [hst]
    exact wp_nsSet_at (ns_keep hn fun b o e => flat_get e) (wpAny_pure ⟨rfl, rfl⟩)
  exact W _ p' ⟨rfl, Nat.le_refl _, (fun l h => by cases h), (fun l h => by cases h), Nat.le_refl _⟩
/-! the tree -/
def tokT (k : Nat) (s : SharedT) : Option SharedT := frNat (s.toks + k) fun t => some ⟨s.tree, s.n, s.life, s.gens, s.drawn, t, s.os⟩
theorem tokT_ok {k : Nat} {s s' : SharedT} (h : tokT k s = some s') : s'.abs = bumpT k s.abs := by
  unfold tokT at h
  rw [frNat_eq] at h
  cases h
  rfl
def storeT (prog : Program) (w : World) (d : Addr) : List FV → SharedT → Option SharedT
  | [], s => some s
  | e :: r, s => andThen (setT d (Obj.mapDictKeys (·.push (entF prog w e))) 1 s) (storeT prog w d r)
theorem storeT_ok : ∀ (r : List FV) {s s' : SharedT}, storeT prog w d r s = some s' → s'.abs = storeF prog w d r s.abs
  | [], _, _, h => by cases h; rfl
  | e :: r, s, s', h => by
    obtain ⟨s1, h1, h⟩ := andThen_some h
    rw [storeT_ok r h, setT_ok h1]
    rfl
def flatT (prog : Program) (w : World) (g : Addr) (x : Str) (l : List FE) (s : SharedT) : Option SharedT :=
  andThen (pushT dictO 0 s) fun s0 => andThen (tokT (2 * l.length) s0) fun s1 => andThen (storeT prog w s.n (entsF l s.toks) s1) fun s2 =>
  setT g (Obj.putName x (nameHash w x) (.str x s2.toks) (.ref s.n)) 1 s2
theorem flatT_ok {g : Addr} {x : Str} {l : List FE} {s s' : SharedT} (h : flatT prog w g x l s = some s') : s'.abs = toldF prog w g x l s.abs := by
  obtain ⟨s0, h0, h⟩ := andThen_some h
  obtain ⟨s1, h1, h⟩ := andThen_some h
  obtain ⟨s2, h2, h⟩ := andThen_some h
  have e0 : s0.abs = newD s.abs := pushT_ok h0
  have e2 : s2.abs = flat prog w l s.abs := by
    rw [storeT_ok _ h2, tokT_ok h1, e0]
    unfold flat
    rw [abs_size]
    rfl
  rw [setT_ok h]
  unfold toldF bound
  rw [← e2, abs_size]
  rfl
theorem tokT_lf {k : Nat} {s s' : SharedT} (h : tokT k s = some s') : Lf s s' := by
  unfold tokT at h
  rw [frNat_eq] at h
  cases h
  exact ⟨rfl, rfl⟩
theorem storeT_lf : ∀ (r : List FV) {s s' : SharedT}, storeT prog w d r s = some s' → Lf s s'
  | [], _, _, h => by cases h; exact ⟨rfl, rfl⟩
  | e :: r, s, s', h => by
    obtain ⟨s1, h1, h⟩ := andThen_some h
    exact Lf.tr (setT_lf h1) (storeT_lf r h)
theorem keeps_flat {n₀ : Nat} {ann : Option Value} {x : Str} {l : List FE} {s s' : SharedT} (h : flatT prog w mainNs x l s = some s') : Keeps n₀ ann s.abs (toldF prog w mainNs x l s.abs) := by
  have e := flatT_ok h
  obtain ⟨s0, h0, h⟩ := andThen_some h
  obtain ⟨s1, h1, h⟩ := andThen_some h
  obtain ⟨s2, h2, h⟩ := andThen_some h
  obtain ⟨lf, os⟩ := Lf.tr (pushT_lf h0) (Lf.tr (tokT_lf h1) (Lf.tr (storeT_lf _ h2) (setT_lf h)))
  refine ⟨?_, ?_, fun b ob _ hb _ _ g => ?_⟩
  · rw [← e]; exact lf
  · rw [← e]; exact os
  · exact (Heap.get?_update_ne _ _ _ _ hb).trans (flat_get g)
/-! the dict in a fragment -/
structure FlK (prog : Program) (w : World) (K : PySem.W.Frag) (d : Addr) (l : List FE) : Prop where
  nos : (d == sysModules) = false
  dict : ∃ t ep, K.lookup d = some { cls := .type "dict", data := .dict ((entsF l t).map (entF prog w)).toArray ep }
  once : (l.map FE.k).Nodup
theorem flk_of {K : PySem.W.Frag} {g : Addr} {x : Str} {l : List FE} (hg : g < s.heap.objs.size) (hs : (s.heap.objs.size == sysModules) = false) (nd : (l.map FE.k).Nodup) (look : ∀ a o, s.heap.objs.size ≤ a → (toldF prog w g x l s).heap.get? a = some o → K.lookup a = some o) : FlK prog w K s.heap.objs.size l := by
  refine ⟨hs, ?_, nd⟩
  obtain ⟨ep, e⟩ := Has.all (entsF l s.toks) [] (bumpT (2 * l.length) (newD s)) (newD_has (prog := prog) (w := w) (s := s))
  exact ⟨s.toks, ep, look _ _ (Nat.le_refl _) ((Heap.get?_update_ne _ _ _ _ (Nat.ne_of_gt hg)).trans e)⟩
end
end TopX
/-! ### a top with any number of such statements -/
namespace TopX
open PySem PySem.W PySem.Calls PyProof.Rows HandSHeadRun
/-- a statement that the calculus tells -/
inductive Told where
  | rows (x : Str) (tp pos dpos : Pos) (ks : List (Option Expr)) (vs : List Expr) (rs : List Row)
  | flat (x : Str) (tp pos dpos : Pos) (l : List FE)
namespace Told
def rowsIn : Told → List Row
  | rows _ _ _ _ _ _ rs => rs
  | flat _ _ _ _ _ => []
def fes : Told → List FE
  | rows _ _ _ _ _ _ _ => []
  | flat _ _ _ _ l => l
def isRows : Told → Bool
  | rows _ _ _ _ _ _ _ => true
  | flat _ _ _ _ _ => false
def name : Told → Str
  | rows x _ _ _ _ _ _ => x
  | flat x _ _ _ _ => x
def stmt : Told → Stmt
  | rows x tp pos dpos ks vs _ => .Assign [.Name x tp] (.Dict ks vs dpos) pos
  | flat x tp pos dpos l => .Assign [.Name x tp] (.Dict (keysF l) (valsF l) dpos) pos
def put (prog : Program) (w : World) : Told → SharedT → Option SharedT
  | rows x _ _ _ _ _ rs, s => toldT prog w mainNs x rs s
  | flat x _ _ _ l, s => flatT prog w mainNs x l s
def Fits : Told → Prop
  | rows _ _ _ _ ks vs rs => rowsOf ks vs = some rs ∧ small rs = true ∧ 34 < rs.length ∧ rs.length ≤ 49 ∧ (rs.map keyOf).Nodup
  | flat _ _ _ _ l => l ≠ [] ∧ l.length ≤ 15 ∧ (l.map FE.k).Nodup
def Says (prog : Program) (w : World) (K : PySem.W.Frag) (d : Addr) : Told → Prop
  | rows _ _ _ _ _ _ rs => ∃ ents, PlK prog w K d ents rs
  | flat _ _ _ _ l => FlK prog w K d l
instance : DecidablePred Fits := fun t => match t with
  | rows _ _ _ _ ks vs rs => (inferInstance : Decidable (rowsOf ks vs = some rs ∧ small rs = true ∧ 34 < rs.length ∧ rs.length ≤ 49 ∧ (rs.map keyOf).Nodup))
  | flat _ _ _ _ l => (decidable_of_iff (l.isEmpty = false ∧ l.length ≤ 15 ∧ (l.map FE.k).Nodup) (by cases l <;> simp [Fits]))
theorem says_rows {prog : Program} {w : World} {K : PySem.W.Frag} {d : Addr} {t : Told} (h : t.Says prog w K d) (r : t.isRows = true) : ∃ ents, PlK prog w K d ents t.rowsIn := by
  cases t with
  | rows => exact h
  | flat => cases r
theorem says_flat {prog : Program} {w : World} {K : PySem.W.Frag} {d : Addr} {t : Told} (h : t.Says prog w K d) (r : t.isRows = false) : FlK prog w K d t.fes := by
  cases t with
  | rows => cases r
  | flat => exact h
variable {prog : Program} {w : World} {t : Told} {s s' : SharedT}
theorem goes {env : Env} {c : Code} {p : Pos} (f : t.Fits) (h : t.put prog w s = some s') (ns : s.abs.heap.isNs mainNs = true) (big : sysModules < s.n) (hu : (Ctx.of c [topFrame p]).units < cLine) (hst : ∀ v, storeName env t.name v = nsSet mainNs t.name v) (p' : Pos) :
    Sem.wp (model prog w) (Ctx.of c [topFrame p]) (exec t.stmt env) (fun f _ u => f = .next ∧ u = s'.abs) (fun _ _ _ => False) p' s.abs := by
  cases t with
  | rows x tp pos dpos ks vs rs =>
    obtain ⟨h1, h2, h3, h4, h5⟩ := f
    rw [toldT_ok h]
    exact mid_of (.of_isNs ns) hst hu (by rw [abs_size]; exact big) h1 h2 h3 h4 h5 p'
  | flat x tp pos dpos l =>
    obtain ⟨h1, h2, h3⟩ := f
    rw [flatT_ok h]
    exact mid_flat (.of_isNs ns) hst h1 h2 h3 p'
theorem keeps {n₀ : Nat} {ann : Option Value} (h : t.put prog w s = some s') : Keeps n₀ ann s.abs s'.abs := by
  cases t with
  | rows x tp pos dpos ks vs rs => rw [toldT_ok h]; exact keeps_told h
  | flat x tp pos dpos l => rw [flatT_ok h]; exact keeps_flat h
theorem says {K : PySem.W.Frag} (f : t.Fits) (h : t.put prog w s = some s') (big : sysModules < s.n) (main : mainNs < s.n) (look : ∀ a o, s.n ≤ a → s'.abs.heap.get? a = some o → K.lookup a = some o) : t.Says prog w K s.n := by
  have e : (s.n == sysModules) = false := beq_eq_false_iff_ne.mpr (Nat.ne_of_gt big)
  cases t with
  | rows x tp pos dpos ks vs rs =>
    obtain ⟨h1, h2, h3, h4, h5⟩ := f
    rw [toldT_ok h] at look
    obtain ⟨ents, hd, hp⟩ := told_dict (prog := prog) (w := w) (s := s.abs) (g := mainNs) (x := x) (rs := rs) (by rw [abs_size]; exact main) h5
    rw [abs_size] at hd hp
    exact ⟨ents, plk_of e hd hp look⟩
  | flat x tp pos dpos l =>
    obtain ⟨h1, h2, h3⟩ := f
    rw [flatT_ok h] at look
    have q := flk_of (prog := prog) (w := w) (K := K) (s := s.abs) (g := mainNs) (x := x) (l := l) (by rw [abs_size]; exact main) (by rw [abs_size]; exact e) h3 (by rw [abs_size]; exact look)
    rw [abs_size] at q
    exact q
end Told
/-- where such a statement stood -/
structure Mid where
  a : Nat
  x : Str
  s : SharedT
def Mid.own (m : Mid) : List Addr := List.range' m.a (m.s.n - m.a)
abbrev StF := SharedT → Thread → Option (SharedT × Thread)
noncomputable abbrev stQ (p : Program) (w : World) : StF := stepQ (denQ tabQ) p w
theorem step_back (p : Program) (w : World) : stQ p w = stepT (denote treeTable) p w := by
  unfold stQ
  rw [← stepQ_eq, ← denQ_eq, ← tabQ_eq]
theorem boot_asleep (w : World) (os : OsState) : (⟨boot_heap w.params, #[], boot_drawn, boot_toks, os⟩ : Shared).asleep := ⟨by show (boot_heap w.params).life.registered = []; kernel_rfl, by show (boot_heap w.params).life.counting = false; kernel_rfl⟩
/-- no generator about -/
def calmT (s : SharedT) : Option SharedT := match s.gens.toList with
  | [] => some s
  | _ => none
theorem calmT_ok {s u : SharedT} (h : calmT s = some u) : u = s ∧ s.gens = #[] := by
  unfold calmT at h
  split at h
  · rename_i e
    cases h
    refine ⟨rfl, ?_⟩
    have := congrArg List.toArray e
    simpa using this
  · cases h
def roomT (s : SharedT) : Option SharedT := match s.abs.heap.isNs mainNs with
  | true => (match Nat.ble (sysModules + 1) s.n with
    | true => (match Nat.ble (mainNs + 1) s.n with
      | true => some s
      | false => none)
    | false => none)
  | false => none
theorem roomT_ok {s u : SharedT} (h : roomT s = some u) : u = s ∧ s.abs.heap.isNs mainNs = true ∧ sysModules < s.n ∧ mainNs < s.n := by
  unfold roomT at h
  split at h
  · rename_i e1
    split at h
    · rename_i e2
      split at h
      · rename_i e3
        cases h
        exact ⟨rfl, e1, Nat.le_of_ble_eq_true e2, Nat.le_of_ble_eq_true e3⟩
      · cases h
    · cases h
  · cases h
section
variable (prog : Program) (w : World) (z0 M : Nat) (env : Env) (c : Code) (pp : Pos)
/-- the kernel's part of a body -/
noncomputable def partF (m : Nat) (s : SharedT) (x : Sem Flow) (p : Pos) : Option SharedT := andThen (goF (stQ prog w) z0 (bootAnn w) m s (piece x c p pp)) calmT
abbrev Part := List Stmt × Told
def stmts : List Part → List Stmt → List Stmt
  | [], last => last
  | (l, t) :: rest, last => l ++ t.stmt :: stmts rest last
noncomputable def chain : List Part → List Stmt → SharedT → (Nat → Pos) → Option (SharedT × List Mid)
  | [], last, s, ps => andThen (partF prog w z0 c pp M s (execs last env) (ps 0)) fun r => some (r, [])
  | (l, t) :: rest, last, s, ps => andThen (partF prog w z0 c pp M s (execs l env) (ps 0)) fun s1 => andThen (roomT s1) fun s1 => andThen (t.put prog w s1) fun s2 =>
    andThen (chain rest last s2 fun i => ps (i + 1)) fun r => some (r.1, ⟨s1.n, t.name, s2⟩ :: r.2)
end
section
variable {prog : Program} {w : World} {z0 M : Nat} {env : Env} {c : Code} {pp : Pos}
theorem partF_ok {m : Nat} {s u : SharedT} {x : Sem Flow} {p : Pos} (h : partF prog w z0 c pp m s x p = some u) : topRun table prog w z0 (bootAnn w) m s.abs (piece x c p pp) = some u.abs ∧ u.abs.gens = #[] := by
  obtain ⟨v, h1, h2⟩ := andThen_some h
  obtain ⟨rfl, h3⟩ := calmT_ok h2
  rw [step_back] at h1
  have q := goF_ok h1
  rw [← table_eq_tree] at q
  exact ⟨q, h3⟩
theorem part_wp {m : Nat} {s u : SharedT} {x : Sem Flow} {p : Pos} (h : partF prog w z0 c pp m s x p = some u) : Sem.wp (model prog w) (Ctx.of c [topFrame pp]) x (fun f _ s' => f = .next ∧ s' = u.abs) (fun _ _ _ => False) p s.abs := by
  obtain ⟨a, b⟩ := partF_ok h
  exact piece_wp a b
theorem part_keeps {m : Nat} {s u : SharedT} {x : Sem Flow} {p : Pos} (h : partF prog w z0 c pp m s x p = some u) (z : s.abs.asleep) : Keeps z0 (bootAnn w) s.abs u.abs := by
  obtain ⟨a, b, d⟩ := left_of_top (partF_ok h).1 z
  exact ⟨a, b, d⟩
abbrev MidIs (prog : Program) (w : World) (t : Told) (m : Mid) : Prop := ∃ s1 : SharedT, s1.n = m.a ∧ t.put prog w s1 = some m.s ∧ m.x = t.name ∧ sysModules < s1.n ∧ mainNs < s1.n
theorem chain_mids : ∀ (segs : List Part) (last : List Stmt) (s : SharedT) (ps : Nat → Pos) (r : SharedT × List Mid), chain prog w z0 M env c pp segs last s ps = some r → Paired (MidIs prog w) (segs.map (·.2)) r.2 ∧ r.1.abs.gens = #[]
  | [], last, s, ps, r, h => by
    obtain ⟨u, h1, h2⟩ := andThen_some h
    cases h2
    exact ⟨.nil, (partF_ok h1).2⟩
  | (l, t) :: rest, last, s, ps, r, h => by
    obtain ⟨s1, h1, h⟩ := andThen_some h
    obtain ⟨s1', h2, h⟩ := andThen_some h
    obtain ⟨s2, h3, h⟩ := andThen_some h
    obtain ⟨r', h4, h5⟩ := andThen_some h
    cases h5
    obtain ⟨rfl, a, b, d⟩ := roomT_ok h2
    obtain ⟨q1, q2⟩ := chain_mids rest last s2 _ r' h4
    exact ⟨.cons ⟨_, rfl, h3, rfl, b, d⟩ q1, q2⟩
theorem wp_on {x : Sem Flow} {K : Flow → Sem Fin} {H : Value → Sem Fin} {Q : Fin → Pos → Shared → Prop} {E : Value → Pos → Shared → Prop} {R : Shared → Prop} {p : Pos} {s : Shared} (h : Sem.wp (model prog w) (Ctx.of c [topFrame pp]) x (fun f _ u => f = .next ∧ R u) (fun _ _ _ => False) p s)
    (k : ∀ p' u, R u → Sem.wp (model prog w) (Ctx.of c [topFrame pp]) (K .next) Q E p' u) : Sem.wp (model prog w) (Ctx.of c [topFrame pp]) (x.wrap K H id id) Q E p s := by
  rw [wp_wrapI]
  refine Sem.wp_mono _ _ x (fun f p' u hu => ?_) (fun e p' u hu => hu.elim) p s h
  obtain ⟨rfl, r⟩ := hu
  exact k p' u r
theorem chain_wp {last : List Stmt} (hu : (Ctx.of c [topFrame pp]).units < cLine) : ∀ (segs : List Part) (s : SharedT) (p : Pos) (G : SharedT × List Mid → Prop), (∀ x ∈ segs, x.2.Fits) → (∀ x ∈ segs, ∀ v, storeName env x.2.name v = nsSet mainNs x.2.name v) → s.abs.asleep →
    (∀ ps : Nat → Pos, ps 0 = p → ∃ r, chain prog w z0 M env c pp segs last s ps = some r ∧ G r) →
    ∀ (K : Flow → Sem Fin) (H : Value → Sem Fin) (Q : Fin → Pos → Shared → Prop) (E : Value → Pos → Shared → Prop), (∀ p' r, G r → Keeps z0 (bootAnn w) s.abs r.1.abs → Sem.wp (model prog w) (Ctx.of c [topFrame pp]) (K .next) Q E p' r.1.abs) →
    Sem.wp (model prog w) (Ctx.of c [topFrame pp]) ((execs (stmts segs last) env).wrap K H id id) Q E p s.abs
  | [], s, p, G, _, _, z, h, K, H, Q, E, k => by
    obtain ⟨r, h1, g⟩ := h (fun _ => p) rfl
    obtain ⟨u, h2, h3⟩ := andThen_some h1
    cases h3
    refine wp_on (R := fun v => v = u.abs) (part_wp h2) fun p' v hv => ?_
    cases hv
    exact k p' _ g (part_keeps h2 z)
  | (l, t) :: rest, s, p, G, fits, hst, z, h, K, H, Q, E, k => by
    have one : ∃ s1 s2, partF prog w z0 c pp M s (execs l env) p = some s1 ∧ roomT s1 = some s1 ∧ t.put prog w s1 = some s2 := by
      obtain ⟨r, h1, g⟩ := h (fun _ => p) rfl
      obtain ⟨s1, h1, h⟩ := andThen_some h1
      obtain ⟨s1', h2, h⟩ := andThen_some h
      obtain ⟨s2, h3, h⟩ := andThen_some h
      obtain ⟨rfl, _⟩ := roomT_ok h2
      exact ⟨_, s2, h1, h2, h3⟩
    obtain ⟨s1, s2, h1, h2, h3⟩ := one
    obtain ⟨_, a, b, d⟩ := roomT_ok h2
    have k1 := part_keeps h1 z
    have z1 : s1.abs.asleep := Shared.asleep_of_life k1.life z
    have k2 : Keeps z0 (bootAnn w) s1.abs s2.abs := Told.keeps h3
    have z2 : s2.abs.asleep := Shared.asleep_of_life k2.life z1
    show Sem.wp _ _ ((execs (l ++ t.stmt :: stmts rest last) env).wrap K H id id) _ _ _ _
    rw [execs_app_wrap]
    refine wp_on (R := fun v => v = s1.abs) (part_wp h1) fun p1 v hv => ?_
    cases hv
    show Sem.wp _ _ ((execs (t.stmt :: stmts rest last) env).wrap _ _ id id) _ _ _ _
    rw [execs_cons_wrap]
    refine wp_on (R := fun v => v = s2.abs) (Told.goes (fits _ (.head _)) h3 a b hu (hst _ (.head _)) p1) fun p2 v hv => ?_
    cases hv
    show Sem.wp _ _ ((execs (stmts rest last) env).wrap _ _ id id) _ _ _ _
    refine chain_wp hu rest s2 p2 (fun r => G (r.1, ⟨s1.n, t.name, s2⟩ :: r.2)) (fun x m => fits x (.tail _ m)) (fun x m => hst x (.tail _ m)) z2 (fun ps hp => ?_) _ _ _ _ fun p3 r g k3 => k p3 (r.1, ⟨s1.n, t.name, s2⟩ :: r.2) g ((k1.trans k2).trans k3)
    obtain ⟨r, q1, g⟩ := h (fun i => match i with
      | 0 => p
      | i + 1 => ps i) rfl
    obtain ⟨u1, q2, q⟩ := andThen_some q1
    obtain ⟨u1', q3, q⟩ := andThen_some q
    obtain ⟨u2, q4, q⟩ := andThen_some q
    obtain ⟨r', q5, q6⟩ := andThen_some q
    cases q6
    obtain rfl : s1 = u1 := Option.some.inj (h1.symm.trans q2)
    obtain ⟨rfl, _⟩ := roomT_ok q3
    obtain rfl : s2 = u2 := Option.some.inj (h3.symm.trans q4)
    exact ⟨r', q5, g⟩
end
/-- the plan of such a top -/
structure Many where
  p : Program
  q : Program
  loose : List Str
  n0 : Nat
  k : Nat
  m : Nat
  M : Nat
  env : Env
  segs : List Part
  last : List Stmt
  c : Code
  p0 : Pos
  pp : Pos
  deep : Nat
  fa : List He.Fa
  fn : List He.DefD
  ex : PySem.W.Frag → Bool
namespace Many
variable (P : Many) (w : World) (os : OsState)
def body : List Stmt := stmts P.segs P.last
def t0 : Sem Flow := (blockStart P.body P.env).bind fun _ => .pure .next
noncomputable def run (ps : Nat → Pos) : Option (SharedT × List Mid) := andThen (partF P.p w P.n0 P.c P.pp P.m (saT (stQ P.p w) P.p w os P.n0 P.k) P.t0 P.p0) fun s => chain P.p w P.n0 P.M P.env P.c P.pp P.segs P.last s ps
def frag (r : SharedT × List Mid) : PySem.W.Frag := He.frG (getT r.1) (He.asD (getT r.1) P.deep ++ r.2.flatMap Mid.own)
/-- what the kernel is asked -/
def F1 : Prop := (aheadF (stQ P.p w) P.p w os P.n0 P.k).map (·.2) = some ⟨denQ tabQ (.body P.body P.env), P.c, P.p0, [topFrame P.pp]⟩
def F2 (ps : Nat → Pos) (records : WRecords) : Prop :=
  ((P.run w os ps).map (fun r => (looksF P.p (boot_heap w.params) r.1.abs, HandSHeadRun.seenQ P.q P.loose (importedModules P.p.main.body) (fun s => xlAt P.q [] s && recOk records s) r.1.abs, He.obsD P.fa P.fn (P.frag r), P.ex (P.frag r), r.2.map (fun m => nsIn (P.frag r) mainGlobals m.x), r.2.map fun m => m.own.map (getT r.1))), (P.run w os ps).isSome) =
  ((P.run w os ps).map (fun r => (true, openGood P.q P.loose, He.valD P.fn, true, r.2.map (fun m => some (some (.ref m.a))), r.2.map fun m => m.own.map (getT m.s))), true)
/-- what is known behind the top -/
def Says (w : World) (h : Heap) : Prop := ∃ K : PySem.W.Frag, K.In h ∧ He.SaysD P.fa P.fn K ∧ P.ex K = true ∧ ∀ t ∈ P.segs.map (·.2), ∃ d, nsIn K mainGlobals t.name = some (some (.ref d)) ∧ t.Says P.p w K d
theorem keep {P : Many} : ∀ (w : World) (h h' : Heap), P.Says w h → (∀ b o, h.get? b = some o → h'.get? b = some o) → P.Says w h' := fun _ _ _ ⟨K, X, c, r⟩ k => ⟨K, X.keeps k, c, r⟩
theorem paired_mem {α β : Type _} {R : α → β → Prop} : ∀ {as : List α} {bs : List β}, Paired R as bs → ∀ a ∈ as, ∃ b ∈ bs, R a b
  | _, _, .nil, _, h => nomatch h
  | _, _, .cons h t, a, m => by
    rcases List.mem_cons.mp m with rfl | m
    · exact ⟨_, .head _, h⟩
    · obtain ⟨b, k, q⟩ := paired_mem t a m
      exact ⟨b, .tail _ k, q⟩
/-- what a run's end holds -/
structure Good (r : SharedT × List Mid) (records : WRecords) : Prop where
  look : looksF P.p (boot_heap w.params) r.1.abs = true
  seen : HandSHeadRun.seenQ P.q P.loose (importedModules P.p.main.body) (fun s => xlAt P.q [] s && recOk records s) r.1.abs = openGood P.q P.loose
  obs : He.obsD P.fa P.fn (P.frag r) = He.valD P.fn
  ex : P.ex (P.frag r) = true
  names : ∀ m ∈ r.2, nsIn (P.frag r) mainGlobals m.x = some (some (.ref m.a))
  own : ∀ m ∈ r.2, ∀ a ∈ m.own, getT r.1 a = getT m.s a
  mids : Paired (MidIs P.p w) (P.segs.map (·.2)) r.2
  gens : r.1.abs.gens = #[]
theorem good_of {P : Many} {w : World} {os : OsState} {ps : Nat → Pos} {records : WRecords} (f : P.F2 w os ps records) : ∃ r, P.run w os ps = some r ∧ P.Good w r records := by
  unfold F2 at f
  obtain ⟨f1, f2⟩ := Prod.mk.inj f
  obtain ⟨r, h⟩ := Option.isSome_iff_exists.mp f2
  rw [h] at f1
  have q := Option.some.inj f1
  simp only [Prod.mk.injEq] at q
  obtain ⟨q1, q2, q3, q0, q4, q5⟩ := q
  obtain ⟨s, _, h2⟩ := andThen_some h
  obtain ⟨m, g⟩ := chain_mids _ _ _ _ _ h2
  exact ⟨r, h, q1, q2, q3, q0, fun m hm => List.map_inj_left.mp q4 m hm, fun m hm a ha => List.map_inj_left.mp (List.map_inj_left.mp q5 m hm) a ha, m, g⟩
theorem Good.says {P : Many} {w : World} {r : SharedT × List Mid} {records : WRecords} (g : P.Good w r records) (fits : ∀ x ∈ P.segs, x.2.Fits) : P.Says w r.1.abs.heap := by
  have eg : getT r.1 = r.1.abs.heap.get? := funext fun a => getT_eq r.1 a
  refine ⟨P.frag r, ?_, g.obs, g.ex, fun t ht => ?_⟩
  · unfold frag
    rw [eg]
    exact He.frG_in
  · obtain ⟨x, hx, rfl⟩ := List.mem_map.mp ht
    obtain ⟨m, hm, s1, e1, e2, e3, e4, e5⟩ := paired_mem g.mids _ ht
    refine ⟨m.a, e3 ▸ g.names m hm, e1 ▸ Told.says (fits x hx) e2 e4 e5 fun a o la ha => ?_⟩
    have lt : a < m.s.n := by
      have l := Heap.lt_size ha
      rw [abs_size] at l
      exact l
    have mem : a ∈ m.own := List.mem_range'_1.mpr ⟨by rw [← e1]; exact la, by rw [← e1]; omega⟩
    have e : getT r.1 a = some o := (g.own m hm a mem).trans ((getT_eq m.s a).trans ha)
    exact frG_look e _ (List.mem_append.mpr (.inr (List.mem_flatMap.mpr ⟨m, hm, mem⟩)))
theorem behind {r : OpenRow} {P : Many} {w : World} (ep : P.p = r.prog) (e : opening r.prog = plainProg r.prog.main.scope.names) (f : ∀ s, fenceModules? r.prog s = some s) (hch : chainsOk P.q = true)
    (hu : (Ctx.of P.c [topFrame P.pp]).units < cLine) (hst : ∀ x ∈ P.segs, ∀ v, storeName P.env x.2.name v = nsSet mainNs x.2.name v) (fits : ∀ x ∈ P.segs, x.2.Fits)
    (F1 : ∀ os, P.F1 w os) (F2 : ∀ os ps, P.F2 w os ps r.toRowW.records) : Behind r P.q P.loose P.Says w := by
  refine behind_of e f hch fun os => ?_
  have a1 := saT_ok (F1 os)
  obtain ⟨_, hrun, _⟩ := good_of (F2 os fun _ => P.p0)
  obtain ⟨s0, hb, _⟩ := andThen_some hrun
  have all : ∀ ps, ∃ q, chain P.p w P.n0 P.M P.env P.c P.pp P.segs P.last s0 ps = some q ∧ P.Good w q r.toRowW.records := fun ps => by
    obtain ⟨q, h1, g⟩ := good_of (F2 os ps)
    obtain ⟨s', h2, h3⟩ := andThen_some h1
    obtain rfl : s0 = s' := Option.some.inj (hb.symm.trans h2)
    exact ⟨q, h3, g⟩
  generalize hsa : saT (stQ P.p w) P.p w os P.n0 P.k = sa at a1 hb
  rw [step_back] at a1
  rw [← denQ_eq, ← tabQ_eq] at a1
  obtain ⟨sz, pre⟩ := aheadF_ok a1
  rw [← table_eq_tree] at pre
  obtain ⟨l, o, fr⟩ := go_left pre
  have ka : Keeps P.n0 (bootAnn w) ⟨boot_heap w.params, #[], boot_drawn, boot_toks, os⟩ sa.abs := ⟨l, o, fr⟩
  have za : sa.abs.asleep := Shared.asleep_of_life l (boot_asleep w os)
  have k0 := part_keeps hb za
  have z0 : s0.abs.asleep := Shared.asleep_of_life k0.life za
  have W : Sem.wp (model P.p w) (Ctx.of P.c [topFrame P.pp]) (denote table (.body P.body P.env)) (Sem.finPost (model P.p w) (Ctx.of P.c [topFrame P.pp]) fun z u => z = .ok .next ∧ ∃ q, P.Good w q r.toRowW.records ∧ u = q.1.abs ∧ Keeps P.n0 (bootAnn w) s0.abs u) (fun e _ u => (Except.error e : Result) = .ok .next ∧ ∃ q, P.Good w q r.toRowW.records ∧ u = q.1.abs ∧ Keeps P.n0 (bootAnn w) s0.abs u) P.p0 sa.abs := by
    rw [body_wrap, wp_wrapI]
    have W1 := part_wp hb
    unfold t0 at W1
    rw [Sem.bind_eq_wrap, wp_wrapI] at W1
    refine Sem.wp_mono _ _ (blockStart P.body P.env) (fun _ p1 v h1 => ?_) (fun e p1 v h1 => ?_) P.p0 sa.abs W1
    · have h2 : Flow.next = Flow.next ∧ v = s0.abs := by simpa only [Sem.wp] using h1
      rw [h2.2]
      show Sem.wp _ _ ((execs (stmts P.segs P.last) P.env).wrap _ _ id id) _ _ _ _
      refine chain_wp hu P.segs s0 p1 (fun q => P.Good w q r.toRowW.records) fits hst z0 (fun ps _ => all ps) _ _ _ _ fun p2 q g kq => ?_
      show Sem.wp _ _ (Sem.pure (Fin.done .next)) _ _ _ _
      simp only [Sem.wp, Sem.finPost]
      exact ⟨trivial, q, g, rfl, kq⟩
    · simp only [Sem.wp] at h1
  obtain ⟨z, u, hR, rfl, q, g, rfl, kS⟩ := (Sem.wp_iff_runs (model P.p w) (Ctx.of P.c [topFrame P.pp]) _ (fun z u => z = .ok .next ∧ ∃ q, P.Good w q r.toRowW.records ∧ u = q.1.abs ∧ Keeps P.n0 (bootAnn w) s0.abs u) P.p0 sa.abs).mp W
  have re := reached_of_runs hR g.gens za
  have K := (ka.trans k0).trans kS
  rw [ep] at pre re
  refine ⟨q.1.abs, (Reached.go pre (boot_asleep w os) re).1, ⟨K.life, K.os, fun b o h1 h2 h3 h4 h5 => K.fr b o (by rw [← sz]; exact h1) h2 h3 h4 h5⟩, g.gens, ⟨?_, ?_⟩, g.says fits⟩
  · show looksF r.prog (boot_heap w.params) q.1.abs = true
    rw [← ep]
    exact g.look
  · rw [seenQ_eq, ← ep]
    exact g.seen
end Many
/-! the plan out of the program's text -/
def feOf : Option Expr → Expr → Option FE
  | some (.Constant (.str x) k p), .Constant (.int i) k' p' => some ⟨x, k, p, .int i, k', p'⟩
  | some (.Constant (.str x) k p), .Constant (.str y) k' p' => some ⟨x, k, p, .str y, k', p'⟩
  | _, _ => none
def fesOf : List (Option Expr) → List Expr → Option (List FE)
  | [], [] => some []
  | a :: as, b :: bs => match feOf a b, fesOf as bs with
    | some x, some r => some (x :: r)
    | _, _ => none
  | _, _ => none
def toldOf : Stmt → Option Told
  | .Assign [.Name x tp] (.Dict ks vs dpos) pos => match fesOf ks vs with
    | some l => some (.flat x tp pos dpos l)
    | none => (rowsOf ks vs).map (.rows x tp pos dpos ks vs)
  | _ => none
theorem Many.stores {P : Many} {ns : List Str} (e : P.segs.map (fun x => x.2.name) = ns) (h : ∀ n ∈ ns, ∀ v, storeName P.env n v = nsSet mainNs n v) : ∀ x ∈ P.segs, ∀ v, storeName P.env x.2.name v = nsSet mainNs x.2.name v := fun x hx v => h _ (e ▸ List.mem_map.mpr ⟨x, hx, rfl⟩) v
theorem Many.told {P : Many} {w : World} {K : PySem.W.Frag} {i : Nat} {t : Told} (c : ∀ t ∈ P.segs.map (·.2), ∃ d, nsIn K mainGlobals t.name = some (some (.ref d)) ∧ t.Says P.p w K d) (e : (P.segs.map (·.2))[i]? = some t) : ∃ d, nsIn K mainGlobals t.name = some (some (.ref d)) ∧ t.Says P.p w K d := c t (List.mem_of_getElem? e)
def oneTold (p : Program) (i : Nat) : Told := (p.main.body[i]?.bind toldOf).getD (.flat "" default default default [])
/-- statements in parts, at those that are told -/
def partsOf : List Stmt → List Stmt → List Part × List Stmt
  | acc, [] => ([], acc.reverse)
  | acc, s :: r => match toldOf s with
    | some t => let q := partsOf [] r; ((acc.reverse, t) :: q.1, q.2)
    | none => partsOf (s :: acc) r
def topEnv (p : Program) (c f : Addr) : Env := { scope := p.main.scope, locals := mainNs, globals := mainNs, cells := [], code := .ref c, frame := some f }
def manyOf (p q : Program) (loose : List Str) (n0 k m M deep : Nat) (fa : List He.Fa) (fn : List He.DefD) (ex : PySem.W.Frag → Bool) : Many :=
  let env := topEnv p (n0 + 2) (n0 + 3)
  let z := partsOf [] p.main.body
  { p := p, q := q, loose := loose, n0 := n0, k := k, m := m, M := M, env := env, segs := z.1, last := z.2, c := .body p.main.body env, p0 := default, pp := default, deep := deep, fa := fa, fn := fn, ex := ex }
end TopX
namespace TopX
open PySem PySem.W PySem.Calls PyProof.Rows HandSHeadRun
theorem fun_of {K : PySem.W.Frag} {x qual : Str} {st : Stmt} {f : Addr} {fd : FuncData} (F : L2.FunD K x qual (L2.defArgs st) (L2.defBody st) (L2.defScope st) [] [] f fd) : L2.Fun K x qual st f fd := by
  obtain ⟨oc, od, dV, kV, doc, pm, an, cdv, ct, osl, e, lk, hcd, hD, hK⟩ := F.ex
  rcases hD with ⟨_, rfl⟩ | ⟨n, _⟩
  · exact ⟨⟨oc, od, kV, doc, pm, an, cdv, ct, osl, e, lk, hcd⟩, F.kp⟩
  · exact absurd rfl n
end TopX
/-! ### the dict in the walk -/
namespace TopX
open PySem PySem.Spec PySem.Calls PyProof.Rows L2
/-- the row of a key -/
def rowAt (rs : List Row) (ss : List Str) : Option (List Str) := (rs.find? fun r => decide (r.1 = ss)).map (·.2)
theorem inr_inj : ∀ {a b : List Str}, (a.map .inr : List L2.Key) = b.map .inr → a = b
  | [], [], _ => rfl
  | [], _ :: _, h => nomatch h
  | _ :: _, [], h => nomatch h
  | x :: a, y :: b, h => by
    rw [List.map_cons, List.map_cons] at h
    injection h with h1 h2
    injection h1 with h1
    rw [h1, inr_inj h2]
abbrev ValIs (K : PySem.W.Frag) (e : Ent) (r : Row) : Prop := e.1 = keyOf r ∧ ∃ b t, e.2.2 = .ref b ∧ K.lookup b = some (tupO r.2 t)
theorem at_row {K : PySem.W.Frag} (ss : List Str) : ∀ {ents : List Ent} {rs : List Row}, Paired (ValIs K) ents rs →
    match rowAt rs ss with
    | none => atKey ents (ss.map .inr) = none
    | some vs => ∃ a b t, atKey ents (ss.map .inr) = some (a, .ref b) ∧ K.lookup b = some (tupO vs t)
  | _, _, .nil => rfl
  | _, _, .cons (a := e) (b := r) (l₁ := es) (l₂ := rs) ⟨h1, b, t, h2, h3⟩ tl => by
    obtain ⟨k, a, v⟩ := e
    cases h2
    obtain rfl : k = keyOf r := h1
    by_cases q : r.1 = ss
    · have e1 : rowAt (r :: rs) ss = some r.2 := by unfold rowAt; rw [List.find?_cons, decide_eq_true q]; rfl
      have e2 : atKey ((keyOf r, a, Value.ref b) :: es) (ss.map .inr) = some (a, .ref b) := by
        unfold atKey
        rw [List.find?_cons, decide_eq_true (show keyOf r = ss.map .inr by unfold keyOf; rw [q])]
        rfl
      rw [e1]
      exact ⟨a, b, t, e2, h3⟩
    · have e1 : rowAt (r :: rs) ss = rowAt rs ss := by unfold rowAt; rw [List.find?_cons, decide_eq_false q]
      have e2 : atKey ((keyOf r, a, Value.ref b) :: es) (ss.map .inr) = atKey es (ss.map .inr) := by
        unfold atKey
        rw [List.find?_cons, decide_eq_false (show ¬ keyOf r = ss.map .inr from fun z => q (inr_inj z))]
      rw [e1, e2]
      exact at_row ss tl
/-- a tuple of texts as a key -/
theorem key_is {prog : Program} {w : World} : ∀ {ss : List Str} {its : List Value}, Vals (ss.map V.str) its → ItemsAre (L2.mixKind prog w) (ss.map Sum.inr) its
  | [], _, .nil => .nil
  | x :: ss, _, .cons h t => .cons (by obtain ⟨tk, rfl⟩ := h; show L2.keyIs (.inr x) (.str x tk) = true; simp [L2.keyIs, Value.isStrOf]) (key_is t)
theorem txs_vals : ∀ (ss : List Str) (t : Nat), Vals (ss.map V.str) (txs ss t)
  | [], _ => .nil
  | x :: ss, t => .cons ⟨t, rfl⟩ (txs_vals ss (t + 1))
theorem sqt_row {K : PySem.W.Frag} {H : Hp} {b : Addr} {vs : List Str} {t : Nat} (h : K.lookup b = some (tupO vs t)) (l : vs.length ≤ sizeLine) : SqT K H b (vs.map V.str) := by
  refine .inr ⟨_, _, _, h, rfl, rfl, ?_, ?_⟩
  · rw [List.size_toArray, ← (txs_vals vs t).length, List.length_map]; exact l
  · rw [List.toList_toArray]; exact txs_vals vs t
section
variable {X : Cx} {d : Addr} {ents : List Ent} {rs : List Row}
theorem key_at {pins : List (Addr × Obj)} {σ : L2.St} {H : Hp} {s : Shared} {a : Addr} {ss : List Str} (I : L2.Inv X pins σ H s) (h : SqT X.K H a (ss.map V.str)) : (KD X.prog X.w).is s.heap (ss.map .inr) a := by
  obtain ⟨its, r, ⟨o, ho, hc, n, hd⟩, _⟩ := I.tuple h
  exact ⟨o, _, n, ho, hc, hd, key_is r⟩
end
end TopX
/-! ### PLACES.get(..) -/
namespace TopX
open PySem PySem.Spec PySem.Calls PyProof.Rows L2
def tPGet (K : PySem.W.Frag) (rs : List Row) (ty : TE) : TE := fun σ H Q => ty σ H fun y Ha => ∃ (a : Addr) (ss : List Str), y = .ref a ∧ SqT K Ha a (ss.map V.str) ∧ (rowAt rs ss = none → Q .non Ha) ∧ ∀ vs, rowAt rs ss = some vs → ∀ b, (∀ H0, SqT K H0 b (vs.map V.str)) → Q (.ref b) Ha
theorem short_of {rs : List Row} (z : small rs = true) (ss vs : List Str) (h : rowAt rs ss = some vs) : vs.length ≤ sizeLine := by
  unfold rowAt at h
  obtain ⟨r, hr, rfl⟩ := Option.map_eq_some_iff.mp h
  have m := List.all_eq_true.mp z r (List.mem_of_find?_eq_some hr)
  have l := of_decide_eq_true (Bool.and_eq_true_iff.mp m).2
  rw [sizeLine_eq]
  omega
section
variable {X : Cx} {d : Addr} {ents : List Ent} {rs : List Row} {o e : Expr} {apos cpos : Pos} {ty : TE}
theorem pl_type {K : PySem.W.Frag} {prog : Program} {w : World} {s : Shared} (pl : PlK prog w K d ents rs) (X : K.In s.heap) : s.TypeIs (.ref d) "dict" ∧ ∀ b, Value.ref d = .ref b → ∃ ob, s.heap.get? b = some ob ∧ ob.dict = none := by
  have m := pl.at X
  refine ⟨m.typeIs, fun b q => ?_⟩
  cases q
  obtain ⟨ob, _, _, here, exact_, _⟩ := m
  exact ⟨ob, here, exact_.2.1⟩
theorem pe_pget (hu : X.A.units + 1 < cLine) (pl : PlK X.prog X.w X.K d ents rs) (short : ∀ ss vs, rowAt rs ss = some vs → vs.length ≤ sizeLine) (ho : PE X o (tC (.ref d))) (he : PE X e ty) (m : M1 X o "get" apos e cpos) : PE X (.Call (.Attribute o "get" apos) [e] [] cpos) (tPGet X.K rs ty) := by
  refine ⟨fun pins s σ H Q I want => ?_⟩
  have own : tC (.ref d) σ H (fun x Ha => x = .ref d ∧ Ha = H) := ⟨rfl, rfl⟩
  refine wpAny_Call_method m.base m.few m.line PySem.F.plainAttrs_dict PySem.F.slot_dict_get PySem.F.type_dict_get (thn (ho.run pins s σ H _ I own) fun u sa ⟨x, Ha, Ia, rx, ex, eH⟩ => ?_)
  subst ex eH
  cases rx
  obtain ⟨t1, t2⟩ := pl_type pl Ia.kIn
  refine ⟨t1, t2, ?_⟩
  rw [m.trees]
  refine Calls.callWith_builtin rfl (Calls.evalArgs_plain (Calls.spliced_cons (thn (he.run pins sa σ _ _ Ia want) fun kv sb ⟨y, Hb, Ib, ry, a, ss, ey, there, no, yes⟩ => Calls.spliced_nil ?_)))
  subst ey
  cases ry
  have at_ := pl.at Ib.kIn
  refine call_meetsIn PySem.F.slot_dict_get at_.typeIs PySem.F.entry_dict_get (PySem.F.args_dict_get_2 _ _) (meetsH_dict_get (KD X.prog X.w) d a pl.nos) ⟨tupleKind_room_in1 hu, _, _, key_at Ib there, at_, ?_⟩
  have found := at_row ss pl.vals
  cases q : rowAt rs ss with
  | none =>
    rw [q] at found
    rw [show atKey ents (ss.map .inr) = none from found]
    exact ⟨.non, Hb, Ib.tok _, rfl, no q⟩
  | some vs =>
    rw [q] at found
    obtain ⟨_, b, t, e1, e2⟩ := found
    rw [e1]
    exact ⟨.ref b, Hb, Ib.tok _, rfl, yes vs q b (fun H0 => sqt_row e2 (short ss vs q))⟩
end
end TopX
/-! ### a told dict of texts in the walk -/
namespace TopX
open PySem PySem.Spec PySem.Calls PyProof.Rows L2
def CV.v : CV → V
  | .int i => .int i
  | .str x => .str x
theorem CV.rel : ∀ (c : CV) (t : Nat), RelV c.v (c.val t)
  | .int i, t => ⟨t, rfl⟩
  | .str x, t => ⟨t, rfl⟩
def flAt (l : List FE) (z : Str) : Option CV := (l.find? fun e => decide (e.k = z)).map FE.v
theorem lit_F {prog : Program} {w : World} : ∀ (l : List FV), PySem.W.KeysLit w.params (l.map (entF prog w))
  | [] => trivial
  | e :: r => ⟨⟨e.1, e.2.1, rfl, rfl⟩, lit_F r⟩
theorem find_F {prog : Program} {w : World} (z : Str) : ∀ (l : List FE) (t : Nat), match flAt l z with
    | none => (((entsF l t).map (entF prog w)).find? (·.key.isStr z)) = none
    | some c => ∃ e u, (((entsF l t).map (entF prog w)).find? (·.key.isStr z)) = some e ∧ e.val = c.val u
  | [], _ => rfl
  | e :: r, t => by
    have ih := find_F (prog := prog) (w := w) z r (t + 2)
    unfold flAt at ih ⊢
    show match (List.find? _ (e :: r)).map FE.v with
      | none => (entF prog w (e.k, t, e.v.val (t + 1)) :: (entsF r (t + 2)).map (entF prog w)).find? (·.key.isStr z) = none
      | some c => ∃ e' u, (entF prog w (e.k, t, e.v.val (t + 1)) :: (entsF r (t + 2)).map (entF prog w)).find? (·.key.isStr z) = some e' ∧ e'.val = c.val u
    have ek : (entF prog w (e.k, t, e.v.val (t + 1))).key.isStr z = decide (e.k = z) := by
      rw [PySem.W.isStr_of]
      show Value.isStrOf z (.str e.k t) = _
      by_cases q : e.k = z <;> simp [Value.isStrOf, q]
    by_cases q : e.k = z
    · rw [List.find?_cons, decide_eq_true q]
      show ∃ e' u, _ ∧ _
      rw [List.find?_cons, ek, decide_eq_true q]
      exact ⟨_, t + 1, rfl, rfl⟩
    · rw [List.find?_cons, decide_eq_false q, List.find?_cons, ek, decide_eq_false q]
      exact ih
theorem FlK.kd {prog : Program} {w : World} {K : PySem.W.Frag} {d : Addr} {l : List FE} (x : FlK prog w K d l) : ∃ es n, KDict K w d es n := by
  obtain ⟨t, ep, e⟩ := x.dict
  exact ⟨_, _, e, by rw [List.toList_toArray]; exact lit_F _, x.nos⟩
theorem FlK.find {prog : Program} {w : World} {K : PySem.W.Frag} {d : Addr} {l : List FE} (x : FlK prog w K d l) (z : Str) : match flAt l z with
    | none => PySem.W.nsIn K d z = some none
    | some c => ∃ u, PySem.W.nsIn K d z = some (some (c.val u)) := by
  obtain ⟨t, ep, e⟩ := x.dict
  have q := find_F (prog := prog) (w := w) z l t
  have nr : (((entsF l t).map (entF prog w)).any (·.refKey)) = false := by
    rw [List.any_eq_false]
    intro y hy
    obtain ⟨a, _, rfl⟩ := List.mem_map.mp hy
    simp [DictEntry.refKey, entF]
  cases f : flAt l z with
  | none =>
    rw [f] at q
    show PySem.W.nsIn K d z = some none
    unfold PySem.W.nsIn
    rw [e]
    show (match (((entsF l t).map (entF prog w)).toArray.toList).find? (·.key.isStr z) with | some e => some (some e.val) | none => _) = _
    rw [List.toList_toArray, show List.find? _ _ = none from q]
    show (if _ then _ else _) = _
    rw [nr]
    rfl
  | some c =>
    rw [f] at q
    obtain ⟨e', u, q1, q2⟩ := q
    refine ⟨u, ?_⟩
    unfold PySem.W.nsIn
    rw [e]
    show (match (((entsF l t).map (entF prog w)).toArray.toList).find? (·.key.isStr z) with | some e => some (some e.val) | none => _) = _
    rw [List.toList_toArray, q1]
    show some (some e'.val) = _
    rw [q2]
section
variable {X : Cx} {d : Addr} {l : List FE}
def rInF (d : Addr) (l : List FE) : R2 := fun x y H Q => ∃ z : Str, x = .str z ∧ y = .ref d ∧ Q (.bl (flAt l z).isSome) H
theorem FlK.some {prog : Program} {w : World} {K : PySem.W.Frag} (x : FlK prog w K d l) (z : Str) : ∃ r, PySem.W.nsIn K d z = some r ∧ r.isSome = (flAt l z).isSome := by
  have q := x.find z
  cases f : flAt l z with
  | none => rw [f] at q; exact ⟨none, q, rfl⟩
  | some c => rw [f] at q; obtain ⟨u, q⟩ := q; exact ⟨_, q, rfl⟩
theorem op_inF (fl : FlK X.prog X.w X.K d l) : OpR X (compareOp .In) (rInF d l) := by
  intro pins s σ H x y v u Q I rx ry h
  obtain ⟨z, ex, ey, q⟩ := h
  obtain ⟨es, n, D⟩ := fl.kd
  obtain ⟨r, h1, h2⟩ := fl.some z
  exact op_in_kd D pins s σ H x y v u Q I rx ry ⟨z, r, ex, ey, h1, h2 ▸ q⟩
def rIxF (d : Addr) (l : List FE) : R2 := fun x y H Q => ∃ (z : Str) (c : CV), x = .ref d ∧ y = .str z ∧ flAt l z = some c ∧ Q c.v H
theorem ix_flat (fl : FlK X.prog X.w X.K d l) : IxR X (rIxF d l) := by
  intro value slice pins s σ H x y v u Q I rx ry want form
  obtain ⟨z, c, ex, ey, f, q⟩ := want
  obtain ⟨es, n, D⟩ := fl.kd
  have h := fl.find z
  rw [f] at h
  obtain ⟨t, h⟩ := h
  have ex' := ex
  subst ex
  have rx' := rx
  cases rx
  exact subscriptTail_builtinR (x := c.val t) (kd_type D I) PySem.F.slot_dict_getitem.lookup
    (by
      subst ey
      obtain ⟨tk, rfl⟩ := ry
      exact wpAny_getItem_of (PySem.strKind_is X.prog X.w z tk) (PySem.W.mapOf_K (prog := X.prog) I.kIn D.at_ D.lit) (PySem.W.find_K D.at_ h) ⟨rfl, c.v, H, I.tok _, c.rel t, q⟩) form
end
end TopX
set_option Elab.async false
set_option linter.all false
set_option maxRecDepth 100000
set_option maxHeartbeats 4000000
set_option pp.maxSteps 400
namespace Mu
open PySem PySem.Spec PyProof.Rows L2
/-! ### texts by their codes -/
def cd (z : Str) : List Nat := z.cps.toList
theorem cd_app (a b : Str) : cd (a ++ b) = cd a ++ cd b := by
  show (a.cps ++ b.cps).toList = _
  rw [Array.toList_append]; rfl
theorem cd_len (z : Str) : z.length = (cd z).length := by unfold cd Str.length; rw [Array.length_toList]
theorem cd_ext {a b : Str} (h : cd a = cd b) : a = b := Str.ext' (Array.toList_inj.mp h)
theorem join_cons2 (a x y : Str) (r : List Str) : Str.join a (x :: y :: r) = x ++ a ++ Str.join a (y :: r) := rfl
theorem cd_join (a : Str) : ∀ ys : List Str, cd (Txt.join a ys) = ((ys.map cd).intersperse (cd a)).flatten := by
  intro ys
  show cd (Builtin.Str.glued a ys) = _
  rw [StrLaws.glued_eq_join]
  induction ys with
  | nil => rfl
  | cons x r ih =>
    cases r with
    | nil => show cd x = cd x ++ []; rw [List.append_nil]
    | cons y r =>
      rw [join_cons2, cd_app, cd_app, ih]
      simp [List.intersperse, List.append_assoc]
theorem cd_join0 (ys : List Str) : cd (Txt.join "" ys) = ys.flatMap cd := by
  rw [cd_join, show cd "" = [] from rfl]
  induction ys with
  | nil => rfl
  | cons x r ih =>
    cases r with
    | nil => simp
    | cons y r =>
      simp only [List.map_cons, List.intersperse, List.flatten_cons, List.nil_append, List.flatMap_cons] at ih ⊢
      rw [ih]
theorem len_appS (a b : Str) : (a ++ b).length = a.length + b.length := by rw [cd_len, cd_len, cd_len, cd_app, List.length_append]
/-- a name: one to eight small letters -/
structure Nm (z : Str) : Prop where
  lo : 1 ≤ z.length
  hi : z.length ≤ 8
  az : ∀ c ∈ cd z, 97 ≤ c ∧ c ≤ 122
/-! ### data: texts, ints, None, tuples -/
mutual
inductive DAt (H : Hp) : V → PyData → Prop
  | str (x : Str) : DAt H (.str x) (.str x)
  | int (i : Int) : DAt H (.int i) (.int i)
  | non : DAt H .non .none
  | tup {a : Addr} {vs : List V} {ds : List PyData} : H a = some (.tup vs) → DsAt H vs ds → DAt H (.ref a) (.tuple ds)
inductive DsAt (H : Hp) : List V → List PyData → Prop
  | nil : DsAt H [] []
  | cons {v : V} {vs : List V} {d : PyData} {ds : List PyData} : DAt H v d → DsAt H vs ds → DsAt H (v :: vs) (d :: ds)
end
/-- tuples stay -/
def Tk (H H' : Hp) : Prop := ∀ a vs, H a = some (.tup vs) → H' a = some (.tup vs)
theorem Tk.refl (H : Hp) : Tk H H := fun _ _ h => h
theorem Tk.trans {H H1 H2 : Hp} (p : Tk H H1) (q : Tk H1 H2) : Tk H H2 := fun a vs h => q a vs (p a vs h)
theorem Tk.same {H H' : Hp} (s : Same H H') : Tk H H' := fun a vs h => s a _ h
theorem Tk.upd {H : Hp} {a : Addr} {o : HO} (n : ∀ vs, H a ≠ some (.tup vs)) : Tk H (L2.upd H a o) := fun b vs h => by
  have nb : b ≠ a := fun e => by subst e; exact n vs h
  rw [upd_ne nb]
  exact h
theorem Tk.new {H : Hp} {a : Addr} {o : HO} (n : H a = none) : Tk H (L2.upd H a o) := Tk.upd fun vs e => by rw [n] at e; cases e
theorem Tk.lst {H : Hp} {a : Addr} {o : HO} {xs : List V} (h : H a = some (.lst xs)) : Tk H (L2.upd H a o) := Tk.upd fun vs e => by rw [h] at e; cases e
mutual
theorem DAt.mono {H H' : Hp} (t : Tk H H') : ∀ {v d}, DAt H v d → DAt H' v d
  | _, _, .str x => .str x
  | _, _, .int i => .int i
  | _, _, .non => .non
  | _, _, .tup h r => .tup (t _ _ h) (DsAt.mono t r)
theorem DsAt.mono {H H' : Hp} (t : Tk H H') : ∀ {vs ds}, DsAt H vs ds → DsAt H' vs ds
  | _, _, .nil => .nil
  | _, _, .cons h r => .cons (DAt.mono t h) (DsAt.mono t r)
end
theorem DsAt.length {H : Hp} : ∀ {vs ds}, DsAt H vs ds → vs.length = ds.length
  | _, _, .nil => rfl
  | _, _, .cons _ r => congrArg (· + 1) (DsAt.length r)
theorem DsAt.get {H : Hp} : ∀ {vs ds} {i : Nat} {v : V}, DsAt H vs ds → vs[i]? = some v → ∃ d, ds[i]? = some d ∧ DAt H v d
  | _, _, 0, v, .cons h _, e => ⟨_, rfl, by cases e; exact h⟩
  | _, _, i + 1, v, .cons _ r, e => DsAt.get (i := i) r e
theorem DsAt.app {H : Hp} : ∀ {vs ds ws es}, DsAt H vs ds → DsAt H ws es → DsAt H (vs ++ ws) (ds ++ es)
  | _, _, _, _, .nil, h => h
  | _, _, _, _, .cons h r, g => .cons h (DsAt.app r g)
theorem DsAt.split {H : Hp} : ∀ {vs ds es}, DsAt H vs (ds ++ es) → ∃ v1 v2, vs = v1 ++ v2 ∧ DsAt H v1 ds ∧ DsAt H v2 es
  | vs, [], es, h => ⟨[], vs, rfl, .nil, h⟩
  | _, d :: ds, es, .cons h r => by
    obtain ⟨v1, v2, rfl, a, b⟩ := DsAt.split r
    exact ⟨_ :: v1, v2, rfl, .cons h a, b⟩
/-! all that occurs: the tuples, each ahead of what it holds -/
mutual
def occ : PyData → List PyData
  | .tuple ds => .tuple ds :: occs ds
  | _ => []
def occs : List PyData → List PyData
  | [] => []
  | d :: r => occ d ++ occs r
end
/-! the written form -/
mutual
def wr : PyData → Str
  | .tuple ds => ("(" : Str) ++ Txt.join " " (wrs ds) ++ (")" : Str)
  | .str z => z
  | .int i => Str.ofString (toString i)
  | _ => Str.empty
def wrs : List PyData → List Str
  | [] => []
  | d :: r => wr d :: wrs r
end
def isTup : PyData → Bool
  | .tuple _ => true
  | _ => false
theorem occs_app : ∀ ds es : List PyData, occs (ds ++ es) = occs ds ++ occs es
  | [], _ => rfl
  | d :: r, es => by
    show occ d ++ occs (r ++ es) = (occ d ++ occs r) ++ occs es
    rw [occs_app r es, List.append_assoc]
/-- the written forms of the tuples of a list -/
def tws : List PyData → List Str
  | [] => []
  | .tuple ds :: r => wr (.tuple ds) :: tws r
  | _ :: r => tws r
/-- the nodes in this order, each taking what its tuples are written as off the end, and putting its own there -/
inductive Runs : List Str → List PyData → List Str → Prop
  | nil {I : List Str} : Runs I [] I
  | cons {I J : List Str} {ds L : List PyData} : Runs (I ++ [wr (.tuple ds)]) L J → Runs (I ++ (tws ds).reverse) (.tuple ds :: L) J
theorem Runs.app {I J M : List Str} {L N : List PyData} (h : Runs I L J) (g : Runs J N M) : Runs I (L ++ N) M := by
  induction h with
  | nil => exact g
  | cons _ ih => exact .cons (ih g)
/-- leaves that str() takes -/
def Fine : PyData → Prop
  | .int i => i.natAbs.log2 < 1920
  | .str _ => True
  | .tuple _ => True
  | _ => False
/-- the data's leaves are fine, its lists not long -/
def Good (d : PyData) : Prop := ∀ ds, PyData.tuple ds ∈ occ d → (∀ e ∈ ds, Fine e) ∧ ds.length ≤ 1000
/-! ### terms -/
theorem ofb0 {b : Bool} (h : ¬ b = true) : b = false := by cases b with | true => exact absurd rfl h | false => rfl
/-- the order of texts -/
def leS (a b : Str) : Bool := !decide (b.cps.toList < a.cps.toList)
inductive Vt : PyData → Prop
  | nm {k z : Str} (hk : k = "host" ∨ k = "word" ∨ k = "own") (hz : Nm z) : Vt (.tuple [.str k, .str z])
  | road {n : Nat} (h : n ≤ 999999) : Vt (.tuple [.str "road", .int n])
  | both {a b : Str} (ha : Nm a) (hb : Nm b) (hab : leS a b = true) : Vt (.tuple [.str "both", .str a, .str b])
  | ms {k z : Str} {n : Nat} (hk : k = "mark" ∨ k = "var") (hn : n ≤ 9) (hz : Nm z) : Vt (.tuple [.str k, .int n, .str z])
  | two {k : Str} {a b : PyData} (hk : k = "pair" ∨ k = "lock") (ha : Vt a) (hb : Vt b) : Vt (.tuple [.str k, a, b])
  | dig {a : PyData} (ha : Vt a) : Vt (.tuple [.str "digest", a])
  | nmd {k z : Str} {a : PyData} (hk : k = "box" ∨ k = "stamp") (ha : Vt a) (hz : Nm z) : Vt (.tuple [.str k, a, .str z])
/-- the codes of the written form -/
def cw (d : PyData) : List Nat := cd (wr d)
theorem cw_str (z : Str) : cw (.str z) = cd z := rfl
theorem cw_int (n : Nat) : cw (.int n) = TL.numL n := TL.tl_num n
theorem cw_2 (a b : PyData) : cw (.tuple [a, b]) = 40 :: (cw a ++ 32 :: (cw b ++ [41])) := by
  show cd (("(" : Str) ++ Txt.join " " [wr a, wr b] ++ (")" : Str)) = _
  rw [cd_app, cd_app, cd_join]
  show [40] ++ (cd (wr a) ++ ([32] ++ (cd (wr b) ++ []))) ++ [41] = _
  simp [cw]
theorem cw_3 (a b c : PyData) : cw (.tuple [a, b, c]) = 40 :: (cw a ++ 32 :: (cw b ++ 32 :: (cw c ++ [41]))) := by
  show cd (("(" : Str) ++ Txt.join " " [wr a, wr b, wr c] ++ (")" : Str)) = _
  rw [cd_app, cd_app, cd_join]
  show [40] ++ (cd (wr a) ++ ([32] ++ (cd (wr b) ++ ([32] ++ (cd (wr c) ++ []))))) ++ [41] = _
  simp [cw]
theorem cut_at {p : Nat → Prop} : ∀ {a b r s : List Nat} {x y : Nat}, (∀ c ∈ a, p c) → (∀ c ∈ b, p c) → ¬ p x → ¬ p y → a ++ x :: r = b ++ y :: s → a = b ∧ x = y ∧ r = s
  | [], [], _, _, _, _, _, _, _, _, e => ⟨rfl, (List.cons.inj e).1, (List.cons.inj e).2⟩
  | [], c :: b, _, _, x, _, _, hb, hx, _, e => absurd (hb c (List.mem_cons_self ..)) ((List.cons.inj e).1 ▸ hx)
  | c :: a, [], _, _, _, y, ha, _, _, hy, e => absurd (ha c (List.mem_cons_self ..)) ((List.cons.inj e).1 ▸ hy)
  | c :: a, d :: b, _, _, _, _, ha, hb, hx, hy, e => by
    obtain ⟨e1, e2⟩ := List.cons.inj e
    obtain ⟨i1, i2, i3⟩ := cut_at (fun z hz => ha z (List.mem_cons_of_mem _ hz)) (fun z hz => hb z (List.mem_cons_of_mem _ hz)) hx hy e2
    exact ⟨by rw [e1, i1], i2, i3⟩
def Lt (c : Nat) : Prop := 97 ≤ c ∧ c ≤ 122
def kg (k : Str) : Nat := if k = "host" ∨ k = "word" ∨ k = "own" then 1 else if k = "road" then 2 else if k = "both" then 3 else if k = "mark" ∨ k = "var" then 4 else if k = "pair" ∨ k = "lock" then 5 else if k = "digest" then 6 else if k = "box" ∨ k = "stamp" then 7 else 0
theorem kg_lt {k : Str} (h : kg k ≠ 0) : ∀ c ∈ cd k, Lt c := by
  have all : ∀ k ∈ (["host", "word", "own", "road", "both", "mark", "var", "pair", "lock", "digest", "box", "stamp"] : List Str), ∀ c ∈ cd k, 97 ≤ c ∧ c ≤ 122 := by decide +kernel
  apply all
  unfold kg at h
  by_cases h1 : k = "host" ∨ k = "word" ∨ k = "own"
  · rcases h1 with rfl | rfl | rfl <;> decide +kernel
  rw [if_neg h1] at h
  by_cases h2 : k = "road"
  · subst h2; decide +kernel
  rw [if_neg h2] at h
  by_cases h3 : k = "both"
  · subst h3; decide +kernel
  rw [if_neg h3] at h
  by_cases h4 : k = "mark" ∨ k = "var"
  · rcases h4 with rfl | rfl <;> decide +kernel
  rw [if_neg h4] at h
  by_cases h5 : k = "pair" ∨ k = "lock"
  · rcases h5 with rfl | rfl <;> decide +kernel
  rw [if_neg h5] at h
  by_cases h6 : k = "digest"
  · subst h6; decide +kernel
  rw [if_neg h6] at h
  by_cases h7 : k = "box" ∨ k = "stamp"
  · rcases h7 with rfl | rfl <;> decide +kernel
  rw [if_neg h7] at h
  exact absurd rfl h
theorem kg1 {k : Str} (h : k = "host" ∨ k = "word" ∨ k = "own") : kg k = 1 := by rcases h with rfl | rfl | rfl <;> decide +kernel
theorem kg4 {k : Str} (h : k = "mark" ∨ k = "var") : kg k = 4 := by rcases h with rfl | rfl <;> decide +kernel
theorem kg5 {k : Str} (h : k = "pair" ∨ k = "lock") : kg k = 5 := by rcases h with rfl | rfl <;> decide +kernel
theorem kg7 {k : Str} (h : k = "box" ∨ k = "stamp") : kg k = 7 := by rcases h with rfl | rfl <;> decide +kernel
theorem kg2 : kg "road" = 2 := by decide +kernel
theorem kg3 : kg "both" = 3 := by decide +kernel
theorem kg6 : kg "digest" = 6 := by decide +kernel
theorem kind_cut {k k' : Str} {t t' : List Nat} (h : kg k ≠ 0) (h' : kg k' ≠ 0) (e : 40 :: (cd k ++ 32 :: t) = 40 :: (cd k' ++ 32 :: t')) : k = k' ∧ t = t' := by
  obtain ⟨e1, _, e3⟩ := cut_at (p := Lt) (kg_lt h) (kg_lt h') (by unfold Lt; omega) (by unfold Lt; omega) (List.cons.inj e).2
  exact ⟨cd_ext e1, e3⟩
theorem off {k k' : Str} {t t' : List Nat} {m n : Nat} (e : 40 :: (cd k ++ 32 :: t) = 40 :: (cd k' ++ 32 :: t')) (h : kg k = m) (h' : kg k' = n) (hm : m ≠ 0) (hn : n ≠ 0) (ne : m ≠ n) : False := by
  obtain ⟨e1, _⟩ := kind_cut (by rw [h]; exact hm) (by rw [h']; exact hn) e
  rw [e1, h'] at h
  exact ne h.symm
/-! ### sizes -/
def sz (d : PyData) : Nat := (occ d).length
theorem occ_2s (k : Str) (b : PyData) : occ (.tuple [.str k, b]) = .tuple [.str k, b] :: occ b := by
  show _ :: ([] ++ (occ b ++ [])) = _
  rw [List.append_nil, List.nil_append]
theorem occ_3s (k : Str) (a b : PyData) : occ (.tuple [.str k, a, b]) = .tuple [.str k, a, b] :: (occ a ++ occ b) := by
  show _ :: ([] ++ (occ a ++ (occ b ++ []))) = _
  rw [List.append_nil, List.nil_append]
theorem sz_2 (k : Str) (b : PyData) : sz (.tuple [.str k, b]) = sz b + 1 := by unfold sz; rw [occ_2s]; rfl
theorem sz_3 (k : Str) (a b : PyData) : sz (.tuple [.str k, a, b]) = sz a + sz b + 1 := by unfold sz; rw [occ_3s, List.length_cons, List.length_append]
theorem sz_str (z : Str) : sz (.str z) = 0 := rfl
theorem sz_int (z : Int) : sz (.int z) = 0 := rfl
theorem kg_len {k : Str} (h : kg k ≠ 0) : (cd k).length ≤ 6 ∧ (cd k).count 40 = 0 := by
  have all : ∀ k ∈ (["host", "word", "own", "road", "both", "mark", "var", "pair", "lock", "digest", "box", "stamp"] : List Str), (cd k).length ≤ 6 := by decide +kernel
  refine ⟨all k ?_, List.count_eq_zero.mpr fun m => by have := kg_lt h 40 m; unfold Lt at this; omega⟩
  unfold kg at h
  by_cases h1 : k = "host" ∨ k = "word" ∨ k = "own"
  · rcases h1 with rfl | rfl | rfl <;> decide +kernel
  rw [if_neg h1] at h
  by_cases h2 : k = "road"
  · subst h2; decide +kernel
  rw [if_neg h2] at h
  by_cases h3 : k = "both"
  · subst h3; decide +kernel
  rw [if_neg h3] at h
  by_cases h4 : k = "mark" ∨ k = "var"
  · rcases h4 with rfl | rfl <;> decide +kernel
  rw [if_neg h4] at h
  by_cases h5 : k = "pair" ∨ k = "lock"
  · rcases h5 with rfl | rfl <;> decide +kernel
  rw [if_neg h5] at h
  by_cases h6 : k = "digest"
  · subst h6; decide +kernel
  rw [if_neg h6] at h
  by_cases h7 : k = "box" ∨ k = "stamp"
  · rcases h7 with rfl | rfl <;> decide +kernel
  rw [if_neg h7] at h
  exact absurd rfl h
theorem Nm.cnt {z : Str} (h : Nm z) : (cd z).length ≤ 8 ∧ (cd z).count 40 = 0 := by
  refine ⟨by rw [← cd_len]; exact h.hi, List.count_eq_zero.mpr fun m => ?_⟩
  have := h.az 40 m
  omega
theorem num_cnt (n : Nat) : (TL.numL n).count 40 = 0 := List.count_eq_zero.mpr (TL.numL_free (by omega))
theorem num_len {n : Nat} (h : n ≤ 999999) : (TL.numL n).length ≤ 6 := TL.numL_len (by decide) (by omega)
/-- the parentheses that open count the terms; the text is not long -/
theorem vt_cnt {d : PyData} (h : Vt d) : (cw d).count 40 = sz d ∧ (cw d).length ≤ 30 * sz d ∧ 1 ≤ sz d := by
  have c0 : ∀ (x : Nat) (l : List Nat), x ≠ 40 → (x :: l).count 40 = l.count 40 := fun x l n => List.count_cons_of_ne n
  induction h with
  | @nm k z hk hz =>
    have a := kg_len (k := k) (by rw [kg1 hk]; decide)
    have b := hz.cnt
    rw [cw_2, sz_2, sz_str, cw_str, cw_str]
    simp only [List.count_cons_self, List.count_append, List.length_cons, List.length_append, List.length_nil, List.count_nil, c0 32 _ (by decide), c0 41 _ (by decide)]
    omega
  | @road n hn =>
    have a := kg_len (k := "road") (by rw [kg2]; decide)
    have b := num_cnt n
    have c := num_len hn
    rw [cw_2, sz_2, sz_int, cw_str, cw_int]
    simp only [List.count_cons_self, List.count_append, List.length_cons, List.length_append, List.length_nil, List.count_nil, c0 32 _ (by decide), c0 41 _ (by decide)]
    omega
  | @both x y hx hy _ =>
    have a := kg_len (k := "both") (by rw [kg3]; decide)
    have b := hx.cnt
    have c := hy.cnt
    rw [cw_3, sz_3, sz_str, sz_str, cw_str, cw_str, cw_str]
    simp only [List.count_cons_self, List.count_append, List.length_cons, List.length_append, List.length_nil, List.count_nil, c0 32 _ (by decide), c0 41 _ (by decide)]
    omega
  | @ms k z n hk hn hz =>
    have a := kg_len (k := k) (by rw [kg4 hk]; decide)
    have b := hz.cnt
    have c := num_cnt n
    have e := num_len (n := n) (by omega)
    rw [cw_3, sz_3, sz_str, sz_int, cw_str, cw_str, cw_int]
    simp only [List.count_cons_self, List.count_append, List.length_cons, List.length_append, List.length_nil, List.count_nil, c0 32 _ (by decide), c0 41 _ (by decide)]
    omega
  | @two k x y hk hx hy ihx ihy =>
    have a := kg_len (k := k) (by rw [kg5 hk]; decide)
    rw [cw_3, sz_3, cw_str]
    simp only [List.count_cons_self, List.count_append, List.length_cons, List.length_append, List.length_nil, List.count_nil, c0 32 _ (by decide), c0 41 _ (by decide)]
    omega
  | @dig x hx ihx =>
    have a := kg_len (k := "digest") (by rw [kg6]; decide)
    rw [cw_2, sz_2, cw_str]
    simp only [List.count_cons_self, List.count_append, List.length_cons, List.length_append, List.length_nil, List.count_nil, c0 32 _ (by decide), c0 41 _ (by decide)]
    omega
  | @nmd k z x hk hx hz ihx =>
    have a := kg_len (k := k) (by rw [kg7 hk]; decide)
    have b := hz.cnt
    rw [cw_3, sz_3, sz_str, cw_str, cw_str]
    simp only [List.count_cons_self, List.count_append, List.length_cons, List.length_append, List.length_nil, List.count_nil, c0 32 _ (by decide), c0 41 _ (by decide)]
    omega
theorem Vt.tup {d : PyData} (h : Vt d) : isTup d = true := by cases h <;> rfl
/-- what occurs in a term is a term, and no greater -/
theorem vt_occ {d : PyData} (h : Vt d) : ∀ e ∈ occ d, Vt e ∧ sz e ≤ sz d := by
  induction h with
  | nm hk hz => intro e he; rw [occ_2s] at he; cases List.mem_singleton.mp he; exact ⟨.nm hk hz, Nat.le_refl _⟩
  | road hn => intro e he; rw [occ_2s] at he; cases List.mem_singleton.mp he; exact ⟨.road hn, Nat.le_refl _⟩
  | both hx hy hz => intro e he; rw [occ_3s] at he; cases List.mem_singleton.mp he; exact ⟨.both hx hy hz, Nat.le_refl _⟩
  | ms hk hn hz => intro e he; rw [occ_3s] at he; cases List.mem_singleton.mp he; exact ⟨.ms hk hn hz, Nat.le_refl _⟩
  | two hk hx hy ihx ihy =>
    intro e he
    rw [occ_3s] at he
    rcases List.mem_cons.mp he with rfl | he
    · exact ⟨.two hk hx hy, Nat.le_refl _⟩
    · rw [sz_3]
      rcases List.mem_append.mp he with he | he
      · have := ihx e he; exact ⟨this.1, by omega⟩
      · have := ihy e he; exact ⟨this.1, by omega⟩
  | dig hx ihx =>
    intro e he
    rw [occ_2s] at he
    rcases List.mem_cons.mp he with rfl | he
    · exact ⟨.dig hx, Nat.le_refl _⟩
    · rw [sz_2]
      have := ihx e he
      exact ⟨this.1, by omega⟩
  | nmd hk hx hz ihx =>
    intro e he
    rw [occ_3s] at he
    rcases List.mem_cons.mp he with rfl | he
    · exact ⟨.nmd hk hx hz, Nat.le_refl _⟩
    · rw [sz_3]
      rcases List.mem_append.mp he with he | he
      · have := ihx e he; exact ⟨this.1, by omega⟩
      · cases he
theorem vt_len {d : PyData} (h : Vt d) : (wr d).length ≤ 30 * sz d := by rw [cd_len]; exact (vt_cnt h).2.1
/-! ### pairs of an int and a text: their order -/
/-! ### sorted, whose keys are tuples of an int and a text (behind h_sortK) -/
/-! ### f(k = v, ..), nothing by position -/
section
variable {X : Cx} {CX : CXT} {k : Nat} {f : Addr} {fd : FuncData} {ps ks : List Str} {sp : Sp} {E : XK} {x : Str} {p pos : Pos} {kws : List Keyword} {tk : TA}
def tCallK0 (sp : Sp) (n : Nat) (gV : List V → List V) (E : XK) (tk : TA) : TE := fun σ H Q => tk σ H fun zs H2 => zs.length = n ∧ sp (gV zs) H2 Q E
end
/-! ### C(k = v, ..): the values by their names -/
/-! ### isinstance of an error: from the classes' chains -/
/-! ### x < y of two tuples of one shape, ints and texts inside: told place by place -/
/-! ### t[::-1] of a tuple -/
def tRevT (K : PySem.W.Frag) (te : TE) : TE := fun σ H Q => te σ H fun x H1 => ∃ a xs, x = .ref a ∧ SqT K H1 a xs ∧ ∀ p, H1 p = none → Q (.ref p) (upd H1 p (.tup xs.reverse))
/-! ### enumerate(x): a new pair of place and item at each turn, from any source that the library can draw from -/
namespace EnG
open PyProof.Rows
/-- a source of items: it stands at `it`; what J says of a turn is what it gives -/
structure Feeds (P : Program) (w : World) (K : PySem.W.Frag) (J : It) (e it : Addr) (S : Nat → Heap → Prop) : Prop where
  apart : e ≠ it
  live : ∀ i g, S i g → ∃ ob, g.get? it = some ob ∧ ∀ v, ob.data ≠ .cell v
  stay : ∀ i g g', S i g → (∀ ob, g.get? it = some ob → g'.get? it = some ob) → S i g'
  more : ∀ X : Cx, X.prog = P → X.w = w → X.K = K → X.calm = true → ∀ i pins s σ H, Inv X pins σ H s → S i s.heap → J.go i H →
    ∃ n fs V T, Draws P w X.A.in1 it fs n V T ∧ e ∉ fs ∧ T i s.heap ∧ i < n ∧ (∀ g, T (i + 1) g → S (i + 1) g) ∧
      ∀ v, V i v → ∃ x, RelV x v ∧ ∀ p, H p = none → J.yld i H (.ref p) (upd H p (.tup [.int (i : Nat), x]))
  last : ∀ X : Cx, X.prog = P → X.w = w → X.K = K → X.calm = true → ∀ i pins s σ H, Inv X pins σ H s → S i s.heap → J.stop i H →
    ∃ fs V T, Draws P w X.A.in1 it fs i V T ∧ T i s.heap
section
variable {P : Program} {w : World} {K : PySem.W.Frag} {J : It} {e it : Addr} {S : Nat → Heap → Prop} {X : Cx} {pins : List (Addr × Obj)} {s : Shared} {σ : L2.St} {H : Hp}
/-- the pair that a turn makes is a tuple of H -/
theorem pair_in {x : V} {v : Value} {i tk : Nat} {g g2 : Heap} (I : Inv X pins σ H s) (fp : ∀ b ∈ [e, it], FpOk X pins H b) (el : e < s.heap.objs.size) (rx : RelV x v)
    (tup : g.get? s.heap.objs.size = some { cls := .type "tuple", data := .seq #[.int i tk, v] }) (old : ∀ b o, b ≠ e → b ≠ it → s.heap.get? b = some o → g.get? b = some o) (like : Heap.SameBut e g g2) :
    Inv X pins σ (upd H s.heap.objs.size (.tup [.int (i : Nat), x])) { s with heap := g2, toks := tk + 1 } := by
  have there := (like.2 _ (Nat.ne_of_gt el)).trans tup
  refine Inv.turnedNew (ch := [e, it]) I (fun b o nb q => ?_) fp (Nat.le_refl _) ⟨(by decide : 2 ≤ sizeLine), [.int i tk, v], .cons ⟨tk, rfl⟩ (.cons rx .nil), _, there, rfl, 0, rfl⟩
  have nbe : b ≠ e := fun z => nb (z ▸ .head _)
  exact (like.2 b nbe).trans (old b o nbe (fun z => nb (z ▸ .tail _ (.head _))) q)
end
end EnG
/-! enumerate(text) -/
/-! enumerate(tuple) (behind h_enumG) -/
/-- the tuple xs at a, each item in a new pair with its place -/
def IteT (K : PySem.W.Frag) (a : Addr) (xs : List V) : It where
  go := fun i H => SqT K H a xs ∧ i < xs.length
  yld := fun i H v H' => YPair (fun i => some (.int (i : Nat))) (fun i => xs[i]?) i H v H'
  stop := fun i H => SqT K H a xs ∧ xs.length ≤ i
theorem feeds_tuple {P : Program} {w : World} {K : PySem.W.Frag} {a : Addr} {xs : List V} {e it : Addr} (ne : e ≠ it) (nae : a ≠ e) (nai : a ≠ it) :
    EnG.Feeds P w K (IteT K a xs) e it (fun i g => g.IsTupleIter it a i ∧ i ≤ xs.length) where
  apart := ne
  live := fun i g ⟨⟨ob, q, _, d⟩, _⟩ => ⟨ob, q, fun v z => by rw [d] at z; exact nomatch z⟩
  stay := fun i g g' ⟨st, l⟩ k => ⟨st.at k, l⟩
  more := fun X hP hw hK hc i pins s σ H I ⟨st, _⟩ ⟨sq, lt⟩ => by
    cases hP; cases hw; cases hK
    have ⟨its, rel, tup, _⟩ := I.tuple sq
    have len := rel.length
    refine ⟨_, _, _, _, Draws.tuple (A := X.A.in1) (I.ok.hd hc) it a nai its.toArray, fun h => ?_, ⟨st, tup⟩, by rw [List.size_toArray]; omega, fun g q => ⟨q.1, lt⟩, fun v hv => ?_⟩
    · cases h with
      | head => exact ne rfl
      | tail _ h => exact nae (List.mem_singleton.mp h).symm
    · have hx := List.getElem?_eq_getElem lt
      have ⟨u, hu, ru⟩ := rel.get hx
      have : v = u := Option.some.inj ((show its[i]? = some v by simpa using hv).symm.trans hu)
      exact ⟨xs[i], this ▸ ru, fun p np => ⟨p, _, _, rfl, np, rfl, rfl, hx⟩⟩
  last := fun X hP hw hK hc i pins s σ H I ⟨st, l⟩ ⟨sq, ge⟩ => by
    cases hP; cases hw; cases hK
    have ⟨its, rel, tup, _⟩ := I.tuple sq
    have ei : its.toArray.size = i := by rw [List.size_toArray, ← rel.length]; omega
    exact ⟨_, _, _, ei ▸ Draws.tuple (A := X.A.in1) (I.ok.hd hc) it a nai its.toArray, st, tup⟩
/-! enumerate(tuple, start=k) (behind h_enumTG) -/
/-- the tuple xs at a, each item in a new pair with its place, counted from b -/
def IteK (K : PySem.W.Frag) (b : Nat) (a : Addr) (xs : List V) : It where
  go := fun i H => SqT K H a xs ∧ i < xs.length
  yld := fun i H v H' => YPair (fun i => some (.int ((i + b : Nat) : Int))) (fun i => xs[i]?) i H v H'
  stop := fun i H => SqT K H a xs ∧ xs.length ≤ i
namespace EnK
open PyProof.Rows
structure At (e it : Addr) (b : Nat) (S : Nat → Heap → Prop) (i : Nat) (g : Heap) : Prop where
  cnt : ∃ v, IsEnum g e it ((i + b : Nat) : Int) v
  src : S i g
section
variable {P : Program} {w : World} {K : PySem.W.Frag} {a : Addr} {xs : List V} {b : Nat} {e it : Addr} {X : Cx} {pins : List (Addr × Obj)} {s : Shared} {σ : L2.St} {H : Hp}
abbrev Src (it a : Addr) (xs : List V) (i : Nat) (g : Heap) : Prop := g.IsTupleIter it a i ∧ i ≤ xs.length
theorem turn {elts : List Expr} {kk : Nat} {tpos : Pos} (ne : e ≠ it) (nae : a ≠ e) (nai : a ≠ it) : Turn P w K (.Tuple elts kk tpos) (IteK K b a xs) [e, it] e (At e it b (Src it a xs)) where
  mem := .head _
  obj := fun i g st c hc => match c, hc with
    | _, .head _ => st.cnt.elim fun v q => ⟨_, q, nofun⟩
    | _, .tail _ (.head _) => (feeds_tuple (P := P) (w := w) (K := K) (xs := xs) ne nae nai).live i g st.src
  keep := fun i g g' st k => ⟨st.cnt.imp fun v q => k e (.head _) _ q, (feeds_tuple (P := P) (w := w) (K := K) (xs := xs) ne nae nai).stay i g g' st.src fun ob q => k it (.tail _ (.head _)) ob q⟩
  item := fun X hP hw hK hc i pins s σ H E I fp st go => by
    have F := feeds_tuple (P := P) (w := w) (K := K) (xs := xs) ne nae nai
    have ⟨n, fs, V, T, D, nfs, t0, lt, up, out⟩ := F.more X hP hw hK hc i pins s σ H I st.src go
    cases hP; cases hw; cases hK
    have ⟨v0, en⟩ := st.cnt
    have el := Heap.lt_size en
    refine wpAny_pyNext_enum_itemC D en t0 lt F.apart nfs fun v g tk hv eo t1 tup sz old => ⟨_, rfl, wpAny_letOwnedTupleGo_enum (s := { s with heap := g, toks := tk + 1 }) eo fun g2 en2 like => ?_⟩
    have ⟨x, rx, yl⟩ := out v hv
    have fresh := I.hok.fresh (Nat.le_refl s.heap.objs.size)
    obtain ⟨p', x', y', e1, e2, e3, e4, e5⟩ := yl _ fresh
    have ex : x = y' := by
      cases e1
      have q := congrFun e3 s.heap.objs.size
      rw [upd_same, upd_same] at q
      have q2 := HO.tup.inj (Option.some.inj q)
      simp only [List.cons.injEq, and_true] at q2
      exact q2.2
    have s1 : Src it a xs (i + 1) g2 := F.stay _ g _ (up g t1) fun ob q => (like.2 it F.apart.symm).trans q
    have made := EnG.pair_in (i := i + b) (s := s) I fp el rx tup old like
    refine ⟨.ref s.heap.objs.size, _, made, rfl, ⟨_, _, _, rfl, fresh, rfl, rfl, ex ▸ e5⟩, ⟨⟨v, by rw [show i + 1 + b = (i + b) + 1 by omega, Int.natCast_succ]; exact en2⟩, s1⟩, fun c hc => ?_⟩
    have low : c < s.heap.objs.size := match c, hc with
      | _, .head _ => el
      | _, .tail _ (.head _) => (F.live i _ st.src).elim fun ob q => Heap.lt_size q.1
    rw [upd_ne (Nat.ne_of_lt low)]
    exact (fp c hc).1
  done := fun X hP hw hK hc i pins s σ H E I fp st stop => by
    have F := feeds_tuple (P := P) (w := w) (K := K) (xs := xs) ne nae nai
    have ⟨fs, V, T, D, t0⟩ := F.last X hP hw hK hc i pins s σ H I st.src stop
    cases hP; cases hw; cases hK
    have ⟨v0, en⟩ := st.cnt
    have ⟨a0, a1, _, a3, a4, a5⟩ := fp it (.tail _ (.head _))
    exact wpAny_pyNext_enum_endD D en t0 fun g same => ⟨rfl, Inv.turned (t' := s.toks) I (fun c o nb q => same c o nb q) a0 a1 a3 a4 a5⟩
  self := fun A i s Q E st q => st.cnt.elim fun v en => wpAny_pyIter_enum en q
theorem begun {elts : List Expr} {kk : Nat} {tpos : Pos} {g : Heap} {R : It → Hp → Prop} (I : Inv X pins σ H s) (ne : s.heap.objs.size + 1 ≠ s.heap.objs.size) (nae : a ≠ s.heap.objs.size + 1) (nai : a ≠ s.heap.objs.size)
    (en : IsEnum g (s.heap.objs.size + 1) s.heap.objs.size (b : Int) .none) (st : Src s.heap.objs.size a xs 0 g) (kept : ∀ c o, s.heap.get? c = some o → g.get? c = some o) (q : R (IteK X.K b a xs) H) :
    wpAny (model X.prog X.w) X.A (pyIter (.ref (s.heap.objs.size + 1))) (PIE X pins σ (.Tuple elts kk tpos) R) X.xe { s with heap := g } :=
  wpAny_pyIter_enum en ⟨_, _, _, _, H, rfl, Inv.kept (t' := s.toks) I kept, turn ne nae nai, ⟨⟨.none, by rw [Nat.zero_add]; exact en⟩, st⟩, fun c hc => match c, hc with
    | _, .head _ => I.fpOk (Nat.le_succ _) (I.hok.fresh (Nat.le_succ _))
    | _, .tail _ (.head _) => I.fpOk (Nat.le_refl _) (I.hok.fresh (Nat.le_refl _)), q⟩
end
end EnK
def iEnumK (K : PySem.W.Frag) (ta tk : TA) : TI := fun σ H R => ta σ H fun vs H1 => tk σ H1 fun zs H2 => ∃ (a : Addr) (xs : List V) (b : Nat), vs = [.ref a] ∧ zs = [.int (b : Int)] ∧ b < 1000 ∧ SqT K H2 a xs ∧ R (IteK K b a xs) H2
theorem pi_enumK {X : Cx} {e : Expr} {ta tk : TA} {p pos tpos : Pos} {elts : List Expr} {kk : Nat} {kws : List Keyword} (hg : Gl X "enumerate") (hm : X.mg "enumerate" = none) (ha : PA X [e] ta) (hk : PK X kws tk)
    (one : starEach [e] X.env = (false, eval e X.env) :: starEach [] X.env := by rfl) (bare : ((backTo pos (starEach [e] X.env)).any (·.1) || (backToKw pos (keywordEach kws X.env)).any (·.1.isNone)) = false := by rfl)
    (told : (backToKw pos (keywordEach kws X.env)).all (·.1.isSome) = true := by rfl) (only : (backToKw pos (keywordEach kws X.env)).filterMap (·.1) = [Str.ofString "start"] := by rfl) :
    PI X (.Tuple elts kk tpos) (.Call (.Name "enumerate" p) [e] kws pos) (iEnumK X.K ta tk) where
  run := fun pins s σ H R I h => wpAny_Call_Name_kw (ld_blt I hg hm boot_enumerate (PySem.W.callWith_of (P := fun _ => True) bare (fun _ _ => ⟨Keeper.machine, .inr (.inl rfl), fun _ _ _ _ _ q => wpAny_pure q⟩) (PyProof.Rows.evalArgs_kw2 told (thn (ha.run pos pins s σ H _ I h) fun us u vs => by
    obtain ⟨vs, H1, J1, rel, q⟩ := vs
    refine thn (hk.run pos pins u σ H1 _ J1 q) fun ws t z => ?_
    obtain ⟨zs, H2, J2, rz, a, xs, b, rfl, rfl, hb, sq, q⟩ := z
    obtain rfl : us = [.ref a] := by cases rel with | cons r rr => cases rr; exact congrArg (· :: []) r
    obtain ⟨tk, rfl⟩ : ∃ tk, ws = [.int (b : Int) tk] := by
      cases rz with
      | cons r rr =>
        cases rr
        obtain ⟨tk, rfl⟩ := r
        exact ⟨tk, rfl⟩
    refine ⟨trivial, ?_⟩
    rw [only]
    have ⟨its, _, tup, _⟩ := J2.tuple sq
    have al : a < t.heap.objs.size := tup.lt
    exact enum_begins_start (begins_tuple a its.toArray) tup (by omega) (by omega) fun g en st _ kept => EnK.begun J2 (Nat.succ_ne_self _) (Nat.ne_of_lt (Nat.lt_succ_of_lt al)) (Nat.ne_of_lt al) en ⟨⟨_, st, rfl, rfl⟩, Nat.zero_le _⟩ kept q) one)))
theorem walk_enumK {K : PySem.W.Frag} {b : Nat} {a : Addr} {xs : List V} : Walk (IteK K b a xs) xs.length (fun H => SqT K H a xs) (YPair (fun i => some (.int ((i + b : Nat) : Int))) (fun i => xs[i]?)) where
  goes := fun _ _ lt sq => ⟨sq, lt⟩
  stops := fun _ sq => ⟨sq, Nat.le_refl _⟩
  yields := fun _ _ _ _ _ _ y => y
def topS (i : Nat) : Stmt := PySem.Challenge.pw_muffline_k74_keys_and_sealed.main.body.getD i (.Pass ⟨0, 0, 0, 0⟩)
abbrev sis_name : Stmt := topS 10
abbrev Nis_name : List Str := ["value"]
theorem scis_name : FnScope Nis_name ["value"] (defScope sis_name) := ⟨rfl, rfl, rfl, by decide +kernel, rfl, by decide +kernel, by decide +kernel⟩
abbrev sis_capital : Stmt := topS 11
abbrev Nis_capital : List Str := ["value"]
theorem scis_capital : FnScope Nis_capital ["value"] (defScope sis_capital) := ⟨rfl, rfl, rfl, by decide +kernel, rfl, by decide +kernel, by decide +kernel⟩
abbrev s_is_word : Stmt := topS 12
abbrev N_is_word : List Str := ["value", "least", "greatest", "sign"]
theorem sc_is_word : FnScope N_is_word ["value", "least", "greatest"] (defScope s_is_word) := ⟨rfl, rfl, rfl, by decide +kernel, rfl, by decide +kernel, by decide +kernel⟩
abbrev sis_number : Stmt := topS 13
abbrev Nis_number : List Str := ["value", "greatest"]
theorem scis_number : FnScope Nis_number ["value", "greatest"] (defScope sis_number) := ⟨rfl, rfl, rfl, by decide +kernel, rfl, by decide +kernel, by decide +kernel⟩
abbrev sforms_within : Stmt := topS 14
abbrev Nforms_within : List Str := ["value", "language", "capitals", "found", "pending", "node", "owner", "places", "inner", "at", "place"]
theorem scforms_within : FnScope Nforms_within ["value", "language", "capitals"] (defScope sforms_within) := ⟨rfl, rfl, rfl, by decide +kernel, rfl, by decide +kernel, by decide +kernel⟩
abbrev s_places_of : Stmt := topS 15
abbrev N_places_of : List Str := ["value", "language", "places"]
theorem sc_places_of : FnScope N_places_of ["value", "language"] (defScope s_places_of) := ⟨rfl, rfl, rfl, by decide +kernel, rfl, by decide +kernel, by decide +kernel⟩
abbrev s_fits : Stmt := topS 16
abbrev N_fits : List Str := ["item", "place", "before", "capitals"]
theorem sc_fits : FnScope N_fits ["item", "place", "before", "capitals"] (defScope s_fits) := ⟨rfl, rfl, rfl, by decide +kernel, rfl, by decide +kernel, by decide +kernel⟩
abbrev sTunnel___init__ : Stmt := inClass (topS 20) 0
abbrev NTunnel___init__ : List Str := ["self", "window", "first", "second"]
theorem scTunnel___init__ : FnScope NTunnel___init__ ["self", "window", "first", "second"] (defScope sTunnel___init__) := ⟨rfl, rfl, rfl, by decide +kernel, rfl, by decide +kernel, by decide +kernel⟩
abbrev sTunnel_send : Stmt := inClass (topS 20) 2
abbrev NTunnel_send : List Str := ["self", "payload"]
theorem scTunnel_send : FnScope NTunnel_send ["self", "payload"] (defScope sTunnel_send) := ⟨rfl, rfl, rfl, by decide +kernel, rfl, by decide +kernel, by decide +kernel⟩
abbrev sTunnel_rekey : Stmt := inClass (topS 20) 3
abbrev NTunnel_rekey : List Str := ["self"]
theorem scTunnel_rekey : FnScope NTunnel_rekey ["self"] (defScope sTunnel_rekey) := ⟨rfl, rfl, rfl, by decide +kernel, rfl, by decide +kernel, by decide +kernel⟩
abbrev sTunnel_deliver : Stmt := inClass (topS 20) 4
abbrev NTunnel_deliver : List Str := ["self", "number", "epoch", "count", "_"]
theorem scTunnel_deliver : FnScope NTunnel_deliver ["self", "number"] (defScope sTunnel_deliver) := ⟨rfl, rfl, rfl, by decide +kernel, rfl, by decide +kernel, by decide +kernel⟩
abbrev sTunnel__renew : Stmt := inClass (topS 20) 5
abbrev NTunnel__renew : List Str := ["self", "epoch"]
theorem scTunnel__renew : FnScope NTunnel__renew ["self", "epoch"] (defScope sTunnel__renew) := ⟨rfl, rfl, rfl, by decide +kernel, rfl, by decide +kernel, by decide +kernel⟩
abbrev sTunnel__judged : Stmt := inClass (topS 20) 6
abbrev NTunnel__judged : List Str := ["self", "back", "number", "count", "top"]
theorem scTunnel__judged : FnScope NTunnel__judged ["self", "back", "number", "count"] (defScope sTunnel__judged) := ⟨rfl, rfl, rfl, by decide +kernel, rfl, by decide +kernel, by decide +kernel⟩
abbrev sTunnel_letter : Stmt := inClass (topS 20) 7
abbrev NTunnel_letter : List Str := ["self", "number"]
theorem scTunnel_letter : FnScope NTunnel_letter ["self", "number"] (defScope sTunnel_letter) := ⟨rfl, rfl, rfl, by decide +kernel, rfl, by decide +kernel, by decide +kernel⟩
abbrev sTunnel_key_term : Stmt := inClass (topS 20) 8
abbrev NTunnel_key_term : List Str := ["self", "epoch", "key", "_"]
theorem scTunnel_key_term : FnScope NTunnel_key_term ["self", "epoch"] (defScope sTunnel_key_term) := ⟨rfl, rfl, rfl, by decide +kernel, rfl, by decide +kernel, by decide +kernel⟩
abbrev sTunnel_sealed : Stmt := inClass (topS 20) 9
abbrev NTunnel_sealed : List Str := ["self", "number", "epoch", "count", "payload"]
theorem scTunnel_sealed : FnScope NTunnel_sealed ["self", "number"] (defScope sTunnel_sealed) := ⟨rfl, rfl, rfl, by decide +kernel, rfl, by decide +kernel, by decide +kernel⟩
abbrev sTunnel_sealed_row : Stmt := inClass (topS 20) 10
abbrev NTunnel_sealed_row : List Str := ["self", "number"]
theorem scTunnel_sealed_row : FnScope NTunnel_sealed_row ["self"] (defScope sTunnel_sealed_row) := ⟨rfl, rfl, rfl, by decide +kernel, rfl, by decide +kernel, by decide +kernel⟩
abbrev sis_term : Stmt := topS 22
abbrev Nis_term : List Str := ["value"]
theorem scis_term : FnScope Nis_term ["value"] (defScope sis_term) := ⟨rfl, rfl, rfl, by decide +kernel, rfl, by decide +kernel, by decide +kernel⟩
abbrev sis_ground : Stmt := topS 23
abbrev Nis_ground : List Str := ["term", "node"]
theorem scis_ground : FnScope Nis_ground ["term"] (defScope sis_ground) := ⟨rfl, rfl, rfl, by decide +kernel, rfl, by decide +kernel, by decide +kernel⟩
abbrev ssize : Stmt := topS 24
abbrev Nsize : List Str := ["term"]
theorem scsize : FnScope Nsize ["term"] (defScope ssize) := ⟨rfl, rfl, rfl, by decide +kernel, rfl, by decide +kernel, by decide +kernel⟩
abbrev soccurrences : Stmt := topS 25
abbrev Noccurrences : List Str := ["term", "found", "pending", "node", "item"]
theorem scoccurrences : FnScope Noccurrences ["term"] (defScope soccurrences) := ⟨rfl, rfl, rfl, by decide +kernel, rfl, by decide +kernel, by decide +kernel⟩
abbrev s_law_pile : Stmt := topS 27
abbrev N_law_pile : List Str := ["script", "seed", "found", "cell", "number", "rest", "k"]
theorem sc_law_pile : FnScope N_law_pile ["script"] (defScope s_law_pile) := ⟨rfl, rfl, rfl, by decide +kernel, rfl, by decide +kernel, by decide +kernel⟩
abbrev s_law_draw : Stmt := topS 28
abbrev N_law_draw : List Str := ["pile", "many"]
theorem sc_law_draw : FnScope N_law_draw ["pile", "many"] (defScope s_law_draw) := ⟨rfl, rfl, rfl, by decide +kernel, rfl, by decide +kernel, by decide +kernel⟩
abbrev s_law_names : Stmt := topS 29
abbrev N_law_names : List Str := ["pile", "many", "letters", "base", "k", "spot", "begin", "stride", "found"]
theorem sc_law_names : FnScope N_law_names ["pile", "many"] (defScope s_law_names) := ⟨rfl, rfl, rfl, by decide +kernel, rfl, by decide +kernel, by decide +kernel⟩
abbrev s_law_whole : Stmt := topS 30
abbrev N_law_whole : List Str := ["actual"]
theorem sc_law_whole : FnScope N_law_whole ["actual"] (defScope s_law_whole) := ⟨rfl, rfl, rfl, by decide +kernel, rfl, by decide +kernel, by decide +kernel⟩
abbrev s_law_same : Stmt := topS 31
abbrev N_law_same : List Str := ["actual", "expected", "k"]
theorem sc_law_same : FnScope N_law_same ["actual", "expected"] (defScope s_law_same) := ⟨rfl, rfl, rfl, by decide +kernel, rfl, by decide +kernel, by decide +kernel⟩
abbrev s_law_keys : Stmt := topS 32
abbrev N_law_keys : List Str := ["one", "two", "ordered", "keys", "k"]
theorem sc_law_keys : FnScope N_law_keys ["one", "two"] (defScope s_law_keys) := ⟨rfl, rfl, rfl, by decide +kernel, rfl, by decide +kernel, by decide +kernel⟩
abbrev s_law_sealed : Stmt := topS 33
abbrev N_law_sealed : List Str := ["letter", "keys"]
theorem sc_law_sealed : FnScope N_law_sealed ["letter", "keys"] (defScope s_law_sealed) := ⟨rfl, rfl, rfl, by decide +kernel, rfl, by decide +kernel, by decide +kernel⟩
abbrev s_law_deed : Stmt := topS 34
abbrev N_law_deed : List Str := ["pile", "pair", "letters", "sender", "names", "kind", "word", "number", "k"]
theorem sc_law_deed : FnScope N_law_deed ["pile", "pair", "letters", "sender", "names"] (defScope s_law_deed) := ⟨rfl, rfl, rfl, by decide +kernel, rfl, by decide +kernel, by decide +kernel⟩
abbrev s_law_read : Stmt := topS 35
abbrev N_law_read : List Str := ["pile", "pair", "letters", "keys", "epoch", "number", "expected"]
theorem sc_law_read : FnScope N_law_read ["pile", "pair", "letters", "keys"] (defScope s_law_read) := ⟨rfl, rfl, rfl, by decide +kernel, rfl, by decide +kernel, by decide +kernel⟩
abbrev slaw : Stmt := topS 36
abbrev Nlaw : List Str := ["script", "pile", "names", "keys", "pair", "k", "told", "letters", "sender", "row", "letter", "tunnel"]
theorem sclaw : FnScope Nlaw ["script"] (defScope slaw) := ⟨rfl, rfl, rfl, by decide +kernel, rfl, by decide +kernel, by decide +kernel⟩
structure Top (K : PySem.W.Frag) (mg : Str → Option Value) where
  C_Tunnel : Addr
  g_Tunnel : mg "Tunnel" = some (.ref C_Tunnel)
  cl_Tunnel : Cls K C_Tunnel
  n_Tunnel_window : NoAttr K C_Tunnel "window"
  n_Tunnel_first : NoAttr K C_Tunnel "first"
  n_Tunnel_second : NoAttr K C_Tunnel "second"
  n_Tunnel__letters : NoAttr K C_Tunnel "_letters"
  n_Tunnel__epoch : NoAttr K C_Tunnel "_epoch"
  n_Tunnel__sent : NoAttr K C_Tunnel "_sent"
  n_Tunnel__newest : NoAttr K C_Tunnel "_newest"
  n_Tunnel__counts : NoAttr K C_Tunnel "_counts"
  n_Tunnel__tops : NoAttr K C_Tunnel "_tops"
  n_Tunnel__received : NoAttr K C_Tunnel "_received"
  fis_name : Addr
  dis_name : FuncData
  Fis_name : Fun K "is_name" "is_name" sis_name fis_name dis_name
  bis_name : Binds K dis_name ["value"] []
  gis_name : mg "is_name" = some (.ref fis_name)
  fis_capital : Addr
  dis_capital : FuncData
  Fis_capital : Fun K "is_capital" "is_capital" sis_capital fis_capital dis_capital
  bis_capital : Binds K dis_capital ["value"] []
  gis_capital : mg "is_capital" = some (.ref fis_capital)
  f_is_word : Addr
  d_is_word : FuncData
  F_is_word : Fun K "_is_word" "_is_word" s_is_word f_is_word d_is_word
  b_is_word : Binds K d_is_word ["value", "least", "greatest"] []
  g_is_word : mg "_is_word" = some (.ref f_is_word)
  fis_number : Addr
  dis_number : FuncData
  Fis_number : Fun K "is_number" "is_number" sis_number fis_number dis_number
  bis_number : Binds K dis_number ["value", "greatest"] []
  gis_number : mg "is_number" = some (.ref fis_number)
  fforms_within : Addr
  dforms_within : FuncData
  Fforms_within : Fun K "forms_within" "forms_within" sforms_within fforms_within dforms_within
  bforms_within : Binds K dforms_within ["value", "language", "capitals"] []
  gforms_within : mg "forms_within" = some (.ref fforms_within)
  f_places_of : Addr
  d_places_of : FuncData
  F_places_of : Fun K "_places_of" "_places_of" s_places_of f_places_of d_places_of
  b_places_of : Binds K d_places_of ["value", "language"] []
  g_places_of : mg "_places_of" = some (.ref f_places_of)
  f_fits : Addr
  d_fits : FuncData
  F_fits : Fun K "_fits" "_fits" s_fits f_fits d_fits
  b_fits : Binds K d_fits ["item", "place", "before", "capitals"] []
  g_fits : mg "_fits" = some (.ref f_fits)
  fTunnel___init__ : Addr
  dTunnel___init__ : FuncData
  FTunnel___init__ : Fun K "__init__" "Tunnel.__init__" sTunnel___init__ fTunnel___init__ dTunnel___init__
  bTunnel___init__ : Binds K dTunnel___init__ ["self", "window", "first", "second"] []
  mTunnel___init__ : Meth K C_Tunnel "__init__" fTunnel___init__
  fTunnel_send : Addr
  dTunnel_send : FuncData
  FTunnel_send : Fun K "send" "Tunnel.send" sTunnel_send fTunnel_send dTunnel_send
  bTunnel_send : Binds K dTunnel_send ["self", "payload"] []
  mTunnel_send : Meth K C_Tunnel "send" fTunnel_send
  fTunnel_rekey : Addr
  dTunnel_rekey : FuncData
  FTunnel_rekey : Fun K "rekey" "Tunnel.rekey" sTunnel_rekey fTunnel_rekey dTunnel_rekey
  bTunnel_rekey : Binds K dTunnel_rekey ["self"] []
  mTunnel_rekey : Meth K C_Tunnel "rekey" fTunnel_rekey
  fTunnel_deliver : Addr
  dTunnel_deliver : FuncData
  FTunnel_deliver : Fun K "deliver" "Tunnel.deliver" sTunnel_deliver fTunnel_deliver dTunnel_deliver
  bTunnel_deliver : Binds K dTunnel_deliver ["self", "number"] []
  mTunnel_deliver : Meth K C_Tunnel "deliver" fTunnel_deliver
  fTunnel__renew : Addr
  dTunnel__renew : FuncData
  FTunnel__renew : Fun K "_renew" "Tunnel._renew" sTunnel__renew fTunnel__renew dTunnel__renew
  bTunnel__renew : Binds K dTunnel__renew ["self", "epoch"] []
  mTunnel__renew : Meth K C_Tunnel "_renew" fTunnel__renew
  fTunnel__judged : Addr
  dTunnel__judged : FuncData
  FTunnel__judged : Fun K "_judged" "Tunnel._judged" sTunnel__judged fTunnel__judged dTunnel__judged
  bTunnel__judged : Binds K dTunnel__judged ["self", "back", "number", "count"] []
  mTunnel__judged : Meth K C_Tunnel "_judged" fTunnel__judged
  fTunnel_letter : Addr
  dTunnel_letter : FuncData
  FTunnel_letter : Fun K "letter" "Tunnel.letter" sTunnel_letter fTunnel_letter dTunnel_letter
  bTunnel_letter : Binds K dTunnel_letter ["self", "number"] []
  mTunnel_letter : Meth K C_Tunnel "letter" fTunnel_letter
  fTunnel_key_term : Addr
  dTunnel_key_term : FuncData
  FTunnel_key_term : Fun K "key_term" "Tunnel.key_term" sTunnel_key_term fTunnel_key_term dTunnel_key_term
  bTunnel_key_term : Binds K dTunnel_key_term ["self", "epoch"] []
  mTunnel_key_term : Meth K C_Tunnel "key_term" fTunnel_key_term
  fTunnel_sealed : Addr
  dTunnel_sealed : FuncData
  FTunnel_sealed : Fun K "sealed" "Tunnel.sealed" sTunnel_sealed fTunnel_sealed dTunnel_sealed
  bTunnel_sealed : Binds K dTunnel_sealed ["self", "number"] []
  mTunnel_sealed : Meth K C_Tunnel "sealed" fTunnel_sealed
  fTunnel_sealed_row : Addr
  dTunnel_sealed_row : FuncData
  FTunnel_sealed_row : Fun K "sealed_row" "Tunnel.sealed_row" sTunnel_sealed_row fTunnel_sealed_row dTunnel_sealed_row
  bTunnel_sealed_row : Binds K dTunnel_sealed_row ["self"] []
  mTunnel_sealed_row : Meth K C_Tunnel "sealed_row" fTunnel_sealed_row
  fis_term : Addr
  dis_term : FuncData
  Fis_term : Fun K "is_term" "is_term" sis_term fis_term dis_term
  bis_term : Binds K dis_term ["value"] []
  gis_term : mg "is_term" = some (.ref fis_term)
  fis_ground : Addr
  dis_ground : FuncData
  Fis_ground : Fun K "is_ground" "is_ground" sis_ground fis_ground dis_ground
  bis_ground : Binds K dis_ground ["term"] []
  gis_ground : mg "is_ground" = some (.ref fis_ground)
  fsize : Addr
  dsize : FuncData
  Fsize : Fun K "size" "size" ssize fsize dsize
  bsize : Binds K dsize ["term"] []
  gsize : mg "size" = some (.ref fsize)
  foccurrences : Addr
  doccurrences : FuncData
  Foccurrences : Fun K "occurrences" "occurrences" soccurrences foccurrences doccurrences
  boccurrences : Binds K doccurrences ["term"] []
  goccurrences : mg "occurrences" = some (.ref foccurrences)
  f_law_pile : Addr
  d_law_pile : FuncData
  F_law_pile : Fun K "_law_pile" "_law_pile" s_law_pile f_law_pile d_law_pile
  b_law_pile : Binds K d_law_pile ["script"] []
  g_law_pile : mg "_law_pile" = some (.ref f_law_pile)
  f_law_draw : Addr
  d_law_draw : FuncData
  F_law_draw : Fun K "_law_draw" "_law_draw" s_law_draw f_law_draw d_law_draw
  b_law_draw : Binds K d_law_draw ["pile", "many"] []
  g_law_draw : mg "_law_draw" = some (.ref f_law_draw)
  f_law_names : Addr
  d_law_names : FuncData
  F_law_names : Fun K "_law_names" "_law_names" s_law_names f_law_names d_law_names
  b_law_names : Binds K d_law_names ["pile", "many"] []
  g_law_names : mg "_law_names" = some (.ref f_law_names)
  f_law_whole : Addr
  d_law_whole : FuncData
  F_law_whole : Fun K "_law_whole" "_law_whole" s_law_whole f_law_whole d_law_whole
  b_law_whole : Binds K d_law_whole ["actual"] []
  g_law_whole : mg "_law_whole" = some (.ref f_law_whole)
  f_law_same : Addr
  d_law_same : FuncData
  F_law_same : Fun K "_law_same" "_law_same" s_law_same f_law_same d_law_same
  b_law_same : Binds K d_law_same ["actual", "expected"] []
  g_law_same : mg "_law_same" = some (.ref f_law_same)
  f_law_keys : Addr
  d_law_keys : FuncData
  F_law_keys : Fun K "_law_keys" "_law_keys" s_law_keys f_law_keys d_law_keys
  b_law_keys : Binds K d_law_keys ["one", "two"] []
  g_law_keys : mg "_law_keys" = some (.ref f_law_keys)
  f_law_sealed : Addr
  d_law_sealed : FuncData
  F_law_sealed : Fun K "_law_sealed" "_law_sealed" s_law_sealed f_law_sealed d_law_sealed
  b_law_sealed : Binds K d_law_sealed ["letter", "keys"] []
  g_law_sealed : mg "_law_sealed" = some (.ref f_law_sealed)
  f_law_deed : Addr
  d_law_deed : FuncData
  F_law_deed : Fun K "_law_deed" "_law_deed" s_law_deed f_law_deed d_law_deed
  b_law_deed : Binds K d_law_deed ["pile", "pair", "letters", "sender", "names"] []
  g_law_deed : mg "_law_deed" = some (.ref f_law_deed)
  f_law_read : Addr
  d_law_read : FuncData
  F_law_read : Fun K "_law_read" "_law_read" s_law_read f_law_read d_law_read
  b_law_read : Binds K d_law_read ["pile", "pair", "letters", "keys"] []
  g_law_read : mg "_law_read" = some (.ref f_law_read)
  flaw : Addr
  dlaw : FuncData
  Flaw : Fun K "law" "law" slaw flaw dlaw
  blaw : Binds K dlaw ["script"] []
  glaw : mg "law" = some (.ref flaw)
  mk_Tunnel : Mk K C_Tunnel fTunnel___init__
  qTunnel_send_payload : ∀ (s : Shared) (u : Value) (ws : List Value), ws.length = (["payload"] : List Str).length → BindsTo s dTunnel_send ⟨[u], (["payload"] : List Str).zip ws⟩ ((["self", "payload"] : List Str).zip (u :: ws))
  qTunnel_key_term_epoch : ∀ (s : Shared) (u : Value) (ws : List Value), ws.length = (["epoch"] : List Str).length → BindsTo s dTunnel_key_term ⟨[u], (["epoch"] : List Str).zip ws⟩ ((["self", "epoch"] : List Str).zip (u :: ws))
  qTunnel_sealed_number : ∀ (s : Shared) (u : Value) (ws : List Value), ws.length = (["number"] : List Str).length → BindsTo s dTunnel_sealed ⟨[u], (["number"] : List Str).zip ws⟩ ((["self", "number"] : List Str).zip (u :: ws))
  t_LONGEST_NAME : Tok
  c_LONGEST_NAME : mg "LONGEST_NAME" = some (.int 8 t_LONGEST_NAME)
  t_WIDEST_WINDOW : Tok
  c_WIDEST_WINDOW : mg "WIDEST_WINDOW" = some (.int 64 t_WIDEST_WINDOW)
  t_LAST_EPOCH : Tok
  c_LAST_EPOCH : mg "LAST_EPOCH" = some (.int 12 t_LAST_EPOCH)
  z_ValueError : mg "ValueError" = none
  z_abs : mg "abs" = none
  z_all : mg "all" = none
  z_bool : mg "bool" = none
  z_enumerate : mg "enumerate" = none
  z_int : mg "int" = none
  z_isinstance : mg "isinstance" = none
  z_len : mg "len" = none
  z_property : mg "property" = none
  z_range : mg "range" = none
  z_reversed : mg "reversed" = none
  z_sorted : mg "sorted" = none
  z_str : mg "str" = none
  z_tuple : mg "tuple" = none
/-! ### the hand's short words -/
/-- all but what stands at a is as it was -/
def Fr (a : Addr) (H H' : Hp) : Prop := ∀ x o, H x = some o → x ≠ a → H' x = some o
theorem Fr.refl (a : Addr) (H : Hp) : Fr a H H := fun _ _ h _ => h
theorem Fr.trans {a : Addr} {H H1 H2 : Hp} (p : Fr a H H1) (q : Fr a H1 H2) : Fr a H H2 := fun x o h n => q x o (p x o h n) n
theorem Fr.upd {a : Addr} {o : HO} (H : Hp) : Fr a H (L2.upd H a o) := fun x u h n => by rw [upd_ne n]; exact h
theorem Fr.new {a p : Addr} {o : HO} {H : Hp} (h : H p = none) : Fr a H (L2.upd H p o) := fun x u e _ => by rw [upd_ne (ne_of_none e h)]; exact e
theorem Fr.same {a : Addr} {H H' : Hp} (h : Same H H') : Fr a H H' := fun x o e _ => h x o e
theorem ofb {b : Bool} (h : ¬ b = true) : b = false := by cases b with | true => exact absurd rfl h | false => rfl
theorem at_ok {α : Type} {xs : List α} {p : Int} (h0 : 0 ≤ p) (h1 : p < (xs.length : Int)) : ∃ z, atI xs p = some z ∧ z ∈ xs := by
  obtain ⟨j, rfl⟩ : ∃ j : Nat, p = (j : Int) := ⟨p.toNat, by omega⟩
  have hj : j < xs.length := by omega
  exact ⟨xs[j], atI_nat (List.getElem?_eq_getElem hj), List.getElem_mem hj⟩
def told_GREATEST_NUMBERS : TopX.Told := TopX.oneTold PySem.Challenge.pw_muffline_k74_keys_and_sealed 7
def told_PLACES : TopX.Told := TopX.oneTold PySem.Challenge.pw_muffline_k74_keys_and_sealed 9
def rowsP : List TopX.Row := told_PLACES.rowsIn
def fes_GREATEST_NUMBERS : List TopX.FE := told_GREATEST_NUMBERS.fes
structure PlT (P : Program) (w : World) (K : PySem.W.Frag) (mg : Str → Option Value) where
  d : Addr
  ents : List TopX.Ent
  g : mg "PLACES" = some (.ref d)
  ok : TopX.PlK P w K d ents rowsP
  d_GREATEST_NUMBERS : Addr
  g_GREATEST_NUMBERS : mg "GREATEST_NUMBERS" = some (.ref d_GREATEST_NUMBERS)
  ok_GREATEST_NUMBERS : TopX.FlK P w K d_GREATEST_NUMBERS fes_GREATEST_NUMBERS
  d_LANGUAGES : Addr
  g_LANGUAGES : mg "LANGUAGES" = some (.ref d_LANGUAGES)
  ok_LANGUAGES : ∀ H, SqT K H d_LANGUAGES [.str "atom", .str "term", .str "role term", .str "recipe"]
theorem shortP : ∀ (ss vs : List Str), TopX.rowAt rowsP ss = some vs → vs.length ≤ sizeLine := TopX.short_of (by decide +kernel)
/-! ### one step of a reading -/
section
variable {σ : L2.St} {H : Hp} {Q : VK} {D : Ends} {K : PySem.W.Frag}
theorem w_var {i : Nat} {v : V} (h : σ[i]? = some (some v)) (q : Q v H) : tVar i σ H Q := ⟨v, h, q⟩
theorem w_c {v : V} (q : Q v H) : tC v σ H Q := q
theorem w_op {r : R2} {ta tb : TE} (q : ta σ H fun x H1 => tb σ H1 fun y H2 => r x y H2 Q) : tOp r ta tb σ H Q := q
theorem w_un {r : V → Hp → VK → Prop} {ta : TE} (q : ta σ H fun x H1 => r x H1 Q) : tUn r ta σ H Q := q
theorem w_cb {r : List V → Hp → VK → Prop} {t : TA} (q : t σ H fun vs H1 => r vs H1 Q) : tCB r t σ H Q := q
theorem w_cons {ta : TE} {tr : TA} {R : List V → Hp → Prop} (q : ta σ H fun x H1 => tr σ H1 fun xs H2 => R (x :: xs) H2) : tCons ta tr σ H R := q
theorem w_nil {R : List V → Hp → Prop} (q : R [] H) : tNil σ H R := q
theorem w_seq {t u : TS} (q : t { D with nx := u D } σ H) : tSeq t u D σ H := q
theorem w_next (q : D.nx σ H) : tNext D σ H := q
theorem w_asg {te : TE} {g : TG} (q : te σ H fun x H1 => g x σ H1 D.nx) : tAsg te g D σ H := q
theorem w_gname {i : Nat} {v : V} {R : L2.St → Hp → Prop} (q : R (σ.set i (some v)) H) : gName i v σ H R := q
theorem w_gsub {to ti : TE} {t : TSet} {v : V} {R : L2.St → Hp → Prop} (q : to σ H fun o H1 => ti σ H1 fun i H2 => t o i v H2 fun H3 => R σ H3) : gSub to ti t v σ H R := q
theorem w_drop {te : TE} (q : te σ H fun _ H1 => D.nx σ H1) : tDrop te D σ H := q
theorem w_ret {te : TE} (q : te σ H D.rt) : tRet te D σ H := q
theorem w_retN (q : D.rt .non H) : tRetN D σ H := q
theorem w_ifs {c : TT} {t u : TS} (q : c σ H fun b H1 => if b = true then t D σ H1 else u D σ H1) : tIfS c t u D σ H := q
theorem w_test {te : TE} {R : Bool → Hp → Prop} (q : te σ H fun x H' => ∃ k, x = .bl k ∧ R k H') : tTest te σ H R := q
theorem w_tB {te : TE} {R : Bool → Hp → Prop} (q : te σ H fun x H' => ∃ k, x = .bl k ∧ R k H') : tB te σ H R := q
theorem w_and {t u : TT} {R : Bool → Hp → Prop} (q : t σ H fun c H1 => if c = true then u σ H1 R else R false H1) : tAnd t u σ H R := q
theorem w_or {t u : TT} {R : Bool → Hp → Prop} (q : t σ H fun c H1 => if c = true then R true H1 else u σ H1 R) : tOr t u σ H R := q
theorem w_not {t : TT} {R : Bool → Hp → Prop} (q : t σ H fun c H1 => R (!c) H1) : tNot t σ H R := q
theorem w_k {k : Bool} {R : Bool → Prop} (q : R k) : ∃ k', V.bl k = .bl k' ∧ R k' := ⟨k, rfl, q⟩
theorem w_I0 {g : Int → Int → V} {i j : Int} (q : Q (g i j) H) : rI0 g (.int i) (.int j) H Q := ⟨i, j, rfl, rfl, q⟩
theorem w_I {C : Int → Int → Prop} {g : Int → Int → V} {i j : Int} (c : C i j) (q : Q (g i j) H) : rI C g (.int i) (.int j) H Q := ⟨i, j, rfl, rfl, c, q⟩
theorem w_U {g : Int → V} {i : Int} (q : Q (g i) H) : rU g (.int i) H Q := ⟨i, rfl, q⟩
theorem w_eqI {i j : Int} (q : Q (.bl (decide (i = j))) H) : rEq (.int i) (.int j) H Q := ⟨rfl, by
  rw [show decide (V.int i = V.int j) = decide (i = j) from decide_eq_decide.mpr ⟨fun e => V.int.inj e, fun e => e ▸ rfl⟩]
  exact q⟩
theorem w_neI {i j : Int} (q : Q (.bl (!decide (i = j))) H) : rNe (.int i) (.int j) H Q := ⟨rfl, by
  rw [show decide (V.int i = V.int j) = decide (i = j) from decide_eq_decide.mpr ⟨fun e => V.int.inj e, fun e => e ▸ rfl⟩]
  exact q⟩
theorem w_eqS {i j : Str} (q : Q (.bl (decide (i = j))) H) : rEq (.str i) (.str j) H Q := ⟨rfl, by
  rw [show decide (V.str i = V.str j) = decide (i = j) from decide_eq_decide.mpr ⟨fun e => V.str.inj e, fun e => e ▸ rfl⟩]
  exact q⟩
theorem w_neS {i j : Str} (q : Q (.bl (!decide (i = j))) H) : rNe (.str i) (.str j) H Q := ⟨rfl, by
  rw [show decide (V.str i = V.str j) = decide (i = j) from decide_eq_decide.mpr ⟨fun e => V.str.inj e, fun e => e ▸ rfl⟩]
  exact q⟩
theorem w_ixL {p : Addr} {xs : List V} {i : Int} {v : V} (h : SqL K H p xs) (e : atI xs i = some v) (q : Q v H) : rIxL K (.ref p) (.int i) H Q := ⟨p, xs, i, v, rfl, rfl, h, e, q⟩
theorem w_ixT {p : Addr} {xs : List V} {i : Int} {v : V} (h : SqT K H p xs) (e : atI xs i = some v) (q : Q v H) : rIxT K (.ref p) (.int i) H Q := ⟨p, xs, i, v, rfl, rfl, h, e, q⟩
theorem w_setL {p : Addr} {xs : List V} {k : Int} {j : Nat} {v : V} {R : Hp → Prop} (h : H p = some (.lst xs)) (e : ixN xs.length k = some j) (q : R (upd H p (.lst (xs.set j v)))) : rSetL (.ref p) (.int k) v H R := ⟨p, xs, k, j, rfl, rfl, h, e, q⟩
theorem w_call {sp : Sp} {dvs : List V} {E : XK} {t : TA} (q : t σ H fun vs H1 => sp (vs ++ dvs) H1 Q E) : tCall sp dvs E t σ H Q := q
theorem w_tup {t : TA} (q : t σ H fun xs H1 => xs.length ≤ sizeLine ∧ ∀ p, H1 p = none → Q (.ref p) (upd H1 p (.tup xs))) : tTup t σ H Q := q
theorem w_lst {t : TA} (q : t σ H fun xs H1 => xs.length ≤ sizeLine ∧ ∀ p, H1 p = none → Q (.ref p) (upd H1 p (.lst xs))) : tLst t σ H Q := q
theorem w_int {i : Int} {C : Prop} {R : Int → Prop} (q : R i) : (∃ j, [V.int i] = [.int j] ∧ R j) ∨ C := .inl ⟨i, rfl, q⟩
theorem w_bm {T : String} {r : V → List V → Hp → VK → Prop} {to : TE} {t : TA} (q : to σ H fun x H1 => tyV K T x H1 ∧ t σ H1 fun xs H2 => r x xs H2 Q) : tBM K T r to t σ H Q := q
theorem w_bm0 {T : String} {r : V → List V → Hp → VK → Prop} {to : TE} (q : to σ H fun x H1 => tyV K T x H1 ∧ r x [] H1 Q) : tBM0 K T r to σ H Q := q
theorem w_append {l : Addr} {xs : List V} {y : V} (h : H l = some (.lst xs)) (n : xs.length < sizeLine) (q : Q .non (upd H l (.lst (xs ++ [y])))) : rAppend (.ref l) [y] H Q := ⟨l, xs, y, rfl, rfl, h, n, q⟩
theorem ty_l {l : Addr} {xs : List V} (h : H l = some (.lst xs)) : tyV K "list" (.ref l) H := Or.inl ⟨rfl, _, Or.inl (Or.inl h)⟩
theorem w_tyl {l : Addr} {xs : List V} {C : Prop} (h : H l = some (.lst xs)) (q : C) : tyV K "list" (.ref l) H ∧ C := ⟨ty_l h, q⟩
theorem w_sl {r : V → Option Int → Option Int → Hp → VK → Prop} {te : TE} {tl th : TO} (q : te σ H fun x H1 => tl σ H1 fun l H2 => th σ H2 fun u H3 => r x l u H3 Q) : tSl r te tl th σ H Q := q
theorem w_no {R : Option Int → Hp → Prop} (q : R none H) : tNoPart σ H R := q
theorem w_part {t : TE} {R : Option Int → Hp → Prop} (q : t σ H fun x H1 => ∃ i, x = .int i ∧ R (some i) H1) : tPart t σ H R := q
theorem w_pi {i : Int} {R : Int → Prop} (q : R i) : ∃ j, V.int i = .int j ∧ R j := ⟨i, rfl, q⟩
theorem w_slS {z : Str} {lo hi : Option Int} (n : z.length ≤ sizeLine) (q : Q (.str (cutS z lo hi)) H) : rSlS (.str z) lo hi H Q := ⟨z, rfl, n, q⟩
theorem w_m1 {r : V → List V → Hp → VK → Prop} {to te : TE} (q : to σ H fun x H1 => (∃ a, x = .str a) ∧ te σ H1 fun y H2 => r x [y] H2 Q) : tM1 r to te σ H Q := q
theorem w_s {z : Str} {C : Prop} (q : C) : (∃ a, V.str z = .str a) ∧ C := ⟨⟨z, rfl⟩, q⟩
theorem w_len {p : Addr} {ys : List V} {R : List V → Prop} (h : SqL K H p ys) (q : R ys) : ∃ p' ys', [V.ref p] = [V.ref p'] ∧ (SqL K H p' ys' ∨ SqT K H p' ys') ∧ R ys' := ⟨p, ys, rfl, .inl h, q⟩
theorem w_lenT {p : Addr} {ys : List V} {R : List V → Prop} (h : SqT K H p ys) (q : R ys) : ∃ p' ys', [V.ref p] = [V.ref p'] ∧ (SqL K H p' ys' ∨ SqT K H p' ys') ∧ R ys' := ⟨p, ys, rfl, .inr h, q⟩
theorem w_lenS {z : Str} {R : Str → Prop} (n : z.length ≤ sizeLine) (q : R z) : ∃ z', [V.str z] = [V.str z'] ∧ z'.length ≤ sizeLine ∧ R z' := ⟨z, rfl, n, q⟩
theorem w_one {i : Int} {R : Int → Prop} (q : R i) : ∃ j, [V.int i] = [V.int j] ∧ R j := ⟨i, rfl, q⟩
theorem w_two {i j : Int} {R : Int → Int → Prop} (q : R i j) : ∃ i' j', [V.int i, V.int j] = [V.int i', V.int j'] ∧ R i' j' := ⟨i, j, rfl, q⟩
theorem w_for {wi : TI} {g : TG} {tb : TS} (q : wi σ H fun J H1 => ∃ W : Nat → Nat → L2.St → Hp → Prop, (∃ m, W 0 m σ H1) ∧ ∀ i m σ H, W i m σ H → (J.stop i H ∧ D.nx σ H) ∨ (J.go i H ∧ ∃ N : L2.St → Hp → Prop, (∀ σ' H', N σ' H' → ∃ m', m' < m ∧ W (i + 1) m' σ' H') ∧ ∀ x H', J.yld i H x H' → g x σ H' fun σ2 H2 => tb { D with nx := N, ct := N, bk := D.nx } σ2 H2)) : tFor wi g tb D σ H := q
theorem w_iList {tl : TE} {R : It → Hp → Prop} (q : tl σ H fun x H1 => ∃ a, x = .ref a ∧ (∃ xs, SqL K H1 a xs) ∧ R (Itl K a) H1) : iList K tl σ H R := q
theorem w_iTup {tl : TE} {R : It → Hp → Prop} (q : tl σ H fun x H1 => ∃ a, x = .ref a ∧ (∃ xs, SqT K H1 a xs) ∧ R (Itt K a) H1) : iTup K tl σ H R := q
theorem w_itl {a : Addr} {xs : List V} {R : Addr → Prop} (h : SqL K H a xs) (q : R a) : ∃ a', V.ref a = .ref a' ∧ (∃ xs, SqL K H a' xs) ∧ R a' := ⟨a, rfl, ⟨xs, h⟩, q⟩
theorem w_itt {a : Addr} {xs : List V} {R : Addr → Prop} (h : SqT K H a xs) (q : R a) : ∃ a', V.ref a = .ref a' ∧ (∃ xs, SqT K H a' xs) ∧ R a' := ⟨a, rfl, ⟨xs, h⟩, q⟩
theorem w_iRng1 {ta : TA} {R : It → Hp → Prop} (q : ta σ H fun vs H1 => ∃ j : Int, vs = [.int j] ∧ -(2 ^ 62) ≤ j ∧ j < 2 ^ 62 ∧ R (Itr 0 j.toNat) H1) : iRng1 ta σ H R := q
theorem w_rng {j : Int} {R : Int → Prop} (h1 : -(2 ^ 62) ≤ j) (h2 : j < 2 ^ 62) (q : R j) : ∃ j' : Int, [V.int j] = [.int j'] ∧ -(2 ^ 62) ≤ j' ∧ j' < 2 ^ 62 ∧ R j' := ⟨j, rfl, h1, h2, q⟩
theorem w_lc {wi : TI} {g : TG} {tt : TT} {te : TE} {vs : List Nat} (q : wi σ H fun J H1 => ∀ D, H1 D = none → ∃ W : Nat → Nat → Hp → Prop, (∃ m, W 0 m (upd H1 D (.lst []))) ∧ ∀ i m H, W i m H →
      (J.stop i H ∧ Q (.ref D) H) ∨ (J.go i H ∧ ∃ Nx : Hp → Prop, (∀ H', Nx H' → ∃ m', m' < m ∧ W (i + 1) m' H') ∧ ∀ x H', J.yld i H x H' → g x (wipe σ vs) H' fun σ2 H2 => wipe σ2 vs = wipe σ vs ∧ tt σ2 H2 fun b H3 =>
        if b = true then te σ2 H3 fun y H4 => ∃ acc, H4 D = some (.lst acc) ∧ acc.length < sizeLine ∧ Nx (upd H4 D (.lst (acc ++ [y]))) else Nx H3)) : tLc wi g tt te vs σ H Q := q
theorem w_yes {R : Bool → Hp → Prop} (q : R true H) : tYes σ H R := q
theorem w_wipe {σ1 σ2 : L2.St} {C : Prop} (h : σ1 = σ2) (q : C) : σ1 = σ2 ∧ C := ⟨h, q⟩
theorem w_cmpS {i j : Str} {R : Str → Str → Prop} (q : R i j) : ∃ i' j', V.str i = .str i' ∧ V.str j = .str j' ∧ R i' j' := ⟨i, j, rfl, rfl, q⟩
theorem w_while {c : TT} {tb : TS} (W : Nat → L2.St → Hp → Prop) (m : Nat) (h0 : W m σ H) (h : ∀ m σ H, W m σ H → c σ H fun b H1 => if b = true then ∃ N : L2.St → Hp → Prop, (∀ σ' H', N σ' H' → ∃ m', m' < m ∧ W m' σ' H') ∧ tb { D with nx := N, ct := N, bk := D.nx } σ H1 else D.nx σ H1) : tWhile c tb D σ H := ⟨W, ⟨m, h0⟩, h⟩
theorem w_truL {p : Addr} {xs : List V} {R : Bool → Prop} (h : SqL K H p xs) (q : R (!xs.isEmpty)) : ∃ k, TruV K (.ref p) H k ∧ R k := ⟨_, Or.inl ⟨xs, h, rfl⟩, q⟩
theorem w_pop {l : Addr} {xs : List V} {y : V} (h : H l = some (.lst (xs ++ [y]))) (q : Q y (upd H l (.lst xs))) : rPop (.ref l) [] H Q := ⟨l, xs ++ [y], y, rfl, rfl, h, by simp, by rw [List.dropLast_concat]; exact q⟩
theorem w_revA {te : TE} {R : It → Hp → Prop} (q : te σ H fun v H1 => ∃ (a : Addr) (xs : List V), v = .ref a ∧ ((SqL K H1 a xs ∧ R (Itv K a xs.length) H1) ∨ (SqT K H1 a xs ∧ R (RT.ItvT K a xs.length) H1))) : RT.iRevA K te σ H R := q
theorem w_rvT {a : Addr} {xs : List V} {C R : Addr → List V → Prop} (h : SqT K H a xs) (q : R a xs) : ∃ (a' : Addr) (xs' : List V), V.ref a = .ref a' ∧ (C a' xs' ∨ (SqT K H a' xs' ∧ R a' xs')) := ⟨a, xs, rfl, .inr ⟨h, q⟩⟩
theorem w_rvL {a : Addr} {xs : List V} {C R : Addr → List V → Prop} (h : SqL K H a xs) (q : R a xs) : ∃ (a' : Addr) (xs' : List V), V.ref a = .ref a' ∧ ((SqL K H a' xs' ∧ R a' xs') ∨ C a' xs') := ⟨a, xs, rfl, .inl ⟨h, q⟩⟩
theorem w_isi {v : V} {d : PyData} (h : DAt H v d) (q : Q (.bl (isTup d)) H) : rIsi K [v, .ty "tuple"] H Q := by
  cases h with
  | str x => exact ⟨_, _, _, _, false, rfl, .ty _, .base (.str x), kit_ty (by decide +kernel), q⟩
  | int x => exact ⟨_, _, _, _, false, rfl, .ty _, .base (.int x), kit_ty (by decide +kernel), q⟩
  | non => exact ⟨_, _, _, _, false, rfl, .ty _, .base .non, kit_ty (by decide +kernel), q⟩
  | tup h _ => exact ⟨_, _, _, _, true, rfl, .ty _, .base (.tup h), kit_ty (by decide +kernel), q⟩
theorem w_join {a : Str} {p : Addr} {ys : List Str} {R : Str → List Str → Prop} (h : SqL K H p (ys.map V.str)) (n : (ys.map (·.length)).sum + ys.length * a.length ≤ 16777216) (q : R a ys) : ∃ a' p', ∃ ys' : List Str, V.str a = .str a' ∧ [V.ref p] = [.ref p'] ∧ (SqL K H p' (ys'.map V.str) ∨ SqT K H p' (ys'.map V.str)) ∧ (ys'.map (·.length)).sum + ys'.length * a'.length ≤ 16777216 ∧ R a' ys' := ⟨a, p, ys, rfl, rfl, .inl h, n, q⟩
theorem w_dg {td ty : TE} (q : td σ H fun x H1 => ty σ H1 fun y H2 => ∃ a v, x = .ref a ∧ DGet H2 a y (some v) ∧ Q v H2) : tDGet td ty σ H Q := q
theorem w_dp {td ty tv : TE} (q : tv σ H fun v H1 => td σ H1 fun x H2 => ty σ H2 fun y H3 => ∃ a H4, x = .ref a ∧ DPut H3 a y v H4 ∧ D.nx σ H4) : sDPut td ty tv D σ H := q
theorem w_it {c A B : Prop} [Decidable c] (h : c) (q : A) : if c then A else B := by rw [if_pos h]; exact q
theorem w_if {c A B : Prop} [Decidable c] (h : ¬ c) (q : B) : if c then A else B := by rw [if_neg h]; exact q
theorem w_cnt {x y : Str} {R : Str → Str → Prop} (q : R x y) : ∃ a b, V.str x = .str a ∧ [V.str y] = [.str b] ∧ R a b := ⟨x, y, rfl, rfl, q⟩
theorem w_par {i j : Nat} {ta : TA} (q : ta σ H fun vs H1 => ∃ v w, vs = [v, w] ∧ D.nx ((σ.set i (some v)).set j (some w)) H1) : tPar i j ta D σ H := q
theorem w_par2 {v w : V} {R : V → V → Prop} (q : R v w) : ∃ v' w', [v, w] = [v', w'] ∧ R v' w' := ⟨v, w, rfl, q⟩
end
theorem Nm.len {z : Str} (h : Nm z) : z.length ≤ sizeLine := Nat.le_trans h.hi (by decide)
theorem add_ok {m n : Nat} (h : m + n ≤ 1000000) : m + n ≤ sizeLine := Nat.le_trans h (by decide)
local macro_rules | `(tactic| walk_at "ne") => `(tactic| first | assumption | exact Ne.symm (by assumption) | exact ne_of_none (by assumption) (by assumption) | exact Ne.symm (ne_of_none (by assumption) (by assumption)))
local macro_rules | `(tactic| walk_at "hp") => `(tactic| first | assumption | exact upd_same | (rw [upd_ne (by walk_at "ne")]; walk_at "hp"))
local macro_rules | `(tactic| walk_at "sl") => `(tactic| first | assumption | exact SqL.of (by walk_at "hp"))
local macro_rules | `(tactic| walk_at "st") => `(tactic| first | assumption | exact SqT.of (by walk_at "hp"))
local macro_rules | `(tactic| walk_at "c") => `(tactic| first | assumption | decide | exact ⟨by omega, by omega⟩ | (show (0 : Int) < _; omega) | exact Or.inl ⟨by omega, by omega⟩ | exact Or.inr ⟨by omega, by omega⟩)
local macro_rules | `(tactic| walk_at "len") => `(tactic| (simp only [List.length_cons, List.length_nil]; decide))
local macro_rules | `(tactic| walk_at "z") => `(tactic| first | assumption | exact Nm.len (by assumption))
local macro_rules | `(tactic| walk_at "s0") => `(tactic| with_reducible first
  | (apply w_var; case h => with_unfolding_all rfl) | apply w_c | apply w_op | apply w_seq | apply w_asg | apply w_gname | apply w_cb | apply w_cons | apply w_nil | apply w_next
  | apply w_gsub | apply w_drop | apply w_ret | apply w_retN | apply w_test | apply w_tB | apply w_and | apply w_or | apply w_not | apply w_un | apply w_call | apply w_tup | apply w_lst
  | apply w_bm | apply w_bm0 | apply w_sl | apply w_no | apply w_part | apply w_m1 | apply w_dg | apply w_dp | apply w_for | apply w_iList | apply w_iTup | apply w_iRng1 | apply w_lc | apply w_yes | apply w_revA | apply w_par
  | apply w_I0 | apply w_U | apply w_eqI | apply w_neI | apply w_eqS | apply w_neS | apply w_k | apply w_pi | apply w_s | apply w_int
  | (apply w_ixL; (case h => with_unfolding_all walk_at "sl"); (case e => with_unfolding_all rfl)) | (apply w_ixT; (case h => with_unfolding_all walk_at "st"); (case e => with_unfolding_all rfl))
  | (apply w_setL; (case h => with_unfolding_all walk_at "hp"); (case e => with_unfolding_all rfl))
  | (apply w_tyl; (case h => with_unfolding_all walk_at "hp")) | (apply w_len; (case h => with_unfolding_all walk_at "sl")) | (apply w_lenT; (case h => with_unfolding_all walk_at "st"))
  | (apply w_rng; (case h1 => with_unfolding_all omega); (case h2 => with_unfolding_all omega)) | apply w_one | apply w_two
  | (apply w_I; (case c => with_unfolding_all walk_at "c"))
  | (apply w_itl; (case h => with_unfolding_all walk_at "sl")) | (apply w_itt; (case h => with_unfolding_all walk_at "st"))
  | (apply w_wipe; (case h => with_unfolding_all rfl)) | apply iteT | apply iteF | apply w_cmpS | apply w_cnt | apply w_par2
  | (apply w_slS; (case n => with_unfolding_all walk_at "z")) | (apply w_truL; (case h => with_unfolding_all walk_at "sl")) | (apply w_pop; (case h => with_unfolding_all walk_at "hp"))
  | (apply w_rvT; (case h => with_unfolding_all walk_at "st")) | (apply w_rvL; (case h => with_unfolding_all walk_at "sl")) | (apply w_isi; (case h => with_unfolding_all assumption)) | (apply w_lenS; (case n => with_unfolding_all walk_at "z")))
local macro_rules | `(tactic| walk_at "s") => `(tactic| first | walk_at "s0" | with_reducible apply w_ifs)
local macro_rules | `(tactic| walk_at "dc") => `(tactic| first | refine w_it (by decide +kernel) ?_ | refine w_if (by decide +kernel) ?_)
local macro_rules | `(tactic| walk_at "sa") => `(tactic| first | walk_at "s" | refine ⟨add_ok (by (try simp only [len_appS]); omega), ?_⟩ | walk_at "dc")
section
variable {σ : L2.St} {H : Hp} {Q : VK} {D : Ends} {K : PySem.W.Frag}
theorem w_ckw {r : List V → List V → Hp → VK → Prop} {t tk : TA} (q : t σ H fun vs H1 => tk σ H1 fun zs H2 => r vs zs H2 Q) : tCKw r t tk σ H Q := q
theorem w_ck0 {sp : Sp} {n : Nat} {gV : List V → List V} {E : XK} {tk : TA} (q : tk σ H fun zs H2 => zs.length = n ∧ sp (gV zs) H2 Q E) : tCallK0 sp n gV E tk σ H Q := q
theorem w_gtup {n : Nat} {t : TGs} {a : Addr} {xs : List V} {R : L2.St → Hp → Prop} (h : SqT K H a xs) (e : xs.length = n) (q : t xs σ H R) : gTup K n t (.ref a) σ H R := ⟨a, xs, rfl, h, e, q⟩
theorem w_gcons {t : TG} {u : TGs} {v : V} {r : List V} {R : L2.St → Hp → Prop} (q : t v σ H fun σ' H' => u r σ' H' R) : gCons t u (v :: r) σ H R := ⟨v, r, rfl, q⟩
theorem w_gnil {R : L2.St → Hp → Prop} (q : R σ H) : gNil [] σ H R := ⟨rfl, q⟩
theorem isi_s {z : Str} {n : String} {b : Bool} (k : kitB "str" n = some b) (q : Q (.bl b) H) : rIsi K [.str z, .ty n] H Q := ⟨_, _, _, _, b, rfl, .ty _, .base (.str z), kit_ty k, q⟩
theorem isi_i {z : Int} {n : String} {b : Bool} (k : kitB "int" n = some b) (q : Q (.bl b) H) : rIsi K [.int z, .ty n] H Q := ⟨_, _, _, _, b, rfl, .ty _, .base (.int z), kit_ty k, q⟩
theorem isi_t {a : Addr} {vs : List V} {n : String} {b : Bool} (h : H a = some (.tup vs)) (k : kitB "tuple" n = some b) (q : Q (.bl b) H) : rIsi K [.ref a, .ty n] H Q := ⟨_, _, _, _, b, rfl, .ty _, .base (.tup h), kit_ty k, q⟩
theorem isi_st {z : Str} (q : Q (.bl false) H) : rIsi K [.str z, .ty "tuple"] H Q := isi_s (by decide +kernel) q
theorem isi_ss {z : Str} (q : Q (.bl true) H) : rIsi K [.str z, .ty "str"] H Q := isi_s (by decide +kernel) q
theorem isi_it {z : Int} (q : Q (.bl false) H) : rIsi K [.int z, .ty "tuple"] H Q := isi_i (by decide +kernel) q
theorem isi_is {z : Int} (q : Q (.bl false) H) : rIsi K [.int z, .ty "str"] H Q := isi_i (by decide +kernel) q
theorem isi_ib {z : Int} (q : Q (.bl false) H) : rIsi K [.int z, .ty "bool"] H Q := isi_i (by decide +kernel) q
theorem isi_ii {z : Int} (q : Q (.bl true) H) : rIsi K [.int z, .ty "int"] H Q := isi_i (by decide +kernel) q
theorem isi_tt {a : Addr} {vs : List V} (h : H a = some (.tup vs)) (q : Q (.bl true) H) : rIsi K [.ref a, .ty "tuple"] H Q := isi_t h (by decide +kernel) q
theorem w_isN {C : Prop} (q : C) : V.non = V.non ∧ C := ⟨rfl, q⟩
theorem w_isB {a b : Bool} (q : Q (.bl (decide (a = b))) H) : rIsB (.bl a) (.bl b) H Q := ⟨a, b, rfl, rfl, q⟩
theorem w_notB {a b : Bool} (q : Q (.bl (!decide (a = b))) H) : rNotB (.bl a) (.bl b) H Q := ⟨a, b, rfl, rfl, q⟩
theorem w_tys {z : Str} {C : Prop} (q : C) : tyV K "str" (.str z) H ∧ C := ⟨rfl, q⟩
theorem w_revT {te : TE} (q : te σ H fun x H1 => ∃ a xs, x = .ref a ∧ SqT K H1 a xs ∧ ∀ p, H1 p = none → Q (.ref p) (upd H1 p (.tup xs.reverse))) : tRevT K te σ H Q := q
theorem w_andV {ta tb : TE} (q : ta σ H fun x H1 => ∃ c, x = .bl c ∧ if c = true then tb σ H1 Q else Q (.bl false) H1) : tAndV ta tb σ H Q := q
theorem w_orV {ta tb : TE} (q : ta σ H fun x H1 => ∃ c, x = .bl c ∧ if c = true then Q (.bl true) H1 else tb σ H1 Q) : tOrV ta tb σ H Q := q
theorem w_dnew (q : ∀ p, H p = none → Q (.ref p) (upd H p (.dK []))) : tDNewK σ H Q := q
theorem w_neB {i j : Bool} (q : Q (.bl (!decide (i = j))) H) : rNe (.bl i) (.bl j) H Q := ⟨rfl, by
  rw [show decide (V.bl i = V.bl j) = decide (i = j) from decide_eq_decide.mpr ⟨fun e => V.bl.inj e, fun e => e ▸ rfl⟩]
  exact q⟩
theorem w_chain {r1 r2 : R2} {ta tb tc : TE} (q : ta σ H fun x H1 => tb σ H1 fun y H2 => r1 x y H2 fun z H3 => ∃ k, z = .bl k ∧ if k = true then tc σ H3 fun u H4 => r2 y u H4 Q else Q (.bl false) H3) : tChain r1 r2 ta tb tc σ H Q := q
theorem sm_new {p : Addr} {o : HO} (h : H p = none) : Same H (upd H p o) := fun b u e => by rw [upd_ne (ne_of_none e h)]; exact e
end
def tx (l : List PyData) : List V := l.map fun d => V.str (wr d)
local macro_rules | `(tactic| walk_at "s0") => `(tactic| with_reducible first
  | apply w_ckw | apply w_chain | apply w_neB | apply w_andV | apply w_orV | apply w_dnew | apply w_ck0 | apply w_gcons | apply w_gnil | apply isi_st | apply isi_ss | apply isi_it | apply isi_is | apply isi_ib | apply isi_ii | (apply isi_tt; (case h => with_unfolding_all walk_at "hp"))
  | apply w_isN | apply w_isB | apply w_notB | apply w_tys | apply w_revT | (apply w_gtup; (case h => with_unfolding_all walk_at "st"); (case e => with_unfolding_all rfl)))
/-! ### instances; what never runs -/
theorem ps_no {X : Cx} {s : Stmt} : PS X s (fun _ _ _ => False) := ⟨fun _ _ _ _ _ _ h => h.elim⟩
section
variable {σ : L2.St} {H : Hp} {Q : VK} {D : Ends} {K : PySem.W.Frag}
theorem w_fld {ta : TE} {f : Str} (q : ta σ H fun x H1 => ∃ a C dx fs v, x = .ref a ∧ H1 a = some (.ins C dx fs) ∧ Cls K C ∧ NoAttr K C f ∧ fs.lookup f = some v ∧ Q v H1) : tFld K ta f σ H Q := q
theorem w_fldA {p C dx : Addr} {fs : List (Str × V)} {f : Str} {v : V} {R : V → Prop} (h : H p = some (.ins C dx fs)) (c : Cls K C) (n : NoAttr K C f) (l : fs.lookup f = some v) (q : R v) : ∃ a C dx fs v, V.ref p = .ref a ∧ H a = some (.ins C dx fs) ∧ Cls K C ∧ NoAttr K C f ∧ fs.lookup f = some v ∧ R v := ⟨p, C, dx, fs, v, rfl, h, c, n, l, q⟩
theorem w_sfld {ta tv : TE} {f : Str} (q : tv σ H fun y H1 => ta σ H1 fun x H2 => ∃ a C dx fs, x = .ref a ∧ H2 a = some (.ins C dx fs) ∧ Cls K C ∧ NoAttr K C f ∧ fs.length < 1000 ∧ D.nx σ (upd H2 a (.ins C dx (putF f y fs)))) : sFld K ta tv f D σ H := q
theorem w_meth {C : Addr} {m : Str} {sp : Sp} {dvs : List V} {E : XK} {ta : TE} {t : TA} (q : ta σ H fun x H1 => ∃ a dx fs, x = .ref a ∧ H1 a = some (.ins C dx fs) ∧ fs.lookup m = none ∧ t σ H1 fun vs H2 => sp (x :: (vs ++ dvs)) H2 Q E) : tMeth C m sp dvs E ta t σ H Q := q
theorem w_make {C : Addr} {sp : Sp} {dvs : List V} {E : XK} {t : TA} (q : t σ H fun vs H1 => ∀ x dx, H1 x = none → H1 dx = none → dx ≠ x → sp (.ref x :: (vs ++ dvs)) (upd (upd H1 dx (.own x)) x (.ins C dx [])) (fun v H2 => v = .non ∧ Q (.ref x) H2) E) : tMake C sp dvs E t σ H Q := q
theorem w_dnin {ty td : TE} (q : ty σ H fun y H1 => td σ H1 fun x H2 => ∃ a o, x = .ref a ∧ DGet H2 a y o ∧ Q (.bl (!o.isSome)) H2) : tDNotIn ty td σ H Q := q
theorem w_din {ty td : TE} (q : ty σ H fun y H1 => td σ H1 fun x H2 => ∃ a o, x = .ref a ∧ DGet H2 a y o ∧ Q (.bl o.isSome) H2) : tDIn ty td σ H Q := q
end
local macro_rules | `(tactic| walk_at "s0") => `(tactic| with_reducible first | apply w_fld | apply w_sfld | apply w_meth | apply w_make | apply w_dnin | apply w_din)
/-! ### words -/
def isWd (lo hi : Nat) (z : Str) : Bool := decide (1 ≤ z.length) && (decide (z.length ≤ 8) && (cd z).all fun c => decide (lo ≤ c) && decide (c ≤ hi))
abbrev isNm (z : Str) : Bool := isWd 97 122 z
theorem isNm_iff {z : Str} : isNm z = true ↔ Nm z := by
  unfold isNm isWd
  rw [Bool.and_eq_true, Bool.and_eq_true, List.all_eq_true]
  constructor
  · rintro ⟨h1, h2, h3⟩
    refine ⟨of_decide_eq_true h1, of_decide_eq_true h2, fun c hc => ?_⟩
    have := Bool.and_eq_true_iff.mp (h3 c hc)
    exact ⟨of_decide_eq_true this.1, of_decide_eq_true this.2⟩
  · rintro ⟨h1, h2, h3⟩
    exact ⟨decide_eq_true h1, decide_eq_true h2, fun c hc => by rw [decide_eq_true (h3 c hc).1, decide_eq_true (h3 c hc).2]; rfl⟩
/-- a word among data -/
def wdD (lo hi : Nat) : PyData → Bool
  | .str z => isWd lo hi z
  | _ => false
abbrev nmD (d : PyData) : Bool := wdD 97 122 d
/-! data whose texts and tuples are not long -/
mutual
def pd : PyData → Bool
  | .str z => decide (z.length ≤ 1000)
  | .int _ => true
  | .none => true
  | .tuple ds => decide (ds.length ≤ 1000) && pds ds
  | _ => false
def pds : List PyData → Bool
  | [] => true
  | d :: r => pd d && pds r
end
theorem one_lt (c d : Nat) : ((⟨#[c]⟩ : Str).cps.toList < (⟨#[d]⟩ : Str).cps.toList) ↔ c < d := by
  show ([c] < [d]) ↔ c < d
  constructor
  · intro h
    cases h with
    | rel h => exact h
    | cons h => cases h
  · intro h
    exact List.Lex.rel h
def sp_isword : Sp := fun vs H Q _ => ∃ (v : V) (d : PyData) (lo hi : Nat), vs = [v, .str ⟨#[lo]⟩, .str ⟨#[hi]⟩] ∧ DAt H v d ∧ pd d = true ∧ ∀ H', Same H H' → Q (.bl (wdD lo hi d)) H'
def sp_isnameD : Sp := fun vs H Q _ => ∃ (v : V) (d : PyData), vs = [v] ∧ DAt H v d ∧ pd d = true ∧ ∀ H', Same H H' → Q (.bl (nmD d)) H'
def sp_isname : Sp := fun vs H Q _ => ∃ z : Str, vs = [.str z] ∧ Nm z ∧ ∀ H', Same H H' → Q (.bl true) H'
def sp_iscap : Sp := fun vs H Q _ => ∃ (v : V) (d : PyData), vs = [v] ∧ DAt H v d ∧ pd d = true ∧ ∀ H', Same H H' → Q (.bl (wdD 65 90 d)) H'
/-- isinstance of data -/
def isS : PyData → Bool
  | .str _ => true
  | _ => false
def isI : PyData → Bool
  | .int _ => true
  | _ => false
section
variable {K : PySem.W.Frag} {H : Hp} {Q : VK}
theorem isi_n {n : String} {b : Bool} (k : kitB "NoneType" n = some b) (q : Q (.bl b) H) : rIsi K [.non, .ty n] H Q := ⟨_, _, _, _, b, rfl, .ty _, .base .non, kit_ty k, q⟩
theorem w_isiS {v : V} {d : PyData} (h : DAt H v d) (q : Q (.bl (isS d)) H) : rIsi K [v, .ty "str"] H Q := by
  cases h with
  | str z => exact isi_s (b := true) (by decide +kernel) q
  | int i => exact isi_i (b := false) (by decide +kernel) q
  | non => exact isi_n (b := false) (by decide +kernel) q
  | tup h _ => exact isi_t (b := false) h (by decide +kernel) q
theorem w_isiI {v : V} {d : PyData} (h : DAt H v d) (q : Q (.bl (isI d)) H) : rIsi K [v, .ty "int"] H Q := by
  cases h with
  | str z => exact isi_s (b := false) (by decide +kernel) q
  | int i => exact isi_i (b := true) (by decide +kernel) q
  | non => exact isi_n (b := false) (by decide +kernel) q
  | tup h _ => exact isi_t (b := false) h (by decide +kernel) q
end
theorem big98 {n : Nat} (h : n ≤ 1000) : n < sizeLine := Nat.lt_of_le_of_lt h (by decide)
section
variable {P : Program} {w : World} {K : PySem.W.Frag} {mg : Str → Option Value} {base : Heap}
theorem ok_is_word (T : Top K mg) : FnOk P w K mg base CX0 1 T.f_is_word T.d_is_word ["value", "least", "greatest"] sp_isword := by
  refine T.F_is_word.ok sc_is_word (fun vs H Q E h => ?_) (fun cdv A outer s H vs Q E hr h => ?_)
  · obtain ⟨v, d, lo, hi, rfl, _⟩ := h
    rfl
  · obtain ⟨v, d, lo, hi, rfl, hd, hp, q⟩ := h
    refine ⟨_, (pss_cons (ps_if (PW.pt (pw_or (pt_not (pt_val (pe_callB call_isi (by rfl) T.z_isinstance (by decide +kernel) (pa_cons (pv 0) (pa_cons (pe_bltn (v := .ty "str") (by rfl) T.z_str (by decide +kernel) rfl) pa_nil))))) (pw_or1 (pt_not (pt_chain op_le op_le pe_int (pe_callB call_len_str (by rfl) T.z_len (by decide +kernel) (pa_cons (pv 0) pa_nil)) (pe_glob (v := .int 8) (by rfl) T.c_LONGEST_NAME ⟨_, rfl⟩))))))
    (pss_one (ps_ret pe_bl))
    pss_nil)
    (pss_one (ps_ret (pe_callB (cr_all rfl) (by rfl) T.z_all (by decide +kernel) (pa_cons (pe_lc (own := [("sign", 3)]) (g := gName 3) (by rfl) sc_is_word.nd (pi_str (pv 0)) (blkOk_by (own := [("sign", 3)]) (N := N_is_word) (sc := defScope s_is_word) (by decide +kernel)) (fun _ _ _ _ _ => (pg_name (i := 3) sc_is_word.nd rfl (Or.inl rfl))) (fun _ _ _ _ _ => pts_nil) (fun _ _ _ _ _ => (pe_chain op_le_str op_le_str (pv 1) (pv 3) (pv 2)))) pa_nil))))), ?_⟩
    cases hd with
    | int i =>
      repeat walk_at "s"
      refine iteT ?_
      repeat walk_at "s"
      exact q H (Same.refl H)
    | non =>
      repeat walk_at "s"
      refine w_isiS (.non) ?_
      repeat walk_at "s"
      exact q H (Same.refl H)
    | tup ha hs =>
      repeat walk_at "s"
      refine w_isiS (.tup ha hs) ?_
      repeat walk_at "s"
      exact q H (Same.refl H)
    | str z =>
    have hz : z.length ≤ 1000 := of_decide_eq_true hp
    have hzl : z.length ≤ sizeLine := Nat.le_trans hz (by decide)
    repeat walk_at "s"
    refine iteF ?_
    repeat walk_at "s"
    refine ite2 (fun h => ?_) (fun h => ?_)
    · repeat walk_at "s"
      by_cases h8 : (z.length : Int) ≤ 8
      · rw [decide_eq_true h8]
        refine iteF ?_
        repeat walk_at "s"
        refine ⟨.str z, rfl, z, rfl, fun D hD => ?_⟩
        refine lc_it walk_str (fun i H2 => H2 D = some (.lst ((((cd z).take i).map fun c => decide (lo ≤ c) && decide (c ≤ hi)).map V.bl)) ∧ Same H H2) ⟨upd_same, sm_new hD⟩ (fun _ _ _ _ => trivial) ?_ ?_
        · rintro i x H2 H3 hi' ⟨e2, s2⟩ ⟨rfl, c, hc, rfl⟩
          have hcm : (cd z)[i]? = some c := by
            have : z.cps.toList[i]? = some c := by rw [Array.getElem?_toList]; exact hc
            exact this
          have iz : i < 8 := by
            have : i < z.length := hi'
            omega
          have hU : ((cd z).take (i + 1)).map (fun c => decide (lo ≤ c) && decide (c ≤ hi)) = ((cd z).take i).map (fun c => decide (lo ≤ c) && decide (c ≤ hi)) ++ [decide (lo ≤ c) && decide (c ≤ hi)] := by
            rw [List.take_add_one, hcm, List.map_append]
            rfl
          have lt9 : ((((cd z).take i).map fun c => decide (lo ≤ c) && decide (c ≤ hi)).map V.bl).length < sizeLine := by
            rw [List.length_map, List.length_map, List.length_take]; exact big98 (by omega)
          repeat walk_at "s"
          by_cases c1 : c < lo
          · rw [show decide ((⟨#[c]⟩ : Str).cps.toList < (⟨#[lo]⟩ : Str).cps.toList) = true from decide_eq_true ((one_lt c lo).mpr c1)]
            refine iteF ?_
            refine ⟨_, e2, lt9, ?_, fun x o h => by rw [upd_ne (ne_of_none h hD)]; exact s2 x o h⟩
            rw [upd_same, hU, List.map_append, decide_eq_false (show ¬ lo ≤ c by omega)]
            rfl
          · rw [show decide ((⟨#[c]⟩ : Str).cps.toList < (⟨#[lo]⟩ : Str).cps.toList) = false from decide_eq_false (fun q => c1 ((one_lt c lo).mp q))]
            refine iteT ?_
            repeat walk_at "s"
            refine ⟨_, e2, lt9, ?_, fun x o h => by rw [upd_ne (ne_of_none h hD)]; exact s2 x o h⟩
            rw [upd_same, hU, List.map_append, decide_eq_true (show lo ≤ c by omega)]
            by_cases c2 : c ≤ hi
            · rw [show decide ((⟨#[hi]⟩ : Str).cps.toList < (⟨#[c]⟩ : Str).cps.toList) = false from decide_eq_false (fun q => by have := (one_lt hi c).mp q; omega), decide_eq_true c2]
              rfl
            · rw [show decide ((⟨#[hi]⟩ : Str).cps.toList < (⟨#[c]⟩ : Str).cps.toList) = true from decide_eq_true ((one_lt hi c).mpr (by omega)), decide_eq_false c2]
              rfl
        · rintro H2 ⟨e2, s2⟩
          repeat walk_at "s"
          refine ⟨D, _, rfl, SqL.of e2, ?_⟩
          have e : ((((cd z).take z.cps.size).map fun c => decide (lo ≤ c) && decide (c ≤ hi)).all id) = isWd lo hi z := by
            have l1 : z.cps.size = (cd z).length := rfl
            have d1 : 1 ≤ z.length := by have := of_decide_eq_true h; omega
            have d8 : z.length ≤ 8 := by omega
            unfold isWd
            rw [l1, List.take_length, List.all_map, decide_eq_true d1, decide_eq_true d8]
            rfl
          rw [e]
          exact q H2 s2
      · rw [decide_eq_false h8]
        refine iteT ?_
        repeat walk_at "s"
        have := q H (Same.refl H)
        rw [show wdD lo hi (.str z) = false by show isWd lo hi z = false; unfold isWd; rw [decide_eq_false (show ¬ z.length ≤ 8 by omega), Bool.false_and, Bool.and_false]] at this
        exact this
    · have h1 := of_decide_eq_false (ofb h)
      repeat walk_at "s"
      have := q H (Same.refl H)
      rw [show wdD lo hi (.str z) = false by show isWd lo hi z = false; unfold isWd; rw [decide_eq_false (show ¬ 1 ≤ z.length by omega), Bool.false_and]] at this
      exact this
theorem okis_nameD (T : Top K mg) : FnOk P w K mg base CX0 2 T.fis_name T.dis_name ["value"] sp_isnameD := by
  refine T.Fis_name.ok scis_name (fun vs H Q E h => ?_) (fun cdv A outer s H vs Q E hr h => ?_)
  · obtain ⟨v, d, rfl, _⟩ := h
    rfl
  · obtain ⟨v, d, rfl, hd, hp, q⟩ := h
    refine ⟨_, (pss_one (ps_ret (pe_call (ok_is_word T) hr (by rfl) T.g_is_word T.F_is_word.kp T.b_is_word .nil pass0 (pa_cons (pv 0) (pa_cons pe_str (pa_cons pe_str pa_nil)))))), ?_⟩
    repeat walk_at "s"
    exact ⟨v, d, 97, 122, rfl, hd, hp, q⟩
theorem okis_name (T : Top K mg) : FnOk P w K mg base CX0 2 T.fis_name T.dis_name ["value"] sp_isname := (okis_nameD T).imp fun vs H Q E h => by
  obtain ⟨z, rfl, hz, q⟩ := h
  exact ⟨.str z, .str z, rfl, .str z, decide_eq_true (Nat.le_trans hz.hi (by decide)), fun H' sm => by rw [show nmD (.str z) = true from isNm_iff.mpr hz]; exact q H' sm⟩
theorem okis_capital (T : Top K mg) : FnOk P w K mg base CX0 2 T.fis_capital T.dis_capital ["value"] sp_iscap := by
  refine T.Fis_capital.ok scis_capital (fun vs H Q E h => ?_) (fun cdv A outer s H vs Q E hr h => ?_)
  · obtain ⟨v, d, rfl, _⟩ := h
    rfl
  · obtain ⟨v, d, rfl, hd, hp, q⟩ := h
    refine ⟨_, (pss_one (ps_ret (pe_call (ok_is_word T) hr (by rfl) T.g_is_word T.F_is_word.kp T.b_is_word .nil pass0 (pa_cons (pv 0) (pa_cons pe_str (pa_cons pe_str pa_nil)))))), ?_⟩
    repeat walk_at "s"
    exact ⟨v, d, 65, 90, rfl, hd, hp, q⟩
end
/-! ### well-formed data -/
def isLang (p : Str) : Bool := inV (.str p) [.str "atom", .str "term", .str "role term", .str "recipe"]
def leD : PyData → PyData → Bool
  | .str a, .str b => leS a b
  | _, _ => false
def numD (g : Int) : PyData → Bool
  | .int i => decide (0 ≤ i) && decide (i ≤ g)
  | _ => false
def fitB (d : PyData) (p : Str) (b : PyData) : Bool := match TopX.flAt fes_GREATEST_NUMBERS p with
  | some (.int g) => numD g d
  | _ => match decide (p = "later") with
    | true => nmD d && leD b d
    | false => nmD d
mutual
def frm : Str → PyData → Bool
  | l, .tuple ds => frmT l ds
  | _, _ => false
def frmT : Str → List PyData → Bool
  | l, .str k :: ds => (match TopX.rowAt rowsP [l, k] with
    | some ps => decide (ds.length = ps.length) && frms ps (.str k) ds
    | none => false)
  | _, _ => false
def frms : List Str → PyData → List PyData → Bool
  | p :: ps, b, d :: ds => (match isLang p with
    | true => frm p d
    | false => fitB d p b) && frms ps d ds
  | [], _, [] => true
  | _, _, _ => false
end
/-- the places of a node -/
def plcs (l : Str) : PyData → Option (List Str)
  | .tuple (.str k :: ds) => (match TopX.rowAt rowsP [l, k] with
    | some ps => if ds.length = ps.length then some ps else none
    | none => none)
  | _ => none
theorem frm_no {l : Str} {d : PyData} (h : plcs l d = none) : frm l d = false := by
  cases d with
  | tuple ds =>
    show frmT l ds = false
    cases ds with
    | nil => rfl
    | cons x r =>
      cases x with
      | str k =>
        show (match TopX.rowAt rowsP [l, k] with
          | some ps => decide (r.length = ps.length) && frms ps (.str k) r
          | none => false) = false
        have h1 : (match TopX.rowAt rowsP [l, k] with
          | some ps => if r.length = ps.length then some ps else none
          | none => none) = none := h
        cases e : TopX.rowAt rowsP [l, k] with
        | none => rfl
        | some ps =>
          rw [e] at h1
          have h2 : (if r.length = ps.length then some ps else none) = none := h1
          by_cases q : r.length = ps.length
          · rw [if_pos q] at h2; cases h2
          · show (decide (r.length = ps.length) && _) = false
            rw [decide_eq_false q]; rfl
      | _ => rfl
  | _ => rfl
theorem plcs_some {l : Str} {d : PyData} {ps : List Str} (h : plcs l d = some ps) : ∃ k ds, d = .tuple (.str k :: ds) ∧ ds.length = ps.length ∧ TopX.rowAt rowsP [l, k] = some ps ∧ frm l d = frms ps (.str k) ds := by
  cases d with
  | tuple ds =>
    cases ds with
    | nil => cases h
    | cons x r =>
      cases x with
      | str k =>
        have h1 : (match TopX.rowAt rowsP [l, k] with
          | some ps => if r.length = ps.length then some ps else none
          | none => none) = some ps := h
        cases e : TopX.rowAt rowsP [l, k] with
        | none => rw [e] at h1; cases h1
        | some qs =>
          rw [e] at h1
          have h2 : (if r.length = qs.length then some qs else none) = some ps := h1
          by_cases q : r.length = qs.length
          · rw [if_pos q] at h2
            cases h2
            refine ⟨k, r, rfl, q, e, ?_⟩
            show (match TopX.rowAt rowsP [l, k] with
              | some ps => decide (r.length = ps.length) && frms ps (.str k) r
              | none => false) = _
            rw [e]
            show (decide (r.length = ps.length) && _) = _
            rw [decide_eq_true q]
            rfl
          · rw [if_neg q] at h2; cases h2
      | _ => cases h
  | _ => cases h
/-- the languages without roles -/
def okLang (l : Str) : Bool := decide (l ∈ (["atom", "term", "recipe"] : List Str))
/-- what the rows of those languages have -/
def rowOk (r : TopX.Row) : Bool := match r.1 with
  | l :: _ => !okLang l || (r.2.all (fun p => decide (p ≠ "host") && (!isLang p || okLang p)) && (r.2.zip (r.2.drop 1)).all (fun q => !decide (q.2 = "later") || decide (q.1 = "name")) && !decide (r.2.head? = some ("later" : Str)) && decide (r.2.length ≤ 3))
  | [] => true
theorem rows_ok : rowsP.all rowOk = true := by decide +kernel
theorem row_ok {l k : Str} {ps : List Str} (h : TopX.rowAt rowsP [l, k] = some ps) (hl : okLang l = true) : (∀ p ∈ ps, p ≠ "host" ∧ (isLang p = true → okLang p = true)) ∧ (∀ (i : Nat) (p q : Str), ps[i]? = some p → ps[i + 1]? = some q → q = ("later" : Str) → p = ("name" : Str)) ∧ ps.head? ≠ some ("later" : Str) ∧ ps.length ≤ 3 := by
  unfold TopX.rowAt at h
  obtain ⟨r, hr, rfl⟩ := Option.map_eq_some_iff.mp h
  have m := List.all_eq_true.mp rows_ok r (List.mem_of_find?_eq_some hr)
  have e : r.1 = [l, k] := of_decide_eq_true (List.find?_some (p := fun r : TopX.Row => decide (r.1 = [l, k])) hr)
  unfold rowOk at m
  rw [e] at m
  have m2 : (!okLang l || (r.2.all (fun p => decide (p ≠ "host") && (!isLang p || okLang p)) && (r.2.zip (r.2.drop 1)).all (fun q => !decide (q.2 = "later") || decide (q.1 = "name")) && !decide (r.2.head? = some ("later" : Str)) && decide (r.2.length ≤ 3))) = true := m
  rw [hl, Bool.not_true, Bool.false_or, Bool.and_eq_true, Bool.and_eq_true, Bool.and_eq_true] at m2
  obtain ⟨⟨⟨a, b⟩, c⟩, d⟩ := m2
  refine ⟨fun p hp => ?_, fun i p q h1 h2 hq => ?_, fun z => ?_, of_decide_eq_true d⟩
  · have z := Bool.and_eq_true_iff.mp (List.all_eq_true.mp a p hp)
    refine ⟨of_decide_eq_true z.1, fun hl => ?_⟩
    have z2 := z.2
    rw [hl] at z2
    exact z2
  · have mem : (p, q) ∈ r.2.zip (r.2.drop 1) := by
      refine List.mem_of_getElem? (i := i) ?_
      rw [List.getElem?_zip_eq_some]
      exact ⟨h1, by rw [List.getElem?_drop, Nat.add_comm]; exact h2⟩
    have z := List.all_eq_true.mp b _ mem
    rw [show decide ((p, q).2 = ("later" : Str)) = true from decide_eq_true hq] at z
    exact of_decide_eq_true z
  · rw [z] at c
    exact absurd c (by decide +kernel)
section
variable {σ : L2.St} {H : Hp} {Q : VK} {K : PySem.W.Frag}
theorem w_pget {rs : List TopX.Row} {te : TE} (q : te σ H fun y Ha => ∃ (a : Addr) (ss : List Str), y = .ref a ∧ SqT K Ha a (ss.map V.str) ∧ (TopX.rowAt rs ss = none → Q .non Ha) ∧ ∀ vs, TopX.rowAt rs ss = some vs → ∀ b, (∀ H0, SqT K H0 b (vs.map V.str)) → Q (.ref b) Ha) : TopX.tPGet K rs te σ H Q := q
theorem w_inF {d : Addr} {l : List TopX.FE} {z : Str} (q : Q (.bl (TopX.flAt l z).isSome) H) : TopX.rInF d l (.str z) (.ref d) H Q := ⟨z, rfl, rfl, q⟩
theorem w_ixF {d : Addr} {l : List TopX.FE} {z : Str} {c : TopX.CV} (e : TopX.flAt l z = some c) (q : Q c.v H) : TopX.rIxF d l (.ref d) (.str z) H Q := ⟨z, c, rfl, rfl, e, q⟩
end
theorem fes_ok : fes_GREATEST_NUMBERS.all (fun e => match e.v with
  | .int _ => true
  | .str _ => false) = true := by decide +kernel
theorem fes_int {p : Str} {c : TopX.CV} (h : TopX.flAt fes_GREATEST_NUMBERS p = some c) : ∃ g, c = .int g := by
  unfold TopX.flAt at h
  obtain ⟨r, hr, rfl⟩ := Option.map_eq_some_iff.mp h
  have m := List.all_eq_true.mp fes_ok r (List.mem_of_find?_eq_some hr)
  cases e : r.v with
  | int g => exact ⟨g, rfl⟩
  | str z => rw [e] at m; cases m
def sp_number : Sp := fun vs H Q _ => ∃ (v : V) (d : PyData) (g : Int), vs = [v, .int g] ∧ DAt H v d ∧ Q (.bl (numD g d)) H
def sp_places (K : PySem.W.Frag) : Sp := fun vs H Q _ => ∃ (v : V) (d : PyData) (l : Str), vs = [v, .str l] ∧ DAt H v d ∧ (plcs l d = none → ∀ H', Same H H' → Q .non H') ∧ (∀ ps, plcs l d = some ps → ∀ (b : Addr) H', Same H H' → (∀ H0, SqT K H0 b (ps.map V.str)) → Q (.ref b) H')
def sp_fits : Sp := fun vs H Q _ => ∃ (v bv cv : V) (d bd : PyData) (p : Str), vs = [v, .str p, bv, cv] ∧ DAt H v d ∧ pd d = true ∧ DAt H bv bd ∧ p ≠ "host" ∧ (p = "later" → isS bd = true) ∧ ∀ H', Same H H' → Q (.bl (fitB d p bd)) H'
section
variable {P : Program} {w : World} {K : PySem.W.Frag} {mg : Str → Option Value} {base : Heap}
theorem okis_number (T : Top K mg) : FnOk P w K mg base CX0 1 T.fis_number T.dis_number ["value", "greatest"] sp_number := by
  refine T.Fis_number.ok scis_number (fun vs H Q E h => ?_) (fun cdv A outer s H vs Q E hr h => ?_)
  · obtain ⟨v, d, g, rfl, _⟩ := h
    rfl
  · obtain ⟨v, d, g, rfl, hd, q⟩ := h
    refine ⟨_, (pss_one (ps_ret (pe_and (pe_callB call_isi (by rfl) T.z_isinstance (by decide +kernel) (pa_cons (pv 0) (pa_cons (pe_bltn (v := .ty "int") (by rfl) T.z_int (by decide +kernel) rfl) pa_nil))) (pe_one (pe_chain op_le op_le pe_int (pv 0) (pv 1)))))), ?_⟩
    cases hd with
    | int i =>
      repeat walk_at "s"
      by_cases h0 : 0 ≤ i
      · rw [decide_eq_true h0]
        repeat walk_at "s"
        rw [show numD g (.int i) = decide (i ≤ g) by show (decide (0 ≤ i) && decide (i ≤ g)) = _; rw [decide_eq_true h0]; rfl] at q
        exact q
      · rw [decide_eq_false h0]
        repeat walk_at "s"
        rw [show numD g (.int i) = false by show (decide (0 ≤ i) && decide (i ≤ g)) = _; rw [decide_eq_false h0]; rfl] at q
        exact q
    | str z =>
      repeat walk_at "s"
      refine w_isiI (.str z) ?_
      repeat walk_at "s"
      exact q
    | non =>
      repeat walk_at "s"
      refine w_isiI .non ?_
      repeat walk_at "s"
      exact q
    | tup ha hs =>
      repeat walk_at "s"
      refine w_isiI (.tup ha hs) ?_
      repeat walk_at "s"
      exact q
theorem ok_places_of (T : Top K mg) (Pl : PlT P w K mg) : FnOk P w K mg base CX0 1 T.f_places_of T.d_places_of ["value", "language"] (sp_places K) := by
  refine T.F_places_of.ok sc_places_of (fun vs H Q E h => ?_) (fun cdv A outer s H vs Q E hr h => ?_)
  · obtain ⟨v, d, l, rfl, _⟩ := h
    rfl
  · obtain ⟨v, d, l, rfl, hd, qn, qs⟩ := h
    have hu := hu_of hr
    refine ⟨_, (pss_cons (ps_if (PW.pt (pw_or (pt_not (pt_val (pe_callB call_isi (by rfl) T.z_isinstance (by decide +kernel) (pa_cons (pv 0) (pa_cons (pe_bltn (v := .ty "tuple") (by rfl) T.z_tuple (by decide +kernel) rfl) pa_nil))))) (pw_or (pt_cmpR op_eq (pe_callB call_len_seq (by rfl) T.z_len (by decide +kernel) (pa_cons (pv 0) pa_nil)) pe_int (nomark _)) (pw_or1 (pt_not (pt_val (pe_callB call_isi (by rfl) T.z_isinstance (by decide +kernel) (pa_cons (pe_ix ix_tup (pv 0) pe_int (fun _ _ => rfl)) (pa_cons (pe_bltn (v := .ty "str") (by rfl) T.z_str (by decide +kernel) rfl) pa_nil)))))))))
    (pss_one (ps_ret pe_non))
    pss_nil)
    (pss_cons (ps_set (i := 2) sc_places_of.nd rfl (Or.inl rfl) (TopX.pe_pget hu Pl.ok shortP (pe_glob (v := .ref Pl.d) (by rfl) Pl.g rfl) (pe_tup (pa_cons (pv 1) (pa_cons (pe_ix ix_tup (pv 0) pe_int (fun _ _ => rfl)) pa_nil))) ⟨by rfl, by rfl, by rfl, by rfl⟩))
     (pss_cons (ps_if (PW.pt (pw_or (pt_cmpR op_isN (pv 2) pe_non (nomark _)) (pw_or1 (pt_cmpR op_ne (pe_callB call_len_seq (by rfl) T.z_len (by decide +kernel) (pa_cons (pv 0) pa_nil)) (pe_op op_add (pe_callB call_len_seq (by rfl) T.z_len (by decide +kernel) (pa_cons (pv 2) pa_nil)) pe_int) (nomark _)))))
      (pss_one (ps_ret pe_non))
      pss_nil)
      (pss_one (ps_ret (pv 2)))))), ?_⟩
    cases hd with
    | int i =>
      repeat walk_at "s"
      exact qn rfl H (Same.refl H)
    | str z =>
      repeat walk_at "s"
      exact qn rfl H (Same.refl H)
    | non =>
      repeat walk_at "s"
      refine w_isi .non ?_
      repeat walk_at "s"
      exact qn rfl H (Same.refl H)
    | @tup va vvs ds ha hs =>
      repeat walk_at "s"
      refine iteF ?_
      repeat walk_at "s"
      cases hs with
      | nil =>
        refine iteT ?_
        repeat walk_at "s"
        exact qn rfl H (Same.refl H)
      | @cons v0 vr d0 dr h0 hr' =>
        refine iteF ?_
        repeat walk_at "s"
        refine w_ixT (SqT.of ha) (atI_nat (j := 0) rfl) ?_
        repeat walk_at "s"
        refine w_isiS h0 ?_
        repeat walk_at "s"
        cases h0 with
        | int i =>
          refine iteT ?_
          repeat walk_at "s"
          exact qn rfl H (Same.refl H)
        | non =>
          refine iteT ?_
          repeat walk_at "s"
          exact qn rfl H (Same.refl H)
        | tup _ _ =>
          refine iteT ?_
          repeat walk_at "s"
          exact qn rfl H (Same.refl H)
        | str k =>
          refine iteF ?_
          repeat walk_at "s"
          refine w_pget ?_
          repeat walk_at "s"
          refine w_ixT (SqT.of ha) (atI_nat (j := 0) rfl) ?_
          repeat walk_at "s"
          refine ⟨by show (2 : Nat) ≤ _; decide, fun kp hkp => ⟨kp, [l, k], rfl, SqT.of (xs := [V.str l, V.str k]) upd_same, fun hn => ?_, fun ps hps b hb => ?_⟩⟩
          · repeat walk_at "s"
            rw [decide_eq_true (rfl : V.non = V.non)]
            refine iteT ?_
            repeat walk_at "s"
            refine qn ?_ _ (sm_new hkp)
            show (match TopX.rowAt rowsP [l, k] with
              | some ps => if dr.length = ps.length then some ps else none
              | none => none) = none
            rw [hn]
          · have len := hr'.length
            have hb1 := hb (upd H kp (.tup [.str l, .str k]))
            have pe : plcs l (.tuple (.str k :: dr)) = if dr.length = ps.length then some ps else none := by
              show (match TopX.rowAt rowsP [l, k] with
                | some ps => if dr.length = ps.length then some ps else none
                | none => none) = _
              rw [hps]
            repeat walk_at "s"
            rw [decide_eq_false (show ¬ V.ref b = V.non from nofun)]
            refine iteF ?_
            repeat walk_at "s"
            refine ite2 (fun h => ?_) (fun h => ?_)
            · repeat walk_at "s"
              refine qn ?_ _ (sm_new hkp)
              rw [pe]
              have z : (!decide ((((V.str k :: vr).length : Nat) : Int) = (((ps.map V.str).length : Nat) : Int) + 1)) = true := h
              refine if_neg fun e => ?_
              rw [decide_eq_true (by rw [List.length_cons, List.length_map, len, e]; rfl)] at z
              cases z
            · repeat walk_at "s"
              refine qs ps ?_ b _ (sm_new hkp) hb
              rw [pe]
              have z : (!decide ((((V.str k :: vr).length : Nat) : Int) = (((ps.map V.str).length : Nat) : Int) + 1)) = false := ofb h
              refine if_pos ?_
              rw [Bool.not_eq_false'] at z
              have z2 := of_decide_eq_true z
              rw [List.length_cons, List.length_map, len] at z2
              omega
theorem ok_fits (T : Top K mg) (Pl : PlT P w K mg) : FnOk P w K mg base CX0 3 T.f_fits T.d_fits ["item", "place", "before", "capitals"] sp_fits := by
  refine T.F_fits.ok sc_fits (fun vs H Q E h => ?_) (fun cdv A outer s H vs Q E hr h => ?_)
  · obtain ⟨v, bv, cv, d, bd, p, rfl, _⟩ := h
    rfl
  · obtain ⟨v, bv, cv, d, bd, p, rfl, hd, hp, hb, hh, hlt, q⟩ := h
    have hu := hu_of hr
    refine ⟨_, (pss_cons (ps_if (pt_cmpR (TopX.op_inF Pl.ok_GREATEST_NUMBERS) (pv 1) (pe_glob (v := .ref Pl.d_GREATEST_NUMBERS) (by rfl) Pl.g_GREATEST_NUMBERS rfl) (by rfl))
    (pss_one (ps_ret (pe_call (okis_number T) (hr.mono (by decide)) (by rfl) T.gis_number T.Fis_number.kp T.bis_number .nil pass0 (pa_cons (pv 0) (pa_cons (pe_ix (TopX.ix_flat Pl.ok_GREATEST_NUMBERS) (pe_glob (v := .ref Pl.d_GREATEST_NUMBERS) (by rfl) Pl.g_GREATEST_NUMBERS rfl) (pv 1) (fun _ _ => rfl)) pa_nil)))))
    pss_nil)
    (pss_cons (ps_if (pt_cmpR op_eq (pv 1) pe_str (nomark _))
     (pss_one (ps_ret (pe_and (pe_call (okis_nameD T) hr (by rfl) T.gis_name T.Fis_name.kp T.bis_name .nil pass0 (pa_cons (pv 0) pa_nil)) (pe_one (pe_cmpR op_le_str (pv 2) (pv 0) (nomark _))))))
     pss_nil)
     (pss_cons (ps_if (PW.pt (pw_and (pt_cmpR op_eq (pv 1) pe_str (nomark _)) (pw_and1 (pt_val (pe_call (okis_capital T) hr (by rfl) T.gis_capital T.Fis_capital.kp T.bis_capital .nil pass0 (pa_cons (pv 0) pa_nil))))))
      (pss_one ps_no)
      pss_nil)
      (pss_one (ps_ret (pe_call (okis_nameD T) hr (by rfl) T.gis_name T.Fis_name.kp T.bis_name .nil pass0 (pa_cons (pv 0) pa_nil))))))), ?_⟩
    repeat walk_at "s"
    refine w_inF ?_
    cases e : TopX.flAt fes_GREATEST_NUMBERS p with
    | some c =>
      obtain ⟨g, rfl⟩ := fes_int e
      rw [show fitB d p bd = numD g d by unfold fitB; rw [e]] at q
      repeat walk_at "s"
      refine iteT ?_
      repeat walk_at "s"
      refine w_ixF e ?_
      repeat walk_at "s"
      exact ⟨v, d, g, rfl, hd, q H (Same.refl H)⟩
    | none =>
      have qe : fitB d p bd = (match decide (p = "later") with
        | true => nmD d && leD bd d
        | false => nmD d) := by unfold fitB; rw [e]
      rw [qe] at q
      repeat walk_at "s"
      refine iteF ?_
      repeat walk_at "s"
      refine ite2 (fun hl => ?_) (fun hl => ?_)
      · rw [hl] at q
        repeat walk_at "s"
        refine ⟨v, d, rfl, hd, hp, fun H' sm => ?_⟩
        cases hn : nmD d with
        | false =>
          rw [hn] at q
          repeat walk_at "s"
          exact q H' sm
        | true =>
          rw [hn] at q
          cases hd with
          | str z =>
            have hb2 := hlt (of_decide_eq_true hl)
            cases hb with
            | str b0 =>
              repeat walk_at "s"
              exact q H' sm
            | _ => cases hb2
          | _ => cases hn
      · rw [ofb hl] at q
        repeat walk_at "s"
        refine ite2 (fun hl => absurd (of_decide_eq_true hl) hh) (fun _ => ?_)
        repeat walk_at "s"
        exact ⟨v, d, rfl, hd, hp, q⟩
end
/-! ### forms_within -/
/-- a pending pair -/
def pkt (q : PyData × Str) : PyData := .tuple [q.1, .str q.2]
def wq (qs : List (PyData × Str)) : Nat := (qs.map fun q => (occ q.1).length).sum
theorem wq_app (a b : List (PyData × Str)) : wq (a ++ b) = wq a + wq b := by unfold wq; rw [List.map_append, List.sum_append]
theorem wq_rev : ∀ a : List (PyData × Str), wq a.reverse = wq a
  | [] => rfl
  | q :: r => by
    rw [List.reverse_cons, wq_app, wq_rev r]
    show wq r + ((occ q.1).length + 0) = (occ q.1).length + wq r
    omega
def frq (q : PyData × Str) : Bool := frm q.2 q.1
abbrev QOk (q : PyData × Str) : Prop := pd q.1 = true ∧ okLang q.2 = true
theorem DsAt.reverse {H : Hp} : ∀ {vs ds}, DsAt H vs ds → DsAt H vs.reverse ds.reverse
  | _, _, .nil => .nil
  | _, _, .cons h r => by rw [List.reverse_cons, List.reverse_cons]; exact (DsAt.reverse r).app (.cons h .nil)
theorem pds_get : ∀ {ds : List PyData} {i : Nat} {d : PyData}, pds ds = true → ds[i]? = some d → pd d = true
  | d :: r, 0, e, h, q => by cases q; exact (Bool.and_eq_true_iff.mp h).1
  | d :: r, i + 1, e, h, q => pds_get (ds := r) (i := i) (Bool.and_eq_true_iff.mp h).2 q
theorem occs_at {ds : List PyData} {i : Nat} {d : PyData} (h : ds[i]? = some d) : (occs (ds.drop i)).length = (occ d).length + (occs (ds.drop (i + 1))).length := by
  rw [List.drop_eq_getElem?_toList_append, h]
  show (occ d ++ occs (ds.drop (i + 1))).length = _
  rw [List.length_append]
theorem fit_name {d b : PyData} (h : fitB d "name" b = true) : isS d = true := by
  have e : TopX.flAt fes_GREATEST_NUMBERS "name" = none := by decide +kernel
  have e2 : fitB d "name" b = nmD d := by
    unfold fitB
    rw [e]
    show (match decide ((("name" : Str)) = "later") with
      | true => nmD d && leD b d
      | false => nmD d) = _
    rw [show decide ((("name" : Str)) = "later") = false by decide +kernel]
  rw [e2] at h
  cases d with
  | str z => rfl
  | _ => cases h
section
variable {σ : L2.St} {H : Hp} {K : PySem.W.Frag} {Q : VK}
theorem w_iEnK {ta tk : TA} {R : It → Hp → Prop} (q : ta σ H fun vs H1 => tk σ H1 fun zs H2 => ∃ (a : Addr) (xs : List V) (b : Nat), vs = [.ref a] ∧ zs = [.int (b : Int)] ∧ b < 1000 ∧ SqT K H2 a xs ∧ R (IteK K b a xs) H2) : iEnumK K ta tk σ H R := q
theorem w_inL {d : Addr} {p : Str} (h : SqT K H d [.str "atom", .str "term", .str "role term", .str "recipe"]) (q : Q (.bl (isLang p)) H) : rIn K false (.str p) (.ref d) H Q := ⟨d, _, rfl, .inr h, rfl, rfl, q⟩
end
/-- what stands ahead of place i: the item before it -/
def bfr (k : Str) (dr : List PyData) (i : Nat) : PyData := (PyData.str k :: dr).getD i .none
def sp_forms : Sp := fun vs H Q _ => ∃ (v cv : V) (d : PyData) (l : Str), vs = [v, .str l, cv] ∧ DAt H v d ∧ pd d = true ∧ okLang l = true ∧ (occ d).length ≤ 100000 ∧ (frm l d = false → ∀ H', Same H H' → Q .non H') ∧ (frm l d = true → ∀ (b : Addr) H', Same H H' → Q (.ref b) H')
section
variable {P : Program} {w : World} {K : PySem.W.Frag} {mg : Str → Option Value} {base : Heap}
theorem big97 {n : Nat} (h : n ≤ 1000000) : n < sizeLine := Nat.lt_of_le_of_lt h (by decide)
theorem okforms_within (T : Top K mg) (Pl : PlT P w K mg) : FnOk P w K mg base CX0 4 T.fforms_within T.dforms_within ["value", "language", "capitals"] sp_forms := by
  refine T.Fforms_within.ok scforms_within (fun vs H Q E h => ?_) (fun cdv A outer s H vs Q E hr h => ?_)
  · obtain ⟨v, cv, d, l, rfl, _⟩ := h
    rfl
  · obtain ⟨v, cv, d, l, rfl, hd, hp, hl, hz, qn, qy⟩ := h
    have hu := hu_of hr
    refine ⟨_, (pss_cons (ps_set (i := 3) scforms_within.nd rfl (Or.inl rfl) (pe_lst pa_nil))
    (pss_cons (ps_set (i := 4) scforms_within.nd rfl (Or.inl rfl) (pe_lst (pa_cons (pe_tup (pa_cons (pv 0) (pa_cons (pv 1) pa_nil))) pa_nil)))
     (pss_cons (ps_while PassesOwn.never (pt_truth (pv 4) (by intro _; rfl))
      (pss_cons (ps_asg (pe_bm0 PySem.F.plainAttrs_list PySem.F.slot_list_pop PySem.F.type_list_pop mt_pop (pv 4)) (pg_tup (by rfl) (pgs_cons (pg_name (i := 5) scforms_within.nd rfl (Or.inl rfl)) (pgs_cons (pg_name (i := 6) scforms_within.nd rfl (Or.inl rfl)) pgs_nil))))
       (pss_cons (ps_set (i := 7) scforms_within.nd rfl (Or.inl rfl) (pe_call (ok_places_of T Pl) (hr.mono (by decide)) (by rfl) T.g_places_of T.F_places_of.kp T.b_places_of .nil pass0 (pa_cons (pv 5) (pa_cons (pv 6) pa_nil))))
        (pss_cons (ps_if (pt_cmpR op_isN (pv 7) pe_non (nomark _))
         (pss_one (ps_ret pe_non))
         pss_nil)
         (pss_cons (ps_expr (pe_bm PySem.F.plainAttrs_list PySem.F.slot_list_append PySem.F.type_list_append mt_append (pv 3) (pa_cons (pv 5) pa_nil)))
          (pss_cons (ps_set (i := 8) scforms_within.nd rfl (Or.inl rfl) (pe_lst pa_nil))
           (pss_cons (ps_for PassesOwn.never rfl (pi_enumK (by rfl) T.z_enumerate (pa_cons (pv 7) pa_nil) (pk_cons pe_int pk_nil)) (pg_tup (by rfl) (pgs_cons (pg_name (i := 9) scforms_within.nd rfl (Or.inl rfl)) (pgs_cons (pg_name (i := 10) scforms_within.nd rfl (Or.inl rfl)) pgs_nil)))
            (pss_one (ps_if (pt_cmpR op_in_seq (pv 10) (pe_glob (v := .ref Pl.d_LANGUAGES) (by rfl) Pl.g_LANGUAGES rfl) (by rfl))
             (pss_one (ps_expr (pe_bm PySem.F.plainAttrs_list PySem.F.slot_list_append PySem.F.type_list_append mt_append (pv 8) (pa_cons (pe_tup (pa_cons (pe_ix ix_tup (pv 5) (pv 9) (fun _ _ => rfl)) (pa_cons (pv 10) pa_nil))) pa_nil))))
             (pss_one (ps_if (pt_not (pt_val (pe_call (ok_fits T Pl) hr (by rfl) T.g_fits T.F_fits.kp T.b_fits .nil pass0 (pa_cons (pe_ix ix_tup (pv 5) (pv 9) (fun _ _ => rfl)) (pa_cons (pv 10) (pa_cons (pe_ix ix_tup (pv 5) (pe_op op_sub (pv 9) pe_int) (fun _ _ => rfl)) (pa_cons (pv 2) pa_nil)))))))
              (pss_one (ps_ret pe_non))
              pss_nil)))))
            (pss_cons (ps_expr (pe_bm0 PySem.F.plainAttrs_list PySem.F.slot_list_reverse PySem.F.type_list_reverse mt_reverse (pv 8)))
             (pss_one (ps_expr (pe_bm PySem.F.plainAttrs_list PySem.F.slot_list_extend PySem.F.type_list_extend mt_extend (pv 4) (pa_cons (pv 8) pa_nil))))))))))))
      (pss_one (ps_ret (pv 3)))))), ?_⟩
    repeat walk_at "s"
    refine ⟨by walk_at "len", fun fo hfo => ?_⟩
    repeat walk_at "s"
    refine ⟨by walk_at "len", fun tp htp => ?_⟩
    repeat walk_at "s"
    refine ⟨by walk_at "len", fun pe hpe => ?_⟩
    have ht0 : H tp = none := (sm_new (o := .lst []) hfo).free htp
    have nft : fo ≠ tp := ne_of_none upd_same htp
    have hp1 : (upd H fo (.lst [])) pe = none := (sm_new (o := .tup [v, .str l]) htp).free hpe
    have hp0 : H pe = none := (sm_new (o := .lst []) hfo).free hp1
    have nfp : fo ≠ pe := ne_of_none (by rw [upd_ne nft]; exact upd_same) hpe
    have ntp : tp ≠ pe := ne_of_none upd_same hpe
    have s3 : Same H (upd (upd (upd H fo (.lst [])) tp (.tup [v, .str l])) pe (.lst [.ref tp])) := ((sm_new hfo).trans (sm_new htp)).trans (sm_new hpe)
    repeat walk_at "s"
    refine w_while (fun m σ H' => ∃ (us ps : List V) (qs : List (PyData × Str)) (y5 y6 y7 y8 y9 y10 : Option V), σ = [some v, some (.str l), some cv, some (.ref fo), some (.ref pe), y5, y6, y7, y8, y9, y10] ∧ H' fo = some (.lst us) ∧ H' pe = some (.lst ps) ∧ DsAt H' ps (qs.map pkt) ∧ (∀ q ∈ qs, QOk q) ∧ frm l d = qs.all frq ∧ us.length + m ≤ (occ d).length ∧ m = wq qs ∧ ps.length ≤ 1 + 3 * us.length ∧ Same H H') (occ d).length ?_ ?_
    · refine ⟨[], [.ref tp], [(d, l)], _, _, _, _, _, _, rfl, ?_, upd_same, ?_, ?_, ?_, ?_, ?_, ?_, s3⟩
      · rw [upd_ne nfp, upd_ne nft]; exact upd_same
      · refine .cons (.tup (vs := [v, .str l]) ?_ (.cons (hd.mono (Tk.same s3)) (.cons (.str l) .nil))) .nil
        rw [upd_ne ntp]; exact upd_same
      · intro q hq
        cases List.mem_singleton.mp hq
        exact ⟨hp, hl⟩
      · show _ = (frm l d && true)
        rw [Bool.and_true]
      · show 0 + _ ≤ _
        omega
      · show _ = (occ d).length + 0
        omega
      · show 1 ≤ 1 + 3 * 0
        omega
    · rintro m σ H1 ⟨us, ps, qs, y5, y6, y7, y8, y9, y10, rfl, e1, e2, a2, hq, hfr, hm, hmw, hpl, sm⟩
      repeat walk_at "s"
      rcases List.eq_nil_or_concat qs with rfl | ⟨qs', x, rfl⟩
      · cases a2
        refine iteF ?_
        repeat walk_at "s"
        exact qy (by rw [hfr]; rfl) fo H1 sm
      · rw [List.concat_eq_append] at a2 hq hfr hmw
        rw [List.map_append] at a2
        obtain ⟨ps', xs, rfl, a3, a4⟩ := a2.split
        cases a4 with
        | cons a4 a5 =>
        cases a5
        rename_i xv
        have eb : (!(ps' ++ [xv]).isEmpty) = true := by cases ps' <;> rfl
        rw [eb]
        refine iteT ?_
        refine ⟨fun σ' H' => ∃ m', m' < m ∧ ∃ (us ps : List V) (qs : List (PyData × Str)) (y5 y6 y7 y8 y9 y10 : Option V), σ' = [some v, some (.str l), some cv, some (.ref fo), some (.ref pe), y5, y6, y7, y8, y9, y10] ∧ H' fo = some (.lst us) ∧ H' pe = some (.lst ps) ∧ DsAt H' ps (qs.map pkt) ∧ (∀ q ∈ qs, QOk q) ∧ frm l d = qs.all frq ∧ us.length + m' ≤ (occ d).length ∧ m' = wq qs ∧ ps.length ≤ 1 + 3 * us.length ∧ Same H H', fun _ _ h => h, ?_⟩
        obtain ⟨xd, xl⟩ := x
        cases a4 with
        | @tup xa xvs xds hx hxs =>
        cases hxs with
        | @cons x1 xr _ _ hx1 hxr =>
        cases hxr with
        | cons hx2 hx3 =>
        cases hx2
        cases hx3
        obtain ⟨pdx, okx⟩ := hq (xd, xl) (by simp)
        have hfrx : frm l d = (qs'.all frq && frm xl xd) := by
          rw [hfr, List.all_append, List.all_cons, List.all_nil, Bool.and_true]
          rfl
        have hmw2 : m = wq qs' + (occ xd).length := by
          rw [hmw, wq_app]
          rfl
        repeat walk_at "s"
        have nxp : xa ≠ pe := fun e => by rw [e, e2] at hx; cases hx
        refine w_gtup (SqT.of (xs := [x1, .str xl]) (by rw [upd_ne nxp]; exact hx)) rfl ?_
        repeat walk_at "s"
        have t2 : Tk H1 (upd H1 pe (.lst ps')) := Tk.lst e2
        have sm2 : Same H (upd H1 pe (.lst ps')) := fun b o e => by rw [upd_ne (ne_of_none e hp0)]; exact sm b o e
        refine ⟨x1, xd, xl, rfl, hx1.mono t2, fun hn H2 s2 => ?_, fun pls hpl2 b H2 s2 hb => ?_⟩
        · repeat walk_at "s"
          rw [decide_eq_true (rfl : V.non = V.non)]
          refine iteT ?_
          repeat walk_at "s"
          exact qn (by rw [hfrx, frm_no hn, Bool.and_false]) H2 (sm2.trans s2)
        · repeat walk_at "s"
          rw [decide_eq_false (show ¬ V.ref b = V.non from nofun)]
          refine iteF ?_
          repeat walk_at "s"
          obtain ⟨k, dr, rfl, hlen, hrow, hfx⟩ := plcs_some hpl2
          obtain ⟨r1, r2, r3, r4⟩ := row_ok hrow okx
          have e1' : H2 fo = some (.lst us) := s2 _ _ (by rw [upd_ne nfp]; exact e1)
          have e2' : H2 pe = some (.lst ps') := s2 _ _ upd_same
          have t3 : Tk H1 H2 := t2.trans (Tk.same s2)
          cases hx1 with
          | @tup na nvs _ hna hnvs =>
          cases hnvs with
          | @cons n0 nr _ _ hn0 hnr =>
          cases hn0
          have hna2 : H2 na = some (.tup (.str k :: nr)) := t3 _ _ hna
          have ocx : (occ (.tuple (.str k :: dr))).length = 1 + (occs dr).length := by
            show ((.tuple (.str k :: dr)) :: ([] ++ occs dr) : List PyData).length = _
            rw [List.nil_append, List.length_cons, Nat.add_comm]
          have pdr : pds dr = true := by
            have z : (decide (_ ≤ 1000) && pds (.str k :: dr)) = true := pdx
            exact (Bool.and_eq_true_iff.mp (Bool.and_eq_true_iff.mp z).2).2
          repeat walk_at "s"
          refine w_append (by walk_at "hp") (big97 (show us.length ≤ 1000000 by omega)) ?_
          repeat walk_at "s"
          refine ⟨by walk_at "len", fun inn hinn => ?_⟩
          repeat walk_at "s"
          refine w_iEnK ?_
          repeat walk_at "s"
          have hn1 : H1 inn = none := by
            have h9 : (upd H2 fo (.lst (us ++ [.ref na]))) inn = none := hinn
            have n9 : inn ≠ fo := fun e => by rw [e, upd_same] at h9; cases h9
            rw [upd_ne n9] at h9
            have h8 : (upd H1 pe (.lst ps')) inn = none := s2.free h9
            have n8 : inn ≠ pe := fun e => by rw [e, upd_same] at h8; cases h8
            rw [upd_ne n8] at h8
            exact h8
          have nif : fo ≠ inn := fun e => by rw [← e] at hn1; rw [hn1] at e1; cases e1
          have nip : pe ≠ inn := fun e => by rw [← e] at hn1; rw [hn1] at e2; cases e2
          have hn0 : H inn = none := sm.free hn1
          have t4 : Tk H2 (upd (upd H2 fo (.lst (us ++ [.ref na]))) inn (.lst [])) := (Tk.lst e1').trans (Tk.new hinn)
          have sm4 : Same H (upd (upd H2 fo (.lst (us ++ [.ref na]))) inn (.lst [])) := fun c o e => by
            rw [upd_ne (ne_of_none e hn0), upd_ne (ne_of_none e hfo)]
            exact s2 _ _ (sm2 _ _ e)
          have dnr : DsAt H2 nr dr := hnr.mono t3
          refine ⟨b, pls.map V.str, 1, rfl, rfl, by decide, hb _, ?_⟩
          refine for_it (walk_enumK (K := K) (b := 1) (a := b) (xs := pls.map V.str)) (fun i σ H3 => ∃ (ivs : List V) (iq : List (PyData × Str)) (y9 y10 : Option V), σ = [some v, some (.str l), some cv, some (.ref fo), some (.ref pe), some (.ref na), some (.str xl), some (.ref b), some (.ref inn), y9, y10] ∧ H3 inn = some (.lst ivs) ∧ H3 fo = some (.lst (us ++ [.ref na])) ∧ H3 pe = some (.lst ps') ∧ DsAt H3 ivs (iq.map pkt) ∧ (∀ q ∈ iq, QOk q) ∧ ivs.length ≤ i ∧
            frms pls (.str k) dr = (iq.all frq && frms (pls.drop i) (bfr k dr i) (dr.drop i)) ∧ wq iq + (occs (dr.drop i)).length ≤ (occs dr).length ∧ (∀ j, j < i → pls[j]? = some ("name" : Str) → isS (bfr k dr (j + 1)) = true) ∧ Tk H2 H3 ∧ Same H H3) ?_ (fun i σ H3 _ _ => hb H3) ?_ ?_
          · refine ⟨[], [], _, _, rfl, upd_same, ?_, ?_, .nil, (fun _ h => nomatch h), Nat.zero_le _, ?_, ?_, (fun j h => absurd h (Nat.not_lt_zero _)), t4, sm4⟩
            · rw [upd_ne nif]; exact upd_same
            · rw [upd_ne nip, upd_ne nfp.symm]; exact e2'
            · show _ = (true && frms pls (.str k) dr)
              rw [Bool.true_and]
            · show 0 + (occs dr).length ≤ _
              omega
          · rintro i y σ H3 H4 hi ⟨ivs, iq, y9, y10, rfl, f1, f2, f3, dq, okq, li, hfi, wi, nmi, t5, s5⟩ ⟨T', tx, ty, rfl, hT, rfl, htx, hty⟩
            cases htx
            have hip : i < pls.length := by rw [List.length_map] at hi; exact hi
            have hp_i : pls[i]? = some pls[i] := List.getElem?_eq_getElem hip
            have ety : ty = .str pls[i] := by
              have z : (pls.map V.str)[i]? = some ty := hty
              rw [List.getElem?_map, hp_i] at z
              exact (Option.some.inj z).symm
            subst ety
            obtain ⟨ph, plg⟩ := r1 pls[i] (List.getElem_mem hip)
            have hid : i < dr.length := by omega
            have hd_i : dr[i]? = some dr[i] := List.getElem?_eq_getElem hid
            have hnl : nr.length = dr.length := hnr.length
            obtain ⟨di, hdi, hvi⟩ := dnr.get (List.getElem?_eq_getElem (show i < nr.length by omega))
            rw [hd_i] at hdi
            cases hdi
            have hT3 : H3 T' = none := hT
            have sm5 : Same H3 (upd H3 T' (.tup [.int ((i + 1 : Nat) : Int), .str pls[i]])) := sm_new hT3
            have t6 : Tk H2 (upd H3 T' (.tup [.int ((i + 1 : Nat) : Int), .str pls[i]])) := t5.trans (Tk.same sm5)
            have g1 := sm5 _ _ f1
            have g2 := sm5 _ _ f2
            have g3 := sm5 _ _ f3
            have hna4 := t6 _ _ hna2
            have dq4 := dq.mono (Tk.same sm5)
            have sm6 := s5.trans sm5
            have pdi : pd dr[i] = true := pds_get pdr hd_i
            have hstep : frms (pls.drop i) (bfr k dr i) (dr.drop i) = ((match isLang pls[i] with
              | true => frm pls[i] dr[i]
              | false => fitB dr[i] pls[i] (bfr k dr i)) && frms (pls.drop (i + 1)) dr[i] (dr.drop (i + 1))) := by
              rw [List.drop_eq_getElem_cons hip, List.drop_eq_getElem_cons hid]
              rfl
            have hbf : bfr k dr (i + 1) = dr[i] := by
              unfold bfr
              rw [List.getD_cons_succ, List.getD_eq_getElem?_getD, hd_i]
              rfl
            have hoc := occs_at hd_i
            refine w_gtup (SqT.of upd_same) rfl ?_
            repeat walk_at "s"
            refine w_inL (Pl.ok_LANGUAGES _) ?_
            have at1 : atI (V.str k :: nr) ((i + 1 : Nat) : Int) = some nr[i] := atI_nat (by rw [List.getElem?_cons_succ]; exact List.getElem?_eq_getElem (show i < nr.length by omega))
            cases hlp : isLang pls[i] with
            | true =>
              rw [hlp] at hstep
              repeat walk_at "s"
              refine w_ixT (SqT.of hna4) at1 ?_
              repeat walk_at "s"
              refine ⟨by walk_at "len", fun ip hip0 => ?_⟩
              repeat walk_at "s"
              have hq0 : H3 ip = none := sm5.free hip0
              have sm7 := sm5.trans (sm_new (o := .tup [nr[i], .str pls[i]]) hip0)
              refine w_append (sm7 _ _ f1) (big97 (show ivs.length ≤ 1000000 by omega)) ?_
              repeat walk_at "s"
              have n1 : fo ≠ inn := nif
              have t7 := (Tk.same sm7).trans (Tk.lst (o := .lst (ivs ++ [.ref ip])) (sm7 _ _ f1))
              have nni : ip ≠ inn := fun e => by rw [e, f1] at hq0; cases hq0
              refine ⟨ivs ++ [.ref ip], iq ++ [(dr[i], pls[i])], _, _, rfl, upd_same, ?_, ?_, ?_, ?_, ?_, ?_, ?_, ?_, t5.trans t7, ?_⟩
              · rw [upd_ne nif]; exact sm7 _ _ f2
              · rw [upd_ne nip]; exact sm7 _ _ f3
              · rw [List.map_append]
                refine (dq.mono t7).app (.cons (.tup (vs := [nr[i], .str pls[i]]) ?_ (.cons (hvi.mono (t5.trans t7)) (.cons (.str _) .nil))) .nil)
                rw [upd_ne nni]; exact upd_same
              · intro q hq
                rcases List.mem_append.mp hq with h | h
                · exact okq q h
                · cases List.mem_singleton.mp h
                  exact ⟨pdi, plg hlp⟩
              · rw [List.length_append]; show ivs.length + 1 ≤ _; omega
              · rw [hfi, hstep, List.all_append, hbf, Bool.and_assoc]
                show _ = (iq.all frq && ((frm pls[i] dr[i] && true) && _))
                rw [Bool.and_true]
              · rw [wq_app]
                show wq iq + ((occ dr[i]).length + 0) + _ ≤ _
                omega
              · intro j hj hjn
                by_cases e : j < i
                · exact nmi j e hjn
                · obtain rfl : j = i := by omega
                  rw [hp_i] at hjn
                  rw [Option.some.inj hjn] at hlp
                  exact absurd hlp (by decide +kernel)
              · intro c o e
                rw [upd_ne (ne_of_none e hn0)]
                exact sm7 _ _ (s5 _ _ e)
            | false =>
              rw [hlp] at hstep
              repeat walk_at "s"
              refine w_ixT (SqT.of hna4) at1 ?_
              repeat walk_at "s"
              have at0 : atI (V.str k :: nr) (((i + 1 : Nat) : Int) - 1) = some ((V.str k :: nr)[i]'(by rw [List.length_cons]; omega)) := by
                rw [show ((i + 1 : Nat) : Int) - 1 = ((i : Nat) : Int) by omega]
                exact atI_nat (List.getElem?_eq_getElem _)
              refine w_ixT (SqT.of hna4) at0 ?_
              repeat walk_at "s"
              obtain ⟨db, hdb, hvb⟩ := (DsAt.cons (.str k) dnr : DsAt H2 (V.str k :: nr) (.str k :: dr)).get (List.getElem?_eq_getElem (show i < (V.str k :: nr).length by rw [List.length_cons]; omega))
              have hbfi : bfr k dr i = db := by
                unfold bfr
                rw [List.getD_eq_getElem?_getD, hdb]
                rfl
              refine ⟨nr[i], _, cv, dr[i], db, pls[i], rfl, hvi.mono t6, pdi, hvb.mono t6, ph, fun hlt => ?_, fun H5 sm8 => ?_⟩
              · have i0 : i ≠ 0 := fun e => by
                  subst e
                  rw [hlt] at hp_i
                  exact r3 (by rw [List.head?_eq_getElem?]; exact hp_i)
                obtain ⟨j, rfl⟩ : ∃ j, i = j + 1 := ⟨i - 1, by omega⟩
                have hj : pls[j]? = some pls[j] := List.getElem?_eq_getElem (by omega)
                have := nmi j (by omega) (by rw [hj]; exact congrArg some (r2 j _ _ hj hp_i hlt))
                rw [hbfi] at this
                exact this
              · rw [← hbfi]
                cases hft : fitB dr[i] pls[i] (bfr k dr i) with
                | false =>
                  rw [hft] at hstep
                  repeat walk_at "s"
                  refine iteT ?_
                  repeat walk_at "s"
                  refine qn ?_ H5 (sm6.trans sm8)
                  rw [hfrx, hfx, hfi, hstep]
                  show (qs'.all frq && (iq.all frq && (false && _))) = false
                  rw [Bool.false_and, Bool.and_false, Bool.and_false]
                | true =>
                  rw [hft] at hstep
                  repeat walk_at "s"
                  refine iteF ?_
                  repeat walk_at "s"
                  refine ⟨ivs, iq, _, _, rfl, sm8 _ _ g1, sm8 _ _ g2, sm8 _ _ g3, dq4.mono (Tk.same sm8), okq, Nat.le_succ_of_le li, ?_, ?_, ?_, t6.trans (Tk.same sm8), sm6.trans sm8⟩
                  · rw [hfi, hstep, hbf]
                    show (iq.all frq && (true && _)) = _
                    rw [Bool.true_and]
                  · omega
                  · intro j hj hjn
                    by_cases e : j < i
                    · exact nmi j e hjn
                    · obtain rfl : j = i := by omega
                      rw [hp_i] at hjn
                      rw [hbf]
                      rw [Option.some.inj hjn] at hft
                      exact fit_name hft
          · rintro σ H3 ⟨ivs, iq, y9, y10, rfl, f1, f2, f3, dq, okq, li, hfi, wi, nmi, t5, s5⟩
            repeat walk_at "s"
            refine ⟨inn, ivs, rfl, rfl, f1, ?_⟩
            repeat walk_at "s"
            have f3' : (upd H3 inn (.lst ivs.reverse)) pe = some (.lst ps') := by rw [upd_ne nip]; exact f3
            have lpl : pls.length ≤ 3 := r4
            rw [List.length_map] at li
            rw [List.length_append] at hpl
            refine ⟨pe, inn, ps', ivs.reverse, rfl, rfl, f3', upd_same, ?_, ?_⟩
            · rw [List.length_reverse]
              exact Nat.le_of_lt (big97 (show ps'.length + ivs.length ≤ 1000000 by omega))
            repeat walk_at "s"
            have e0 : pls.drop (pls.map V.str).length = [] := List.drop_of_length_le (by rw [List.length_map]; exact Nat.le_refl _)
            have e1 : dr.drop (pls.map V.str).length = [] := List.drop_of_length_le (by rw [List.length_map]; omega)
            rw [e0, e1] at hfi
            rw [e1] at wi
            have t8 : Tk H3 (upd (upd H3 inn (.lst ivs.reverse)) pe (.lst (ps' ++ ivs.reverse))) := (Tk.lst f1).trans (Tk.lst f3')
            refine ⟨wq (qs' ++ iq.reverse), ?_, us ++ [.ref na], ps' ++ ivs.reverse, qs' ++ iq.reverse, _, _, _, _, _, _, rfl, ?_, upd_same, ?_, ?_, ?_, ?_, rfl, ?_, ?_⟩
            · rw [wq_app, wq_rev]
              have : (occs ([] : List PyData)).length = 0 := rfl
              omega
            · rw [upd_ne nfp, upd_ne nif]; exact f2
            · rw [List.map_append, List.map_reverse]
              refine (a3.mono ((t3.trans t5).trans t8)).app ?_
              exact (dq.mono t8).reverse
            · intro q hq'
              rcases List.mem_append.mp hq' with h | h
              · exact hq q (List.mem_append.mpr (.inl h))
              · exact okq q (List.mem_reverse.mp h)
            · rw [hfrx, hfx, hfi, List.all_append, List.all_reverse]
              show (_ && (iq.all frq && true)) = _
              rw [Bool.and_true]
            · rw [wq_app, wq_rev, List.length_append]
              show us.length + 1 + _ ≤ _
              have : (occs ([] : List PyData)).length = 0 := rfl
              omega
            · rw [List.length_append, List.length_append, List.length_reverse]
              show _ ≤ 1 + 3 * (us.length + 1)
              have : ([V.ref xa] : List V).length = 1 := rfl
              omega
            · intro c o e
              rw [upd_ne (ne_of_none e hp0), upd_ne (ne_of_none e hn0)]
              exact s5 _ _ e
end
def sp_isterm : Sp := fun vs H Q _ => ∃ (v : V) (d : PyData), vs = [v] ∧ DAt H v d ∧ pd d = true ∧ (occ d).length ≤ 100000 ∧ ∀ H', Same H H' → Q (.bl (frm "term" d)) H'
section
variable {P : Program} {w : World} {K : PySem.W.Frag} {mg : Str → Option Value} {base : Heap}
theorem okis_term (T : Top K mg) (Pl : PlT P w K mg) : FnOk P w K mg base CX0 5 T.fis_term T.dis_term ["value"] sp_isterm := by
  refine T.Fis_term.ok scis_term (fun vs H Q E h => ?_) (fun cdv A outer s H vs Q E hr h => ?_)
  · obtain ⟨v, d, rfl, _⟩ := h
    rfl
  · obtain ⟨v, d, rfl, hd, hp, hz, q⟩ := h
    refine ⟨_, (pss_one (ps_ret (pe_cmpR op_notN (pe_call (okforms_within T Pl) hr (by rfl) T.gforms_within T.Fforms_within.kp T.bforms_within .nil pass0 (pa_cons (pv 0) (pa_cons pe_str (pa_cons (pe_tup pa_nil) pa_nil)))) pe_non (nomark _)))), ?_⟩
    repeat walk_at "s"
    refine ⟨by walk_at "len", fun cp hcp => ?_⟩
    repeat walk_at "s"
    have s1 : Same H (upd H cp (.tup [])) := sm_new hcp
    refine ⟨v, .ref cp, d, "term", rfl, hd.mono (Tk.same s1), hp, by decide +kernel, hz, fun hf H' sm => ?_, fun hf b H' sm => ?_⟩
    · repeat walk_at "s"
      rw [hf] at q
      exact q H' (s1.trans sm)
    · repeat walk_at "s"
      rw [hf] at q
      exact q H' (s1.trans sm)
end
/-! ### the pile of draws -/
theorem upd_self2 {H : Hp} {a : Addr} (_ : H a = none) (o : HO) : upd H a o a = some o := upd_same
theorem big99 {n : Nat} (h : n ≤ 100000) : n < sizeLine := Nat.lt_of_le_of_lt h (by decide)
theorem w_revL {K : PySem.W.Frag} {te : TE} {σ : L2.St} {H : Hp} {Q : VK} (q : te σ H fun x H1 => ∃ a xs, x = .ref a ∧ SqL K H1 a xs ∧ ∀ p, H1 p = none → Q (.ref p) (upd H1 p (.lst xs.reverse))) : tRevL K te σ H Q := q
theorem w_break {D : Ends} {σ : L2.St} {H : Hp} (q : D.bk σ H) : tBreak D σ H := q
def inz (ns : List Int) : List V := ns.map V.int
theorem inz_app (a b : List Int) : inz (a ++ b) = inz a ++ inz b := List.map_append
theorem inz_len (a : List Int) : (inz a).length = a.length := List.length_map _
def Pil (H : Hp) (p : Addr) : Prop := ∃ (n : Int) (ns : List Int), H p = some (.lst (inz (n :: ns))) ∧ 0 ≤ n ∧ n < 2147483647 ∧ ns.length ≤ 4000
/-- what a stretch of draws leaves -/
structure Gp (p : Addr) (H H' : Hp) : Prop where
  fr : Fr p H H'
  pl : Pil H' p
theorem Gp.trans {p : Addr} {H H1 H2 : Hp} (a : Gp p H H1) (b : Gp p H1 H2) : Gp p H H2 := ⟨a.fr.trans b.fr, b.pl⟩
theorem Pil.same {p : Addr} {H H1 : Hp} (a : Pil H p) (s : Same H H1) : Pil H1 p := by
  obtain ⟨n, ns, h, r⟩ := a
  exact ⟨n, ns, s _ _ h, r⟩
theorem Pil.ne {p q : Addr} {H : Hp} (a : Pil H p) (h : H q = none) : q ≠ p := by
  obtain ⟨n, ns, e, r⟩ := a
  exact (ne_of_none e h).symm
theorem Gp.refl {p : Addr} {H : Hp} (a : Pil H p) : Gp p H H := ⟨Fr.refl _ _, a⟩
theorem Gp.same {p : Addr} {H H1 H2 : Hp} (a : Gp p H H1) (s : Same H1 H2) : Gp p H H2 := ⟨a.fr.trans (Fr.same s), a.pl.same s⟩
theorem Gp.at {p q : Addr} {H H1 : Hp} {o : HO} (a : Gp p H H1) (h : H q = some o) (n : q ≠ p) : H1 q = some o := a.fr q o h n
theorem Gp.un {p q : Addr} {H H1 : Hp} (a : Gp p H H1) (n : H1 q = none) : H q = none := by
  cases e : H q with
  | none => rfl
  | some o =>
    have := a.fr q o e (a.pl.ne n)
    rw [this] at n
    cases n
/-- an object that H does not know changes -/
theorem Gp.mut {p q : Addr} {H H1 : Hp} {o : HO} (a : Gp p H H1) (n : H q = none) (nq : q ≠ p) : Gp p H (upd H1 q o) := ⟨fun x u e h => by
  rw [upd_ne (ne_of_none e n)]
  exact a.fr x u e h, by
  obtain ⟨m, ns, h, r⟩ := a.pl
  exact ⟨m, ns, by rw [upd_ne nq.symm]; exact h, r⟩⟩
def sp_pile (K : PySem.W.Frag) : Sp := fun vs H Q _ => ∃ (a : Addr) (ns : List Int), vs = [.ref a] ∧ SqL K H a (ns.map V.int) ∧ ns.length ≤ 63 ∧ ∀ (p : Addr) (H' : Hp), Same H H' → H p = none → Pil H' p → Q (.ref p) H'
def sp_draw : Sp := fun vs H Q _ => ∃ (p : Addr) (n : Int), vs = [.ref p, .int n] ∧ Pil H p ∧ 1 ≤ n ∧ ∀ (d : Int) (H' : Hp), 0 ≤ d → d < n → Gp p H H' → Q (.int d) H'
theorem sqL_same {K : PySem.W.Frag} {H H' : Hp} {a : Addr} {xs : List V} (h : SqL K H a xs) (s : Same H H') : SqL K H' a xs :=
  h.elim (fun h => .inl (h.elim (fun h => .inl (s _ _ h)) fun ⟨o, h⟩ => .inr ⟨o, s _ _ h⟩)) fun h => .inr h
section
variable {P : Program} {w : World} {K : PySem.W.Frag} {mg : Str → Option Value} {base : Heap}
theorem ok_law_pile (T : Top K mg) : FnOk P w K mg base CX0 1 T.f_law_pile T.d_law_pile ["script"] (sp_pile K) := by
  refine T.F_law_pile.ok sc_law_pile (fun vs H Q E h => ?_) (fun cdv A outer s H vs Q E hr h => ?_)
  · obtain ⟨a, n, rfl, _⟩ := h
    rfl
  · obtain ⟨a, ns, rfl, hS, hl, q⟩ := h
    refine ⟨_, (pss_cons (ps_set (i := 1) sc_law_pile.nd rfl (Or.inl rfl) (pe_op op_add pe_int (pe_callB call_len_seq (by rfl) T.z_len (by decide +kernel) (pa_cons (pv 0) pa_nil))))
    (pss_cons (ps_set (i := 2) sc_law_pile.nd rfl (Or.inl rfl) (pe_lst pa_nil))
     (pss_cons (ps_for PassesOwn.never rfl (pi_list (pv 0)) (pg_name (i := 3) sc_law_pile.nd rfl (Or.inl rfl))
      (pss_cons (ps_set (i := 4) sc_law_pile.nd rfl (Or.inl rfl) (pe_callTy call_int1 (by rfl) T.z_int (by decide +kernel) (pa_cons (pv 3) pa_nil)))
       (pss_cons (ps_set (i := 1) sc_law_pile.nd rfl (Or.inl rfl) (pe_op op_mod (pe_callTy call_int1 (by rfl) T.z_int (by decide +kernel) (pa_cons (pe_op op_add (pe_op op_mul (pv 1) pe_int) (pv 4)) pa_nil)) pe_int))
        (pss_one (ps_if (pt_cmpR op_eq (pe_op op_mod (pv 4) pe_int) pe_int (nomark _))
         (pss_cons (ps_set (i := 5) sc_law_pile.nd rfl (Or.inl rfl) (pe_op op_fdiv (pe_callB call_abs (by rfl) T.z_abs (by decide +kernel) (pa_cons (pv 4) pa_nil)) pe_int))
          (pss_one (ps_for PassesOwn.never rfl (pi_range1 (by rfl) T.z_range (pa_cons pe_int pa_nil)) (pg_name (i := 6) sc_law_pile.nd rfl (Or.inl rfl))
           (pss_cons (ps_expr (pe_bm PySem.F.plainAttrs_list PySem.F.slot_list_append PySem.F.type_list_append mt_append (pv 2) (pa_cons (pe_op op_mod (pv 5) pe_int) pa_nil)))
            (pss_cons (ps_set (i := 5) sc_law_pile.nd rfl (Or.inl rfl) (pe_op op_fdiv (pv 5) pe_int))
             (pss_one (ps_if (pt_cmpR op_eq (pv 5) pe_int (nomark _))
              (pss_one ps_break)
              pss_nil)))))))
         (pss_one (ps_for PassesOwn.never rfl (pi_range1 (by rfl) T.z_range (pa_cons pe_int pa_nil)) (pg_name (i := 6) sc_law_pile.nd rfl (Or.inl rfl))
          (pss_cons (ps_set (i := 1) sc_law_pile.nd rfl (Or.inl rfl) (pe_op op_mod (pe_callTy call_int1 (by rfl) T.z_int (by decide +kernel) (pa_cons (pe_op op_add (pe_op op_mul (pv 1) pe_int) (pv 4)) pa_nil)) pe_int))
           (pss_one (ps_expr (pe_bm PySem.F.plainAttrs_list PySem.F.slot_list_append PySem.F.type_list_append mt_append (pv 2) (pa_cons (pe_op op_fdiv (pv 1) pe_int) pa_nil))))))))))))
      (pss_one (ps_ret (pe_op op_cat (pe_lst (pa_cons (pv 1) pa_nil)) (pe_revL (pv 2)))))))), ?_⟩
    repeat walk_at "s"
    refine ⟨by walk_at "len", fun f hf => ?_⟩
    have s1 := sm_new (o := .lst []) hf
    have e1 := upd_self2 hf (.lst [])
    generalize upd H f (.lst []) = H1 at s1 e1 ⊢
    repeat walk_at "s"
    refine ⟨a, rfl, ⟨_, sqL_same hS s1⟩, ?_⟩
    refine for_list (K := K) (a := a) (xs := ns.map V.int) (fun i σ H2 => ∃ (sd : Int) (fs : List Int) (v3 v4 v5 v6 : Option V), σ = [some (.ref a), some (.int sd), some (.ref f), v3, v4, v5, v6] ∧ 0 ≤ sd ∧ sd < 2147483647 ∧ H2 f = some (.lst (inz fs)) ∧ fs.length ≤ 60 * i ∧ Same H H2) ?_ ?_ ?_ ?_
    · refine ⟨_, [], none, none, none, none, rfl, ?_, ?_, e1, Nat.zero_le _, s1⟩
      · omega
      · rw [List.length_map]; omega
    · rintro i σ H2 _ ⟨_, _, _, _, _, _, _, _, _, _, _, s2⟩
      exact sqL_same hS s2
    · rintro i x σ H2 hi ⟨sd, fs, v3, v4, v5, v6, rfl, hs0, hs1, e2, lf, s2⟩
      obtain ⟨z, hz, rfl⟩ := List.mem_map.mp (List.mem_of_getElem? hi)
      have hil : i < 63 := by
        have := (List.getElem?_eq_some_iff.mp hi).1
        rw [List.length_map] at this
        omega
      repeat walk_at "s"
      refine ite2 (fun h => ?_) (fun h => ?_)
      · repeat walk_at "s"
        refine for_range (lo := 0) (n := (60 : Int).toNat) (fun j σ H3 => ∃ (fs' : List Int) (sd' rs zz : Int) (v6 : Option V), σ = [some (.ref a), some (.int sd'), some (.ref f), some (.int z), some (.int zz), some (.int rs), v6] ∧ 0 ≤ sd' ∧ sd' < 2147483647 ∧ H3 f = some (.lst (inz fs')) ∧ fs'.length ≤ fs.length + j ∧ Same H H3) ?_ ?_ ?_
        · exact ⟨fs, _, _, _, v6, rfl, Int.emod_nonneg _ (by omega), Int.emod_lt_of_pos _ (by omega), e2, by omega, s2⟩
        · rintro j σ H3 hj ⟨fs', sd', rs, zz, w6, rfl, g0, g1, e3, lf3, s3⟩
          have hj' : j < 60 := hj
          repeat walk_at "s"
          refine w_append e3 ?_ ?_
          · rw [inz_len]; exact big99 (by omega)
          repeat walk_at "s"
          have ee : inz fs' ++ [V.int (rs % 60)] = inz (fs' ++ [rs % 60]) := by rw [inz_app]; rfl
          have ss : Same H (upd H3 f (.lst (inz fs' ++ [V.int (rs % 60)]))) := fun x o h => by rw [upd_ne (ne_of_none h hf)]; exact s3 x o h
          have ll : (fs' ++ [rs % 60]).length = fs'.length + 1 := by rw [List.length_append]; rfl
          refine ite2 (fun h => ?_) (fun h => ?_)
          · refine w_break ?_
            exact ⟨_, fs' ++ [rs % 60], _, _, _, _, rfl, g0, g1, by rw [upd_same, ee], by omega, ss⟩
          · exact ⟨fs' ++ [rs % 60], _, _, _, _, rfl, g0, g1, by rw [upd_same, ee], by omega, ss⟩
        · rintro σ H3 ⟨fs', sd', rs, zz, w6, rfl, g0, g1, e3, lf3, s3⟩
          have lf4 : fs'.length ≤ fs.length + 60 := lf3
          exact ⟨_, fs', _, _, _, _, rfl, g0, g1, e3, by omega, s3⟩
      · repeat walk_at "s"
        refine for_range (lo := 0) (n := (4 : Int).toNat) (fun j σ H3 => ∃ (fs' : List Int) (sd' : Int) (v6 : Option V), σ = [some (.ref a), some (.int sd'), some (.ref f), some (.int z), some (.int z), v5, v6] ∧ 0 ≤ sd' ∧ sd' < 2147483647 ∧ H3 f = some (.lst (inz fs')) ∧ fs'.length ≤ fs.length + j ∧ Same H H3) ?_ ?_ ?_
        · exact ⟨fs, _, v6, rfl, Int.emod_nonneg _ (by omega), Int.emod_lt_of_pos _ (by omega), e2, by omega, s2⟩
        · rintro j σ H3 hj ⟨fs', sd', w6, rfl, g0, g1, e3, lf3, s3⟩
          have hj' : j < 4 := hj
          repeat walk_at "s"
          refine w_append e3 ?_ ?_
          · rw [inz_len]; exact big99 (by omega)
          repeat walk_at "s"
          refine ⟨fs' ++ [(sd' * 48271 + z) % 2147483647 / 4096], _, _, rfl, Int.emod_nonneg _ (by omega), Int.emod_lt_of_pos _ (by omega), by rw [upd_same, inz_app]; rfl, by rw [List.length_append, List.length_singleton]; omega, fun x o h => by rw [upd_ne (ne_of_none h hf)]; exact s3 x o h⟩
        · rintro σ H3 ⟨fs', sd', w6, rfl, g0, g1, e3, lf3, s3⟩
          have lf4 : fs'.length ≤ fs.length + 4 := lf3
          exact ⟨_, fs', _, _, _, _, rfl, g0, g1, e3, by omega, s3⟩
    · rintro σ H2 ⟨sd, fs, v3, v4, v5, v6, rfl, hs0, hs1, e2, lf, s2⟩
      rw [List.length_map] at lf
      repeat walk_at "s"
      refine ⟨by walk_at "len", fun p hp => ?_⟩
      have s3 := sm_new (o := .lst [V.int sd]) hp
      have e3 := upd_self2 hp (.lst [V.int sd])
      generalize upd H2 p (.lst [V.int sd]) = H3 at s3 e3 ⊢
      refine w_revL ?_
      repeat walk_at "s"
      refine ⟨f, _, rfl, SqL.of (s3 _ _ e2), fun r hr => ?_⟩
      have s4 := sm_new (o := .lst (inz fs).reverse) hr
      have e4 := upd_self2 hr (.lst (inz fs).reverse)
      generalize upd H3 r (.lst (inz fs).reverse) = H4 at s4 e4 ⊢
      refine ⟨p, r, _, _, rfl, rfl, s4 _ _ e3, e4, ?_, fun p2 hp2 => ?_⟩
      · rw [List.length_reverse, inz_len]
        exact Nat.le_of_lt (big99 (by show 1 + fs.length ≤ _; omega))
      · have s24 := s3.trans s4
        refine q p2 _ ((s2.trans s24).trans (sm_new hp2)) ((s2.trans s24).free hp2) ⟨sd, fs.reverse, ?_, hs0, hs1, by rw [List.length_reverse]; omega⟩
        rw [upd_same]
        unfold inz
        rw [List.map_cons, List.map_reverse]
        rfl
theorem ok_law_draw (T : Top K mg) : FnOk P w K mg base CX0 1 T.f_law_draw T.d_law_draw ["pile", "many"] sp_draw := by
  refine T.F_law_draw.ok sc_law_draw (fun vs H Q E h => ?_) (fun cdv A outer s H vs Q E hr h => ?_)
  · obtain ⟨a, n, rfl, _⟩ := h
    rfl
  · obtain ⟨p, n, rfl, ⟨m, ns, hp, h0, h1, hl⟩, hn, q⟩ := h
    refine ⟨_, (pss_cons (ps_if (pt_cmpR op_gt (pe_callB call_len_seq (by rfl) T.z_len (by decide +kernel) (pa_cons (pv 0) pa_nil)) pe_int (nomark _))
    (pss_one (ps_ret (pe_op op_mod (pe_callTy call_int1 (by rfl) T.z_int (by decide +kernel) (pa_cons (pe_bm0 PySem.F.plainAttrs_list PySem.F.slot_list_pop PySem.F.type_list_pop mt_pop (pv 0)) pa_nil)) (pv 1))))
    pss_nil)
    (pss_cons (ps_asg (pe_op op_mod (pe_callTy call_int1 (by rfl) T.z_int (by decide +kernel) (pa_cons (pe_op op_add (pe_op op_mul (pe_ix ix_list (pv 0) pe_int (fun _ _ => rfl)) pe_int) pe_int) pa_nil)) pe_int) (pg_sub (pv 0) pe_int set_list))
     (pss_one (ps_ret (pe_op op_mod (pe_op op_fdiv (pe_ix ix_list (pv 0) pe_int (fun _ _ => rfl)) pe_int) (pv 1)))))), ?_⟩
    repeat walk_at "s"
    refine ite2 (fun h => ?_) (fun h => ?_)
    · rcases List.eq_nil_or_concat ns with rfl | ⟨ms, y, rfl⟩
      · exact absurd (of_decide_eq_true h) (by show ¬ ((1 : Nat) : Int) > 1; omega)
      · rw [List.concat_eq_append] at hp hl
        have hp' : H p = some (.lst (inz (m :: ms) ++ [V.int y])) := by
          rw [hp, ← List.cons_append, inz_app]
          rfl
        repeat walk_at "s"
        refine q _ _ (Int.emod_nonneg _ (by omega)) (Int.emod_lt_of_pos _ (by omega)) ⟨fun x o e n => by rw [upd_ne n]; exact e, m, ms, upd_same, h0, h1, ?_⟩
        rw [List.length_append] at hl
        omega
    · repeat walk_at "s"
      refine w_ixL (SqL.of hp) (atI_nat (j := 0) rfl) ?_
      repeat walk_at "s"
      refine w_setL hp (j := 0) (by unfold ixN; simp [inz_len]) ?_
      repeat walk_at "s"
      refine w_ixL (SqL.of upd_same) (atI_nat (j := 0) rfl) ?_
      repeat walk_at "s"
      refine q _ _ (Int.emod_nonneg _ (by omega)) (Int.emod_lt_of_pos _ (by omega)) ⟨fun x o e n => by rw [upd_ne n]; exact e, (m * 48271 + 12345) % 2147483647, ns, upd_same, Int.emod_nonneg _ (by omega), Int.emod_lt_of_pos _ (by omega), hl⟩
end
/-! ### names -/
def intIn (lo hi : Int) : V → Bool
  | .int i => decide (lo ≤ i) && decide (i ≤ hi)
  | _ => false
theorem pick_int {xs : List V} {d lo hi : Int} (h0 : 0 ≤ d) (h1 : d < (xs.length : Int)) (hx : xs.all (intIn lo hi) = true) : ∃ i, atI xs d = some (.int i) ∧ lo ≤ i ∧ i ≤ hi := by
  obtain ⟨z, hz, hm⟩ := at_ok h0 h1
  have := List.all_eq_true.mp hx z hm
  cases z with
  | int i =>
    have h := Bool.and_eq_true_iff.mp this
    exact ⟨i, hz, of_decide_eq_true h.1, of_decide_eq_true h.2⟩
  | _ => cases this
theorem abc_all : ∀ k : Fin 26, atI (Str.ofString "abcdefghijklmnopqrstuvwxyz").cps.toList (k.val : Int) = some (97 + k.val) := by decide +kernel
theorem abc_at {d : Int} (h0 : 0 ≤ d) (h1 : d < 26) : atI (Str.ofString "abcdefghijklmnopqrstuvwxyz").cps.toList d = some (97 + d.toNat) := by
  have := abc_all ⟨d.toNat, by omega⟩
  rw [show ((⟨d.toNat, by omega⟩ : Fin 26).val : Int) = d by show ((d.toNat : Nat) : Int) = d; omega] at this
  exact this
def one (x : Nat) : V := .str ⟨#[x]⟩
theorem ones_str (zs : List Nat) : zs.map one = (zs.map fun x => (⟨#[x]⟩ : Str)).map V.str := by rw [List.map_map]; rfl
theorem ones_sum (zs : List Nat) : ((zs.map (fun x => (⟨#[x]⟩ : Str))).map (fun x => x.length)).sum = zs.length := by
  induction zs with
  | nil => rfl
  | cons x r ih => rw [List.map_cons, List.map_cons, List.sum_cons, ih, List.length_cons, Nat.add_comm]; rfl
theorem ones_cd (zs : List Nat) : cd (Txt.join "" (zs.map (fun x => (⟨#[x]⟩ : Str)))) = zs := by
  rw [cd_join0]
  induction zs with
  | nil => rfl
  | cons x r ih => rw [List.map_cons, List.flatMap_cons, ih]; rfl
def nmF (bs : List Nat) (j : Nat) (b s : Int) (i : Nat) : Str := Txt.join "" ((bs.set j (97 + ((b + s * (i : Int)) % 26).toNat)).map (fun x => (⟨#[x]⟩ : Str)))
theorem nmF_nm {bs : List Nat} {j : Nat} {b s : Int} {i : Nat} (h1 : 1 ≤ bs.length) (h2 : bs.length ≤ 8) (ha : ∀ c ∈ bs, 97 ≤ c ∧ c ≤ 122) : Nm (nmF bs j b s i) := by
  have e : cd (nmF bs j b s i) = bs.set j (97 + ((b + s * (i : Int)) % 26).toNat) := ones_cd _
  refine ⟨?_, ?_, ?_⟩
  · rw [cd_len, e, List.length_set]; exact h1
  · rw [cd_len, e, List.length_set]; exact h2
  · rw [e]
    intro c hc
    rcases List.mem_or_eq_of_mem_set hc with h | h
    · exact ha c h
    · subst h
      have h3 := Int.emod_nonneg (b + s * (i : Int)) (show (26 : Int) ≠ 0 by omega)
      have h4 := Int.emod_lt_of_pos (b + s * (i : Int)) (show (0 : Int) < 26 by omega)
      omega
theorem nmF_ne {bs : List Nat} {j : Nat} {b s : Int} (hj : j < bs.length) (h1 : 1 ≤ s) (h2 : s ≤ 25) : nmF bs j b s 0 ≠ nmF bs j b s 1 := by
  intro e
  have e1 : bs.set j (97 + ((b + s * ((0 : Nat) : Int)) % 26).toNat) = bs.set j (97 + ((b + s * ((1 : Nat) : Int)) % 26).toNat) := by
    rw [← ones_cd (bs.set j (97 + ((b + s * ((0 : Nat) : Int)) % 26).toNat)), ← ones_cd (bs.set j (97 + ((b + s * ((1 : Nat) : Int)) % 26).toNat))]
    exact congrArg cd e
  have e2 := congrArg (fun l => l[j]?) e1
  simp only [List.getElem?_set_self hj] at e2
  have e3 := Option.some.inj e2
  rw [show s * ((0 : Nat) : Int) = 0 by simp, show s * ((1 : Nat) : Int) = s by simp] at e3
  have a1 := Int.emod_nonneg (b + 0) (show (26 : Int) ≠ 0 by omega)
  have a2 := Int.emod_nonneg (b + s) (show (26 : Int) ≠ 0 by omega)
  have e4 : (b + 0) % 26 = (b + s) % 26 := by omega
  omega
def sp_names : Sp := fun vs H Q _ => ∃ (p : Addr) (n : Int), vs = [.ref p, .int n] ∧ Pil H p ∧ 2 ≤ n ∧ n ≤ 10 ∧
  ∀ (l : Addr) (f : Nat → Str) (H' : Hp), H l = none → H' l = some (.lst ((List.range n.toNat).map fun i => V.str (f i))) → (∀ i, Nm (f i)) → f 0 ≠ f 1 → Gp p H H' → Q (.ref l) H'
section
variable {P : Program} {w : World} {K : PySem.W.Frag} {mg : Str → Option Value} {base : Heap}
theorem ok_law_names (T : Top K mg) : FnOk P w K mg base CX0 2 T.f_law_names T.d_law_names ["pile", "many"] sp_names := by
  refine T.F_law_names.ok sc_law_names (fun vs H Q E h => ?_) (fun cdv A outer s H vs Q E hr h => ?_)
  · obtain ⟨p, n, rfl, _⟩ := h
    rfl
  · obtain ⟨p, n, rfl, hp, hn1, hn2, q⟩ := h
    refine ⟨_, (pss_cons (ps_set (i := 2) sc_law_names.nd rfl (Or.inr rfl) pe_str)
    (pss_cons (ps_setLc (i := 3) (own := [("k", 4)]) (g := gName 4) (by rfl) sc_law_names.nd rfl rfl (sw_true rfl rfl rfl (by decide +kernel)) (pi_range1 (by rfl) T.z_range (pa_cons (pe_op op_add pe_int (pe_call (ok_law_draw T) hr (by rfl) T.g_law_draw T.F_law_draw.kp T.b_law_draw .nil pass0 (pa_cons (pv 0) (pa_cons pe_int pa_nil)))) pa_nil)) (blkOk_by (own := [("k", 4)]) (N := N_law_names) (sc := defScope s_law_names) (by decide +kernel)) (fun _ _ _ _ _ => (pg_name (i := 4) sc_law_names.nd rfl (Or.inl rfl))) (fun _ _ _ _ _ => pts_nil) (fun _ _ _ _ _ => (pe_ix ix_str (pv 2) (pe_call (ok_law_draw T) hr (by rfl) T.g_law_draw T.F_law_draw.kp T.b_law_draw .nil pass0 (pa_cons (pv 0) (pa_cons pe_int pa_nil))) (fun _ _ => rfl))))
     (pss_cons (ps_set (i := 5) sc_law_names.nd rfl (Or.inl rfl) (pe_call (ok_law_draw T) hr (by rfl) T.g_law_draw T.F_law_draw.kp T.b_law_draw .nil pass0 (pa_cons (pv 0) (pa_cons (pe_callB call_len_seq (by rfl) T.z_len (by decide +kernel) (pa_cons (pv 3) pa_nil)) pa_nil))))
      (pss_cons (ps_set (i := 6) sc_law_names.nd rfl (Or.inl rfl) (pe_call (ok_law_draw T) hr (by rfl) T.g_law_draw T.F_law_draw.kp T.b_law_draw .nil pass0 (pa_cons (pv 0) (pa_cons pe_int pa_nil))))
       (pss_cons (ps_set (i := 7) sc_law_names.nd rfl (Or.inl rfl) (pe_ix ix_list (pe_lst (pa_cons pe_int (pa_cons pe_int (pa_cons pe_int (pa_cons pe_int (pa_cons pe_int (pa_cons pe_int (pa_cons pe_int (pa_cons pe_int (pa_cons pe_int (pa_cons pe_int (pa_cons pe_int (pa_cons pe_int pa_nil))))))))))))) (pe_call (ok_law_draw T) hr (by rfl) T.g_law_draw T.F_law_draw.kp T.b_law_draw .nil pass0 (pa_cons (pv 0) (pa_cons pe_int pa_nil))) (fun _ _ => rfl)))
        (pss_cons (ps_set (i := 8) sc_law_names.nd rfl (Or.inl rfl) (pe_lst pa_nil))
         (pss_cons (ps_for PassesOwn.never rfl (pi_range1 (by rfl) T.z_range (pa_cons (pv 1) pa_nil)) (pg_name (i := 4) sc_law_names.nd rfl (Or.inl rfl))
          (pss_cons (ps_asg (pe_ix ix_str (pv 2) (pe_op op_mod (pe_callTy call_int1 (by rfl) T.z_int (by decide +kernel) (pa_cons (pe_op op_add (pv 6) (pe_op op_mul (pv 7) (pv 4))) pa_nil)) pe_int) (fun _ _ => rfl)) (pg_sub (pv 3) (pv 5) set_list))
           (pss_one (ps_expr (pe_bm PySem.F.plainAttrs_list PySem.F.slot_list_append PySem.F.type_list_append mt_append (pv 8) (pa_cons (pe_join pe_str (pv 3)) pa_nil))))))
          (pss_one (ps_ret (pv 8)))))))))), ?_⟩
    repeat walk_at "s"
    refine ⟨p, 8, rfl, hp, by omega, fun d H1 d0 d1 g1 => ?_⟩
    repeat walk_at "s"
    intro D hD
    have hD0 := g1.un hD
    have nDp := g1.pl.ne hD
    refine lc_range (lo := 0) (n := (1 + d).toNat) (fun i H2 => ∃ bs : List Nat, H2 D = some (.lst (bs.map one)) ∧ bs.length = i ∧ (∀ c ∈ bs, 97 ≤ c ∧ c ≤ 122) ∧ Gp p H H2) ⟨[], upd_same, rfl, (by simp), g1.same (sm_new hD)⟩ ?_ ?_
    · rintro i H2 hi ⟨bs, e, hl, ha, g2⟩
      repeat walk_at "s"
      refine ⟨p, 26, rfl, g2.pl, by omega, fun d2 H3 e0 e1 g3 => ?_⟩
      refine ⟨_, d2, _, rfl, rfl, by decide +kernel, abc_at e0 e1, ?_⟩
      refine ⟨_, g3.at e nDp, ?_, bs ++ [97 + d2.toNat], ?_, ?_, ?_, (g2.trans g3).mut hD0 nDp⟩
      · rw [List.length_map]; exact big99 (by omega)
      · rw [upd_same, List.map_append]; rfl
      · rw [List.length_append, hl]; rfl
      · intro c hc
        rcases List.mem_append.mp hc with h | h
        · exact ha c h
        · cases List.mem_singleton.mp h; omega
    · rintro H2 ⟨bs, e, hl, ha, g2⟩
      have hb1 : 1 ≤ bs.length := by omega
      have hb8 : bs.length ≤ 8 := by omega
      have hlb : ((bs.map one).length : Int) = (bs.length : Int) := by rw [List.length_map]
      repeat walk_at "s"
      rw [hlb]
      refine ⟨p, bs.length, rfl, g2.pl, by omega, fun sp H3 sp0 sp1 g3 => ?_⟩
      repeat walk_at "s"
      refine ⟨p, 26, rfl, g3.pl, by omega, fun b H4 b0 b1 g4 => ?_⟩
      have g34 := g3.trans g4
      repeat walk_at "s"
      refine ⟨by walk_at "len", fun sl hsl => ?_⟩
      have s5 := sm_new (o := .lst [.int 1, .int 3, .int 5, .int 7, .int 9, .int 11, .int 15, .int 17, .int 19, .int 21, .int 23, .int 25]) hsl
      have e5 := upd_self2 hsl (.lst [.int 1, .int 3, .int 5, .int 7, .int 9, .int 11, .int 15, .int 17, .int 19, .int 21, .int 23, .int 25])
      have nsl := g4.pl.ne hsl
      generalize upd H4 sl (.lst [.int 1, .int 3, .int 5, .int 7, .int 9, .int 11, .int 15, .int 17, .int 19, .int 21, .int 23, .int 25]) = H5 at s5 e5 ⊢
      repeat walk_at "s"
      refine ⟨p, 12, rfl, g4.pl.same s5, by omega, fun d6 H6 d60 d61 g6 => ?_⟩
      obtain ⟨st, hst, st0, st1⟩ := pick_int (lo := 1) (hi := 25) d60 d61 (xs := [.int 1, .int 3, .int 5, .int 7, .int 9, .int 11, .int 15, .int 17, .int 19, .int 21, .int 23, .int 25]) (by decide +kernel)
      refine w_ixL (SqL.of (g6.at e5 nsl)) hst ?_
      have g36 := (g34.same s5).trans g6
      have eD := g36.at e nDp
      repeat walk_at "s"
      refine ⟨by walk_at "len", fun F hF => ?_⟩
      have nFp := g6.pl.ne hF
      have g26 := g2.trans g36
      have hF0 := g26.un hF
      have nDF : D ≠ F := ne_of_none eD hF
      repeat walk_at "s"
      refine for_range (lo := 0) (n := n.toNat) (fun i σ H7 => ∃ (bs' : List Nat) (v7 : Option V), σ = [some (.ref p), some (.int n), some (.str (Str.ofString "abcdefghijklmnopqrstuvwxyz")), some (.ref D), v7, some (.int sp), some (.int b), some (.int st), some (.ref F)] ∧ H7 D = some (.lst (bs'.map one)) ∧ bs'.length = bs.length ∧ (∀ c, bs'.set sp.toNat c = bs.set sp.toNat c) ∧ H7 F = some (.lst ((List.range i).map fun i => V.str (nmF bs sp.toNat b st i))) ∧ Gp p H H7) ?_ ?_ ?_
      · exact ⟨bs, none, rfl, by rw [upd_ne nDF]; exact eD, rfl, fun c => rfl, upd_same, g26.same (sm_new hF)⟩
      · rintro i σ H7 hi ⟨bs', v7, rfl, eD7, lb7, hset, eF7, g7⟩
        repeat walk_at "s"
        have ei : b + st * (0 + (i : Int)) = b + st * (i : Int) := by rw [Int.zero_add]
        rw [ei]
        have x0 := Int.emod_nonneg (b + st * (i : Int)) (show (26 : Int) ≠ 0 by omega)
        have x1 := Int.emod_lt_of_pos (b + st * (i : Int)) (show (0 : Int) < 26 by omega)
        refine ⟨_, _, _, rfl, rfl, by decide +kernel, abc_at x0 x1, ?_⟩
        repeat walk_at "s"
        refine w_setL eD7 (j := sp.toNat) (by unfold ixN; rw [List.length_map, lb7, if_pos sp0, if_pos sp1]) ?_
        have eD8 : upd H7 D (.lst ((bs'.map one).set sp.toNat (V.str ⟨#[97 + ((b + st * (i : Int)) % 26).toNat]⟩))) D = some (.lst ((bs.set sp.toNat (97 + ((b + st * (i : Int)) % 26).toNat)).map one)) := by
          rw [upd_same, ← hset, List.map_set]
          rfl
        have eF8 : upd H7 D (.lst ((bs'.map one).set sp.toNat (V.str ⟨#[97 + ((b + st * (i : Int)) % 26).toNat]⟩))) F = some (.lst ((List.range i).map fun i => V.str (nmF bs sp.toNat b st i))) := by
          rw [upd_ne nDF.symm]; exact eF7
        have g8 : Gp p H (upd H7 D (.lst ((bs'.map one).set sp.toNat (V.str ⟨#[97 + ((b + st * (i : Int)) % 26).toNat]⟩)))) := g7.mut hD0 nDp
        generalize upd H7 D (.lst ((bs'.map one).set sp.toNat (V.str ⟨#[97 + ((b + st * (i : Int)) % 26).toNat]⟩))) = H8 at eD8 eF8 g8 ⊢
        repeat walk_at "s"
        refine w_join (ys := (bs.set sp.toNat (97 + ((b + st * (i : Int)) % 26).toNat)).map (fun x => (⟨#[x]⟩ : Str))) (SqL.of (by rw [eD8, ones_str])) ?_ ?_
        · rw [ones_sum, List.length_set, show ("" : Str).length = 0 from rfl]; omega
        repeat walk_at "s"
        refine w_append eF8 ?_ ?_
        · rw [List.length_map, List.length_range]; exact big99 (by omega)
        repeat walk_at "s"
        refine ⟨bs.set sp.toNat (97 + ((b + st * (i : Int)) % 26).toNat), _, rfl, by rw [upd_ne nDF]; exact eD8, List.length_set, fun c => List.set_set .., ?_, g8.mut hF0 nFp⟩
        rw [upd_same, List.range_succ, List.map_append]
        rfl
      · rintro σ H7 ⟨bs', v7, rfl, eD7, lb7, hset, eF7, g7⟩
        repeat walk_at "s"
        exact q F _ H7 hF0 eF7 (fun i => nmF_nm hb1 hb8 ha) (nmF_ne (by omega) st0 st1) g7
end
/-! ### what is asked, what is said -/
def Dq : Nat → PyData → Prop
  | 0, _ => False
  | n + 1, d => (∃ z, d = .str z) ∨ (∃ i, d = .int i) ∨ d = .none ∨ ∃ ds, d = .tuple ds ∧ ds.length ≤ 500 ∧ ∀ e ∈ ds, Dq n e
def sp_whole : Sp := fun vs H Q _ => ∃ i : Int, vs = [.int i] ∧ Q (.bl true) H
def sp_same (n : Nat) : Sp := fun vs H Q _ => ∃ x y : V, vs = [x, y] ∧ ((∃ a b : Str, x = .str a ∧ y = .str b ∧ 1 ≤ n ∧ Q (.bl (decide (a = b))) H) ∨ (∃ b : Bool, x = .bl b ∧ y = .bl b ∧ 1 ≤ n ∧ Q (.bl true) H) ∨ ∃ d : PyData, DAt H x d ∧ DAt H y d ∧ Dq n d ∧ ∀ H', Same H H' → Q (.bl true) H')
def spNo : Sp := fun _ _ _ _ => False
theorem DsAt.both {H : Hp} : ∀ {xs ys : List V} {ds : List PyData} {i : Nat}, DsAt H xs ds → DsAt H ys ds → i < ds.length → ∃ x y d, xs[i]? = some x ∧ ys[i]? = some y ∧ ds[i]? = some d ∧ DAt H x d ∧ DAt H y d
  | _, _, _, 0, .cons h _, .cons g _, _ => ⟨_, _, _, rfl, rfl, rfl, h, g⟩
  | _, _, _, i + 1, .cons _ h, .cons _ g, hi => DsAt.both (i := i) h g (Nat.lt_of_succ_lt_succ hi)
  | _, _, _, _, .nil, _, hi => absurd hi (Nat.not_lt_zero _)
section
variable {σ : L2.St} {H : Hp} {Q : VK} {D : Ends} {K : PySem.W.Frag}
theorem isi_nt (q : Q (.bl false) H) : rIsi K [.non, .ty "tuple"] H Q := ⟨_, _, _, _, false, rfl, .ty _, .base .non, kit_ty (by decide +kernel), q⟩
theorem isi_bl {z : Bool} {n : String} {b : Bool} (k : kitB "bool" n = some b) (q : Q (.bl b) H) : rIsi K [.bl z, .ty n] H Q := ⟨_, _, _, _, b, rfl, .ty _, .base (.bl z), kit_ty k, q⟩
theorem w_notV {t : TE} (q : t σ H fun x H1 => ∃ k, x = .bl k ∧ Q (.bl (!k)) H1) : tNotV t σ H Q := q
end
section
variable {P : Program} {w : World} {K : PySem.W.Frag} {mg : Str → Option Value} {base : Heap}
theorem ok_law_whole (T : Top K mg) : FnOk P w K mg base CX0 1 T.f_law_whole T.d_law_whole ["actual"] sp_whole := by
  refine T.F_law_whole.ok sc_law_whole (fun vs H Q E h => ?_) (fun cdv A outer s H vs Q E hr h => ?_)
  · obtain ⟨i, rfl, _⟩ := h
    rfl
  · obtain ⟨i, rfl, q⟩ := h
    refine ⟨_, (pss_one (ps_ret (pe_and (pe_callB call_isi (by rfl) T.z_isinstance (by decide +kernel) (pa_cons (pv 0) (pa_cons (pe_bltn (v := .ty "int") (by rfl) T.z_int (by decide +kernel) rfl) pa_nil))) (pe_one (pe_not (pe_callB call_isi (by rfl) T.z_isinstance (by decide +kernel) (pa_cons (pv 0) (pa_cons (pe_bltn (v := .ty "bool") (by rfl) T.z_bool (by decide +kernel) rfl) pa_nil)))))))), ?_⟩
    repeat walk_at "s"
    refine w_notV ?_
    repeat walk_at "s"
    exact q
theorem same_step (T : Top K mg) (k n : Nat) (spr : Sp) (ih : FnOk P w K mg base CX0 (k + 1) T.f_law_same T.d_law_same ["actual", "expected"] spr) (hn : ∀ m, n = m + 1 → spr = sp_same m) : FnOk P w K mg base CX0 (k + 2) T.f_law_same T.d_law_same ["actual", "expected"] (sp_same n) := by
  refine T.F_law_same.ok sc_law_same (fun vs H Q E h => ?_) (fun cdv A outer s H vs Q E hr h => ?_)
  · obtain ⟨x, y, rfl, _⟩ := h
    rfl
  · obtain ⟨x, y, rfl, h⟩ := h
    refine ⟨_, (pss_cons (ps_if (pt_val (pe_callB call_isi (by rfl) T.z_isinstance (by decide +kernel) (pa_cons (pv 1) (pa_cons (pe_bltn (v := .ty "tuple") (by rfl) T.z_tuple (by decide +kernel) rfl) pa_nil))))
    (pss_cons (ps_if (PW.pt (pw_or (pt_not (pt_val (pe_callB call_isi (by rfl) T.z_isinstance (by decide +kernel) (pa_cons (pv 0) (pa_cons (pe_bltn (v := .ty "tuple") (by rfl) T.z_tuple (by decide +kernel) rfl) pa_nil))))) (pw_or1 (pt_cmpR op_ne (pe_callB call_len_seq (by rfl) T.z_len (by decide +kernel) (pa_cons (pv 0) pa_nil)) (pe_callB call_len_seq (by rfl) T.z_len (by decide +kernel) (pa_cons (pv 1) pa_nil)) (nomark _)))))
     (pss_one (ps_ret pe_bl))
     pss_nil)
     (pss_one (ps_ret (pe_callB (cr_all rfl) (by rfl) T.z_all (by decide +kernel) (pa_cons (pe_lc (own := [("k", 2)]) (g := gName 2) (by rfl) sc_law_same.nd (pi_range1 (by rfl) T.z_range (pa_cons (pe_callB call_len_seq (by rfl) T.z_len (by decide +kernel) (pa_cons (pv 1) pa_nil)) pa_nil)) (blkOk_by (own := [("k", 2)]) (N := N_law_same) (sc := defScope s_law_same) (by decide +kernel)) (fun _ _ _ _ _ => (pg_name (i := 2) sc_law_same.nd rfl (Or.inl rfl))) (fun _ _ _ _ _ => pts_nil) (fun _ _ _ _ _ => (pe_call ih hr (by rfl) T.g_law_same T.F_law_same.kp T.b_law_same .nil pass0 (pa_cons (pe_ix (r := rIxT K) ix_tup (pv 0) (pv 2) (fun _ _ => rfl)) (pa_cons (pe_ix (r := rIxT K) ix_tup (pv 1) (pv 2) (fun _ _ => rfl)) pa_nil))))) pa_nil)))))
    pss_nil)
    (pss_cons (ps_if (pt_cmpR op_isN (pv 1) pe_non (nomark _))
     (pss_one (ps_ret (pe_cmpR op_isN (pv 0) pe_non (nomark _))))
     pss_nil)
     (pss_cons (ps_if (pt_val (pe_callB call_isi (by rfl) T.z_isinstance (by decide +kernel) (pa_cons (pv 1) (pa_cons (pe_bltn (v := .ty "str") (by rfl) T.z_str (by decide +kernel) rfl) pa_nil))))
      (pss_one (ps_ret (pe_and (pe_callB call_isi (by rfl) T.z_isinstance (by decide +kernel) (pa_cons (pv 0) (pa_cons (pe_bltn (v := .ty "str") (by rfl) T.z_str (by decide +kernel) rfl) pa_nil))) (pe_one (pe_cmpR op_eq (pv 0) (pv 1) (nomark _))))))
      pss_nil)
      (pss_cons (ps_if (pt_val (pe_callB call_isi (by rfl) T.z_isinstance (by decide +kernel) (pa_cons (pv 1) (pa_cons (pe_bltn (v := .ty "bool") (by rfl) T.z_bool (by decide +kernel) rfl) pa_nil))))
       (pss_one (ps_ret (pe_and (pe_callB call_isi (by rfl) T.z_isinstance (by decide +kernel) (pa_cons (pv 0) (pa_cons (pe_bltn (v := .ty "bool") (by rfl) T.z_bool (by decide +kernel) rfl) pa_nil))) (pe_one (pe_cmpR op_eq (pv 0) (pv 1) (nomark _))))))
       pss_nil)
       (pss_one (ps_ret (pe_and (pe_call (ok_law_whole T) (hr.mono (by omega)) (by rfl) T.g_law_whole T.F_law_whole.kp T.b_law_whole .nil pass0 (pa_cons (pv 0) pa_nil)) (pe_one (pe_cmpR op_eq (pv 0) (pv 1) (nomark _)))))))))), ?_⟩
    rcases h with ⟨a, b, rfl, rfl, -, q⟩ | ⟨b, rfl, rfl, -, q⟩ | ⟨d, hx, hy, hq, q⟩
    · repeat walk_at "s"
      rw [decide_eq_false (fun h => by cases h)]
      refine iteF ?_
      repeat walk_at "s"
      exact q
    · repeat walk_at "s"
      refine isi_bl (b := false) (by decide +kernel) ?_
      repeat walk_at "s"
      rw [decide_eq_false (fun h => by cases h)]
      refine iteF ?_
      repeat walk_at "s"
      refine isi_bl (b := false) (by decide +kernel) ?_
      repeat walk_at "s"
      refine isi_bl (b := true) (by decide +kernel) ?_
      repeat walk_at "s"
      refine isi_bl (b := true) (by decide +kernel) ?_
      repeat walk_at "s"
      refine ⟨rfl, ?_⟩
      rw [decide_eq_true rfl]
      exact q
    · obtain ⟨m, rfl⟩ : ∃ m, n = m + 1 := by
        cases n with
        | zero => cases hq
        | succ m => exact ⟨m, rfl⟩
      have e := hn m rfl
      subst e
      rcases hq with ⟨z, rfl⟩ | ⟨z, rfl⟩ | rfl | ⟨ds, rfl, hl, ha⟩
      · cases hx
        cases hy
        repeat walk_at "s"
        rw [decide_eq_false (fun h => by cases h)]
        refine iteF ?_
        repeat walk_at "s"
        rw [decide_eq_true rfl]
        exact q H (Same.refl H)
      · cases hx
        cases hy
        repeat walk_at "s"
        rw [decide_eq_false (fun h => by cases h)]
        refine iteF ?_
        repeat walk_at "s"
        refine ⟨z, rfl, ?_⟩
        repeat walk_at "s"
        rw [decide_eq_true rfl]
        exact q H (Same.refl H)
      · cases hx
        cases hy
        repeat walk_at "s"
        refine isi_nt ?_
        repeat walk_at "s"
        rw [decide_eq_true rfl]
        refine iteT ?_
        repeat walk_at "s"
        rw [decide_eq_true rfl]
        exact q H (Same.refl H)
      · cases hx with
        | @tup xa xvs _ hxa hxs =>
        cases hy with
        | @tup ya yvs _ hya hys =>
        have lx := hxs.length
        have ly := hys.length
        repeat walk_at "s"
        refine iteF ?_
        repeat walk_at "s"
        rw [show (!decide ((xvs.length : Int) = (yvs.length : Int))) = false by rw [lx, ly, decide_eq_true rfl]; rfl]
        refine iteF ?_
        have hys5 : yvs.length ≤ 500 := by rw [ly]; exact hl
        repeat walk_at "s"
        intro D hD
        refine lc_range (lo := 0) (n := ((yvs.length : Int)).toNat) (fun i H2 => H2 D = some (.lst ((List.replicate i true).map V.bl)) ∧ Same H H2) ⟨upd_same, sm_new hD⟩ ?_ ?_
        · rintro i H2 hi ⟨e2, s2⟩
          have hiy : i < ds.length := by omega
          obtain ⟨x, y, e, hx1, hy1, he, hx3, hy3⟩ := DsAt.both hxs hys hiy
          repeat walk_at "s"
          refine w_ixT (SqT.of (s2 _ _ hxa)) (by rw [show (0 : Int) + (i : Int) = (i : Int) by omega]; exact atI_nat hx1) ?_
          repeat walk_at "s"
          refine w_ixT (SqT.of (s2 _ _ hya)) (by rw [show (0 : Int) + (i : Int) = (i : Int) by omega]; exact atI_nat hy1) ?_
          refine ⟨x, y, rfl, .inr (.inr ⟨e, hx3.mono (Tk.same s2), hy3.mono (Tk.same s2), ha e (List.mem_of_getElem? he), fun H3 s3 => ?_⟩)⟩
          refine ⟨_, s3 _ _ e2, ?_, ?_, fun b o h => ?_⟩
          · rw [List.length_map, List.length_replicate]; exact big99 (by omega)
          · rw [upd_same, List.replicate_succ', List.map_append]; rfl
          · rw [upd_ne (ne_of_none h hD)]; exact s3 _ _ (s2 _ _ h)
        · rintro H2 ⟨e2, s2⟩
          repeat walk_at "s"
          refine ⟨D, _, rfl, SqL.of e2, ?_⟩
          rw [show ((List.replicate ((yvs.length : Int)).toNat true).all id) = true by rw [List.all_eq_true]; intro b hb; exact (List.mem_replicate.mp hb).2]
          exact q H2 s2
theorem ok_law_same (T : Top K mg) : ∀ n : Nat, FnOk P w K mg base CX0 (n + 2) T.f_law_same T.d_law_same ["actual", "expected"] (sp_same n)
  | 0 => same_step T 0 0 spNo (T.F_law_same.ok sc_law_same (fun _ _ _ _ h => h.elim) (fun _ _ _ _ _ _ _ _ _ h => h.elim)) (fun _ h => by cases h)
  | n + 1 => same_step T (n + 1) (n + 1) (sp_same n) (ok_law_same T n) (fun m h => by cases h; rfl)
end
/-! ### a tunnel -/
structure TS where
  win : Int
  n1 : Str
  n2 : Str
  ls : List (Int × Int × Str)
  ep : Int
  snt : Int
  nw : Int
  c0 : List Int
  c1 : List Int
  t0 : Int
  t1 : Int
  rc : List Int
structure TD where
  p : Addr
  dx : Addr
  lt : Addr
  cs : Addr
  d0 : Addr
  d1 : Addr
  ts : Addr
  rv : Addr
def tfs (a : TD) (S : TS) : List (Str × V) := [("window", .int S.win), ("first", .str S.n1), ("second", .str S.n2), ("_letters", .ref a.lt), ("_epoch", .int S.ep), ("_sent", .int S.snt), ("_newest", .int S.nw), ("_counts", .ref a.cs), ("_tops", .ref a.ts), ("_received", .ref a.rv)]
def ld (x : Int × Int × Str) : PyData := .tuple [.int x.1, .int x.2.1, .str x.2.2]
theorem ld_at {H : Hp} {v : V} {x : Int × Int × Str} (h : DAt H v (ld x)) : ∃ q, v = .ref q ∧ H q = some (.tup [.int x.1, .int x.2.1, .str x.2.2]) := by
  unfold ld at h
  cases h with
  | @tup q vs _ hq hs =>
    cases hs with
    | cons h1 hs => cases h1; cases hs with
      | cons h2 hs => cases h2; cases hs with
        | cons h3 hs => cases h3; cases hs; exact ⟨q, rfl, hq⟩
theorem ld_get {H : Hp} {us : List V} {ls : List (Int × Int × Str)} {n : Nat} {x : Int × Int × Str} (d : DsAt H us (ls.map ld)) (hn : ls[n]? = some x) : ∃ q, us[n]? = some (.ref q) ∧ H q = some (.tup [.int x.1, .int x.2.1, .str x.2.2]) := by
  have l := d.length
  rw [List.length_map] at l
  have hnl := (List.getElem?_eq_some_iff.mp hn).1
  obtain ⟨e, h1, h2⟩ := d.get (List.getElem?_eq_getElem (show n < us.length by omega))
  rw [List.getElem?_map, hn] at h1
  cases h1
  obtain ⟨q, h3, h4⟩ := ld_at h2
  exact ⟨q, by rw [List.getElem?_eq_getElem (show n < us.length by omega), h3], h4⟩
def kz (c : List Int) : List (L2.Key × V) := c.map fun n => (Sum.inl n, .bl true)
theorem kz_val (c : List Int) (n : Int) : (valV (kz c) (Sum.inl n)).isSome = decide (n ∈ c) := by
  unfold kz valV
  induction c with
  | nil => rfl
  | cons m r ih =>
    rw [List.map_cons, List.find?_cons]
    by_cases h : m = n
    · subst h
      simp
    · rw [show (decide ((Sum.inl m : L2.Key) = Sum.inl n)) = false from decide_eq_false (fun e => h (Sum.inl.inj e))]
      simp only []
      rw [ih]
      simp [Ne.symm h]
theorem kz_put (c : List Int) (n : Int) (h : n ∉ c) : putK (kz c) (Sum.inl n) (.bl true) = kz (c ++ [n]) := by
  have e : ((kz c).any fun kv => decide (kv.1 = Sum.inl n)) = false := by
    rw [List.any_eq_false]
    intro kv hkv
    obtain ⟨m, hm, rfl⟩ := List.mem_map.mp hkv
    intro q
    exact h ((Sum.inl.inj (of_decide_eq_true q)) ▸ hm)
  unfold putK
  rw [e, if_neg (by decide)]
  unfold kz
  rw [List.map_append]
  rfl
structure Tun (C : Addr) (a : TD) (H : Hp) (S : TS) : Prop where
  ins : H a.p = some (.ins C a.dx (tfs a S))
  lt : ∃ us, H a.lt = some (.lst us) ∧ DsAt H us (S.ls.map ld)
  cs : H a.cs = some (.tup [.ref a.d0, .ref a.d1])
  e0 : H a.d0 = some (.dK (kz S.c0))
  e1 : H a.d1 = some (.dK (kz S.c1))
  ts : H a.ts = some (.tup [.int S.t0, .int S.t1])
  rv : H a.rv = some (.lst (inz S.rc))
  nd : a.d0 ≠ a.d1
  nl : a.lt ≠ a.rv
def ft (a : TD) : List Addr := [a.p, a.lt, a.d0, a.d1, a.rv]
def Frm (F : List Addr) (H H' : Hp) : Prop := ∀ x o, H x = some o → x ∉ F → H' x = some o
def Own (F : List Addr) (H : Hp) (F' : List Addr) : Prop := ∀ x ∈ F', x ∈ F ∨ H x = none
theorem Frm.same {F : List Addr} {H H' : Hp} (s : Same H H') : Frm F H H' := fun x o h _ => s x o h
theorem Frm.trans {F F' : List Addr} {H H1 H2 : Hp} (a : Frm F H H1) (b : Frm F' H1 H2) (o : Own F H F') : Frm F H H2 := fun x u h n => b x u (a x u h n) fun hx => (o x hx).elim n (fun e => by rw [h] at e; cases e)
theorem Own.refl (F : List Addr) (H : Hp) : Own F H F := fun x h => .inl h
theorem Own.trans {F F1 F2 : List Addr} {H H1 : Hp} (a : Own F H F1) (f : Frm F H H1) (b : Own F1 H1 F2) : Own F H F2 := fun x hx => by
  rcases b x hx with h | h
  · exact a x h
  · by_cases hF : x ∈ F
    · exact .inl hF
    · refine .inr ?_
      cases e : H x with
      | none => rfl
      | some o => rw [f x o e hF] at h; cases h
section
variable {C : Addr} {a b : TD} {H H' : Hp} {S : TS} {F : List Addr}
theorem Tun.notup (T : Tun C a H S) : ∀ x ∈ ft a, ∀ vs, H x ≠ some (.tup vs) := by
  obtain ⟨us, h, _⟩ := T.lt
  intro x hx vs e
  simp only [ft, List.mem_cons, List.not_mem_nil, or_false] at hx
  rcases hx with rfl | rfl | rfl | rfl | rfl
  · rw [T.ins] at e; cases e
  · rw [h] at e; cases e
  · rw [T.e0] at e; cases e
  · rw [T.e1] at e; cases e
  · rw [T.rv] at e; cases e
theorem Tun.there (T : Tun C a H S) : ∀ x ∈ ft a, H x ≠ none := by
  obtain ⟨us, h, _⟩ := T.lt
  intro x hx e
  simp only [ft, List.mem_cons, List.not_mem_nil, or_false] at hx
  rcases hx with rfl | rfl | rfl | rfl | rfl
  · rw [T.ins] at e; cases e
  · rw [h] at e; cases e
  · rw [T.e0] at e; cases e
  · rw [T.e1] at e; cases e
  · rw [T.rv] at e; cases e
theorem Tun.frame (T : Tun C b H S) (f : Frm F H H') (dj : ∀ x ∈ ft b, x ∉ F) (nt : ∀ x ∈ F, ∀ vs, H x ≠ some (.tup vs)) : Tun C b H' S := by
  obtain ⟨us, h, d⟩ := T.lt
  have tk : Tk H H' := fun x vs hx => f x _ hx fun hF => nt x hF vs hx
  have go : ∀ x ∈ ft b, ∀ o, H x = some o → H' x = some o := fun x hx o e => f x o e (dj x hx)
  exact ⟨go _ (by simp [ft]) _ T.ins, ⟨us, go _ (by simp [ft]) _ h, d.mono tk⟩, tk _ _ T.cs, go _ (by simp [ft]) _ T.e0, go _ (by simp [ft]) _ T.e1, tk _ _ T.ts, go _ (by simp [ft]) _ T.rv, T.nd, T.nl⟩
theorem Tun.same (T : Tun C b H S) (s : Same H H') : Tun C b H' S := T.frame (F := []) (Frm.same s) (fun _ _ h => by cases h) (fun _ h => by cases h)
theorem Tun.pl (T : Tun C a H S) : a.p ≠ a.lt ∧ a.p ≠ a.d0 ∧ a.p ≠ a.d1 ∧ a.p ≠ a.rv ∧ a.lt ≠ a.d0 ∧ a.lt ≠ a.d1 ∧ a.rv ≠ a.d0 ∧ a.rv ≠ a.d1 := by
  obtain ⟨us, h, _⟩ := T.lt
  exact ⟨ne_of T.ins h (by intro z; cases z), ne_of T.ins T.e0 (by intro z; cases z), ne_of T.ins T.e1 (by intro z; cases z), ne_of T.ins T.rv (by intro z; cases z), ne_of h T.e0 (by intro z; cases z), ne_of h T.e1 (by intro z; cases z), ne_of T.rv T.e0 (by intro z; cases z), ne_of T.rv T.e1 (by intro z; cases z)⟩
end
theorem Tun.ui {C : Addr} {a : TD} {H : Hp} {S S' : TS} (U : Tun C a H S) (h1 : S'.ls = S.ls) (h2 : S'.c0 = S.c0) (h3 : S'.c1 = S.c1) (h4 : S'.t0 = S.t0) (h5 : S'.t1 = S.t1) (h6 : S'.rc = S.rc) : Tun C a (upd H a.p (.ins C a.dx (tfs a S'))) S' := by
  obtain ⟨us, hus, dus⟩ := U.lt
  obtain ⟨p1, p2, p3, p4, _⟩ := U.pl
  have tk : Tk H (upd H a.p (.ins C a.dx (tfs a S'))) := Tk.upd fun vs e => by rw [U.ins] at e; cases e
  refine ⟨upd_same, ⟨us, by rw [upd_ne p1.symm]; exact hus, by rw [h1]; exact dus.mono tk⟩, tk _ _ U.cs, ?_, ?_, ?_, ?_, U.nd, U.nl⟩
  · rw [upd_ne p2.symm, h2]; exact U.e0
  · rw [upd_ne p3.symm, h3]; exact U.e1
  · rw [h4, h5]; exact tk _ _ U.ts
  · rw [upd_ne p4.symm, h6]; exact U.rv
theorem frm_p {a : TD} {H H' : Hp} {o : HO} (f : Frm (ft a) H H') : Frm (ft a) H (upd H' a.p o) := fun x u h n => by
  rw [upd_ne (fun e => n (by rw [e]; simp [ft]))]
  exact f x u h n
def S0 (win : Int) (z1 z2 : Str) : TS := ⟨win, z1, z2, [], 0, 0, 0, [], [], -1, -1, []⟩
def renew (S : TS) (e : Int) : TS := if e = S.nw + 1 then { S with c0 := [], c1 := S.c0, t0 := -1, t1 := S.t0, nw := e } else { S with c0 := [], c1 := [], t0 := -1, t1 := -1, nw := e }
def jdg (S : TS) (back : Nat) (n : Nat) (c : Int) : Str × TS :=
  if back = 0 then
    if c ≤ S.t0 - S.win then ("late", S) else if c ∈ S.c0 then ("again", S) else ("taken", { S with c0 := S.c0 ++ [c], t0 := if c > S.t0 then c else S.t0, rc := S.rc ++ [(n : Int)] })
  else
    if c ≤ S.t1 - S.win then ("late", S) else if c ∈ S.c1 then ("again", S) else ("taken", { S with c1 := S.c1 ++ [c], t1 := if c > S.t1 then c else S.t1, rc := S.rc ++ [(n : Int)] })
def dlv (S : TS) (n : Nat) (e c : Int) : Str × TS :=
  if e < S.nw - 1 then ("old", S) else if e > S.nw then jdg (renew S e) 0 n c else jdg S (S.nw - e).toNat n c
section
variable {σ : L2.St} {H : Hp} {K : PySem.W.Frag}
theorem w_dgoI {b : Addr} {kvs : List (L2.Key × V)} {z : Int} {o : Option V} {R : Option V → Prop} (h : H b = some (.dK kvs)) (e : valV kvs (Sum.inl z) = o) (q : R o) : ∃ a o, V.ref b = .ref a ∧ DGet H a (.int z) o ∧ R o := ⟨b, o, rfl, e ▸ DGet.k (k := Sum.inl z) h, q⟩
theorem w_dpI {b : Addr} {kvs : List (L2.Key × V)} {z : Int} {v : V} {R : Hp → Prop} (h : H b = some (.dK kvs)) (n : kvs.length < sizeLine) (q : R (upd H b (.dK (putK kvs (Sum.inl z) v)))) : ∃ a H4, V.ref b = .ref a ∧ DPut H a (.int z) v H4 ∧ R H4 := ⟨b, _, rfl, DPut.k (k := Sum.inl z) h n, q⟩
theorem w_faug {ta tv : TE} {rd : V → V → Hp → VK → Prop} {f : Str} {D : Ends} (q : ta σ H fun x H1 => ∃ a C dx fs v, x = .ref a ∧ H1 a = some (.ins C dx fs) ∧ Cls K C ∧ NoAttr K C f ∧ fs.lookup f = some v ∧
  tv σ H1 fun y H2 => rd v y H2 fun z H3 => ∃ dx' fs', H3 a = some (.ins C dx' fs') ∧ fs'.length < 1000 ∧ D.nx σ (upd H3 a (.ins C dx' (putF f z fs')))) : sFldAug K ta tv rd f D σ H := q
end
theorem tf1 (a : TD) (S : TS) : (tfs a S).lookup ("window" : Str) = some (.int S.win) := by rfl
theorem tf4 (a : TD) (S : TS) : (tfs a S).lookup ("_letters" : Str) = some (.ref a.lt) := by rfl
theorem tf5 (a : TD) (S : TS) : (tfs a S).lookup ("_epoch" : Str) = some (.int S.ep) := by rfl
theorem tf6 (a : TD) (S : TS) : (tfs a S).lookup ("_sent" : Str) = some (.int S.snt) := by rfl
theorem tf7 (a : TD) (S : TS) : (tfs a S).lookup ("_newest" : Str) = some (.int S.nw) := by rfl
theorem tf8 (a : TD) (S : TS) : (tfs a S).lookup ("_counts" : Str) = some (.ref a.cs) := by rfl
theorem tf9 (a : TD) (S : TS) : (tfs a S).lookup ("_tops" : Str) = some (.ref a.ts) := by rfl
theorem tf10 (a : TD) (S : TS) : (tfs a S).lookup ("_received" : Str) = some (.ref a.rv) := by rfl
theorem tn1 (a : TD) (S : TS) : (tfs a S).lookup ("letter" : Str) = none := by rfl
theorem tn2 (a : TD) (S : TS) : (tfs a S).lookup ("_renew" : Str) = none := by rfl
theorem tn3 (a : TD) (S : TS) : (tfs a S).lookup ("_judged" : Str) = none := by rfl
theorem tn4 (a : TD) (S : TS) : (tfs a S).lookup ("send" : Str) = none := by rfl
theorem tn5 (a : TD) (S : TS) : (tfs a S).lookup ("rekey" : Str) = none := by rfl
theorem tn6 (a : TD) (S : TS) : (tfs a S).lookup ("deliver" : Str) = none := by rfl
theorem tfs_len (a : TD) (S : TS) : (tfs a S).length < 1000 := by show 10 < 1000; decide
/-! ### names, again -/
def sp_init (C : Addr) : Sp := fun vs H Q _ => ∃ (p dx : Addr) (win : Int) (z1 z2 : Str), vs = [.ref p, .int win, .str z1, .str z2] ∧ H p = some (.ins C dx []) ∧ 1 ≤ win ∧ win ≤ 64 ∧ Nm z1 ∧ Nm z2 ∧ z1 ≠ z2 ∧ ∀ (a : TD) (H' : Hp), a.p = p → (∀ x o, H x = some o → x ≠ p → H' x = some o) → (∀ x ∈ ft a, x = p ∨ H x = none) → Tun C a H' (S0 win z1 z2) → Q .non H'
def sp_send (C : Addr) : Sp := fun vs H Q _ => ∃ (a : TD) (S : TS) (z : Str), vs = [.ref a.p, .str z] ∧ Tun C a H S ∧ Nm z ∧ S.ls.length < 1000 ∧ ∀ H', Frm (ft a) H H' → Tun C a H' { S with ls := S.ls ++ [(S.ep, S.snt, z)], snt := S.snt + 1 } → Q (.int S.ls.length) H'
def sp_rekey (C : Addr) : Sp := fun vs H Q _ => ∃ (a : TD) (S : TS), vs = [.ref a.p] ∧ Tun C a H S ∧ S.ep ≠ 12 ∧ ∀ H', Frm (ft a) H H' → Tun C a H' { S with ep := S.ep + 1, snt := 0 } → Q .non H'
def sp_letter (C : Addr) : Sp := fun vs H Q _ => ∃ (a : TD) (S : TS) (n : Nat) (x : Int × Int × Str), vs = [.ref a.p, .int (n : Int)] ∧ Tun C a H S ∧ S.ls[n]? = some x ∧ ∀ q, H q = some (.tup [.int x.1, .int x.2.1, .str x.2.2]) → Q (.ref q) H
def sp_renew (C : Addr) : Sp := fun vs H Q _ => ∃ (a : TD) (S : TS) (e : Int), vs = [.ref a.p, .int e] ∧ Tun C a H S ∧ ∀ (a' : TD) (H' : Hp), a'.p = a.p → Frm (ft a) H H' → Own (ft a) H (ft a') → Tun C a' H' (renew S e) → Q .non H'
def sp_judged (C : Addr) : Sp := fun vs H Q _ => ∃ (a : TD) (S : TS) (back n : Nat) (c : Int), vs = [.ref a.p, .int (back : Int), .int (n : Int), .int c] ∧ Tun C a H S ∧ back ≤ 1 ∧ S.c0.length < 1000 ∧ S.c1.length < 1000 ∧ S.rc.length < 1000 ∧ ∀ (a' : TD) (H' : Hp), a'.p = a.p → Frm (ft a) H H' → Own (ft a) H (ft a') → Tun C a' H' (jdg S back n c).2 → Q (.str (jdg S back n c).1) H'
def sp_deliver (C : Addr) : Sp := fun vs H Q _ => ∃ (a : TD) (S : TS) (n : Nat) (x : Int × Int × Str), vs = [.ref a.p, .int (n : Int)] ∧ Tun C a H S ∧ S.ls[n]? = some x ∧ S.c0.length < 1000 ∧ S.c1.length < 1000 ∧ S.rc.length < 1000 ∧ ∀ (a' : TD) (H' : Hp), a'.p = a.p → Frm (ft a) H H' → Own (ft a) H (ft a') → Tun C a' H' (dlv S n x.1 x.2.1).2 → Q (.str (dlv S n x.1 x.2.1).1) H'
section
variable {P : Program} {w : World} {K : PySem.W.Frag} {mg : Str → Option Value} {base : Heap}
theorem okTunnel_letter (T : Top K mg) : FnOk P w K mg base CX0 1 T.fTunnel_letter T.dTunnel_letter ["self", "number"] (sp_letter T.C_Tunnel) := by
  refine T.FTunnel_letter.ok scTunnel_letter (fun vs H Q E h => ?_) (fun cdv A outer s H vs Q E hr h => ?_)
  · obtain ⟨a, S, n, x, rfl, _⟩ := h
    rfl
  · obtain ⟨a, S, n, x, rfl, U, hn, q⟩ := h
    refine ⟨_, (pss_cons (ps_if (pt_not (pt_chain op_le op_lt pe_int (pv 1) (pe_callB call_len_seq (by rfl) T.z_len (by decide +kernel) (pa_cons (pe_fld (pv 0) rfl) pa_nil))))
    (pss_one ps_no)
    pss_nil)
    (pss_one (ps_ret (pe_ix ix_list (pe_fld (pv 0) rfl) (pv 1) (fun _ _ => rfl))))), ?_⟩
    obtain ⟨us, hus, dus⟩ := U.lt
    have lus := dus.length
    rw [List.length_map] at lus
    have hnl := (List.getElem?_eq_some_iff.mp hn).1
    repeat walk_at "s"
    refine ite2 (fun h => ?_) (fun h => absurd (decide_eq_true (by omega)) h)
    repeat walk_at "s"
    refine w_fldA U.ins T.cl_Tunnel T.n_Tunnel__letters (tf4 a S) ?_
    repeat walk_at "s"
    rw [decide_eq_true (show (n : Int) < (us.length : Int) by omega)]
    refine iteF ?_
    repeat walk_at "s"
    refine w_fldA U.ins T.cl_Tunnel T.n_Tunnel__letters (tf4 a S) ?_
    obtain ⟨v, hv, hq⟩ := ld_get dus hn
    repeat walk_at "s"
    refine w_ixL (SqL.of hus) (atI_nat hv) ?_
    exact q v hq
theorem okTunnel_send (T : Top K mg) : FnOk P w K mg base CX0 3 T.fTunnel_send T.dTunnel_send ["self", "payload"] (sp_send T.C_Tunnel) := by
  refine T.FTunnel_send.ok scTunnel_send (fun vs H Q E h => ?_) (fun cdv A outer s H vs Q E hr h => ?_)
  · obtain ⟨a, S, z, rfl, _⟩ := h
    rfl
  · obtain ⟨a, S, z, rfl, U, hz, hl, q⟩ := h
    refine ⟨_, (pss_cons (ps_if (pt_not (pt_val (pe_call (okis_name T) hr (by rfl) T.gis_name T.Fis_name.kp T.bis_name .nil pass0 (pa_cons (pv 1) pa_nil))))
    (pss_one ps_no)
    pss_nil)
    (pss_cons (ps_expr (pe_bm PySem.F.plainAttrs_list PySem.F.slot_list_append PySem.F.type_list_append mt_append (pe_fld (pv 0) rfl) (pa_cons (pe_tup (pa_cons (pe_fld (pv 0) rfl) (pa_cons (pe_fld (pv 0) rfl) (pa_cons (pv 1) pa_nil)))) pa_nil)))
     (pss_cons (ps_fldaug (pv 0) pe_int in_add)
      (pss_one (ps_ret (pe_op op_sub (pe_callB call_len_seq (by rfl) T.z_len (by decide +kernel) (pa_cons (pe_fld (pv 0) rfl) pa_nil)) pe_int)))))), ?_⟩
    repeat walk_at "s"
    refine ⟨z, rfl, hz, fun H1 s1 => ?_⟩
    repeat walk_at "s"
    refine iteF ?_
    have U1 := U.same s1
    obtain ⟨us, hus, dus⟩ := U1.lt
    have lus := dus.length
    rw [List.length_map] at lus
    repeat walk_at "s"
    refine w_fldA U1.ins T.cl_Tunnel T.n_Tunnel__letters (tf4 a S) ?_
    refine w_tyl hus ?_
    repeat walk_at "s"
    refine w_fldA U1.ins T.cl_Tunnel T.n_Tunnel__epoch (tf5 a S) ?_
    repeat walk_at "s"
    refine w_fldA U1.ins T.cl_Tunnel T.n_Tunnel__sent (tf6 a S) ?_
    repeat walk_at "s"
    refine ⟨by walk_at "len", fun p hp => ?_⟩
    have s2 := sm_new (o := .tup [.int S.ep, .int S.snt, .str z]) hp
    have e2 := upd_self2 hp (.tup [.int S.ep, .int S.snt, .str z])
    generalize upd H1 p (.tup [.int S.ep, .int S.snt, .str z]) = H2 at s2 e2 ⊢
    have U2 := U1.same s2
    repeat walk_at "s"
    refine w_append (s2 _ _ hus) (big99 (by omega)) ?_
    have npl := U.pl
    have tk3 : Tk H2 (upd H2 a.lt (.lst (us ++ [.ref p]))) := Tk.lst (s2 _ _ hus)
    have f3 : Frm (ft a) H (upd H2 a.lt (.lst (us ++ [.ref p]))) := fun x o h n => by
      rw [upd_ne (fun e => n (by rw [e]; simp [ft]))]
      exact s2 _ _ (s1 _ _ h)
    have d3 : DsAt (upd H2 a.lt (.lst (us ++ [.ref p]))) (us ++ [.ref p]) ((S.ls ++ [(S.ep, S.snt, z)]).map ld) := by
      rw [List.map_append]
      exact ((dus.mono (Tk.same s2)).mono tk3).app (.cons (.tup (tk3 _ _ e2) (.cons (.int _) (.cons (.int _) (.cons (.str _) .nil)))) .nil)
    have U3 : Tun T.C_Tunnel a (upd H2 a.lt (.lst (us ++ [.ref p]))) { S with ls := S.ls ++ [(S.ep, S.snt, z)] } := by
      obtain ⟨p1, p2, p3, p4, p5, p6, p7, p8⟩ := npl
      exact ⟨by rw [upd_ne p1]; exact U2.ins, ⟨_, upd_same, d3⟩, tk3 _ _ U2.cs, by rw [upd_ne p5.symm]; exact U2.e0, by rw [upd_ne p6.symm]; exact U2.e1, tk3 _ _ U2.ts, by rw [upd_ne U2.nl.symm]; exact U2.rv, U2.nd, U2.nl⟩
    generalize upd H2 a.lt (.lst (us ++ [.ref p])) = H3 at f3 U3 ⊢
    repeat walk_at "s"
    refine w_faug ?_
    repeat walk_at "s"
    refine ⟨a.p, _, _, _, _, rfl, U3.ins, T.cl_Tunnel, T.n_Tunnel__sent, tf6 a _, ?_⟩
    repeat walk_at "s"
    refine ⟨_, _, rfl, rfl, _, _, U3.ins, tfs_len a _, ?_⟩
    have U4 := U3.ui (S' := { S with ls := S.ls ++ [(S.ep, S.snt, z)], snt := S.snt + 1 }) rfl rfl rfl rfl rfl rfl
    have f4 := frm_p (o := .ins T.C_Tunnel a.dx (tfs a { S with ls := S.ls ++ [(S.ep, S.snt, z)], snt := S.snt + 1 })) f3
    have ep : putF (Str.ofString "_sent") (V.int (S.snt + 1)) (tfs a { S with ls := S.ls ++ [(S.ep, S.snt, z)] }) = tfs a { S with ls := S.ls ++ [(S.ep, S.snt, z)], snt := S.snt + 1 } := rfl
    rw [ep]
    generalize upd H3 a.p (.ins T.C_Tunnel a.dx (tfs a { S with ls := S.ls ++ [(S.ep, S.snt, z)], snt := S.snt + 1 })) = H4 at U4 f4 ⊢
    obtain ⟨us4, hus4, dus4⟩ := U4.lt
    have lus4 : (us4.length : Int) = (S.ls.length : Int) + 1 := by
      have := dus4.length
      rw [List.length_map] at this
      have e : (S.ls ++ [(S.ep, S.snt, z)]).length = S.ls.length + 1 := by rw [List.length_append]; rfl
      have : us4.length = (S.ls ++ [(S.ep, S.snt, z)]).length := this
      omega
    repeat walk_at "s"
    refine w_fldA U4.ins T.cl_Tunnel T.n_Tunnel__letters (tf4 a _) ?_
    repeat walk_at "s"
    rw [lus4, Int.add_sub_cancel]
    exact q H4 f4 U4
theorem okTunnel_rekey (T : Top K mg) : FnOk P w K mg base CX0 1 T.fTunnel_rekey T.dTunnel_rekey ["self"] (sp_rekey T.C_Tunnel) := by
  refine T.FTunnel_rekey.ok scTunnel_rekey (fun vs H Q E h => ?_) (fun cdv A outer s H vs Q E hr h => ?_)
  · obtain ⟨a, S, rfl, _⟩ := h
    rfl
  · obtain ⟨a, S, rfl, U, he, q⟩ := h
    refine ⟨_, (pss_cons (ps_if (pt_cmpR op_eq (pe_fld (pv 0) rfl) (pe_glob (v := .int 12) (by rfl) T.c_LAST_EPOCH ⟨_, rfl⟩) (nomark _))
    (pss_one ps_no)
    pss_nil)
    (pss_cons (ps_fldaug (pv 0) pe_int in_add)
     (pss_one (ps_fld (pv 0) pe_int rfl)))), ?_⟩
    repeat walk_at "s"
    refine w_fldA U.ins T.cl_Tunnel T.n_Tunnel__epoch (tf5 a S) ?_
    repeat walk_at "s"
    rw [decide_eq_false he]
    refine iteF ?_
    repeat walk_at "s"
    refine w_faug ?_
    repeat walk_at "s"
    refine ⟨a.p, _, _, _, _, rfl, U.ins, T.cl_Tunnel, T.n_Tunnel__epoch, tf5 a S, ?_⟩
    repeat walk_at "s"
    refine ⟨_, _, rfl, rfl, _, _, U.ins, tfs_len a S, ?_⟩
    have U4 := U.ui (S' := { S with ep := S.ep + 1 }) rfl rfl rfl rfl rfl rfl
    have f4 := frm_p (a := a) (o := .ins T.C_Tunnel a.dx (tfs a { S with ep := S.ep + 1 })) (Frm.same (Same.refl H))
    have ep : putF (Str.ofString "_epoch") (V.int (S.ep + 1)) (tfs a S) = tfs a { S with ep := S.ep + 1 } := rfl
    rw [ep]
    generalize upd H a.p (.ins T.C_Tunnel a.dx (tfs a { S with ep := S.ep + 1 })) = H4 at U4 f4 ⊢
    repeat walk_at "s"
    refine ⟨a.p, _, _, _, rfl, U4.ins, T.cl_Tunnel, T.n_Tunnel__sent, tfs_len a _, ?_⟩
    exact q _ (frm_p f4) (U4.ui (S' := { S with ep := S.ep + 1, snt := 0 }) rfl rfl rfl rfl rfl rfl)
end
/-! ### a tunnel is made; letters are delivered -/
section
variable {C : Addr} {a : TD} {H : Hp} {S : TS} {c : Int}
theorem Tun.put0 (U : Tun C a H S) : Tun C a (upd H a.d0 (.dK (kz (S.c0 ++ [c])))) { S with c0 := S.c0 ++ [c] } := by
  obtain ⟨us, hus, dus⟩ := U.lt
  obtain ⟨p1, p2, p3, p4, p5, p6, p7, p8⟩ := U.pl
  have tk : ∀ o, Tk H (upd H a.d0 o) := fun o => Tk.upd fun vs e => by rw [U.e0] at e; cases e
  exact ⟨by rw [upd_ne p2]; exact U.ins, ⟨us, by rw [upd_ne p5]; exact hus, dus.mono (tk _)⟩, tk _ _ _ U.cs, upd_same, by rw [upd_ne U.nd.symm]; exact U.e1, tk _ _ _ U.ts, by rw [upd_ne p7]; exact U.rv, U.nd, U.nl⟩
theorem Tun.put1 (U : Tun C a H S) : Tun C a (upd H a.d1 (.dK (kz (S.c1 ++ [c])))) { S with c1 := S.c1 ++ [c] } := by
  obtain ⟨us, hus, dus⟩ := U.lt
  obtain ⟨p1, p2, p3, p4, p5, p6, p7, p8⟩ := U.pl
  have tk : ∀ o, Tk H (upd H a.d1 o) := fun o => Tk.upd fun vs e => by rw [U.e1] at e; cases e
  exact ⟨by rw [upd_ne p3]; exact U.ins, ⟨us, by rw [upd_ne p6]; exact hus, dus.mono (tk _)⟩, tk _ _ _ U.cs, by rw [upd_ne U.nd]; exact U.e0, upd_same, tk _ _ _ U.ts, by rw [upd_ne p8]; exact U.rv, U.nd, U.nl⟩
theorem Tun.tops (U : Tun C a H S) {q : Addr} {x y : Int} (hq : H q = none) : Tun C { a with ts := q } (upd (upd H q (.tup [.int x, .int y])) a.p (.ins C a.dx (tfs { a with ts := q } { S with t0 := x, t1 := y }))) { S with t0 := x, t1 := y } := by
  have U1 : Tun C a (upd H q (.tup [.int x, .int y])) S := U.same (sm_new hq)
  obtain ⟨us, hus, dus⟩ := U1.lt
  obtain ⟨p1, p2, p3, p4, p5, p6, p7, p8⟩ := U1.pl
  have tk : ∀ o, Tk (upd H q (.tup [.int x, .int y])) (upd (upd H q (.tup [.int x, .int y])) a.p o) := fun o => Tk.upd fun vs e => by rw [U1.ins] at e; cases e
  exact ⟨upd_same, ⟨us, by rw [upd_ne p1.symm]; exact hus, dus.mono (tk _)⟩, tk _ _ _ U1.cs, by rw [upd_ne p2.symm]; exact U1.e0, by rw [upd_ne p3.symm]; exact U1.e1, tk _ _ _ upd_same, by rw [upd_ne p4.symm]; exact U1.rv, U.nd, U.nl⟩
theorem Tun.recd (U : Tun C a H S) {n : Int} : Tun C a (upd H a.rv (.lst (inz (S.rc ++ [n])))) { S with rc := S.rc ++ [n] } := by
  obtain ⟨us, hus, dus⟩ := U.lt
  obtain ⟨p1, p2, p3, p4, p5, p6, p7, p8⟩ := U.pl
  have tk : ∀ o, Tk H (upd H a.rv o) := fun o => Tk.lst U.rv
  exact ⟨by rw [upd_ne p4]; exact U.ins, ⟨us, by rw [upd_ne U.nl]; exact hus, dus.mono (tk _)⟩, tk _ _ _ U.cs, by rw [upd_ne p7.symm]; exact U.e0, by rw [upd_ne p8.symm]; exact U.e1, tk _ _ _ U.ts, upd_same, U.nd, U.nl⟩
theorem frm_in {H H' : Hp} {o : HO} {x : Addr} (f : Frm (ft a) H H') (hx : x ∈ ft a) : Frm (ft a) H (upd H' x o) := fun y u h n => by
  rw [upd_ne (fun e => n (by rw [e]; exact hx))]
  exact f y u h n
theorem frm_new {F : List Addr} {H H' : Hp} {o : HO} {x : Addr} (f : Frm F H H') (hx : H' x = none) : Frm F H (upd H' x o) := fun y u h n => by
  rw [upd_ne (ne_of_none (f y u h n) hx)]
  exact f y u h n
theorem w_tif {σ : L2.St} {H : Hp} {Q : VK} {c : TT} {ta tb : TE} (q : c σ H fun k H1 => if k = true then ta σ H1 Q else tb σ H1 Q) : tIf c ta tb σ H Q := q
theorem fld_step {K : PySem.W.Frag} {C p dx : Addr} {fs : List (Str × V)} {Hi : Hp} {f : Str} {v : V} {R : Hp → Prop} (ip : Hi p = some (.ins C dx fs)) (c : Cls K C) (n : NoAttr K C f) (l : fs.length < 1000) (q : ∀ Hj : Hp, Hj p = some (.ins C dx (putF f v fs)) → (∀ x, x ≠ p → Hj x = Hi x) → R Hj) : ∃ a C dx fs, V.ref p = .ref a ∧ Hi a = some (.ins C dx fs) ∧ Cls K C ∧ NoAttr K C f ∧ fs.length < 1000 ∧ R (upd Hi a (.ins C dx (putF f v fs))) := ⟨p, C, dx, fs, rfl, ip, c, n, l, q _ upd_same (fun x h => upd_ne h)⟩
theorem renew_nw (S : TS) (e : Int) : (renew S e).nw = e := by unfold renew; split <;> rfl
theorem renew_rc (S : TS) (e : Int) : (renew S e).rc = S.rc := by unfold renew; split <;> rfl
theorem renew_len (S : TS) (e : Int) (h0 : S.c0.length < 1000) : (renew S e).c0.length < 1000 ∧ (renew S e).c1.length < 1000 := by
  unfold renew
  split
  · exact ⟨by show 0 < 1000; decide, h0⟩
  · exact ⟨by show 0 < 1000; decide, by show 0 < 1000; decide⟩
end
section
variable {P : Program} {w : World} {K : PySem.W.Frag} {mg : Str → Option Value} {base : Heap}
theorem okTunnel___init__ (T : Top K mg) : FnOk P w K mg base CX0 3 T.fTunnel___init__ T.dTunnel___init__ ["self", "window", "first", "second"] (sp_init T.C_Tunnel) := by
  refine T.FTunnel___init__.ok scTunnel___init__ (fun vs H Q E h => ?_) (fun cdv A outer s H vs Q E hr h => ?_)
  · obtain ⟨p, dx, win, z1, z2, rfl, _⟩ := h
    rfl
  · obtain ⟨p, dx, win, z1, z2, rfl, hp, w1, w2, hz1, hz2, hne, q⟩ := h
    refine ⟨_, (pss_cons (ps_if (PW.pt (pw_or (pt_not (pt_chain op_le op_le pe_int (pv 1) (pe_glob (v := .int 64) (by rfl) T.c_WIDEST_WINDOW ⟨_, rfl⟩))) (pw_or (pt_cmpR op_eq (pv 2) (pv 3) (nomark _)) (pw_or (pt_not (pt_val (pe_call (okis_name T) hr (by rfl) T.gis_name T.Fis_name.kp T.bis_name .nil pass0 (pa_cons (pv 2) pa_nil)))) (pw_or1 (pt_not (pt_val (pe_call (okis_name T) hr (by rfl) T.gis_name T.Fis_name.kp T.bis_name .nil pass0 (pa_cons (pv 3) pa_nil)))))))))
    (pss_one ps_no)
    pss_nil)
    (pss_cons (ps_fld (pv 0) (pv 1) rfl)
     (pss_cons (ps_fld (pv 0) (pv 2) rfl)
      (pss_cons (ps_fld (pv 0) (pv 3) rfl)
       (pss_cons (ps_fld (pv 0) (pe_lst pa_nil) rfl)
        (pss_cons (ps_fld (pv 0) pe_int rfl)
         (pss_cons (ps_fld (pv 0) pe_int rfl)
          (pss_cons (ps_fld (pv 0) pe_int rfl)
           (pss_cons (ps_fld (pv 0) (pe_tup (pa_cons pe_dnewK (pa_cons pe_dnewK pa_nil))) rfl)
            (pss_cons (ps_fld (pv 0) (pe_tup (pa_cons (pe_un un_neg pe_int) (pa_cons (pe_un un_neg pe_int) pa_nil))) rfl)
             (pss_one (ps_fld (pv 0) (pe_lst pa_nil) rfl)))))))))))), ?_⟩
    have c := T.cl_Tunnel
    repeat walk_at "s"
    refine ite2 (fun h => ?_) (fun h => absurd (decide_eq_true w1) h)
    repeat walk_at "s"
    rw [decide_eq_true w2]
    refine iteF ?_
    repeat walk_at "s"
    rw [decide_eq_false hne]
    refine iteF ?_
    repeat walk_at "s"
    refine ⟨z1, rfl, hz1, fun H1 s1 => ?_⟩
    repeat walk_at "s"
    refine iteF ?_
    repeat walk_at "s"
    refine ⟨z2, rfl, hz2, fun H2 s2 => ?_⟩
    repeat walk_at "s"
    refine iteF ?_
    have hp2 := s2 _ _ (s1 _ _ hp)
    have s12 : ∀ x o, H x = some o → x ≠ p → H2 x = some o := fun x o h _ => s2 _ _ (s1 _ _ h)
    repeat walk_at "s"
    have r2 := s12
    have i2 := hp2
    refine fld_step i2 c T.n_Tunnel_window (by show 0 < 1000; decide) (fun H3 i3 k3 => ?_)
    have r3 : ∀ x o, H x = some o → x ≠ p → H3 x = some o := fun x o h n => (k3 x n).trans (r2 x o h n)
    repeat walk_at "s"
    refine fld_step i3 c T.n_Tunnel_first (by show 1 < 1000; decide) (fun H4 i4 k4 => ?_)
    have r4 : ∀ x o, H x = some o → x ≠ p → H4 x = some o := fun x o h n => (k4 x n).trans (r3 x o h n)
    repeat walk_at "s"
    refine fld_step i4 c T.n_Tunnel_second (by show 2 < 1000; decide) (fun H5 i5 k5 => ?_)
    have r5 : ∀ x o, H x = some o → x ≠ p → H5 x = some o := fun x o h n => (k5 x n).trans (r4 x o h n)
    repeat walk_at "s"
    refine ⟨by walk_at "len", fun lt h_lt => ?_⟩
    have np_lt : lt ≠ p := (ne_of_none i5 h_lt).symm
    have e6_lt : upd H5 lt (.lst []) lt = some (.lst []) := upd_same
    have k6 : ∀ y, y ≠ lt → upd H5 lt (.lst []) y = H5 y := fun y h => upd_ne h
    generalize upd H5 lt (.lst []) = H6 at e6_lt k6 ⊢
    have r6 : ∀ x o, H x = some o → x ≠ p → H6 x = some o := fun x o h n => (k6 x (ne_of_none (r5 x o h n) h_lt)).trans (r5 x o h n)
    have z_lt : H lt = none := (by cases ez : H lt with | none => rfl | some o => exact absurd (r5 _ o ez np_lt) (by rw [h_lt]; intro q; cases q))
    have i6 := (k6 _ np_lt.symm).trans i5
    repeat walk_at "s"
    refine fld_step i6 c T.n_Tunnel__letters (by show 3 < 1000; decide) (fun H7 i7 k7 => ?_)
    have r7 : ∀ x o, H x = some o → x ≠ p → H7 x = some o := fun x o h n => (k7 x n).trans (r6 x o h n)
    have e7_lt := (k7 _ np_lt).trans e6_lt
    repeat walk_at "s"
    refine fld_step i7 c T.n_Tunnel__epoch (by show 4 < 1000; decide) (fun H8 i8 k8 => ?_)
    have r8 : ∀ x o, H x = some o → x ≠ p → H8 x = some o := fun x o h n => (k8 x n).trans (r7 x o h n)
    have e8_lt := (k8 _ np_lt).trans e7_lt
    repeat walk_at "s"
    refine fld_step i8 c T.n_Tunnel__sent (by show 5 < 1000; decide) (fun H9 i9 k9 => ?_)
    have r9 : ∀ x o, H x = some o → x ≠ p → H9 x = some o := fun x o h n => (k9 x n).trans (r8 x o h n)
    have e9_lt := (k9 _ np_lt).trans e8_lt
    repeat walk_at "s"
    refine fld_step i9 c T.n_Tunnel__newest (by show 6 < 1000; decide) (fun H10 i10 k10 => ?_)
    have r10 : ∀ x o, H x = some o → x ≠ p → H10 x = some o := fun x o h n => (k10 x n).trans (r9 x o h n)
    have e10_lt := (k10 _ np_lt).trans e9_lt
    repeat walk_at "s"
    intro d0 h_d0
    have np_d0 : d0 ≠ p := (ne_of_none i10 h_d0).symm
    have n_lt_d0 : lt ≠ d0 := ne_of_none e10_lt h_d0
    have e11_d0 : upd H10 d0 (.dK []) d0 = some (.dK []) := upd_same
    have k11 : ∀ y, y ≠ d0 → upd H10 d0 (.dK []) y = H10 y := fun y h => upd_ne h
    generalize upd H10 d0 (.dK []) = H11 at e11_d0 k11 ⊢
    have r11 : ∀ x o, H x = some o → x ≠ p → H11 x = some o := fun x o h n => (k11 x (ne_of_none (r10 x o h n) h_d0)).trans (r10 x o h n)
    have z_d0 : H d0 = none := (by cases ez : H d0 with | none => rfl | some o => exact absurd (r10 _ o ez np_d0) (by rw [h_d0]; intro q; cases q))
    have i11 := (k11 _ np_d0.symm).trans i10
    have e11_lt := (k11 _ n_lt_d0).trans e10_lt
    repeat walk_at "s"
    intro d1 h_d1
    have np_d1 : d1 ≠ p := (ne_of_none i11 h_d1).symm
    have n_lt_d1 : lt ≠ d1 := ne_of_none e11_lt h_d1
    have n_d0_d1 : d0 ≠ d1 := ne_of_none e11_d0 h_d1
    have e12_d1 : upd H11 d1 (.dK []) d1 = some (.dK []) := upd_same
    have k12 : ∀ y, y ≠ d1 → upd H11 d1 (.dK []) y = H11 y := fun y h => upd_ne h
    generalize upd H11 d1 (.dK []) = H12 at e12_d1 k12 ⊢
    have r12 : ∀ x o, H x = some o → x ≠ p → H12 x = some o := fun x o h n => (k12 x (ne_of_none (r11 x o h n) h_d1)).trans (r11 x o h n)
    have z_d1 : H d1 = none := (by cases ez : H d1 with | none => rfl | some o => exact absurd (r11 _ o ez np_d1) (by rw [h_d1]; intro q; cases q))
    have i12 := (k12 _ np_d1.symm).trans i11
    have e12_lt := (k12 _ n_lt_d1).trans e11_lt
    have e12_d0 := (k12 _ n_d0_d1).trans e11_d0
    repeat walk_at "s"
    refine ⟨by walk_at "len", fun cs h_cs => ?_⟩
    have np_cs : cs ≠ p := (ne_of_none i12 h_cs).symm
    have n_lt_cs : lt ≠ cs := ne_of_none e12_lt h_cs
    have n_d0_cs : d0 ≠ cs := ne_of_none e12_d0 h_cs
    have n_d1_cs : d1 ≠ cs := ne_of_none e12_d1 h_cs
    have e13_cs : upd H12 cs (.tup [.ref d0, .ref d1]) cs = some (.tup [.ref d0, .ref d1]) := upd_same
    have k13 : ∀ y, y ≠ cs → upd H12 cs (.tup [.ref d0, .ref d1]) y = H12 y := fun y h => upd_ne h
    generalize upd H12 cs (.tup [.ref d0, .ref d1]) = H13 at e13_cs k13 ⊢
    have r13 : ∀ x o, H x = some o → x ≠ p → H13 x = some o := fun x o h n => (k13 x (ne_of_none (r12 x o h n) h_cs)).trans (r12 x o h n)
    have z_cs : H cs = none := (by cases ez : H cs with | none => rfl | some o => exact absurd (r12 _ o ez np_cs) (by rw [h_cs]; intro q; cases q))
    have i13 := (k13 _ np_cs.symm).trans i12
    have e13_lt := (k13 _ n_lt_cs).trans e12_lt
    have e13_d0 := (k13 _ n_d0_cs).trans e12_d0
    have e13_d1 := (k13 _ n_d1_cs).trans e12_d1
    repeat walk_at "s"
    refine fld_step i13 c T.n_Tunnel__counts (by show 7 < 1000; decide) (fun H14 i14 k14 => ?_)
    have r14 : ∀ x o, H x = some o → x ≠ p → H14 x = some o := fun x o h n => (k14 x n).trans (r13 x o h n)
    have e14_lt := (k14 _ np_lt).trans e13_lt
    have e14_d0 := (k14 _ np_d0).trans e13_d0
    have e14_d1 := (k14 _ np_d1).trans e13_d1
    have e14_cs := (k14 _ np_cs).trans e13_cs
    repeat walk_at "s"
    refine ⟨by walk_at "len", fun ts h_ts => ?_⟩
    have np_ts : ts ≠ p := (ne_of_none i14 h_ts).symm
    have n_lt_ts : lt ≠ ts := ne_of_none e14_lt h_ts
    have n_d0_ts : d0 ≠ ts := ne_of_none e14_d0 h_ts
    have n_d1_ts : d1 ≠ ts := ne_of_none e14_d1 h_ts
    have n_cs_ts : cs ≠ ts := ne_of_none e14_cs h_ts
    have e15_ts : upd H14 ts (.tup [.int (-1), .int (-1)]) ts = some (.tup [.int (-1), .int (-1)]) := upd_same
    have k15 : ∀ y, y ≠ ts → upd H14 ts (.tup [.int (-1), .int (-1)]) y = H14 y := fun y h => upd_ne h
    generalize upd H14 ts (.tup [.int (-1), .int (-1)]) = H15 at e15_ts k15 ⊢
    have r15 : ∀ x o, H x = some o → x ≠ p → H15 x = some o := fun x o h n => (k15 x (ne_of_none (r14 x o h n) h_ts)).trans (r14 x o h n)
    have z_ts : H ts = none := (by cases ez : H ts with | none => rfl | some o => exact absurd (r14 _ o ez np_ts) (by rw [h_ts]; intro q; cases q))
    have i15 := (k15 _ np_ts.symm).trans i14
    have e15_lt := (k15 _ n_lt_ts).trans e14_lt
    have e15_d0 := (k15 _ n_d0_ts).trans e14_d0
    have e15_d1 := (k15 _ n_d1_ts).trans e14_d1
    have e15_cs := (k15 _ n_cs_ts).trans e14_cs
    repeat walk_at "s"
    refine fld_step i15 c T.n_Tunnel__tops (by show 8 < 1000; decide) (fun H16 i16 k16 => ?_)
    have r16 : ∀ x o, H x = some o → x ≠ p → H16 x = some o := fun x o h n => (k16 x n).trans (r15 x o h n)
    have e16_lt := (k16 _ np_lt).trans e15_lt
    have e16_d0 := (k16 _ np_d0).trans e15_d0
    have e16_d1 := (k16 _ np_d1).trans e15_d1
    have e16_cs := (k16 _ np_cs).trans e15_cs
    have e16_ts := (k16 _ np_ts).trans e15_ts
    repeat walk_at "s"
    refine ⟨by walk_at "len", fun rv h_rv => ?_⟩
    have np_rv : rv ≠ p := (ne_of_none i16 h_rv).symm
    have n_lt_rv : lt ≠ rv := ne_of_none e16_lt h_rv
    have n_d0_rv : d0 ≠ rv := ne_of_none e16_d0 h_rv
    have n_d1_rv : d1 ≠ rv := ne_of_none e16_d1 h_rv
    have n_cs_rv : cs ≠ rv := ne_of_none e16_cs h_rv
    have n_ts_rv : ts ≠ rv := ne_of_none e16_ts h_rv
    have e17_rv : upd H16 rv (.lst []) rv = some (.lst []) := upd_same
    have k17 : ∀ y, y ≠ rv → upd H16 rv (.lst []) y = H16 y := fun y h => upd_ne h
    generalize upd H16 rv (.lst []) = H17 at e17_rv k17 ⊢
    have r17 : ∀ x o, H x = some o → x ≠ p → H17 x = some o := fun x o h n => (k17 x (ne_of_none (r16 x o h n) h_rv)).trans (r16 x o h n)
    have z_rv : H rv = none := (by cases ez : H rv with | none => rfl | some o => exact absurd (r16 _ o ez np_rv) (by rw [h_rv]; intro q; cases q))
    have i17 := (k17 _ np_rv.symm).trans i16
    have e17_lt := (k17 _ n_lt_rv).trans e16_lt
    have e17_d0 := (k17 _ n_d0_rv).trans e16_d0
    have e17_d1 := (k17 _ n_d1_rv).trans e16_d1
    have e17_cs := (k17 _ n_cs_rv).trans e16_cs
    have e17_ts := (k17 _ n_ts_rv).trans e16_ts
    repeat walk_at "s"
    refine fld_step i17 c T.n_Tunnel__received (by show 9 < 1000; decide) (fun H18 i18 k18 => ?_)
    have r18 : ∀ x o, H x = some o → x ≠ p → H18 x = some o := fun x o h n => (k18 x n).trans (r17 x o h n)
    have e18_lt := (k18 _ np_lt).trans e17_lt
    have e18_d0 := (k18 _ np_d0).trans e17_d0
    have e18_d1 := (k18 _ np_d1).trans e17_d1
    have e18_cs := (k18 _ np_cs).trans e17_cs
    have e18_ts := (k18 _ np_ts).trans e17_ts
    have e18_rv := (k18 _ np_rv).trans e17_rv
    refine q ⟨p, dx, lt, cs, d0, d1, ts, rv⟩ H18 rfl r18 (fun x hx => ?_) ⟨i18, ⟨[], e18_lt, .nil⟩, e18_cs, e18_d0, e18_d1, e18_ts, e18_rv, n_d0_d1, n_lt_rv⟩
    simp only [ft, List.mem_cons, List.not_mem_nil, or_false] at hx
    rcases hx with rfl | rfl | rfl | rfl | rfl
    · exact .inl rfl
    · exact .inr z_lt
    · exact .inr z_d0
    · exact .inr z_d1
    · exact .inr z_rv
theorem okTunnel__renew (T : Top K mg) : FnOk P w K mg base CX0 1 T.fTunnel__renew T.dTunnel__renew ["self", "epoch"] (sp_renew T.C_Tunnel) := by
  refine T.FTunnel__renew.ok scTunnel__renew (fun vs H Q E h => ?_) (fun cdv A outer s H vs Q E hr h => ?_)
  · obtain ⟨a, S, e, rfl, _⟩ := h
    rfl
  · obtain ⟨a, S, e, rfl, U, q⟩ := h
    refine ⟨_, (pss_cons (ps_if (pt_cmpR op_eq (pv 1) (pe_op op_add (pe_fld (pv 0) rfl) pe_int) (nomark _))
    (pss_cons (ps_fld (pv 0) (pe_tup (pa_cons pe_dnewK (pa_cons (pe_ix ix_tup (pe_fld (pv 0) rfl) pe_int (fun _ _ => rfl)) pa_nil))) rfl)
     (pss_one (ps_fld (pv 0) (pe_tup (pa_cons (pe_un un_neg pe_int) (pa_cons (pe_ix ix_tup (pe_fld (pv 0) rfl) pe_int (fun _ _ => rfl)) pa_nil))) rfl)))
    (pss_cons (ps_fld (pv 0) (pe_tup (pa_cons pe_dnewK (pa_cons pe_dnewK pa_nil))) rfl)
     (pss_one (ps_fld (pv 0) (pe_tup (pa_cons (pe_un un_neg pe_int) (pa_cons (pe_un un_neg pe_int) pa_nil))) rfl))))
    (pss_one (ps_fld (pv 0) (pv 1) rfl))), ?_⟩
    repeat walk_at "s"
    refine w_fldA U.ins T.cl_Tunnel T.n_Tunnel__newest (tf7 a S) ?_
    repeat walk_at "s"
    refine ite2 (fun h => ?_) (fun h => ?_)
    · have he := of_decide_eq_true h
      repeat walk_at "s"
      intro d0 hd0
      have s1 := sm_new (o := .dK []) hd0
      have e1 := upd_self2 hd0 (.dK [])
      generalize upd H d0 (.dK []) = H1 at s1 e1 ⊢
      have U1 := U.same s1
      repeat walk_at "s"
      refine w_fldA U1.ins T.cl_Tunnel T.n_Tunnel__counts (tf8 a S) ?_
      repeat walk_at "s"
      refine w_ixT (SqT.of U1.cs) (atI_nat (j := 0) rfl) ?_
      repeat walk_at "s"
      refine ⟨by walk_at "len", fun cs hcs => ?_⟩
      have s2 := sm_new (o := .tup [.ref d0, .ref a.d0]) hcs
      have e2 := upd_self2 hcs (.tup [.ref d0, .ref a.d0])
      generalize upd H1 cs (.tup [.ref d0, .ref a.d0]) = H2 at s2 e2 ⊢
      have U2 := U1.same s2
      repeat walk_at "s"
      refine fld_step U2.ins T.cl_Tunnel T.n_Tunnel__counts (tfs_len a S) (fun H3 i3 k3 => ?_)
      replace i3 : H3 a.p = some (.ins T.C_Tunnel a.dx (tfs { a with cs := cs, d0 := d0, d1 := a.d0 } S)) := i3
      have t3 : H3 a.ts = some (.tup [.int S.t0, .int S.t1]) := (k3 _ (ne_of U2.ts U2.ins (by intro z; cases z))).trans U2.ts
      repeat walk_at "s"
      refine w_fldA i3 T.cl_Tunnel T.n_Tunnel__tops (tf9 _ S) ?_
      repeat walk_at "s"
      refine ⟨by walk_at "len", fun ts hts => ?_⟩
      have s4 := sm_new (o := .tup [.int (-1), .int S.t0]) hts
      have e4 := upd_self2 hts (.tup [.int (-1), .int S.t0])
      generalize upd H3 ts (.tup [.int (-1), .int S.t0]) = H4 at s4 e4 ⊢
      repeat walk_at "s"
      refine fld_step (s4 _ _ i3) T.cl_Tunnel T.n_Tunnel__tops (tfs_len _ S) (fun H5 i5 k5 => ?_)
      replace i5 : H5 a.p = some (.ins T.C_Tunnel a.dx (tfs { a with cs := cs, d0 := d0, d1 := a.d0, ts := ts } S)) := i5
      repeat walk_at "s"
      refine fld_step i5 T.cl_Tunnel T.n_Tunnel__newest (tfs_len _ S) (fun H6 i6 k6 => ?_)
      have er : renew S e = { S with c0 := [], c1 := S.c0, t0 := -1, t1 := S.t0, nw := e } := by unfold renew; rw [if_pos he]
      have all : ∀ x o, H2 x = some o → x ≠ a.p → H6 x = some o := fun x o h n => (k6 x n).trans ((k5 x n).trans (s4 x o ((k3 x n).trans h)))
      obtain ⟨us, hus, dus⟩ := U2.lt
      obtain ⟨p1, p2, p3, p4, p5, p6, p7, p8⟩ := U2.pl
      have tk6 : Tk H2 H6 := fun x vs h => all x _ h (ne_of h U2.ins (by intro z; cases z))
      have hd0p : d0 ≠ a.p := (ne_of_none U.ins hd0).symm
      have htsp : ts ≠ a.p := (ne_of_none i3 hts).symm
      rw [er] at q
      refine q { a with cs := cs, d0 := d0, d1 := a.d0, ts := ts } H6 rfl (fun x o h n => all x o (s2 _ _ (s1 _ _ h)) (fun z => n (by rw [z]; simp [ft]))) (fun x hx => ?_) ⟨i6, ⟨us, all _ _ hus p1.symm, dus.mono tk6⟩, tk6 _ _ e2, all _ _ (s2 _ _ e1) hd0p, all _ _ U2.e0 p2.symm, (k6 _ htsp).trans ((k5 _ htsp).trans e4), all _ _ U2.rv p4.symm, (ne_of_none U.e0 hd0).symm, U.nl⟩
      simp only [ft, List.mem_cons, List.not_mem_nil, or_false] at hx
      rcases hx with rfl | rfl | rfl | rfl | rfl
      · exact .inl (by simp [ft])
      · exact .inl (by simp [ft])
      · exact .inr hd0
      · exact .inl (by simp [ft])
      · exact .inl (by simp [ft])
    · have he : ¬ e = S.nw + 1 := of_decide_eq_false (ofb h)
      repeat walk_at "s"
      intro d0 hd0
      have s1 := sm_new (o := .dK []) hd0
      have e1 := upd_self2 hd0 (.dK [])
      generalize upd H d0 (.dK []) = H1 at s1 e1 ⊢
      repeat walk_at "s"
      intro d1 hd1
      have s1b := sm_new (o := .dK []) hd1
      have e1b := upd_self2 hd1 (.dK [])
      generalize upd H1 d1 (.dK []) = H1b at s1b e1b ⊢
      repeat walk_at "s"
      refine ⟨by walk_at "len", fun cs hcs => ?_⟩
      have s2 := sm_new (o := .tup [.ref d0, .ref d1]) hcs
      have e2 := upd_self2 hcs (.tup [.ref d0, .ref d1])
      generalize upd H1b cs (.tup [.ref d0, .ref d1]) = H2 at s2 e2 ⊢
      have s12 := (s1.trans s1b).trans s2
      have U2 := U.same s12
      repeat walk_at "s"
      refine fld_step U2.ins T.cl_Tunnel T.n_Tunnel__counts (tfs_len a S) (fun H3 i3 k3 => ?_)
      replace i3 : H3 a.p = some (.ins T.C_Tunnel a.dx (tfs { a with cs := cs, d0 := d0, d1 := d1 } S)) := i3
      repeat walk_at "s"
      refine ⟨by walk_at "len", fun ts hts => ?_⟩
      have s4 := sm_new (o := .tup [.int (-1), .int (-1)]) hts
      have e4 := upd_self2 hts (.tup [.int (-1), .int (-1)])
      generalize upd H3 ts (.tup [.int (-1), .int (-1)]) = H4 at s4 e4 ⊢
      repeat walk_at "s"
      refine fld_step (s4 _ _ i3) T.cl_Tunnel T.n_Tunnel__tops (tfs_len _ S) (fun H5 i5 k5 => ?_)
      replace i5 : H5 a.p = some (.ins T.C_Tunnel a.dx (tfs { a with cs := cs, d0 := d0, d1 := d1, ts := ts } S)) := i5
      repeat walk_at "s"
      refine fld_step i5 T.cl_Tunnel T.n_Tunnel__newest (tfs_len _ S) (fun H6 i6 k6 => ?_)
      have er : renew S e = { S with c0 := [], c1 := [], t0 := -1, t1 := -1, nw := e } := by unfold renew; rw [if_neg he]
      have all : ∀ x o, H2 x = some o → x ≠ a.p → H6 x = some o := fun x o h n => (k6 x n).trans ((k5 x n).trans (s4 x o ((k3 x n).trans h)))
      obtain ⟨us, hus, dus⟩ := U2.lt
      obtain ⟨p1, p2, p3, p4, p5, p6, p7, p8⟩ := U2.pl
      have tk6 : Tk H2 H6 := fun x vs h => all x _ h (ne_of h U2.ins (by intro z; cases z))
      have hd0p : d0 ≠ a.p := (ne_of_none U.ins hd0).symm
      have hd1p : d1 ≠ a.p := (ne_of_none (s1 _ _ U.ins) hd1).symm
      have htsp : ts ≠ a.p := (ne_of_none i3 hts).symm
      rw [er] at q
      refine q { a with cs := cs, d0 := d0, d1 := d1, ts := ts } H6 rfl (fun x o h n => all x o (s12 _ _ h) (fun z => n (by rw [z]; simp [ft]))) (fun x hx => ?_) ⟨i6, ⟨us, all _ _ hus p1.symm, dus.mono tk6⟩, tk6 _ _ e2, all _ _ (s2 _ _ (s1b _ _ e1)) hd0p, all _ _ (s2 _ _ e1b) hd1p, (k6 _ htsp).trans ((k5 _ htsp).trans e4), all _ _ U2.rv p4.symm, ne_of_none e1 hd1, U.nl⟩
      simp only [ft, List.mem_cons, List.not_mem_nil, or_false] at hx
      rcases hx with rfl | rfl | rfl | rfl | rfl
      · exact .inl (by simp [ft])
      · exact .inl (by simp [ft])
      · exact .inr hd0
      · exact .inr (s1.free hd1)
      · exact .inl (by simp [ft])
theorem okTunnel__judged (T : Top K mg) : FnOk P w K mg base CX0 1 T.fTunnel__judged T.dTunnel__judged ["self", "back", "number", "count"] (sp_judged T.C_Tunnel) := by
  refine T.FTunnel__judged.ok scTunnel__judged (fun vs H Q E h => ?_) (fun cdv A outer s H vs Q E hr h => ?_)
  · obtain ⟨a, S, back, n, c, rfl, _⟩ := h
    rfl
  · obtain ⟨a, S, back, n, c, rfl, U, hb, l0, l1, lr, q⟩ := h
    have hu := hu_of hr
    refine ⟨_, (pss_cons (ps_set (i := 4) scTunnel__judged.nd rfl (Or.inl rfl) (pe_ix ix_tup (pe_fld (pv 0) rfl) (pv 1) (fun _ _ => rfl)))
    (pss_cons (ps_if (pt_cmpR op_le (pv 3) (pe_op op_sub (pv 4) (pe_fld (pv 0) rfl)) (nomark _))
     (pss_one (ps_ret pe_str))
     pss_nil)
     (pss_cons (ps_if (pt_cmp (pc_din hu (pv 3) (pe_ix ix_tup (pe_fld (pv 0) rfl) (pv 1) (fun _ _ => rfl))))
      (pss_one (ps_ret pe_str))
      pss_nil)
      (pss_cons (ps_dput hu (pe_ix ix_tup (pe_fld (pv 0) rfl) (pv 1) (fun _ _ => rfl)) (pv 3) pe_bl rfl)
       (pss_cons (ps_if (pt_cmpR op_gt (pv 3) (pv 4) (nomark _))
        (pss_one (ps_fld (pv 0) (pe_ifExp (pt_cmpR op_eq (pv 1) pe_int (nomark _)) (pe_tup (pa_cons (pv 3) (pa_cons (pe_ix ix_tup (pe_fld (pv 0) rfl) pe_int (fun _ _ => rfl)) pa_nil))) (pe_tup (pa_cons (pe_ix ix_tup (pe_fld (pv 0) rfl) pe_int (fun _ _ => rfl)) (pa_cons (pv 3) pa_nil)))) rfl))
        pss_nil)
        (pss_cons (ps_expr (pe_bm PySem.F.plainAttrs_list PySem.F.slot_list_append PySem.F.type_list_append mt_append (pe_fld (pv 0) rfl) (pa_cons (pv 2) pa_nil)))
         (pss_one (ps_ret pe_str)))))))), ?_⟩
    repeat walk_at "s"
    refine w_fldA U.ins T.cl_Tunnel T.n_Tunnel__tops (tf9 a S) ?_
    repeat walk_at "s"
    obtain rfl | rfl : back = 0 ∨ back = 1 := by omega
    · refine w_ixT (SqT.of U.ts) (atI_nat (j := 0) rfl) ?_
      repeat walk_at "s"
      refine w_fldA U.ins T.cl_Tunnel T.n_Tunnel_window (tf1 a S) ?_
      repeat walk_at "s"
      refine ite2 (fun h => ?_) (fun h1 => ?_)
      · have ej : jdg S 0 n c = (("late" : Str), S) := by unfold jdg; rw [if_pos rfl, if_pos (of_decide_eq_true h)]
        have qq := q a H rfl (Frm.same (Same.refl H)) (Own.refl _ _)
        rw [ej] at qq
        repeat walk_at "s"
        exact qq U
      · have hl : ¬ c ≤ S.t0 - S.win := of_decide_eq_false (ofb h1)
        repeat walk_at "s"
        refine w_fldA U.ins T.cl_Tunnel T.n_Tunnel__counts (tf8 a S) ?_
        repeat walk_at "s"
        refine w_ixT (SqT.of U.cs) (atI_nat (j := 0) rfl) ?_
        refine w_dgoI U.e0 (o := _) rfl ?_
        rw [kz_val]
        repeat walk_at "s"
        refine ite2 (fun h => ?_) (fun h2 => ?_)
        · have ej : jdg S 0 n c = (("again" : Str), S) := by unfold jdg; rw [if_pos rfl, if_neg hl, if_pos (of_decide_eq_true h)]
          have qq := q a H rfl (Frm.same (Same.refl H)) (Own.refl _ _)
          rw [ej] at qq
          repeat walk_at "s"
          exact qq U
        · have hc : ¬ c ∈ S.c0 := of_decide_eq_false (ofb h2)
          have ej : jdg S 0 n c = (("taken" : Str), { S with c0 := S.c0 ++ [c], t0 := if c > S.t0 then c else S.t0, rc := S.rc ++ [(n : Int)] }) := by unfold jdg; rw [if_pos rfl, if_neg hl, if_neg hc]
          rw [ej] at q
          repeat walk_at "s"
          refine w_fldA U.ins T.cl_Tunnel T.n_Tunnel__counts (tf8 a S) ?_
          repeat walk_at "s"
          refine w_ixT (SqT.of U.cs) (atI_nat (j := 0) rfl) ?_
          repeat walk_at "s"
          refine w_dpI U.e0 (by unfold kz; rw [List.length_map]; exact big99 (by omega)) ?_
          rw [kz_put _ _ hc]
          have U1 := U.put0 (c := c)
          have f1 : Frm (ft a) H (upd H a.d0 (.dK (kz (S.c0 ++ [c])))) := frm_in (Frm.same (Same.refl H)) (by simp [ft])
          generalize upd H a.d0 (.dK (kz (S.c0 ++ [c]))) = H1 at U1 f1 ⊢
          repeat walk_at "s"
          refine ite2 (fun h => ?_) (fun h3 => ?_)
          · have ht : c > S.t0 := of_decide_eq_true h
            rw [if_pos ht] at q
            repeat walk_at "s"
            refine w_tif ?_
            repeat walk_at "s"
            refine w_it (by decide) ?_
            repeat walk_at "s"
            refine w_fldA U1.ins T.cl_Tunnel T.n_Tunnel__tops (tf9 a _) ?_
            repeat walk_at "s"
            refine w_ixT (SqT.of U1.ts) (atI_nat (j := 1) rfl) ?_
            repeat walk_at "s"
            refine ⟨by walk_at "len", fun ts hts => ?_⟩
            have U2 := U1.tops (q := ts) (x := c) (y := S.t1) hts
            have f2 := frm_p (o := .ins T.C_Tunnel a.dx (tfs { a with ts := ts } { S with c0 := S.c0 ++ [c], t0 := c, t1 := S.t1 })) (frm_new (o := .tup [.int c, .int S.t1]) f1 hts)
            repeat walk_at "s"
            refine ⟨a.p, _, _, _, rfl, by rw [upd_ne (ne_of_none U1.ins hts)]; exact U1.ins, T.cl_Tunnel, T.n_Tunnel__tops, tfs_len a _, ?_⟩
            have ep : putF (Str.ofString "_tops") (V.ref ts) (tfs a { S with c0 := S.c0 ++ [c] }) = tfs { a with ts := ts } { S with c0 := S.c0 ++ [c], t0 := c, t1 := S.t1 } := rfl
            rw [ep]
            generalize upd (upd H1 ts (.tup [.int c, .int S.t1])) a.p (.ins T.C_Tunnel a.dx (tfs { a with ts := ts } { S with c0 := S.c0 ++ [c], t0 := c, t1 := S.t1 })) = H2 at U2 f2 ⊢
            repeat walk_at "s"
            refine w_fldA U2.ins T.cl_Tunnel T.n_Tunnel__received (tf10 _ _) ?_
            refine w_tyl U2.rv ?_
            repeat walk_at "s"
            refine w_append U2.rv (by rw [inz_len]; exact big99 (by show S.rc.length ≤ _; omega)) ?_
            have U3 := U2.recd (n := (n : Int))
            have f3 := frm_in (o := .lst (inz (S.rc ++ [(n : Int)]))) (x := a.rv) f2 (by simp [ft])
            have ez : inz S.rc ++ [V.int (n : Int)] = inz (S.rc ++ [(n : Int)]) := by rw [inz_app]; rfl
            rw [ez]
            repeat walk_at "s"
            exact q { a with ts := ts } _ rfl f3 (Own.refl _ _) U3
          · have ht : ¬ c > S.t0 := of_decide_eq_false (ofb h3)
            rw [if_neg ht] at q
            repeat walk_at "s"
            refine w_fldA U1.ins T.cl_Tunnel T.n_Tunnel__received (tf10 a _) ?_
            refine w_tyl U1.rv ?_
            repeat walk_at "s"
            refine w_append U1.rv (by rw [inz_len]; exact big99 (by show S.rc.length ≤ _; omega)) ?_
            have U2 := U1.recd (n := (n : Int))
            have f2 := frm_in (o := .lst (inz (S.rc ++ [(n : Int)]))) (x := a.rv) f1 (by simp [ft])
            have ez : inz S.rc ++ [V.int (n : Int)] = inz (S.rc ++ [(n : Int)]) := by rw [inz_app]; rfl
            rw [ez]
            repeat walk_at "s"
            exact q a _ rfl f2 (Own.refl _ _) U2
    · refine w_ixT (SqT.of U.ts) (atI_nat (j := 1) rfl) ?_
      repeat walk_at "s"
      refine w_fldA U.ins T.cl_Tunnel T.n_Tunnel_window (tf1 a S) ?_
      repeat walk_at "s"
      refine ite2 (fun h => ?_) (fun h1 => ?_)
      · have ej : jdg S 1 n c = (("late" : Str), S) := by unfold jdg; rw [if_neg (by decide), if_pos (of_decide_eq_true h)]
        have qq := q a H rfl (Frm.same (Same.refl H)) (Own.refl _ _)
        rw [ej] at qq
        repeat walk_at "s"
        exact qq U
      · have hl : ¬ c ≤ S.t1 - S.win := of_decide_eq_false (ofb h1)
        repeat walk_at "s"
        refine w_fldA U.ins T.cl_Tunnel T.n_Tunnel__counts (tf8 a S) ?_
        repeat walk_at "s"
        refine w_ixT (SqT.of U.cs) (atI_nat (j := 1) rfl) ?_
        refine w_dgoI U.e1 (o := _) rfl ?_
        rw [kz_val]
        repeat walk_at "s"
        refine ite2 (fun h => ?_) (fun h2 => ?_)
        · have ej : jdg S 1 n c = (("again" : Str), S) := by unfold jdg; rw [if_neg (by decide), if_neg hl, if_pos (of_decide_eq_true h)]
          have qq := q a H rfl (Frm.same (Same.refl H)) (Own.refl _ _)
          rw [ej] at qq
          repeat walk_at "s"
          exact qq U
        · have hc : ¬ c ∈ S.c1 := of_decide_eq_false (ofb h2)
          have ej : jdg S 1 n c = (("taken" : Str), { S with c1 := S.c1 ++ [c], t1 := if c > S.t1 then c else S.t1, rc := S.rc ++ [(n : Int)] }) := by unfold jdg; rw [if_neg (by decide), if_neg hl, if_neg hc]
          rw [ej] at q
          repeat walk_at "s"
          refine w_fldA U.ins T.cl_Tunnel T.n_Tunnel__counts (tf8 a S) ?_
          repeat walk_at "s"
          refine w_ixT (SqT.of U.cs) (atI_nat (j := 1) rfl) ?_
          repeat walk_at "s"
          refine w_dpI U.e1 (by unfold kz; rw [List.length_map]; exact big99 (by omega)) ?_
          rw [kz_put _ _ hc]
          have U1 := U.put1 (c := c)
          have f1 : Frm (ft a) H (upd H a.d1 (.dK (kz (S.c1 ++ [c])))) := frm_in (Frm.same (Same.refl H)) (by simp [ft])
          generalize upd H a.d1 (.dK (kz (S.c1 ++ [c]))) = H1 at U1 f1 ⊢
          repeat walk_at "s"
          refine ite2 (fun h => ?_) (fun h3 => ?_)
          · have ht : c > S.t1 := of_decide_eq_true h
            rw [if_pos ht] at q
            repeat walk_at "s"
            refine w_tif ?_
            repeat walk_at "s"
            refine w_if (by decide) ?_
            repeat walk_at "s"
            refine w_fldA U1.ins T.cl_Tunnel T.n_Tunnel__tops (tf9 a _) ?_
            repeat walk_at "s"
            refine w_ixT (SqT.of U1.ts) (atI_nat (j := 0) rfl) ?_
            repeat walk_at "s"
            refine ⟨by walk_at "len", fun ts hts => ?_⟩
            have U2 := U1.tops (q := ts) (x := S.t0) (y := c) hts
            have f2 := frm_p (o := .ins T.C_Tunnel a.dx (tfs { a with ts := ts } { S with c1 := S.c1 ++ [c], t0 := S.t0, t1 := c })) (frm_new (o := .tup [.int S.t0, .int c]) f1 hts)
            repeat walk_at "s"
            refine ⟨a.p, _, _, _, rfl, by rw [upd_ne (ne_of_none U1.ins hts)]; exact U1.ins, T.cl_Tunnel, T.n_Tunnel__tops, tfs_len a _, ?_⟩
            have ep : putF (Str.ofString "_tops") (V.ref ts) (tfs a { S with c1 := S.c1 ++ [c] }) = tfs { a with ts := ts } { S with c1 := S.c1 ++ [c], t0 := S.t0, t1 := c } := rfl
            rw [ep]
            generalize upd (upd H1 ts (.tup [.int S.t0, .int c])) a.p (.ins T.C_Tunnel a.dx (tfs { a with ts := ts } { S with c1 := S.c1 ++ [c], t0 := S.t0, t1 := c })) = H2 at U2 f2 ⊢
            repeat walk_at "s"
            refine w_fldA U2.ins T.cl_Tunnel T.n_Tunnel__received (tf10 _ _) ?_
            refine w_tyl U2.rv ?_
            repeat walk_at "s"
            refine w_append U2.rv (by rw [inz_len]; exact big99 (by show S.rc.length ≤ _; omega)) ?_
            have U3 := U2.recd (n := (n : Int))
            have f3 := frm_in (o := .lst (inz (S.rc ++ [(n : Int)]))) (x := a.rv) f2 (by simp [ft])
            have ez : inz S.rc ++ [V.int (n : Int)] = inz (S.rc ++ [(n : Int)]) := by rw [inz_app]; rfl
            rw [ez]
            repeat walk_at "s"
            exact q { a with ts := ts } _ rfl f3 (Own.refl _ _) U3
          · have ht : ¬ c > S.t1 := of_decide_eq_false (ofb h3)
            rw [if_neg ht] at q
            repeat walk_at "s"
            refine w_fldA U1.ins T.cl_Tunnel T.n_Tunnel__received (tf10 a _) ?_
            refine w_tyl U1.rv ?_
            repeat walk_at "s"
            refine w_append U1.rv (by rw [inz_len]; exact big99 (by show S.rc.length ≤ _; omega)) ?_
            have U2 := U1.recd (n := (n : Int))
            have f2 := frm_in (o := .lst (inz (S.rc ++ [(n : Int)]))) (x := a.rv) f1 (by simp [ft])
            have ez : inz S.rc ++ [V.int (n : Int)] = inz (S.rc ++ [(n : Int)]) := by rw [inz_app]; rfl
            rw [ez]
            repeat walk_at "s"
            exact q a _ rfl f2 (Own.refl _ _) U2
theorem okTunnel_deliver (T : Top K mg) : FnOk P w K mg base CX0 2 T.fTunnel_deliver T.dTunnel_deliver ["self", "number"] (sp_deliver T.C_Tunnel) := by
  refine T.FTunnel_deliver.ok scTunnel_deliver (fun vs H Q E h => ?_) (fun cdv A outer s H vs Q E hr h => ?_)
  · obtain ⟨a, S, n, x, rfl, _⟩ := h
    rfl
  · obtain ⟨a, S, n, x, rfl, U, hn, l0, l1, lr, q⟩ := h
    refine ⟨_, (pss_cons (ps_asg (pe_meth (pv 0) T.cl_Tunnel T.mTunnel_letter (okTunnel_letter T) hr T.bTunnel_letter .nil pass0 (pa_cons (pv 1) pa_nil)) (pg_tup (by rfl) (pgs_cons (pg_name (i := 2) scTunnel_deliver.nd rfl (Or.inl rfl)) (pgs_cons (pg_name (i := 3) scTunnel_deliver.nd rfl (Or.inl rfl)) (pgs_cons (pg_name (i := 4) scTunnel_deliver.nd rfl (Or.inl rfl)) pgs_nil)))))
    (pss_cons (ps_if (pt_cmpR op_lt (pv 2) (pe_op op_sub (pe_fld (pv 0) rfl) pe_int) (nomark _))
     (pss_one (ps_ret pe_str))
     pss_nil)
     (pss_cons (ps_if (pt_cmpR op_gt (pv 2) (pe_fld (pv 0) rfl) (nomark _))
      (pss_one (ps_expr (pe_meth (pv 0) T.cl_Tunnel T.mTunnel__renew (okTunnel__renew T) hr T.bTunnel__renew .nil pass0 (pa_cons (pv 2) pa_nil))))
      pss_nil)
      (pss_one (ps_ret (pe_meth (pv 0) T.cl_Tunnel T.mTunnel__judged (okTunnel__judged T) hr T.bTunnel__judged .nil pass0 (pa_cons (pe_op op_sub (pe_fld (pv 0) rfl) (pv 2)) (pa_cons (pv 1) (pa_cons (pv 3) pa_nil))))))))), ?_⟩
    repeat walk_at "s"
    refine ⟨a.p, _, _, rfl, U.ins, tn1 a S, ?_⟩
    repeat walk_at "s"
    refine ⟨a, S, n, x, rfl, U, hn, fun v hv => ?_⟩
    refine w_gtup (SqT.of hv) rfl ?_
    repeat walk_at "s"
    refine w_fldA U.ins T.cl_Tunnel T.n_Tunnel__newest (tf7 a S) ?_
    repeat walk_at "s"
    refine ite2 (fun h => ?_) (fun h1 => ?_)
    · have ej : dlv S n x.1 x.2.1 = (("old" : Str), S) := by unfold dlv; rw [if_pos (of_decide_eq_true h)]
      have qq := q a H rfl (Frm.same (Same.refl H)) (Own.refl _ _)
      rw [ej] at qq
      repeat walk_at "s"
      exact qq U
    · have ho : ¬ x.1 < S.nw - 1 := of_decide_eq_false (ofb h1)
      repeat walk_at "s"
      refine w_fldA U.ins T.cl_Tunnel T.n_Tunnel__newest (tf7 a S) ?_
      repeat walk_at "s"
      refine ite2 (fun h => ?_) (fun h2 => ?_)
      · have hn' : x.1 > S.nw := of_decide_eq_true h
        have ej : dlv S n x.1 x.2.1 = jdg (renew S x.1) 0 n x.2.1 := by unfold dlv; rw [if_neg ho, if_pos hn']
        repeat walk_at "s"
        refine ⟨a.p, _, _, rfl, U.ins, tn2 a S, ?_⟩
        repeat walk_at "s"
        refine ⟨a, S, x.1, rfl, U, fun a1 H1 hp1 f1 o1 U1 => ?_⟩
        have ip : H1 a.p = some (.ins T.C_Tunnel a1.dx (tfs a1 (renew S x.1))) := by rw [← hp1]; exact U1.ins
        repeat walk_at "s"
        refine ⟨a.p, _, _, rfl, ip, tn3 a1 _, ?_⟩
        repeat walk_at "s"
        refine w_fldA ip T.cl_Tunnel T.n_Tunnel__newest (tf7 a1 _) ?_
        repeat walk_at "s"
        rw [renew_nw]
        obtain ⟨g0, g1⟩ := renew_len S x.1 l0
        refine ⟨a1, renew S x.1, 0, n, x.2.1, by rw [hp1, Int.sub_self]; rfl, U1, by decide, g0, g1, by rw [renew_rc]; exact lr, fun a2 H2 hp2 f2 o2 U2 => ?_⟩
        have qq := q a2 H2 (hp2.trans hp1) (f1.trans f2 o1) (o1.trans f1 o2)
        rw [ej] at qq
        exact qq U2
      · have hn' : ¬ x.1 > S.nw := of_decide_eq_false (ofb h2)
        have ej : dlv S n x.1 x.2.1 = jdg S (S.nw - x.1).toNat n x.2.1 := by unfold dlv; rw [if_neg ho, if_neg hn']
        repeat walk_at "s"
        refine ⟨a.p, _, _, rfl, U.ins, tn3 a S, ?_⟩
        repeat walk_at "s"
        refine w_fldA U.ins T.cl_Tunnel T.n_Tunnel__newest (tf7 a S) ?_
        repeat walk_at "s"
        refine ⟨a, S, (S.nw - x.1).toNat, n, x.2.1, by rw [show (((S.nw - x.1).toNat : Nat) : Int) = S.nw - x.1 by omega]; rfl, U, by omega, l0, l1, lr, fun a2 H2 hp2 f2 o2 U2 => ?_⟩
        have qq := q a2 H2 hp2 f2 o2
        rw [ej] at qq
        exact qq U2
end
/-! ### two names in order -/
theorem ltC (a b : List Nat) : ltCps a b = decide (a < b) := by
  induction a generalizing b with
  | nil => cases b with
    | nil => exact (decide_eq_false (List.lt_irrefl _)).symm
    | cons y b => exact (decide_eq_true (List.nil_lt_cons ..)).symm
  | cons x a ih => cases b with
    | nil => exact (decide_eq_false (List.not_lt_nil _)).symm
    | cons y b =>
      show (decide (x < y) || (x == y && ltCps a b)) = _
      rw [ih b]
      by_cases h : x :: a < y :: b
      · rw [decide_eq_true h]
        rcases List.cons_lt_cons_iff.mp h with h | ⟨e, h⟩
        · rw [decide_eq_true h]; rfl
        · rw [decide_eq_true h, e, beq_self_eq_true, Bool.and_true, Bool.or_true]
      · rw [decide_eq_false h]
        have h1 : ¬ x < y := fun q => h (List.cons_lt_cons_iff.mpr (.inl q))
        rw [decide_eq_false h1]
        by_cases e : x = y
        · have h2 : ¬ a < b := fun q => h (List.cons_lt_cons_iff.mpr (.inr ⟨e, q⟩))
          rw [decide_eq_false h2, Bool.and_false]; rfl
        · rw [beq_eq_false_iff_ne.mpr e]; rfl
theorem rising_pw : ∀ (l : List Str) (p : Str), risingS p l = true → (p :: l).Pairwise (fun x y => ¬ cd y < cd x)
  | [], p, _ => List.pairwise_singleton _ _
  | x :: r, p, h => by
    have h' : (!ltCps x.cps.toList p.cps.toList && risingS x r) = true := h
    rw [Bool.and_eq_true, ltC] at h'
    have h1 : ¬ cd x < cd p := by
      intro q
      have e : decide (x.cps.toList < p.cps.toList) = true := decide_eq_true q
      rw [e] at h'
      exact absurd h'.1 (by decide)
    have ih := rising_pw r x h'.2
    refine List.pairwise_cons.mpr ⟨fun y hy => ?_, ih⟩
    rcases List.mem_cons.mp hy with rfl | hy
    · exact h1
    · have h2 := (List.pairwise_cons.mp ih).1 y hy
      exact List.not_lt.mpr (List.le_trans (List.not_lt.mp h1) (List.not_lt.mp h2))
theorem sorted_pw (l : List Str) (h : sortedS l = true) : l.Pairwise (fun x y => ¬ cd y < cd x) := by
  cases l with
  | nil => exact .nil
  | cons x r => exact rising_pw r x h
def Sr (a b x y : Str) : Prop := ([x, y] : List Str).Perm [a, b] ∧ sortedS [x, y] = true
theorem Sr.uniq {a b x y x' y' : Str} (h : Sr a b x y) (g : Sr a b x' y') : x = x' ∧ y = y' := by
  have e := List.Perm.eq_of_pairwise (le := fun x y => ¬ cd y < cd x) (fun a b _ _ h1 h2 => cd_ext (List.le_antisymm (List.not_lt.mp h1) (List.not_lt.mp h2))) (sorted_pw _ h.2) (sorted_pw _ g.2) (h.1.trans g.1.symm)
  cases e
  exact ⟨rfl, rfl⟩
/-! ### the star in a call's arguments -/
theorem w_star {K : PySem.W.Frag} {te : TE} {t : TA} {σ : L2.St} {H : Hp} {Q : List V → Hp → Prop} (q : te σ H fun x H1 => ∃ p xs, x = V.ref p ∧ (SqT K H1 p xs ∨ SqL K H1 p xs) ∧ t σ H1 fun ys H2 => Q (xs ++ ys) H2) : StX.tStar K te t σ H Q := q
/-! ### keys and sealed letters -/
def bth (x y : Str) : PyData := .tuple [.str "both", .str x, .str y]
def keyD (b : PyData) : Nat → PyData
  | 0 => b
  | n + 1 => .tuple [.str "digest", .tuple [.str "pair", keyD b n, .tuple [.str "word", .str "next"]]]
def lkD (b : PyData) (x : Int × Int × Str) : PyData := .tuple [.str "lock", .tuple [.str "pair", .tuple [.str "road", .int x.2.1], .tuple [.str "mark", .int 0, .str x.2.2]], keyD b x.1.toNat]
theorem two_of {ys : List Str} {a b : Str} (h : ys.Perm [a, b]) : ∃ x y, ys = [x, y] := by
  have l := h.length_eq
  match ys, l with
  | [x, y], _ => exact ⟨x, y, rfl⟩
def sp_keyterm (C : Addr) : Sp := fun vs H Q _ => ∃ (a : TD) (S : TS) (e : Nat), vs = [.ref a.p, .int (e : Int)] ∧ Tun C a H S ∧ e ≤ 20 ∧ ∀ (x y : Str) (v : V) (H' : Hp), Sr S.n1 S.n2 x y → Same H H' → DAt H' v (keyD (bth x y) e) → Q v H'
def sp_sealed (C : Addr) : Sp := fun vs H Q _ => ∃ (a : TD) (S : TS) (n : Nat) (l : Int × Int × Str), vs = [.ref a.p, .int (n : Int)] ∧ Tun C a H S ∧ S.ls[n]? = some l ∧ 0 ≤ l.1 ∧ l.1 ≤ 20 ∧ ∀ (x y : Str) (v : V) (H' : Hp), Sr S.n1 S.n2 x y → Same H H' → DAt H' v (lkD (bth x y) l) → Q v H'
section
variable {P : Program} {w : World} {K : PySem.W.Frag} {mg : Str → Option Value} {base : Heap}
theorem okTunnel_key_term (T : Top K mg) : FnOk P w K mg base CX0 1 T.fTunnel_key_term T.dTunnel_key_term ["self", "epoch"] (sp_keyterm T.C_Tunnel) := by
  refine T.FTunnel_key_term.ok scTunnel_key_term (fun vs H Q E h => ?_) (fun cdv A outer s H vs Q E hr h => ?_)
  · obtain ⟨a, S, e, rfl, _⟩ := h
    rfl
  · obtain ⟨a, S, e, rfl, U, he, q⟩ := h
    refine ⟨_, (pss_cons (ps_set (i := 2) scTunnel_key_term.nd rfl (Or.inl rfl) (pe_tup (pa_cons pe_str (StX.pa_star (pe_callB cr_sortedS (by rfl) T.z_sorted (by decide +kernel) (pa_cons (pe_lst (pa_cons (pe_fld (pv 0) rfl) (pa_cons (pe_fld (pv 0) rfl) pa_nil))) pa_nil)) pa_nil))))
    (pss_cons (ps_for PassesOwn.never rfl (pi_range1 (by rfl) T.z_range (pa_cons (pv 1) pa_nil)) (pg_name (i := 3) scTunnel_key_term.nd rfl (Or.inl rfl))
     (pss_one (ps_set (i := 2) scTunnel_key_term.nd rfl (Or.inl rfl) (pe_tup (pa_cons pe_str (pa_cons (pe_tup (pa_cons pe_str (pa_cons (pv 2) (pa_cons (pe_tup (pa_cons pe_str (pa_cons pe_str pa_nil))) pa_nil)))) pa_nil))))))
     (pss_one (ps_ret (pv 2))))), ?_⟩
    repeat walk_at "s"
    refine w_star ?_
    repeat walk_at "s"
    refine w_fldA U.ins T.cl_Tunnel T.n_Tunnel_first (by rfl) ?_
    repeat walk_at "s"
    refine w_fldA U.ins T.cl_Tunnel T.n_Tunnel_second (by rfl) ?_
    repeat walk_at "s"
    refine ⟨by walk_at "len", fun l0 hl0 => ?_⟩
    have s1 := sm_new (o := .lst [.str S.n1, .str S.n2]) hl0
    have e1 := upd_self2 hl0 (.lst [.str S.n1, .str S.n2])
    generalize upd H l0 (.lst [.str S.n1, .str S.n2]) = H1 at s1 e1 ⊢
    repeat walk_at "s"
    refine ⟨l0, [S.n1, S.n2], rfl, SqL.of e1, by show 2 < 64; decide, fun ys p hp hso hp0 => ?_⟩
    obtain ⟨x, y, rfl⟩ := two_of hp
    have s2 := s1.trans (sm_new (o := .lst (([x, y] : List Str).map V.str)) hp0)
    have e2 := upd_self2 hp0 (.lst (([x, y] : List Str).map V.str))
    generalize upd H1 p (.lst (([x, y] : List Str).map V.str)) = H2 at s2 e2 ⊢
    refine ⟨p, _, rfl, .inr (SqL.of e2), ?_⟩
    repeat walk_at "s"
    refine ⟨by show 3 ≤ sizeLine; decide, fun t0 ht0 => ?_⟩
    have s3 := s2.trans (sm_new (o := .tup [.str "both", .str x, .str y]) ht0)
    have e3 := upd_self2 ht0 (.tup [.str "both", .str x, .str y])
    show gName 2 _ _ (upd H2 t0 (.tup [.str "both", .str x, .str y])) _
    generalize upd H2 t0 (.tup [.str "both", .str x, .str y]) = H3 at s3 e3 ⊢
    repeat walk_at "s"
    refine for_range (lo := 0) (n := e) (fun i σ H4 => ∃ (v4 : Option V) (u : V), σ = [some (.ref a.p), some (.int (e : Int)), some u, v4] ∧ DAt H4 u (keyD (bth x y) i) ∧ Same H H4) ?_ ?_ ?_
    · exact ⟨none, _, rfl, .tup e3 (.cons (.str _) (.cons (.str _) (.cons (.str _) .nil))), s3⟩
    · rintro i σ H4 hi ⟨v4, u, rfl, du, s4⟩
      repeat walk_at "s"
      refine ⟨by walk_at "len", fun t1 ht1 => ?_⟩
      have r1 := sm_new (o := .tup [.str "word", .str "next"]) ht1
      have f1 := upd_self2 ht1 (.tup [.str "word", .str "next"])
      generalize upd H4 t1 (.tup [.str "word", .str "next"]) = H5 at r1 f1 ⊢
      repeat walk_at "s"
      refine ⟨by walk_at "len", fun t2 ht2 => ?_⟩
      have r2 := sm_new (o := .tup [.str "pair", u, .ref t1]) ht2
      have f2 := upd_self2 ht2 (.tup [.str "pair", u, .ref t1])
      generalize upd H5 t2 (.tup [.str "pair", u, .ref t1]) = H6 at r2 f2 ⊢
      repeat walk_at "s"
      refine ⟨by walk_at "len", fun t3 ht3 => ?_⟩
      have r3 := sm_new (o := .tup [.str "digest", .ref t2]) ht3
      have f3 := upd_self2 ht3 (.tup [.str "digest", .ref t2])
      generalize upd H6 t3 (.tup [.str "digest", .ref t2]) = H7 at r3 f3 ⊢
      repeat walk_at "s"
      refine ⟨_, _, rfl, ?_, ((s4.trans r1).trans r2).trans r3⟩
      exact .tup f3 (.cons (.str _) (.cons (.tup (r3 _ _ f2) (.cons (.str _) (.cons (du.mono (Tk.same ((r1.trans r2).trans r3))) (.cons (.tup (r3 _ _ (r2 _ _ f1)) (.cons (.str _) (.cons (.str _) .nil))) .nil)))) .nil))
    · rintro σ H4 ⟨v4, u, rfl, du, s4⟩
      repeat walk_at "s"
      exact q x y u H4 ⟨hp, hso⟩ s4 du
theorem okTunnel_sealed (T : Top K mg) : FnOk P w K mg base CX0 2 T.fTunnel_sealed T.dTunnel_sealed ["self", "number"] (sp_sealed T.C_Tunnel) := by
  refine T.FTunnel_sealed.ok scTunnel_sealed (fun vs H Q E h => ?_) (fun cdv A outer s H vs Q E hr h => ?_)
  · obtain ⟨a, S, n, l, rfl, _⟩ := h
    rfl
  · obtain ⟨a, S, n, l, rfl, U, hn, l0, l1, q⟩ := h
    refine ⟨_, (pss_cons (ps_asg (pe_meth (pv 0) T.cl_Tunnel T.mTunnel_letter (okTunnel_letter T) hr T.bTunnel_letter .nil pass0 (pa_cons (pv 1) pa_nil)) (pg_tup (by rfl) (pgs_cons (pg_name (i := 2) scTunnel_sealed.nd rfl (Or.inl rfl)) (pgs_cons (pg_name (i := 3) scTunnel_sealed.nd rfl (Or.inl rfl)) (pgs_cons (pg_name (i := 4) scTunnel_sealed.nd rfl (Or.inl rfl)) pgs_nil)))))
    (pss_one (ps_ret (pe_tup (pa_cons pe_str (pa_cons (pe_tup (pa_cons pe_str (pa_cons (pe_tup (pa_cons pe_str (pa_cons (pv 3) pa_nil))) (pa_cons (pe_tup (pa_cons pe_str (pa_cons pe_int (pa_cons (pv 4) pa_nil)))) pa_nil)))) (pa_cons (pe_meth (pv 0) T.cl_Tunnel T.mTunnel_key_term (okTunnel_key_term T) hr T.bTunnel_key_term .nil pass0 (pa_cons (pv 2) pa_nil)) pa_nil))))))), ?_⟩
    obtain ⟨l1', l2', l3'⟩ := l
    obtain ⟨e, rfl⟩ := Int.eq_ofNat_of_zero_le l0
    have he : e ≤ 20 := by have : ((e : Nat) : Int) ≤ 20 := l1; omega
    repeat walk_at "s"
    refine ⟨a.p, a.dx, tfs a S, rfl, U.ins, tn1 a S, ?_⟩
    repeat walk_at "s"
    refine ⟨a, S, n, _, rfl, U, hn, fun t ht => ?_⟩
    refine w_gtup (SqT.of ht) rfl ?_
    repeat walk_at "s"
    refine ⟨by walk_at "len", fun t1 ht1 => ?_⟩
    have r1 := sm_new (o := .tup [.str "road", .int l2']) ht1
    have f1 := upd_self2 ht1 (.tup [.str "road", .int l2'])
    generalize upd H t1 (.tup [.str "road", .int l2']) = H1 at r1 f1 ⊢
    repeat walk_at "s"
    refine ⟨by walk_at "len", fun t2 ht2 => ?_⟩
    have r2 := sm_new (o := .tup [.str "mark", .int 0, .str l3']) ht2
    have f2 := upd_self2 ht2 (.tup [.str "mark", .int 0, .str l3'])
    generalize upd H1 t2 (.tup [.str "mark", .int 0, .str l3']) = H2 at r2 f2 ⊢
    repeat walk_at "s"
    refine ⟨by walk_at "len", fun t3 ht3 => ?_⟩
    have r3 := sm_new (o := .tup [.str "pair", .ref t1, .ref t2]) ht3
    have f3 := upd_self2 ht3 (.tup [.str "pair", .ref t1, .ref t2])
    generalize upd H2 t3 (.tup [.str "pair", .ref t1, .ref t2]) = H3 at r3 f3 ⊢
    have s3 := (r1.trans r2).trans r3
    repeat walk_at "s"
    refine ⟨a.p, a.dx, tfs a S, rfl, s3 _ _ U.ins, by rfl, ?_⟩
    repeat walk_at "s"
    refine ⟨a, S, e, rfl, U.same s3, he, fun x y v H4 hsr s4 dv => ?_⟩
    repeat walk_at "s"
    refine ⟨by walk_at "len", fun t4 ht4 => ?_⟩
    have r5 := sm_new (o := .tup [.str "lock", .ref t3, v]) ht4
    have f5 := upd_self2 ht4 (.tup [.str "lock", .ref t3, v])
    generalize upd H4 t4 (.tup [.str "lock", .ref t3, v]) = H5 at r5 f5 ⊢
    repeat walk_at "s"
    have s45 := s4.trans r5
    exact q x y _ H5 hsr (s3.trans s45) (.tup f5 (.cons (.str _) (.cons (.tup (s45 _ _ f3) (.cons (.str _) (.cons (.tup (s45 _ _ (r3 _ _ (r2 _ _ f1))) (.cons (.str _) (.cons (.int _) .nil))) (.cons (.tup (s45 _ _ (r3 _ _ f2)) (.cons (.str _) (.cons (.int _) (.cons (.str _) .nil)))) .nil)))) (.cons (dv.mono (Tk.same r5)) .nil))))
end
/-! ### keys, rows, letters -/
def sp_sealedrow (C : Addr) : Sp := fun vs H Q _ => ∃ (a : TD) (S : TS) (x y : Str), vs = [.ref a.p] ∧ Tun C a H S ∧ Sr S.n1 S.n2 x y ∧ (∀ l ∈ S.ls, 0 ≤ l.1 ∧ l.1 ≤ 20) ∧ S.ls.length ≤ 1000 ∧ ∀ (q : Addr) (us : List V) (H' : Hp), Same H H' → H' q = some (.tup us) → DsAt H' us (S.ls.map (lkD (bth x y))) → Q (.ref q) H'
def sp_lkeys : Sp := fun vs H Q _ => ∃ (a b x y : Str), vs = [.str a, .str b] ∧ Sr a b x y ∧ ∀ (l : Addr) (us : List V) (H' : Hp), Same H H' → H l = none → H' l = some (.lst us) → DsAt H' us ((List.range 13).map (keyD (bth x y))) → Q (.ref l) H'
def sp_lsealed : Sp := fun vs H Q _ => ∃ (t kl : Addr) (e : Nat) (c : Int) (p : Str) (us : List V) (b : PyData), vs = [.ref t, .ref kl] ∧ H t = some (.tup [.int (e : Int), .int c, .str p]) ∧ H kl = some (.lst us) ∧ DsAt H us ((List.range 13).map (keyD b)) ∧ e ≤ 12 ∧ ∀ (v : V) (H' : Hp), Same H H' → DAt H' v (lkD b ((e : Int), c, p)) → Q v H'
section
variable {P : Program} {w : World} {K : PySem.W.Frag} {mg : Str → Option Value} {base : Heap}
theorem okTunnel_sealed_row (T : Top K mg) : FnOk P w K mg base CX0 3 T.fTunnel_sealed_row T.dTunnel_sealed_row ["self"] (sp_sealedrow T.C_Tunnel) := by
  refine T.FTunnel_sealed_row.ok scTunnel_sealed_row (fun vs H Q E h => ?_) (fun cdv A outer s H vs Q E hr h => ?_)
  · obtain ⟨a, S, x, y, rfl, _⟩ := h
    rfl
  · obtain ⟨a, S, x, y, rfl, U, hsr, hls, hl, q⟩ := h
    refine ⟨_, (pss_one (ps_ret (pe_callTy call_tuple_of (by rfl) T.z_tuple (by decide +kernel) (pa_cons (pe_lc (own := [("number", 1)]) (g := gName 1) (by rfl) scTunnel_sealed_row.nd (pi_range1 (by rfl) T.z_range (pa_cons (pe_callB call_len_seq (by rfl) T.z_len (by decide +kernel) (pa_cons (pe_fld (pv 0) rfl) pa_nil)) pa_nil)) (blkOk_by (own := [("number", 1)]) (N := NTunnel_sealed_row) (sc := defScope sTunnel_sealed_row) (by decide +kernel)) (fun _ _ _ _ _ => (pg_name (i := 1) scTunnel_sealed_row.nd rfl (Or.inl rfl))) (fun _ _ _ _ _ => pts_nil) (fun _ _ _ _ _ => (pe_meth (pv 0) T.cl_Tunnel T.mTunnel_sealed (okTunnel_sealed T) hr T.bTunnel_sealed .nil pass0 (pa_cons (pv 1) pa_nil)))) pa_nil)))), ?_⟩
    obtain ⟨us, hus, dus⟩ := U.lt
    have lus := dus.length
    rw [List.length_map] at lus
    repeat walk_at "s"
    refine w_fldA U.ins T.cl_Tunnel T.n_Tunnel__letters (tf4 a S) ?_
    repeat walk_at "s"
    intro D hD
    refine lc_range (lo := 0) (n := ((us.length : Int)).toNat) (fun i H2 => ∃ acc, H2 D = some (.lst acc) ∧ DsAt H2 acc ((S.ls.take i).map (lkD (bth x y))) ∧ Same H H2) ⟨[], upd_same, .nil, sm_new hD⟩ ?_ ?_
    · rintro i H2 hi ⟨acc, e2, da, s2⟩
      have hil : i < S.ls.length := by omega
      have hg := List.getElem?_eq_getElem hil
      obtain ⟨l0, l1⟩ := hls _ (List.getElem_mem hil)
      have la := da.length
      rw [List.length_map, List.length_take] at la
      rw [show (0 : Int) + (i : Int) = (i : Int) by omega]
      repeat walk_at "s"
      refine ⟨a.p, a.dx, tfs a S, rfl, s2 _ _ U.ins, by rfl, ?_⟩
      repeat walk_at "s"
      refine ⟨a, S, i, _, rfl, U.same s2, hg, l0, l1, fun x' y' v H3 hsr' s3 dv => ?_⟩
      obtain ⟨rfl, rfl⟩ := hsr.uniq hsr'
      have d3 := s3 _ _ e2
      refine ⟨acc, d3, big99 (by omega), _, upd_same, ?_, fun b o h => by rw [upd_ne (ne_of_none h hD)]; exact s3 _ _ (s2 _ _ h)⟩
      rw [List.take_add_one, hg, List.map_append]
      exact ((da.mono (Tk.same s3)).app (.cons dv .nil)).mono (Tk.lst d3)
    · rintro H2 ⟨acc, e2, da, s2⟩
      rw [lus, Int.toNat_natCast, List.take_length] at da
      repeat walk_at "s"
      refine ⟨D, _, rfl, .inl ⟨SqL.of e2, fun p hp => ?_⟩⟩
      exact q p acc _ (s2.trans (sm_new hp)) upd_same (da.mono (Tk.new hp))
theorem ok_law_keys (T : Top K mg) : FnOk P w K mg base CX0 1 T.f_law_keys T.d_law_keys ["one", "two"] sp_lkeys := by
  refine T.F_law_keys.ok sc_law_keys (fun vs H Q E h => ?_) (fun cdv A outer s H vs Q E hr h => ?_)
  · obtain ⟨a, b, x, y, rfl, _⟩ := h
    rfl
  · obtain ⟨a, b, x, y, rfl, hsr, q⟩ := h
    refine ⟨_, (pss_cons (ps_set (i := 2) sc_law_keys.nd rfl (Or.inl rfl) (pe_callB cr_sortedS (by rfl) T.z_sorted (by decide +kernel) (pa_cons (pe_lst (pa_cons (pv 0) (pa_cons (pv 1) pa_nil))) pa_nil)))
    (pss_cons (ps_set (i := 3) sc_law_keys.nd rfl (Or.inl rfl) (pe_lst (pa_cons (pe_tup (pa_cons pe_str (pa_cons (pe_ix ix_list (pv 2) pe_int (fun _ _ => rfl)) (pa_cons (pe_ix ix_list (pv 2) pe_int (fun _ _ => rfl)) pa_nil)))) pa_nil)))
     (pss_cons (ps_for PassesOwn.never rfl (pi_range1 (by rfl) T.z_range (pa_cons pe_int pa_nil)) (pg_name (i := 4) sc_law_keys.nd rfl (Or.inl rfl))
      (pss_one (ps_expr (pe_bm PySem.F.plainAttrs_list PySem.F.slot_list_append PySem.F.type_list_append mt_append (pv 3) (pa_cons (pe_tup (pa_cons pe_str (pa_cons (pe_tup (pa_cons pe_str (pa_cons (pe_ix ix_list (pv 3) (pe_un un_neg pe_int) (fun _ _ => rfl)) (pa_cons (pe_tup (pa_cons pe_str (pa_cons pe_str pa_nil))) pa_nil)))) pa_nil))) pa_nil)))))
      (pss_one (ps_ret (pv 3)))))), ?_⟩
    repeat walk_at "s"
    refine ⟨by walk_at "len", fun l0 hl0 => ?_⟩
    have s1 := sm_new (o := .lst [.str a, .str b]) hl0
    have e1 := upd_self2 hl0 (.lst [.str a, .str b])
    generalize upd H l0 (.lst [.str a, .str b]) = H1 at s1 e1 ⊢
    repeat walk_at "s"
    refine ⟨l0, [a, b], rfl, SqL.of e1, by show 2 < 64; decide, fun ys p hp hso hp0 => ?_⟩
    obtain ⟨x', y', rfl⟩ := two_of hp
    obtain ⟨rfl, rfl⟩ := hsr.uniq ⟨hp, hso⟩
    have s2 := s1.trans (sm_new (o := .lst (([x, y] : List Str).map V.str)) hp0)
    have e2 := upd_self2 hp0 (.lst (([x, y] : List Str).map V.str))
    generalize upd H1 p (.lst (([x, y] : List Str).map V.str)) = H2 at s2 e2 ⊢
    repeat walk_at "s"
    refine ⟨by show 3 ≤ sizeLine; decide, fun t0 ht0 => ?_⟩
    have s3 := s2.trans (sm_new (o := .tup [.str "both", .str x, .str y]) ht0)
    have e3 := upd_self2 ht0 (.tup [.str "both", .str x, .str y])
    show tNil _ (upd H2 t0 (.tup [.str "both", .str x, .str y])) _
    generalize upd H2 t0 (.tup [.str "both", .str x, .str y]) = H3 at s3 e3 ⊢
    repeat walk_at "s"
    refine ⟨by walk_at "len", fun kl hkl => ?_⟩
    have s4 := s3.trans (sm_new (o := .lst [.ref t0]) hkl)
    have z4 := sm_new (o := .lst [.ref t0]) hkl
    have e4 := upd_self2 hkl (.lst [.ref t0])
    have hklH := s3.free hkl
    generalize upd H3 kl (.lst [.ref t0]) = H4 at s4 z4 e4 ⊢
    repeat walk_at "s"
    refine for_range (lo := 0) (n := (12 : Int).toNat) (fun i σ H5 => ∃ (v4 : Option V) (us : List V), σ = [some (.str a), some (.str b), some (.ref p), some (.ref kl), v4] ∧ H5 kl = some (.lst us) ∧ DsAt H5 us ((List.range (i + 1)).map (keyD (bth x y))) ∧ Same H H5) ?_ ?_ ?_
    · exact ⟨none, _, rfl, e4, .cons (.tup (z4 _ _ e3) (.cons (.str _) (.cons (.str _) (.cons (.str _) .nil)))) .nil, s4⟩
    · rintro i σ H5 hi ⟨v4, us, rfl, e5, du, s5⟩
      have hi12 : i < 12 := hi
      have lus := du.length
      rw [List.length_map, List.length_range] at lus
      rw [List.range_succ, List.map_append] at du
      obtain ⟨us', u1, rfl, da, db⟩ := du.split
      cases db with
      | @cons u _ _ _ du1 db =>
      cases db
      have lus' := da.length
      rw [List.length_map, List.length_range] at lus'
      repeat walk_at "s"
      refine w_ixL (SqL.of e5) (atI_last us' u) ?_
      repeat walk_at "s"
      refine ⟨by walk_at "len", fun t1 ht1 => ?_⟩
      have r1 := sm_new (o := .tup [.str "word", .str "next"]) ht1
      have f1 := upd_self2 ht1 (.tup [.str "word", .str "next"])
      generalize upd H5 t1 (.tup [.str "word", .str "next"]) = H6 at r1 f1 ⊢
      repeat walk_at "s"
      refine ⟨by walk_at "len", fun t2 ht2 => ?_⟩
      have r2 := sm_new (o := .tup [.str "pair", u, .ref t1]) ht2
      have f2 := upd_self2 ht2 (.tup [.str "pair", u, .ref t1])
      generalize upd H6 t2 (.tup [.str "pair", u, .ref t1]) = H7 at r2 f2 ⊢
      repeat walk_at "s"
      refine ⟨by walk_at "len", fun t3 ht3 => ?_⟩
      have r3 := sm_new (o := .tup [.str "digest", .ref t2]) ht3
      have f3 := upd_self2 ht3 (.tup [.str "digest", .ref t2])
      generalize upd H7 t3 (.tup [.str "digest", .ref t2]) = H8 at r3 f3 ⊢
      have r123 := (r1.trans r2).trans r3
      have e8 := r123 _ _ e5
      repeat walk_at "s"
      refine w_append e8 (by rw [List.length_append, lus']; exact big99 (by show i + 1 ≤ _; omega)) ?_
      repeat walk_at "s"
      refine ⟨_, _, rfl, upd_same, ?_, fun o b h => by rw [upd_ne (ne_of_none h hklH)]; exact r123 _ _ (s5 _ _ h)⟩
      rw [List.range_succ, List.map_append, List.range_succ, List.map_append]
      have dk : DAt H8 (.ref t3) (keyD (bth x y) (i + 1)) := .tup f3 (.cons (.str _) (.cons (.tup (r3 _ _ f2) (.cons (.str _) (.cons (du1.mono (Tk.same r123)) (.cons (.tup (r3 _ _ (r2 _ _ f1)) (.cons (.str _) (.cons (.str _) .nil))) .nil)))) .nil))
      exact (((da.app (.cons du1 .nil)).mono (Tk.same r123)).app (.cons dk .nil)).mono (Tk.lst e8)
    · rintro σ H5 ⟨v4, us, rfl, e5, du, s5⟩
      repeat walk_at "s"
      exact q kl us H5 s5 hklH e5 du
theorem ok_law_sealed (T : Top K mg) : FnOk P w K mg base CX0 1 T.f_law_sealed T.d_law_sealed ["letter", "keys"] sp_lsealed := by
  refine T.F_law_sealed.ok sc_law_sealed (fun vs H Q E h => ?_) (fun cdv A outer s H vs Q E hr h => ?_)
  · obtain ⟨t, kl, e, c, p, us, b, rfl, _⟩ := h
    rfl
  · obtain ⟨t, kl, e, c, p, us, b, rfl, ht, hk, du, he, q⟩ := h
    refine ⟨_, (pss_one (ps_ret (pe_tup (pa_cons pe_str (pa_cons (pe_tup (pa_cons pe_str (pa_cons (pe_tup (pa_cons pe_str (pa_cons (pe_ix ix_tup (pv 0) pe_int (fun _ _ => rfl)) pa_nil))) (pa_cons (pe_tup (pa_cons pe_str (pa_cons pe_int (pa_cons (pe_ix ix_tup (pv 0) pe_int (fun _ _ => rfl)) pa_nil)))) pa_nil)))) (pa_cons (pe_ix ix_list (pv 1) (pe_ix ix_tup (pv 0) pe_int (fun _ _ => rfl)) (fun _ _ => rfl)) pa_nil)))))), ?_⟩
    repeat walk_at "s"
    refine ⟨by walk_at "len", fun t1 ht1 => ?_⟩
    have r1 := sm_new (o := .tup [.str "road", .int c]) ht1
    have f1 := upd_self2 ht1 (.tup [.str "road", .int c])
    have g1 := r1 _ _ ht
    generalize upd H t1 (.tup [.str "road", .int c]) = H1 at r1 f1 g1 ⊢
    repeat walk_at "s"
    refine ⟨by walk_at "len", fun t2 ht2 => ?_⟩
    have r2 := sm_new (o := .tup [.str "mark", .int 0, .str p]) ht2
    have f2 := upd_self2 ht2 (.tup [.str "mark", .int 0, .str p])
    generalize upd H1 t2 (.tup [.str "mark", .int 0, .str p]) = H2 at r2 f2 ⊢
    repeat walk_at "s"
    refine ⟨by walk_at "len", fun t3 ht3 => ?_⟩
    have r3 := sm_new (o := .tup [.str "pair", .ref t1, .ref t2]) ht3
    have f3 := upd_self2 ht3 (.tup [.str "pair", .ref t1, .ref t2])
    generalize upd H2 t3 (.tup [.str "pair", .ref t1, .ref t2]) = H3 at r3 f3 ⊢
    have s3 := (r1.trans r2).trans r3
    have g3 := s3 _ _ ht
    have k3 := s3 _ _ hk
    have lus := du.length
    rw [List.length_map, List.length_range] at lus
    obtain ⟨d, hd, hu⟩ := du.get (List.getElem?_eq_getElem (show e < us.length by omega))
    rw [List.getElem?_map, List.getElem?_range (by omega)] at hd
    cases hd
    have hue := List.getElem?_eq_getElem (show e < us.length by omega)
    generalize us[e]'(by omega) = v at hu hue
    repeat walk_at "s"
    refine w_ixL (SqL.of k3) (atI_nat hue) ?_
    repeat walk_at "s"
    refine ⟨by walk_at "len", fun t4 ht4 => ?_⟩
    have r5 := sm_new (o := .tup [.str "lock", .ref t3, v]) ht4
    have f5 := upd_self2 ht4 (.tup [.str "lock", .ref t3, v])
    generalize upd H3 t4 (.tup [.str "lock", .ref t3, v]) = H5 at r5 f5 ⊢
    repeat walk_at "s"
    exact q _ H5 (s3.trans r5) (.tup f5 (.cons (.str _) (.cons (.tup (r5 _ _ f3) (.cons (.str _) (.cons (.tup (r5 _ _ (r3 _ _ (r2 _ _ f1))) (.cons (.str _) (.cons (.int _) .nil))) (.cons (.tup (r5 _ _ (r3 _ _ f2)) (.cons (.str _) (.cons (.int _) (.cons (.str _) .nil)))) .nil)))) (.cons (hu.mono (Tk.same (s3.trans r5))) .nil))))
end
/-! ### the program's terms -/
theorem occs_len : ∀ qs : List PyData, (∀ q ∈ qs, isTup q = true) → qs.length ≤ (occs qs).length
  | [], _ => Nat.le_refl _
  | d :: r, h => by
    have h1 := occs_len r fun q hq => h q (List.mem_cons_of_mem _ hq)
    have h2 := h d (List.mem_cons_self ..)
    cases d with
    | tuple ds =>
      show r.length + 1 ≤ ((PyData.tuple ds :: occs ds) ++ occs r).length
      rw [List.length_append, List.length_cons]
      omega
    | _ => cases h2
theorem occ_not {d : PyData} (h : isTup d = false) : occ d = [] := by
  cases d with
  | tuple ds => cases h
  | _ => rfl
def sp_occ : Sp := fun vs H Q _ => ∃ (v : V) (d : PyData), vs = [v] ∧ DAt H v d ∧ isTup d = true ∧ (occ d).length ≤ 100000 ∧ ∀ (l : Addr) (us : List V) (H' : Hp), H l = none → Same H H' → H' l = some (.lst us) → DsAt H us (occ d) → Q (.ref l) H'
section
variable {P : Program} {w : World} {K : PySem.W.Frag} {mg : Str → Option Value} {base : Heap}
theorem okoccurrences (T : Top K mg) : FnOk P w K mg base CX0 1 T.foccurrences T.doccurrences ["term"] sp_occ := by
  refine T.Foccurrences.ok scoccurrences (fun vs H Q E h => ?_) (fun cdv A outer s H vs Q E hr h => ?_)
  · obtain ⟨v, d, rfl, _⟩ := h
    rfl
  · obtain ⟨v, d, rfl, hd, ht, hl, q⟩ := h
    refine ⟨_, (pss_cons (ps_set (i := 1) scoccurrences.nd rfl (Or.inl rfl) (pe_lst pa_nil))
    (pss_cons (ps_set (i := 2) scoccurrences.nd rfl (Or.inl rfl) (pe_lst (pa_cons (pv 0) pa_nil)))
     (pss_cons (ps_while PassesOwn.never (pt_truth (pv 2) (by intro _; rfl))
      (pss_cons (ps_set (i := 3) scoccurrences.nd rfl (Or.inl rfl) (pe_bm0 PySem.F.plainAttrs_list PySem.F.slot_list_pop PySem.F.type_list_pop mt_pop (pv 2)))
       (pss_cons (ps_expr (pe_bm PySem.F.plainAttrs_list PySem.F.slot_list_append PySem.F.type_list_append mt_append (pv 1) (pa_cons (pv 3) pa_nil)))
        (pss_one (ps_for PassesOwn.never rfl (RT.pi_revA (by rfl) T.z_reversed (pv 3)) (pg_name (i := 4) scoccurrences.nd rfl (Or.inl rfl))
         (pss_one (ps_if (pt_val (pe_callB call_isi (by rfl) T.z_isinstance (by decide +kernel) (pa_cons (pv 4) (pa_cons (pe_bltn (v := .ty "tuple") (by rfl) T.z_tuple (by decide +kernel) rfl) pa_nil))))
          (pss_one (ps_expr (pe_bm PySem.F.plainAttrs_list PySem.F.slot_list_append PySem.F.type_list_append mt_append (pv 2) (pa_cons (pv 4) pa_nil))))
          pss_nil)))))))
      (pss_one (ps_ret (pv 1)))))), ?_⟩
    repeat walk_at "s"
    refine ⟨by walk_at "len", fun fo hfo => ?_⟩
    repeat walk_at "s"
    refine ⟨by walk_at "len", fun pe hpe => ?_⟩
    have nfp : fo ≠ pe := ne_of_none upd_same hpe
    have s1 : Same H (upd H fo (.lst [])) := fun b o e => by rw [upd_ne (ne_of_none e hfo)]; exact e
    have hpe0 := s1.free hpe
    repeat walk_at "s"
    refine w_while (fun m σ H' => ∃ (us ps : List V) (fs qs : List PyData) (y3 y4 : Option V), σ = [some v, some (.ref fo), some (.ref pe), y3, y4] ∧ H' fo = some (.lst us) ∧ H' pe = some (.lst ps) ∧ DsAt H us fs ∧ DsAt H ps qs ∧ (∀ q ∈ qs, isTup q = true) ∧ fs ++ occs qs.reverse = occ d ∧ m = (occs qs.reverse).length ∧ Same H H') (occ d).length ?_ ?_
    · refine ⟨[], [v], [], [d], none, none, rfl, ?_, upd_same, .nil, .cons hd .nil, ?_, ?_, ?_, ?_⟩
      · rw [upd_ne nfp]; exact upd_same
      · intro q hq; cases List.mem_singleton.mp hq; exact ht
      · show [] ++ (occ d ++ []) = occ d
        rw [List.append_nil, List.nil_append]
      · show _ = (occ d ++ []).length
        rw [List.append_nil]
      · intro b o e
        rw [upd_ne (ne_of_none (s1 b o e) hpe)]
        exact s1 b o e
    · rintro m σ H1 ⟨us, ps, fs, qs, y3, y4, rfl, e1, e2, a1, a2, htq, hoc, hm, sm⟩
      repeat walk_at "s"
      rcases List.eq_nil_or_concat qs with rfl | ⟨qs', x, rfl⟩
      · cases a2
        refine iteF ?_
        repeat walk_at "s"
        have e : fs = occ d := by rw [← hoc]; show fs = fs ++ []; rw [List.append_nil]
        exact q fo us H1 hfo sm e1 (e ▸ a1)
      · rw [List.concat_eq_append] at a2 htq hoc hm
        obtain ⟨ps', xs, rfl, a3, a4⟩ := a2.split
        cases a4 with
        | cons a4 a5 =>
        cases a5
        rename_i xv
        have eb : (!(ps' ++ [xv]).isEmpty) = true := by cases ps' <;> rfl
        rw [eb]
        refine iteT ?_
        refine ⟨fun σ' H' => ∃ m', m' < m ∧ ∃ (us ps : List V) (fs qs : List PyData) (y3 y4 : Option V), σ' = [some v, some (.ref fo), some (.ref pe), y3, y4] ∧ H' fo = some (.lst us) ∧ H' pe = some (.lst ps) ∧ DsAt H us fs ∧ DsAt H ps qs ∧ (∀ q ∈ qs, isTup q = true) ∧ fs ++ occs qs.reverse = occ d ∧ m' = (occs qs.reverse).length ∧ Same H H', fun _ _ h => h, ?_⟩
        have htx : isTup x = true := htq x (by simp)
        cases a4 with
        | @tup xa xvs xds hx hxs =>
        have efs : (fs ++ [PyData.tuple xds]) ++ (occs xds ++ occs qs'.reverse) = occ d := by
          rw [← hoc, List.reverse_append, List.append_assoc]
          rfl
        have lenle : fs.length + 1 + (occs xds).length + (occs qs'.reverse).length = (occ d).length := by
          rw [← efs]
          simp only [List.length_append, List.length_cons, List.length_nil]
          omega
        have ufl := a1.length
        have nfp' : pe ≠ fo := nfp.symm
        repeat walk_at "s"
        refine w_append (by walk_at "hp") (by exact Nat.lt_of_le_of_lt (show us.length ≤ 100000 by omega) (by decide)) ?_
        repeat walk_at "s"
        have n1 : xa ≠ fo := ne_of_none hx hfo
        have n2 : xa ≠ pe := ne_of_none hx hpe0
        have hx1 := sm _ _ hx
        have sm2 : Same H (upd (upd H1 pe (HO.lst ps')) fo (HO.lst (us ++ [V.ref xa]))) := fun b o e => by
          rw [upd_ne (ne_of_none e hfo), upd_ne (ne_of_none e hpe0)]
          exact sm b o e
        refine w_rvT (xs := xvs) (SqT.of (sm2 _ _ hx)) ?_
        refine RT.for_ItvT (xs := xvs) (fun i σ H2 => ∃ (ps2 : List V) (qs2 : List PyData) (y4 : Option V), σ = [some v, some (.ref fo), some (.ref pe), some (.ref xa), y4] ∧ H2 fo = some (.lst (us ++ [.ref xa])) ∧ H2 pe = some (.lst ps2) ∧ DsAt H ps2 qs2 ∧ (∀ q ∈ qs2, isTup q = true) ∧ occs qs2.reverse = occs (xds.drop (xvs.length - i)) ++ occs qs'.reverse ∧ Same H H2) ?_ ?_ ?_ ?_
        · refine ⟨ps', qs', y4, rfl, upd_same, ?_, a3, fun q hq => htq q (by simp [hq]), ?_, sm2⟩
          · rw [upd_ne nfp']; exact upd_same
          · rw [Nat.sub_zero, hxs.length, List.drop_length]; rfl
        · rintro i σ H2 ⟨_, _, _, _, _, _, _, _, _, s2⟩
          exact SqT.of (s2 _ _ hx)
        · rintro i y σ H2 hi hy ⟨ps2, qs2, y4, rfl, f1, f2, b1, b2, b3, s2⟩
          obtain ⟨dy, hdy, hyd⟩ := hxs.get hy
          have hyd2 := hyd.mono (Tk.same s2)
          have hj : xvs.length - 1 - i = xvs.length - (i + 1) := by omega
          have hdrop : xds.drop (xvs.length - (i + 1)) = dy :: xds.drop (xvs.length - i) := by
            rw [← hj, List.drop_eq_getElem?_toList_append, hdy]
            have : xvs.length - 1 - i + 1 = xvs.length - i := by omega
            rw [this]
            rfl
          repeat walk_at "s"
          cases hty : isTup dy with
          | true =>
            have hlen2 : ps2.length < sizeLine := by
              have h1 := occs_len qs2.reverse (fun q hq => b2 q (List.mem_reverse.mp hq))
              have h2 := b1.length
              have h3 : (occs (xds.drop (xvs.length - i))).length ≤ (occs xds).length := by
                have e := occs_app (xds.take (xvs.length - i)) (xds.drop (xvs.length - i))
                rw [List.take_append_drop] at e
                rw [e, List.length_append]
                omega
              rw [b3, List.length_append, List.length_reverse] at h1
              exact Nat.lt_of_le_of_lt (show ps2.length ≤ 100000 by omega) (by decide)
            refine iteT ?_
            repeat walk_at "s"
            refine w_append f2 hlen2 ?_
            repeat walk_at "s"
            refine ⟨ps2 ++ [y], qs2 ++ [dy], _, rfl, ?_, upd_same, b1.app (.cons hyd .nil), ?_, ?_, fun b o e => ?_⟩
            · rw [upd_ne nfp]; exact f1
            · intro q hq
              rcases List.mem_append.mp hq with h | h
              · exact b2 q h
              · cases List.mem_singleton.mp h; exact hty
            · rw [hdrop, List.reverse_append]
              show occ dy ++ occs qs2.reverse = (occ dy ++ occs (xds.drop (xvs.length - i))) ++ occs qs'.reverse
              rw [b3, List.append_assoc]
            · rw [upd_ne (ne_of_none e hpe0)]
              exact s2 b o e
          | false =>
            refine iteF ?_
            refine ⟨ps2, qs2, _, rfl, f1, f2, b1, b2, ?_, s2⟩
            rw [b3, hdrop]
            show _ = (occ dy ++ _) ++ _
            rw [occ_not hty]
            rfl
        · rintro σ H2 ⟨ps2, qs2, y4, rfl, f1, f2, b1, b2, b3, s2⟩
          rw [Nat.sub_self, List.drop_zero] at b3
          have hz : (occs qs2.reverse).length < m := by
            rw [hm, b3, List.reverse_append]
            show _ < ((PyData.tuple xds :: occs xds) ++ occs qs'.reverse).length
            simp only [List.length_append, List.length_cons]
            omega
          refine ⟨_, hz, us ++ [.ref xa], ps2, fs ++ [.tuple xds], qs2, _, y4, rfl, f1, f2, a1.app (.cons (.tup hx hxs) .nil), b1, b2, ?_, rfl, s2⟩
          rw [b3]
          exact efs
        | _ => cases htx
end
/-! ### the size -/
def sp_size : Sp := fun vs H Q _ => ∃ (v : V) (d : PyData), vs = [v] ∧ DAt H v d ∧ isTup d = true ∧ (occ d).length ≤ 100000 ∧ ∀ H', Same H H' → Q (.int (occ d).length) H'
section
variable {P : Program} {w : World} {K : PySem.W.Frag} {mg : Str → Option Value} {base : Heap}
theorem oksize (T : Top K mg) : FnOk P w K mg base CX0 2 T.fsize T.dsize ["term"] sp_size := by
  refine T.Fsize.ok scsize (fun vs H Q E h => ?_) (fun cdv A outer s H vs Q E hr h => ?_)
  · obtain ⟨v, d, rfl, _⟩ := h
    rfl
  · obtain ⟨v, d, rfl, hd, ht, hl, q⟩ := h
    refine ⟨_, (pss_one (ps_ret (pe_callB call_len_seq (by rfl) T.z_len (by decide +kernel) (pa_cons (pe_call (okoccurrences T) hr (by rfl) T.goccurrences T.Foccurrences.kp T.boccurrences .nil pass0 (pa_cons (pv 0) pa_nil)) pa_nil)))), ?_⟩
    repeat walk_at "s"
    refine ⟨v, d, rfl, hd, ht, hl, fun l us H1 _ sm e1 a1 => ?_⟩
    repeat walk_at "s"
    rw [a1.length]
    exact q H1 sm
end
/-! ### is_ground; the keys of the nodes -/
theorem vt_pre {d : PyData} (h : Vt d) (hs : sz d ≤ 20000) : (occ d).length ≤ 100000 ∧ ∀ e ∈ occ d, (wr e).length ≤ 1000000 := by
  refine ⟨Nat.le_trans hs (by decide), fun e he => ?_⟩
  obtain ⟨h1, h2⟩ := vt_occ h e he
  have := vt_len h1
  omega
def isVar : PyData → Bool
  | .tuple (.str k :: _) => decide (k = "var")
  | _ => false
def sp_ground : Sp := fun vs H Q _ => ∃ (v : V) (d : PyData), vs = [v] ∧ DAt H v d ∧ Vt d ∧ sz d ≤ 20000 ∧ ∀ H', Same H H' → Q (.bl ((occ d).all fun e => !isVar e)) H'
/-- a term's first item -/
theorem vt_head {H : Hp} {v : V} {d : PyData} (h : DAt H v d) (hv : Vt d) : ∃ (a : Addr) (k : Str) (us : List V), v = .ref a ∧ H a = some (.tup (.str k :: us)) ∧ isVar d = decide (k = "var") := by
  have key : ∀ (k : Str) (ds : List PyData), DAt H v (.tuple (.str k :: ds)) → ∃ (a : Addr) (k' : Str) (us : List V), v = .ref a ∧ H a = some (.tup (.str k' :: us)) ∧ isVar (.tuple (.str k :: ds)) = decide (k' = "var") := by
    intro k ds h
    cases h with
    | tup ha hs =>
      cases hs with
      | cons h1 h2 =>
        cases h1
        exact ⟨_, k, _, rfl, ha, rfl⟩
  cases hv <;> exact key _ _ h
section
variable {P : Program} {w : World} {K : PySem.W.Frag} {mg : Str → Option Value} {base : Heap}
theorem okis_ground (T : Top K mg) : FnOk P w K mg base CX0 2 T.fis_ground T.dis_ground ["term"] sp_ground := by
  refine T.Fis_ground.ok scis_ground (fun vs H Q E h => ?_) (fun cdv A outer s H vs Q E hr h => ?_)
  · obtain ⟨v, d, rfl, _⟩ := h
    rfl
  · obtain ⟨v, d, rfl, hd, hv, hs, q⟩ := h
    refine ⟨_, (pss_one (ps_ret (pe_callB (cr_all rfl) (by rfl) T.z_all (by decide +kernel) (pa_cons (pe_lc (own := [("node", 1)]) (g := gName 1) (by rfl) scis_ground.nd (pi_list (pe_call (okoccurrences T) hr (by rfl) T.goccurrences T.Foccurrences.kp T.boccurrences .nil pass0 (pa_cons (pv 0) pa_nil))) (blkOk_by (own := [("node", 1)]) (N := Nis_ground) (sc := defScope sis_ground) (by decide +kernel)) (fun _ _ _ _ _ => (pg_name (i := 1) scis_ground.nd rfl (Or.inl rfl))) (fun _ _ _ _ _ => pts_nil) (fun _ _ _ _ _ => (pe_cmpR op_ne (pe_ix (r := rIxT K) ix_tup (pv 1) pe_int (fun _ _ => rfl)) pe_str (nomark _)))) pa_nil)))), ?_⟩
    obtain ⟨h1, h2⟩ := vt_pre hv hs
    repeat walk_at "s"
    refine ⟨v, d, rfl, hd, hv.tup, h1, fun l us H1 hl0 s1 e1 a1 => ?_⟩
    repeat walk_at "s"
    intro D hD
    have sD : Same H1 (upd H1 D (.lst [])) := sm_new hD
    refine lc_list (K := K) (a := l) (xs := us) (fun i H2 => H2 D = some (.lst (((occ d).take i).map fun e => V.bl (!isVar e))) ∧ Same H1 H2) ⟨upd_same, sD⟩ (fun i H2 _ ⟨_, s2⟩ => SqL.of (s2 _ _ e1)) ?_ ?_
    · rintro i x H2 hi ⟨e2, s2⟩
      obtain ⟨e, he, hxe⟩ := a1.get hi
      have hem := List.mem_of_getElem? he
      have hi' : i < (occ d).length := (List.getElem?_eq_some_iff.mp he).1
      obtain ⟨a, k, ws, rfl, ha, hk⟩ := vt_head (hxe.mono (Tk.same (s1.trans s2))) (vt_occ hv e hem).1
      repeat walk_at "s"
      refine w_ixT (SqT.of ha) (atI_nat (j := 0) rfl) ?_
      repeat walk_at "s"
      refine ⟨_, e2, ?_, ?_, fun x o h => ?_⟩
      · rw [List.length_map, List.length_take]
        exact Nat.lt_of_le_of_lt (show _ ≤ 100000 by omega) (by decide)
      · rw [upd_same, List.take_add_one, he, List.map_append, ← hk]; rfl
      · rw [upd_ne (ne_of_none h hD)]
        exact s2 x o h
    · rintro H2 ⟨e2, s2⟩
      rw [a1.length, List.take_length] at e2
      have e2' : H2 D = some (.lst (((occ d).map fun e => !isVar e).map V.bl)) := by rw [e2, List.map_map]; rfl
      repeat walk_at "s"
      refine ⟨D, _, rfl, SqL.of e2', ?_⟩
      repeat walk_at "s"
      have eall : ((occ d).map fun e => !isVar e).all id = (occ d).all fun e => !isVar e := by rw [List.all_map]; rfl
      rw [eall]
      exact q H2 (s1.trans s2)
end
/-! ### forms of kinds -/
theorem frm_row {l k : Str} {ps : List Str} {ds : List PyData} (h : TopX.rowAt rowsP [l, k] = some ps) : frm l (.tuple (.str k :: ds)) = (decide (ds.length = ps.length) && frms ps (.str k) ds) := by
  show (match TopX.rowAt rowsP [l, k] with
    | some ps => decide (ds.length = ps.length) && frms ps (.str k) ds
    | none => false) = _
  rw [h]
theorem frms_nil {b : PyData} : frms [] b [] = true := rfl
theorem frms_lang {p : Str} {ps : List Str} {b d : PyData} {ds : List PyData} (h : isLang p = true) : frms (p :: ps) b (d :: ds) = (frm p d && frms ps d ds) := by
  show ((match isLang p with
    | true => frm p d
    | false => fitB d p b) && frms ps d ds) = _
  rw [h]
theorem frms_fit {p : Str} {ps : List Str} {b d : PyData} {ds : List PyData} (h : isLang p = false) : frms (p :: ps) b (d :: ds) = (fitB d p b && frms ps d ds) := by
  show ((match isLang p with
    | true => frm p d
    | false => fitB d p b) && frms ps d ds) = _
  rw [h]
theorem fit_nm {d b : PyData} : fitB d "name" b = nmD d := by
  have e : TopX.flAt fes_GREATEST_NUMBERS "name" = none := by decide +kernel
  unfold fitB
  rw [e]
  show (match decide ((("name" : Str)) = "later") with
    | true => nmD d && leD b d
    | false => nmD d) = _
  rw [show decide ((("name" : Str)) = "later") = false by decide +kernel]
theorem fit_later {d b : PyData} : fitB d "later" b = (nmD d && leD b d) := by
  have e : TopX.flAt fes_GREATEST_NUMBERS "later" = none := by decide +kernel
  unfold fitB
  rw [e]
  show (match decide ((("later" : Str)) = "later") with
    | true => nmD d && leD b d
    | false => nmD d) = _
  rw [show decide ((("later" : Str)) = "later") = true by decide +kernel]
theorem fit_num {d b : PyData} {p : Str} {g : Int} (h : TopX.flAt fes_GREATEST_NUMBERS p = some (.int g)) : fitB d p b = numD g d := by
  unfold fitB
  rw [h]
/-- a place by its code: n a name, r a number, s a session's number, t a term -/
def okc (c : Nat) (d : PyData) : Bool := if c = 110 then nmD d else if c = 114 then numD 999999 d else if c = 115 then numD 9 d else frm "term" d
def plOf (c : Nat) : Str := if c = 110 then "name" else if c = 114 then "number" else if c = 115 then "session" else "term"
def all2 : List Nat → List PyData → Bool
  | c :: cs, d :: ds => okc c d && all2 cs ds
  | _, _ => true
theorem frms_codes : ∀ (cs : List Nat) (b : PyData) (ds : List PyData), ds.length = cs.length → frms (cs.map plOf) b ds = all2 cs ds
  | [], b, [], _ => rfl
  | c :: cs, b, d :: ds, h => by
    have ih := frms_codes cs d ds (Nat.succ.inj h)
    rw [List.map_cons]
    show _ = (okc c d && all2 cs ds)
    by_cases h1 : c = 110
    · rw [show plOf c = "name" from if_pos h1, show okc c d = nmD d from if_pos h1, frms_fit (by decide +kernel), fit_nm, ih]
    · by_cases h2 : c = 114
      · rw [show plOf c = "number" from (if_neg h1).trans (if_pos h2), show okc c d = numD 999999 d from (if_neg h1).trans (if_pos h2), frms_fit (by decide +kernel), fit_num (g := 999999) (by rfl), ih]
      · by_cases h3 : c = 115
        · rw [show plOf c = "session" from (if_neg h1).trans ((if_neg h2).trans (if_pos h3)), show okc c d = numD 9 d from (if_neg h1).trans ((if_neg h2).trans (if_pos h3)), frms_fit (by decide +kernel), fit_num (g := 9) (by rfl), ih]
        · rw [show plOf c = "term" from (if_neg h1).trans ((if_neg h2).trans (if_neg h3)), show okc c d = frm "term" d from (if_neg h1).trans ((if_neg h2).trans (if_neg h3)), frms_lang (by decide +kernel), ih]
/-- the kinds that the law names, by their places -/
def kinds : List (Str × Str) := [("host", "n"), ("word", "n"), ("road", "r"), ("own", "n"), ("mark", "sn"), ("var", "sn"), ("pair", "tt"), ("lock", "tt"), ("digest", "t"), ("box", "tn"), ("stamp", "tn")]
theorem kinds_row : ∀ q ∈ kinds, TopX.rowAt rowsP ["term", q.1] = some ((cd q.2).map plOf) := by decide +kernel
theorem frm_kind {k z : Str} {ds : List PyData} (h : (k, z) ∈ kinds) (hl : ds.length = (cd z).length) : frm "term" (.tuple (.str k :: ds)) = all2 (cd z) ds := by
  rw [frm_row (kinds_row _ h), List.length_map, decide_eq_true hl, Bool.true_and, frms_codes _ _ _ hl]
theorem both_row : TopX.rowAt rowsP ["term", "both"] = some (["name", "later"] : List Str) := by decide +kernel
theorem frm_both {a b : PyData} : frm "term" (.tuple [.str "both", a, b]) = (nmD a && (nmD b && leD a b)) := by
  rw [frm_row both_row]
  show (true && frms ["name", "later"] (.str "both") [a, b]) = _
  rw [Bool.true_and, frms_fit (by decide +kernel), fit_nm, frms_fit (by decide +kernel), fit_later, frms_nil, Bool.and_true]
theorem nm_D {z : Str} (h : Nm z) : nmD (.str z) = true := isNm_iff.mpr h
theorem vt_frm {d : PyData} (h : Vt d) : frm "term" d = true := by
  induction h with
  | nm hk hz =>
    rename_i k z
    rw [frm_kind (z := "n") (by rcases hk with rfl | rfl | rfl <;> decide +kernel) rfl]
    show (okc 110 _ && true) = true
    rw [Bool.and_true]
    exact nm_D hz
  | @road n hn =>
    rw [frm_kind (k := "road") (z := "r") (by decide +kernel) rfl]
    show (okc 114 _ && true) = true
    rw [Bool.and_true]
    show (decide ((0 : Int) ≤ n) && decide ((n : Int) ≤ 999999)) = true
    rw [decide_eq_true (by omega), decide_eq_true (by omega)]
    rfl
  | both ha hb hab =>
    rw [frm_both, nm_D ha, nm_D hb]
    exact hab
  | @ms k z n hk hn hz =>
    rw [frm_kind (z := "sn") (by rcases hk with rfl | rfl <;> decide +kernel) rfl]
    show (okc 115 _ && (okc 110 _ && true)) = true
    rw [Bool.and_true, show okc 110 (.str z) = true from nm_D hz, Bool.and_true]
    show (decide ((0 : Int) ≤ n) && decide ((n : Int) ≤ 9)) = true
    rw [decide_eq_true (by omega), decide_eq_true (by omega)]
    rfl
  | two hk ha hb ia ib =>
    rw [frm_kind (z := "tt") (by rcases hk with rfl | rfl <;> decide +kernel) rfl]
    show (frm "term" _ && (frm "term" _ && true)) = true
    rw [ia, ib]
    rfl
  | dig ha ia =>
    rw [frm_kind (k := "digest") (z := "t") (by decide +kernel) rfl]
    show (frm "term" _ && true) = true
    rw [ia]
    rfl
  | nmd hk ha hz ia =>
    rw [frm_kind (z := "tn") (by rcases hk with rfl | rfl <;> decide +kernel) rfl]
    show (frm "term" _ && (nmD (PyData.str _) && true)) = true
    rw [ia, nm_D hz]
    rfl
theorem pd_tup {ds : List PyData} (hl : ds.length ≤ 1000) (h : pds ds = true) : pd (.tuple ds) = true := by
  show (decide (ds.length ≤ 1000) && pds ds) = true
  rw [decide_eq_true hl, h]
  rfl
theorem pd_str {z : Str} (h : z.length ≤ 1000) : pd (.str z) = true := decide_eq_true h
theorem pds_cons {d : PyData} {r : List PyData} (h : pd d = true) (hr : pds r = true) : pds (d :: r) = true := by
  show (pd d && pds r) = true
  rw [h, hr]
  rfl
theorem pd_nm {z : Str} (h : Nm z) : pd (.str z) = true := pd_str (Nat.le_trans h.hi (by decide))
theorem pd_kind {k : Str} (h : kg k ≠ 0) : pd (.str k) = true := pd_str (by rw [cd_len]; have := (kg_len h).1; omega)
theorem vt_pd {d : PyData} (h : Vt d) : pd d = true := by
  induction h with
  | nm hk hz => exact pd_tup (by simp) (pds_cons (pd_kind (by rw [kg1 hk]; decide)) (pds_cons (pd_nm hz) rfl))
  | road hn => exact pd_tup (by simp) (pds_cons (pd_kind (by rw [kg2]; decide)) rfl)
  | both ha hb hab => exact pd_tup (by simp) (pds_cons (pd_kind (by rw [kg3]; decide)) (pds_cons (pd_nm ha) (pds_cons (pd_nm hb) rfl)))
  | ms hk hn hz => exact pd_tup (by simp) (pds_cons (pd_kind (by rw [kg4 hk]; decide)) (pds_cons rfl (pds_cons (pd_nm hz) rfl)))
  | two hk ha hb ia ib => exact pd_tup (by simp) (pds_cons (pd_kind (by rw [kg5 hk]; decide)) (pds_cons ia (pds_cons ib rfl)))
  | dig ha ia => exact pd_tup (by simp) (pds_cons (pd_kind (by rw [kg6]; decide)) (pds_cons ia rfl))
  | nmd hk ha hz ia => exact pd_tup (by simp) (pds_cons (pd_kind (by rw [kg7 hk]; decide)) (pds_cons ia (pds_cons (pd_nm hz) rfl)))
/-! ### what a key is -/
theorem sr_nm {a b x y : Str} (h : Sr a b x y) (ha : Nm a) (hb : Nm b) : Nm x ∧ Nm y := by
  have q : ∀ z ∈ ([x, y] : List Str), Nm z := fun z hz => by
    rcases List.mem_cons.mp (h.1.mem_iff.mp hz) with rfl | hz
    · exact ha
    · cases List.mem_singleton.mp hz; exact hb
  exact ⟨q x (by simp), q y (by simp)⟩
theorem sr_le {a b x y : Str} (h : Sr a b x y) : leS x y = true := by
  have p := (List.pairwise_cons.mp (sorted_pw _ h.2)).1 y (by simp)
  unfold leS
  rw [decide_eq_false (show ¬ y.cps.toList < x.cps.toList from p)]
  rfl
theorem Sr.swap {a b x y : Str} (h : Sr a b x y) : Sr b a x y := ⟨h.1.trans (List.Perm.swap ..), h.2⟩
theorem keyF {a b x y : Str} (h : Sr a b x y) (ha : Nm a) (hb : Nm b) : ∀ n : Nat, Vt (keyD (bth x y) n) ∧ (occ (keyD (bth x y) n)).length = 1 + 3 * n ∧ ((occ (keyD (bth x y) n)).all fun e => !isVar e) = true
  | 0 => ⟨.both (sr_nm h ha hb).1 (sr_nm h ha hb).2 (sr_le h), rfl, by
    show ((occ (.tuple [.str "both", .str x, .str y])).all fun e => !isVar e) = true
    rw [occ_3s]
    show (!decide ((("both" : Str)) = "var") && true) = true
    rw [show decide ((("both" : Str)) = "var") = false by decide +kernel]
    rfl⟩
  | n + 1 => by
    obtain ⟨h1, h2, h3⟩ := keyF h ha hb n
    have e : occ (keyD (bth x y) (n + 1)) = keyD (bth x y) (n + 1) :: .tuple [.str "pair", keyD (bth x y) n, .tuple [.str "word", .str "next"]] :: (occ (keyD (bth x y) n) ++ [.tuple [.str "word", .str "next"]]) := by
      show occ (.tuple [.str "digest", .tuple [.str "pair", keyD (bth x y) n, .tuple [.str "word", .str "next"]]]) = _
      rw [occ_2s, occ_3s, occ_2s]
      rfl
    refine ⟨.dig (.two (.inl rfl) h1 (.nm (.inr (.inl rfl)) ⟨by decide +kernel, by decide +kernel, by decide +kernel⟩)), ?_, ?_⟩
    · rw [e, List.length_cons, List.length_cons, List.length_append, h2, List.length_singleton]; omega
    · rw [e, List.all_cons, List.all_cons, List.all_append, h3]
      show (!decide ((("digest" : Str)) = "var") && (!decide ((("pair" : Str)) = "var") && (true && (!decide ((("word" : Str)) = "var") && true)))) = true
      rw [show decide ((("digest" : Str)) = "var") = false by decide +kernel, show decide ((("pair" : Str)) = "var") = false by decide +kernel, show decide ((("word" : Str)) = "var") = false by decide +kernel]
      rfl
theorem dq_mono : ∀ {n m : Nat} {d : PyData}, Dq n d → n ≤ m → Dq m d
  | 0, _, _, h, _ => h.elim
  | n + 1, 0, _, _, h => absurd h (by omega)
  | n + 1, m + 1, d, h, hm => by
    rcases h with h | h | h | ⟨ds, e, hl, ha⟩
    · exact .inl h
    · exact .inr (.inl h)
    · exact .inr (.inr (.inl h))
    · exact .inr (.inr (.inr ⟨ds, e, hl, fun x hx => dq_mono (ha x hx) (by omega)⟩))
theorem dq_str {n : Nat} {z : Str} : Dq (n + 1) (.str z) := .inl ⟨z, rfl⟩
theorem dq_int {n : Nat} {z : Int} : Dq (n + 1) (.int z) := .inr (.inl ⟨z, rfl⟩)
theorem dq_tup {n : Nat} {ds : List PyData} (hl : ds.length ≤ 500) (h : ∀ e ∈ ds, Dq n e) : Dq (n + 1) (.tuple ds) := .inr (.inr (.inr ⟨ds, rfl, hl, h⟩))
theorem dq_key {x y : Str} : ∀ k : Nat, Dq (2 * k + 2) (keyD (bth x y) k)
  | 0 => dq_tup (by show 3 ≤ 500; decide) fun e he => by
    simp only [List.mem_cons, List.not_mem_nil, or_false] at he
    rcases he with rfl | rfl | rfl <;> exact dq_str
  | k + 1 => by
    show Dq ((2 * k + 2 + 1) + 1) (.tuple [.str "digest", .tuple [.str "pair", keyD (bth x y) k, .tuple [.str "word", .str "next"]]])
    refine dq_tup (by show 2 ≤ 500; decide) fun e he => ?_
    simp only [List.mem_cons, List.not_mem_nil, or_false] at he
    rcases he with rfl | rfl
    · exact dq_str
    · refine dq_tup (by show 3 ≤ 500; decide) fun e he => ?_
      simp only [List.mem_cons, List.not_mem_nil, or_false] at he
      rcases he with rfl | rfl | rfl
      · exact dq_str
      · exact dq_key k
      · refine dq_tup (n := 2 * k + 1) (by show 2 ≤ 500; decide) fun e he => ?_
        simp only [List.mem_cons, List.not_mem_nil, or_false] at he
        rcases he with rfl | rfl <;> exact dq_str
theorem dq_key30 {x y : Str} {k : Nat} (h : k ≤ 13) : Dq 30 (keyD (bth x y) k) := dq_mono (dq_key k) (by omega)
theorem dq_lk {x y : Str} {l : Int × Int × Str} (h : l.1.toNat ≤ 13) : Dq 31 (lkD (bth x y) l) := by
  unfold lkD
  refine dq_tup (by show 3 ≤ 500; decide) fun e he => ?_
  simp only [List.mem_cons, List.not_mem_nil, or_false] at he
  rcases he with rfl | rfl | rfl
  · exact dq_str
  · refine dq_tup (by show 3 ≤ 500; decide) fun e he => ?_
    simp only [List.mem_cons, List.not_mem_nil, or_false] at he
    rcases he with rfl | rfl | rfl
    · exact dq_str
    · refine dq_tup (n := 28) (by show 2 ≤ 500; decide) fun e he => ?_
      simp only [List.mem_cons, List.not_mem_nil, or_false] at he
      rcases he with rfl | rfl
      · exact dq_str
      · exact dq_int
    · refine dq_tup (n := 28) (by show 3 ≤ 500; decide) fun e he => ?_
      simp only [List.mem_cons, List.not_mem_nil, or_false] at he
      rcases he with rfl | rfl | rfl
      · exact dq_str
      · exact dq_int
      · exact dq_str
  · exact dq_key30 h
theorem dq_ld {n : Nat} {l : Int × Int × Str} : Dq (n + 2) (ld l) := by
  unfold ld
  refine dq_tup (by show 3 ≤ 500; decide) fun e he => ?_
  simp only [List.mem_cons, List.not_mem_nil, or_false] at he
  rcases he with rfl | rfl | rfl
  · exact dq_int
  · exact dq_int
  · exact dq_str
/-! ### o.m(k = v, ..), nothing by position -/
section
variable {X : Cx} {CX : CXT} {k : Nat} {C f : Addr} {fd : FuncData} {ps ks : List Str} {sp : Sp} {E : XK} {o : Expr} {ta : TE} {tk : TA} {m : Str} {apos pos : Pos} {kws : List Keyword}
def tMethK (C : Addr) (m : Str) (n : Nat) (sp : Sp) (E : XK) (ta : TE) (tk : TA) : TE := fun σ H Q => ta σ H fun x H1 =>
  ∃ a dx fs, x = .ref a ∧ H1 a = some (.ins C dx fs) ∧ fs.lookup m = none ∧ tk σ H1 fun zs H2 => zs.length = n ∧ sp (x :: zs) H2 Q E
theorem pe_methK {pl : Sem Bool} (he : PE X o ta) (c : Cls X.K C) (hm : Meth X.K C m f) (F : FnOk X.prog X.w X.K X.mg X.base CX k f fd ps sp) (hr : Room k X.A)
    (hb : ∀ (s : Shared) (u : Value) (ws : List Value), ws.length = ks.length → BindsTo s fd ⟨[u], ks.zip ws⟩ (ps.zip (u :: ws))) (hx : Passes CX X E) (hkw : PK X kws tk)
    (hall : (backToKw pos (keywordEach kws X.env)).all (·.1.isSome) = true := by rfl) (hks : (backToKw pos (keywordEach kws X.env)).filterMap (·.1) = ks := by rfl)
    (hpl : ((backTo pos (starEach [] X.env)).any (·.1) || (backToKw pos (keywordEach kws X.env)).any (·.1.isNone)) = false := by rfl)
    (ht : eval (.Call (.Attribute o m apos) [] kws pos) X.env = (do
      let v ← eval o X.env
      standAt apos.atName
      let (g, u) ← holding [v] (getMethod v m pl)
      callWith pos g u (backTo pos (starEach [] X.env)) (backToKw pos (keywordEach kws X.env))) := by rfl) :
    PE X (.Call (.Attribute o m apos) [] kws pos) (tMethK C m ks.length sp E ta tk) := by
  refine ⟨fun pins s σ H Q I h => PySem.W.methodCall_KW (pl := pl) (thn (he.run pins s σ H _ I h) fun u s1 z => ?_) ht⟩
  obtain ⟨x, H1, I1, rx, a, dx, fs, rfl, ea, l, q⟩ := z
  cases (show u = Value.ref a from rx)
  refine getmeth_ok I1 ea c hm l (PySem.W.callWith_KW0 (first := [.ref a]) (h₀ := X.base) I.ok.mod.kin hm.kp hall (thn (hkw.run pos pins s1 σ H1 _ I1 q) fun ws s2 z => ?_) hpl)
  obtain ⟨zs, H2, I2, rz, hl, q2⟩ := z
  refine ⟨I2.kIn, ?_⟩
  rw [hks]
  refine wpAny_call (codeAny_mono (F.run X.A X.stack s2 H2 ⟨[.ref a], ks.zip ws⟩ (.ref a :: ws) (.ref a :: zs) Q E hr I2.env0 (hb s2 (.ref a) ws (rz.length.symm.trans hl)) (.cons rfl rz) q2) fun r s' w => ?_)
  match r, w with
  | .error e, w => exact hx pins σ H2 s2 e s' I2 w
  | .ok (.ret u), w => exact I2.after w
end
/-! ### x[1::-1] of a list with two items or more -/
theorem back_bounds (n : Nat) : sliceBounds (some 1) none (some (-1)) (n + 2) = (1, -1, -1) := by
  have h : ¬ ((1 : Int) > ((n + 2 : Nat) : Int) - 1 ∧ n = n) ∨ True := .inr True.intro
  simp [sliceBounds]
  omega
theorem back_two (a b : Value) (r : List Value) : slicePick (a :: b :: r).toArray (some 1) none (some (-1)) = #[b, a] := by
  unfold slicePick
  rw [List.size_toArray, List.length_cons, List.length_cons, back_bounds]
  rfl
def tRevO (K : PySem.W.Frag) (te : TE) : TE := fun σ H Q => te σ H fun x H1 => ∃ a u v r, x = .ref a ∧ SqL K H1 a (u :: v :: r) ∧ ∀ p, H1 p = none → Q (.ref p) (upd H1 p (.lst [v, u]))
theorem pe_revO {X : Cx} {e : Expr} {te : TE} {k k1 : Nat} {p0 p1 p2 p3 pos : Pos} (he : PE X e te) : PE X (.Subscript e (.Slice (some (.Constant (.int 1) k1 p0)) none (some (.UnaryOp .USub (.Constant (.int 1) k p1) p2)) p3) pos) (tRevO X.K te) where
  run := fun pins s σ H Q I h => Subscript_ (thn (he.run pins s σ H _ I h) fun v s1 got => by
    obtain ⟨_, H1, J, rv, a, u0, v0, r0, rfl, sq, q⟩ := got
    obtain rfl : v = Value.ref a := rv
    have one : PO X (some (.Constant (.int 1) k1 p0)) _ := po_some pe_int
    have off := po_none (X := X)
    have neg : PO X (some (.UnaryOp .USub (.Constant (.int 1) k p1) p2)) _ := po_some (pe_un un_neg pe_int)
    refine wpAny_Slice (thn (one.run pins s1 σ H1 (fun o G => o = some 1 ∧ G = H1) J ⟨1, rfl, rfl, rfl⟩) fun v1 s2 ⟨o1, G1, J1, part1, e1, g1⟩ => ?_)
    subst e1 g1
    refine thn (off.run pins s2 σ G1 (fun o G => o = none ∧ G = G1) J1 ⟨rfl, rfl⟩) fun v2 s3 ⟨o2, G2, J2, part2, e2, g2⟩ => ?_
    subst e2 g2
    refine thn (neg.run pins s3 σ G2 (fun o G => o = some (-1) ∧ G = G2) J2 ⟨1, rfl, -1, rfl, rfl, rfl⟩) fun v3 s4 ⟨o3, G3, J3, part3, e3, g3⟩ => ?_
    subst e3 g3
    have J4 : Inv X pins σ G3 { s4 with heap := s4.heap.push { cls := .type "slice", data := .fields #[v1, v2, v3] } } := Inv.kept (t' := s4.toks) J3 fun b ob there => Heap.get?_push_of_some _ there
    have ⟨its, rel, there, most⟩ := J4.list sq
    have len := rel.length
    cases rel with
    | cons ra rel =>
    cases rel with
    | cons rb rel =>
    refine tail_any (ops := [.ref a, .ref s4.heap.objs.size]) there.isList.typeIs (PySem.slot_list_getitem.lookup) ?_ (by with_unfolding_all rfl)
    refine wpAny_getItem_list_slice there.isList (Heap.IsSliceOf.new _ v1 v2 v3) part1 part2 part3 (by decide) ?_ (by rw [List.size_toArray]; omega)
    rw [back_two]
    exact ⟨.ref _, _, J4.laid (t' := s4.toks) (o := .lst [v0, u0]) (fun b ob there => Heap.get?_push_of_some _ there) (Nat.le_refl _) ⟨by show 2 ≤ sizeLine; decide, _, 0, .cons rb (.cons ra .nil), Heap.get?_push_size _ rfl⟩, rfl, q _ (J4.hok.fresh (Nat.le_refl _))⟩)
theorem w_revO {K : PySem.W.Frag} {te : TE} {σ : L2.St} {H : Hp} {Q : VK} (q : te σ H fun x H1 => ∃ a u v r, x = .ref a ∧ SqL K H1 a (u :: v :: r) ∧ ∀ p, H1 p = none → Q (.ref p) (upd H1 p (.lst [v, u]))) : tRevO K te σ H Q := q
/-! ### the law's world: two tunnels -/
theorem j2S {c : Prop} [Decidable c] {t u : Ends → L2.St → Hp → Prop} {D : Ends} {σ : L2.St} {H : Hp} (J : L2.St → Hp → Prop) (k : ∀ σ1 H1, J σ1 H1 → D.nx σ1 H1) (h : ∀ nx : L2.St → Hp → Prop, (∀ σ1 H1, J σ1 H1 → nx σ1 H1) → if c then t { D with nx := nx } σ H else u { D with nx := nx } σ H) : if c then t D σ H else u D σ H := h D.nx k
theorem w_methK {C : Addr} {m : Str} {n : Nat} {sp : Sp} {E : XK} {ta : TE} {tk : TA} {σ : L2.St} {H : Hp} {Q : VK} (q : ta σ H fun x H1 => ∃ a dx fs, x = .ref a ∧ H1 a = some (.ins C dx fs) ∧ fs.lookup m = none ∧ tk σ H1 fun zs H2 => zs.length = n ∧ sp (x :: zs) H2 Q E) : tMethK C m n sp E ta tk σ H Q := q
def Lts (H : Hp) (ll : Addr) (L : List (Int × Int × Str)) : Prop := ∃ us, H ll = some (.lst us) ∧ DsAt H us (L.map ld)
theorem Tun.fr {C : Addr} {b : TD} {H H' : Hp} {S : TS} (T : Tun C b H S) (tk : Tk H H') (go : ∀ x ∈ ft b, ∀ o, H x = some o → H' x = some o) : Tun C b H' S := by
  obtain ⟨us, h, d⟩ := T.lt
  exact ⟨go _ (by simp [ft]) _ T.ins, ⟨us, go _ (by simp [ft]) _ h, d.mono tk⟩, tk _ _ T.cs, go _ (by simp [ft]) _ T.e0, go _ (by simp [ft]) _ T.e1, tk _ _ T.ts, go _ (by simp [ft]) _ T.rv, T.nd, T.nl⟩
def upF {α : Type} (f : Fin 2 → α) (i : Fin 2) (v : α) : Fin 2 → α := fun j => if j = i then v else f j
theorem upF_eq {α : Type} {f : Fin 2 → α} {i : Fin 2} {v : α} : upF f i v i = v := if_pos rfl
theorem upF_ne {α : Type} {f : Fin 2 → α} {i j : Fin 2} {v : α} (h : j ≠ i) : upF f i v j = f j := if_neg h
def Kp (o : Addr → Nat) (k : Nat) (H H' : Hp) : Prop := Tk H H' ∧ ∀ x u, H x = some u → o x ≠ k → H' x = some u
theorem Kp.same {o : Addr → Nat} {H H' : Hp} (s : Same H H') : Kp o 100 H H' := ⟨Tk.same s, fun x u h _ => s x u h⟩
theorem Kp.cell {o : Addr → Nat} {H : Hp} {q : Addr} {us vs : List V} (h : H q = some (.lst us)) : Kp o (o q) H (upd H q (.lst vs)) := ⟨Tk.upd fun vs' e => (by rw [h] at e; cases e), fun x u e n => by rw [upd_ne (fun z => n (by rw [z]))]; exact e⟩
def ext (o : Addr → Nat) (i : Nat) (H : Hp) : Addr → Nat := fun x => match H x with | none => i | some _ => o x
theorem ext_eq {o : Addr → Nat} {i : Nat} {H : Hp} {x : Addr} {u : HO} (h : H x = some u) : ext o i H x = o x := by unfold ext; rw [h]
theorem ext_none {o : Addr → Nat} {i : Nat} {H : Hp} {x : Addr} (h : H x = none) : ext o i H x = i := by unfold ext; rw [h]
structure Ads where
  ll : Addr
  sl : Addr
  pl : Addr
  nl : Addr
  kl : Addr
  pr : Addr
  nms : List V
  ks : List V
  ps : Fin 2 → Addr
structure Wd (C : Addr) (o : Addr → Nat) (A : Fin 2 → TD) (D : Ads) (b : PyData) (H : Hp) (S : Fin 2 → TS) (L : List (Int × Int × Str)) (ep snt : Int) : Prop where
  t : ∀ i, Tun C (A i) H (S i)
  ow : ∀ i, ∀ x ∈ ft (A i), o x = i.val
  ol : o D.ll = 4 ∧ o D.sl = 7 ∧ o D.pl = 8 ∧ o D.nl = 9 ∧ o D.kl = 9 ∧ o D.pr = 9
  l : Lts H D.ll L
  s : H D.sl = some (.lst [.int ep, .int snt])
  p : Pil H D.pl
  n : H D.nl = some (.lst D.nms)
  k : H D.kl = some (.lst D.ks)
  kd : DsAt H D.ks ((List.range 13).map (keyD b))
  r : H D.pr = some (.lst [.ref (D.ps 0), .ref (D.ps 1)])
  pa : ∀ i, (A i).p = D.ps i
section
variable {C : Addr} {o : Addr → Nat} {A : Fin 2 → TD} {D : Ads} {b : PyData} {H H' : Hp} {S : Fin 2 → TS} {L : List (Int × Int × Str)} {ep snt : Int}
theorem Wd.ts (W : Wd C o A D b H S L ep snt) {k : Nat} (K : Kp o k H H') (hk : 3 ≤ k) (i : Fin 2) : Tun C (A i) H' (S i) := (W.t i).fr K.1 fun x hx u h => K.2 x u h (by rw [W.ow i x hx]; have := i.isLt; omega)
theorem Kp.lts {k : Nat} {q : Addr} (K : Kp o k H H') (h : Lts H q L) (n : o q ≠ k) : Lts H' q L := by
  obtain ⟨us, h1, h2⟩ := h
  exact ⟨us, K.2 _ _ h1 n, h2.mono K.1⟩
theorem Kp.pil {k : Nat} {q : Addr} (K : Kp o k H H') (h : Pil H q) (n : o q ≠ k) : Pil H' q := by
  obtain ⟨m, ns, h1, h2⟩ := h
  exact ⟨m, ns, K.2 _ _ h1 n, h2⟩
theorem Wd.tun (W : Wd C o A D b H S L ep snt) (i : Fin 2) {a' : TD} {S' : TS} (hp : a'.p = D.ps i) (f : Frm (ft (A i)) H H') (ow : Own (ft (A i)) H (ft a')) (T : Tun C a' H' S') : Wd C (ext o i.val H) (upF A i a') D b H' (upF S i S') L ep snt := by
  have K : Kp o i.val H H' := ⟨fun x vs hx => f x _ hx fun hF => (W.t i).notup x hF vs hx, fun x u h n => f x u h fun hF => n (W.ow i x hF)⟩
  obtain ⟨q4, q7, q8, q9, q10, q11⟩ := W.ol
  have hi := i.isLt
  obtain ⟨us, hl1, hl2⟩ := W.l
  obtain ⟨pn, pns, hp1, hp2⟩ := W.p
  refine ⟨fun j => ?_, fun j x hx => ?_, ⟨?_, ?_, ?_, ?_, ?_, ?_⟩, K.lts W.l (by omega), K.2 _ _ W.s (by omega), K.pil W.p (by omega), K.2 _ _ W.n (by omega), K.2 _ _ W.k (by omega), W.kd.mono K.1, K.2 _ _ W.r (by omega), fun j => ?_⟩
  · by_cases e : j = i
    · subst e; rw [upF_eq, upF_eq]; exact T
    · rw [upF_ne e, upF_ne e]
      exact (W.t j).fr K.1 fun x hx u h => K.2 x u h (by rw [W.ow j x hx]; intro z; exact e (Fin.ext z))
  · by_cases e : j = i
    · subst e
      rw [upF_eq] at hx
      cases hu : H x with
      | none => exact ext_none hu
      | some u =>
        rw [ext_eq hu]
        rcases ow x hx with h | h
        · exact W.ow j x h
        · rw [h] at hu; cases hu
    · rw [upF_ne e] at hx
      have := (W.t j).there x hx
      cases hu : H x with
      | none => exact absurd hu this
      | some u => rw [ext_eq hu]; exact W.ow j x hx
  · rw [ext_eq hl1]; exact q4
  · rw [ext_eq W.s]; exact q7
  · rw [ext_eq hp1]; exact q8
  · rw [ext_eq W.n]; exact q9
  · rw [ext_eq W.k]; exact q10
  · rw [ext_eq W.r]; exact q11
  · by_cases e : j = i
    · subst e; rw [upF_eq]; exact hp
    · rw [upF_ne e]; exact W.pa j
theorem Wd.same (W : Wd C o A D b H S L ep snt) (s : Same H H') : Wd C o A D b H' S L ep snt := by
  obtain ⟨q4, q7, q8, q9, q10, q11⟩ := W.ol
  have K : Kp o 100 H H' := Kp.same s
  obtain ⟨us, hl1, hl2⟩ := W.l
  exact ⟨W.ts K (by omega), W.ow, W.ol, ⟨us, s _ _ hl1, hl2.mono K.1⟩, s _ _ W.s, W.p.same s, s _ _ W.n, s _ _ W.k, W.kd.mono K.1, s _ _ W.r, W.pa⟩
theorem Wd.sl (W : Wd C o A D b H S L ep snt) {ep' snt' : Int} : Wd C o A D b (upd H D.sl (.lst [.int ep', .int snt'])) S L ep' snt' := by
  obtain ⟨q4, q7, q8, q9, q10, q11⟩ := W.ol
  have K := Kp.cell (o := o) (vs := [.int ep', .int snt']) W.s
  exact ⟨W.ts K (by omega), W.ow, W.ol, K.lts W.l (by omega), upd_same, K.pil W.p (by omega), K.2 _ _ W.n (by omega), K.2 _ _ W.k (by omega), W.kd.mono K.1, K.2 _ _ W.r (by omega), W.pa⟩
theorem Wd.ll (W : Wd C o A D b H S L ep snt) {us vs : List V} {L' : List (Int × Int × Str)} (h : H D.ll = some (.lst us)) (d : DsAt H vs (L'.map ld)) : Wd C o A D b (upd H D.ll (.lst vs)) S L' ep snt := by
  obtain ⟨q4, q7, q8, q9, q10, q11⟩ := W.ol
  have K := Kp.cell (o := o) (vs := vs) h
  exact ⟨W.ts K (by omega), W.ow, W.ol, ⟨vs, upd_same, d.mono K.1⟩, K.2 _ _ W.s (by omega), K.pil W.p (by omega), K.2 _ _ W.n (by omega), K.2 _ _ W.k (by omega), W.kd.mono K.1, K.2 _ _ W.r (by omega), W.pa⟩
theorem Wd.pl (W : Wd C o A D b H S L ep snt) (g : Gp D.pl H H') : Wd C o A D b H' S L ep snt := by
  obtain ⟨q4, q7, q8, q9, q10, q11⟩ := W.ol
  obtain ⟨pn, pns, hp1, hp2⟩ := W.p
  have K : Kp o 8 H H' := ⟨fun x vs hx => g.fr x _ hx (fun z => (by subst z; rw [hp1] at hx; cases hx)), fun x u h n => g.fr x u h (fun z => n (by rw [z]; exact q8))⟩
  exact ⟨W.ts K (by omega), W.ow, W.ol, K.lts W.l (by omega), K.2 _ _ W.s (by omega), g.pl, K.2 _ _ W.n (by omega), K.2 _ _ W.k (by omega), W.kd.mono K.1, K.2 _ _ W.r (by omega), W.pa⟩
end
/-! ### the law's letters -/
structure Nu (S : Fin 2 → TS) (L : List (Int × Int × Str)) (ep snt : Int) (a b x y : Str) (M : Nat) : Prop where
  ls : ∀ i, (S i).ls = L
  epp : ∀ i, (S i).ep = ep
  sn : ∀ i, (S i).snt = snt
  c0 : ∀ i, (S i).c0.length ≤ M
  c1 : ∀ i, (S i).c1.length ≤ M
  rc : ∀ i, (S i).rc.length ≤ M
  lm : L.length ≤ M
  e0 : 0 ≤ ep
  e1 : ep ≤ 12
  le : ∀ l ∈ L, 0 ≤ l.1 ∧ l.1 ≤ 12
  n1 : (S 0).n1 = a
  n2 : (S 0).n2 = b
  n3 : (S 1).n1 = b
  n4 : (S 1).n2 = a
  sr : Sr a b x y
theorem fin2 {p : Fin 2 → Prop} (h0 : p 0) (h1 : p 1) : ∀ i, p i := fun i => by
  have : i = 0 ∨ i = 1 := by
    have := i.isLt
    rcases i with ⟨_ | _ | _, h⟩
    · exact .inl rfl
    · exact .inr rfl
    · omega
  rcases this with rfl | rfl
  · exact h0
  · exact h1
theorem Nu.srS {S : Fin 2 → TS} {L : List (Int × Int × Str)} {ep snt : Int} {a b x y : Str} {M : Nat} (N : Nu S L ep snt a b x y M) : ∀ i, Sr (S i).n1 (S i).n2 x y := fin2 (p := fun i => Sr (S i).n1 (S i).n2 x y) (by rw [N.n1, N.n2]; exact N.sr) (by rw [N.n3, N.n4]; exact N.sr.swap)
theorem Nu.mono {S : Fin 2 → TS} {L : List (Int × Int × Str)} {ep snt : Int} {a b x y : Str} {M M' : Nat} (N : Nu S L ep snt a b x y M) (h : M ≤ M') : Nu S L ep snt a b x y M' :=
  ⟨N.ls, N.epp, N.sn, fun i => Nat.le_trans (N.c0 i) h, fun i => Nat.le_trans (N.c1 i) h, fun i => Nat.le_trans (N.rc i) h, Nat.le_trans N.lm h, N.e0, N.e1, N.le, N.n1, N.n2, N.n3, N.n4, N.sr⟩
theorem jdg_len (S : TS) (back n : Nat) (c : Int) {M : Nat} (h0 : S.c0.length ≤ M) (h1 : S.c1.length ≤ M) (h2 : S.rc.length ≤ M) : (jdg S back n c).2.c0.length ≤ M + 1 ∧ (jdg S back n c).2.c1.length ≤ M + 1 ∧ (jdg S back n c).2.rc.length ≤ M + 1 := by
  unfold jdg
  split <;> split
  · exact ⟨by show S.c0.length ≤ _; omega, by show S.c1.length ≤ _; omega, by show S.rc.length ≤ _; omega⟩
  · split
    · exact ⟨by show S.c0.length ≤ _; omega, by show S.c1.length ≤ _; omega, by show S.rc.length ≤ _; omega⟩
    · exact ⟨by show (S.c0 ++ [c]).length ≤ _; rw [List.length_append]; exact Nat.succ_le_succ h0, by show S.c1.length ≤ _; omega, by show (S.rc ++ [(n : Int)]).length ≤ _; rw [List.length_append]; exact Nat.succ_le_succ h2⟩
  · exact ⟨by show S.c0.length ≤ _; omega, by show S.c1.length ≤ _; omega, by show S.rc.length ≤ _; omega⟩
  · split
    · exact ⟨by show S.c0.length ≤ _; omega, by show S.c1.length ≤ _; omega, by show S.rc.length ≤ _; omega⟩
    · exact ⟨by show S.c0.length ≤ _; omega, by show (S.c1 ++ [c]).length ≤ _; rw [List.length_append]; exact Nat.succ_le_succ h1, by show (S.rc ++ [(n : Int)]).length ≤ _; rw [List.length_append]; exact Nat.succ_le_succ h2⟩
/-- what a delivery leaves as it was -/
structure Kpt (S S' : TS) : Prop where
  ls : S'.ls = S.ls
  ep : S'.ep = S.ep
  sn : S'.snt = S.snt
  n1 : S'.n1 = S.n1
  n2 : S'.n2 = S.n2
theorem jdg_kpt (S : TS) (back n : Nat) (c : Int) : Kpt S (jdg S back n c).2 := by
  unfold jdg
  split <;> split
  · exact ⟨rfl, rfl, rfl, rfl, rfl⟩
  · split <;> exact ⟨rfl, rfl, rfl, rfl, rfl⟩
  · exact ⟨rfl, rfl, rfl, rfl, rfl⟩
  · split <;> exact ⟨rfl, rfl, rfl, rfl, rfl⟩
theorem renew_kpt (S : TS) (e : Int) : Kpt S (renew S e) := by unfold renew; split <;> exact ⟨rfl, rfl, rfl, rfl, rfl⟩
theorem renew_lenM (S : TS) (e : Int) {M : Nat} (h0 : S.c0.length ≤ M) : (renew S e).c0.length ≤ M ∧ (renew S e).c1.length ≤ M := by
  unfold renew
  split
  · exact ⟨Nat.zero_le _, h0⟩
  · exact ⟨Nat.zero_le _, Nat.zero_le _⟩
theorem Kpt.trans {S S' S'' : TS} (a : Kpt S S') (b : Kpt S' S'') : Kpt S S'' := ⟨b.ls.trans a.ls, b.ep.trans a.ep, b.sn.trans a.sn, b.n1.trans a.n1, b.n2.trans a.n2⟩
theorem dlv_kpt (S : TS) (n : Nat) (e c : Int) : Kpt S (dlv S n e c).2 := by
  unfold dlv
  split
  · exact ⟨rfl, rfl, rfl, rfl, rfl⟩
  · split
    · exact (renew_kpt S e).trans (jdg_kpt _ _ _ _)
    · exact jdg_kpt _ _ _ _
theorem dlv_len (S : TS) (n : Nat) (e c : Int) {M : Nat} (h0 : S.c0.length ≤ M) (h1 : S.c1.length ≤ M) (h2 : S.rc.length ≤ M) : (dlv S n e c).2.c0.length ≤ M + 1 ∧ (dlv S n e c).2.c1.length ≤ M + 1 ∧ (dlv S n e c).2.rc.length ≤ M + 1 := by
  unfold dlv
  split
  · exact ⟨by show S.c0.length ≤ _; omega, by show S.c1.length ≤ _; omega, by show S.rc.length ≤ _; omega⟩
  · split
    · obtain ⟨r0, r1⟩ := renew_lenM S e h0
      exact jdg_len _ _ _ _ r0 r1 (by rw [renew_rc]; exact h2)
    · exact jdg_len _ _ _ _ h0 h1 h2
theorem Nu.deliver {S : Fin 2 → TS} {L : List (Int × Int × Str)} {ep snt : Int} {a b x y : Str} {M : Nat} (N : Nu S L ep snt a b x y M) (i : Fin 2) (n : Nat) (e c : Int) : Nu (upF S i (dlv (S i) n e c).2) L ep snt a b x y (M + 1) := by
  have k := dlv_kpt (S i) n e c
  obtain ⟨l0, l1, l2⟩ := dlv_len (S i) n e c (N.c0 i) (N.c1 i) (N.rc i)
  have f : ∀ {α : Type} (p : TS → α), p (dlv (S i) n e c).2 = p (S i) → ∀ j, p (upF S i (dlv (S i) n e c).2 j) = p (S j) := fun p h j => by
    by_cases q : j = i
    · subst q; rw [upF_eq]; exact h
    · rw [upF_ne q]
  have g : ∀ (p : TS → Nat), p (dlv (S i) n e c).2 ≤ M + 1 → (∀ j, p (S j) ≤ M) → ∀ j, p (upF S i (dlv (S i) n e c).2 j) ≤ M + 1 := fun p h h' j => by
    by_cases q : j = i
    · subst q; rw [upF_eq]; exact h
    · rw [upF_ne q]; have := h' j; omega
  refine ⟨fun j => by rw [f TS.ls k.ls, N.ls], fun j => by rw [f TS.ep k.ep, N.epp], fun j => by rw [f TS.snt k.sn, N.sn], g (fun s => s.c0.length) l0 N.c0, g (fun s => s.c1.length) l1 N.c1, g (fun s => s.rc.length) l2 N.rc, Nat.le_succ_of_le N.lm, N.e0, N.e1, N.le, ?_, ?_, ?_, ?_, N.sr⟩
  · rw [f TS.n1 k.n1, N.n1]
  · rw [f TS.n2 k.n2, N.n2]
  · rw [f TS.n1 k.n1, N.n3]
  · rw [f TS.n2 k.n2, N.n4]
def gSnd (z : Str) (S : TS) : TS := { S with ls := S.ls ++ [(S.ep, S.snt, z)], snt := S.snt + 1 }
def gRek (S : TS) : TS := { S with ep := S.ep + 1, snt := 0 }
def both (g : TS → TS) (S : Fin 2 → TS) : Fin 2 → TS := fun i => g (S i)
theorem upF2 {S : Fin 2 → TS} (g : TS → TS) : upF (upF S 0 (g (S 0))) 1 (g (upF S 0 (g (S 0)) 1)) = both g S := by
  refine funext (fin2 ?_ ?_)
  · rw [upF_ne (by decide), upF_eq]; rfl
  · rw [upF_eq, upF_ne (by decide)]; rfl
theorem upF2A {A : Fin 2 → TD} : upF (upF A 0 (A 0)) 1 (upF A 0 (A 0) 1) = A := by
  refine funext (fin2 ?_ ?_)
  · rw [upF_ne (by decide), upF_eq]
  · rw [upF_eq, upF_ne (by decide)]
theorem Nu.send {S : Fin 2 → TS} {L : List (Int × Int × Str)} {ep snt : Int} {a b x y : Str} {M : Nat} (N : Nu S L ep snt a b x y M) {z : Str} : Nu (both (gSnd z) S) (L ++ [(ep, snt, z)]) ep (snt + 1) a b x y (M + 1) :=
  ⟨fun i => by show (S i).ls ++ [((S i).ep, (S i).snt, z)] = _; rw [N.ls, N.epp, N.sn], fun i => N.epp i, fun i => by show (S i).snt + 1 = _; rw [N.sn], fun i => Nat.le_succ_of_le (N.c0 i), fun i => Nat.le_succ_of_le (N.c1 i), fun i => Nat.le_succ_of_le (N.rc i), by rw [List.length_append]; exact Nat.succ_le_succ N.lm, N.e0, N.e1, fun l hl => by
    rcases List.mem_append.mp hl with h | h
    · exact N.le l h
    · cases List.mem_singleton.mp h; exact ⟨N.e0, N.e1⟩, N.n1, N.n2, N.n3, N.n4, N.sr⟩
theorem Nu.rekey {S : Fin 2 → TS} {L : List (Int × Int × Str)} {ep snt : Int} {a b x y : Str} {M : Nat} (N : Nu S L ep snt a b x y M) (h : ep < 12) : Nu (both gRek S) L (ep + 1) 0 a b x y M :=
  ⟨fun i => N.ls i, fun i => by show (S i).ep + 1 = _; rw [N.epp], fun i => rfl, fun i => N.c0 i, fun i => N.c1 i, fun i => N.rc i, N.lm, by have := N.e0; omega, by omega, N.le, N.n1, N.n2, N.n3, N.n4, N.sr⟩
def Inv (C : Addr) (D : Ads) (a b x y : Str) (H : Hp) (M : Nat) (L : List (Int × Int × Str)) : Prop := ∃ o A S ep snt, Wd C o A D (bth x y) H S L ep snt ∧ Nu S L ep snt a b x y M
section
variable {C : Addr} {D : Ads} {a b x y : Str} {H H' : Hp} {M : Nat} {L : List (Int × Int × Str)}
theorem Inv.mono (I : Inv C D a b x y H M L) {M' : Nat} (h : M ≤ M') : Inv C D a b x y H M' L := by
  obtain ⟨o, A, S, ep, snt, W, N⟩ := I
  exact ⟨o, A, S, ep, snt, W, N.mono h⟩
theorem Inv.gp (I : Inv C D a b x y H M L) (g : Gp D.pl H H') : Inv C D a b x y H' M L := by
  obtain ⟨o, A, S, ep, snt, W, N⟩ := I
  exact ⟨o, A, S, ep, snt, W.pl g, N⟩
theorem Inv.same (I : Inv C D a b x y H M L) (s : Same H H') : Inv C D a b x y H' M L := by
  obtain ⟨o, A, S, ep, snt, W, N⟩ := I
  exact ⟨o, A, S, ep, snt, W.same s, N⟩
theorem Inv.pil (I : Inv C D a b x y H M L) : Pil H D.pl := by
  obtain ⟨o, A, S, ep, snt, W, N⟩ := I
  exact W.p
theorem Inv.nm (I : Inv C D a b x y H M L) : H D.nl = some (.lst D.nms) := by
  obtain ⟨o, A, S, ep, snt, W, N⟩ := I
  exact W.n
theorem Inv.lts (I : Inv C D a b x y H M L) : Lts H D.ll L := by
  obtain ⟨o, A, S, ep, snt, W, N⟩ := I
  exact W.l
theorem Inv.key (I : Inv C D a b x y H M L) : H D.kl = some (.lst D.ks) ∧ DsAt H D.ks ((List.range 13).map (keyD (bth x y))) := by
  obtain ⟨o, A, S, ep, snt, W, N⟩ := I
  exact ⟨W.k, W.kd⟩
theorem Inv.pr (I : Inv C D a b x y H M L) : H D.pr = some (.lst [.ref (D.ps 0), .ref (D.ps 1)]) := by
  obtain ⟨o, A, S, ep, snt, W, N⟩ := I
  exact W.r
/-- a tunnel of the world, at hand -/
theorem Inv.tun (I : Inv C D a b x y H M L) (i : Fin 2) : ∃ (t : TD) (S : TS), Tun C t H S ∧ t.p = D.ps i ∧ S.ls = L ∧ Sr S.n1 S.n2 x y ∧ S.n1 = (if i = 0 then a else b) ∧ S.n2 = (if i = 0 then b else a) := by
  obtain ⟨o, A, S, ep, snt, W, N⟩ := I
  refine ⟨A i, S i, W.t i, W.pa i, N.ls i, N.srS i, ?_, ?_⟩
  · exact fin2 (p := fun i => (S i).n1 = if i = 0 then a else b) N.n1 N.n3 i
  · exact fin2 (p := fun i => (S i).n2 = if i = 0 then b else a) N.n2 N.n4 i
theorem Inv.len (I : Inv C D a b x y H M L) : L.length ≤ M ∧ ∀ l ∈ L, 0 ≤ l.1 ∧ l.1 ≤ 12 := by
  obtain ⟨o, A, S, ep, snt, W, N⟩ := I
  exact ⟨N.lm, N.le⟩
end
/-! ### a deed of the law's -/
theorem nm_at {f : Nat → Str} {d : Int} (h0 : 0 ≤ d) (h1 : d < 4) : atI ((List.range 4).map fun i => V.str (f i)) d = some (V.str (f d.toNat)) := by
  obtain ⟨j, rfl⟩ : ∃ j : Nat, d = (j : Int) := ⟨d.toNat, by omega⟩
  refine atI_nat ?_
  rw [List.getElem?_map, List.getElem?_range (by omega)]
  rfl
theorem pr_at (p : Fin 2 → Addr) {d : Int} (h0 : 0 ≤ d) (h1 : d < 2) : ∃ i : Fin 2, atI [V.ref (p 0), V.ref (p 1)] d = some (V.ref (p i)) := by
  rcases (show d = 0 ∨ d = 1 by omega) with rfl | rfl
  · exact ⟨0, atI_nat (j := 0) rfl⟩
  · exact ⟨1, atI_nat (j := 1) rfl⟩
theorem d2i {H : Hp} {a : Addr} {n : Int} (h : H a = some (.tup [.int n, .int n])) : DAt H (.ref a) (.tuple [.int n, .int n]) := DAt.tup h (DsAt.cons (.int n) (DsAt.cons (.int n) DsAt.nil))
theorem dq2 {n : Nat} {d e : PyData} (h : Dq n d) (g : Dq n e) : Dq (n + 1) (.tuple [d, e]) := dq_tup (by show 2 ≤ 500; decide) fun z hz => by
  simp only [List.mem_cons, List.not_mem_nil, or_false] at hz
  rcases hz with rfl | rfl
  · exact h
  · exact g
theorem dq_none {n : Nat} : Dq (n + 1) .none := .inr (.inr (.inl rfl))
def sp_ldeed (C : Addr) : Sp := fun vs H Q _ => ∃ (D : Ads) (a b x y : Str) (M : Nat) (L : List (Int × Int × Str)) (f : Nat → Str), vs = [.ref D.pl, .ref D.pr, .ref D.ll, .ref D.sl, .ref D.nl] ∧ Inv C D a b x y H M L ∧ M ≤ 400 ∧ (D.nms = (List.range 4).map fun i => V.str (f i)) ∧ (∀ i, Nm (f i)) ∧ ∀ H' L', Inv C D a b x y H' (M + 1) L' → Q (.bl true) H'
section
variable {P : Program} {w : World} {K : PySem.W.Frag} {mg : Str → Option Value} {base : Heap}
theorem ok_law_deed (T : Top K mg) : FnOk P w K mg base CX0 50 T.f_law_deed T.d_law_deed ["pile", "pair", "letters", "sender", "names"] (sp_ldeed T.C_Tunnel) := by
  refine T.F_law_deed.ok sc_law_deed (fun vs H Q E h => ?_) (fun cdv A outer s H vs Q E hr h => ?_)
  · obtain ⟨D, a, b, x, y, M, L, f, rfl, _⟩ := h
    rfl
  · obtain ⟨D, a, b, x, y, M, L, f, rfl, I0, hM, hnm, hf, q⟩ := h
    refine ⟨_, (pss_cons (ps_set (i := 5) sc_law_deed.nd rfl (Or.inl rfl) (pe_call (ok_law_draw T) (hr.mono (by decide)) (by rfl) T.g_law_draw T.F_law_draw.kp T.b_law_draw .nil pass0 (pa_cons (pv 0) (pa_cons pe_int pa_nil))))
    (pss_cons (ps_if (pt_cmpR op_lt (pv 5) pe_int (nomark _))
     (pss_cons (ps_set (i := 6) sc_law_deed.nd rfl (Or.inl rfl) (pe_ix ix_list (pv 4) (pe_call (ok_law_draw T) (hr.mono (by decide)) (by rfl) T.g_law_draw T.F_law_draw.kp T.b_law_draw .nil pass0 (pa_cons (pv 0) (pa_cons pe_int pa_nil))) (fun _ _ => rfl)))
      (pss_cons (ps_expr (pe_bm PySem.F.plainAttrs_list PySem.F.slot_list_append PySem.F.type_list_append mt_append (pv 2) (pa_cons (pe_tup (pa_cons (pe_ix ix_list (pv 3) pe_int (fun _ _ => rfl)) (pa_cons (pe_ix ix_list (pv 3) pe_int (fun _ _ => rfl)) (pa_cons (pv 6) pa_nil)))) pa_nil)))
       (pss_cons (ps_asg (pe_op op_add (pe_ix ix_list (pv 3) pe_int (fun _ _ => rfl)) pe_int) (pg_sub (pv 3) pe_int set_list))
        (pss_cons (ps_set (i := 7) sc_law_deed.nd rfl (Or.inl rfl) (pe_op op_sub (pe_callB call_len_seq (by rfl) T.z_len (by decide +kernel) (pa_cons (pv 2) pa_nil)) pe_int))
         (pss_one (ps_ret (pe_call (ok_law_same T 40) (hr.mono (by decide)) (by rfl) T.g_law_same T.F_law_same.kp T.b_law_same .nil pass0 (pa_cons (pe_tup (pa_cons (pe_meth (pe_ix ix_list (pv 1) pe_int (fun _ _ => rfl)) T.cl_Tunnel T.mTunnel_send (okTunnel_send T) (hr.mono (by decide)) T.bTunnel_send .nil pass0 (pa_cons (pv 6) pa_nil)) (pa_cons (pe_methK (pe_ix ix_list (pv 1) pe_int (fun _ _ => rfl)) T.cl_Tunnel T.mTunnel_send (okTunnel_send T) (hr.mono (by decide)) T.qTunnel_send_payload pass0 (pk_cons (pv 6) pk_nil)) pa_nil))) (pa_cons (pe_tup (pa_cons (pv 7) (pa_cons (pv 7) pa_nil))) pa_nil)))))))))
     pss_nil)
     (pss_cons (ps_if (pt_cmpR op_eq (pv 5) pe_int (nomark _))
      (pss_one (ps_for PassesOwn.never rfl (pi_range1 (by rfl) T.z_range (pa_cons (pe_op op_add pe_int (pe_call (ok_law_draw T) (hr.mono (by decide)) (by rfl) T.g_law_draw T.F_law_draw.kp T.b_law_draw .nil pass0 (pa_cons (pv 0) (pa_cons pe_int pa_nil)))) pa_nil)) (pg_name (i := 8) sc_law_deed.nd rfl (Or.inl rfl))
       (pss_one (ps_if (pt_cmpR op_lt (pe_ix ix_list (pv 3) pe_int (fun _ _ => rfl)) pe_int (nomark _))
        (pss_cons (ps_asg (pe_op op_add (pe_ix ix_list (pv 3) pe_int (fun _ _ => rfl)) pe_int) (pg_sub (pv 3) pe_int set_list))
         (pss_cons (ps_asg pe_int (pg_sub (pv 3) pe_int set_list))
          (pss_one (ps_if (pt_not (pt_val (pe_call (ok_law_same T 40) (hr.mono (by decide)) (by rfl) T.g_law_same T.F_law_same.kp T.b_law_same .nil pass0 (pa_cons (pe_tup (pa_cons (pe_meth0 (pe_ix ix_list (pv 1) pe_int (fun _ _ => rfl)) T.cl_Tunnel T.mTunnel_rekey (okTunnel_rekey T) (hr.mono (by decide)) T.bTunnel_rekey .nil pass0) (pa_cons (pe_meth0 (pe_ix ix_list (pv 1) pe_int (fun _ _ => rfl)) T.cl_Tunnel T.mTunnel_rekey (okTunnel_rekey T) (hr.mono (by decide)) T.bTunnel_rekey .nil pass0) pa_nil))) (pa_cons (pe_tup (pa_cons pe_non (pa_cons pe_non pa_nil))) pa_nil)))))
           (pss_one (ps_ret pe_bl))
           pss_nil))))
        pss_nil))))
      pss_nil)
      (pss_cons (ps_if (PW.pt (pw_and (pt_cmpR op_gt (pv 5) pe_int (nomark _)) (pw_and1 (pt_cmpR op_gt (pe_callB call_len_seq (by rfl) T.z_len (by decide +kernel) (pa_cons (pv 2) pa_nil)) pe_int (nomark _)))))
       (pss_one (ps_expr (pe_meth (pe_ix ix_list (pv 1) (pe_call (ok_law_draw T) (hr.mono (by decide)) (by rfl) T.g_law_draw T.F_law_draw.kp T.b_law_draw .nil pass0 (pa_cons (pv 0) (pa_cons pe_int pa_nil))) (fun _ _ => rfl)) T.cl_Tunnel T.mTunnel_deliver (okTunnel_deliver T) (hr.mono (by decide)) T.bTunnel_deliver .nil pass0 (pa_cons (pe_call (ok_law_draw T) (hr.mono (by decide)) (by rfl) T.g_law_draw T.F_law_draw.kp T.b_law_draw .nil pass0 (pa_cons (pv 0) (pa_cons (pe_callB call_len_seq (by rfl) T.z_len (by decide +kernel) (pa_cons (pv 2) pa_nil)) pa_nil))) pa_nil))))
       pss_nil)
       (pss_one (ps_ret pe_bl)))))), ?_⟩
    repeat walk_at "s"
    refine ⟨D.pl, 8, rfl, I0.pil, by omega, fun kd H1 kd0 kd1 g1 => ?_⟩
    have I1 := I0.gp g1
    clear I0 g1
    repeat walk_at "s"
    refine ite2 (fun h => ?_) (fun h => ?_)
    · repeat walk_at "s"
      refine ⟨D.pl, 4, rfl, I1.pil, by omega, fun d H2 d0 d1 g2 => ?_⟩
      have I2 := I1.gp g2
      clear I1 g2
      refine w_ixL (SqL.of (by rw [I2.nm, hnm])) (nm_at d0 d1) ?_
      have hz := hf d.toNat
      generalize f d.toNat = z at hz ⊢
      obtain ⟨o, A', S, ep, snt, W, N⟩ := I2
      obtain ⟨us, hus, dus⟩ := W.l
      have lus := dus.length
      rw [List.length_map] at lus
      have hLM := N.lm
      have hsl := W.s
      repeat walk_at "s"
      refine ⟨by walk_at "len", fun t3 ht3 => ?_⟩
      have s7 := sm_new (o := .tup [.int ep, .int snt, .str z]) ht3
      have W7 := W.same s7
      have dz : DAt (upd H2 t3 (.tup [.int ep, .int snt, .str z])) (.ref t3) (ld (ep, snt, z)) := DAt.tup upd_same (DsAt.cons (.int ep) (DsAt.cons (.int snt) (DsAt.cons (.str z) DsAt.nil)))
      have dus7 := dus.mono (Tk.same s7)
      have hus7 := s7 _ _ hus
      generalize upd H2 t3 (.tup [.int ep, .int snt, .str z]) = H7 at W7 dz dus7 hus7 ⊢
      clear hus dus s7 ht3 W hsl
      repeat walk_at "s"
      refine w_append hus7 (big99 (by omega)) ?_
      have W8 := W7.ll (L' := L ++ [(ep, snt, z)]) hus7 (by rw [List.map_append]; exact dus7.app (DsAt.cons dz DsAt.nil))
      have hs8 := W8.s
      generalize upd H7 D.ll (.lst (us ++ [V.ref t3])) = H8 at W8 hs8 ⊢
      clear hus7 dus7 dz W7
      repeat walk_at "s"
      have W9 : Wd T.C_Tunnel o A' D (bth x y) (upd H8 D.sl (.lst ([V.int ep, V.int snt].set (Int.toNat 1) (V.int (snt + 1))))) S (L ++ [(ep, snt, z)]) ep (snt + 1) := W8.sl
      generalize upd H8 D.sl (.lst ([V.int ep, V.int snt].set (Int.toNat 1) (V.int (snt + 1)))) = H9 at W9 ⊢
      clear W8 hs8
      obtain ⟨us9, hus9, dus9⟩ := W9.l
      have lus9 := dus9.length
      have elen : (L ++ [(ep, snt, z)]).length = L.length + 1 := by rw [List.length_append]; rfl
      rw [List.length_map, elen] at lus9
      have hpr := W9.r
      repeat walk_at "s"
      have U0 := W9.t 0
      refine ⟨(A' 0).p, _, _, by rw [W9.pa 0], U0.ins, tn4 _ _, ?_⟩
      repeat walk_at "s"
      refine ⟨A' 0, S 0, z, by rw [W9.pa 0]; rfl, U0, hz, by rw [N.ls]; omega, fun H3 f3 U3 => ?_⟩
      have W3 := W9.tun 0 (W9.pa 0) f3 (Own.refl _ _) U3
      have hls0 : ((S 0).ls.length : Int) = (L.length : Int) := by rw [N.ls]
      have hpr3 := W3.r
      have U1 := W3.t 1
      repeat walk_at "s"
      refine w_methK ?_
      repeat walk_at "s"
      refine ⟨(upF A' 0 (A' 0) 1).p, _, _, by rw [W3.pa 1], U1.ins, tn4 _ _, ?_⟩
      repeat walk_at "s"
      have els : (upF S 0 (gSnd z (S 0)) 1).ls = L := by rw [upF_ne (by decide)]; exact N.ls 1
      refine ⟨rfl, upF A' 0 (A' 0) 1, upF S 0 (gSnd z (S 0)) 1, z, by rw [W3.pa 1], U1, hz, by rw [els]; omega, fun H4 f4 U4 => ?_⟩
      have W4 := W3.tun 1 (W3.pa 1) f4 (Own.refl _ _) U4
      have W5 : Wd T.C_Tunnel _ _ D (bth x y) H4 (upF (upF S 0 (gSnd z (S 0))) 1 (gSnd z (upF S 0 (gSnd z (S 0)) 1))) (L ++ [(ep, snt, z)]) ep (snt + 1) := W4
      rw [upF2, upF2A] at W5
      repeat walk_at "s"
      refine ⟨by walk_at "len", fun t1 ht1 => ?_⟩
      repeat walk_at "s"
      refine ⟨by walk_at "len", fun t2 ht2 => ?_⟩
      rw [els, N.ls] at ht2 ⊢
      rw [show (us9.length : Int) - 1 = (L.length : Int) by omega]
      have s1 := sm_new (o := .tup [.int (L.length : Int), .int (L.length : Int)]) ht1
      have s2 := sm_new (o := .tup [.int (L.length : Int), .int (L.length : Int)]) ht2
      have e1 := d2i (s2 _ _ upd_same)
      have e2 := d2i (a := t2) (n := (L.length : Int)) (upd_same (H := upd H4 t1 (.tup [.int (L.length : Int), .int (L.length : Int)])))
      repeat walk_at "s"
      refine ⟨_, _, rfl, .inr (.inr ⟨_, e1, e2, dq2 (n := 39) dq_int dq_int, fun H6 s6 => ?_⟩)⟩
      exact q H6 _ ⟨_, _, _, ep, snt + 1, ((W5.same s1).same s2).same s6, N.send⟩
    · repeat walk_at "s"
      refine j2S (fun σ1 H1 => ∃ v8 : Option V, σ1 = [some (.ref D.pl), some (.ref D.pr), some (.ref D.ll), some (.ref D.sl), some (.ref D.nl), some (.int kd), none, none, v8] ∧ Inv T.C_Tunnel D a b x y H1 M L) ?_ (fun nx kk => ite2 (fun h => ?_) (fun h => ?_))
      · rintro σ H2 ⟨v8, rfl, I2⟩
        clear I1
        dsimp only
        have l2 := I2.lts
        obtain ⟨us, hus, dus⟩ := l2
        have lus := dus.length
        rw [List.length_map] at lus
        have hpr := I2.pr
        repeat walk_at "s"
        refine ite2 (fun h => ?_) (fun h => ?_)
        · repeat walk_at "s"
          refine ite2 (fun h => ?_) (fun h => ?_)
          · have hL0 : 0 < L.length := by have := of_decide_eq_true h; omega
            repeat walk_at "s"
            refine ⟨D.pl, 2, rfl, I2.pil, by omega, fun d2 H3 d20 d21 g3 => ?_⟩
            have I3 := I2.gp g3
            clear I2 g3 hus dus hpr
            obtain ⟨i, hi⟩ := pr_at D.ps d20 d21
            have hpr := I3.pr
            obtain ⟨us3, hus3, dus3⟩ := I3.lts
            have lus3 := dus3.length
            rw [List.length_map] at lus3
            repeat walk_at "s"
            refine w_ixL (SqL.of hpr) hi ?_
            obtain ⟨o, A', S, ep, snt, W, N⟩ := id I3
            refine ⟨(A' i).p, _, _, by rw [W.pa i], (W.t i).ins, tn6 _ _, ?_⟩
            clear W N o ep snt A' S
            repeat walk_at "s"
            refine ⟨D.pl, (us3.length : Int), rfl, I3.pil, by omega, fun dn H4 dn0 dn1 g4 => ?_⟩
            have I4 := I3.gp g4
            clear I3 g4 hus3 dus3 hpr
            obtain ⟨o, A', S, ep, snt, W, N⟩ := I4
            obtain ⟨m, rfl⟩ : ∃ m : Nat, dn = (m : Int) := ⟨dn.toNat, by omega⟩
            have hml : m < L.length := by omega
            repeat walk_at "s"
            refine ⟨A' i, S i, m, L[m], by rw [W.pa i]; rfl, W.t i, by rw [N.ls]; exact List.getElem?_eq_getElem hml, Nat.lt_of_le_of_lt (N.c0 i) (by omega), Nat.lt_of_le_of_lt (N.c1 i) (by omega), Nat.lt_of_le_of_lt (N.rc i) (by omega), fun a' H5 ep' f5 ow5 U5 => ?_⟩
            have W5 := W.tun i (ep'.trans (W.pa i)) f5 ow5 U5
            repeat walk_at "s"
            exact q H5 L ⟨_, _, _, ep, snt, W5, N.deliver i m _ _⟩
          · repeat walk_at "s"
            exact q H2 L (I2.mono (Nat.le_succ M))
        · repeat walk_at "s"
          exact q H2 L (I2.mono (Nat.le_succ M))
      · repeat walk_at "s"
        refine ⟨D.pl, 12, rfl, I1.pil, by omega, fun d2 H3 d20 d21 g3 => ?_⟩
        have I3 := I1.gp g3
        clear I1 g3
        repeat walk_at "s"
        refine for_range (lo := 0) (n := (1 + d2).toNat) (fun i σ1 H1 => ∃ v8 : Option V, σ1 = [some (.ref D.pl), some (.ref D.pr), some (.ref D.ll), some (.ref D.sl), some (.ref D.nl), some (.int kd), none, none, v8] ∧ Inv T.C_Tunnel D a b x y H1 M L) ?_ ?_ ?_
        · exact ⟨none, rfl, I3⟩
        · rintro i σ H4 hi ⟨v8, rfl, o, A', S, ep, snt, W, N⟩
          have hsl := W.s
          repeat walk_at "s"
          refine ite2 (fun h => ?_) (fun h => ?_)
          · have hep : ep < 12 := of_decide_eq_true h
            repeat walk_at "s"
            have W1 : Wd T.C_Tunnel o A' D (bth x y) (upd (upd H4 D.sl (.lst ([V.int ep, V.int snt].set (Int.toNat 0) (V.int (ep + 1))))) D.sl (.lst (([V.int ep, V.int snt].set (Int.toNat 0) (V.int (ep + 1))).set (Int.toNat 1) (V.int 0)))) S L (ep + 1) 0 := (W.sl (ep' := ep + 1) (snt' := snt)).sl
            generalize upd (upd H4 D.sl (.lst ([V.int ep, V.int snt].set (Int.toNat 0) (V.int (ep + 1))))) D.sl (.lst (([V.int ep, V.int snt].set (Int.toNat 0) (V.int (ep + 1))).set (Int.toNat 1) (V.int 0))) = H5 at W1 ⊢
            clear W hsl
            have hpr := W1.r
            repeat walk_at "s"
            have U0 := W1.t 0
            refine ⟨(A' 0).p, _, _, by rw [W1.pa 0], U0.ins, tn5 _ _, ?_⟩
            repeat walk_at "s"
            refine ⟨A' 0, S 0, by rw [W1.pa 0]; rfl, U0, by rw [N.epp]; omega, fun H6 f6 U6 => ?_⟩
            have W2 := W1.tun 0 (W1.pa 0) f6 (Own.refl _ _) U6
            have hpr2 := W2.r
            have U1 := W2.t 1
            repeat walk_at "s"
            refine ⟨(upF A' 0 (A' 0) 1).p, _, _, by rw [W2.pa 1], U1.ins, tn5 _ _, ?_⟩
            repeat walk_at "s"
            have eep : (upF S 0 (gRek (S 0)) 1).ep = ep := by rw [upF_ne (by decide)]; exact N.epp 1
            refine ⟨upF A' 0 (A' 0) 1, upF S 0 (gRek (S 0)) 1, by rw [W2.pa 1]; rfl, U1, by rw [eep]; omega, fun H7 f7 U7 => ?_⟩
            have W3 := W2.tun 1 (W2.pa 1) f7 (Own.refl _ _) U7
            have W5 : Wd T.C_Tunnel _ _ D (bth x y) H7 (upF (upF S 0 (gRek (S 0))) 1 (gRek (upF S 0 (gRek (S 0)) 1))) L (ep + 1) 0 := W3
            rw [upF2, upF2A] at W5
            repeat walk_at "s"
            refine ⟨by walk_at "len", fun t1 ht1 => ?_⟩
            repeat walk_at "s"
            refine ⟨by walk_at "len", fun t2 ht2 => ?_⟩
            have s1 := sm_new (o := .tup [.non, .non]) ht1
            have s2 := sm_new (o := .tup [.non, .non]) ht2
            have e1 := DAt.tup (s2 _ _ upd_same) (DsAt.cons DAt.non (DsAt.cons DAt.non DsAt.nil))
            have e2 := DAt.tup (a := t2) (upd_same (H := upd H7 t1 (.tup [.non, .non]))) (DsAt.cons DAt.non (DsAt.cons DAt.non DsAt.nil))
            repeat walk_at "s"
            refine ⟨_, _, rfl, .inr (.inr ⟨_, e1, e2, dq2 (n := 39) dq_none dq_none, fun H8 s8 => ?_⟩)⟩
            repeat walk_at "s"
            exact ⟨_, rfl, _, _, _, ep + 1, 0, ((W5.same s1).same s2).same s8, N.rekey hep⟩
          · exact ⟨_, rfl, o, A', S, ep, snt, W, N⟩
        · rintro σ H4 ⟨v8, rfl, I4⟩
          exact kk _ _ ⟨v8, rfl, I4⟩
      · exact kk _ _ ⟨none, rfl, I1⟩
end
/-! ### what is read of both -/
def sp_lread (C : Addr) : Sp := fun vs H Q _ => ∃ (D : Ads) (a b x y : Str) (M : Nat) (L : List (Int × Int × Str)), vs = [.ref D.pl, .ref D.pr, .ref D.ll, .ref D.kl] ∧ Inv C D a b x y H M L ∧ M ≤ 400 ∧ ∀ H', Inv C D a b x y H' M L → Q (.bl true) H'
theorem d2d {H : Hp} {t : Addr} {u v : V} {d e : PyData} (h : H t = some (.tup [u, v])) (hu : DAt H u d) (hv : DAt H v e) : DAt H (.ref t) (.tuple [d, e]) := DAt.tup h (DsAt.cons hu (DsAt.cons hv DsAt.nil))
theorem keys_at {H : Hp} {us : List V} {b : PyData} (d : DsAt H us ((List.range 13).map (keyD b))) {e : Nat} (he : e ≤ 12) : ∃ v, us[e]? = some v ∧ DAt H v (keyD b e) := by
  have l := d.length
  rw [List.length_map, List.length_range] at l
  obtain ⟨k, hk, hv⟩ := d.get (List.getElem?_eq_getElem (show e < us.length by omega))
  rw [List.getElem?_map, List.getElem?_range (by omega)] at hk
  cases hk
  exact ⟨_, List.getElem?_eq_getElem (by omega), hv⟩
section
variable {P : Program} {w : World} {K : PySem.W.Frag} {mg : Str → Option Value} {base : Heap}
theorem ok_law_read (T : Top K mg) : FnOk P w K mg base CX0 50 T.f_law_read T.d_law_read ["pile", "pair", "letters", "keys"] (sp_lread T.C_Tunnel) := by
  refine T.F_law_read.ok sc_law_read (fun vs H Q E h => ?_) (fun cdv A outer s H vs Q E hr h => ?_)
  · obtain ⟨D, a, b, x, y, M, L, rfl, _⟩ := h
    rfl
  · obtain ⟨D, a, b, x, y, M, L, rfl, I0, hM, q⟩ := h
    refine ⟨_, (pss_cons (ps_set (i := 4) sc_law_read.nd rfl (Or.inl rfl) (pe_call (ok_law_draw T) (hr.mono (by decide)) (by rfl) T.g_law_draw T.F_law_draw.kp T.b_law_draw .nil pass0 (pa_cons (pv 0) (pa_cons pe_int pa_nil))))
    (pss_cons (ps_if (pt_not (pt_val (pe_call (ok_law_same T 40) (hr.mono (by decide)) (by rfl) T.g_law_same T.F_law_same.kp T.b_law_same .nil pass0 (pa_cons (pe_tup (pa_cons (pe_meth (pe_ix ix_list (pv 1) pe_int (fun _ _ => rfl)) T.cl_Tunnel T.mTunnel_key_term (okTunnel_key_term T) (hr.mono (by decide)) T.bTunnel_key_term .nil pass0 (pa_cons (pv 4) pa_nil)) (pa_cons (pe_methK (pe_ix ix_list (pv 1) pe_int (fun _ _ => rfl)) T.cl_Tunnel T.mTunnel_key_term (okTunnel_key_term T) (hr.mono (by decide)) T.qTunnel_key_term_epoch pass0 (pk_cons (pv 4) pk_nil)) pa_nil))) (pa_cons (pe_tup (pa_cons (pe_ix ix_list (pv 3) (pv 4) (fun _ _ => rfl)) (pa_cons (pe_ix ix_list (pv 3) (pv 4) (fun _ _ => rfl)) pa_nil))) pa_nil)))))
     (pss_one (ps_ret pe_bl))
     pss_nil)
     (pss_cons (ps_if (pt_cmpR op_eq (pe_callB call_len_seq (by rfl) T.z_len (by decide +kernel) (pa_cons (pv 2) pa_nil)) pe_int (nomark _))
      (pss_one (ps_ret (pe_call (ok_law_same T 40) (hr.mono (by decide)) (by rfl) T.g_law_same T.F_law_same.kp T.b_law_same .nil pass0 (pa_cons (pe_tup (pa_cons (pe_meth0 (pe_ix ix_list (pv 1) pe_int (fun _ _ => rfl)) T.cl_Tunnel T.mTunnel_sealed_row (okTunnel_sealed_row T) (hr.mono (by decide)) T.bTunnel_sealed_row .nil pass0) (pa_cons (pe_meth0 (pe_ix ix_list (pv 1) pe_int (fun _ _ => rfl)) T.cl_Tunnel T.mTunnel_sealed_row (okTunnel_sealed_row T) (hr.mono (by decide)) T.bTunnel_sealed_row .nil pass0) pa_nil))) (pa_cons (pe_tup (pa_cons (pe_tup pa_nil) (pa_cons (pe_tup pa_nil) pa_nil))) pa_nil)))))
      pss_nil)
      (pss_cons (ps_set (i := 5) sc_law_read.nd rfl (Or.inl rfl) (pe_call (ok_law_draw T) (hr.mono (by decide)) (by rfl) T.g_law_draw T.F_law_draw.kp T.b_law_draw .nil pass0 (pa_cons (pv 0) (pa_cons (pe_callB call_len_seq (by rfl) T.z_len (by decide +kernel) (pa_cons (pv 2) pa_nil)) pa_nil))))
       (pss_cons (ps_set (i := 6) sc_law_read.nd rfl (Or.inl rfl) (pe_call (ok_law_sealed T) (hr.mono (by decide)) (by rfl) T.g_law_sealed T.F_law_sealed.kp T.b_law_sealed .nil pass0 (pa_cons (pe_ix ix_list (pv 2) (pv 5) (fun _ _ => rfl)) (pa_cons (pv 3) pa_nil))))
        (pss_cons (ps_if (pt_not (pt_val (pe_call (ok_law_same T 40) (hr.mono (by decide)) (by rfl) T.g_law_same T.F_law_same.kp T.b_law_same .nil pass0 (pa_cons (pe_tup (pa_cons (pe_meth (pe_ix ix_list (pv 1) pe_int (fun _ _ => rfl)) T.cl_Tunnel T.mTunnel_sealed (okTunnel_sealed T) (hr.mono (by decide)) T.bTunnel_sealed .nil pass0 (pa_cons (pv 5) pa_nil)) (pa_cons (pe_methK (pe_ix ix_list (pv 1) pe_int (fun _ _ => rfl)) T.cl_Tunnel T.mTunnel_sealed (okTunnel_sealed T) (hr.mono (by decide)) T.qTunnel_sealed_number pass0 (pk_cons (pv 5) pk_nil)) pa_nil))) (pa_cons (pe_tup (pa_cons (pv 6) (pa_cons (pv 6) pa_nil))) pa_nil)))))
         (pss_one (ps_ret pe_bl))
         pss_nil)
         (pss_one (ps_ret (pe_call (ok_law_same T 40) (hr.mono (by decide)) (by rfl) T.g_law_same T.F_law_same.kp T.b_law_same .nil pass0 (pa_cons (pe_meth (pe_ix ix_list (pv 1) (pe_call (ok_law_draw T) (hr.mono (by decide)) (by rfl) T.g_law_draw T.F_law_draw.kp T.b_law_draw .nil pass0 (pa_cons (pv 0) (pa_cons pe_int pa_nil))) (fun _ _ => rfl)) T.cl_Tunnel T.mTunnel_letter (okTunnel_letter T) (hr.mono (by decide)) T.bTunnel_letter .nil pass0 (pa_cons (pv 5) pa_nil)) (pa_cons (pe_ix ix_list (pv 2) (pv 5) (fun _ _ => rfl)) pa_nil))))))))))), ?_⟩
    repeat walk_at "s"
    refine ⟨D.pl, 13, rfl, I0.pil, by omega, fun ed H1 ed0 ed1 g1 => ?_⟩
    have I1 := I0.gp g1
    clear I0 g1
    obtain ⟨e, rfl⟩ : ∃ e : Nat, ed = (e : Int) := ⟨ed.toNat, by omega⟩
    have he : e ≤ 12 := by omega
    have hpr := I1.pr
    repeat walk_at "s"
    obtain ⟨t0, S0, U0, p0, ls0, sr0, -, -⟩ := I1.tun 0
    refine ⟨t0.p, _, _, by rw [p0], U0.ins, by rfl, ?_⟩
    repeat walk_at "s"
    refine ⟨t0, S0, e, by rw [p0]; rfl, U0, by omega, fun x' y' v0 H2 sr2 s2 d0 => ?_⟩
    obtain ⟨rfl, rfl⟩ := sr0.uniq sr2
    have I2 := I1.same s2
    clear I1 hpr U0 p0 ls0 sr0
    have hpr := I2.pr
    repeat walk_at "s"
    refine w_methK ?_
    repeat walk_at "s"
    obtain ⟨t1, S1, U1, p1, ls1, sr1, -, -⟩ := I2.tun 1
    refine ⟨t1.p, _, _, by rw [p1], U1.ins, by rfl, ?_⟩
    repeat walk_at "s"
    refine ⟨rfl, t1, S1, e, by rw [p1], U1, by omega, fun x' y' v1 H3 sr3 s3 d1 => ?_⟩
    obtain ⟨rfl, rfl⟩ := sr1.uniq sr3
    have I3 := I2.same s3
    have d0' := d0.mono (Tk.same s3)
    clear I2 hpr U1 p1 ls1 sr1 d0
    repeat walk_at "s"
    refine ⟨by walk_at "len", fun q1 hq1 => ?_⟩
    have s4 := sm_new (o := .tup [v0, v1]) hq1
    have I4 := I3.same s4
    have e4 := d2d (upd_self2 hq1 (.tup [v0, v1])) (d0'.mono (Tk.same s4)) (d1.mono (Tk.same s4))
    clear I3 d0' d1 hq1
    generalize upd H3 q1 (.tup [v0, v1]) = H4 at I4 e4 ⊢
    obtain ⟨k4, kd4⟩ := I4.key
    obtain ⟨ku, hku, dku⟩ := keys_at kd4 he
    repeat walk_at "s"
    refine w_ixL (SqL.of k4) (atI_nat hku) ?_
    repeat walk_at "s"
    refine w_ixL (SqL.of k4) (atI_nat hku) ?_
    repeat walk_at "s"
    refine ⟨by walk_at "len", fun q2 hq2 => ?_⟩
    have s5 := sm_new (o := .tup [ku, ku]) hq2
    have I5 := I4.same s5
    have e5 := d2d (upd_self2 hq2 (.tup [ku, ku])) (dku.mono (Tk.same s5)) (dku.mono (Tk.same s5))
    have e45 := e4.mono (Tk.same s5)
    clear I4 dku hq2 e4 k4 kd4
    generalize upd H4 q2 (.tup [ku, ku]) = H5 at I5 e5 e45 ⊢
    repeat walk_at "s"
    refine ⟨_, _, rfl, .inr (.inr ⟨_, e45, e5, dq2 (dq_mono (dq_key30 (by omega)) (by omega)) (dq_mono (dq_key30 (by omega)) (by omega)), fun H6 s6 => ?_⟩)⟩
    have I6 := I5.same s6
    clear I5 e45 e5
    refine ⟨_, rfl, ?_⟩
    refine iteF ?_
    obtain ⟨us, hus, dus⟩ := I6.lts
    have lus := dus.length
    rw [List.length_map] at lus
    have hpr := I6.pr
    obtain ⟨lM, lle⟩ := I6.len
    repeat walk_at "s"
    refine ite2 (fun h => ?_) (fun h => ?_)
    · have hL0 : L = [] := List.eq_nil_of_length_eq_zero (by have := of_decide_eq_true h; omega)
      subst hL0
      repeat walk_at "s"
      obtain ⟨t2, S2, U2, p2, ls2, sr2, -, -⟩ := I6.tun 0
      refine ⟨t2.p, _, _, by rw [p2], U2.ins, by rfl, ?_⟩
      repeat walk_at "s"
      refine ⟨t2, S2, x, y, by rw [p2]; rfl, U2, sr2, by rw [ls2]; simp, by rw [ls2]; simp, fun r0 ws0 H7 s7 hr0 dr0 => ?_⟩
      have c0 := DAt.tup hr0 dr0
      rw [ls2] at c0
      have I7 := I6.same s7
      clear I6 hus dus hpr U2 p2 ls2 sr2 hr0 dr0
      have hpr := I7.pr
      repeat walk_at "s"
      obtain ⟨t3, S3, U3, p3, ls3, sr3, -, -⟩ := I7.tun 1
      refine ⟨t3.p, _, _, by rw [p3], U3.ins, by rfl, ?_⟩
      repeat walk_at "s"
      refine ⟨t3, S3, x, y, by rw [p3]; rfl, U3, sr3, by rw [ls3]; simp, by rw [ls3]; simp, fun r1 ws1 H8 s8 hr1 dr1 => ?_⟩
      have c1 := DAt.tup hr1 dr1
      rw [ls3] at c1
      have I8 := I7.same s8
      have c0' := c0.mono (Tk.same s8)
      clear I7 hpr U3 p3 ls3 sr3 hr1 dr1 c0
      repeat walk_at "s"
      refine ⟨by walk_at "len", fun q1 hq1 => ?_⟩
      have s9 := sm_new (o := .tup [.ref r0, .ref r1]) hq1
      have e9 := d2d (upd_self2 hq1 (.tup [.ref r0, .ref r1])) (c0'.mono (Tk.same s9)) (c1.mono (Tk.same s9))
      have I9 := I8.same s9
      clear I8 c0' c1 hq1
      generalize upd H8 q1 (.tup [.ref r0, .ref r1]) = H9 at I9 e9 ⊢
      repeat walk_at "s"
      refine ⟨by walk_at "len", fun n1 hn1 => ?_⟩
      have s10 := sm_new (o := .tup []) hn1
      have d10 := DAt.tup (upd_self2 hn1 (.tup [])) DsAt.nil
      have I10 := I9.same s10
      have e10 := e9.mono (Tk.same s10)
      clear I9 e9 hn1
      generalize upd H9 n1 (.tup []) = H10 at I10 e10 d10 ⊢
      repeat walk_at "s"
      refine ⟨by walk_at "len", fun n2 hn2 => ?_⟩
      have s11 := sm_new (o := .tup []) hn2
      have d11 := DAt.tup (upd_self2 hn2 (.tup [])) DsAt.nil
      have d10' := d10.mono (Tk.same s11)
      have I11 := I10.same s11
      have e11 := e10.mono (Tk.same s11)
      clear I10 e10 hn2 d10
      generalize upd H10 n2 (.tup []) = H11 at I11 e11 d10' d11 ⊢
      repeat walk_at "s"
      refine ⟨by walk_at "len", fun n3 hn3 => ?_⟩
      have s12 := sm_new (o := .tup [.ref n1, .ref n2]) hn3
      have e12 := d2d (upd_self2 hn3 (.tup [.ref n1, .ref n2])) (d10'.mono (Tk.same s12)) (d11.mono (Tk.same s12))
      have I12 := I11.same s12
      have e11' := e11.mono (Tk.same s12)
      clear I11 e11 hn3 d10' d11
      generalize upd H11 n3 (.tup [.ref n1, .ref n2]) = H12 at I12 e11' e12 ⊢
      repeat walk_at "s"
      refine ⟨_, _, rfl, .inr (.inr ⟨_, e11', e12, dq2 (n := 39) (dq_tup (by show 0 ≤ 500; decide) (by simp)) (dq_tup (by show 0 ≤ 500; decide) (by simp)), fun H13 s13 => ?_⟩)⟩
      exact q H13 (I12.same s13)
    · have hL0 : 0 < L.length := by
        rcases Nat.eq_zero_or_pos L.length with h0 | h0
        · exact absurd (decide_eq_true (by omega)) h
        · exact h0
      repeat walk_at "s"
      refine ⟨D.pl, (us.length : Int), rfl, I6.pil, by omega, fun dn H7 dn0 dn1 g7 => ?_⟩
      have I7 := I6.gp g7
      clear I6 g7 hus dus hpr
      obtain ⟨n, rfl⟩ : ∃ n : Nat, dn = (n : Int) := ⟨dn.toNat, by omega⟩
      have hn := List.getElem?_eq_getElem (show n < L.length by omega)
      have hl := lle _ (List.getElem_mem (show n < L.length by omega))
      generalize L[n]'(by omega) = l at hn hl
      obtain ⟨l1, l2, l3⟩ := l
      obtain ⟨le, rfl⟩ : ∃ le : Nat, l1 = (le : Int) := ⟨l1.toNat, by have : 0 ≤ l1 := hl.1; omega⟩
      have hle : le ≤ 12 := by have : (le : Int) ≤ 12 := hl.2; omega
      obtain ⟨us7, hus7, dus7⟩ := I7.lts
      obtain ⟨lq, hlq, elq⟩ := ld_get dus7 hn
      obtain ⟨k7, kd7⟩ := I7.key
      repeat walk_at "s"
      refine w_ixL (SqL.of hus7) (atI_nat hlq) ?_
      repeat walk_at "s"
      refine ⟨lq, D.kl, le, l2, l3, D.ks, bth x y, rfl, elq, k7, kd7, hle, fun ve H8 s8 de => ?_⟩
      have I8 := I7.same s8
      clear I7 k7 kd7 hus7 dus7 hlq elq
      have hpr := I8.pr
      repeat walk_at "s"
      obtain ⟨t2, S2, U2, p2, ls2, sr2, -, -⟩ := I8.tun 0
      refine ⟨t2.p, _, _, by rw [p2], U2.ins, by rfl, ?_⟩
      repeat walk_at "s"
      refine ⟨t2, S2, n, _, by rw [p2]; rfl, U2, by rw [ls2]; exact hn, hl.1, by have := hl.2; omega, fun x' y' v2 H9 sr9 s9 d2 => ?_⟩
      obtain ⟨rfl, rfl⟩ := sr2.uniq sr9
      have I9 := I8.same s9
      have de9 := de.mono (Tk.same s9)
      clear I8 de hpr U2 p2 ls2 sr2
      have hpr := I9.pr
      repeat walk_at "s"
      refine w_methK ?_
      repeat walk_at "s"
      obtain ⟨t3, S3, U3, p3, ls3, sr3, -, -⟩ := I9.tun 1
      refine ⟨t3.p, _, _, by rw [p3], U3.ins, by rfl, ?_⟩
      repeat walk_at "s"
      refine ⟨rfl, t3, S3, n, _, by rw [p3], U3, by rw [ls3]; exact hn, hl.1, by have := hl.2; omega, fun x' y' v3 H10 sr10 s10 d3 => ?_⟩
      obtain ⟨rfl, rfl⟩ := sr3.uniq sr10
      have I10 := I9.same s10
      have de10 := de9.mono (Tk.same s10)
      have d2' := d2.mono (Tk.same s10)
      clear I9 de9 d2 hpr U3 p3 ls3 sr3
      repeat walk_at "s"
      refine ⟨by walk_at "len", fun q1 hq1 => ?_⟩
      have s11 := sm_new (o := .tup [v2, v3]) hq1
      have e11 := d2d (upd_self2 hq1 (.tup [v2, v3])) (d2'.mono (Tk.same s11)) (d3.mono (Tk.same s11))
      have de11 := de10.mono (Tk.same s11)
      have I11 := I10.same s11
      clear I10 d2' d3 hq1 de10
      generalize upd H10 q1 (.tup [v2, v3]) = H11 at I11 e11 de11 ⊢
      repeat walk_at "s"
      refine ⟨by walk_at "len", fun q2 hq2 => ?_⟩
      have s12 := sm_new (o := .tup [ve, ve]) hq2
      have e12 := d2d (upd_self2 hq2 (.tup [ve, ve])) (de11.mono (Tk.same s12)) (de11.mono (Tk.same s12))
      have e11' := e11.mono (Tk.same s12)
      have I12 := I11.same s12
      clear I11 hq2 de11 e11
      generalize upd H11 q2 (.tup [ve, ve]) = H12 at I12 e11' e12 ⊢
      repeat walk_at "s"
      refine ⟨_, _, rfl, .inr (.inr ⟨_, e11', e12, dq2 (dq_mono (dq_lk (by show ((le : Nat) : Int).toNat ≤ 13; omega)) (by omega)) (dq_mono (dq_lk (by show ((le : Nat) : Int).toNat ≤ 13; omega)) (by omega)), fun H13 s13 => ?_⟩)⟩
      have I13 := I12.same s13
      clear I12 e11' e12
      refine ⟨_, rfl, ?_⟩
      refine iteF ?_
      have hpr := I13.pr
      repeat walk_at "s"
      refine ⟨D.pl, 2, rfl, I13.pil, by omega, fun d2 H14 d20 d21 g14 => ?_⟩
      have I14 := I13.gp g14
      clear I13 hpr g14
      obtain ⟨i, hi⟩ := pr_at D.ps d20 d21
      refine w_ixL (SqL.of I14.pr) hi ?_
      obtain ⟨t4, S4, U4, p4, ls4, -, -, -⟩ := I14.tun i
      refine ⟨t4.p, _, _, by rw [p4], U4.ins, by rfl, ?_⟩
      repeat walk_at "s"
      refine ⟨t4, S4, n, _, by rw [p4]; rfl, U4, by rw [ls4]; exact hn, fun tq htq => ?_⟩
      obtain ⟨us14, hus14, dus14⟩ := I14.lts
      obtain ⟨lq, hlq, elq⟩ := ld_get dus14 hn
      repeat walk_at "s"
      refine w_ixL (SqL.of hus14) (atI_nat hlq) ?_
      have f1 : DAt H14 (.ref tq) (ld ((le : Int), l2, l3)) := .tup htq (.cons (.int _) (.cons (.int _) (.cons (.str _) .nil)))
      have f2 : DAt H14 (.ref lq) (ld ((le : Int), l2, l3)) := .tup elq (.cons (.int _) (.cons (.int _) (.cons (.str _) .nil)))
      repeat walk_at "s"
      refine ⟨_, _, rfl, .inr (.inr ⟨_, f1, f2, dq_ld (n := 38), fun H15 s15 => ?_⟩)⟩
      exact q H15 (I14.same s15)
end
/-! ### the law -/
theorem made {C p dx : Addr} {a : TD} {H3 H' : Hp} (hp : H3 p = none) (hdx : H3 dx = none) (fr : ∀ x o, upd (upd H3 dx (.own p)) p (.ins C dx []) x = some o → x ≠ p → H' x = some o) (ow : ∀ x ∈ ft a, x = p ∨ upd (upd H3 dx (.own p)) p (.ins C dx []) x = none) : Same H3 H' ∧ ∀ x ∈ ft a, H3 x = none := by
  refine ⟨fun x o h => fr x o ?_ (ne_of_none h hp), fun x hx => ?_⟩
  · rw [upd_ne (ne_of_none h hp), upd_ne (ne_of_none h hdx)]; exact h
  · rcases ow x hx with rfl | h
    · exact hp
    · by_cases e1 : x = p
      · rw [e1]; exact hp
      · by_cases e2 : x = dx
        · rw [e2]; exact hdx
        · rw [upd_ne e1, upd_ne e2] at h; exact h
theorem gp_tk {p : Addr} {H H' : Hp} (h : Pil H p) (g : Gp p H H') : Tk H H' := fun b vs e => g.fr b _ e fun z => by
  obtain ⟨n, ns, e1, _⟩ := h
  rw [z, e1] at e
  cases e
theorem Tun.gp {C p : Addr} {a : TD} {H H' : Hp} {S : TS} (U : Tun C a H S) (h : Pil H p) (g : Gp p H H') (n : p ∉ ft a) : Tun C a H' S := U.fr (gp_tk h g) fun x hx o e => g.fr x o e fun z => n (by rw [← z]; exact hx)
theorem Pil.get {p : Addr} {H : Hp} (h : Pil H p) : ∃ o, H p = some o := by
  obtain ⟨n, ns, e, _⟩ := h
  exact ⟨_, e⟩
theorem sr_ex (a b : Str) : ∃ x y, Sr a b x y := by
  by_cases h : ltCps b.cps.toList a.cps.toList = true
  · refine ⟨b, a, List.Perm.swap .., ?_⟩
    have e : ltCps a.cps.toList b.cps.toList = false := by
      rw [ltC] at h ⊢
      exact decide_eq_false fun q => List.lt_irrefl _ (List.lt_trans q (of_decide_eq_true h))
    show (!ltCps a.cps.toList b.cps.toList && true) = true
    rw [e]; rfl
  · refine ⟨a, b, List.Perm.refl _, ?_⟩
    show (!ltCps b.cps.toList a.cps.toList && true) = true
    rw [ofb0 h]; rfl
theorem Tun.nin {C : Addr} {a : TD} {H : Hp} {S : TS} (U : Tun C a H S) {y : Addr} (h : H y = none) : y ∉ ft a := fun hx => U.there y hx h
theorem fr_nin {a : TD} {H : Hp} {y : Addr} {o : HO} (f : ∀ x ∈ ft a, H x = none) (h : H y = some o) : y ∉ ft a := fun hx => by rw [f y hx] at h; cases h
theorem Wd.init {C : Addr} {a0 a1 : TD} {H : Hp} {S0 S1 : TS} {D : Ads} {b : PyData} (U0 : Tun C a0 H S0) (U1 : Tun C a1 H S1) (l : H D.ll = some (.lst [])) (s : H D.sl = some (.lst [.int 0, .int 0])) (p : Pil H D.pl) (n : H D.nl = some (.lst D.nms)) (k : H D.kl = some (.lst D.ks)) (kd : DsAt H D.ks ((List.range 13).map (keyD b))) (r : H D.pr = some (.lst [.ref (D.ps 0), .ref (D.ps 1)])) (p0 : a0.p = D.ps 0) (p1 : a1.p = D.ps 1)
    (dj : ∀ x ∈ ft a1, x ∉ ft a0) (x0 : ∀ y ∈ [D.ll, D.sl, D.pl, D.nl, D.kl, D.pr], y ∉ ft a0) (x1 : ∀ y ∈ [D.ll, D.sl, D.pl, D.nl, D.kl, D.pr], y ∉ ft a1) (n1 : D.sl ≠ D.ll) (n2 : D.pl ≠ D.ll) (n3 : D.pl ≠ D.sl) (n4 : ∀ y ∈ [D.nl, D.kl, D.pr], y ≠ D.ll ∧ y ≠ D.sl ∧ y ≠ D.pl) :
    ∃ o, Wd C o (fun i => if i = 0 then a0 else a1) D b H (fun i => if i = 0 then S0 else S1) [] 0 0 := by
  have rest : ∀ y, y ∉ ft a0 → y ∉ ft a1 → (if y ∈ ft a0 then 0 else if y ∈ ft a1 then 1 else if y = D.ll then 4 else if y = D.sl then 7 else if y = D.pl then 8 else 9) = if y = D.ll then 4 else if y = D.sl then 7 else if y = D.pl then 8 else (9 : Nat) := fun y h0 h1 => by rw [if_neg h0, if_neg h1]
  have last : ∀ y ∈ [D.nl, D.kl, D.pr], y ∈ [D.ll, D.sl, D.pl, D.nl, D.kl, D.pr] → (if y ∈ ft a0 then 0 else if y ∈ ft a1 then 1 else if y = D.ll then 4 else if y = D.sl then 7 else if y = D.pl then 8 else 9) = (9 : Nat) := fun y hy hz => by
    obtain ⟨q1, q2, q3⟩ := n4 y hy
    rw [rest y (x0 y hz) (x1 y hz), if_neg q1, if_neg q2, if_neg q3]
  refine ⟨fun x => if x ∈ ft a0 then 0 else if x ∈ ft a1 then 1 else if x = D.ll then 4 else if x = D.sl then 7 else if x = D.pl then 8 else 9, fin2 U0 U1, fin2 ?_ ?_, ⟨?_, ?_, ?_, last _ (by simp) (by simp), last _ (by simp) (by simp), last _ (by simp) (by simp)⟩, ⟨[], l, .nil⟩, s, p, n, k, kd, r, fin2 p0 p1⟩
  · intro x hx
    exact if_pos hx
  · intro x hx
    exact (if_neg (dj x hx)).trans (if_pos hx)
  · exact (rest _ (x0 _ (by simp)) (x1 _ (by simp))).trans (if_pos rfl)
  · exact (rest _ (x0 _ (by simp)) (x1 _ (by simp))).trans ((if_neg n1).trans (if_pos rfl))
  · exact (rest _ (x0 _ (by simp)) (x1 _ (by simp))).trans ((if_neg n2).trans ((if_neg n3).trans (if_pos rfl)))
theorem Nu.init {w1 w2 : Int} {a b x y : Str} (h : Sr a b x y) : Nu (fun i => if i = 0 then S0 w1 a b else S0 w2 b a) [] 0 0 a b x y 0 := by
  refine ⟨fin2 rfl rfl, fin2 rfl rfl, fin2 rfl rfl, fin2 (Nat.le_refl _) (Nat.le_refl _), fin2 (Nat.le_refl _) (Nat.le_refl _), fin2 (Nat.le_refl _) (Nat.le_refl _), Nat.le_refl _, by omega, by omega, fun l hl => (by cases hl), rfl, rfl, rfl, rfl, h⟩
def spLaw (K : PySem.W.Frag) : Sp := fun vs H Q _ => ∃ (sa : Addr) (zs : List Int), vs = [.ref sa] ∧ SqL K H sa (zs.map V.int) ∧ zs.length ≤ 63 ∧ ∀ G, Q (.bl true) G
section
variable {P : Program} {w : World} {K : PySem.W.Frag} {mg : Str → Option Value} {base : Heap}
theorem oklaw (T : Top K mg) (Pl : PlT P w K mg) : FnOk P w K mg base CX0 60 T.flaw T.dlaw ["script"] (spLaw K) := by
  refine T.Flaw.ok sclaw (fun vs H Q E h => ?_) (fun cdv A outer s H vs Q E hr h => ?_)
  · obtain ⟨a, ns, rfl, _⟩ := h
    rfl
  · obtain ⟨a, ns, rfl, hS, hl, q⟩ := h
    refine ⟨_, (pss_cons (ps_set (i := 1) sclaw.nd rfl (Or.inl rfl) (pe_call (ok_law_pile T) (hr.mono (by decide)) (by rfl) T.g_law_pile T.F_law_pile.kp T.b_law_pile .nil pass0 (pa_cons (pv 0) pa_nil)))
    (pss_cons (ps_set (i := 2) sclaw.nd rfl (Or.inl rfl) (pe_call (ok_law_names T) (hr.mono (by decide)) (by rfl) T.g_law_names T.F_law_names.kp T.b_law_names .nil pass0 (pa_cons (pv 1) (pa_cons pe_int pa_nil))))
     (pss_cons (ps_set (i := 3) sclaw.nd rfl (Or.inr rfl) (pe_call (ok_law_keys T) (hr.mono (by decide)) (by rfl) T.g_law_keys T.F_law_keys.kp T.b_law_keys .nil pass0 (pa_cons (pe_ix ix_list (pv 2) pe_int (fun _ _ => rfl)) (pa_cons (pe_ix ix_list (pv 2) pe_int (fun _ _ => rfl)) pa_nil))))
      (pss_cons (ps_set (i := 4) sclaw.nd rfl (Or.inl rfl) (pe_lst (pa_cons (pe_make T.mk_Tunnel (okTunnel___init__ T) (hr.mono (by decide)) (by rfl) T.g_Tunnel T.bTunnel___init__ .nil pass0 (pa_cons (pe_op op_add pe_int (pe_call (ok_law_draw T) (hr.mono (by decide)) (by rfl) T.g_law_draw T.F_law_draw.kp T.b_law_draw .nil pass0 (pa_cons (pv 1) (pa_cons pe_int pa_nil)))) (pa_cons (pe_ix ix_list (pv 2) pe_int (fun _ _ => rfl)) (pa_cons (pe_ix ix_list (pv 2) pe_int (fun _ _ => rfl)) pa_nil)))) (pa_cons (pe_make T.mk_Tunnel (okTunnel___init__ T) (hr.mono (by decide)) (by rfl) T.g_Tunnel T.bTunnel___init__ .nil pass0 (pa_cons (pe_op op_add pe_int (pe_call (ok_law_draw T) (hr.mono (by decide)) (by rfl) T.g_law_draw T.F_law_draw.kp T.b_law_draw .nil pass0 (pa_cons (pv 1) (pa_cons pe_int pa_nil)))) (pa_cons (pe_ix ix_list (pv 2) pe_int (fun _ _ => rfl)) (pa_cons (pe_ix ix_list (pv 2) pe_int (fun _ _ => rfl)) pa_nil)))) pa_nil))))
       (pss_cons (ps_for PassesOwn.never rfl (pi_range1 (by rfl) T.z_range (pa_cons pe_int pa_nil)) (pg_name (i := 5) sclaw.nd rfl (Or.inl rfl))
        (pss_cons (ps_set (i := 6) sclaw.nd rfl (Or.inl rfl) (pe_meth (pe_ix ix_list (pv 4) (pe_op op_mod (pe_callTy call_int1 (by rfl) T.z_int (by decide +kernel) (pa_cons (pv 5) pa_nil)) pe_int) (fun _ _ => rfl)) T.cl_Tunnel T.mTunnel_key_term (okTunnel_key_term T) (hr.mono (by decide)) T.bTunnel_key_term .nil pass0 (pa_cons (pv 5) pa_nil)))
         (pss_cons (ps_if (PW.pt (pw_or (pt_not (pt_val (pe_call (ok_law_same T 40) (hr.mono (by decide)) (by rfl) T.g_law_same T.F_law_same.kp T.b_law_same .nil pass0 (pa_cons (pv 6) (pa_cons (pe_ix ix_list (pv 3) (pv 5) (fun _ _ => rfl)) pa_nil))))) (pw_or1 (pt_not (pt_val (pe_call (ok_law_same T 40) (hr.mono (by decide)) (by rfl) T.g_law_same T.F_law_same.kp T.b_law_same .nil pass0 (pa_cons (pe_call (oksize T) (hr.mono (by decide)) (by rfl) T.gsize T.Fsize.kp T.bsize .nil pass0 (pa_cons (pv 6) pa_nil)) (pa_cons (pe_op op_add pe_int (pe_op op_mul pe_int (pv 5))) pa_nil))))))))
          (pss_one (ps_ret pe_bl))
          pss_nil)
          (pss_one (ps_if (PW.pt (pw_or (pt_cmpR op_notBl (pe_call (okis_term T Pl) (hr.mono (by decide)) (by rfl) T.gis_term T.Fis_term.kp T.bis_term .nil pass0 (pa_cons (pv 6) pa_nil)) pe_bl (nomark _)) (pw_or1 (pt_cmpR op_notBl (pe_call (okis_ground T) (hr.mono (by decide)) (by rfl) T.gis_ground T.Fis_ground.kp T.bis_ground .nil pass0 (pa_cons (pv 6) pa_nil)) pe_bl (nomark _)))))
           (pss_one (ps_ret pe_bl))
           pss_nil)))))
        (pss_cons (ps_set (i := 7) sclaw.nd rfl (Or.inl rfl) (pe_lst pa_nil))
         (pss_cons (ps_set (i := 8) sclaw.nd rfl (Or.inl rfl) (pe_lst (pa_cons pe_int (pa_cons pe_int pa_nil))))
          (pss_cons (ps_for PassesOwn.never rfl (pi_range1 (by rfl) T.z_range (pa_cons (pe_op op_add pe_int (pe_call (ok_law_draw T) (hr.mono (by decide)) (by rfl) T.g_law_draw T.F_law_draw.kp T.b_law_draw .nil pass0 (pa_cons (pv 1) (pa_cons pe_int pa_nil)))) pa_nil)) (pg_name (i := 5) sclaw.nd rfl (Or.inl rfl))
           (pss_one (ps_if (PW.pt (pw_or (pt_not (pt_val (pe_call (ok_law_deed T) (hr.mono (by decide)) (by rfl) T.g_law_deed T.F_law_deed.kp T.b_law_deed .nil pass0 (pa_cons (pv 1) (pa_cons (pv 4) (pa_cons (pv 7) (pa_cons (pv 8) (pa_cons (pv 2) pa_nil)))))))) (pw_or1 (pt_not (pt_val (pe_call (ok_law_read T) (hr.mono (by decide)) (by rfl) T.g_law_read T.F_law_read.kp T.b_law_read .nil pass0 (pa_cons (pv 1) (pa_cons (pv 4) (pa_cons (pv 7) (pa_cons (pv 3) pa_nil))))))))))
            (pss_one (ps_ret pe_bl))
            pss_nil)))
           (pss_cons (ps_set (i := 9) sclaw.nd rfl (Or.inl rfl) (pe_callTy call_tuple_of (by rfl) T.z_tuple (by decide +kernel) (pa_cons (pe_lc (own := [("letter", 10)]) (g := gName 10) (by rfl) sclaw.nd (pi_list (pv 7)) (blkOk_by (own := [("letter", 10)]) (N := Nlaw) (sc := defScope slaw) (by decide +kernel)) (fun _ _ _ _ _ => (pg_name (i := 10) sclaw.nd rfl (Or.inl rfl))) (fun _ _ _ _ _ => pts_nil) (fun _ _ _ _ _ => (pe_call (ok_law_sealed T) (hr.mono (by decide)) (by rfl) T.g_law_sealed T.F_law_sealed.kp T.b_law_sealed .nil pass0 (pa_cons (pv 10) (pa_cons (pv 3) pa_nil))))) pa_nil)))
            (pss_cons (ps_for PassesOwn.never rfl (pi_list (pv 4)) (pg_name (i := 11) sclaw.nd rfl (Or.inr rfl))
             (pss_cons (ps_if (PW.pt (pw_or (pt_not (pt_val (pe_call (ok_law_same T 40) (hr.mono (by decide)) (by rfl) T.g_law_same T.F_law_same.kp T.b_law_same .nil pass0 (pa_cons (pe_meth0 (pv 11) T.cl_Tunnel T.mTunnel_sealed_row (okTunnel_sealed_row T) (hr.mono (by decide)) T.bTunnel_sealed_row .nil pass0) (pa_cons (pv 9) pa_nil))))) (pw_or1 (pt_not (pt_val (pe_call (ok_law_same T 40) (hr.mono (by decide)) (by rfl) T.g_law_same T.F_law_same.kp T.b_law_same .nil pass0 (pa_cons (pe_meth0 (pv 11) T.cl_Tunnel T.mTunnel_sealed_row (okTunnel_sealed_row T) (hr.mono (by decide)) T.bTunnel_sealed_row .nil pass0) (pa_cons (pv 9) pa_nil))))))))
              (pss_one (ps_ret pe_bl))
              pss_nil)
              (pss_cons (ps_if (pt_not (pt_val (pe_call (ok_law_same T 40) (hr.mono (by decide)) (by rfl) T.g_law_same T.F_law_same.kp T.b_law_same .nil pass0 (pa_cons (pe_callTy call_tuple_of (by rfl) T.z_tuple (by decide +kernel) (pa_cons (pe_lc (own := [("k", 5)]) (g := gName 5) (by rfl) sclaw.nd (pi_range1 (by rfl) T.z_range (pa_cons (pe_callB call_len_seq (by rfl) T.z_len (by decide +kernel) (pa_cons (pv 7) pa_nil)) pa_nil)) (blkOk_by (own := [("k", 5)]) (N := Nlaw) (sc := defScope slaw) (by decide +kernel)) (fun _ _ _ _ _ => (pg_name (i := 5) sclaw.nd rfl (Or.inl rfl))) (fun _ _ _ _ _ => pts_nil) (fun _ _ _ _ _ => (pe_meth (pv 11) T.cl_Tunnel T.mTunnel_sealed (okTunnel_sealed T) (hr.mono (by decide)) T.bTunnel_sealed .nil pass0 (pa_cons (pv 5) pa_nil)))) pa_nil)) (pa_cons (pv 9) pa_nil)))))
               (pss_one (ps_ret pe_bl))
               pss_nil)
               (pss_one (ps_if (pt_not (pt_val (pe_call (ok_law_same T 40) (hr.mono (by decide)) (by rfl) T.g_law_same T.F_law_same.kp T.b_law_same .nil pass0 (pa_cons (pe_callTy call_tuple_of (by rfl) T.z_tuple (by decide +kernel) (pa_cons (pe_lc (own := [("k", 5)]) (g := gName 5) (by rfl) sclaw.nd (pi_range1 (by rfl) T.z_range (pa_cons (pe_callB call_len_seq (by rfl) T.z_len (by decide +kernel) (pa_cons (pv 7) pa_nil)) pa_nil)) (blkOk_by (own := [("k", 5)]) (N := Nlaw) (sc := defScope slaw) (by decide +kernel)) (fun _ _ _ _ _ => (pg_name (i := 5) sclaw.nd rfl (Or.inl rfl))) (fun _ _ _ _ _ => pts_nil) (fun _ _ _ _ _ => (pe_meth (pv 11) T.cl_Tunnel T.mTunnel_letter (okTunnel_letter T) (hr.mono (by decide)) T.bTunnel_letter .nil pass0 (pa_cons (pv 5) pa_nil)))) pa_nil)) (pa_cons (pe_callTy call_tuple_of (by rfl) T.z_tuple (by decide +kernel) (pa_cons (pv 7) pa_nil)) pa_nil)))))
                (pss_one (ps_ret pe_bl))
                pss_nil)))))
             (pss_one (ps_ret (pe_call (ok_law_same T 40) (hr.mono (by decide)) (by rfl) T.g_law_same T.F_law_same.kp T.b_law_same .nil pass0 (pa_cons (pe_tup (pa_cons (pe_fld (pe_ix ix_list (pv 4) pe_int (fun _ _ => rfl)) rfl) (pa_cons (pe_fld (pe_ix ix_list (pv 4) pe_int (fun _ _ => rfl)) rfl) (pa_cons (pe_fld (pe_ix ix_list (pv 4) pe_int (fun _ _ => rfl)) rfl) (pa_cons (pe_fld (pe_ix ix_list (pv 4) pe_int (fun _ _ => rfl)) rfl) pa_nil))))) (pa_cons (pe_callTy call_tuple_of (by rfl) T.z_tuple (by decide +kernel) (pa_cons (pe_op op_cat (pe_slice sl_list (pv 2) po_none (po_some pe_int)) (pe_revO (pv 2))) pa_nil)) pa_nil))))))))))))))), ?_⟩
    repeat walk_at "s"
    refine ⟨a, ns, rfl, hS, hl, fun pl H1 s1 hpn hp => ?_⟩
    repeat walk_at "s"
    refine ⟨pl, 4, rfl, hp, by omega, by omega, fun nl f H2 hnn hnl hf hf01 g2 => ?_⟩
    have nne : nl ≠ pl := hp.ne hnn
    obtain ⟨x, y, hsr⟩ := sr_ex (f 0) (f 1)
    repeat walk_at "s"
    refine ⟨f 0, f 1, x, y, rfl, hsr, fun kl ks H3 s3 nkl hkl dks => ?_⟩
    have hnl3 := s3 _ _ hnl
    have hp3 := g2.pl.same s3
    have nkp : kl ≠ pl := g2.pl.ne nkl
    have nnk : nl ≠ kl := ne_of_none hnl nkl
    clear hS hp hnl g2 s3 nkl
    repeat walk_at "s"
    refine ⟨pl, 60, rfl, hp3, by omega, fun d4 H4 d40 d41 g4 => ?_⟩
    have hnl4 := g4.at hnl3 nne
    have hkl4 := g4.at hkl nkp
    have dks4 := dks.mono (gp_tk hp3 g4)
    have hp4 := g4.pl
    clear hp3 hnl3 hkl dks g4
    repeat walk_at "s"
    intro p5 dx5 h1 h2 h3
    have hpn5 : H4 p5 = none := by assumption
    have hdn5 : H4 dx5 = none := by assumption
    refine ⟨p5, dx5, 1 + d4, f 0, f 1, rfl, upd_same, by omega, by omega, hf 0, hf 1, hf01, fun a5 H5 ea5 fr ow U5 => ?_⟩
    obtain ⟨s5, fr5⟩ := made hpn5 hdn5 fr ow
    refine ⟨rfl, ?_⟩
    clear fr ow h1 h2 h3
    have hnl5 := s5 _ _ hnl4
    have hkl5 := s5 _ _ hkl4
    have dks5 := dks4.mono (Tk.same s5)
    have hp5 := hp4.same s5
    have x5 : pl ∉ ft a5 ∧ nl ∉ ft a5 ∧ kl ∉ ft a5 := ⟨by obtain ⟨o, e⟩ := hp4.get; exact fr_nin fr5 e, fr_nin fr5 hnl4, fr_nin fr5 hkl4⟩
    clear hnl4 hkl4 dks4 hp4 s5 fr5 hpn5 hdn5
    repeat walk_at "s"
    refine ⟨pl, 60, rfl, hp5, by omega, fun d6 H6 d60 d61 g6 => ?_⟩
    have hnl6 := g6.at hnl5 nne
    have hkl6 := g6.at hkl5 nkp
    have dks6 := dks5.mono (gp_tk hp5 g6)
    have U6 := U5.gp hp5 g6 x5.1
    have hp6 := g6.pl
    clear hp5 hnl5 hkl5 dks5 g6 U5
    repeat walk_at "s"
    intro p7 dx7 h1 h2 h3
    have hpn7 : H6 p7 = none := by assumption
    have hdn7 : H6 dx7 = none := by assumption
    refine ⟨p7, dx7, 1 + d6, f 1, f 0, rfl, upd_same, by omega, by omega, hf 1, hf 0, hf01.symm, fun a7 H7 ea7 fr ow U7 => ?_⟩
    obtain ⟨s7, fr7⟩ := made hpn7 hdn7 fr ow
    refine ⟨rfl, ?_⟩
    clear fr ow h1 h2 h3
    have hnl7 := s7 _ _ hnl6
    have hkl7 := s7 _ _ hkl6
    have dks7 := dks6.mono (Tk.same s7)
    have hp7 := hp6.same s7
    have W7 := U6.same s7
    have x7 : pl ∉ ft a7 ∧ nl ∉ ft a7 ∧ kl ∉ ft a7 := ⟨by obtain ⟨o, e⟩ := hp6.get; exact fr_nin fr7 e, fr_nin fr7 hnl6, fr_nin fr7 hkl6⟩
    have dj : ∀ x ∈ ft a7, x ∉ ft a5 := fun x hx h => U6.there x h (fr7 x hx)
    clear hnl6 hkl6 dks6 hp6 s7 fr7 U6 hpn7 hdn7
    repeat walk_at "s"
    refine ⟨by walk_at "len", fun pr hpr => ?_⟩
    have s8 := sm_new (o := .lst [.ref p5, .ref p7]) hpr
    have e8 := upd_self2 hpr (.lst [.ref p5, .ref p7])
    have x8 : pr ∉ ft a5 ∧ pr ∉ ft a7 ∧ pr ≠ pl := ⟨W7.nin hpr, U7.nin hpr, hp7.ne hpr⟩
    generalize upd H7 pr (.lst [.ref p5, .ref p7]) = H8 at s8 e8 ⊢
    have hnl8 := s8 _ _ hnl7
    have hkl8 := s8 _ _ hkl7
    have dks8 := dks7.mono (Tk.same s8)
    have hp8 := hp7.same s8
    have A8 := W7.same s8
    have B8 := U7.same s8
    clear hnl7 hkl7 dks7 hp7 s8 W7 U7 hpr
    obtain rfl := ea5
    obtain rfl := ea7
    repeat walk_at "s"
    refine for_range (lo := 0) (n := (13 : Int).toNat) (fun i σ1 H9 => ∃ v5 v6 : Option V, σ1 = [some (.ref a), some (.ref pl), some (.ref nl), some (.ref kl), some (.ref pr), v5, v6, none, none, none, none, none] ∧ Same H8 H9) ?_ ?_ ?_
    · exact ⟨none, none, rfl, Same.refl _⟩
    · rintro i σ H9 hi ⟨v5, v6, rfl, s9⟩
      have hi13 : i < 13 := hi
      have hpr9 := s9 _ _ e8
      rw [show (0 : Int) + (i : Int) = (i : Int) by omega]
      repeat walk_at "s"
      obtain ⟨t, S, hat, U, hsr'⟩ : ∃ (t : TD) (S : TS), atI [V.ref a5.p, V.ref a7.p] ((i : Int) % 2) = some (.ref t.p) ∧ Tun T.C_Tunnel t H9 S ∧ Sr S.n1 S.n2 x y := by
        rcases (show (i : Int) % 2 = 0 ∨ (i : Int) % 2 = 1 by omega) with e | e <;> rw [e]
        · exact ⟨a5, _, atI_nat (j := 0) rfl, A8.same s9, hsr⟩
        · exact ⟨a7, _, atI_nat (j := 1) rfl, B8.same s9, hsr.swap⟩
      refine w_ixL (SqL.of hpr9) hat ?_
      refine ⟨t.p, _, _, rfl, U.ins, by rfl, ?_⟩
      repeat walk_at "s"
      refine ⟨t, S, i, rfl, U, by omega, fun x' y' vk H10 hsr2 s10 dk => ?_⟩
      obtain ⟨rfl, rfl⟩ := hsr'.uniq hsr2
      have s810 := s9.trans s10
      clear U hat hpr9 hsr' s9 s10
      have hkl10 := s810 _ _ hkl8
      obtain ⟨ku, hku, dku⟩ := keys_at (dks8.mono (Tk.same s810)) (show i ≤ 12 by omega)
      obtain ⟨f1, f2, f3⟩ := keyF hsr (hf 0) (hf 1) i
      repeat walk_at "s"
      refine w_ixL (SqL.of hkl10) (atI_nat hku) ?_
      repeat walk_at "s"
      refine ⟨_, _, rfl, .inr (.inr ⟨_, dk, dku, dq_mono (dq_key30 (by omega)) (by omega), fun H11 s11 => ?_⟩)⟩
      have dk11 := dk.mono (Tk.same s11)
      refine ⟨_, rfl, ?_⟩
      refine iteF ?_
      repeat walk_at "s"
      refine ⟨vk, _, rfl, dk11, (by cases i <;> rfl), by omega, fun H12 s12 => ?_⟩
      have dk12 := dk11.mono (Tk.same s12)
      repeat walk_at "s"
      rw [f2, show (1 : Int) + 3 * (i : Int) = ((1 + 3 * i : Nat) : Int) by omega]
      refine ⟨_, _, rfl, .inr (.inr ⟨_, .int _, .int _, dq_int (n := 39), fun H13 s13 => ?_⟩)⟩
      have dk13 := dk12.mono (Tk.same s13)
      refine ⟨_, rfl, ?_⟩
      refine iteF ?_
      repeat walk_at "s"
      refine ⟨vk, _, rfl, dk13, vt_pd f1, by omega, fun H14 s14 => ?_⟩
      rw [vt_frm f1]
      have dk14 := dk13.mono (Tk.same s14)
      repeat walk_at "s"
      rw [show (!decide (true = true)) = false from rfl]
      refine iteF ?_
      repeat walk_at "s"
      refine ⟨vk, _, rfl, dk14, f1, by show (occ _).length ≤ 20000; omega, fun H15 s15 => ?_⟩
      rw [f3]
      repeat walk_at "s"
      rw [show (!decide (true = true)) = false from rfl]
      refine iteF ?_
      exact ⟨_, _, rfl, ((((s810.trans s11).trans s12).trans s13).trans s14).trans s15⟩
    · rintro σ H9 ⟨v5, v6, rfl, s9⟩
      repeat walk_at "s"
      refine ⟨by walk_at "len", fun ll hll => ?_⟩
      have nx : ∀ {z : Addr} {o : HO}, H9 z = some o → z ≠ ll := fun h => ne_of_none h hll
      have A9 := A8.same s9
      have B9 := B8.same s9
      have x9 : ll ∉ ft a5 ∧ ll ∉ ft a7 := ⟨A9.nin hll, B9.nin hll⟩
      have nl9 : nl ≠ ll ∧ kl ≠ ll ∧ pr ≠ ll := ⟨ne_of_none (s9 _ _ hnl8) hll, ne_of_none (s9 _ _ hkl8) hll, ne_of_none (s9 _ _ e8) hll⟩
      have np9 : ll ≠ pl := (hp8.same s9).ne hll
      have s10 := sm_new (o := .lst []) hll
      have e10 := upd_self2 hll (.lst [])
      generalize upd H9 ll (.lst []) = H10 at s10 e10 ⊢
      repeat walk_at "s"
      refine ⟨by walk_at "len", fun sl hsl => ?_⟩
      have A10 := A9.same s10
      have B10 := B9.same s10
      have s810 := s9.trans s10
      have x10 : sl ∉ ft a5 ∧ sl ∉ ft a7 := ⟨A10.nin hsl, B10.nin hsl⟩
      have nl10 : nl ≠ sl ∧ kl ≠ sl ∧ pr ≠ sl := ⟨ne_of_none (s810 _ _ hnl8) hsl, ne_of_none (s810 _ _ hkl8) hsl, ne_of_none (s810 _ _ e8) hsl⟩
      have np10 : sl ≠ pl := (hp8.same s810).ne hsl
      have nls : sl ≠ ll := (ne_of_none e10 hsl).symm
      have s11 := sm_new (o := .lst [.int 0, .int 0]) hsl
      have e11 := upd_self2 hsl (.lst [.int 0, .int 0])
      generalize upd H10 sl (.lst [.int 0, .int 0]) = H11 at s11 e11 ⊢
      have s811 := s810.trans s11
      have three : ∀ {p : Addr → Prop} {b1 b2 b3 b4 b5 b6 : Addr}, p b1 → p b2 → p b3 → p b4 → p b5 → p b6 → ∀ y ∈ [b1, b2, b3, b4, b5, b6], p y := fun h1 h2 h3 h4 h5 h6 y hy => by
        simp only [List.mem_cons, List.not_mem_nil, or_false] at hy
        rcases hy with rfl | rfl | rfl | rfl | rfl | rfl <;> assumption
      obtain ⟨D, eD, hD⟩ : ∃ D : Ads, D = ⟨ll, sl, pl, nl, kl, pr, (List.range 4).map fun i => V.str (f i), ks, fun i => if i = 0 then a5.p else a7.p⟩ ∧ Inv T.C_Tunnel D (f 0) (f 1) x y H11 0 [] := by
        refine ⟨_, rfl, ?_⟩
        obtain ⟨o, W⟩ := Wd.init (D := ⟨ll, sl, pl, nl, kl, pr, (List.range 4).map fun i => V.str (f i), ks, fun i => if i = 0 then a5.p else a7.p⟩) (b := bth x y) (A10.same s11) (B10.same s11) (s11 _ _ e10) e11 (hp8.same s811) (s811 _ _ hnl8) (s811 _ _ hkl8) (dks8.mono (Tk.same s811)) (s811 _ _ e8) rfl rfl dj (three x9.1 x10.1 x5.1 x5.2.1 x5.2.2 x8.1) (three x9.2 x10.2 x7.1 x7.2.1 x7.2.2 x8.2.1) nls np9.symm np10.symm (fun y hy => by
          simp only [List.mem_cons, List.not_mem_nil, or_false] at hy
          rcases hy with rfl | rfl | rfl
          · exact ⟨nl9.1, nl10.1, nne⟩
          · exact ⟨nl9.2.1, nl10.2.1, nkp⟩
          · exact ⟨nl9.2.2, nl10.2.2, x8.2.2⟩)
        exact ⟨o, _, _, 0, 0, W, Nu.init hsr⟩
      have q1 : ll = D.ll := by rw [eD]
      have q2 : sl = D.sl := by rw [eD]
      have q3 : pl = D.pl := by rw [eD]
      have q4 : nl = D.nl := by rw [eD]
      have q5 : kl = D.kl := by rw [eD]
      have q6 : pr = D.pr := by rw [eD]
      have q7 : D.nms = (List.range 4).map fun i => V.str (f i) := by rw [eD]
      clear eD three s11 e11 A10 B10 x10 nl10 np10 nls s10 e10 A9 B9 x9 nl9 np9 hsl hll s810 s811 s9 A8 B8 dj x8 x7 x5 hp8 hnl8 hkl8 dks8 e8 nkp nnk nne nx
      subst q1 q2 q3 q4 q5 q6
      repeat walk_at "s"
      refine ⟨D.pl, 40, rfl, hD.pil, by omega, fun dd H12 dd0 dd1 g12 => ?_⟩
      have I12 := hD.gp g12
      clear hD g12
      repeat walk_at "s"
      refine for_range (lo := 0) (n := (3 + dd).toNat) (fun i σ1 H13 => ∃ (v5 : Option V) (L : List (Int × Int × Str)), σ1 = [some (.ref a), some (.ref D.pl), some (.ref D.nl), some (.ref D.kl), some (.ref D.pr), v5, v6, some (.ref D.ll), some (.ref D.sl), none, none, none] ∧ Inv T.C_Tunnel D (f 0) (f 1) x y H13 i L) ?_ ?_ ?_
      · exact ⟨_, [], rfl, I12⟩
      · rintro i σ H13 hi ⟨v5, L, rfl, I13⟩
        repeat walk_at "s"
        refine ⟨D, f 0, f 1, x, y, i, L, f, rfl, I13, by omega, q7, hf, fun H14 L' I14 => ?_⟩
        refine ⟨_, rfl, ?_⟩
        refine iteF ?_
        repeat walk_at "s"
        refine ⟨D, f 0, f 1, x, y, i + 1, L', rfl, I14, by omega, fun H15 I15 => ?_⟩
        refine ⟨_, rfl, ?_⟩
        refine iteF ?_
        exact ⟨_, L', rfl, I15⟩
      · rintro σ H13 ⟨v5, L, rfl, I13⟩
        obtain ⟨lM, lle⟩ := I13.len
        have lM' : L.length ≤ 42 := by omega
        obtain ⟨us, hus, dus⟩ := I13.lts
        have lus := dus.length
        rw [List.length_map] at lus
        repeat walk_at "s"
        intro Z hZ
        have sZ : Same H13 (upd H13 Z (.lst [])) := sm_new hZ
        refine lc_list (K := K) (a := D.ll) (xs := us) (fun i H2 => ∃ acc, H2 Z = some (.lst acc) ∧ DsAt H2 acc ((L.take i).map (lkD (bth x y))) ∧ Same H13 H2) ⟨[], upd_same, .nil, sZ⟩ (fun i H2 _ ⟨_, _, _, s2⟩ => SqL.of (s2 _ _ hus)) ?_ ?_
        · rintro i u H2 hi ⟨acc, e2, da, s2⟩
          have I2 := I13.same s2
          have hil : i < L.length := by have := (List.getElem?_eq_some_iff.mp hi).1; omega
          have hn := List.getElem?_eq_getElem hil
          have hl := lle _ (List.getElem_mem hil)
          generalize L[i]'hil = l at hn hl
          obtain ⟨lq, hlq, elq⟩ := ld_get dus hn
          rw [hi] at hlq
          cases hlq
          obtain ⟨l1, l2, l3⟩ := l
          obtain ⟨le, rfl⟩ : ∃ le : Nat, l1 = (le : Int) := ⟨l1.toNat, by have : 0 ≤ l1 := hl.1; omega⟩
          have hle : le ≤ 12 := by have : (le : Int) ≤ 12 := hl.2; omega
          obtain ⟨k7, kd7⟩ := I2.key
          have la := da.length
          rw [List.length_map, List.length_take] at la
          repeat walk_at "s"
          refine ⟨lq, D.kl, le, l2, l3, D.ks, bth x y, rfl, s2 _ _ elq, k7, kd7, hle, fun ve H3 s3 de => ?_⟩
          have d3 := s3 _ _ e2
          refine ⟨acc, d3, big99 (by omega), _, upd_same, ?_, fun b o h => by rw [upd_ne (ne_of_none h hZ)]; exact s3 _ _ (s2 _ _ h)⟩
          rw [List.take_add_one, hn, List.map_append]
          exact ((da.mono (Tk.same s3)).app (.cons de .nil)).mono (Tk.lst d3)
        · rintro H2 ⟨acc, e2, da, s2⟩
          rw [lus, List.take_length] at da
          repeat walk_at "s"
          refine ⟨Z, _, rfl, .inl ⟨SqL.of e2, fun rw' hrw => ?_⟩⟩
          have s3 := s2.trans (sm_new (o := .tup acc) hrw)
          have drow : DAt (upd H2 rw' (.tup acc)) (.ref rw') (.tuple (L.map (lkD (bth x y)))) := .tup upd_same (da.mono (Tk.new hrw))
          have I3 := I13.same s3
          generalize upd H2 rw' (.tup acc) = H3 at drow I3 s3 ⊢
          clear I13 e2 da s2 sZ hus dus hrw hZ s3
          have hpr := I3.pr
          repeat walk_at "s"
          refine for_list (K := K) (a := D.pr) (xs := [V.ref (D.ps 0), V.ref (D.ps 1)]) (fun i σ H4 => ∃ v10 v11 : Option V, σ = [some (.ref a), some (.ref D.pl), some (.ref D.nl), some (.ref D.kl), some (.ref D.pr), v5, v6, some (.ref D.ll), some (.ref D.sl), some (.ref rw'), v10, v11] ∧ Inv T.C_Tunnel D (f 0) (f 1) x y H4 (3 + dd).toNat L ∧ DAt H4 (.ref rw') (.tuple (L.map (lkD (bth x y))))) ?_ ?_ ?_ ?_
          · exact ⟨none, none, rfl, I3, drow⟩
          · rintro i σ H4 _ ⟨_, _, _, I4, _⟩
            exact SqL.of I4.pr
          · rintro i u σ H4 hi ⟨v10, v11, rfl, I4, d4⟩
            obtain ⟨j, rfl⟩ : ∃ j : Fin 2, u = .ref (D.ps j) := by
              have hm := List.mem_of_getElem? hi
              simp only [List.mem_cons, List.not_mem_nil, or_false] at hm
              rcases hm with rfl | rfl
              · exact ⟨0, rfl⟩
              · exact ⟨1, rfl⟩
            obtain ⟨t, S, U, pt, lst, srt, -, -⟩ := I4.tun j
            have dqr : Dq 40 (.tuple (L.map (lkD (bth x y)))) := dq_mono (dq_tup (by rw [List.length_map]; omega) fun e he => by
              obtain ⟨l, hl, rfl⟩ := List.mem_map.mp he
              exact dq_lk (by have := lle l hl; omega)) (show 32 ≤ 40 by omega)
            have hlsS : ∀ l ∈ S.ls, 0 ≤ l.1 ∧ l.1 ≤ 20 := fun l hl => by
              rw [lst] at hl
              have := lle l hl
              omega
            have hlen : S.ls.length ≤ 1000 := by rw [lst]; omega
            repeat walk_at "s"
            refine ⟨t.p, _, _, by rw [pt], U.ins, by rfl, ?_⟩
            repeat walk_at "s"
            refine ⟨t, S, x, y, by rw [pt]; rfl, U, srt, hlsS, hlen, fun r0 ws0 H5 s5 hr0 dr0 => ?_⟩
            rw [lst] at dr0
            have c0 := DAt.tup hr0 dr0
            have I5 := I4.same s5
            have U5 := U.same s5
            have d5 := d4.mono (Tk.same s5)
            clear I4 U d4 hr0 dr0
            repeat walk_at "s"
            refine ⟨_, _, rfl, .inr (.inr ⟨_, c0, d5, dqr, fun H6 s6 => ?_⟩)⟩
            have I6 := I5.same s6
            have U6 := U5.same s6
            have d6 := d5.mono (Tk.same s6)
            clear I5 U5 d5 c0
            refine ⟨_, rfl, ?_⟩
            refine iteF ?_
            repeat walk_at "s"
            refine ⟨t.p, _, _, by rw [pt], U6.ins, by rfl, ?_⟩
            repeat walk_at "s"
            refine ⟨t, S, x, y, by rw [pt]; rfl, U6, srt, hlsS, hlen, fun r1 ws1 H7 s7 hr1 dr1 => ?_⟩
            rw [lst] at dr1
            have c1 := DAt.tup hr1 dr1
            have I7 := I6.same s7
            have U7 := U6.same s7
            have d7 := d6.mono (Tk.same s7)
            clear I6 U6 d6 hr1 dr1
            repeat walk_at "s"
            refine ⟨_, _, rfl, .inr (.inr ⟨_, c1, d7, dqr, fun H8 s8 => ?_⟩)⟩
            have I8 := I7.same s8
            have U8 := U7.same s8
            have d8 := d7.mono (Tk.same s8)
            clear I7 U7 d7 c1
            refine ⟨_, rfl, ?_⟩
            refine iteF ?_
            obtain ⟨us8, hus8, dus8⟩ := I8.lts
            have lus8 := dus8.length
            rw [List.length_map] at lus8
            repeat walk_at "s"
            intro Z hZ
            refine lc_range (lo := 0) (n := ((us8.length : Int)).toNat) (fun i H2 => ∃ acc, H2 Z = some (.lst acc) ∧ DsAt H2 acc ((L.take i).map (lkD (bth x y))) ∧ Same H8 H2) ⟨[], upd_same, .nil, sm_new hZ⟩ ?_ ?_
            · rintro i2 H2 hi2 ⟨acc, e2, da, s2⟩
              have hil : i2 < L.length := by omega
              have hn := List.getElem?_eq_getElem hil
              have hl := lle _ (List.getElem_mem hil)
              generalize L[i2]'hil = l at hn hl
              have la := da.length
              rw [List.length_map, List.length_take] at la
              rw [show (0 : Int) + (i2 : Int) = (i2 : Int) by omega]
              have U9 := U8.same s2
              repeat walk_at "s"
              refine ⟨t.p, _, _, by rw [pt], U9.ins, by rfl, ?_⟩
              repeat walk_at "s"
              refine ⟨t, S, i2, l, by rw [pt]; rfl, U9, by rw [lst]; exact hn, hl.1, by have := hl.2; omega, fun x' y' ve H3 sr3 s3 de => ?_⟩
              obtain ⟨rfl, rfl⟩ := srt.uniq sr3
              have d3 := s3 _ _ e2
              refine ⟨acc, d3, big99 (by omega), _, upd_same, ?_, fun b o h => by rw [upd_ne (ne_of_none h hZ)]; exact s3 _ _ (s2 _ _ h)⟩
              rw [List.take_add_one, hn, List.map_append]
              exact ((da.mono (Tk.same s3)).app (.cons de .nil)).mono (Tk.lst d3)
            rintro H9 ⟨acc, e9, da, s9⟩
            rw [lus8, Int.toNat_natCast, List.take_length] at da
            repeat walk_at "s"
            refine ⟨Z, _, rfl, .inl ⟨SqL.of e9, fun z9 hz9 => ?_⟩⟩
            have s10 := s9.trans (sm_new (o := .tup acc) hz9)
            have c10 : DAt (upd H9 z9 (.tup acc)) (.ref z9) (.tuple (L.map (lkD (bth x y)))) := .tup upd_same (da.mono (Tk.new hz9))
            have I10 := I8.same s10
            have U10 := U8.same s10
            have d10 := d8.mono (Tk.same s10)
            generalize upd H9 z9 (.tup acc) = H10 at c10 I10 U10 d10 s10 ⊢
            clear I8 U8 d8 s9 e9 da hZ hz9 hus8 dus8 s10
            repeat walk_at "s"
            refine ⟨_, _, rfl, .inr (.inr ⟨_, c10, d10, dqr, fun H11 s11 => ?_⟩)⟩
            have I11 := I10.same s11
            have U11 := U10.same s11
            have d11 := d10.mono (Tk.same s11)
            clear I10 U10 d10 c10
            refine ⟨_, rfl, ?_⟩
            refine iteF ?_
            obtain ⟨us11, hus11, dus11⟩ := I11.lts
            have lus11 := dus11.length
            rw [List.length_map] at lus11
            repeat walk_at "s"
            intro Z hZ
            refine lc_range (lo := 0) (n := ((us11.length : Int)).toNat) (fun i H2 => ∃ acc, H2 Z = some (.lst acc) ∧ DsAt H2 acc ((L.take i).map ld) ∧ Same H11 H2) ⟨[], upd_same, .nil, sm_new hZ⟩ ?_ ?_
            · rintro i2 H2 hi2 ⟨acc, e2, da, s2⟩
              have hil : i2 < L.length := by omega
              have hn := List.getElem?_eq_getElem hil
              generalize L[i2]'hil = l at hn
              have la := da.length
              rw [List.length_map, List.length_take] at la
              rw [show (0 : Int) + (i2 : Int) = (i2 : Int) by omega]
              have U12 := U11.same s2
              repeat walk_at "s"
              refine ⟨t.p, _, _, by rw [pt], U12.ins, by rfl, ?_⟩
              repeat walk_at "s"
              refine ⟨t, S, i2, l, by rw [pt]; rfl, U12, by rw [lst]; exact hn, fun q5 hq5 => ?_⟩
              have de : DAt H2 (.ref q5) (ld l) := .tup hq5 (.cons (.int _) (.cons (.int _) (.cons (.str _) .nil)))
              refine ⟨acc, e2, big99 (by omega), _, upd_same, ?_, fun b o h => by rw [upd_ne (ne_of_none h hZ)]; exact s2 _ _ h⟩
              rw [List.take_add_one, hn, List.map_append]
              exact (da.app (.cons de .nil)).mono (Tk.lst e2)
            rintro H12 ⟨acc, e12, da, s12⟩
            rw [lus11, Int.toNat_natCast, List.take_length] at da
            repeat walk_at "s"
            refine ⟨Z, _, rfl, .inl ⟨SqL.of e12, fun z12 hz12 => ?_⟩⟩
            have s13 := s12.trans (sm_new (o := .tup acc) hz12)
            have c13 : DAt (upd H12 z12 (.tup acc)) (.ref z12) (.tuple (L.map ld)) := .tup upd_same (da.mono (Tk.new hz12))
            have I13 := I11.same s13
            have d13 := d11.mono (Tk.same s13)
            generalize upd H12 z12 (.tup acc) = H13' at c13 I13 d13 s13 ⊢
            clear I11 U11 d11 s12 e12 da hZ hz12 hus11 dus11 s13
            obtain ⟨us13, hus13, dus13⟩ := I13.lts
            repeat walk_at "s"
            refine ⟨D.ll, _, rfl, .inl ⟨SqL.of hus13, fun z14 hz14 => ?_⟩⟩
            have s14 := sm_new (o := .tup us13) hz14
            have c14 : DAt (upd H13' z14 (.tup us13)) (.ref z14) (.tuple (L.map ld)) := .tup upd_same (dus13.mono (Tk.new hz14))
            have I14 := I13.same s14
            have d14 := d13.mono (Tk.same s14)
            have c13' := c13.mono (Tk.same s14)
            generalize upd H13' z14 (.tup us13) = H14 at c14 c13' I14 d14 ⊢
            clear I13 d13 c13 s14 hz14 hus13 dus13
            repeat walk_at "s"
            refine ⟨_, _, rfl, .inr (.inr ⟨_, c13', c14, dq_tup (n := 39) (by rw [List.length_map]; omega) (fun e he => by
              obtain ⟨l, hl, rfl⟩ := List.mem_map.mp he
              exact dq_ld (n := 37)), fun H15 s15 => ?_⟩)⟩
            refine ⟨_, rfl, ?_⟩
            refine iteF ?_
            exact ⟨_, _, rfl, I14.same s15, d14.mono (Tk.same s15)⟩
          · rintro σ H4 ⟨v10, v11, rfl, I4, d4⟩
            obtain ⟨t0, S0', U0, p0, -, -, n1, n2⟩ := I4.tun 0
            obtain ⟨t1, S1', U1, p1, -, -, n3, n4⟩ := I4.tun 1
            rw [if_pos rfl] at n1 n2
            rw [if_neg (by decide)] at n3 n4
            have hpr4 := I4.pr
            have hnm4 := I4.nm
            rw [q7] at hnm4
            repeat walk_at "s"
            refine w_fldA (by rw [← p0]; exact U0.ins) T.cl_Tunnel T.n_Tunnel_first (by rfl) ?_
            repeat walk_at "s"
            refine w_fldA (by rw [← p0]; exact U0.ins) T.cl_Tunnel T.n_Tunnel_second (by rfl) ?_
            repeat walk_at "s"
            refine w_fldA (by rw [← p1]; exact U1.ins) T.cl_Tunnel T.n_Tunnel_first (by rfl) ?_
            repeat walk_at "s"
            refine w_fldA (by rw [← p1]; exact U1.ins) T.cl_Tunnel T.n_Tunnel_second (by rfl) ?_
            repeat walk_at "s"
            rw [n1, n2, n3, n4]
            refine ⟨by walk_at "len", fun a4 ha4 => ?_⟩
            have s5 := sm_new (o := .tup [.str (f 0), .str (f 1), .str (f 1), .str (f 0)]) ha4
            have e5 := upd_self2 ha4 (.tup [.str (f 0), .str (f 1), .str (f 1), .str (f 0)])
            generalize upd H4 a4 (.tup [.str (f 0), .str (f 1), .str (f 1), .str (f 0)]) = H5 at s5 e5 ⊢
            have hnm5 : H5 D.nl = some (.lst [V.str (f 0), V.str (f 1), V.str (f 2), V.str (f 3)]) := s5 _ _ hnm4
            repeat walk_at "s"
            refine ⟨_, _, rfl, SqL.of hnm5, fun a6 ha6 => ?_⟩
            have ec : cutV [V.str (f 0), V.str (f 1), V.str (f 2), V.str (f 3)] none (some 2) = [V.str (f 0), V.str (f 1)] := by rfl
            rw [ec]
            have s6 := sm_new (o := .lst [V.str (f 0), V.str (f 1)]) ha6
            have e6 := upd_self2 ha6 (.lst [V.str (f 0), V.str (f 1)])
            generalize upd H5 a6 (.lst [V.str (f 0), V.str (f 1)]) = H6 at s6 e6 ⊢
            refine w_revO ?_
            repeat walk_at "s"
            refine ⟨_, _, _, _, rfl, SqL.of (s6 _ _ hnm5), fun a7 ha7 => ?_⟩
            have s7 := sm_new (o := .lst [V.str (f 1), V.str (f 0)]) ha7
            have e7 := upd_self2 ha7 (.lst [V.str (f 1), V.str (f 0)])
            generalize upd H6 a7 (.lst [V.str (f 1), V.str (f 0)]) = H7 at s7 e7 ⊢
            refine ⟨a6, a7, _, _, rfl, rfl, s7 _ _ e6, e7, by show 4 ≤ sizeLine; decide, fun a8 ha8 => ?_⟩
            have s8 := sm_new (o := .lst ([V.str (f 0), V.str (f 1)] ++ [V.str (f 1), V.str (f 0)])) ha8
            have e8 := upd_self2 ha8 (.lst ([V.str (f 0), V.str (f 1)] ++ [V.str (f 1), V.str (f 0)]))
            generalize upd H7 a8 (.lst ([V.str (f 0), V.str (f 1)] ++ [V.str (f 1), V.str (f 0)])) = H8' at s8 e8 ⊢
            repeat walk_at "s"
            refine ⟨a8, _, rfl, .inl ⟨SqL.of e8, fun a9 ha9 => ?_⟩⟩
            have s9 := sm_new (o := .tup ([V.str (f 0), V.str (f 1)] ++ [V.str (f 1), V.str (f 0)])) ha9
            have e9 := upd_self2 ha9 (.tup ([V.str (f 0), V.str (f 1)] ++ [V.str (f 1), V.str (f 0)]))
            have e5' := s9 _ _ (s8 _ _ (s7 _ _ (s6 _ _ e5)))
            repeat walk_at "s"
            refine ⟨_, _, rfl, .inr (.inr ⟨.tuple [.str (f 0), .str (f 1), .str (f 1), .str (f 0)], .tup e5' (.cons (.str _) (.cons (.str _) (.cons (.str _) (.cons (.str _) .nil)))), .tup e9 (.cons (.str _) (.cons (.str _) (.cons (.str _) (.cons (.str _) .nil)))), dq_tup (n := 39) (by show 4 ≤ 500; decide) (fun e he => ?_), fun H15 s15 => q H15⟩)⟩
            simp only [List.mem_cons, List.not_mem_nil, or_false] at he
            rcases he with rfl | rfl | rfl | rfl <;> exact dq_str
end
def dd_0 : He.DefD := ⟨("is_name", none), "is_name", "is_name", defArgs sis_name, defBody sis_name, defScope sis_name, [], []⟩
def dd_1 : He.DefD := ⟨("is_capital", none), "is_capital", "is_capital", defArgs sis_capital, defBody sis_capital, defScope sis_capital, [], []⟩
def dd_2 : He.DefD := ⟨("_is_word", none), "_is_word", "_is_word", defArgs s_is_word, defBody s_is_word, defScope s_is_word, [], []⟩
def dd_3 : He.DefD := ⟨("is_number", none), "is_number", "is_number", defArgs sis_number, defBody sis_number, defScope sis_number, [], []⟩
def dd_4 : He.DefD := ⟨("forms_within", none), "forms_within", "forms_within", defArgs sforms_within, defBody sforms_within, defScope sforms_within, [], []⟩
def dd_5 : He.DefD := ⟨("_places_of", none), "_places_of", "_places_of", defArgs s_places_of, defBody s_places_of, defScope s_places_of, [], []⟩
def dd_6 : He.DefD := ⟨("_fits", none), "_fits", "_fits", defArgs s_fits, defBody s_fits, defScope s_fits, [], []⟩
def dd_7 : He.DefD := ⟨("Tunnel", some "__init__"), "__init__", "Tunnel.__init__", defArgs sTunnel___init__, defBody sTunnel___init__, defScope sTunnel___init__, [], []⟩
def dd_8 : He.DefD := ⟨("Tunnel", some "send"), "send", "Tunnel.send", defArgs sTunnel_send, defBody sTunnel_send, defScope sTunnel_send, [], []⟩
def dd_9 : He.DefD := ⟨("Tunnel", some "rekey"), "rekey", "Tunnel.rekey", defArgs sTunnel_rekey, defBody sTunnel_rekey, defScope sTunnel_rekey, [], []⟩
def dd_10 : He.DefD := ⟨("Tunnel", some "deliver"), "deliver", "Tunnel.deliver", defArgs sTunnel_deliver, defBody sTunnel_deliver, defScope sTunnel_deliver, [], []⟩
def dd_11 : He.DefD := ⟨("Tunnel", some "_renew"), "_renew", "Tunnel._renew", defArgs sTunnel__renew, defBody sTunnel__renew, defScope sTunnel__renew, [], []⟩
def dd_12 : He.DefD := ⟨("Tunnel", some "_judged"), "_judged", "Tunnel._judged", defArgs sTunnel__judged, defBody sTunnel__judged, defScope sTunnel__judged, [], []⟩
def dd_13 : He.DefD := ⟨("Tunnel", some "letter"), "letter", "Tunnel.letter", defArgs sTunnel_letter, defBody sTunnel_letter, defScope sTunnel_letter, [], []⟩
def dd_14 : He.DefD := ⟨("Tunnel", some "key_term"), "key_term", "Tunnel.key_term", defArgs sTunnel_key_term, defBody sTunnel_key_term, defScope sTunnel_key_term, [], []⟩
def dd_15 : He.DefD := ⟨("Tunnel", some "sealed"), "sealed", "Tunnel.sealed", defArgs sTunnel_sealed, defBody sTunnel_sealed, defScope sTunnel_sealed, [], []⟩
def dd_16 : He.DefD := ⟨("Tunnel", some "sealed_row"), "sealed_row", "Tunnel.sealed_row", defArgs sTunnel_sealed_row, defBody sTunnel_sealed_row, defScope sTunnel_sealed_row, [], []⟩
def dd_17 : He.DefD := ⟨("is_term", none), "is_term", "is_term", defArgs sis_term, defBody sis_term, defScope sis_term, [], []⟩
def dd_18 : He.DefD := ⟨("is_ground", none), "is_ground", "is_ground", defArgs sis_ground, defBody sis_ground, defScope sis_ground, [], []⟩
def dd_19 : He.DefD := ⟨("size", none), "size", "size", defArgs ssize, defBody ssize, defScope ssize, [], []⟩
def dd_20 : He.DefD := ⟨("occurrences", none), "occurrences", "occurrences", defArgs soccurrences, defBody soccurrences, defScope soccurrences, [], []⟩
def dd_21 : He.DefD := ⟨("_law_pile", none), "_law_pile", "_law_pile", defArgs s_law_pile, defBody s_law_pile, defScope s_law_pile, [], []⟩
def dd_22 : He.DefD := ⟨("_law_draw", none), "_law_draw", "_law_draw", defArgs s_law_draw, defBody s_law_draw, defScope s_law_draw, [], []⟩
def dd_23 : He.DefD := ⟨("_law_names", none), "_law_names", "_law_names", defArgs s_law_names, defBody s_law_names, defScope s_law_names, [], []⟩
def dd_24 : He.DefD := ⟨("_law_whole", none), "_law_whole", "_law_whole", defArgs s_law_whole, defBody s_law_whole, defScope s_law_whole, [], []⟩
def dd_25 : He.DefD := ⟨("_law_same", none), "_law_same", "_law_same", defArgs s_law_same, defBody s_law_same, defScope s_law_same, [], []⟩
def dd_26 : He.DefD := ⟨("_law_keys", none), "_law_keys", "_law_keys", defArgs s_law_keys, defBody s_law_keys, defScope s_law_keys, [], []⟩
def dd_27 : He.DefD := ⟨("_law_sealed", none), "_law_sealed", "_law_sealed", defArgs s_law_sealed, defBody s_law_sealed, defScope s_law_sealed, [], []⟩
def dd_28 : He.DefD := ⟨("_law_deed", none), "_law_deed", "_law_deed", defArgs s_law_deed, defBody s_law_deed, defScope s_law_deed, [], []⟩
def dd_29 : He.DefD := ⟨("_law_read", none), "_law_read", "_law_read", defArgs s_law_read, defBody s_law_read, defScope s_law_read, [], []⟩
def dd_30 : He.DefD := ⟨("law", none), "law", "law", defArgs slaw, defBody slaw, defScope slaw, [], []⟩
def fnF : List He.DefD := [dd_0, dd_1, dd_2, dd_3, dd_4, dd_5, dd_6, dd_7, dd_8, dd_9, dd_10, dd_11, dd_12, dd_13, dd_14, dd_15, dd_16, dd_17, dd_18, dd_19, dd_20, dd_21, dd_22, dd_23, dd_24, dd_25, dd_26, dd_27, dd_28, dd_29, dd_30]
def exF (K : PySem.W.Frag) : Bool := He.tupB K "LANGUAGES" [.str "atom", .str "term", .str "role term", .str "recipe"]
theorem tb0 {K : PySem.W.Frag} (h : exF K = true) : He.tupB K "LANGUAGES" [.str "atom", .str "term", .str "role term", .str "recipe"] = true := h
def faF : List He.Fa := [.glo "is_name", .glo "is_capital", .glo "_is_word", .glo "is_number", .glo "forms_within", .glo "_places_of", .glo "_fits", .glo "is_term", .glo "is_ground", .glo "size", .glo "occurrences", .glo "_law_pile", .glo "_law_draw", .glo "_law_names", .glo "_law_whole", .glo "_law_same", .glo "_law_keys", .glo "_law_sealed", .glo "_law_deed", .glo "_law_read", .glo "law", .int "LONGEST_NAME" 8, .int "WIDEST_WINDOW" 64, .int "LAST_EPOCH" 12, .glo "Tunnel", .cls "Tunnel", .mkr "Tunnel", .noat "Tunnel" "window", .noat "Tunnel" "first", .noat "Tunnel" "second", .noat "Tunnel" "_letters", .noat "Tunnel" "_epoch", .noat "Tunnel" "_sent", .noat "Tunnel" "_newest", .noat "Tunnel" "_counts", .noat "Tunnel" "_tops", .noat "Tunnel" "_received", .meth "Tunnel" "__init__", .meth "Tunnel" "send", .meth "Tunnel" "rekey", .meth "Tunnel" "deliver", .meth "Tunnel" "_renew", .meth "Tunnel" "_judged", .meth "Tunnel" "letter", .meth "Tunnel" "key_term", .meth "Tunnel" "sealed", .meth "Tunnel" "sealed_row", .free "ValueError", .free "abs", .free "all", .free "bool", .free "enumerate", .free "int", .free "isinstance", .free "len", .free "property", .free "range", .free "reversed", .free "sorted", .free "str", .free "tuple", .glo "LANGUAGES"]
theorem all_mk {P : Program} {w : World} {K : PySem.W.Frag} {h : Heap} {mg : Str → Option Value} {fa : Addr} (X : K.In h) (G : h.Ns mainGlobals mg) (hfa : mg "law" = some (.ref fa)) (c : He.SaysD faF fnF K) (hx : exF K = true) {d : Addr} {ents : List TopX.Ent}
    (h_PLACES : PySem.W.nsIn K mainGlobals "PLACES" = some (some (.ref d))) (pl : TopX.PlK P w K d ents rowsP) {d_GREATEST_NUMBERS : Addr} (h_GREATEST_NUMBERS : PySem.W.nsIn K mainGlobals "GREATEST_NUMBERS" = some (some (.ref d_GREATEST_NUMBERS))) (fl_GREATEST_NUMBERS : TopX.FlK P w K d_GREATEST_NUMBERS fes_GREATEST_NUMBERS)
    : ∃ fd : FuncData, (∀ (s : Shared) (v : Value), BindsTo s fd ⟨[v], []⟩ [("script", v)]) ∧ ∀ base : Heap, K.In base → base.Ns mainGlobals mg → FnOk P w K mg base CX0 60 fa fd ["script"] (spLaw K) := by
  obtain ⟨e0, F0⟩ := c.def_ 0 (d := dd_0) rfl
  obtain ⟨e1, F1⟩ := c.def_ 1 (d := dd_1) rfl
  obtain ⟨e2, F2⟩ := c.def_ 2 (d := dd_2) rfl
  obtain ⟨e3, F3⟩ := c.def_ 3 (d := dd_3) rfl
  obtain ⟨e4, F4⟩ := c.def_ 4 (d := dd_4) rfl
  obtain ⟨e5, F5⟩ := c.def_ 5 (d := dd_5) rfl
  obtain ⟨e6, F6⟩ := c.def_ 6 (d := dd_6) rfl
  obtain ⟨e7, F7⟩ := c.def_ 7 (d := dd_7) rfl
  obtain ⟨e8, F8⟩ := c.def_ 8 (d := dd_8) rfl
  obtain ⟨e9, F9⟩ := c.def_ 9 (d := dd_9) rfl
  obtain ⟨e10, F10⟩ := c.def_ 10 (d := dd_10) rfl
  obtain ⟨e11, F11⟩ := c.def_ 11 (d := dd_11) rfl
  obtain ⟨e12, F12⟩ := c.def_ 12 (d := dd_12) rfl
  obtain ⟨e13, F13⟩ := c.def_ 13 (d := dd_13) rfl
  obtain ⟨e14, F14⟩ := c.def_ 14 (d := dd_14) rfl
  obtain ⟨e15, F15⟩ := c.def_ 15 (d := dd_15) rfl
  obtain ⟨e16, F16⟩ := c.def_ 16 (d := dd_16) rfl
  obtain ⟨e17, F17⟩ := c.def_ 17 (d := dd_17) rfl
  obtain ⟨e18, F18⟩ := c.def_ 18 (d := dd_18) rfl
  obtain ⟨e19, F19⟩ := c.def_ 19 (d := dd_19) rfl
  obtain ⟨e20, F20⟩ := c.def_ 20 (d := dd_20) rfl
  obtain ⟨e21, F21⟩ := c.def_ 21 (d := dd_21) rfl
  obtain ⟨e22, F22⟩ := c.def_ 22 (d := dd_22) rfl
  obtain ⟨e23, F23⟩ := c.def_ 23 (d := dd_23) rfl
  obtain ⟨e24, F24⟩ := c.def_ 24 (d := dd_24) rfl
  obtain ⟨e25, F25⟩ := c.def_ 25 (d := dd_25) rfl
  obtain ⟨e26, F26⟩ := c.def_ 26 (d := dd_26) rfl
  obtain ⟨e27, F27⟩ := c.def_ 27 (d := dd_27) rfl
  obtain ⟨e28, F28⟩ := c.def_ 28 (d := dd_28) rfl
  obtain ⟨e29, F29⟩ := c.def_ 29 (d := dd_29) rfl
  obtain ⟨e30, F30⟩ := c.def_ 30 (d := dd_30) rfl
  have g0 := He.glo_ok X G (c.fact 0 (f := .glo "is_name") rfl)
  have g1 := He.glo_ok X G (c.fact 1 (f := .glo "is_capital") rfl)
  have g2 := He.glo_ok X G (c.fact 2 (f := .glo "_is_word") rfl)
  have g3 := He.glo_ok X G (c.fact 3 (f := .glo "is_number") rfl)
  have g4 := He.glo_ok X G (c.fact 4 (f := .glo "forms_within") rfl)
  have g5 := He.glo_ok X G (c.fact 5 (f := .glo "_places_of") rfl)
  have g6 := He.glo_ok X G (c.fact 6 (f := .glo "_fits") rfl)
  have g17 := He.glo_ok X G (c.fact 7 (f := .glo "is_term") rfl)
  have g18 := He.glo_ok X G (c.fact 8 (f := .glo "is_ground") rfl)
  have g19 := He.glo_ok X G (c.fact 9 (f := .glo "size") rfl)
  have g20 := He.glo_ok X G (c.fact 10 (f := .glo "occurrences") rfl)
  have g21 := He.glo_ok X G (c.fact 11 (f := .glo "_law_pile") rfl)
  have g22 := He.glo_ok X G (c.fact 12 (f := .glo "_law_draw") rfl)
  have g23 := He.glo_ok X G (c.fact 13 (f := .glo "_law_names") rfl)
  have g24 := He.glo_ok X G (c.fact 14 (f := .glo "_law_whole") rfl)
  have g25 := He.glo_ok X G (c.fact 15 (f := .glo "_law_same") rfl)
  have g26 := He.glo_ok X G (c.fact 16 (f := .glo "_law_keys") rfl)
  have g27 := He.glo_ok X G (c.fact 17 (f := .glo "_law_sealed") rfl)
  have g28 := He.glo_ok X G (c.fact 18 (f := .glo "_law_deed") rfl)
  have g29 := He.glo_ok X G (c.fact 19 (f := .glo "_law_read") rfl)
  have g30 := He.glo_ok X G (c.fact 20 (f := .glo "law") rfl)
  obtain ⟨tk_LONGEST_NAME, cc_LONGEST_NAME⟩ := He.int_ok X G (c.fact 21 (f := .int "LONGEST_NAME" 8) rfl)
  obtain ⟨tk_WIDEST_WINDOW, cc_WIDEST_WINDOW⟩ := He.int_ok X G (c.fact 22 (f := .int "WIDEST_WINDOW" 64) rfl)
  obtain ⟨tk_LAST_EPOCH, cc_LAST_EPOCH⟩ := He.int_ok X G (c.fact 23 (f := .int "LAST_EPOCH" 12) rfl)
  let T : Top K mg := {
    C_Tunnel := He.ga K "Tunnel", g_Tunnel := He.glo_ok X G (c.fact 24 (f := .glo "Tunnel") rfl), cl_Tunnel := He.cls_ok (c.fact 25 (f := .cls "Tunnel") rfl), mk_Tunnel := He.mkr_ok (c.fact 26 (f := .mkr "Tunnel") rfl),
    n_Tunnel_window := He.noat_ok (c.fact 27 (f := .noat "Tunnel" "window") rfl),
    n_Tunnel_first := He.noat_ok (c.fact 28 (f := .noat "Tunnel" "first") rfl),
    n_Tunnel_second := He.noat_ok (c.fact 29 (f := .noat "Tunnel" "second") rfl),
    n_Tunnel__letters := He.noat_ok (c.fact 30 (f := .noat "Tunnel" "_letters") rfl),
    n_Tunnel__epoch := He.noat_ok (c.fact 31 (f := .noat "Tunnel" "_epoch") rfl),
    n_Tunnel__sent := He.noat_ok (c.fact 32 (f := .noat "Tunnel" "_sent") rfl),
    n_Tunnel__newest := He.noat_ok (c.fact 33 (f := .noat "Tunnel" "_newest") rfl),
    n_Tunnel__counts := He.noat_ok (c.fact 34 (f := .noat "Tunnel" "_counts") rfl),
    n_Tunnel__tops := He.noat_ok (c.fact 35 (f := .noat "Tunnel" "_tops") rfl),
    n_Tunnel__received := He.noat_ok (c.fact 36 (f := .noat "Tunnel" "_received") rfl),
    fis_name := _, dis_name := e0, Fis_name := TopX.fun_of F0, gis_name := g0, bis_name := FunD.bindsN (ps := ["value"]) F0 fun _ _ _ _ _ _ us hl => match us, hl with | [_], _ => rfl,
    fis_capital := _, dis_capital := e1, Fis_capital := TopX.fun_of F1, gis_capital := g1, bis_capital := FunD.bindsN (ps := ["value"]) F1 fun _ _ _ _ _ _ us hl => match us, hl with | [_], _ => rfl,
    f_is_word := _, d_is_word := e2, F_is_word := TopX.fun_of F2, g_is_word := g2, b_is_word := FunD.bindsN (ps := ["value", "least", "greatest"]) F2 fun _ _ _ _ _ _ us hl => match us, hl with | [_, _, _], _ => rfl,
    fis_number := _, dis_number := e3, Fis_number := TopX.fun_of F3, gis_number := g3, bis_number := FunD.bindsN (ps := ["value", "greatest"]) F3 fun _ _ _ _ _ _ us hl => match us, hl with | [_, _], _ => rfl,
    fforms_within := _, dforms_within := e4, Fforms_within := TopX.fun_of F4, gforms_within := g4, bforms_within := FunD.bindsN (ps := ["value", "language", "capitals"]) F4 fun _ _ _ _ _ _ us hl => match us, hl with | [_, _, _], _ => rfl,
    f_places_of := _, d_places_of := e5, F_places_of := TopX.fun_of F5, g_places_of := g5, b_places_of := FunD.bindsN (ps := ["value", "language"]) F5 fun _ _ _ _ _ _ us hl => match us, hl with | [_, _], _ => rfl,
    f_fits := _, d_fits := e6, F_fits := TopX.fun_of F6, g_fits := g6, b_fits := FunD.bindsN (ps := ["item", "place", "before", "capitals"]) F6 fun _ _ _ _ _ _ us hl => match us, hl with | [_, _, _, _], _ => rfl,
    fTunnel___init__ := _, dTunnel___init__ := e7, FTunnel___init__ := TopX.fun_of F7, mTunnel___init__ := He.meth_ok (c.fact 37 (f := .meth "Tunnel" "__init__") rfl), bTunnel___init__ := FunD.bindsN (ps := ["self", "window", "first", "second"]) F7 fun _ _ _ _ _ _ us hl => match us, hl with | [_, _, _, _], _ => rfl,
    fTunnel_send := _, dTunnel_send := e8, FTunnel_send := TopX.fun_of F8, mTunnel_send := He.meth_ok (c.fact 38 (f := .meth "Tunnel" "send") rfl), bTunnel_send := FunD.bindsN (ps := ["self", "payload"]) F8 fun _ _ _ _ _ _ us hl => match us, hl with | [_, _], _ => rfl,
    fTunnel_rekey := _, dTunnel_rekey := e9, FTunnel_rekey := TopX.fun_of F9, mTunnel_rekey := He.meth_ok (c.fact 39 (f := .meth "Tunnel" "rekey") rfl), bTunnel_rekey := FunD.bindsN (ps := ["self"]) F9 fun _ _ _ _ _ _ us hl => match us, hl with | [_], _ => rfl,
    fTunnel_deliver := _, dTunnel_deliver := e10, FTunnel_deliver := TopX.fun_of F10, mTunnel_deliver := He.meth_ok (c.fact 40 (f := .meth "Tunnel" "deliver") rfl), bTunnel_deliver := FunD.bindsN (ps := ["self", "number"]) F10 fun _ _ _ _ _ _ us hl => match us, hl with | [_, _], _ => rfl,
    fTunnel__renew := _, dTunnel__renew := e11, FTunnel__renew := TopX.fun_of F11, mTunnel__renew := He.meth_ok (c.fact 41 (f := .meth "Tunnel" "_renew") rfl), bTunnel__renew := FunD.bindsN (ps := ["self", "epoch"]) F11 fun _ _ _ _ _ _ us hl => match us, hl with | [_, _], _ => rfl,
    fTunnel__judged := _, dTunnel__judged := e12, FTunnel__judged := TopX.fun_of F12, mTunnel__judged := He.meth_ok (c.fact 42 (f := .meth "Tunnel" "_judged") rfl), bTunnel__judged := FunD.bindsN (ps := ["self", "back", "number", "count"]) F12 fun _ _ _ _ _ _ us hl => match us, hl with | [_, _, _, _], _ => rfl,
    fTunnel_letter := _, dTunnel_letter := e13, FTunnel_letter := TopX.fun_of F13, mTunnel_letter := He.meth_ok (c.fact 43 (f := .meth "Tunnel" "letter") rfl), bTunnel_letter := FunD.bindsN (ps := ["self", "number"]) F13 fun _ _ _ _ _ _ us hl => match us, hl with | [_, _], _ => rfl,
    fTunnel_key_term := _, dTunnel_key_term := e14, FTunnel_key_term := TopX.fun_of F14, mTunnel_key_term := He.meth_ok (c.fact 44 (f := .meth "Tunnel" "key_term") rfl), bTunnel_key_term := FunD.bindsN (ps := ["self", "epoch"]) F14 fun _ _ _ _ _ _ us hl => match us, hl with | [_, _], _ => rfl,
    fTunnel_sealed := _, dTunnel_sealed := e15, FTunnel_sealed := TopX.fun_of F15, mTunnel_sealed := He.meth_ok (c.fact 45 (f := .meth "Tunnel" "sealed") rfl), bTunnel_sealed := FunD.bindsN (ps := ["self", "number"]) F15 fun _ _ _ _ _ _ us hl => match us, hl with | [_, _], _ => rfl,
    fTunnel_sealed_row := _, dTunnel_sealed_row := e16, FTunnel_sealed_row := TopX.fun_of F16, mTunnel_sealed_row := He.meth_ok (c.fact 46 (f := .meth "Tunnel" "sealed_row") rfl), bTunnel_sealed_row := FunD.bindsN (ps := ["self"]) F16 fun _ _ _ _ _ _ us hl => match us, hl with | [_], _ => rfl,
    fis_term := _, dis_term := e17, Fis_term := TopX.fun_of F17, gis_term := g17, bis_term := FunD.bindsN (ps := ["value"]) F17 fun _ _ _ _ _ _ us hl => match us, hl with | [_], _ => rfl,
    fis_ground := _, dis_ground := e18, Fis_ground := TopX.fun_of F18, gis_ground := g18, bis_ground := FunD.bindsN (ps := ["term"]) F18 fun _ _ _ _ _ _ us hl => match us, hl with | [_], _ => rfl,
    fsize := _, dsize := e19, Fsize := TopX.fun_of F19, gsize := g19, bsize := FunD.bindsN (ps := ["term"]) F19 fun _ _ _ _ _ _ us hl => match us, hl with | [_], _ => rfl,
    foccurrences := _, doccurrences := e20, Foccurrences := TopX.fun_of F20, goccurrences := g20, boccurrences := FunD.bindsN (ps := ["term"]) F20 fun _ _ _ _ _ _ us hl => match us, hl with | [_], _ => rfl,
    f_law_pile := _, d_law_pile := e21, F_law_pile := TopX.fun_of F21, g_law_pile := g21, b_law_pile := FunD.bindsN (ps := ["script"]) F21 fun _ _ _ _ _ _ us hl => match us, hl with | [_], _ => rfl,
    f_law_draw := _, d_law_draw := e22, F_law_draw := TopX.fun_of F22, g_law_draw := g22, b_law_draw := FunD.bindsN (ps := ["pile", "many"]) F22 fun _ _ _ _ _ _ us hl => match us, hl with | [_, _], _ => rfl,
    f_law_names := _, d_law_names := e23, F_law_names := TopX.fun_of F23, g_law_names := g23, b_law_names := FunD.bindsN (ps := ["pile", "many"]) F23 fun _ _ _ _ _ _ us hl => match us, hl with | [_, _], _ => rfl,
    f_law_whole := _, d_law_whole := e24, F_law_whole := TopX.fun_of F24, g_law_whole := g24, b_law_whole := FunD.bindsN (ps := ["actual"]) F24 fun _ _ _ _ _ _ us hl => match us, hl with | [_], _ => rfl,
    f_law_same := _, d_law_same := e25, F_law_same := TopX.fun_of F25, g_law_same := g25, b_law_same := FunD.bindsN (ps := ["actual", "expected"]) F25 fun _ _ _ _ _ _ us hl => match us, hl with | [_, _], _ => rfl,
    f_law_keys := _, d_law_keys := e26, F_law_keys := TopX.fun_of F26, g_law_keys := g26, b_law_keys := FunD.bindsN (ps := ["one", "two"]) F26 fun _ _ _ _ _ _ us hl => match us, hl with | [_, _], _ => rfl,
    f_law_sealed := _, d_law_sealed := e27, F_law_sealed := TopX.fun_of F27, g_law_sealed := g27, b_law_sealed := FunD.bindsN (ps := ["letter", "keys"]) F27 fun _ _ _ _ _ _ us hl => match us, hl with | [_, _], _ => rfl,
    f_law_deed := _, d_law_deed := e28, F_law_deed := TopX.fun_of F28, g_law_deed := g28, b_law_deed := FunD.bindsN (ps := ["pile", "pair", "letters", "sender", "names"]) F28 fun _ _ _ _ _ _ us hl => match us, hl with | [_, _, _, _, _], _ => rfl,
    f_law_read := _, d_law_read := e29, F_law_read := TopX.fun_of F29, g_law_read := g29, b_law_read := FunD.bindsN (ps := ["pile", "pair", "letters", "keys"]) F29 fun _ _ _ _ _ _ us hl => match us, hl with | [_, _, _, _], _ => rfl,
    flaw := _, dlaw := e30, Flaw := TopX.fun_of F30, glaw := g30, blaw := FunD.bindsN (ps := ["script"]) F30 fun _ _ _ _ _ _ us hl => match us, hl with | [_], _ => rfl,
    qTunnel_send_payload := by
      obtain ⟨oc, od, kV, doc, pm, an, cdv, ct, osl, e, _, _⟩ := (show L2.Fun K "send" "Tunnel.send" sTunnel_send _ _ from TopX.fun_of F8).ex
      intro s u ws hl
      rw [e]
      exact match ws, hl with | [w0], _ => .of_eq rfl
    qTunnel_key_term_epoch := by
      obtain ⟨oc, od, kV, doc, pm, an, cdv, ct, osl, e, _, _⟩ := (show L2.Fun K "key_term" "Tunnel.key_term" sTunnel_key_term _ _ from TopX.fun_of F14).ex
      intro s u ws hl
      rw [e]
      exact match ws, hl with | [w0], _ => .of_eq rfl
    qTunnel_sealed_number := by
      obtain ⟨oc, od, kV, doc, pm, an, cdv, ct, osl, e, _, _⟩ := (show L2.Fun K "sealed" "Tunnel.sealed" sTunnel_sealed _ _ from TopX.fun_of F15).ex
      intro s u ws hl
      rw [e]
      exact match ws, hl with | [w0], _ => .of_eq rfl
    t_LONGEST_NAME := tk_LONGEST_NAME, c_LONGEST_NAME := cc_LONGEST_NAME,
    t_WIDEST_WINDOW := tk_WIDEST_WINDOW, c_WIDEST_WINDOW := cc_WIDEST_WINDOW,
    t_LAST_EPOCH := tk_LAST_EPOCH, c_LAST_EPOCH := cc_LAST_EPOCH,
    z_ValueError := He.free_ok X G (c.fact 47 (f := .free "ValueError") rfl), z_abs := He.free_ok X G (c.fact 48 (f := .free "abs") rfl), z_all := He.free_ok X G (c.fact 49 (f := .free "all") rfl), z_bool := He.free_ok X G (c.fact 50 (f := .free "bool") rfl), z_enumerate := He.free_ok X G (c.fact 51 (f := .free "enumerate") rfl), z_int := He.free_ok X G (c.fact 52 (f := .free "int") rfl), z_isinstance := He.free_ok X G (c.fact 53 (f := .free "isinstance") rfl), z_len := He.free_ok X G (c.fact 54 (f := .free "len") rfl), z_property := He.free_ok X G (c.fact 55 (f := .free "property") rfl), z_range := He.free_ok X G (c.fact 56 (f := .free "range") rfl), z_reversed := He.free_ok X G (c.fact 57 (f := .free "reversed") rfl), z_sorted := He.free_ok X G (c.fact 58 (f := .free "sorted") rfl), z_str := He.free_ok X G (c.fact 59 (f := .free "str") rfl), z_tuple := He.free_ok X G (c.fact 60 (f := .free "tuple") rfl) }
  have el := hfa.symm.trans g30
  cases el
  exact ⟨e30, fun s v => FunD.bindsA (ps := ["script"]) F30 (fun _ _ _ _ _ _ us hl => match us, hl with | [_], _ => rfl) s [v] rfl, fun base _ _ => oklaw T ⟨d, ents, PySem.W.mg_of X G h_PLACES, pl, d_GREATEST_NUMBERS, PySem.W.mg_of X G h_GREATEST_NUMBERS, fl_GREATEST_NUMBERS, He.ga K "LANGUAGES", He.glo_ok X G (c.fact 61 (f := .glo "LANGUAGES") rfl), fun H => He.tupB_ok (tb0 hx) H⟩⟩
abbrev prP : Program := PySem.Challenge.pw_muffline_k74_keys_and_sealed
def plP : TopX.Many := TopX.manyOf prP (PySem.W.view prP [36]) ((["_wall", "MuffError", "UnknownName", "BadTunnel", "LONGEST_NAME", "GREATEST_NUMBERS", "LANGUAGES", "PLACES", "is_name", "is_capital", "_is_word", "is_number", "forms_within", "_places_of", "_fits", "WIDEST_WINDOW", "LAST_EPOCH", "Tunnel", "is_term", "is_ground"] : List Str) ++ (["size", "occurrences", "_law_pile", "_law_draw", "_law_names", "_law_whole", "_law_same", "_law_keys", "_law_sealed", "_law_deed", "_law_read"] : List Str)) 11 12 50 9000 5 faF fnF exF
theorem F1P (w : World) (os : OsState) : plP.F1 w os := by
  show _ = _
  kernel_rfl
set_option maxHeartbeats 0 in
theorem F2P (w : World) (os : OsState) (ps : Nat → Pos) : plP.F2 w os ps [] := by
  show _ = _
  kernel_rfl
end Mu
open PySem PySem.W PyProof.Rows
set_option maxHeartbeats 0 in
theorem PySem.Challenge.cw_muffline_k74_keys_and_sealed_holds : PySem.Challenge.rw_muffline_k74_keys_and_sealed.Holds := by
  w_on; o_law
  refine TopX.holds_behind (r := OpenLaw.row PySem.Challenge.rw_muffline_k74_keys_and_sealed) (q := Mu.plP.q) (loose := Mu.plP.loose) (YP := Mu.plP.Says) (d := HandSHeadRun.topDef (OpenLaw.row PySem.Challenge.rw_muffline_k74_keys_and_sealed).prog 36) (kwd := []) (fun w => TopX.Many.behind (P := Mu.plP) rfl (by kernel_rfl) (fun s => by kernel_rfl) (by decide +kernel) (by decide +kernel) (TopX.Many.stores (ns := ["GREATEST_NUMBERS", "PLACES"]) (by kernel_rfl) ?hst) (by decide +kernel) (Mu.F1P w) (Mu.F2P w)) TopX.Many.keep
    (by kernel_rfl) (by kernel_rfl) (by kernel_rfl) (by rfl) (by first | assumption | decide +kernel) (by decide +kernel) (by decide +kernel) ⟨rfl, rfl, rfl, rfl, rfl, by decide +kernel⟩ ?hw ?hc
  case hst =>
    intro n hn v
    simp only [List.mem_cons, List.not_mem_nil, or_false] at hn
    rcases hn with rfl | rfl <;> rfl
  case hw => w_witness2
  case hc =>
    refine L2.walk_ofE (l := PySem.Challenge.rw_muffline_k74_keys_and_sealed) (n := 63) (k := 60) (x := "script") (CX := L2.CX0) rfl (by decide) (by kernel_rfl) ⟨rfl, by decide, by decide⟩ ?F (fun _ _ _ _ z => z)
    intro w mg fa h Y G hmg0
    obtain ⟨K, KX, c, hx, ct⟩ := Y
    obtain ⟨d_GREATEST_NUMBERS, h_GREATEST_NUMBERS, s_GREATEST_NUMBERS⟩ := TopX.Many.told (P := Mu.plP) (i := 0) (t := Mu.told_GREATEST_NUMBERS) ct (by kernel_rfl)
    obtain ⟨d_PLACES, h_PLACES, s_PLACES⟩ := TopX.Many.told (P := Mu.plP) (i := 1) (t := Mu.told_PLACES) ct (by kernel_rfl)
    obtain ⟨ents, pl⟩ := TopX.Told.says_rows s_PLACES (by rfl)
    have fl_GREATEST_NUMBERS := TopX.Told.says_flat s_GREATEST_NUMBERS (by rfl)
    have hmg : mg ("law" : PySem.Str) = some (.ref fa) := by
      have e : (HandSHeadRun.topDef (OpenLaw.row PySem.Challenge.rw_muffline_k74_keys_and_sealed).prog 36).name = ("law" : PySem.Str) := by kernel_rfl
      rw [← e]
      exact hmg0
    obtain ⟨fd, hb, hF⟩ := Mu.all_mk (P := (PySem.Challenge.rw_muffline_k74_keys_and_sealed).prog) (w := w) KX G hmg c hx h_PLACES pl h_GREATEST_NUMBERS fl_GREATEST_NUMBERS
    exact ⟨K, fd, Mu.spLaw K, KX, hb, fun H a ns hl _ hS => ⟨a, ns, rfl, hS, hl, fun _ => rfl⟩, hF⟩
