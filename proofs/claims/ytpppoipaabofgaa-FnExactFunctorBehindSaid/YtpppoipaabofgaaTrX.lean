
/- The identity transformation, vertical and horizontal composites, a functor before and behind a transformation: the exported functions of both sides. -/
import Derived.Test.YtpppoipaabofgaaTrM
set_option linter.unusedSimpArgs false
set_option linter.unusedVariables false
set_option linter.unusedSectionVars false
namespace Go.Proofs.Ytpppoipaabofgaa
open Go.RowKit


noncomputable def fIdentityTransformation (F : Fct) : Tra × Int := if fIsFunctor F = true then (⟨F, F, thenL F.o F.T.e⟩, 0) else (tra0, 1)
theorem idt_t {F : Fct} (h : fIsFunctor F = true) : fIdentityTransformation F = (⟨F, F, thenL F.o F.T.e⟩, 0) := if_pos h
theorem idt_f {F : Fct} (h : fIsFunctor F = false) : fIdentityTransformation F = (tra0, 1) := if_neg (by rw [h]; decide)
noncomputable def pairX (p q : Prop) (T : Tra) : Tra × Int := if bP p = true then (if bP q = true then (T, 0) else (tra0, 5)) else (tra0, 1)
theorem pairX_t {p q : Prop} {T : Tra} (h : p) (h' : q) : pairX p q T = (T, 0) := by unfold pairX; rw [if_pos (bP_t h), if_pos (bP_t h')]
theorem pairX_s {p q : Prop} {T : Tra} (h : p) (h' : ¬ q) : pairX p q T = (tra0, 5) := by unfold pairX; rw [if_pos (bP_t h), if_neg (by rw [bP_f h']; decide)]
theorem pairX_f {p q : Prop} {T : Tra} (h : ¬ p) : pairX p q T = (tra0, 1) := by unfold pairX; rw [if_neg (by rw [bP_f h]; decide)]
theorem bound_pairX {p q : Prop} {T : Tra} (h : p → q → mzTr T ≤ 7500000000000000) : mzTr (pairX p q T).1 ≤ 7500000000000000 := by
  by_cases hp : p
  · by_cases hq : q
    · rw [pairX_t hp hq]; exact h hp hq
    · rw [pairX_s hp hq]; decide
  · rw [pairX_f hp]; decide
theorem mzF_f {F : Fct} (h : IsFct F) : mzF F ≤ 4000 := by
  have h1 := isf_lens (isf_t h)
  unfold mzF; omega
theorem mz_thenF {F G : Fct} (h : IsFct F) (h' : IsFct G) : mzF (thenF F G) ≤ 4000 := by
  have h1 := isf_lens (isf_t h); have h2 := isf_lens (isf_t h')
  show mzC F.S + mzC G.T + (thenL F.o G.o).length + (thenL F.a G.a).length ≤ _
  rw [thenL_len, thenL_len]; omega
noncomputable def fThenTransformations (S T : Tra) : Tra × Int := pairX (fIsTransformation S = true ∧ fIsTransformation T = true) (S.T = T.S) (thenT S T)
noncomputable def fFunctorBefore (F : Fct) (T : Tra) : Tra × Int := pairX (fIsFunctor F = true ∧ fIsTransformation T = true) (F.T = T.S.S) (befT F T)
noncomputable def fFunctorBehind (T : Tra) (G : Fct) : Tra × Int := pairX (fIsTransformation T = true ∧ fIsFunctor G = true) (T.S.T = G.S) (behT T G)
def horT (S T : Tra) : Tra := thenT (behT S T.S) (befT S.T T)
noncomputable def fHorizontalComposite (S T : Tra) : Tra × Int := pairX (fIsTransformation S = true ∧ fIsTransformation T = true) (S.S.T = T.S.S) (horT S T)
theorem bound_IdentityTransformation (F : Fct) : mzTr (fIdentityTransformation F).1 ≤ 7500000000000000 := by
  cases hI : fIsFunctor F with
  | false => rw [idt_f hI]; decide
  | true =>
    have hF := isf_of hI
    have h1 := mzF_f hF; have h2 := isf_lens hI
    rw [idt_t hI]
    show mzF F + mzF F + (thenL F.o F.T.e).length ≤ _
    rw [thenL_len]; omega
theorem bound_ThenTransformations (S T : Tra) : mzTr (fThenTransformations S T).1 ≤ 7500000000000000 := bound_pairX fun h _ => by
  have a := trB (isTra_sh h.1); have b := trB (isTra_sh h.2)
  have h1 := mzF_f a.f; have h2 := mzF_f b.g; have h3 := a.c8
  show mzF S.S + mzF T.T + (zpT S.S.T S.c T.c).length ≤ _
  rw [zpT_len]; omega
theorem bound_FunctorBefore (F : Fct) (T : Tra) : mzTr (fFunctorBefore F T).1 ≤ 7500000000000000 := bound_pairX fun h _ => by
  have a := isf_of h.1; have b := trB (isTra_sh h.2)
  have h1 := mz_thenF a b.f; have h2 := mz_thenF a b.g; have h3 := isf_lens h.1
  show mzF (thenF F T.S) + mzF (thenF F T.T) + (thenL F.o T.c).length ≤ _
  rw [thenL_len]; omega
theorem bound_FunctorBehind (T : Tra) (G : Fct) : mzTr (fFunctorBehind T G).1 ≤ 7500000000000000 := bound_pairX fun h _ => by
  have a := isf_of h.2; have b := trB (isTra_sh h.1)
  have h1 := mz_thenF b.f a; have h2 := mz_thenF b.g a; have h3 := b.c8
  show mzF (thenF T.S G) + mzF (thenF T.T G) + (thenL T.c G.a).length ≤ _
  rw [thenL_len]; omega
theorem bound_HorizontalComposite (S T : Tra) : mzTr (fHorizontalComposite S T).1 ≤ 7500000000000000 := bound_pairX fun h _ => by
  have a := trB (isTra_sh h.1); have b := trB (isTra_sh h.2)
  have h1 := mz_thenF a.f b.f; have h2 := mz_thenF a.g b.g; have h3 := a.c8
  show mzF (thenF S.S T.S) + mzF (thenF S.T T.T) + (zpT T.S.T (thenL S.c T.S.a) (thenL S.T.o T.c)).length ≤ _
  rw [zpT_len, thenL_len]; omega
structure BefB (F : Fct) (T : Tra) : Prop where
  b1 : GoB F T.S
  b2 : GoB F T.T
  ha : AllP T.c.length F.o
theorem befB {F : Fct} {T : Tra} (hF : IsFct F) (hT : ShT T) (h : F.T = T.S.S) : BefB F T := by
  have b := trB hT
  refine ⟨goB hF b.f h, goB hF b.g (by rw [h, b.par.1]), ?_⟩
  rw [show (T.c.length : Int) = F.T.ob from by rw [h]; exact b.lc]; exact hF.io
structure BehB (T : Tra) (G : Fct) : Prop where
  b1 : GoB T.S G
  b2 : GoB T.T G
  ha : AllP G.a.length T.c
theorem behB {T : Tra} {G : Fct} (hT : ShT T) (hG : IsFct G) (h : T.S.T = G.S) : BehB T G := by
  have b := trB hT
  refine ⟨goB b.f hG h, goB b.g hG (by rw [← b.par.2, h]), ?_⟩
  rw [show (G.a.length : Int) = T.S.T.s.length from by rw [h]; exact hG.la]; exact b.ic
theorem allP_thenL {f g : List Int} {n : Int} (hf : AllP g.length f) (hg : AllP n g) : AllP n (thenL f g) := by
  intro x hx
  unfold thenL at hx
  obtain ⟨y, hy, rfl⟩ := List.mem_map.1 hx
  have h := hf y hy
  exact allP_i hg h.1 h.2
theorem horB {S T : Tra} (hS : ShT S) (hT : ShT T) (h : S.S.T = T.S.S) : ThB (behT S T.S) (befT S.T T) := by
  have a := trB hS; have b := trB hT
  have c1 := behB hS b.f h
  have c2 := befB (F := S.T) a.g hT (by rw [← a.par.2, h])
  have l1 := a.lc; have l2 := a.g.lo
  rw [← a.par.1] at l2
  refine ⟨(isCat_of b.f.ct).toShapeP, allP_thenL c1.ha b.f.ia, allP_thenL c2.ha b.ic, ?_, ?_⟩
  · show (thenL S.c T.S.a).length = (thenL S.T.o T.c).length
    rw [thenL_len, thenL_len]; omega
  · show (thenL S.c T.S.a).length ≤ 8
    rw [thenL_len]; exact a.c8

set_option maxHeartbeats 4000000 in
set_option maxRecDepth 100000 in
theorem impl_IdentityTransformation (w : World) (v : Value) (F : Fct) (h : RdF w v F) :
    Calls Try.prog 23 #[v] w (RetTrI w (fIdentityTransformation F).1 (fIdentityTransformation F).2) := by
  have h0 := h
  obtain ⟨vx1, vx2, vx3, vx4, vx5, vx6, vx7, vx8, vx9, vx10, vk1, vk2, vk3, vk4, vk5, vk6, vk7, vk8, vk9, vk10, rfl, h1, h2, h3, h4, h5, h6, h7, h8, h9, h10⟩ := h.lists
  go_enter Try.func23, Try.ntmps23
  refine gc_enter (N := 19) rfl (look_cons (k := 0) rfl (look_nil _)) ?_
  refine gc_seq fun K1 hK1 => ?_
  refine gc_region ?_
  refine g_op (.free rfl) fun K3 hK3 => ?_
  refine go_box rfl rfl rfl rfl rfl ?_
  intro B2
  refine hK3 _ _ ?_
  refine g_op (.free rfl) fun K5 hK5 => ?_
  refine go_alloc (z := (.agg #[.int .i64 0, .slice none 0 0, .slice none 0 0, .slice none 0 0, .slice none 0 0, .int .i64 0, .slice none 0 0, .slice none 0 0, .slice none 0 0, .slice none 0 0, .slice none 0 0, .slice none 0 0, .int .i64 0, .slice none 0 0, .slice none 0 0, .slice none 0 0, .slice none 0 0, .int .i64 0, .slice none 0 0, .slice none 0 0, .slice none 0 0, .slice none 0 0, .slice none 0 0, .slice none 0 0, .slice none 0 0])) (cs := [.int .i64 0, .slice none 0 0, .slice none 0 0, .slice none 0 0, .slice none 0 0, .int .i64 0, .slice none 0 0, .slice none 0 0, .slice none 0 0, .slice none 0 0, .slice none 0 0, .slice none 0 0, .int .i64 0, .slice none 0 0, .slice none 0 0, .slice none 0 0, .slice none 0 0, .int .i64 0, .slice none 0 0, .slice none 0 0, .slice none 0 0, .slice none 0 0, .slice none 0 0, .slice none 0 0, .slice none 0 0]) rfl rfl rfl (fun w => by kernel_rfl) rfl ?_
  intro B4
  refine hK5 _ _ ?_
  refine g_v (.free rfl) rfl rfl (qt_assign rfl rfl) ?_
  refine g_nil ?_
  refine gk_then (hK1 _ _ ?_)
  refine gc_seq fun K6 hK6 => ?_
  refine gc_seq fun K7 hK7 => ?_
  refine gc_region ?_
  refine g_v (.free rfl) rfl rfl (qt_loadS (n := 0) rfl rfl Try.underlying34 rfl (by kernel_rfl) rfl) ?_
  refine g_q (.free rfl) rfl rfl (qt_call rfl Try.func56 rfl (by decide) rfl (fun w M => impl_IsFunctor w _ _ (mem_rdF M h0))) ?_
  refine g_v (.free rfl) rfl rfl (qt_not rfl rfl) ?_
  refine g_nil ?_
  refine gk_then (hK7 _ _ ?_)
  refine gc_cond rfl (fun hc0 => ?_) (fun hc0 => ?_)
  · try simp only [decide_eq_true_eq, decide_eq_false_iff_not, Bool.not_eq_true', Bool.not_eq_false', Bool.not_eq_eq_eq_not, Bool.not_true, Bool.not_false, ne_eq, Decidable.not_not, Classical.not_not] at hc0
    refine gc_seq fun K8 hK8 => ?_
    refine gc_region ?_
    refine g_v (.free rfl) rfl rfl (qt_build rfl rfl bt0_Transformation) ?_
    refine g_op (.free rfl) fun K9 hK9 => ?_
    refine go_storeS (n := 1) rfl rfl rfl rfl (by kernel_rfl) rfl rfl rfl ?_
    refine hK9 _ _ ?_
    refine g_v (.free rfl) rfl rfl (qt_assign rfl rfl) ?_
    refine g_nil ?_
    refine gk_then (hK8 _ _ ?_)
    refine gc_ret ?_
    refine gk_then_ret ?_
    refine ret_SI (n := 1) rfl rfl rfl Try.underlying36 rfl (by kernel_rfl) rfl (fun w M => ?_)
    rw [idt_f hc0]; exact retTrI_zero M.1
  · try simp only [decide_eq_true_eq, decide_eq_false_iff_not, Bool.not_eq_true', Bool.not_eq_false', Bool.not_eq_eq_eq_not, Bool.not_true, Bool.not_false, ne_eq, Decidable.not_not, Classical.not_not] at hc0
    refine gc_skip ?_
    refine gk_then (hK6 _ _ ?_)
    refine gc_seq fun K10 hK10 => ?_
    try simp only [List.nil_append, List.cons_append, List.append_assoc, List.set_cons_succ, List.set_cons_zero]
    refine ga_start _ (fun w M => mem_erase 1 (M)) ?_
    refine ga_v 0 rfl (by kernel_rfl) (by kernel_rfl) (by kernel_rfl) (.free rfl) rfl rfl (qt_loadS (n := 0) rfl rfl Try.underlying34 rfl (by kernel_rfl) rfl) (fun _ _ _ h => h) ?_
    refine ga_v 2 rfl (by kernel_rfl) (by kernel_rfl) (by kernel_rfl) (.free rfl) rfl rfl (qt_loadS (n := 0) rfl rfl Try.underlying34 rfl (by kernel_rfl) rfl) (fun _ _ _ h => h) ?_
    refine ga_v 4 rfl (by kernel_rfl) (by kernel_rfl) (by kernel_rfl) (.free rfl) rfl rfl (qt_field (z := 0) (off := 10) rfl rfl Try.underlying34 rfl (by kernel_rfl) rfl) (fun _ _ _ h => h) ?_
    refine ga_v 5 rfl (by kernel_rfl) (by kernel_rfl) (by kernel_rfl) (.free rfl) rfl rfl (qt_loadB (n := 0) rfl rfl Try.underlying22 rfl rfl rfl) (fun _ _ _ h => h) ?_
    refine ga_v 6 rfl (by kernel_rfl) (by kernel_rfl) (by kernel_rfl) (.free rfl) rfl rfl (qt_field (z := 4) (off := 5) rfl rfl Try.underlying34 rfl (by kernel_rfl) rfl) (fun _ _ _ h => h) ?_
    refine ga_v 7 rfl (by kernel_rfl) (by kernel_rfl) (by kernel_rfl) (.free rfl) rfl rfl (qt_field (z := 0) (off := 3) rfl rfl Try.underlying32 rfl (by kernel_rfl) rfl) (fun _ _ _ h => h) ?_
    refine ga_v 8 rfl (by kernel_rfl) (by kernel_rfl) (by kernel_rfl) (.free rfl) rfl rfl (qt_loadB (n := 0) rfl rfl Try.underlying22 rfl rfl rfl) (fun _ _ _ h => h) ?_
    refine ga_op 1 (by kernel_rfl) rfl (.free rfl) fun K12 hK12 => ?_
    refine go_callFn rfl rfl rfl Try.func57 rfl (by decide) rfl (fun w M => copiedF_any w _ _ (mem_rdF M h0)) ?_
    intro fx1_11 fk1_11 fx2_11 fk2_11 fx3_11 fk3_11 fx4_11 fk4_11 fx5_11 fk5_11 fx6_11 fk6_11 fx7_11 fk7_11 fx8_11 fk8_11 fx9_11 fk9_11 fx10_11 fk10_11 us11 ut11
    refine hK12 _ _ (fun w M => (mem_erase 1 (mem_take 2 M) :)) ?_
    refine ga_op 3 (by kernel_rfl) rfl (.free rfl) fun K14 hK14 => ?_
    refine go_callFn rfl rfl rfl Try.func57 rfl (by decide) rfl (fun w M => copiedF_any w _ _ (mem_rdF M h0)) ?_
    intro fx1_13 fk1_13 fx2_13 fk2_13 fx3_13 fk3_13 fx4_13 fk4_13 fx5_13 fk5_13 fx6_13 fk6_13 fx7_13 fk7_13 fx8_13 fk8_13 fx9_13 fk9_13 fx10_13 fk10_13 us13 ut13
    refine hK14 _ _ (fun w M => (mem_erase 1 (mem_take 2 M) :)) ?_
    refine ga_op 9 (by kernel_rfl) rfl (.free rfl) fun K16 hK16 => ?_
    refine go_callL rfl rfl rfl Try.func58 rfl (by decide) rfl (fun w M => imagesOf_any w _ _ _ _ (mem_rd M h9) (mem_rd M h7) (allP_e (isf_of hc0))) ?_
    intro va15 vc15
    refine hK16 _ _ (fun w M => (mem_erase 1 (mem_take 2 M) :)) ?_
    refine ga_v 10 rfl (by kernel_rfl) (by kernel_rfl) (by kernel_rfl) (.free rfl) rfl rfl (qt_build rfl rfl bt_Transformation) (fun _ _ _ h => h) ?_
    refine ga_op 11 (by kernel_rfl) rfl (.free rfl) fun K17 hK17 => ?_
    refine go_storeS (n := 1) rfl rfl rfl rfl (by kernel_rfl) rfl rfl rfl ?_
    refine hK17 _ _ (fun w M => (mem_erase 1 (mem_take 2 M) :)) ?_
    refine ga_v 12 rfl (by kernel_rfl) (by kernel_rfl) (by kernel_rfl) (.free rfl) rfl rfl (qt_assign rfl rfl) (fun _ _ _ h => h) ?_
    refine ga_done (by kernel_rfl) ?_
    refine gk_then (hK10 _ _ ?_)
    refine gc_ret ?_
    refine ret_SI (n := 1) rfl rfl rfl Try.underlying36 rfl (by kernel_rfl) rfl (fun w M => ?_)
    rw [idt_t hc0]; exact retTrI_star (T := ⟨F, F, thenL F.o F.T.e⟩) (mem_block 2 21 (M))

set_option maxHeartbeats 4000000 in
set_option maxRecDepth 100000 in
theorem spec_IdentityTransformation (w : World) (v : Value) (F : Fct) (h : RdF w v F) :
    Calls Try.prog 21 #[v] w (RetTrI w (fIdentityTransformation F).1 (fIdentityTransformation F).2) := by
  have h0 := h
  obtain ⟨vx1, vx2, vx3, vx4, vx5, vx6, vx7, vx8, vx9, vx10, vk1, vk2, vk3, vk4, vk5, vk6, vk7, vk8, vk9, vk10, rfl, h1, h2, h3, h4, h5, h6, h7, h8, h9, h10⟩ := h.lists
  go_enter Try.func21, Try.ntmps21
  refine gc_enter (N := 13) rfl (look_cons (k := 0) rfl (look_nil _)) ?_
  refine gc_seq fun K1 hK1 => ?_
  refine gc_region ?_
  refine g_op (.free rfl) fun K3 hK3 => ?_
  refine go_box rfl rfl rfl rfl rfl ?_
  intro B2
  refine hK3 _ _ ?_
  refine g_op (.free rfl) fun K5 hK5 => ?_
  refine go_alloc (z := (.agg #[.int .i64 0, .slice none 0 0, .slice none 0 0, .slice none 0 0, .slice none 0 0, .int .i64 0, .slice none 0 0, .slice none 0 0, .slice none 0 0, .slice none 0 0, .slice none 0 0, .slice none 0 0, .int .i64 0, .slice none 0 0, .slice none 0 0, .slice none 0 0, .slice none 0 0, .int .i64 0, .slice none 0 0, .slice none 0 0, .slice none 0 0, .slice none 0 0, .slice none 0 0, .slice none 0 0, .slice none 0 0])) (cs := [.int .i64 0, .slice none 0 0, .slice none 0 0, .slice none 0 0, .slice none 0 0, .int .i64 0, .slice none 0 0, .slice none 0 0, .slice none 0 0, .slice none 0 0, .slice none 0 0, .slice none 0 0, .int .i64 0, .slice none 0 0, .slice none 0 0, .slice none 0 0, .slice none 0 0, .int .i64 0, .slice none 0 0, .slice none 0 0, .slice none 0 0, .slice none 0 0, .slice none 0 0, .slice none 0 0, .slice none 0 0]) rfl rfl rfl (fun w => by kernel_rfl) rfl ?_
  intro B4
  refine hK5 _ _ ?_
  refine g_v (.free rfl) rfl rfl (qt_assign rfl rfl) ?_
  refine g_nil ?_
  refine gk_then (hK1 _ _ ?_)
  refine gc_seq fun K6 hK6 => ?_
  refine gc_seq fun K7 hK7 => ?_
  refine gc_region ?_
  refine g_v (.free rfl) rfl rfl (qt_loadS (n := 0) rfl rfl Try.underlying34 rfl (by kernel_rfl) rfl) ?_
  refine g_q (.free rfl) rfl rfl (qt_call rfl Try.func52 rfl (by decide) rfl (fun w M => specIsF_any w _ _ (mem_rdF M h0))) ?_
  refine g_v (.free rfl) rfl rfl (qt_not rfl rfl) ?_
  refine g_nil ?_
  refine gk_then (hK7 _ _ ?_)
  refine gc_cond rfl (fun hc0 => ?_) (fun hc0 => ?_)
  · try simp only [decide_eq_true_eq, decide_eq_false_iff_not, Bool.not_eq_true', Bool.not_eq_false', Bool.not_eq_eq_eq_not, Bool.not_true, Bool.not_false, ne_eq, Decidable.not_not, Classical.not_not] at hc0
    refine gc_seq fun K8 hK8 => ?_
    refine gc_region ?_
    refine g_v (.free rfl) rfl rfl (qt_build rfl rfl bt0_Transformation) ?_
    refine g_op (.free rfl) fun K9 hK9 => ?_
    refine go_storeS (n := 1) rfl rfl rfl rfl (by kernel_rfl) rfl rfl rfl ?_
    refine hK9 _ _ ?_
    refine g_v (.free rfl) rfl rfl (qt_assign rfl rfl) ?_
    refine g_nil ?_
    refine gk_then (hK8 _ _ ?_)
    refine gc_ret ?_
    refine gk_then_ret ?_
    refine ret_SI (n := 1) rfl rfl rfl Try.underlying36 rfl (by kernel_rfl) rfl (fun w M => ?_)
    rw [idt_f hc0]; exact retTrI_zero M.1
  · try simp only [decide_eq_true_eq, decide_eq_false_iff_not, Bool.not_eq_true', Bool.not_eq_false', Bool.not_eq_eq_eq_not, Bool.not_true, Bool.not_false, ne_eq, Decidable.not_not, Classical.not_not] at hc0
    refine gc_skip ?_
    refine gk_then (hK6 _ _ ?_)
    refine gc_seq fun K10 hK10 => ?_
    try simp only [List.nil_append, List.cons_append, List.append_assoc, List.set_cons_succ, List.set_cons_zero]
    refine ga_start _ (fun w M => mem_erase 1 (M)) ?_
    refine ga_v 0 rfl (by kernel_rfl) (by kernel_rfl) (by kernel_rfl) (.free rfl) rfl rfl (qt_loadS (n := 0) rfl rfl Try.underlying34 rfl (by kernel_rfl) rfl) (fun _ _ _ h => h) ?_
    refine ga_v 1 rfl (by kernel_rfl) (by kernel_rfl) (by kernel_rfl) (.free rfl) rfl rfl (qt_loadS (n := 0) rfl rfl Try.underlying34 rfl (by kernel_rfl) rfl) (fun _ _ _ h => h) ?_
    refine ga_v 2 rfl (by kernel_rfl) (by kernel_rfl) (by kernel_rfl) (.free rfl) rfl rfl (qt_loadS (n := 0) rfl rfl Try.underlying34 rfl (by kernel_rfl) rfl) (fun _ _ _ h => h) ?_
    refine ga_op 3 (by kernel_rfl) rfl (.free rfl) fun K12 hK12 => ?_
    refine go_callL rfl rfl rfl Try.func54 rfl (by decide) rfl (fun w M => specSelf7_any w _ _ (mem_rdF M h0) (isf_of hc0)) ?_
    intro va11 vc11
    refine hK12 _ _ (fun w M => (mem_erase 1 (mem_take 2 M) :)) ?_
    refine ga_op 4 (by kernel_rfl) rfl (.free rfl) fun K14 hK14 => ?_
    refine go_callTr rfl rfl rfl Try.func53 rfl (by decide) rfl (fun w M => specMakeT_any w _ _ _ _ (mem_rdF M h0) (mem_rdF M h0) _ _ ((mem_own1 (n := 2) M rfl).rd)) ?_
    intro tx1_13 tk1_13 tx2_13 tk2_13 tx3_13 tk3_13 tx4_13 tk4_13 tx5_13 tk5_13 tx6_13 tk6_13 tx7_13 tk7_13 tx8_13 tk8_13 tx9_13 tk9_13 tx10_13 tk10_13 tx11_13 tk11_13 tx12_13 tk12_13 tx13_13 tk13_13 tx14_13 tk14_13 tx15_13 tk15_13 tx16_13 tk16_13 tx17_13 tk17_13 tx18_13 tk18_13 tx19_13 tk19_13 tx20_13 tk20_13 tx21_13 tk21_13
    refine hK14 _ _ (fun w M => (mem_erase 1 (mem_take 2 M) :)) ?_
    refine ga_op 5 (by kernel_rfl) rfl (.free rfl) fun K15 hK15 => ?_
    refine go_storeS (n := 1) rfl rfl rfl rfl (by kernel_rfl) rfl rfl rfl ?_
    refine hK15 _ _ (fun w M => (mem_erase 1 (mem_take 2 M) :)) ?_
    refine ga_v 6 rfl (by kernel_rfl) (by kernel_rfl) (by kernel_rfl) (.free rfl) rfl rfl (qt_assign rfl rfl) (fun _ _ _ h => h) ?_
    refine ga_done (by kernel_rfl) ?_
    refine gk_then (hK10 _ _ ?_)
    refine gc_ret ?_
    refine ret_SI (n := 1) rfl rfl rfl Try.underlying36 rfl (by kernel_rfl) rfl (fun w M => ?_)
    rw [idt_t hc0]; exact retTrI_pass (T := ⟨F, F, thenL F.o F.T.e⟩) (n := 3) M rfl

set_option maxHeartbeats 4000000 in
set_option maxRecDepth 100000 in
theorem impl_ThenTransformations (w : World) (v : Value) (S : Tra) (u : Value) (T : Tra) (h : RdTr w v S) (e : RdTr w u T) :
    Calls Try.prog 29 #[v, u] w (RetTrI w (fThenTransformations S T).1 (fThenTransformations S T).2) := by
  have h0 := h
  obtain ⟨vx1, vx2, vx3, vx4, vx5, vx6, vx7, vx8, vx9, vx10, vx11, vx12, vx13, vx14, vx15, vx16, vx17, vx18, vx19, vx20, vx21, vk1, vk2, vk3, vk4, vk5, vk6, vk7, vk8, vk9, vk10, vk11, vk12, vk13, vk14, vk15, vk16, vk17, vk18, vk19, vk20, vk21, rfl, h1, h2, h3, h4, h5, h6, h7, h8, h9, h10, h11, h12, h13, h14, h15, h16, h17, h18, h19, h20, h21⟩ := h.lists
  have e0 := e
  obtain ⟨ux1, ux2, ux3, ux4, ux5, ux6, ux7, ux8, ux9, ux10, ux11, ux12, ux13, ux14, ux15, ux16, ux17, ux18, ux19, ux20, ux21, uk1, uk2, uk3, uk4, uk5, uk6, uk7, uk8, uk9, uk10, uk11, uk12, uk13, uk14, uk15, uk16, uk17, uk18, uk19, uk20, uk21, rfl, e1, e2, e3, e4, e5, e6, e7, e8, e9, e10, e11, e12, e13, e14, e15, e16, e17, e18, e19, e20, e21⟩ := e.lists
  go_enter Try.func29, Try.ntmps29
  refine gc_enter (N := 25) rfl (look_cons (k := 0) rfl (look_cons (k := 1) rfl (look_nil _))) ?_
  refine gc_seq fun K1 hK1 => ?_
  refine gc_region ?_
  refine g_op (.free rfl) fun K3 hK3 => ?_
  refine go_box rfl rfl rfl rfl rfl ?_
  intro B2
  refine hK3 _ _ ?_
  refine g_op (.free rfl) fun K5 hK5 => ?_
  refine go_box rfl rfl rfl rfl rfl ?_
  intro B4
  refine hK5 _ _ ?_
  refine g_op (.free rfl) fun K7 hK7 => ?_
  refine go_alloc (z := (.agg #[.int .i64 0, .slice none 0 0, .slice none 0 0, .slice none 0 0, .slice none 0 0, .int .i64 0, .slice none 0 0, .slice none 0 0, .slice none 0 0, .slice none 0 0, .slice none 0 0, .slice none 0 0, .int .i64 0, .slice none 0 0, .slice none 0 0, .slice none 0 0, .slice none 0 0, .int .i64 0, .slice none 0 0, .slice none 0 0, .slice none 0 0, .slice none 0 0, .slice none 0 0, .slice none 0 0, .slice none 0 0])) (cs := [.int .i64 0, .slice none 0 0, .slice none 0 0, .slice none 0 0, .slice none 0 0, .int .i64 0, .slice none 0 0, .slice none 0 0, .slice none 0 0, .slice none 0 0, .slice none 0 0, .slice none 0 0, .int .i64 0, .slice none 0 0, .slice none 0 0, .slice none 0 0, .slice none 0 0, .int .i64 0, .slice none 0 0, .slice none 0 0, .slice none 0 0, .slice none 0 0, .slice none 0 0, .slice none 0 0, .slice none 0 0]) rfl rfl rfl (fun w => by kernel_rfl) rfl ?_
  intro B6
  refine hK7 _ _ ?_
  refine g_v (.free rfl) rfl rfl (qt_assign rfl rfl) ?_
  refine g_nil ?_
  refine gk_then (hK1 _ _ ?_)
  refine gc_seq fun K8 hK8 => ?_
  refine gc_seq fun K9 hK9 => ?_
  refine gc_region ?_
  refine g_v (.free rfl) rfl rfl (qt_loadS (n := 0) rfl rfl Try.underlying36 rfl (by kernel_rfl) rfl) ?_
  refine g_q (.free rfl) rfl rfl (qt_call rfl Try.func16 rfl (by decide) rfl (fun w M => impl_IsTransformation w _ _ (mem_rdTr M h0))) ?_
  refine g_v (.free rfl) rfl rfl (qt_not rfl rfl) ?_
  refine g_splitv (.free rfl) rfl rfl (qt_move rfl rfl) (fun hs1_3 => ?_) (fun hs1_3 => ?_)
  · try simp only [decide_eq_true_eq, decide_eq_false_iff_not, Bool.not_eq_true', Bool.not_eq_false', Bool.not_eq_eq_eq_not, Bool.not_true, Bool.not_false, ne_eq, Decidable.not_not, Classical.not_not] at hs1_3
    refine g_skip (.not _ _ _ _ rfl rfl rfl rfl) rfl rfl ?_
    refine g_skip (.not _ _ _ _ rfl rfl rfl rfl) rfl rfl ?_
    refine g_skip (.not _ _ _ _ rfl rfl rfl rfl) rfl rfl ?_
    refine g_v (.free rfl) rfl rfl (qt_pick_t rfl rfl rfl) ?_
    refine g_nil ?_
    refine gk_then (hK9 _ _ ?_)
    refine gc_cond_t rfl ?_
    refine gc_seq fun K10 hK10 => ?_
    refine gc_region ?_
    refine g_v (.free rfl) rfl rfl (qt_build rfl rfl bt0_Transformation) ?_
    refine g_op (.free rfl) fun K11 hK11 => ?_
    refine go_storeS (n := 2) rfl rfl rfl rfl (by kernel_rfl) rfl rfl rfl ?_
    refine hK11 _ _ ?_
    refine g_v (.free rfl) rfl rfl (qt_assign rfl rfl) ?_
    refine g_nil ?_
    refine gk_then (hK10 _ _ ?_)
    refine gc_ret ?_
    refine gk_then_ret ?_
    refine ret_SI (n := 2) rfl rfl rfl Try.underlying36 rfl (by kernel_rfl) rfl (fun w M => ?_)
    rw [show fThenTransformations S T = (tra0, 1) from pairX_f fun hq => by have := hq.1; rw [hs1_3] at this; cases this]; exact retTrI_zero M.1
  · try simp only [decide_eq_true_eq, decide_eq_false_iff_not, Bool.not_eq_true', Bool.not_eq_false', Bool.not_eq_eq_eq_not, Bool.not_true, Bool.not_false, ne_eq, Decidable.not_not, Classical.not_not] at hs1_3
    refine g_v (.held _ _ _ rfl rfl rfl) rfl rfl (qt_loadS (n := 1) rfl rfl Try.underlying36 rfl (by kernel_rfl) rfl) ?_
    refine g_q (.held _ _ _ rfl rfl rfl) rfl rfl (qt_call rfl Try.func16 rfl (by decide) rfl (fun w M => impl_IsTransformation w _ _ (mem_rdTr M e0))) ?_
    refine g_v (.held _ _ _ rfl rfl rfl) rfl rfl (qt_not rfl rfl) ?_
    refine g_v (.free rfl) rfl rfl (qt_pick_f rfl rfl rfl) ?_
    refine g_nil ?_
    refine gk_then (hK9 _ _ ?_)
    refine gc_cond rfl (fun hc0 => ?_) (fun hc0 => ?_)
    · try simp only [decide_eq_true_eq, decide_eq_false_iff_not, Bool.not_eq_true', Bool.not_eq_false', Bool.not_eq_eq_eq_not, Bool.not_true, Bool.not_false, ne_eq, Decidable.not_not, Classical.not_not] at hc0
      refine gc_seq fun K12 hK12 => ?_
      refine gc_region ?_
      refine g_v (.free rfl) rfl rfl (qt_build rfl rfl bt0_Transformation) ?_
      refine g_op (.free rfl) fun K13 hK13 => ?_
      refine go_storeS (n := 2) rfl rfl rfl rfl (by kernel_rfl) rfl rfl rfl ?_
      refine hK13 _ _ ?_
      refine g_v (.free rfl) rfl rfl (qt_assign rfl rfl) ?_
      refine g_nil ?_
      refine gk_then (hK12 _ _ ?_)
      refine gc_ret ?_
      refine gk_then_ret ?_
      refine ret_SI (n := 2) rfl rfl rfl Try.underlying36 rfl (by kernel_rfl) rfl (fun w M => ?_)
      rw [show fThenTransformations S T = (tra0, 1) from pairX_f fun hq => by have := hq.2; rw [hc0] at this; cases this]; exact retTrI_zero M.1
    · try simp only [decide_eq_true_eq, decide_eq_false_iff_not, Bool.not_eq_true', Bool.not_eq_false', Bool.not_eq_eq_eq_not, Bool.not_true, Bool.not_false, ne_eq, Decidable.not_not, Classical.not_not] at hc0
      refine gc_skip ?_
      refine gk_then (hK8 _ _ ?_)
      refine gc_seq fun K14 hK14 => ?_
      refine gc_seq fun K15 hK15 => ?_
      refine gc_region ?_
      refine g_v (.free rfl) rfl rfl (qt_field (z := 11) (off := 12) rfl rfl Try.underlying36 rfl (by kernel_rfl) rfl) ?_
      refine g_v (.free rfl) rfl rfl (qt_loadP (n := 0) (z := 12) rfl rfl Try.underlying34 rfl (by kernel_rfl) rfl (by first | decide | exact Nat.le_refl _ | simp)) ?_
      refine g_v (.free rfl) rfl rfl (qt_field (z := 11) (off := 0) rfl rfl Try.underlying36 rfl (by kernel_rfl) rfl) ?_
      refine g_v (.free rfl) rfl rfl (qt_loadP (n := 1) (z := 12) rfl rfl Try.underlying34 rfl (by kernel_rfl) rfl (by first | decide | exact Nat.le_refl _ | simp)) ?_
      refine g_q (.free rfl) rfl rfl (qt_call rfl Try.func65 rfl (by decide) rfl (fun w M => equalsF_any w _ _ _ _ (mem_rdF M (rdTr_parts h0).2.1) (mem_rdF M (rdTr_parts e0).1))) ?_
      refine g_v (.free rfl) rfl rfl (qt_not rfl rfl) ?_
      refine g_nil ?_
      refine gk_then (hK15 _ _ ?_)
      refine gc_cond rfl (fun hc1 => ?_) (fun hc1 => ?_)
      · try simp only [decide_eq_true_eq, decide_eq_false_iff_not, Bool.not_eq_true', Bool.not_eq_false', Bool.not_eq_eq_eq_not, Bool.not_true, Bool.not_false, ne_eq, Decidable.not_not, Classical.not_not] at hc1
        refine gc_seq fun K16 hK16 => ?_
        refine gc_region ?_
        refine g_v (.free rfl) rfl rfl (qt_build rfl rfl bt0_Transformation) ?_
        refine g_op (.free rfl) fun K17 hK17 => ?_
        refine go_storeS (n := 2) rfl rfl rfl rfl (by kernel_rfl) rfl rfl rfl ?_
        refine hK17 _ _ ?_
        refine g_v (.free rfl) rfl rfl (qt_assign rfl rfl) ?_
        refine g_nil ?_
        refine gk_then (hK16 _ _ ?_)
        refine gc_ret ?_
        refine gk_then_ret ?_
        refine ret_SI (n := 2) rfl rfl rfl Try.underlying36 rfl (by kernel_rfl) rfl (fun w M => ?_)
        rw [show fThenTransformations S T = (tra0, 5) from pairX_s ⟨hs1_3, hc0⟩ (bP_f' hc1)]; exact retTrI_zero M.1
      · try simp only [decide_eq_true_eq, decide_eq_false_iff_not, Bool.not_eq_true', Bool.not_eq_false', Bool.not_eq_eq_eq_not, Bool.not_true, Bool.not_false, ne_eq, Decidable.not_not, Classical.not_not] at hc1
        refine gc_skip ?_
        refine gk_then (hK14 _ _ ?_)
        refine gc_seq fun K18 hK18 => ?_
        have b := thB (isTra_sh hs1_3) (isTra_sh hc0) (bP_t' hc1)
        refine gc_region ?_
        refine g_v (.free rfl) rfl rfl (qt_loadS (n := 0) rfl rfl Try.underlying36 rfl (by kernel_rfl) rfl) ?_
        refine g_v (.free rfl) rfl rfl (qt_loadS (n := 1) rfl rfl Try.underlying36 rfl (by kernel_rfl) rfl) ?_
        refine g_op (.free rfl) fun K20 hK20 => ?_
        refine go_callTr rfl rfl rfl Try.func66 rfl (by decide) rfl (fun w M => thenTr_any w _ _ _ _ (mem_rdTr M h0) (mem_rdTr M e0) (b)) ?_
        intro tx1_19 tk1_19 tx2_19 tk2_19 tx3_19 tk3_19 tx4_19 tk4_19 tx5_19 tk5_19 tx6_19 tk6_19 tx7_19 tk7_19 tx8_19 tk8_19 tx9_19 tk9_19 tx10_19 tk10_19 tx11_19 tk11_19 tx12_19 tk12_19 tx13_19 tk13_19 tx14_19 tk14_19 tx15_19 tk15_19 tx16_19 tk16_19 tx17_19 tk17_19 tx18_19 tk18_19 tx19_19 tk19_19 tx20_19 tk20_19 tx21_19 tk21_19
        refine hK20 _ _ ?_
        refine g_op (.free rfl) fun K21 hK21 => ?_
        refine go_storeS (n := 2) rfl rfl rfl rfl (by kernel_rfl) rfl rfl rfl ?_
        refine hK21 _ _ ?_
        refine g_v (.free rfl) rfl rfl (qt_assign rfl rfl) ?_
        refine g_nil ?_
        refine gk_then (hK18 _ _ ?_)
        refine gc_ret ?_
        refine ret_SI (n := 2) rfl rfl rfl Try.underlying36 rfl (by kernel_rfl) rfl (fun w M => ?_)
        rw [show fThenTransformations S T = (thenT S T, 0) from pairX_t ⟨hs1_3, hc0⟩ (bP_t' hc1)]; exact retTrI_pass (T := thenT S T) (n := 3) M rfl

set_option maxHeartbeats 4000000 in
set_option maxRecDepth 100000 in
theorem spec_ThenTransformations (w : World) (v : Value) (S : Tra) (u : Value) (T : Tra) (h : RdTr w v S) (e : RdTr w u T) :
    Calls Try.prog 28 #[v, u] w (RetTrI w (fThenTransformations S T).1 (fThenTransformations S T).2) := by
  have h0 := h
  obtain ⟨vx1, vx2, vx3, vx4, vx5, vx6, vx7, vx8, vx9, vx10, vx11, vx12, vx13, vx14, vx15, vx16, vx17, vx18, vx19, vx20, vx21, vk1, vk2, vk3, vk4, vk5, vk6, vk7, vk8, vk9, vk10, vk11, vk12, vk13, vk14, vk15, vk16, vk17, vk18, vk19, vk20, vk21, rfl, h1, h2, h3, h4, h5, h6, h7, h8, h9, h10, h11, h12, h13, h14, h15, h16, h17, h18, h19, h20, h21⟩ := h.lists
  have e0 := e
  obtain ⟨ux1, ux2, ux3, ux4, ux5, ux6, ux7, ux8, ux9, ux10, ux11, ux12, ux13, ux14, ux15, ux16, ux17, ux18, ux19, ux20, ux21, uk1, uk2, uk3, uk4, uk5, uk6, uk7, uk8, uk9, uk10, uk11, uk12, uk13, uk14, uk15, uk16, uk17, uk18, uk19, uk20, uk21, rfl, e1, e2, e3, e4, e5, e6, e7, e8, e9, e10, e11, e12, e13, e14, e15, e16, e17, e18, e19, e20, e21⟩ := e.lists
  go_enter Try.func28, Try.ntmps28
  refine gc_enter (N := 35) rfl (look_cons (k := 0) rfl (look_cons (k := 1) rfl (look_nil _))) ?_
  refine gc_seq fun K1 hK1 => ?_
  refine gc_region ?_
  refine g_op (.free rfl) fun K3 hK3 => ?_
  refine go_box rfl rfl rfl rfl rfl ?_
  intro B2
  refine hK3 _ _ ?_
  refine g_op (.free rfl) fun K5 hK5 => ?_
  refine go_box rfl rfl rfl rfl rfl ?_
  intro B4
  refine hK5 _ _ ?_
  refine g_op (.free rfl) fun K7 hK7 => ?_
  refine go_alloc (z := (.agg #[.int .i64 0, .slice none 0 0, .slice none 0 0, .slice none 0 0, .slice none 0 0, .int .i64 0, .slice none 0 0, .slice none 0 0, .slice none 0 0, .slice none 0 0, .slice none 0 0, .slice none 0 0, .int .i64 0, .slice none 0 0, .slice none 0 0, .slice none 0 0, .slice none 0 0, .int .i64 0, .slice none 0 0, .slice none 0 0, .slice none 0 0, .slice none 0 0, .slice none 0 0, .slice none 0 0, .slice none 0 0])) (cs := [.int .i64 0, .slice none 0 0, .slice none 0 0, .slice none 0 0, .slice none 0 0, .int .i64 0, .slice none 0 0, .slice none 0 0, .slice none 0 0, .slice none 0 0, .slice none 0 0, .slice none 0 0, .int .i64 0, .slice none 0 0, .slice none 0 0, .slice none 0 0, .slice none 0 0, .int .i64 0, .slice none 0 0, .slice none 0 0, .slice none 0 0, .slice none 0 0, .slice none 0 0, .slice none 0 0, .slice none 0 0]) rfl rfl rfl (fun w => by kernel_rfl) rfl ?_
  intro B6
  refine hK7 _ _ ?_
  refine g_v (.free rfl) rfl rfl (qt_assign rfl rfl) ?_
  refine g_nil ?_
  refine gk_then (hK1 _ _ ?_)
  refine gc_seq fun K8 hK8 => ?_
  refine gc_seq fun K9 hK9 => ?_
  refine gc_region ?_
  refine g_v (.free rfl) rfl rfl (qt_loadS (n := 0) rfl rfl Try.underlying36 rfl (by kernel_rfl) rfl) ?_
  refine g_q (.free rfl) rfl rfl (qt_call rfl Try.func44 rfl (by decide) rfl (fun w M => specIs7_any w _ _ (mem_rdTr M h0))) ?_
  refine g_v (.free rfl) rfl rfl (qt_not rfl rfl) ?_
  refine g_splitv (.free rfl) rfl rfl (qt_move rfl rfl) (fun hs1_3 => ?_) (fun hs1_3 => ?_)
  · try simp only [decide_eq_true_eq, decide_eq_false_iff_not, Bool.not_eq_true', Bool.not_eq_false', Bool.not_eq_eq_eq_not, Bool.not_true, Bool.not_false, ne_eq, Decidable.not_not, Classical.not_not] at hs1_3
    refine g_skip (.not _ _ _ _ rfl rfl rfl rfl) rfl rfl ?_
    refine g_skip (.not _ _ _ _ rfl rfl rfl rfl) rfl rfl ?_
    refine g_skip (.not _ _ _ _ rfl rfl rfl rfl) rfl rfl ?_
    refine g_v (.free rfl) rfl rfl (qt_pick_t rfl rfl rfl) ?_
    refine g_nil ?_
    refine gk_then (hK9 _ _ ?_)
    refine gc_cond_t rfl ?_
    refine gc_seq fun K10 hK10 => ?_
    refine gc_region ?_
    refine g_v (.free rfl) rfl rfl (qt_build rfl rfl bt0_Transformation) ?_
    refine g_op (.free rfl) fun K11 hK11 => ?_
    refine go_storeS (n := 2) rfl rfl rfl rfl (by kernel_rfl) rfl rfl rfl ?_
    refine hK11 _ _ ?_
    refine g_v (.free rfl) rfl rfl (qt_assign rfl rfl) ?_
    refine g_nil ?_
    refine gk_then (hK10 _ _ ?_)
    refine gc_ret ?_
    refine gk_then_ret ?_
    refine ret_SI (n := 2) rfl rfl rfl Try.underlying36 rfl (by kernel_rfl) rfl (fun w M => ?_)
    rw [show fThenTransformations S T = (tra0, 1) from pairX_f fun hq => by have := hq.1; rw [hs1_3] at this; cases this]; exact retTrI_zero M.1
  · try simp only [decide_eq_true_eq, decide_eq_false_iff_not, Bool.not_eq_true', Bool.not_eq_false', Bool.not_eq_eq_eq_not, Bool.not_true, Bool.not_false, ne_eq, Decidable.not_not, Classical.not_not] at hs1_3
    refine g_v (.held _ _ _ rfl rfl rfl) rfl rfl (qt_loadS (n := 1) rfl rfl Try.underlying36 rfl (by kernel_rfl) rfl) ?_
    refine g_q (.held _ _ _ rfl rfl rfl) rfl rfl (qt_call rfl Try.func44 rfl (by decide) rfl (fun w M => specIs7_any w _ _ (mem_rdTr M e0))) ?_
    refine g_v (.held _ _ _ rfl rfl rfl) rfl rfl (qt_not rfl rfl) ?_
    refine g_v (.free rfl) rfl rfl (qt_pick_f rfl rfl rfl) ?_
    refine g_nil ?_
    refine gk_then (hK9 _ _ ?_)
    refine gc_cond rfl (fun hc0 => ?_) (fun hc0 => ?_)
    · try simp only [decide_eq_true_eq, decide_eq_false_iff_not, Bool.not_eq_true', Bool.not_eq_false', Bool.not_eq_eq_eq_not, Bool.not_true, Bool.not_false, ne_eq, Decidable.not_not, Classical.not_not] at hc0
      refine gc_seq fun K12 hK12 => ?_
      refine gc_region ?_
      refine g_v (.free rfl) rfl rfl (qt_build rfl rfl bt0_Transformation) ?_
      refine g_op (.free rfl) fun K13 hK13 => ?_
      refine go_storeS (n := 2) rfl rfl rfl rfl (by kernel_rfl) rfl rfl rfl ?_
      refine hK13 _ _ ?_
      refine g_v (.free rfl) rfl rfl (qt_assign rfl rfl) ?_
      refine g_nil ?_
      refine gk_then (hK12 _ _ ?_)
      refine gc_ret ?_
      refine gk_then_ret ?_
      refine ret_SI (n := 2) rfl rfl rfl Try.underlying36 rfl (by kernel_rfl) rfl (fun w M => ?_)
      rw [show fThenTransformations S T = (tra0, 1) from pairX_f fun hq => by have := hq.2; rw [hc0] at this; cases this]; exact retTrI_zero M.1
    · try simp only [decide_eq_true_eq, decide_eq_false_iff_not, Bool.not_eq_true', Bool.not_eq_false', Bool.not_eq_eq_eq_not, Bool.not_true, Bool.not_false, ne_eq, Decidable.not_not, Classical.not_not] at hc0
      refine gc_skip ?_
      refine gk_then (hK8 _ _ ?_)
      refine gc_seq fun K14 hK14 => ?_
      refine gc_seq fun K15 hK15 => ?_
      refine gc_region ?_
      refine g_v (.free rfl) rfl rfl (qt_field (z := 11) (off := 12) rfl rfl Try.underlying36 rfl (by kernel_rfl) rfl) ?_
      refine g_v (.free rfl) rfl rfl (qt_loadP (n := 0) (z := 12) rfl rfl Try.underlying34 rfl (by kernel_rfl) rfl (by first | decide | exact Nat.le_refl _ | simp)) ?_
      refine g_v (.free rfl) rfl rfl (qt_field (z := 11) (off := 0) rfl rfl Try.underlying36 rfl (by kernel_rfl) rfl) ?_
      refine g_v (.free rfl) rfl rfl (qt_loadP (n := 1) (z := 12) rfl rfl Try.underlying34 rfl (by kernel_rfl) rfl (by first | decide | exact Nat.le_refl _ | simp)) ?_
      refine g_q (.free rfl) rfl rfl (qt_call rfl Try.func63 rfl (by decide) rfl (fun w M => specSameF_any w _ _ _ _ (mem_rdF M (rdTr_parts h0).2.1) (mem_rdF M (rdTr_parts e0).1))) ?_
      refine g_v (.free rfl) rfl rfl (qt_not rfl rfl) ?_
      refine g_nil ?_
      refine gk_then (hK15 _ _ ?_)
      refine gc_cond rfl (fun hc1 => ?_) (fun hc1 => ?_)
      · try simp only [decide_eq_true_eq, decide_eq_false_iff_not, Bool.not_eq_true', Bool.not_eq_false', Bool.not_eq_eq_eq_not, Bool.not_true, Bool.not_false, ne_eq, Decidable.not_not, Classical.not_not] at hc1
        refine gc_seq fun K16 hK16 => ?_
        refine gc_region ?_
        refine g_v (.free rfl) rfl rfl (qt_build rfl rfl bt0_Transformation) ?_
        refine g_op (.free rfl) fun K17 hK17 => ?_
        refine go_storeS (n := 2) rfl rfl rfl rfl (by kernel_rfl) rfl rfl rfl ?_
        refine hK17 _ _ ?_
        refine g_v (.free rfl) rfl rfl (qt_assign rfl rfl) ?_
        refine g_nil ?_
        refine gk_then (hK16 _ _ ?_)
        refine gc_ret ?_
        refine gk_then_ret ?_
        refine ret_SI (n := 2) rfl rfl rfl Try.underlying36 rfl (by kernel_rfl) rfl (fun w M => ?_)
        rw [show fThenTransformations S T = (tra0, 5) from pairX_s ⟨hs1_3, hc0⟩ (bP_f' hc1)]; exact retTrI_zero M.1
      · try simp only [decide_eq_true_eq, decide_eq_false_iff_not, Bool.not_eq_true', Bool.not_eq_false', Bool.not_eq_eq_eq_not, Bool.not_true, Bool.not_false, ne_eq, Decidable.not_not, Classical.not_not] at hc1
        refine gc_skip ?_
        refine gk_then (hK14 _ _ ?_)
        refine gc_seq fun K18 hK18 => ?_
        have b := thB (isTra_sh hs1_3) (isTra_sh hc0) (bP_t' hc1)
        try simp only [List.nil_append, List.cons_append, List.append_assoc, List.set_cons_succ, List.set_cons_zero]
        refine ga_start _ (fun w M => mem_erase 2 (M)) ?_
        refine ga_v 0 rfl (by kernel_rfl) (by kernel_rfl) (by kernel_rfl) (.free rfl) rfl rfl (qt_field (z := 11) (off := 0) rfl rfl Try.underlying36 rfl (by kernel_rfl) rfl) (fun _ _ _ h => h) ?_
        refine ga_v 1 rfl (by kernel_rfl) (by kernel_rfl) (by kernel_rfl) (.free rfl) rfl rfl (qt_loadP (n := 0) (z := 12) rfl rfl Try.underlying34 rfl (by kernel_rfl) rfl (by first | decide | exact Nat.le_refl _ | simp)) (fun _ _ _ h => h) ?_
        refine ga_v 2 rfl (by kernel_rfl) (by kernel_rfl) (by kernel_rfl) (.free rfl) rfl rfl (qt_field (z := 11) (off := 12) rfl rfl Try.underlying36 rfl (by kernel_rfl) rfl) (fun _ _ _ h => h) ?_
        refine ga_v 3 rfl (by kernel_rfl) (by kernel_rfl) (by kernel_rfl) (.free rfl) rfl rfl (qt_loadP (n := 1) (z := 12) rfl rfl Try.underlying34 rfl (by kernel_rfl) rfl (by first | decide | exact Nat.le_refl _ | simp)) (fun _ _ _ h => h) ?_
        refine ga_v 4 rfl (by kernel_rfl) (by kernel_rfl) (by kernel_rfl) (.free rfl) rfl rfl (qt_field (z := 11) (off := 0) rfl rfl Try.underlying36 rfl (by kernel_rfl) rfl) (fun _ _ _ h => h) ?_
        refine ga_v 5 rfl (by kernel_rfl) (by kernel_rfl) (by kernel_rfl) (.free rfl) rfl rfl (qt_field (z := 4) (off := 5) rfl rfl Try.underlying34 rfl (by kernel_rfl) rfl) (fun _ _ _ h => h) ?_
        refine ga_v 6 rfl (by kernel_rfl) (by kernel_rfl) (by kernel_rfl) (.free rfl) rfl rfl (qt_loadP (n := 0) (z := 5) rfl rfl Try.underlying32 rfl (by kernel_rfl) rfl (by first | decide | exact Nat.le_refl _ | simp)) (fun _ _ _ h => h) ?_
        refine ga_v 7 rfl (by kernel_rfl) (by kernel_rfl) (by kernel_rfl) (.free rfl) rfl rfl (qt_field (z := 0) (off := 24) rfl rfl Try.underlying36 rfl (by kernel_rfl) rfl) (fun _ _ _ h => h) ?_
        refine ga_v 8 rfl (by kernel_rfl) (by kernel_rfl) (by kernel_rfl) (.free rfl) rfl rfl (qt_loadB (n := 0) rfl rfl Try.underlying22 rfl rfl rfl) (fun _ _ _ h => h) ?_
        refine ga_v 9 rfl (by kernel_rfl) (by kernel_rfl) (by kernel_rfl) (.free rfl) rfl rfl (qt_field (z := 0) (off := 24) rfl rfl Try.underlying36 rfl (by kernel_rfl) rfl) (fun _ _ _ h => h) ?_
        refine ga_v 10 rfl (by kernel_rfl) (by kernel_rfl) (by kernel_rfl) (.free rfl) rfl rfl (qt_loadB (n := 1) rfl rfl Try.underlying22 rfl rfl rfl) (fun _ _ _ h => h) ?_
        refine ga_op 11 (by kernel_rfl) rfl (.free rfl) fun K20 hK20 => ?_
        refine go_callL rfl rfl rfl Try.func64 rfl (by decide) rfl (fun w M => specThen7_any w _ _ (rdC_mk (mem_rd M h5) (mem_rd M h6) (mem_rd M h7) (mem_rd2 M h8)) _ _ _ _ (mem_rd M h21) (mem_rd M e21) (b.sh) (b.a) (b.b) (b.l) (b.l8)) ?_
        intro va19 vc19
        refine hK20 _ _ (fun w M => (mem_erase 2 (mem_take 3 M) :)) ?_
        refine ga_op 12 (by kernel_rfl) rfl (.free rfl) fun K22 hK22 => ?_
        refine go_callTr rfl rfl rfl Try.func53 rfl (by decide) rfl (fun w M => specMakeT_any w _ _ _ _ (mem_rdF M (rdTr_parts h0).1) (mem_rdF M (rdTr_parts e0).2.1) _ _ ((mem_own1 (n := 3) M rfl).rd)) ?_
        intro tx1_21 tk1_21 tx2_21 tk2_21 tx3_21 tk3_21 tx4_21 tk4_21 tx5_21 tk5_21 tx6_21 tk6_21 tx7_21 tk7_21 tx8_21 tk8_21 tx9_21 tk9_21 tx10_21 tk10_21 tx11_21 tk11_21 tx12_21 tk12_21 tx13_21 tk13_21 tx14_21 tk14_21 tx15_21 tk15_21 tx16_21 tk16_21 tx17_21 tk17_21 tx18_21 tk18_21 tx19_21 tk19_21 tx20_21 tk20_21 tx21_21 tk21_21
        refine hK22 _ _ (fun w M => (mem_erase 2 (mem_take 3 M) :)) ?_
        refine ga_op 13 (by kernel_rfl) rfl (.free rfl) fun K23 hK23 => ?_
        refine go_storeS (n := 2) rfl rfl rfl rfl (by kernel_rfl) rfl rfl rfl ?_
        refine hK23 _ _ (fun w M => (mem_erase 2 (mem_take 3 M) :)) ?_
        refine ga_v 14 rfl (by kernel_rfl) (by kernel_rfl) (by kernel_rfl) (.free rfl) rfl rfl (qt_assign rfl rfl) (fun _ _ _ h => h) ?_
        refine ga_done (by kernel_rfl) ?_
        refine gk_then (hK18 _ _ ?_)
        refine gc_ret ?_
        refine ret_SI (n := 2) rfl rfl rfl Try.underlying36 rfl (by kernel_rfl) rfl (fun w M => ?_)
        rw [show fThenTransformations S T = (thenT S T, 0) from pairX_t ⟨hs1_3, hc0⟩ (bP_t' hc1)]; exact retTrI_pass (T := thenT S T) (n := 4) M rfl

set_option maxHeartbeats 4000000 in
set_option maxRecDepth 100000 in
theorem impl_FunctorBefore (w : World) (v : Value) (F : Fct) (u : Value) (T : Tra) (h : RdF w v F) (e : RdTr w u T) :
    Calls Try.prog 31 #[v, u] w (RetTrI w (fFunctorBefore F T).1 (fFunctorBefore F T).2) := by
  have h0 := h
  obtain ⟨vx1, vx2, vx3, vx4, vx5, vx6, vx7, vx8, vx9, vx10, vk1, vk2, vk3, vk4, vk5, vk6, vk7, vk8, vk9, vk10, rfl, h1, h2, h3, h4, h5, h6, h7, h8, h9, h10⟩ := h.lists
  have e0 := e
  obtain ⟨ux1, ux2, ux3, ux4, ux5, ux6, ux7, ux8, ux9, ux10, ux11, ux12, ux13, ux14, ux15, ux16, ux17, ux18, ux19, ux20, ux21, uk1, uk2, uk3, uk4, uk5, uk6, uk7, uk8, uk9, uk10, uk11, uk12, uk13, uk14, uk15, uk16, uk17, uk18, uk19, uk20, uk21, rfl, e1, e2, e3, e4, e5, e6, e7, e8, e9, e10, e11, e12, e13, e14, e15, e16, e17, e18, e19, e20, e21⟩ := e.lists
  go_enter Try.func31, Try.ntmps31
  refine gc_enter (N := 26) rfl (look_cons (k := 0) rfl (look_cons (k := 1) rfl (look_nil _))) ?_
  refine gc_seq fun K1 hK1 => ?_
  refine gc_region ?_
  refine g_op (.free rfl) fun K3 hK3 => ?_
  refine go_box rfl rfl rfl rfl rfl ?_
  intro B2
  refine hK3 _ _ ?_
  refine g_op (.free rfl) fun K5 hK5 => ?_
  refine go_box rfl rfl rfl rfl rfl ?_
  intro B4
  refine hK5 _ _ ?_
  refine g_op (.free rfl) fun K7 hK7 => ?_
  refine go_alloc (z := (.agg #[.int .i64 0, .slice none 0 0, .slice none 0 0, .slice none 0 0, .slice none 0 0, .int .i64 0, .slice none 0 0, .slice none 0 0, .slice none 0 0, .slice none 0 0, .slice none 0 0, .slice none 0 0, .int .i64 0, .slice none 0 0, .slice none 0 0, .slice none 0 0, .slice none 0 0, .int .i64 0, .slice none 0 0, .slice none 0 0, .slice none 0 0, .slice none 0 0, .slice none 0 0, .slice none 0 0, .slice none 0 0])) (cs := [.int .i64 0, .slice none 0 0, .slice none 0 0, .slice none 0 0, .slice none 0 0, .int .i64 0, .slice none 0 0, .slice none 0 0, .slice none 0 0, .slice none 0 0, .slice none 0 0, .slice none 0 0, .int .i64 0, .slice none 0 0, .slice none 0 0, .slice none 0 0, .slice none 0 0, .int .i64 0, .slice none 0 0, .slice none 0 0, .slice none 0 0, .slice none 0 0, .slice none 0 0, .slice none 0 0, .slice none 0 0]) rfl rfl rfl (fun w => by kernel_rfl) rfl ?_
  intro B6
  refine hK7 _ _ ?_
  refine g_v (.free rfl) rfl rfl (qt_assign rfl rfl) ?_
  refine g_nil ?_
  refine gk_then (hK1 _ _ ?_)
  refine gc_seq fun K8 hK8 => ?_
  refine gc_seq fun K9 hK9 => ?_
  refine gc_region ?_
  refine g_v (.free rfl) rfl rfl (qt_loadS (n := 0) rfl rfl Try.underlying34 rfl (by kernel_rfl) rfl) ?_
  refine g_q (.free rfl) rfl rfl (qt_call rfl Try.func56 rfl (by decide) rfl (fun w M => impl_IsFunctor w _ _ (mem_rdF M h0))) ?_
  refine g_v (.free rfl) rfl rfl (qt_not rfl rfl) ?_
  refine g_splitv (.free rfl) rfl rfl (qt_move rfl rfl) (fun hs1_3 => ?_) (fun hs1_3 => ?_)
  · try simp only [decide_eq_true_eq, decide_eq_false_iff_not, Bool.not_eq_true', Bool.not_eq_false', Bool.not_eq_eq_eq_not, Bool.not_true, Bool.not_false, ne_eq, Decidable.not_not, Classical.not_not] at hs1_3
    refine g_skip (.not _ _ _ _ rfl rfl rfl rfl) rfl rfl ?_
    refine g_skip (.not _ _ _ _ rfl rfl rfl rfl) rfl rfl ?_
    refine g_skip (.not _ _ _ _ rfl rfl rfl rfl) rfl rfl ?_
    refine g_v (.free rfl) rfl rfl (qt_pick_t rfl rfl rfl) ?_
    refine g_nil ?_
    refine gk_then (hK9 _ _ ?_)
    refine gc_cond_t rfl ?_
    refine gc_seq fun K10 hK10 => ?_
    refine gc_region ?_
    refine g_v (.free rfl) rfl rfl (qt_build rfl rfl bt0_Transformation) ?_
    refine g_op (.free rfl) fun K11 hK11 => ?_
    refine go_storeS (n := 2) rfl rfl rfl rfl (by kernel_rfl) rfl rfl rfl ?_
    refine hK11 _ _ ?_
    refine g_v (.free rfl) rfl rfl (qt_assign rfl rfl) ?_
    refine g_nil ?_
    refine gk_then (hK10 _ _ ?_)
    refine gc_ret ?_
    refine gk_then_ret ?_
    refine ret_SI (n := 2) rfl rfl rfl Try.underlying36 rfl (by kernel_rfl) rfl (fun w M => ?_)
    rw [show fFunctorBefore F T = (tra0, 1) from pairX_f fun hq => by have := hq.1; rw [hs1_3] at this; cases this]; exact retTrI_zero M.1
  · try simp only [decide_eq_true_eq, decide_eq_false_iff_not, Bool.not_eq_true', Bool.not_eq_false', Bool.not_eq_eq_eq_not, Bool.not_true, Bool.not_false, ne_eq, Decidable.not_not, Classical.not_not] at hs1_3
    refine g_v (.held _ _ _ rfl rfl rfl) rfl rfl (qt_loadS (n := 1) rfl rfl Try.underlying36 rfl (by kernel_rfl) rfl) ?_
    refine g_q (.held _ _ _ rfl rfl rfl) rfl rfl (qt_call rfl Try.func16 rfl (by decide) rfl (fun w M => impl_IsTransformation w _ _ (mem_rdTr M e0))) ?_
    refine g_v (.held _ _ _ rfl rfl rfl) rfl rfl (qt_not rfl rfl) ?_
    refine g_v (.free rfl) rfl rfl (qt_pick_f rfl rfl rfl) ?_
    refine g_nil ?_
    refine gk_then (hK9 _ _ ?_)
    refine gc_cond rfl (fun hc0 => ?_) (fun hc0 => ?_)
    · try simp only [decide_eq_true_eq, decide_eq_false_iff_not, Bool.not_eq_true', Bool.not_eq_false', Bool.not_eq_eq_eq_not, Bool.not_true, Bool.not_false, ne_eq, Decidable.not_not, Classical.not_not] at hc0
      refine gc_seq fun K12 hK12 => ?_
      refine gc_region ?_
      refine g_v (.free rfl) rfl rfl (qt_build rfl rfl bt0_Transformation) ?_
      refine g_op (.free rfl) fun K13 hK13 => ?_
      refine go_storeS (n := 2) rfl rfl rfl rfl (by kernel_rfl) rfl rfl rfl ?_
      refine hK13 _ _ ?_
      refine g_v (.free rfl) rfl rfl (qt_assign rfl rfl) ?_
      refine g_nil ?_
      refine gk_then (hK12 _ _ ?_)
      refine gc_ret ?_
      refine gk_then_ret ?_
      refine ret_SI (n := 2) rfl rfl rfl Try.underlying36 rfl (by kernel_rfl) rfl (fun w M => ?_)
      rw [show fFunctorBefore F T = (tra0, 1) from pairX_f fun hq => by have := hq.2; rw [hc0] at this; cases this]; exact retTrI_zero M.1
    · try simp only [decide_eq_true_eq, decide_eq_false_iff_not, Bool.not_eq_true', Bool.not_eq_false', Bool.not_eq_eq_eq_not, Bool.not_true, Bool.not_false, ne_eq, Decidable.not_not, Classical.not_not] at hc0
      refine gc_skip ?_
      refine gk_then (hK8 _ _ ?_)
      refine gc_seq fun K14 hK14 => ?_
      refine gc_seq fun K15 hK15 => ?_
      refine gc_region ?_
      refine g_v (.free rfl) rfl rfl (qt_field (z := 4) (off := 5) rfl rfl Try.underlying34 rfl (by kernel_rfl) rfl) ?_
      refine g_v (.free rfl) rfl rfl (qt_loadP (n := 0) (z := 5) rfl rfl Try.underlying32 rfl (by kernel_rfl) rfl (by first | decide | exact Nat.le_refl _ | simp)) ?_
      refine g_v (.free rfl) rfl rfl (qt_field (z := 11) (off := 0) rfl rfl Try.underlying36 rfl (by kernel_rfl) rfl) ?_
      refine g_v (.free rfl) rfl rfl (qt_field (z := 4) (off := 0) rfl rfl Try.underlying34 rfl (by kernel_rfl) rfl) ?_
      refine g_v (.free rfl) rfl rfl (qt_loadP (n := 1) (z := 5) rfl rfl Try.underlying32 rfl (by kernel_rfl) rfl (by first | decide | exact Nat.le_refl _ | simp)) ?_
      refine g_q (.free rfl) rfl rfl (qt_call rfl Try.func69 rfl (by decide) rfl (fun w M => equals_any w _ _ (rdC_mk (mem_rd M h5) (mem_rd M h6) (mem_rd M h7) (mem_rd2 M h8)) _ _ (rdC_mk (mem_rd M e1) (mem_rd M e2) (mem_rd M e3) (mem_rd2 M e4)))) ?_
      refine g_v (.free rfl) rfl rfl (qt_not rfl rfl) ?_
      refine g_nil ?_
      refine gk_then (hK15 _ _ ?_)
      refine gc_cond rfl (fun hc1 => ?_) (fun hc1 => ?_)
      · try simp only [decide_eq_true_eq, decide_eq_false_iff_not, Bool.not_eq_true', Bool.not_eq_false', Bool.not_eq_eq_eq_not, Bool.not_true, Bool.not_false, ne_eq, Decidable.not_not, Classical.not_not] at hc1
        refine gc_seq fun K16 hK16 => ?_
        refine gc_region ?_
        refine g_v (.free rfl) rfl rfl (qt_build rfl rfl bt0_Transformation) ?_
        refine g_op (.free rfl) fun K17 hK17 => ?_
        refine go_storeS (n := 2) rfl rfl rfl rfl (by kernel_rfl) rfl rfl rfl ?_
        refine hK17 _ _ ?_
        refine g_v (.free rfl) rfl rfl (qt_assign rfl rfl) ?_
        refine g_nil ?_
        refine gk_then (hK16 _ _ ?_)
        refine gc_ret ?_
        refine gk_then_ret ?_
        refine ret_SI (n := 2) rfl rfl rfl Try.underlying36 rfl (by kernel_rfl) rfl (fun w M => ?_)
        rw [show fFunctorBefore F T = (tra0, 5) from pairX_s ⟨hs1_3, hc0⟩ (bP_f' hc1)]; exact retTrI_zero M.1
      · try simp only [decide_eq_true_eq, decide_eq_false_iff_not, Bool.not_eq_true', Bool.not_eq_false', Bool.not_eq_eq_eq_not, Bool.not_true, Bool.not_false, ne_eq, Decidable.not_not, Classical.not_not] at hc1
        refine gc_skip ?_
        refine gk_then (hK14 _ _ ?_)
        refine gc_seq fun K18 hK18 => ?_
        have b := befB (isf_of hs1_3) (isTra_sh hc0) (bP_t' hc1)
        refine gc_region ?_
        refine g_v (.free rfl) rfl rfl (qt_loadS (n := 1) rfl rfl Try.underlying36 rfl (by kernel_rfl) rfl) ?_
        refine g_v (.free rfl) rfl rfl (qt_loadS (n := 0) rfl rfl Try.underlying34 rfl (by kernel_rfl) rfl) ?_
        refine g_op (.free rfl) fun K20 hK20 => ?_
        refine go_callTr rfl rfl rfl Try.func70 rfl (by decide) rfl (fun w M => behind_any w _ _ _ _ (mem_rdTr M e0) (mem_rdF M h0) (b.b1) (b.b2) (b.ha)) ?_
        intro tx1_19 tk1_19 tx2_19 tk2_19 tx3_19 tk3_19 tx4_19 tk4_19 tx5_19 tk5_19 tx6_19 tk6_19 tx7_19 tk7_19 tx8_19 tk8_19 tx9_19 tk9_19 tx10_19 tk10_19 tx11_19 tk11_19 tx12_19 tk12_19 tx13_19 tk13_19 tx14_19 tk14_19 tx15_19 tk15_19 tx16_19 tk16_19 tx17_19 tk17_19 tx18_19 tk18_19 tx19_19 tk19_19 tx20_19 tk20_19 tx21_19 tk21_19
        refine hK20 _ _ ?_
        refine g_op (.free rfl) fun K21 hK21 => ?_
        refine go_storeS (n := 2) rfl rfl rfl rfl (by kernel_rfl) rfl rfl rfl ?_
        refine hK21 _ _ ?_
        refine g_v (.free rfl) rfl rfl (qt_assign rfl rfl) ?_
        refine g_nil ?_
        refine gk_then (hK18 _ _ ?_)
        refine gc_ret ?_
        refine ret_SI (n := 2) rfl rfl rfl Try.underlying36 rfl (by kernel_rfl) rfl (fun w M => ?_)
        rw [show fFunctorBefore F T = (befT F T, 0) from pairX_t ⟨hs1_3, hc0⟩ (bP_t' hc1)]; exact retTrI_pass (T := befT F T) (n := 3) M rfl

set_option maxHeartbeats 4000000 in
set_option maxRecDepth 100000 in
theorem spec_FunctorBefore (w : World) (v : Value) (F : Fct) (u : Value) (T : Tra) (h : RdF w v F) (e : RdTr w u T) :
    Calls Try.prog 30 #[v, u] w (RetTrI w (fFunctorBefore F T).1 (fFunctorBefore F T).2) := by
  have h0 := h
  obtain ⟨vx1, vx2, vx3, vx4, vx5, vx6, vx7, vx8, vx9, vx10, vk1, vk2, vk3, vk4, vk5, vk6, vk7, vk8, vk9, vk10, rfl, h1, h2, h3, h4, h5, h6, h7, h8, h9, h10⟩ := h.lists
  have e0 := e
  obtain ⟨ux1, ux2, ux3, ux4, ux5, ux6, ux7, ux8, ux9, ux10, ux11, ux12, ux13, ux14, ux15, ux16, ux17, ux18, ux19, ux20, ux21, uk1, uk2, uk3, uk4, uk5, uk6, uk7, uk8, uk9, uk10, uk11, uk12, uk13, uk14, uk15, uk16, uk17, uk18, uk19, uk20, uk21, rfl, e1, e2, e3, e4, e5, e6, e7, e8, e9, e10, e11, e12, e13, e14, e15, e16, e17, e18, e19, e20, e21⟩ := e.lists
  go_enter Try.func30, Try.ntmps30
  refine gc_enter (N := 26) rfl (look_cons (k := 0) rfl (look_cons (k := 1) rfl (look_nil _))) ?_
  refine gc_seq fun K1 hK1 => ?_
  refine gc_region ?_
  refine g_op (.free rfl) fun K3 hK3 => ?_
  refine go_box rfl rfl rfl rfl rfl ?_
  intro B2
  refine hK3 _ _ ?_
  refine g_op (.free rfl) fun K5 hK5 => ?_
  refine go_box rfl rfl rfl rfl rfl ?_
  intro B4
  refine hK5 _ _ ?_
  refine g_op (.free rfl) fun K7 hK7 => ?_
  refine go_alloc (z := (.agg #[.int .i64 0, .slice none 0 0, .slice none 0 0, .slice none 0 0, .slice none 0 0, .int .i64 0, .slice none 0 0, .slice none 0 0, .slice none 0 0, .slice none 0 0, .slice none 0 0, .slice none 0 0, .int .i64 0, .slice none 0 0, .slice none 0 0, .slice none 0 0, .slice none 0 0, .int .i64 0, .slice none 0 0, .slice none 0 0, .slice none 0 0, .slice none 0 0, .slice none 0 0, .slice none 0 0, .slice none 0 0])) (cs := [.int .i64 0, .slice none 0 0, .slice none 0 0, .slice none 0 0, .slice none 0 0, .int .i64 0, .slice none 0 0, .slice none 0 0, .slice none 0 0, .slice none 0 0, .slice none 0 0, .slice none 0 0, .int .i64 0, .slice none 0 0, .slice none 0 0, .slice none 0 0, .slice none 0 0, .int .i64 0, .slice none 0 0, .slice none 0 0, .slice none 0 0, .slice none 0 0, .slice none 0 0, .slice none 0 0, .slice none 0 0]) rfl rfl rfl (fun w => by kernel_rfl) rfl ?_
  intro B6
  refine hK7 _ _ ?_
  refine g_v (.free rfl) rfl rfl (qt_assign rfl rfl) ?_
  refine g_nil ?_
  refine gk_then (hK1 _ _ ?_)
  refine gc_seq fun K8 hK8 => ?_
  refine gc_seq fun K9 hK9 => ?_
  refine gc_region ?_
  refine g_v (.free rfl) rfl rfl (qt_loadS (n := 0) rfl rfl Try.underlying34 rfl (by kernel_rfl) rfl) ?_
  refine g_q (.free rfl) rfl rfl (qt_call rfl Try.func52 rfl (by decide) rfl (fun w M => specIsF_any w _ _ (mem_rdF M h0))) ?_
  refine g_v (.free rfl) rfl rfl (qt_not rfl rfl) ?_
  refine g_splitv (.free rfl) rfl rfl (qt_move rfl rfl) (fun hs1_3 => ?_) (fun hs1_3 => ?_)
  · try simp only [decide_eq_true_eq, decide_eq_false_iff_not, Bool.not_eq_true', Bool.not_eq_false', Bool.not_eq_eq_eq_not, Bool.not_true, Bool.not_false, ne_eq, Decidable.not_not, Classical.not_not] at hs1_3
    refine g_skip (.not _ _ _ _ rfl rfl rfl rfl) rfl rfl ?_
    refine g_skip (.not _ _ _ _ rfl rfl rfl rfl) rfl rfl ?_
    refine g_skip (.not _ _ _ _ rfl rfl rfl rfl) rfl rfl ?_
    refine g_v (.free rfl) rfl rfl (qt_pick_t rfl rfl rfl) ?_
    refine g_nil ?_
    refine gk_then (hK9 _ _ ?_)
    refine gc_cond_t rfl ?_
    refine gc_seq fun K10 hK10 => ?_
    refine gc_region ?_
    refine g_v (.free rfl) rfl rfl (qt_build rfl rfl bt0_Transformation) ?_
    refine g_op (.free rfl) fun K11 hK11 => ?_
    refine go_storeS (n := 2) rfl rfl rfl rfl (by kernel_rfl) rfl rfl rfl ?_
    refine hK11 _ _ ?_
    refine g_v (.free rfl) rfl rfl (qt_assign rfl rfl) ?_
    refine g_nil ?_
    refine gk_then (hK10 _ _ ?_)
    refine gc_ret ?_
    refine gk_then_ret ?_
    refine ret_SI (n := 2) rfl rfl rfl Try.underlying36 rfl (by kernel_rfl) rfl (fun w M => ?_)
    rw [show fFunctorBefore F T = (tra0, 1) from pairX_f fun hq => by have := hq.1; rw [hs1_3] at this; cases this]; exact retTrI_zero M.1
  · try simp only [decide_eq_true_eq, decide_eq_false_iff_not, Bool.not_eq_true', Bool.not_eq_false', Bool.not_eq_eq_eq_not, Bool.not_true, Bool.not_false, ne_eq, Decidable.not_not, Classical.not_not] at hs1_3
    refine g_v (.held _ _ _ rfl rfl rfl) rfl rfl (qt_loadS (n := 1) rfl rfl Try.underlying36 rfl (by kernel_rfl) rfl) ?_
    refine g_q (.held _ _ _ rfl rfl rfl) rfl rfl (qt_call rfl Try.func44 rfl (by decide) rfl (fun w M => specIs7_any w _ _ (mem_rdTr M e0))) ?_
    refine g_v (.held _ _ _ rfl rfl rfl) rfl rfl (qt_not rfl rfl) ?_
    refine g_v (.free rfl) rfl rfl (qt_pick_f rfl rfl rfl) ?_
    refine g_nil ?_
    refine gk_then (hK9 _ _ ?_)
    refine gc_cond rfl (fun hc0 => ?_) (fun hc0 => ?_)
    · try simp only [decide_eq_true_eq, decide_eq_false_iff_not, Bool.not_eq_true', Bool.not_eq_false', Bool.not_eq_eq_eq_not, Bool.not_true, Bool.not_false, ne_eq, Decidable.not_not, Classical.not_not] at hc0
      refine gc_seq fun K12 hK12 => ?_
      refine gc_region ?_
      refine g_v (.free rfl) rfl rfl (qt_build rfl rfl bt0_Transformation) ?_
      refine g_op (.free rfl) fun K13 hK13 => ?_
      refine go_storeS (n := 2) rfl rfl rfl rfl (by kernel_rfl) rfl rfl rfl ?_
      refine hK13 _ _ ?_
      refine g_v (.free rfl) rfl rfl (qt_assign rfl rfl) ?_
      refine g_nil ?_
      refine gk_then (hK12 _ _ ?_)
      refine gc_ret ?_
      refine gk_then_ret ?_
      refine ret_SI (n := 2) rfl rfl rfl Try.underlying36 rfl (by kernel_rfl) rfl (fun w M => ?_)
      rw [show fFunctorBefore F T = (tra0, 1) from pairX_f fun hq => by have := hq.2; rw [hc0] at this; cases this]; exact retTrI_zero M.1
    · try simp only [decide_eq_true_eq, decide_eq_false_iff_not, Bool.not_eq_true', Bool.not_eq_false', Bool.not_eq_eq_eq_not, Bool.not_true, Bool.not_false, ne_eq, Decidable.not_not, Classical.not_not] at hc0
      refine gc_skip ?_
      refine gk_then (hK8 _ _ ?_)
      refine gc_seq fun K14 hK14 => ?_
      refine gc_seq fun K15 hK15 => ?_
      refine gc_region ?_
      refine g_v (.free rfl) rfl rfl (qt_field (z := 4) (off := 5) rfl rfl Try.underlying34 rfl (by kernel_rfl) rfl) ?_
      refine g_v (.free rfl) rfl rfl (qt_loadP (n := 0) (z := 5) rfl rfl Try.underlying32 rfl (by kernel_rfl) rfl (by first | decide | exact Nat.le_refl _ | simp)) ?_
      refine g_v (.free rfl) rfl rfl (qt_field (z := 11) (off := 0) rfl rfl Try.underlying36 rfl (by kernel_rfl) rfl) ?_
      refine g_v (.free rfl) rfl rfl (qt_field (z := 4) (off := 0) rfl rfl Try.underlying34 rfl (by kernel_rfl) rfl) ?_
      refine g_v (.free rfl) rfl rfl (qt_loadP (n := 1) (z := 5) rfl rfl Try.underlying32 rfl (by kernel_rfl) rfl (by first | decide | exact Nat.le_refl _ | simp)) ?_
      refine g_q (.free rfl) rfl rfl (qt_call rfl Try.func67 rfl (by decide) rfl (fun w M => specSameC_any w _ _ (rdC_mk (mem_rd M h5) (mem_rd M h6) (mem_rd M h7) (mem_rd2 M h8)) _ _ (rdC_mk (mem_rd M e1) (mem_rd M e2) (mem_rd M e3) (mem_rd2 M e4)))) ?_
      refine g_v (.free rfl) rfl rfl (qt_not rfl rfl) ?_
      refine g_nil ?_
      refine gk_then (hK15 _ _ ?_)
      refine gc_cond rfl (fun hc1 => ?_) (fun hc1 => ?_)
      · try simp only [decide_eq_true_eq, decide_eq_false_iff_not, Bool.not_eq_true', Bool.not_eq_false', Bool.not_eq_eq_eq_not, Bool.not_true, Bool.not_false, ne_eq, Decidable.not_not, Classical.not_not] at hc1
        refine gc_seq fun K16 hK16 => ?_
        refine gc_region ?_
        refine g_v (.free rfl) rfl rfl (qt_build rfl rfl bt0_Transformation) ?_
        refine g_op (.free rfl) fun K17 hK17 => ?_
        refine go_storeS (n := 2) rfl rfl rfl rfl (by kernel_rfl) rfl rfl rfl ?_
        refine hK17 _ _ ?_
        refine g_v (.free rfl) rfl rfl (qt_assign rfl rfl) ?_
        refine g_nil ?_
        refine gk_then (hK16 _ _ ?_)
        refine gc_ret ?_
        refine gk_then_ret ?_
        refine ret_SI (n := 2) rfl rfl rfl Try.underlying36 rfl (by kernel_rfl) rfl (fun w M => ?_)
        rw [show fFunctorBefore F T = (tra0, 5) from pairX_s ⟨hs1_3, hc0⟩ (bP_f' hc1)]; exact retTrI_zero M.1
      · try simp only [decide_eq_true_eq, decide_eq_false_iff_not, Bool.not_eq_true', Bool.not_eq_false', Bool.not_eq_eq_eq_not, Bool.not_true, Bool.not_false, ne_eq, Decidable.not_not, Classical.not_not] at hc1
        refine gc_skip ?_
        refine gk_then (hK14 _ _ ?_)
        refine gc_seq fun K18 hK18 => ?_
        have b := befB (isf_of hs1_3) (isTra_sh hc0) (bP_t' hc1)
        refine gc_region ?_
        refine g_v (.free rfl) rfl rfl (qt_loadS (n := 0) rfl rfl Try.underlying34 rfl (by kernel_rfl) rfl) ?_
        refine g_v (.free rfl) rfl rfl (qt_loadS (n := 1) rfl rfl Try.underlying36 rfl (by kernel_rfl) rfl) ?_
        refine g_op (.free rfl) fun K20 hK20 => ?_
        refine go_callTr rfl rfl rfl Try.func68 rfl (by decide) rfl (fun w M => specBefore_any w _ _ _ _ (mem_rdF M h0) (mem_rdTr M e0) (b.b1) (b.b2) (b.ha)) ?_
        intro tx1_19 tk1_19 tx2_19 tk2_19 tx3_19 tk3_19 tx4_19 tk4_19 tx5_19 tk5_19 tx6_19 tk6_19 tx7_19 tk7_19 tx8_19 tk8_19 tx9_19 tk9_19 tx10_19 tk10_19 tx11_19 tk11_19 tx12_19 tk12_19 tx13_19 tk13_19 tx14_19 tk14_19 tx15_19 tk15_19 tx16_19 tk16_19 tx17_19 tk17_19 tx18_19 tk18_19 tx19_19 tk19_19 tx20_19 tk20_19 tx21_19 tk21_19
        refine hK20 _ _ ?_
        refine g_op (.free rfl) fun K21 hK21 => ?_
        refine go_storeS (n := 2) rfl rfl rfl rfl (by kernel_rfl) rfl rfl rfl ?_
        refine hK21 _ _ ?_
        refine g_v (.free rfl) rfl rfl (qt_assign rfl rfl) ?_
        refine g_nil ?_
        refine gk_then (hK18 _ _ ?_)
        refine gc_ret ?_
        refine ret_SI (n := 2) rfl rfl rfl Try.underlying36 rfl (by kernel_rfl) rfl (fun w M => ?_)
        rw [show fFunctorBefore F T = (befT F T, 0) from pairX_t ⟨hs1_3, hc0⟩ (bP_t' hc1)]; exact retTrI_pass (T := befT F T) (n := 3) M rfl

set_option maxHeartbeats 4000000 in
set_option maxRecDepth 100000 in
theorem impl_FunctorBehind (w : World) (u : Value) (T : Tra) (v : Value) (F : Fct) (e : RdTr w u T) (h : RdF w v F) :
    Calls Try.prog 33 #[u, v] w (RetTrI w (fFunctorBehind T F).1 (fFunctorBehind T F).2) := by
  have e0 := e
  obtain ⟨ux1, ux2, ux3, ux4, ux5, ux6, ux7, ux8, ux9, ux10, ux11, ux12, ux13, ux14, ux15, ux16, ux17, ux18, ux19, ux20, ux21, uk1, uk2, uk3, uk4, uk5, uk6, uk7, uk8, uk9, uk10, uk11, uk12, uk13, uk14, uk15, uk16, uk17, uk18, uk19, uk20, uk21, rfl, e1, e2, e3, e4, e5, e6, e7, e8, e9, e10, e11, e12, e13, e14, e15, e16, e17, e18, e19, e20, e21⟩ := e.lists
  have h0 := h
  obtain ⟨vx1, vx2, vx3, vx4, vx5, vx6, vx7, vx8, vx9, vx10, vk1, vk2, vk3, vk4, vk5, vk6, vk7, vk8, vk9, vk10, rfl, h1, h2, h3, h4, h5, h6, h7, h8, h9, h10⟩ := h.lists
  go_enter Try.func33, Try.ntmps33
  refine gc_enter (N := 26) rfl (look_cons (k := 0) rfl (look_cons (k := 1) rfl (look_nil _))) ?_
  refine gc_seq fun K1 hK1 => ?_
  refine gc_region ?_
  refine g_op (.free rfl) fun K3 hK3 => ?_
  refine go_box rfl rfl rfl rfl rfl ?_
  intro B2
  refine hK3 _ _ ?_
  refine g_op (.free rfl) fun K5 hK5 => ?_
  refine go_box rfl rfl rfl rfl rfl ?_
  intro B4
  refine hK5 _ _ ?_
  refine g_op (.free rfl) fun K7 hK7 => ?_
  refine go_alloc (z := (.agg #[.int .i64 0, .slice none 0 0, .slice none 0 0, .slice none 0 0, .slice none 0 0, .int .i64 0, .slice none 0 0, .slice none 0 0, .slice none 0 0, .slice none 0 0, .slice none 0 0, .slice none 0 0, .int .i64 0, .slice none 0 0, .slice none 0 0, .slice none 0 0, .slice none 0 0, .int .i64 0, .slice none 0 0, .slice none 0 0, .slice none 0 0, .slice none 0 0, .slice none 0 0, .slice none 0 0, .slice none 0 0])) (cs := [.int .i64 0, .slice none 0 0, .slice none 0 0, .slice none 0 0, .slice none 0 0, .int .i64 0, .slice none 0 0, .slice none 0 0, .slice none 0 0, .slice none 0 0, .slice none 0 0, .slice none 0 0, .int .i64 0, .slice none 0 0, .slice none 0 0, .slice none 0 0, .slice none 0 0, .int .i64 0, .slice none 0 0, .slice none 0 0, .slice none 0 0, .slice none 0 0, .slice none 0 0, .slice none 0 0, .slice none 0 0]) rfl rfl rfl (fun w => by kernel_rfl) rfl ?_
  intro B6
  refine hK7 _ _ ?_
  refine g_v (.free rfl) rfl rfl (qt_assign rfl rfl) ?_
  refine g_nil ?_
  refine gk_then (hK1 _ _ ?_)
  refine gc_seq fun K8 hK8 => ?_
  refine gc_seq fun K9 hK9 => ?_
  refine gc_region ?_
  refine g_v (.free rfl) rfl rfl (qt_loadS (n := 0) rfl rfl Try.underlying36 rfl (by kernel_rfl) rfl) ?_
  refine g_q (.free rfl) rfl rfl (qt_call rfl Try.func16 rfl (by decide) rfl (fun w M => impl_IsTransformation w _ _ (mem_rdTr M e0))) ?_
  refine g_v (.free rfl) rfl rfl (qt_not rfl rfl) ?_
  refine g_splitv (.free rfl) rfl rfl (qt_move rfl rfl) (fun hs1_3 => ?_) (fun hs1_3 => ?_)
  · try simp only [decide_eq_true_eq, decide_eq_false_iff_not, Bool.not_eq_true', Bool.not_eq_false', Bool.not_eq_eq_eq_not, Bool.not_true, Bool.not_false, ne_eq, Decidable.not_not, Classical.not_not] at hs1_3
    refine g_skip (.not _ _ _ _ rfl rfl rfl rfl) rfl rfl ?_
    refine g_skip (.not _ _ _ _ rfl rfl rfl rfl) rfl rfl ?_
    refine g_skip (.not _ _ _ _ rfl rfl rfl rfl) rfl rfl ?_
    refine g_v (.free rfl) rfl rfl (qt_pick_t rfl rfl rfl) ?_
    refine g_nil ?_
    refine gk_then (hK9 _ _ ?_)
    refine gc_cond_t rfl ?_
    refine gc_seq fun K10 hK10 => ?_
    refine gc_region ?_
    refine g_v (.free rfl) rfl rfl (qt_build rfl rfl bt0_Transformation) ?_
    refine g_op (.free rfl) fun K11 hK11 => ?_
    refine go_storeS (n := 2) rfl rfl rfl rfl (by kernel_rfl) rfl rfl rfl ?_
    refine hK11 _ _ ?_
    refine g_v (.free rfl) rfl rfl (qt_assign rfl rfl) ?_
    refine g_nil ?_
    refine gk_then (hK10 _ _ ?_)
    refine gc_ret ?_
    refine gk_then_ret ?_
    refine ret_SI (n := 2) rfl rfl rfl Try.underlying36 rfl (by kernel_rfl) rfl (fun w M => ?_)
    rw [show fFunctorBehind T F = (tra0, 1) from pairX_f fun hq => by have := hq.1; rw [hs1_3] at this; cases this]; exact retTrI_zero M.1
  · try simp only [decide_eq_true_eq, decide_eq_false_iff_not, Bool.not_eq_true', Bool.not_eq_false', Bool.not_eq_eq_eq_not, Bool.not_true, Bool.not_false, ne_eq, Decidable.not_not, Classical.not_not] at hs1_3
    refine g_v (.held _ _ _ rfl rfl rfl) rfl rfl (qt_loadS (n := 1) rfl rfl Try.underlying34 rfl (by kernel_rfl) rfl) ?_
    refine g_q (.held _ _ _ rfl rfl rfl) rfl rfl (qt_call rfl Try.func56 rfl (by decide) rfl (fun w M => impl_IsFunctor w _ _ (mem_rdF M h0))) ?_
    refine g_v (.held _ _ _ rfl rfl rfl) rfl rfl (qt_not rfl rfl) ?_
    refine g_v (.free rfl) rfl rfl (qt_pick_f rfl rfl rfl) ?_
    refine g_nil ?_
    refine gk_then (hK9 _ _ ?_)
    refine gc_cond rfl (fun hc0 => ?_) (fun hc0 => ?_)
    · try simp only [decide_eq_true_eq, decide_eq_false_iff_not, Bool.not_eq_true', Bool.not_eq_false', Bool.not_eq_eq_eq_not, Bool.not_true, Bool.not_false, ne_eq, Decidable.not_not, Classical.not_not] at hc0
      refine gc_seq fun K12 hK12 => ?_
      refine gc_region ?_
      refine g_v (.free rfl) rfl rfl (qt_build rfl rfl bt0_Transformation) ?_
      refine g_op (.free rfl) fun K13 hK13 => ?_
      refine go_storeS (n := 2) rfl rfl rfl rfl (by kernel_rfl) rfl rfl rfl ?_
      refine hK13 _ _ ?_
      refine g_v (.free rfl) rfl rfl (qt_assign rfl rfl) ?_
      refine g_nil ?_
      refine gk_then (hK12 _ _ ?_)
      refine gc_ret ?_
      refine gk_then_ret ?_
      refine ret_SI (n := 2) rfl rfl rfl Try.underlying36 rfl (by kernel_rfl) rfl (fun w M => ?_)
      rw [show fFunctorBehind T F = (tra0, 1) from pairX_f fun hq => by have := hq.2; rw [hc0] at this; cases this]; exact retTrI_zero M.1
    · try simp only [decide_eq_true_eq, decide_eq_false_iff_not, Bool.not_eq_true', Bool.not_eq_false', Bool.not_eq_eq_eq_not, Bool.not_true, Bool.not_false, ne_eq, Decidable.not_not, Classical.not_not] at hc0
      refine gc_skip ?_
      refine gk_then (hK8 _ _ ?_)
      refine gc_seq fun K14 hK14 => ?_
      refine gc_seq fun K15 hK15 => ?_
      refine gc_region ?_
      refine g_v (.free rfl) rfl rfl (qt_field (z := 11) (off := 0) rfl rfl Try.underlying36 rfl (by kernel_rfl) rfl) ?_
      refine g_v (.free rfl) rfl rfl (qt_field (z := 4) (off := 5) rfl rfl Try.underlying34 rfl (by kernel_rfl) rfl) ?_
      refine g_v (.free rfl) rfl rfl (qt_loadP (n := 0) (z := 5) rfl rfl Try.underlying32 rfl (by kernel_rfl) rfl (by first | decide | exact Nat.le_refl _ | simp)) ?_
      refine g_v (.free rfl) rfl rfl (qt_field (z := 4) (off := 0) rfl rfl Try.underlying34 rfl (by kernel_rfl) rfl) ?_
      refine g_v (.free rfl) rfl rfl (qt_loadP (n := 1) (z := 5) rfl rfl Try.underlying32 rfl (by kernel_rfl) rfl (by first | decide | exact Nat.le_refl _ | simp)) ?_
      refine g_q (.free rfl) rfl rfl (qt_call rfl Try.func69 rfl (by decide) rfl (fun w M => equals_any w _ _ (rdC_mk (mem_rd M e5) (mem_rd M e6) (mem_rd M e7) (mem_rd2 M e8)) _ _ (rdC_mk (mem_rd M h1) (mem_rd M h2) (mem_rd M h3) (mem_rd2 M h4)))) ?_
      refine g_v (.free rfl) rfl rfl (qt_not rfl rfl) ?_
      refine g_nil ?_
      refine gk_then (hK15 _ _ ?_)
      refine gc_cond rfl (fun hc1 => ?_) (fun hc1 => ?_)
      · try simp only [decide_eq_true_eq, decide_eq_false_iff_not, Bool.not_eq_true', Bool.not_eq_false', Bool.not_eq_eq_eq_not, Bool.not_true, Bool.not_false, ne_eq, Decidable.not_not, Classical.not_not] at hc1
        refine gc_seq fun K16 hK16 => ?_
        refine gc_region ?_
        refine g_v (.free rfl) rfl rfl (qt_build rfl rfl bt0_Transformation) ?_
        refine g_op (.free rfl) fun K17 hK17 => ?_
        refine go_storeS (n := 2) rfl rfl rfl rfl (by kernel_rfl) rfl rfl rfl ?_
        refine hK17 _ _ ?_
        refine g_v (.free rfl) rfl rfl (qt_assign rfl rfl) ?_
        refine g_nil ?_
        refine gk_then (hK16 _ _ ?_)
        refine gc_ret ?_
        refine gk_then_ret ?_
        refine ret_SI (n := 2) rfl rfl rfl Try.underlying36 rfl (by kernel_rfl) rfl (fun w M => ?_)
        rw [show fFunctorBehind T F = (tra0, 5) from pairX_s ⟨hs1_3, hc0⟩ (bP_f' hc1)]; exact retTrI_zero M.1
      · try simp only [decide_eq_true_eq, decide_eq_false_iff_not, Bool.not_eq_true', Bool.not_eq_false', Bool.not_eq_eq_eq_not, Bool.not_true, Bool.not_false, ne_eq, Decidable.not_not, Classical.not_not] at hc1
        refine gc_skip ?_
        refine gk_then (hK14 _ _ ?_)
        refine gc_seq fun K18 hK18 => ?_
        have b := behB (isTra_sh hs1_3) (isf_of hc0) (bP_t' hc1)
        refine gc_region ?_
        refine g_v (.free rfl) rfl rfl (qt_loadS (n := 0) rfl rfl Try.underlying36 rfl (by kernel_rfl) rfl) ?_
        refine g_v (.free rfl) rfl rfl (qt_loadS (n := 1) rfl rfl Try.underlying34 rfl (by kernel_rfl) rfl) ?_
        refine g_op (.free rfl) fun K20 hK20 => ?_
        refine go_callTr rfl rfl rfl Try.func72 rfl (by decide) rfl (fun w M => before_any w _ _ _ _ (mem_rdTr M e0) (mem_rdF M h0) (b.b1) (b.b2) (b.ha)) ?_
        intro tx1_19 tk1_19 tx2_19 tk2_19 tx3_19 tk3_19 tx4_19 tk4_19 tx5_19 tk5_19 tx6_19 tk6_19 tx7_19 tk7_19 tx8_19 tk8_19 tx9_19 tk9_19 tx10_19 tk10_19 tx11_19 tk11_19 tx12_19 tk12_19 tx13_19 tk13_19 tx14_19 tk14_19 tx15_19 tk15_19 tx16_19 tk16_19 tx17_19 tk17_19 tx18_19 tk18_19 tx19_19 tk19_19 tx20_19 tk20_19 tx21_19 tk21_19
        refine hK20 _ _ ?_
        refine g_op (.free rfl) fun K21 hK21 => ?_
        refine go_storeS (n := 2) rfl rfl rfl rfl (by kernel_rfl) rfl rfl rfl ?_
        refine hK21 _ _ ?_
        refine g_v (.free rfl) rfl rfl (qt_assign rfl rfl) ?_
        refine g_nil ?_
        refine gk_then (hK18 _ _ ?_)
        refine gc_ret ?_
        refine ret_SI (n := 2) rfl rfl rfl Try.underlying36 rfl (by kernel_rfl) rfl (fun w M => ?_)
        rw [show fFunctorBehind T F = (behT T F, 0) from pairX_t ⟨hs1_3, hc0⟩ (bP_t' hc1)]; exact retTrI_pass (T := behT T F) (n := 3) M rfl

set_option maxHeartbeats 4000000 in
set_option maxRecDepth 100000 in
theorem spec_FunctorBehind (w : World) (u : Value) (T : Tra) (v : Value) (F : Fct) (e : RdTr w u T) (h : RdF w v F) :
    Calls Try.prog 32 #[u, v] w (RetTrI w (fFunctorBehind T F).1 (fFunctorBehind T F).2) := by
  have e0 := e
  obtain ⟨ux1, ux2, ux3, ux4, ux5, ux6, ux7, ux8, ux9, ux10, ux11, ux12, ux13, ux14, ux15, ux16, ux17, ux18, ux19, ux20, ux21, uk1, uk2, uk3, uk4, uk5, uk6, uk7, uk8, uk9, uk10, uk11, uk12, uk13, uk14, uk15, uk16, uk17, uk18, uk19, uk20, uk21, rfl, e1, e2, e3, e4, e5, e6, e7, e8, e9, e10, e11, e12, e13, e14, e15, e16, e17, e18, e19, e20, e21⟩ := e.lists
  have h0 := h
  obtain ⟨vx1, vx2, vx3, vx4, vx5, vx6, vx7, vx8, vx9, vx10, vk1, vk2, vk3, vk4, vk5, vk6, vk7, vk8, vk9, vk10, rfl, h1, h2, h3, h4, h5, h6, h7, h8, h9, h10⟩ := h.lists
  go_enter Try.func32, Try.ntmps32
  refine gc_enter (N := 26) rfl (look_cons (k := 0) rfl (look_cons (k := 1) rfl (look_nil _))) ?_
  refine gc_seq fun K1 hK1 => ?_
  refine gc_region ?_
  refine g_op (.free rfl) fun K3 hK3 => ?_
  refine go_box rfl rfl rfl rfl rfl ?_
  intro B2
  refine hK3 _ _ ?_
  refine g_op (.free rfl) fun K5 hK5 => ?_
  refine go_box rfl rfl rfl rfl rfl ?_
  intro B4
  refine hK5 _ _ ?_
  refine g_op (.free rfl) fun K7 hK7 => ?_
  refine go_alloc (z := (.agg #[.int .i64 0, .slice none 0 0, .slice none 0 0, .slice none 0 0, .slice none 0 0, .int .i64 0, .slice none 0 0, .slice none 0 0, .slice none 0 0, .slice none 0 0, .slice none 0 0, .slice none 0 0, .int .i64 0, .slice none 0 0, .slice none 0 0, .slice none 0 0, .slice none 0 0, .int .i64 0, .slice none 0 0, .slice none 0 0, .slice none 0 0, .slice none 0 0, .slice none 0 0, .slice none 0 0, .slice none 0 0])) (cs := [.int .i64 0, .slice none 0 0, .slice none 0 0, .slice none 0 0, .slice none 0 0, .int .i64 0, .slice none 0 0, .slice none 0 0, .slice none 0 0, .slice none 0 0, .slice none 0 0, .slice none 0 0, .int .i64 0, .slice none 0 0, .slice none 0 0, .slice none 0 0, .slice none 0 0, .int .i64 0, .slice none 0 0, .slice none 0 0, .slice none 0 0, .slice none 0 0, .slice none 0 0, .slice none 0 0, .slice none 0 0]) rfl rfl rfl (fun w => by kernel_rfl) rfl ?_
  intro B6
  refine hK7 _ _ ?_
  refine g_v (.free rfl) rfl rfl (qt_assign rfl rfl) ?_
  refine g_nil ?_
  refine gk_then (hK1 _ _ ?_)
  refine gc_seq fun K8 hK8 => ?_
  refine gc_seq fun K9 hK9 => ?_
  refine gc_region ?_
  refine g_v (.free rfl) rfl rfl (qt_loadS (n := 0) rfl rfl Try.underlying36 rfl (by kernel_rfl) rfl) ?_
  refine g_q (.free rfl) rfl rfl (qt_call rfl Try.func44 rfl (by decide) rfl (fun w M => specIs7_any w _ _ (mem_rdTr M e0))) ?_
  refine g_v (.free rfl) rfl rfl (qt_not rfl rfl) ?_
  refine g_splitv (.free rfl) rfl rfl (qt_move rfl rfl) (fun hs1_3 => ?_) (fun hs1_3 => ?_)
  · try simp only [decide_eq_true_eq, decide_eq_false_iff_not, Bool.not_eq_true', Bool.not_eq_false', Bool.not_eq_eq_eq_not, Bool.not_true, Bool.not_false, ne_eq, Decidable.not_not, Classical.not_not] at hs1_3
    refine g_skip (.not _ _ _ _ rfl rfl rfl rfl) rfl rfl ?_
    refine g_skip (.not _ _ _ _ rfl rfl rfl rfl) rfl rfl ?_
    refine g_skip (.not _ _ _ _ rfl rfl rfl rfl) rfl rfl ?_
    refine g_v (.free rfl) rfl rfl (qt_pick_t rfl rfl rfl) ?_
    refine g_nil ?_
    refine gk_then (hK9 _ _ ?_)
    refine gc_cond_t rfl ?_
    refine gc_seq fun K10 hK10 => ?_
    refine gc_region ?_
    refine g_v (.free rfl) rfl rfl (qt_build rfl rfl bt0_Transformation) ?_
    refine g_op (.free rfl) fun K11 hK11 => ?_
    refine go_storeS (n := 2) rfl rfl rfl rfl (by kernel_rfl) rfl rfl rfl ?_
    refine hK11 _ _ ?_
    refine g_v (.free rfl) rfl rfl (qt_assign rfl rfl) ?_
    refine g_nil ?_
    refine gk_then (hK10 _ _ ?_)
    refine gc_ret ?_
    refine gk_then_ret ?_
    refine ret_SI (n := 2) rfl rfl rfl Try.underlying36 rfl (by kernel_rfl) rfl (fun w M => ?_)
    rw [show fFunctorBehind T F = (tra0, 1) from pairX_f fun hq => by have := hq.1; rw [hs1_3] at this; cases this]; exact retTrI_zero M.1
  · try simp only [decide_eq_true_eq, decide_eq_false_iff_not, Bool.not_eq_true', Bool.not_eq_false', Bool.not_eq_eq_eq_not, Bool.not_true, Bool.not_false, ne_eq, Decidable.not_not, Classical.not_not] at hs1_3
    refine g_v (.held _ _ _ rfl rfl rfl) rfl rfl (qt_loadS (n := 1) rfl rfl Try.underlying34 rfl (by kernel_rfl) rfl) ?_
    refine g_q (.held _ _ _ rfl rfl rfl) rfl rfl (qt_call rfl Try.func52 rfl (by decide) rfl (fun w M => specIsF_any w _ _ (mem_rdF M h0))) ?_
    refine g_v (.held _ _ _ rfl rfl rfl) rfl rfl (qt_not rfl rfl) ?_
    refine g_v (.free rfl) rfl rfl (qt_pick_f rfl rfl rfl) ?_
    refine g_nil ?_
    refine gk_then (hK9 _ _ ?_)
    refine gc_cond rfl (fun hc0 => ?_) (fun hc0 => ?_)
    · try simp only [decide_eq_true_eq, decide_eq_false_iff_not, Bool.not_eq_true', Bool.not_eq_false', Bool.not_eq_eq_eq_not, Bool.not_true, Bool.not_false, ne_eq, Decidable.not_not, Classical.not_not] at hc0
      refine gc_seq fun K12 hK12 => ?_
      refine gc_region ?_
      refine g_v (.free rfl) rfl rfl (qt_build rfl rfl bt0_Transformation) ?_
      refine g_op (.free rfl) fun K13 hK13 => ?_
      refine go_storeS (n := 2) rfl rfl rfl rfl (by kernel_rfl) rfl rfl rfl ?_
      refine hK13 _ _ ?_
      refine g_v (.free rfl) rfl rfl (qt_assign rfl rfl) ?_
      refine g_nil ?_
      refine gk_then (hK12 _ _ ?_)
      refine gc_ret ?_
      refine gk_then_ret ?_
      refine ret_SI (n := 2) rfl rfl rfl Try.underlying36 rfl (by kernel_rfl) rfl (fun w M => ?_)
      rw [show fFunctorBehind T F = (tra0, 1) from pairX_f fun hq => by have := hq.2; rw [hc0] at this; cases this]; exact retTrI_zero M.1
    · try simp only [decide_eq_true_eq, decide_eq_false_iff_not, Bool.not_eq_true', Bool.not_eq_false', Bool.not_eq_eq_eq_not, Bool.not_true, Bool.not_false, ne_eq, Decidable.not_not, Classical.not_not] at hc0
      refine gc_skip ?_
      refine gk_then (hK8 _ _ ?_)
      refine gc_seq fun K14 hK14 => ?_
      refine gc_seq fun K15 hK15 => ?_
      refine gc_region ?_
      refine g_v (.free rfl) rfl rfl (qt_field (z := 4) (off := 0) rfl rfl Try.underlying34 rfl (by kernel_rfl) rfl) ?_
      refine g_v (.free rfl) rfl rfl (qt_loadP (n := 1) (z := 5) rfl rfl Try.underlying32 rfl (by kernel_rfl) rfl (by first | decide | exact Nat.le_refl _ | simp)) ?_
      refine g_v (.free rfl) rfl rfl (qt_field (z := 11) (off := 0) rfl rfl Try.underlying36 rfl (by kernel_rfl) rfl) ?_
      refine g_v (.free rfl) rfl rfl (qt_field (z := 4) (off := 5) rfl rfl Try.underlying34 rfl (by kernel_rfl) rfl) ?_
      refine g_v (.free rfl) rfl rfl (qt_loadP (n := 0) (z := 5) rfl rfl Try.underlying32 rfl (by kernel_rfl) rfl (by first | decide | exact Nat.le_refl _ | simp)) ?_
      refine g_q (.free rfl) rfl rfl (qt_call rfl Try.func67 rfl (by decide) rfl (fun w M => specSameC_any w _ _ (rdC_mk (mem_rd M h1) (mem_rd M h2) (mem_rd M h3) (mem_rd2 M h4)) _ _ (rdC_mk (mem_rd M e5) (mem_rd M e6) (mem_rd M e7) (mem_rd2 M e8)))) ?_
      refine g_v (.free rfl) rfl rfl (qt_not rfl rfl) ?_
      refine g_nil ?_
      refine gk_then (hK15 _ _ ?_)
      refine gc_cond rfl (fun hc1 => ?_) (fun hc1 => ?_)
      · try simp only [decide_eq_true_eq, decide_eq_false_iff_not, Bool.not_eq_true', Bool.not_eq_false', Bool.not_eq_eq_eq_not, Bool.not_true, Bool.not_false, ne_eq, Decidable.not_not, Classical.not_not] at hc1
        refine gc_seq fun K16 hK16 => ?_
        refine gc_region ?_
        refine g_v (.free rfl) rfl rfl (qt_build rfl rfl bt0_Transformation) ?_
        refine g_op (.free rfl) fun K17 hK17 => ?_
        refine go_storeS (n := 2) rfl rfl rfl rfl (by kernel_rfl) rfl rfl rfl ?_
        refine hK17 _ _ ?_
        refine g_v (.free rfl) rfl rfl (qt_assign rfl rfl) ?_
        refine g_nil ?_
        refine gk_then (hK16 _ _ ?_)
        refine gc_ret ?_
        refine gk_then_ret ?_
        refine ret_SI (n := 2) rfl rfl rfl Try.underlying36 rfl (by kernel_rfl) rfl (fun w M => ?_)
        rw [show fFunctorBehind T F = (tra0, 5) from pairX_s ⟨hs1_3, hc0⟩ (fun hq => bP_f' hc1 hq.symm)]; exact retTrI_zero M.1
      · try simp only [decide_eq_true_eq, decide_eq_false_iff_not, Bool.not_eq_true', Bool.not_eq_false', Bool.not_eq_eq_eq_not, Bool.not_true, Bool.not_false, ne_eq, Decidable.not_not, Classical.not_not] at hc1
        refine gc_skip ?_
        refine gk_then (hK14 _ _ ?_)
        refine gc_seq fun K18 hK18 => ?_
        have b := behB (isTra_sh hs1_3) (isf_of hc0) (bP_t' hc1).symm
        refine gc_region ?_
        refine g_v (.free rfl) rfl rfl (qt_loadS (n := 0) rfl rfl Try.underlying36 rfl (by kernel_rfl) rfl) ?_
        refine g_v (.free rfl) rfl rfl (qt_loadS (n := 1) rfl rfl Try.underlying34 rfl (by kernel_rfl) rfl) ?_
        refine g_op (.free rfl) fun K20 hK20 => ?_
        refine go_callTr rfl rfl rfl Try.func71 rfl (by decide) rfl (fun w M => specBehind_any w _ _ _ _ (mem_rdTr M e0) (mem_rdF M h0) (b.b1) (b.b2) (b.ha)) ?_
        intro tx1_19 tk1_19 tx2_19 tk2_19 tx3_19 tk3_19 tx4_19 tk4_19 tx5_19 tk5_19 tx6_19 tk6_19 tx7_19 tk7_19 tx8_19 tk8_19 tx9_19 tk9_19 tx10_19 tk10_19 tx11_19 tk11_19 tx12_19 tk12_19 tx13_19 tk13_19 tx14_19 tk14_19 tx15_19 tk15_19 tx16_19 tk16_19 tx17_19 tk17_19 tx18_19 tk18_19 tx19_19 tk19_19 tx20_19 tk20_19 tx21_19 tk21_19
        refine hK20 _ _ ?_
        refine g_op (.free rfl) fun K21 hK21 => ?_
        refine go_storeS (n := 2) rfl rfl rfl rfl (by kernel_rfl) rfl rfl rfl ?_
        refine hK21 _ _ ?_
        refine g_v (.free rfl) rfl rfl (qt_assign rfl rfl) ?_
        refine g_nil ?_
        refine gk_then (hK18 _ _ ?_)
        refine gc_ret ?_
        refine ret_SI (n := 2) rfl rfl rfl Try.underlying36 rfl (by kernel_rfl) rfl (fun w M => ?_)
        rw [show fFunctorBehind T F = (behT T F, 0) from pairX_t ⟨hs1_3, hc0⟩ (bP_t' hc1).symm]; exact retTrI_pass (T := behT T F) (n := 3) M rfl

end Go.Proofs.Ytpppoipaabofgaa
