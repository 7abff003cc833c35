import Derived.Test.YtpcabkdkdnchaaaGreatN17
import Derived.Test.YtpcabkdkdnchaaaGreatN15
import Derived.Test.YtpcabkdkdnchaaaGreatN25
import Derived.Test.YtpcabkdkdnchaaaGreatN23
set_option linter.unusedSimpArgs false
set_option linter.unusedVariables false
set_option linter.unusedSectionVars false
namespace Go.Proofs.YtpcabkdkdnchaaaGreat
open Go.RowKit
noncomputable def fOppositeFunctor (F : Fct) : Fct × Int := if fIsFunctor F = true then (⟨oppM F.S, oppM F.T, F.o, F.a⟩, 0) else (fct0, 1)
theorem opf_t {F : Fct} (h : fIsFunctor F = true) : fOppositeFunctor F = (⟨oppM F.S, oppM F.T, F.o, F.a⟩, 0) := if_pos h
theorem opf_f {F : Fct} (h : fIsFunctor F = false) : fOppositeFunctor F = (fct0, 1) := if_neg (by rw [h]; decide)
set_option maxHeartbeats 1000000 in
set_option maxRecDepth 100000 in
theorem specOpF_any (w : World) (v : Value) (F : Fct) (h : RdF w v F) (hS : ShapeP F.S) (hT : ShapeP F.T) :
    Calls Tryz.prog 70 #[v] w (RetFn w ⟨oppM F.S, oppM F.T, F.o, F.a⟩) := by
  have h0 := h
  obtain ⟨vx1, vx2, vx3, vx4, vx5, vx6, vx7, vx8, vx9, vx10, vk1, vk2, vk3, vk4, vk5, vk6, vk7, vk8, vk9, vk10, rfl, h1, h2, h3, h4, h5, h6, h7, h8, h9, h10⟩ := h.lists
  go_enter Tryz.func70, Tryz.ntmps70
  refine gc_enter (N := 14) rfl (look_cons (k := 0) rfl (look_nil _)) ?_
  refine gc_seq fun K1 hK1 => ?_
  refine gc_region ?_
  refine g_op (.free rfl) fun K3 hK3 => ?_
  refine go_box rfl rfl rfl rfl rfl ?_
  intro B2
  refine hK3 _ _ ?_
  refine g_op (.free rfl) fun K5 hK5 => ?_
  refine go_alloc (z := (.agg #[.int .i64 0, .slice none 0 0, .slice none 0 0, .slice none 0 0, .slice none 0 0, .int .i64 0, .slice none 0 0, .slice none 0 0, .slice none 0 0, .slice none 0 0, .slice none 0 0, .slice none 0 0])) (cs := [.int .i64 0, .slice none 0 0, .slice none 0 0, .slice none 0 0, .slice none 0 0, .int .i64 0, .slice none 0 0, .slice none 0 0, .slice none 0 0, .slice none 0 0, .slice none 0 0, .slice none 0 0]) rfl rfl rfl (fun w => by kernel_rfl) rfl ?_
  intro B4
  refine hK5 _ _ ?_
  refine g_nil ?_
  refine gk_then (hK1 _ _ ?_)
  refine gc_seq fun K6 hK6 => ?_
  try simp only [List.nil_append, List.cons_append, List.append_assoc, List.set_cons_succ, List.set_cons_zero]
  refine ga_start _ (fun w M => mem_erase 1 (M)) ?_
  refine ga_v 0 rfl (by kernel_rfl) (by kernel_rfl) (by kernel_rfl) (.free rfl) rfl rfl (qt_field (z := 4) (off := 0) rfl rfl Tryz.underlying31 rfl (by kernel_rfl) rfl) (fun _ _ _ h => h) ?_
  refine ga_v 1 rfl (by kernel_rfl) (by kernel_rfl) (by kernel_rfl) (.free rfl) rfl rfl (qt_loadP (n := 0) (z := 5) rfl rfl Tryz.underlying29 rfl (by kernel_rfl) rfl (by first | decide | exact Nat.le_refl _ | simp)) (fun _ _ _ h => h) ?_
  refine ga_v 3 rfl (by kernel_rfl) (by kernel_rfl) (by kernel_rfl) (.free rfl) rfl rfl (qt_field (z := 4) (off := 5) rfl rfl Tryz.underlying31 rfl (by kernel_rfl) rfl) (fun _ _ _ h => h) ?_
  refine ga_v 4 rfl (by kernel_rfl) (by kernel_rfl) (by kernel_rfl) (.free rfl) rfl rfl (qt_loadP (n := 0) (z := 5) rfl rfl Tryz.underlying29 rfl (by kernel_rfl) rfl (by first | decide | exact Nat.le_refl _ | simp)) (fun _ _ _ h => h) ?_
  refine ga_v 6 rfl (by kernel_rfl) (by kernel_rfl) (by kernel_rfl) (.free rfl) rfl rfl (qt_field (z := 0) (off := 10) rfl rfl Tryz.underlying31 rfl (by kernel_rfl) rfl) (fun _ _ _ h => h) ?_
  refine ga_v 7 rfl (by kernel_rfl) (by kernel_rfl) (by kernel_rfl) (.free rfl) rfl rfl (qt_loadB (n := 0) rfl rfl Tryz.underlying22 rfl rfl rfl) (fun _ _ _ h => h) ?_
  refine ga_v 8 rfl (by kernel_rfl) (by kernel_rfl) (by kernel_rfl) (.free rfl) rfl rfl (qt_field (z := 0) (off := 11) rfl rfl Tryz.underlying31 rfl (by kernel_rfl) rfl) (fun _ _ _ h => h) ?_
  refine ga_v 9 rfl (by kernel_rfl) (by kernel_rfl) (by kernel_rfl) (.free rfl) rfl rfl (qt_loadB (n := 0) rfl rfl Tryz.underlying22 rfl rfl rfl) (fun _ _ _ h => h) ?_
  refine ga_op 2 (by kernel_rfl) rfl (.free rfl) fun K8 hK8 => ?_
  refine go_callC rfl rfl rfl Tryz.func104 rfl (by decide) rfl (fun w M => specOp_any w _ _ (rdC_mk (mem_rd M h1) (mem_rd M h2) (mem_rd M h3) (mem_rd2 M h4)) (by first | assumption | omega)) ?_
  intro ca7 cb7 cc7 cd7 ce7 cf7 cg7 ch7 cu7
  refine hK8 _ _ (fun w M => (mem_erase 1 (mem_take 2 M) :)) ?_
  refine ga_op 5 (by kernel_rfl) rfl (.free rfl) fun K10 hK10 => ?_
  refine go_callC rfl rfl rfl Tryz.func104 rfl (by decide) rfl (fun w M => specOp_any w _ _ (rdC_mk (mem_rd M h5) (mem_rd M h6) (mem_rd M h7) (mem_rd2 M h8)) (by first | assumption | omega)) ?_
  intro ca9 cb9 cc9 cd9 ce9 cf9 cg9 ch9 cu9
  refine hK10 _ _ (fun w M => (mem_erase 1 (mem_take 2 M) :)) ?_
  refine ga_op 10 (by kernel_rfl) rfl (.free rfl) fun K12 hK12 => ?_
  refine go_callFn rfl rfl rfl Tryz.func39 rfl (by decide) rfl (fun w M => specMakeF_any w _ (oppM F.S) (rdC_mk ((mem_own1 (n := 2) M rfl).rd) ((mem_own1 (n := 3) M rfl).rd) ((mem_own1 (n := 4) M rfl).rd) (mem_rdU (n := 5) M rfl)) _ (oppM F.T) (rdC_mk ((mem_own1 (n := 6) M rfl).rd) ((mem_own1 (n := 7) M rfl).rd) ((mem_own1 (n := 8) M rfl).rd) (mem_rdU (n := 9) M rfl)) _ _ _ _ (mem_rd M h9) (mem_rd M h10)) ?_
  intro fx1_11 fk1_11 fx2_11 fk2_11 fx3_11 fk3_11 fx4_11 fk4_11 fx5_11 fk5_11 fx6_11 fk6_11 fx7_11 fk7_11 fx8_11 fk8_11 fx9_11 fk9_11 fx10_11 fk10_11 us11 ut11
  refine hK12 _ _ (fun w M => (mem_erase 1 (mem_take 2 M) :)) ?_
  refine ga_op 11 (by kernel_rfl) rfl (.free rfl) fun K13 hK13 => ?_
  refine go_storeS (n := 1) rfl rfl rfl rfl (by kernel_rfl) rfl rfl rfl ?_
  refine hK13 _ _ (fun w M => (mem_erase 1 (mem_take 2 M) :)) ?_
  refine ga_done (by kernel_rfl) ?_
  refine gk_then (hK6 _ _ ?_)
  refine gc_ret ?_
  refine ret_S (n := 1) rfl rfl Tryz.underlying31 rfl (by kernel_rfl) rfl (fun w M => ?_)
  exact retFn_star (F := ⟨oppM F.S, oppM F.T, F.o, F.a⟩) (mem_block 10 10 (M))
set_option maxHeartbeats 1000000 in
set_option maxRecDepth 100000 in
theorem impl_OppositeFunctor (w : World) (v : Value) (F : Fct) (h : RdF w v F) :
    Calls Tryz.prog 71 #[v] w (RetFI w (fOppositeFunctor F).1 (fOppositeFunctor F).2) := by
  have h0 := h
  obtain ⟨vx1, vx2, vx3, vx4, vx5, vx6, vx7, vx8, vx9, vx10, vk1, vk2, vk3, vk4, vk5, vk6, vk7, vk8, vk9, vk10, rfl, h1, h2, h3, h4, h5, h6, h7, h8, h9, h10⟩ := h.lists
  go_enter Tryz.func71, Tryz.ntmps71
  refine gc_enter (N := 38) rfl (look_cons (k := 0) rfl (look_nil _)) ?_
  refine gc_seq fun K1 hK1 => ?_
  refine gc_region ?_
  refine g_op (.free rfl) fun K3 hK3 => ?_
  refine go_box rfl rfl rfl rfl rfl ?_
  intro B2
  refine hK3 _ _ ?_
  refine g_op (.free rfl) fun K5 hK5 => ?_
  refine go_alloc (z := (.agg #[.int .i64 0, .slice none 0 0, .slice none 0 0, .slice none 0 0, .slice none 0 0, .int .i64 0, .slice none 0 0, .slice none 0 0, .slice none 0 0, .slice none 0 0, .slice none 0 0, .slice none 0 0])) (cs := [.int .i64 0, .slice none 0 0, .slice none 0 0, .slice none 0 0, .slice none 0 0, .int .i64 0, .slice none 0 0, .slice none 0 0, .slice none 0 0, .slice none 0 0, .slice none 0 0, .slice none 0 0]) rfl rfl rfl (fun w => by kernel_rfl) rfl ?_
  intro B4
  refine hK5 _ _ ?_
  refine g_v (.free rfl) rfl rfl (qt_assign rfl rfl) ?_
  refine g_nil ?_
  refine gk_then (hK1 _ _ ?_)
  refine gc_seq fun K6 hK6 => ?_
  refine gc_region ?_
  refine g_v (.free rfl) rfl rfl (qt_loadS (n := 0) rfl rfl Tryz.underlying31 rfl (by kernel_rfl) rfl) ?_
  refine g_op (.free rfl) fun K8 hK8 => ?_
  refine go_callFI rfl rfl rfl Tryz.func105 rfl (by decide) rfl (fun w M => readFct_any w _ _ (mem_rdF M h0)) ?_
  intro fx1_7 fk1_7 fx2_7 fk2_7 fx3_7 fk3_7 fx4_7 fk4_7 fx5_7 fk5_7 fx6_7 fk6_7 fx7_7 fk7_7 fx8_7 fk8_7 fx9_7 fk9_7 fx10_7 fk10_7 us7 ut7
  refine hK8 _ _ ?_
  refine g_v (.free rfl) rfl rfl (qt_move rfl rfl) ?_
  refine g_v (.free rfl) rfl rfl (qt_extract rfl rfl rfl) ?_
  refine g_v (.free rfl) rfl rfl (qt_extract rfl rfl rfl) ?_
  refine g_op (.free rfl) fun K10 hK10 => ?_
  refine go_alloc (z := (.agg #[.int .i64 0, .slice none 0 0, .slice none 0 0, .slice none 0 0, .slice none 0 0, .int .i64 0, .slice none 0 0, .slice none 0 0, .slice none 0 0, .slice none 0 0, .slice none 0 0, .slice none 0 0])) (cs := [.int .i64 0, .slice none 0 0, .slice none 0 0, .slice none 0 0, .slice none 0 0, .int .i64 0, .slice none 0 0, .slice none 0 0, .slice none 0 0, .slice none 0 0, .slice none 0 0, .slice none 0 0]) rfl rfl rfl (fun w => by kernel_rfl) rfl ?_
  intro B9
  refine hK10 _ _ ?_
  refine g_op (.free rfl) fun K11 hK11 => ?_
  refine go_storeS (n := 12) rfl rfl rfl rfl (by kernel_rfl) rfl rfl rfl ?_
  refine hK11 _ _ ?_
  refine g_v (.free rfl) rfl rfl (qt_assign rfl rfl) ?_
  refine g_nil ?_
  refine gk_then (hK6 _ _ ?_)
  refine gc_seq fun K12 hK12 => ?_
  refine gc_seq fun K13 hK13 => ?_
  refine gc_region ?_
  refine g_v (.free rfl) rfl rfl (qt_move rfl rfl) ?_
  refine g_v (.free rfl) rfl rfl (qt_neq rfl rfl rfl) ?_
  refine g_nil ?_
  refine gk_then (hK13 _ _ ?_)
  refine gc_cond rfl (fun hc0 => ?_) (fun hc0 => ?_)
  · try simp only [decide_eq_true_eq, decide_eq_false_iff_not, Bool.not_eq_true', Bool.not_eq_false', Bool.not_eq_eq_eq_not, Bool.not_true, Bool.not_false, ne_eq, Decidable.not_not, Classical.not_not] at hc0
    refine gc_seq fun K14 hK14 => ?_
    refine gc_region ?_
    refine g_v (.free rfl) rfl rfl (qt_build rfl rfl bt0_Functor) ?_
    refine g_v (.free rfl) rfl rfl (qt_move rfl rfl) ?_
    refine g_op (.free rfl) fun K15 hK15 => ?_
    refine go_storeS (n := 1) rfl rfl rfl rfl (by kernel_rfl) rfl rfl rfl ?_
    refine hK15 _ _ ?_
    refine g_v (.free rfl) rfl rfl (qt_assign rfl rfl) ?_
    refine g_nil ?_
    refine gk_then (hK14 _ _ ?_)
    refine gc_ret ?_
    refine gk_then_ret ?_
    refine ret_SI (n := 1) rfl rfl rfl Tryz.underlying31 rfl (by kernel_rfl) rfl (fun w M => ?_)
    rw [(fctErr_n hc0).2.1, opf_f (fctErr_n hc0).1]; exact retFI_zero M.1
  · try simp only [decide_eq_true_eq, decide_eq_false_iff_not, Bool.not_eq_true', Bool.not_eq_false', Bool.not_eq_eq_eq_not, Bool.not_true, Bool.not_false, ne_eq, Decidable.not_not, Classical.not_not] at hc0
    refine gc_skip ?_
    refine gk_then (hK12 _ _ ?_)
    refine gc_seq fun K16 hK16 => ?_
    refine gc_region ?_
    refine g_v (.free rfl) rfl rfl (qt_field (z := 4) (off := 0) rfl rfl Tryz.underlying31 rfl (by kernel_rfl) rfl) ?_
    refine g_v (.free rfl) rfl rfl (qt_loadP (n := 12) (z := 5) rfl rfl Tryz.underlying29 rfl (by kernel_rfl) rfl (by first | decide | exact Nat.le_refl _ | simp)) ?_
    refine g_op (.free rfl) fun K18 hK18 => ?_
    refine go_callCI rfl rfl rfl Tryz.func106 rfl (by decide) rfl (fun w M => impl_OppositeCategory w _ _ (rdC_mk ((mem_own1 (n := 2) M rfl).rd) ((mem_own1 (n := 3) M rfl).rd) ((mem_own1 (n := 4) M rfl).rd) (mem_rdU (n := 5) M rfl))) ?_
    intro ca17 cb17 cc17 cd17 ce17 cf17 cg17 ch17 cu17
    refine hK18 _ _ ?_
    refine g_v (.free rfl) rfl rfl (qt_move rfl rfl) ?_
    refine g_v (.free rfl) rfl rfl (qt_extract rfl rfl rfl) ?_
    refine g_v (.free rfl) rfl rfl (qt_extract rfl rfl rfl) ?_
    refine g_op (.free rfl) fun K20 hK20 => ?_
    refine go_alloc (z := (.agg #[.int .i64 0, .slice none 0 0, .slice none 0 0, .slice none 0 0, .slice none 0 0])) (cs := [.int .i64 0, .slice none 0 0, .slice none 0 0, .slice none 0 0, .slice none 0 0]) rfl rfl rfl (fun w => by kernel_rfl) rfl ?_
    intro B19
    refine hK20 _ _ ?_
    refine g_op (.free rfl) fun K21 hK21 => ?_
    refine go_storeS (n := 17) rfl rfl rfl rfl (by kernel_rfl) rfl rfl rfl ?_
    refine hK21 _ _ ?_
    refine g_v (.free rfl) rfl rfl (qt_assign rfl rfl) ?_
    refine g_nil ?_
    refine gk_then (hK16 _ _ ?_)
    refine gc_seq fun K22 hK22 => ?_
    refine gc_region ?_
    refine g_v (.free rfl) rfl rfl (qt_field (z := 4) (off := 5) rfl rfl Tryz.underlying31 rfl (by kernel_rfl) rfl) ?_
    refine g_v (.free rfl) rfl rfl (qt_loadP (n := 12) (z := 5) rfl rfl Tryz.underlying29 rfl (by kernel_rfl) rfl (by first | decide | exact Nat.le_refl _ | simp)) ?_
    refine g_op (.free rfl) fun K24 hK24 => ?_
    refine go_callCI rfl rfl rfl Tryz.func106 rfl (by decide) rfl (fun w M => impl_OppositeCategory w _ _ (rdC_mk ((mem_own1 (n := 6) M rfl).rd) ((mem_own1 (n := 7) M rfl).rd) ((mem_own1 (n := 8) M rfl).rd) (mem_rdU (n := 9) M rfl))) ?_
    intro ca23 cb23 cc23 cd23 ce23 cf23 cg23 ch23 cu23
    refine hK24 _ _ ?_
    refine g_v (.free rfl) rfl rfl (qt_move rfl rfl) ?_
    refine g_v (.free rfl) rfl rfl (qt_extract rfl rfl rfl) ?_
    refine g_v (.free rfl) rfl rfl (qt_extract rfl rfl rfl) ?_
    refine g_op (.free rfl) fun K26 hK26 => ?_
    refine go_alloc (z := (.agg #[.int .i64 0, .slice none 0 0, .slice none 0 0, .slice none 0 0, .slice none 0 0])) (cs := [.int .i64 0, .slice none 0 0, .slice none 0 0, .slice none 0 0, .slice none 0 0]) rfl rfl rfl (fun w => by kernel_rfl) rfl ?_
    intro B25
    refine hK26 _ _ ?_
    refine g_op (.free rfl) fun K27 hK27 => ?_
    refine go_storeS (n := 22) rfl rfl rfl rfl (by kernel_rfl) rfl rfl rfl ?_
    refine hK27 _ _ ?_
    refine g_v (.free rfl) rfl rfl (qt_assign rfl rfl) ?_
    refine g_nil ?_
    refine gk_then (hK22 _ _ ?_)
    refine gc_seq fun K28 hK28 => ?_
    refine gc_region ?_
    refine g_v (.free rfl) rfl rfl (qt_loadS (n := 17) rfl rfl Tryz.underlying29 rfl (by kernel_rfl) rfl) ?_
    refine g_v (.free rfl) rfl rfl (qt_loadS (n := 22) rfl rfl Tryz.underlying29 rfl (by kernel_rfl) rfl) ?_
    refine g_v (.free rfl) rfl rfl (qt_field (z := 0) (off := 10) rfl rfl Tryz.underlying31 rfl (by kernel_rfl) rfl) ?_
    refine g_v (.free rfl) rfl rfl (qt_loadB (n := 12) rfl rfl Tryz.underlying22 rfl rfl rfl) ?_
    refine g_v (.free rfl) rfl rfl (qt_field (z := 0) (off := 11) rfl rfl Tryz.underlying31 rfl (by kernel_rfl) rfl) ?_
    refine g_v (.free rfl) rfl rfl (qt_loadB (n := 12) rfl rfl Tryz.underlying22 rfl rfl rfl) ?_
    refine g_v (.free rfl) rfl rfl (qt_build rfl rfl bt_Functor) ?_
    refine g_op (.free rfl) fun K29 hK29 => ?_
    refine go_storeS (n := 1) rfl rfl rfl rfl (by kernel_rfl) rfl rfl rfl ?_
    refine hK29 _ _ ?_
    refine g_v (.free rfl) rfl rfl (qt_assign rfl rfl) ?_
    refine g_nil ?_
    refine gk_then (hK28 _ _ ?_)
    refine gc_ret ?_
    refine ret_SI (n := 1) rfl rfl rfl Tryz.underlying31 rfl (by kernel_rfl) rfl (fun w M => ?_)
    have hF := isf_of (fctErr_0 hc0)
    rw [opf_t (fctErr_0 hc0)]
    have e := (fctErr_t (fctErr_0 hc0)).2
    have M2 := mem_block 17 4 (mem_block 18 4 (mem_block 10 2 (M)))
    simp only [e, opp_t hF.cs, opp_t hF.ct] at M2 ⊢
    exact retFI_star (F := ⟨oppM F.S, oppM F.T, F.o, F.a⟩) M2
end Go.Proofs.YtpcabkdkdnchaaaGreat
set_option linter.unusedSimpArgs false
set_option linter.unusedVariables false
set_option linter.unusedSectionVars false
namespace Go.Proofs.YtpcabkdkdnchaaaGreat
open Go.RowKit
theorem allP_ext {n : Int} {l : List Int} (h : ∀ k : Nat, k < l.length → 0 ≤ at0 l (k : Int) ∧ at0 l (k : Int) < n) : AllP n l := fun x hx => by
  obtain ⟨k, hk, rfl⟩ := List.getElem_of_mem hx
  have := h k hk
  rw [at0_nat, List.getD_eq_getElem?_getD, List.getElem?_eq_getElem hk] at this
  exact this
theorem shape_by {c : Cat} {N m : Nat} {S T E : Nat → Int} {M : Nat → Nat → Int} (hob : c.ob = (N : Int)) (hn : N ≤ 8) (hm : m ≤ 40) (ls : c.s.length = m) (lt : c.t.length = m) (le : c.e.length = N) (lm : c.m.length = m)
    (lr : ∀ f : Nat, f < m → (row2 c.m (f : Int)).length = m) (hS : ∀ f : Nat, f < m → at0 c.s (f : Int) = S f) (hT : ∀ f : Nat, f < m → at0 c.t (f : Int) = T f) (hE : ∀ x : Nat, x < N → at0 c.e (x : Int) = E x) (hM : ∀ f g : Nat, f < m → g < m → at0 (row2 c.m (f : Int)) (g : Int) = M f g)
    (rS : ∀ f : Nat, f < m → 0 ≤ S f ∧ S f < N) (rT : ∀ f : Nat, f < m → 0 ≤ T f ∧ T f < N) (hid : ∀ x : Nat, x < N → 0 ≤ E x ∧ E x < m ∧ S (E x).toNat = x ∧ T (E x).toNat = x)
    (hco : ∀ f g : Nat, f < m → g < m → (T f = S g → 0 ≤ M f g ∧ M f g < m ∧ S (M f g).toNat = S f ∧ T (M f g).toNat = T g) ∧ (T f ≠ S g → M f g = -1)) : ShapeP c where
  ob0 := by omega
  ob8 := by omega
  n40 := by omega
  el := by omega
  tl := by omega
  ml := by omega
  rl j hj := by
    have := lr j (by omega)
    rw [row2_of, Int.toNat_natCast] at this
    omega
  sa := allP_ext fun k hk => by rw [hS k (by omega), hob]; exact rS k (by omega)
  ta := allP_ext fun k hk => by rw [hT k (by omega), hob]; exact rT k (by omega)
  id x hx := by
    have h := hid x (by omega)
    have hk : ((E x).toNat : Int) = E x := Int.toNat_of_nonneg h.1
    unfold okIdent Cat.arr
    rw [hE x (by omega), ls]
    refine ⟨⟨h.1, h.2.1⟩, ?_, ?_⟩
    · rw [← hk, hS _ (by omega)]; exact h.2.2.1
    · rw [← hk, hT _ (by omega)]; exact h.2.2.2
  co f g hf hg := by
    have h := hco f g (by omega) (by omega)
    unfold okComp Cat.arr Cat.th
    rw [hM f g (by omega) (by omega), hS f (by omega), hS g (by omega), hT f (by omega), hT g (by omega), ls]
    refine ⟨fun he => ?_, h.2⟩
    have h := h.1 he
    have hk : ((M f g).toNat : Int) = M f g := Int.toNat_of_nonneg h.1
    refine ⟨⟨h.1, h.2.1⟩, ?_, ?_⟩
    · rw [← hk, hS _ (by omega)]; exact h.2.2.1
    · rw [← hk, hT _ (by omega)]; exact h.2.2.2
theorem shape_id {c : Cat} (hS : ShapeP c) {x : Nat} (hx : x < c.e.length) : ∃ k : Nat, at0 c.e (x : Int) = (k : Int) ∧ k < c.s.length ∧ at0 c.s (k : Int) = x ∧ at0 c.t (k : Int) = x := by
  obtain ⟨⟨h0, h1⟩, h2, h3⟩ := hS.id x hx
  obtain ⟨k, hk⟩ := Int.eq_ofNat_of_zero_le h0
  rw [hk] at h1 h2 h3
  exact ⟨k, hk, by omega, h2, h3⟩
theorem shape_co {c : Cat} (hS : ShapeP c) {f g : Nat} (hf : f < c.s.length) (hg : g < c.s.length) (h : at0 c.t (f : Int) = at0 c.s (g : Int)) : ∃ k : Nat, at0 (row2 c.m (f : Int)) (g : Int) = (k : Int) ∧ k < c.s.length ∧ at0 c.s (k : Int) = at0 c.s (f : Int) ∧ at0 c.t (k : Int) = at0 c.t (g : Int) := by
  obtain ⟨⟨h0, h1⟩, h2, h3⟩ := (hS.co f g hf hg).1 h
  obtain ⟨k, hk⟩ := Int.eq_ofNat_of_zero_le h0
  rw [hk] at h1 h2 h3
  exact ⟨k, hk, by omega, h2, h3⟩
theorem opp_shape {c : Cat} (hS : ShapeP c) : ShapeP (oppM c) := by
  have ob0 := hS.ob0; have ob8 := hS.ob8; have n40 := hS.n40; have el := hS.el; have tl := hS.tl
  refine shape_by (N := c.ob.toNat) (m := c.s.length) (S := fun f => at0 c.t (f : Int)) (T := fun f => at0 c.s (f : Int)) (E := fun x => at0 c.e (x : Int)) (M := fun f g => at0 (row2 c.m (g : Int)) (f : Int)) (by show c.ob = _; omega) (by omega) n40 tl rfl (by show c.e.length = _; omega) (rowsTo_len _ _)
    (fun f hf => by show (row2 (rowsTo _ _) _).length = _; rw [rowsTo_at _ hf, tabTo_len]) (fun f hf => rfl) (fun f hf => rfl) (fun x hx => rfl) (fun f g hf hg => by show at0 (row2 (rowsTo _ _) _) _ = _; rw [rowsTo_at _ hf, tabTo_at _ hg]; rfl)
    (fun f hf => by have := allP_at hS.ta (k := f) (by omega); omega) (fun f hf => by have := allP_at hS.sa (k := f) (by omega); omega) (fun x hx => ?_) (fun f g hf hg => ?_)
  · obtain ⟨k, hk, h1, h2, h3⟩ := shape_id hS (x := x) (by omega)
    rw [hk, Int.toNat_natCast]
    exact ⟨by omega, by omega, h3, h2⟩
  · refine ⟨fun he => ?_, fun he => ?_⟩
    · obtain ⟨k, hk, h1, h2, h3⟩ := shape_co hS hg hf he.symm
      rw [hk, Int.toNat_natCast]
      exact ⟨by omega, by omega, h3, h2⟩
    · exact (hS.co g f hg hf).2 fun e => he e.symm
end Go.Proofs.YtpcabkdkdnchaaaGreat
set_option linter.unusedSimpArgs false
set_option linter.unusedVariables false
set_option linter.unusedSectionVars false
namespace Go.Proofs.YtpcabkdkdnchaaaGreat
open Go.RowKit
theorem oq_assoc {c : Cat} (hC : IsCat c) {f g h : Int} (f0 : 0 ≤ f) (f1 : f < c.s.length) (g0 : 0 ≤ g) (g1 : g < c.s.length) (h0 : 0 ≤ h) (h1 : h < c.s.length) (e1 : at0 c.t f = at0 c.s g) (e2 : at0 c.t g = at0 c.s h) : c.th (c.th f g) h = c.th f (c.th g h) := by
  obtain ⟨a, rfl⟩ := Int.eq_ofNat_of_zero_le f0
  obtain ⟨b, rfl⟩ := Int.eq_ofNat_of_zero_le g0
  obtain ⟨d, rfl⟩ := Int.eq_ofNat_of_zero_le h0
  have := hC.assoc a b d (by omega) (by omega) (by omega)
  exact Classical.byContradiction fun hn => this ⟨e1, e2, hn⟩
theorem oq_unit {c : Cat} (hC : IsCat c) {f : Int} (f0 : 0 ≤ f) (f1 : f < c.s.length) : c.th (at0 c.e (at0 c.s f)) f = f ∧ c.th f (at0 c.e (at0 c.t f)) = f := by
  obtain ⟨a, rfl⟩ := Int.eq_ofNat_of_zero_le f0
  exact hC.idl a (by omega)
theorem oq_th {c : Cat} {f g : Nat} (hf : f < c.s.length) (hg : g < c.s.length) : (oppM c).th (f : Int) (g : Int) = c.th (g : Int) (f : Int) := by
  show at0 (row2 (rowsTo _ _) (f : Int)) (g : Int) = _
  rw [rowsTo_at _ hf, tabTo_at _ hg]
theorem oq_len {c : Cat} (hS : ShapeP c) : (oppM c).s.length = c.s.length := hS.tl
theorem oq_cat {c : Cat} (hC : IsCat c) : IsCat (oppM c) := by
  have hS := hC.toShapeP
  have tl := hS.tl
  refine { toShapeP := opp_shape hS, idl := fun f hf => ?_, assoc := fun f g h hf hg hh hb => ?_ }
  · have hf' : f < c.s.length := by rw [← oq_len hS]; exact hf
    have hA := arrP hS (f := (f : Int)) (by omega) (by omega)
    have hu := oq_unit hC (f := (f : Int)) (by omega) (by omega)
    have i1 := hS.idn (x := at0 c.t f) hA.t0 (by have := hA.t1; have := hS.el; omega)
    have i2 := hS.idn (x := at0 c.s f) hA.s0 (by have := hA.s1; have := hS.el; omega)
    show (oppM c).th (at0 c.e (at0 c.t f)) f = f ∧ (oppM c).th f (at0 c.e (at0 c.s f)) = f
    obtain ⟨a, ha⟩ := Int.eq_ofNat_of_zero_le i1.1
    obtain ⟨b, hb⟩ := Int.eq_ofNat_of_zero_le i2.1
    rw [ha] at hu i1 ⊢
    rw [hb] at hu i2 ⊢
    rw [oq_th (by omega) hf', oq_th hf' (by omega)]
    exact ⟨hu.2, hu.1⟩
  · rw [oq_len hS] at hf hg hh
    obtain ⟨e1, e2, e3⟩ := hb
    have e1' : at0 c.s (f : Int) = at0 c.t (g : Int) := e1
    have e2' : at0 c.s (g : Int) = at0 c.t (h : Int) := e2
    have t1 := th_ends hS (f := (g : Int)) (g := (f : Int)) (by omega) (by omega) (by omega) (by omega) e1'.symm
    have t2 := th_ends hS (f := (h : Int)) (g := (g : Int)) (by omega) (by omega) (by omega) (by omega) e2'.symm
    have hc := oq_assoc hC (f := (h : Int)) (g := (g : Int)) (h := (f : Int)) (by omega) (by omega) (by omega) (by omega) (by omega) (by omega) e2'.symm e1'.symm
    rw [oq_th hf hg, oq_th hg hh] at e3
    obtain ⟨a, ha⟩ := Int.eq_ofNat_of_zero_le t1.1.1
    obtain ⟨b, hb⟩ := Int.eq_ofNat_of_zero_le t2.1.1
    rw [ha] at e3 hc t1
    rw [hb] at e3 hc t2
    rw [oq_th (by omega) hh, oq_th hf (by omega)] at e3
    exact e3 hc.symm
def opF (F : Fct) : Fct := ⟨oppM F.S, oppM F.T, F.o, F.a⟩
theorem oq_fct {F : Fct} (hF : IsFct F) : IsFct (opF F) := by
  have hS := isCat_of hF.cs; have hT := isCat_of hF.ct
  have fS := hS.toShapeP; have fT := hT.toShapeP
  have ls := oq_len fS; have lt := oq_len fT
  refine ⟨bP_t (oq_cat hS), bP_t (oq_cat hT), hF.lo, ?_, hF.io, ?_, fun f hf => ?_, fun x hx => hF.un x hx, fun f g hf hg he => ?_⟩
  · show (F.a.length : Int) = (oppM F.S).s.length
    rw [ls]; exact hF.la
  · show AllP (oppM F.T).s.length F.a
    rw [lt]; exact hF.ia
  · have hf : f < (oppM F.S).s.length := hf
    rw [ls] at hf
    exact ⟨(hF.en f hf).2, (hF.en f hf).1⟩
  · have hf : f < (oppM F.S).s.length := hf
    have hg : g < (oppM F.S).s.length := hg
    rw [ls] at hf hg
    have he : at0 F.S.t (g : Int) = at0 F.S.s (f : Int) := he.symm
    have h1 := hF.co g f hg hf he
    have ea := fct_en hF (f := (f : Int)) (by omega) (by omega)
    have eb := fct_en hF (f := (g : Int)) (by omega) (by omega)
    obtain ⟨m, hm⟩ := Int.eq_ofNat_of_zero_le ea.1.1
    obtain ⟨n, hn⟩ := Int.eq_ofNat_of_zero_le eb.1.1
    show at0 F.a ((oppM F.S).th f g) = (oppM F.T).th (at0 F.a f) (at0 F.a g)
    rw [oq_th hf hg, h1, hm, hn]
    rw [hm] at ea; rw [hn] at eb
    rw [oq_th (by omega) (by omega)]
noncomputable def fIsInitial (F : Fct) : Bool × Int := (askB F (bP (finP (opF F))), fctErr F)
set_option maxHeartbeats 1000000 in
set_option maxRecDepth 100000 in
theorem spec_IsInitial (w : World) (v : Value) (F : Fct) (h : RdF w v F) :
    Calls Tryz.prog 35 #[v] w (RetBI w (fIsInitial F).1 (fIsInitial F).2) := by
  have h0 := h
  obtain ⟨vx1, vx2, vx3, vx4, vx5, vx6, vx7, vx8, vx9, vx10, vk1, vk2, vk3, vk4, vk5, vk6, vk7, vk8, vk9, vk10, rfl, h1, h2, h3, h4, h5, h6, h7, h8, h9, h10⟩ := h.lists
  go_enter Tryz.func35, Tryz.ntmps35
  refine gc_enter (N := 10) rfl (look_cons (k := 0) rfl (look_nil _)) ?_
  refine gc_seq fun K1 hK1 => ?_
  refine gc_region ?_
  refine g_op (.free rfl) fun K3 hK3 => ?_
  refine go_box rfl rfl rfl rfl rfl ?_
  intro B2
  refine hK3 _ _ ?_
  refine g_v (.free rfl) rfl rfl (qt_assign rfl rfl) ?_
  refine g_v (.free rfl) rfl rfl (qt_assign rfl rfl) ?_
  refine g_nil ?_
  refine gk_then (hK1 _ _ ?_)
  refine gc_seq fun K4 hK4 => ?_
  refine gc_seq fun K5 hK5 => ?_
  refine gc_region ?_
  refine g_v (.free rfl) rfl rfl (qt_loadS (n := 0) rfl rfl Tryz.underlying31 rfl (by kernel_rfl) rfl) ?_
  refine g_q (.free rfl) rfl rfl (qt_call rfl Tryz.func68 rfl (by decide) rfl (fun w M => specIsF_any w _ _ (mem_rdF M h0))) ?_
  refine g_v (.free rfl) rfl rfl (qt_not rfl rfl) ?_
  refine g_nil ?_
  refine gk_then (hK5 _ _ ?_)
  refine gc_cond rfl (fun hc0 => ?_) (fun hc0 => ?_)
  · try simp only [decide_eq_true_eq, decide_eq_false_iff_not, Bool.not_eq_true', Bool.not_eq_false', Bool.not_eq_eq_eq_not, Bool.not_true, Bool.not_false, ne_eq, Decidable.not_not, Classical.not_not] at hc0
    refine gc_seq fun K6 hK6 => ?_
    refine gc_region ?_
    refine g_v (.free rfl) rfl rfl (qt_assign rfl rfl) ?_
    refine g_v (.free rfl) rfl rfl (qt_assign rfl rfl) ?_
    refine g_nil ?_
    refine gk_then (hK6 _ _ ?_)
    refine gc_ret ?_
    refine gk_then_ret ?_
    refine ret_2 rfl rfl rfl  (fun w M => ?_)
    rw [show fIsInitial F = (false, 1) from by unfold fIsInitial; rw [askB_f hc0, (fctErr_f hc0).1]]; exact ⟨rfl, M.1⟩
  · try simp only [decide_eq_true_eq, decide_eq_false_iff_not, Bool.not_eq_true', Bool.not_eq_false', Bool.not_eq_eq_eq_not, Bool.not_true, Bool.not_false, ne_eq, Decidable.not_not, Classical.not_not] at hc0
    refine gc_skip ?_
    refine gk_then (hK4 _ _ ?_)
    refine gc_seq fun K7 hK7 => ?_
    refine gc_region ?_
    refine g_v (.free rfl) rfl rfl (qt_loadS (n := 0) rfl rfl Tryz.underlying31 rfl (by kernel_rfl) rfl) ?_
    refine g_op (.free rfl) fun K9 hK9 => ?_
    refine go_callFn rfl rfl rfl Tryz.func70 rfl (by decide) rfl (fun w M => specOpF_any w _ _ (mem_rdF M h0) (isCat_of (isf_of hc0).cs).toShapeP (isCat_of (isf_of hc0).ct).toShapeP) ?_
    intro fx1_8 fk1_8 fx2_8 fk2_8 fx3_8 fk3_8 fx4_8 fk4_8 fx5_8 fk5_8 fx6_8 fk6_8 fx7_8 fk7_8 fx8_8 fk8_8 fx9_8 fk9_8 fx10_8 fk10_8 us8 ut8
    refine hK9 _ _ ?_
    refine g_q (.free rfl) rfl rfl (qt_call rfl Tryz.func69 rfl (by decide) rfl (fun w M => specFinal_any w _ (opF F) (rdF_mk ((mem_own1 (n := 1) M rfl).rd) ((mem_own1 (n := 2) M rfl).rd) ((mem_own1 (n := 3) M rfl).rd) (mem_rdU (n := 4) M rfl) ((mem_own1 (n := 5) M rfl).rd) ((mem_own1 (n := 6) M rfl).rd) ((mem_own1 (n := 7) M rfl).rd) (mem_rdU (n := 8) M rfl) ((mem_own1 (n := 9) M rfl).rd) ((mem_own1 (n := 10) M rfl).rd)) (isf_t (oq_fct (isf_of hc0))))) ?_
    refine g_v (.free rfl) rfl rfl (qt_assign rfl rfl) ?_
    refine g_v (.free rfl) rfl rfl (qt_assign rfl rfl) ?_
    refine g_nil ?_
    refine gk_then (hK7 _ _ ?_)
    refine gc_ret ?_
    refine ret_2 rfl rfl rfl  (fun w M => ?_)
    rw [show fIsInitial F = (bP (finP (opF F)), 0) from by unfold fIsInitial; rw [askB_t hc0, (fctErr_t hc0).1]]; exact ⟨rfl, M.1⟩
set_option maxHeartbeats 1000000 in
set_option maxRecDepth 100000 in
theorem impl_IsInitial (w : World) (v : Value) (F : Fct) (h : RdF w v F) :
    Calls Tryz.prog 36 #[v] w (RetBI w (fIsInitial F).1 (fIsInitial F).2) := by
  have h0 := h
  obtain ⟨vx1, vx2, vx3, vx4, vx5, vx6, vx7, vx8, vx9, vx10, vk1, vk2, vk3, vk4, vk5, vk6, vk7, vk8, vk9, vk10, rfl, h1, h2, h3, h4, h5, h6, h7, h8, h9, h10⟩ := h.lists
  have hcas : (fIsFunctor F = true ∧ fOppositeFunctor F = (opF F, 0)) ∨ (fIsFunctor F = false ∧ fOppositeFunctor F = (fct0, 1)) := by
    cases hI : fIsFunctor F with
    | true => exact .inl ⟨rfl, opf_t hI⟩
    | false => exact .inr ⟨rfl, opf_f hI⟩
  go_enter Tryz.func36, Tryz.ntmps36
  refine gc_enter (N := 16) rfl (look_cons (k := 0) rfl (look_nil _)) ?_
  refine gc_seq fun K1 hK1 => ?_
  refine gc_region ?_
  refine g_op (.free rfl) fun K3 hK3 => ?_
  refine go_box rfl rfl rfl rfl rfl ?_
  intro B2
  refine hK3 _ _ ?_
  refine g_v (.free rfl) rfl rfl (qt_assign rfl rfl) ?_
  refine g_v (.free rfl) rfl rfl (qt_assign rfl rfl) ?_
  refine g_nil ?_
  refine gk_then (hK1 _ _ ?_)
  refine gc_seq fun K4 hK4 => ?_
  refine gc_region ?_
  refine g_v (.free rfl) rfl rfl (qt_loadS (n := 0) rfl rfl Tryz.underlying31 rfl (by kernel_rfl) rfl) ?_
  refine g_op (.free rfl) fun K6 hK6 => ?_
  refine go_callFI rfl rfl rfl Tryz.func71 rfl (by decide) rfl (fun w M => impl_OppositeFunctor w _ _ (mem_rdF M h0)) ?_
  intro fx1_5 fk1_5 fx2_5 fk2_5 fx3_5 fk3_5 fx4_5 fk4_5 fx5_5 fk5_5 fx6_5 fk6_5 fx7_5 fk7_5 fx8_5 fk8_5 fx9_5 fk9_5 fx10_5 fk10_5 us5 ut5
  refine hK6 _ _ ?_
  refine g_v (.free rfl) rfl rfl (qt_move rfl rfl) ?_
  refine g_v (.free rfl) rfl rfl (qt_extract rfl rfl rfl) ?_
  refine g_v (.free rfl) rfl rfl (qt_extract rfl rfl rfl) ?_
  refine g_op (.free rfl) fun K8 hK8 => ?_
  refine go_alloc (z := (.agg #[.int .i64 0, .slice none 0 0, .slice none 0 0, .slice none 0 0, .slice none 0 0, .int .i64 0, .slice none 0 0, .slice none 0 0, .slice none 0 0, .slice none 0 0, .slice none 0 0, .slice none 0 0])) (cs := [.int .i64 0, .slice none 0 0, .slice none 0 0, .slice none 0 0, .slice none 0 0, .int .i64 0, .slice none 0 0, .slice none 0 0, .slice none 0 0, .slice none 0 0, .slice none 0 0, .slice none 0 0]) rfl rfl rfl (fun w => by kernel_rfl) rfl ?_
  intro B7
  refine hK8 _ _ ?_
  refine g_op (.free rfl) fun K9 hK9 => ?_
  refine go_storeS (n := 11) rfl rfl rfl rfl (by kernel_rfl) rfl rfl rfl ?_
  refine hK9 _ _ ?_
  refine g_v (.free rfl) rfl rfl (qt_assign rfl rfl) ?_
  refine g_nil ?_
  refine gk_then (hK4 _ _ ?_)
  refine gc_seq fun K10 hK10 => ?_
  refine gc_seq fun K11 hK11 => ?_
  rcases (hcas) with hk0 | hk1
  · skip
    obtain ⟨hI, e1⟩ := hk0
    simp only [e1]
    refine gc_region ?_
    refine g_v (.free rfl) rfl rfl (qt_move rfl rfl) ?_
    refine g_v (.free rfl) rfl rfl (qt_neq rfl rfl rfl) ?_
    refine g_nil ?_
    refine gk_then (hK11 _ _ ?_)
    refine gc_cond rfl (fun hc0 => ?_) (fun hc0 => ?_)
    · try simp only [decide_eq_true_eq, decide_eq_false_iff_not, Bool.not_eq_true', Bool.not_eq_false', Bool.not_eq_eq_eq_not, Bool.not_true, Bool.not_false, ne_eq, Decidable.not_not, Classical.not_not] at hc0
      first | exact absurd rfl hc0 | exact absurd trivial hc0
    · try simp only [decide_eq_true_eq, decide_eq_false_iff_not, Bool.not_eq_true', Bool.not_eq_false', Bool.not_eq_eq_eq_not, Bool.not_true, Bool.not_false, ne_eq, Decidable.not_not, Classical.not_not] at hc0
      refine gc_skip ?_
      refine gk_then (hK10 _ _ ?_)
      refine gc_seq fun K12 hK12 => ?_
      refine gc_region ?_
      refine g_v (.free rfl) rfl rfl (qt_loadS (n := 11) rfl rfl Tryz.underlying31 rfl (by kernel_rfl) rfl) ?_
      refine g_q (.free rfl) rfl rfl (qt_call rfl Tryz.func72 rfl (by decide) rfl (fun w M => isFinalF_any w _ (opF F) (rdF_mk ((mem_own1 (n := 1) M rfl).rd) ((mem_own1 (n := 2) M rfl).rd) ((mem_own1 (n := 3) M rfl).rd) (mem_rdU (n := 4) M rfl) ((mem_own1 (n := 5) M rfl).rd) ((mem_own1 (n := 6) M rfl).rd) ((mem_own1 (n := 7) M rfl).rd) (mem_rdU (n := 8) M rfl) ((mem_own1 (n := 9) M rfl).rd) ((mem_own1 (n := 10) M rfl).rd)) (isf_t (oq_fct (isf_of hI))))) ?_
      refine g_v (.free rfl) rfl rfl (qt_assign rfl rfl) ?_
      refine g_v (.free rfl) rfl rfl (qt_assign rfl rfl) ?_
      refine g_nil ?_
      refine gk_then (hK12 _ _ ?_)
      refine gc_ret ?_
      refine ret_2 rfl rfl rfl  (fun w M => ?_)
      rw [show fIsInitial F = (bP (finP (opF F)), 0) from by unfold fIsInitial; rw [askB_t hI, (fctErr_t hI).1]]; exact ⟨rfl, M.1⟩
  · skip
    obtain ⟨hI, e1⟩ := hk1
    simp only [e1]
    refine gc_region ?_
    refine g_v (.free rfl) rfl rfl (qt_move rfl rfl) ?_
    refine g_v (.free rfl) rfl rfl (qt_neq rfl rfl rfl) ?_
    refine g_nil ?_
    refine gk_then (hK11 _ _ ?_)
    refine gc_cond rfl (fun hc1 => ?_) (fun hc1 => ?_)
    · try simp only [decide_eq_true_eq, decide_eq_false_iff_not, Bool.not_eq_true', Bool.not_eq_false', Bool.not_eq_eq_eq_not, Bool.not_true, Bool.not_false, ne_eq, Decidable.not_not, Classical.not_not] at hc1
      refine gc_seq fun K13 hK13 => ?_
      refine gc_region ?_
      refine g_v (.free rfl) rfl rfl (qt_move rfl rfl) ?_
      refine g_v (.free rfl) rfl rfl (qt_assign rfl rfl) ?_
      refine g_v (.free rfl) rfl rfl (qt_assign rfl rfl) ?_
      refine g_nil ?_
      refine gk_then (hK13 _ _ ?_)
      refine gc_ret ?_
      refine gk_then_ret ?_
      refine ret_2 rfl rfl rfl  (fun w M => ?_)
      rw [show fIsInitial F = (false, 1) from by unfold fIsInitial; rw [askB_f hI, (fctErr_f hI).1]]; exact ⟨rfl, M.1⟩
    · try simp only [decide_eq_true_eq, decide_eq_false_iff_not, Bool.not_eq_true', Bool.not_eq_false', Bool.not_eq_eq_eq_not, Bool.not_true, Bool.not_false, ne_eq, Decidable.not_not, Classical.not_not] at hc1
      first | exact absurd hc1 (by decide) | simp at hc1
end Go.Proofs.YtpcabkdkdnchaaaGreat
