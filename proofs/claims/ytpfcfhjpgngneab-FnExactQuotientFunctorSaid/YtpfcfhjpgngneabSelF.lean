
/- The identity functor: both sides. -/
import Derived.Test.YtpfcfhjpgngneabFunM
import Derived.Test.YtpfcfhjpgngneabFunL
set_option linter.unusedSimpArgs false
set_option linter.unusedVariables false
set_option linter.unusedSectionVars false
namespace Go.Proofs.Ytpfcfhjpgngneab
open Go.RowKit


noncomputable def fIdentityFunctor (c : Cat) : Fct × Int := if fIsCategory c = true then (selfF c, 0) else (fct0, 1)
theorem idf_t {c : Cat} (h : fIsCategory c = true) : fIdentityFunctor c = (selfF c, 0) := if_pos h
theorem idf_f {c : Cat} (h : ¬ fIsCategory c = true) : fIdentityFunctor c = (fct0, 1) := if_neg h
theorem bound_IdentityFunctor (c : Cat) : mzF (fIdentityFunctor c).1 ≤ 3500000000000000 := by
  by_cases hI : fIsCategory c = true
  · have h1 := mz_cat hI
    have hS := (isCat_of hI).toShapeP
    have hob8 := hS.ob8; have hn40 := hS.n40
    rw [idf_t hI]
    show mzC c + mzC c + (numL _).length + (numL _).length ≤ _
    rw [numL_len, numL_len]; omega
  · rw [idf_f hI]; decide

set_option maxHeartbeats 1000000 in
set_option maxRecDepth 100000 in
theorem specSelf_any (w : World) (v : Value) (c : Cat) (h : RdC w v c) (hS : ShapeP c) :
    Calls Try.prog 82 #[v] w (RetFn w (selfF c)) := by
  have h0 := h
  obtain ⟨va, vb, vc, vd, ve, vf, vg, vh, rfl, h1, h2, h3, h4, _⟩ := h.lists
  have hob0 := hS.ob0; have hob8 := hS.ob8; have hn40 := hS.n40
  go_enter Try.func82, Try.ntmps82
  refine gc_enter (N := 35) rfl (look_cons (k := 0) rfl (look_nil _)) ?_
  refine gc_seq fun K1 hK1 => ?_
  refine gc_region ?_
  refine g_op (.free rfl) fun K3 hK3 => ?_
  refine go_box rfl rfl rfl rfl rfl ?_
  intro B2
  refine hK3 _ _ ?_
  refine g_op (.free rfl) fun K5 hK5 => ?_
  refine go_alloc (z := (.agg #[.int .i64 0, .slice none 0 0, .slice none 0 0, .slice none 0 0, .slice none 0 0, .int .i64 0, .slice none 0 0, .slice none 0 0, .slice none 0 0, .slice none 0 0, .slice none 0 0, .slice none 0 0])) (cs := [.int .i64 0, .slice none 0 0, .slice none 0 0, .slice none 0 0, .slice none 0 0, .int .i64 0, .slice none 0 0, .slice none 0 0, .slice none 0 0, .slice none 0 0, .slice none 0 0, .slice none 0 0]) rfl rfl rfl (fun w => by kernel_rfl) rfl ?_
  intro B4
  refine hK5 _ _ ?_
  refine g_nil ?_
  refine gk_then (hK1 _ _ ?_)
  refine gc_seq fun K6 hK6 => ?_
  refine gc_region ?_
  refine g_op (.free rfl) fun K8 hK8 => ?_
  refine go_slice0 rfl rfl rfl Try.underlying22 ?_
  intro B7
  refine hK8 _ _ ?_
  refine g_op (.free rfl) fun K10 hK10 => ?_
  refine go_slice0 rfl rfl rfl Try.underlying22 ?_
  intro B9
  refine hK10 _ _ ?_
  refine g_v (.free rfl) rfl rfl (qt_assign rfl rfl) ?_
  refine g_v (.free rfl) rfl rfl (qt_assign rfl rfl) ?_
  refine g_nil ?_
  refine gk_then (hK6 _ _ ?_)
  refine gc_seq fun K11 hK11 => ?_
  refine gc_seq fun K12 hK12 => ?_
  refine gc_region ?_
  refine g_v (.free rfl) rfl rfl (qt_assign rfl rfl) ?_
  refine g_nil ?_
  refine gk_then (hK12 _ _ ?_)
  refine gc_block ?_
  try simp only [List.nil_append, List.cons_append, List.append_assoc, List.set_cons_succ, List.set_cons_zero]
  refine gc_loop ([(0, _), (1, _), (2, _), (4, _)] : Env) (fun s : Nat × (Option Addr) × Nat => (fun (k : Nat) (a : Option Addr) (q : Nat) => ([(3, .slice a (numL k).length q), (5, .int .i64 (k : Int))] : Env)) s.1 s.2.1 s.2.2) (fun s : Nat × (Option Addr) × Nat => (fun (k : Nat) (a : Option Addr) (q : Nat) => ([(2, own1I (.slice a (numL k).length q) (numL k))] : List (Nat × Itm))) s.1 s.2.1 s.2.2) (fun s : Nat × (Option Addr) × Nat => (fun (k : Nat) (a : Option Addr) (q : Nat) => k ≤ c.ob.toNat) s.1 s.2.1 s.2.2) (fun s : Nat × (Option Addr) × Nat => (fun (k : Nat) (a : Option Addr) (q : Nat) => c.ob.toNat - k) s.1 s.2.1 s.2.2) (0, _, _) (sub_cons rfl (sub_cons rfl (sub_cons rfl (sub_cons rfl (sub_cons rfl (sub_cons rfl sub_nil)))))) rfl (Nat.zero_le _) ?_
  rintro ⟨k, a, q⟩ hinv KL13 hKL13
  simp only [updL, List.foldl_cons, List.foldl_nil, List.set_cons_succ, List.set_cons_zero, List.cons_append, List.nil_append] at hinv hKL13 ⊢
  have hk := hinv
  have hl := numL_len k
  refine gc_seq fun K14 hK14 => ?_
  refine gc_seq fun K15 hK15 => ?_
  refine gc_region ?_
  refine g_v (.free rfl) rfl rfl (qt_move rfl rfl) ?_
  refine g_v (.free rfl) rfl rfl (qt_field (z := 0) (off := 0) rfl rfl Try.underlying29 rfl (by kernel_rfl) rfl) ?_
  refine g_v (.free rfl) rfl rfl (qt_loadB (n := 0) rfl rfl Try.underlying2 rfl rfl rfl) ?_
  refine g_v (.free rfl) rfl rfl (qt_lss rfl rfl rfl) ?_
  refine g_nil ?_
  refine gk_then (hK15 _ _ ?_)
  refine gc_cond rfl (fun hc0 => ?_) (fun hc0 => ?_)
  · try simp only [decide_eq_true_eq, decide_eq_false_iff_not, Bool.not_eq_true', Bool.not_eq_false', Bool.not_eq_eq_eq_not, Bool.not_true, Bool.not_false, ne_eq, Decidable.not_not, Classical.not_not] at hc0
    refine gc_skip ?_
    refine gk_then (hK14 _ _ ?_)
    refine gc_seq fun K16 hK16 => ?_
    refine gc_block ?_
    refine gc_region ?_
    refine g_v (.free rfl) rfl rfl (qt_move rfl rfl) ?_
    refine g_v (.free rfl) rfl rfl (qt_move rfl rfl) ?_
    refine g_op (.free rfl) fun K18 hK18 => ?_
    refine go_slice1 rfl rfl rfl rfl Try.underlying22 ?_
    intro B17
    refine hK18 _ _ ?_
    refine g_op (.free rfl) fun K20 hK20 => ?_
    refine go_append (n := 2) (m := 4) rfl rfl rfl Try.underlying22 rfl rfl rfl rfl (by omega) ?_
    intro va19 vc19
    refine hK20 _ _ ?_
    refine g_v (.free rfl) rfl rfl (qt_assign rfl rfl) ?_
    refine g_nil ?_
    refine gk_block ?_
    refine gk_then (hK16 _ _ ?_)
    refine gc_region ?_
    refine g_v (.free rfl) rfl rfl (qt_move rfl rfl) ?_
    refine g_v (.free rfl) rfl rfl (qt_add rfl rfl rfl (by omega)) ?_
    refine g_v (.free rfl) rfl rfl (qt_assign rfl rfl) ?_
    refine g_nil ?_
    simp only [numL_succ]
    refine gk_then (gk_take 4 ?_)
    refine gk_sub ?hs_21 (hKL13 (k + 1, _, _) ?hi_21 ?hm_21)
    case hs_21 => exact (sub_cons rfl (sub_cons rfl (sub_cons rfl (sub_cons rfl (sub_cons rfl (sub_cons rfl sub_nil))))))
    case hi_21 => omega
    case hm_21 => omega
  · try simp only [decide_eq_true_eq, decide_eq_false_iff_not, Bool.not_eq_true', Bool.not_eq_false', Bool.not_eq_eq_eq_not, Bool.not_true, Bool.not_false, ne_eq, Decidable.not_not, Classical.not_not] at hc0
    refine gc_exit ?_
    refine gk_then_exit ?_
    refine gk_then_exit ?_
    refine gk_block_hit ?_
    refine gk_then (hK11 _ _ ?_)
    refine gc_seq fun K22 hK22 => ?_
    refine gc_seq fun K23 hK23 => ?_
    obtain rfl : k = c.ob.toNat := by omega
    refine gc_region ?_
    refine g_v (.free rfl) rfl rfl (qt_assign rfl rfl) ?_
    refine g_nil ?_
    refine gk_then (hK23 _ _ ?_)
    refine gc_block ?_
    try simp only [List.nil_append, List.cons_append, List.append_assoc, List.set_cons_succ, List.set_cons_zero]
    refine gc_loop ([(0, _), (1, _), (2, _), (3, _), (5, _), (12, _)] : Env) (fun s : Nat × (Option Addr) × Nat => (fun (k : Nat) (a : Option Addr) (q : Nat) => ([(4, .slice a (numL k).length q), (6, .int .i64 (k : Int))] : Env)) s.1 s.2.1 s.2.2) (fun s : Nat × (Option Addr) × Nat => (fun (k : Nat) (a : Option Addr) (q : Nat) => ([(3, own1I (.slice a (numL k).length q) (numL k))] : List (Nat × Itm))) s.1 s.2.1 s.2.2) (fun s : Nat × (Option Addr) × Nat => (fun (k : Nat) (a : Option Addr) (q : Nat) => k ≤ c.s.length) s.1 s.2.1 s.2.2) (fun s : Nat × (Option Addr) × Nat => (fun (k : Nat) (a : Option Addr) (q : Nat) => c.s.length - k) s.1 s.2.1 s.2.2) (0, _, _) (sub_cons rfl (sub_cons rfl (sub_cons rfl (sub_cons rfl (sub_cons rfl (sub_cons rfl (sub_cons rfl (sub_cons rfl sub_nil)))))))) rfl (Nat.zero_le _) ?_
    rintro ⟨k, a, q⟩ hinv KL24 hKL24
    simp only [updL, List.foldl_cons, List.foldl_nil, List.set_cons_succ, List.set_cons_zero, List.cons_append, List.nil_append] at hinv hKL24 ⊢
    have hk := hinv
    have hl := numL_len k
    refine gc_seq fun K25 hK25 => ?_
    refine gc_seq fun K26 hK26 => ?_
    refine gc_region ?_
    refine g_v (.free rfl) rfl rfl (qt_move rfl rfl) ?_
    refine g_v (.free rfl) rfl rfl (qt_field (z := 0) (off := 1) rfl rfl Try.underlying29 rfl (by kernel_rfl) rfl) ?_
    refine g_v (.free rfl) rfl rfl (qt_loadB (n := 0) rfl rfl Try.underlying22 rfl rfl rfl) ?_
    refine g_v (.free rfl) rfl rfl (qt_len rfl rfl ulE1 (fun w M => lenV_rd h1)) ?_
    refine g_v (.free rfl) rfl rfl (qt_lss rfl rfl rfl) ?_
    refine g_nil ?_
    refine gk_then (hK26 _ _ ?_)
    refine gc_cond rfl (fun hc1 => ?_) (fun hc1 => ?_)
    · try simp only [decide_eq_true_eq, decide_eq_false_iff_not, Bool.not_eq_true', Bool.not_eq_false', Bool.not_eq_eq_eq_not, Bool.not_true, Bool.not_false, ne_eq, Decidable.not_not, Classical.not_not] at hc1
      refine gc_skip ?_
      refine gk_then (hK25 _ _ ?_)
      refine gc_seq fun K27 hK27 => ?_
      refine gc_block ?_
      refine gc_region ?_
      refine g_v (.free rfl) rfl rfl (qt_move rfl rfl) ?_
      refine g_v (.free rfl) rfl rfl (qt_move rfl rfl) ?_
      refine g_op (.free rfl) fun K29 hK29 => ?_
      refine go_slice1 rfl rfl rfl rfl Try.underlying22 ?_
      intro B28
      refine hK29 _ _ ?_
      refine g_op (.free rfl) fun K31 hK31 => ?_
      refine go_append (n := 3) (m := 4) rfl rfl rfl Try.underlying22 rfl rfl rfl rfl (by omega) ?_
      intro va30 vc30
      refine hK31 _ _ ?_
      refine g_v (.free rfl) rfl rfl (qt_assign rfl rfl) ?_
      refine g_nil ?_
      refine gk_block ?_
      refine gk_then (hK27 _ _ ?_)
      refine gc_region ?_
      refine g_v (.free rfl) rfl rfl (qt_move rfl rfl) ?_
      refine g_v (.free rfl) rfl rfl (qt_add rfl rfl rfl (by omega)) ?_
      refine g_v (.free rfl) rfl rfl (qt_assign rfl rfl) ?_
      refine g_nil ?_
      simp only [numL_succ]
      refine gk_then (gk_take 4 ?_)
      refine gk_sub ?hs_32 (hKL24 (k + 1, _, _) ?hi_32 ?hm_32)
      case hs_32 => exact (sub_cons rfl (sub_cons rfl (sub_cons rfl (sub_cons rfl (sub_cons rfl (sub_cons rfl (sub_cons rfl (sub_cons rfl sub_nil))))))))
      case hi_32 => omega
      case hm_32 => omega
    · try simp only [decide_eq_true_eq, decide_eq_false_iff_not, Bool.not_eq_true', Bool.not_eq_false', Bool.not_eq_eq_eq_not, Bool.not_true, Bool.not_false, ne_eq, Decidable.not_not, Classical.not_not] at hc1
      refine gc_exit ?_
      refine gk_then_exit ?_
      refine gk_then_exit ?_
      refine gk_block_hit ?_
      refine gk_then (hK22 _ _ ?_)
      refine gc_seq fun K33 hK33 => ?_
      obtain rfl : k = c.s.length := by omega
      refine gc_region ?_
      refine g_v (.free rfl) rfl rfl (qt_loadS (n := 0) rfl rfl Try.underlying29 rfl (by kernel_rfl) rfl) ?_
      refine g_v (.free rfl) rfl rfl (qt_loadS (n := 0) rfl rfl Try.underlying29 rfl (by kernel_rfl) rfl) ?_
      refine g_v (.free rfl) rfl rfl (qt_move rfl rfl) ?_
      refine g_v (.free rfl) rfl rfl (qt_move rfl rfl) ?_
      refine g_op (.free rfl) fun K35 hK35 => ?_
      refine go_callFn rfl rfl rfl Try.func56 rfl (by decide) rfl (fun w M => specMakeF_any w _ _ (mem_rdC M h0) _ _ (mem_rdC M h0) _ _ _ _ ((mem_own1 (n := 2) M rfl).rd) ((mem_own1 (n := 3) M rfl).rd)) ?_
      intro fx1_34 fk1_34 fx2_34 fk2_34 fx3_34 fk3_34 fx4_34 fk4_34 fx5_34 fk5_34 fx6_34 fk6_34 fx7_34 fk7_34 fx8_34 fk8_34 fx9_34 fk9_34 fx10_34 fk10_34 us34 ut34
      refine hK35 _ _ ?_
      refine g_op (.free rfl) fun K36 hK36 => ?_
      refine go_storeS (n := 1) rfl rfl rfl rfl (by kernel_rfl) rfl rfl rfl ?_
      refine hK36 _ _ ?_
      refine g_nil ?_
      refine gk_then (hK33 _ _ ?_)
      refine gc_ret ?_
      refine ret_S (n := 1) rfl rfl Try.underlying31 rfl (by kernel_rfl) rfl (fun w M => ?_)
      exact retFn_star (F := selfF c) (mem_block 4 10 (M))

end Go.Proofs.Ytpfcfhjpgngneab
