
/- Constant functors: both sides. -/
import Derived.Test.YtpfcfhjpgngneaaFunM
import Derived.Test.YtpfcfhjpgngneaaFunL
import Derived.Test.YtpfcfhjpgngneaaTwo2
import Derived.Test.YtpfcfhjpgngneaaRep
set_option linter.unusedSimpArgs false
set_option linter.unusedVariables false
set_option linter.unusedSectionVars false
namespace Go.Proofs.Ytpfcfhjpgngneaa
open Go.RowKit


def conL (y : Int) (n : Nat) : List Int := List.replicate n y
theorem conL_len (y : Int) (n : Nat) : (conL y n).length = n := List.length_replicate
theorem conL_succ (y : Int) (n : Nat) : conL y n ++ [y] = conL y (n + 1) := (List.replicate_succ' ..).symm
noncomputable def constF (c d : Cat) (y : Int) : Fct := ⟨c, d, conL y c.ob.toNat, conL (at0 d.e y) c.s.length⟩
noncomputable def fConstantFunctor (c d : Cat) (y : Int) : Fct × Int := if twoErr c d = 0 then (if bP (0 ≤ y ∧ y < d.ob) = true then (constF c d y, 0) else (fct0, 2)) else (fct0, 1)
theorem cof_t {c d : Cat} {y : Int} (h : twoErr c d = 0) (hy : 0 ≤ y ∧ y < d.ob) : fConstantFunctor c d y = (constF c d y, 0) := by unfold fConstantFunctor; rw [if_pos h, if_pos (bP_t hy)]
theorem cof_r {c d : Cat} {y : Int} (h : twoErr c d = 0) (hy : ¬ (0 ≤ y ∧ y < d.ob)) : fConstantFunctor c d y = (fct0, 2) := by unfold fConstantFunctor; rw [if_pos h, if_neg (by rw [bP_f hy]; decide)]
theorem cof_f {c d : Cat} {y : Int} (h : ¬ twoErr c d = 0) : fConstantFunctor c d y = (fct0, 1) := if_neg h
theorem bound_ConstantFunctor (c d : Cat) (y : Int) : mzF (fConstantFunctor c d y).1 ≤ 3500000000000000 := by
  by_cases h : twoErr c d = 0
  · by_cases h' : 0 ≤ y ∧ y < d.ob
    · have hh := twoErr_0 h
      have h1 := mz_cat hh.1; have h2 := mz_cat hh.2
      have sc := (isCat_of hh.1).toShapeP; have c1 := sc.ob8; have c2 := sc.n40
      rw [cof_t h h']
      show mzC c + mzC d + (conL _ _).length + (conL _ _).length ≤ _
      rw [conL_len, conL_len]; omega
    · rw [cof_r h h']; show mzF fct0 ≤ _; decide
  · rw [cof_f h]; show mzF fct0 ≤ _; decide

set_option maxHeartbeats 1000000 in
set_option maxRecDepth 100000 in
theorem l02ObjectF_any (w : World) (v : Value) (c : Cat) (x : Int) (h : RdC w v c) :
    Calls Try.prog 69 #[v, .int .i64 x] w (RetB w (bP (0 ≤ x ∧ x < c.ob))) := by
  have h0 := h
  obtain ⟨va, vb, vc, vd, ve, vf, vg, vh, rfl, h1, h2, h3, h4, _⟩ := h.lists
  go_enter Try.func69, Try.ntmps69
  refine gc_enter (N := 13) rfl (look_cons (k := 0) rfl (look_cons (k := 1) rfl (look_nil _))) ?_
  refine gc_seq fun K1 hK1 => ?_
  refine gc_region ?_
  refine g_op (.free rfl) fun K3 hK3 => ?_
  refine go_box rfl rfl rfl rfl rfl ?_
  intro B2
  refine hK3 _ _ ?_
  refine g_v (.free rfl) rfl rfl (qt_assign rfl rfl) ?_
  refine g_nil ?_
  refine gk_then (hK1 _ _ ?_)
  refine gc_seq fun K4 hK4 => ?_
  refine gc_region ?_
  refine g_v (.free rfl) rfl rfl (qt_move rfl rfl) ?_
  refine g_v (.free rfl) rfl rfl (qt_geq rfl rfl rfl) ?_
  refine g_splitv (.free rfl) rfl rfl (qt_move rfl rfl) (fun hs1_2 => ?_) (fun hs1_2 => ?_)
  · try simp only [decide_eq_true_eq, decide_eq_false_iff_not, Bool.not_eq_true', Bool.not_eq_false', Bool.not_eq_eq_eq_not, Bool.not_true, Bool.not_false, ne_eq, Decidable.not_not, Classical.not_not] at hs1_2
    refine g_v (.held _ _ _ rfl rfl rfl) rfl rfl (qt_move rfl rfl) ?_
    refine g_v (.held _ _ _ rfl rfl rfl) rfl rfl (qt_field (z := 0) (off := 0) rfl rfl Try.underlying30 rfl (by kernel_rfl) rfl) ?_
    refine g_v (.held _ _ _ rfl rfl rfl) rfl rfl (qt_loadB (n := 0) rfl rfl Try.underlying2 rfl rfl rfl) ?_
    refine g_v (.held _ _ _ rfl rfl rfl) rfl rfl (qt_lss rfl rfl rfl) ?_
    refine g_v (.free rfl) rfl rfl (qt_pick_t rfl rfl rfl) ?_
    refine g_v (.free rfl) rfl rfl (qt_assign rfl rfl) ?_
    refine g_nil ?_
    refine gk_then (hK4 _ _ ?_)
    refine gc_ret ?_
    refine ret_1 rfl rfl  (fun w M => ?_)
    rw [bP_dec]; exact ⟨by first | rfl | (congr 2; simp; omega), M.1⟩
  · try simp only [decide_eq_true_eq, decide_eq_false_iff_not, Bool.not_eq_true', Bool.not_eq_false', Bool.not_eq_eq_eq_not, Bool.not_true, Bool.not_false, ne_eq, Decidable.not_not, Classical.not_not] at hs1_2
    refine g_skip (.not _ _ _ _ rfl rfl rfl rfl) rfl rfl ?_
    refine g_skip (.not _ _ _ _ rfl rfl rfl rfl) rfl rfl ?_
    refine g_skip (.not _ _ _ _ rfl rfl rfl rfl) rfl rfl ?_
    refine g_skip (.not _ _ _ _ rfl rfl rfl rfl) rfl rfl ?_
    refine g_v (.free rfl) rfl rfl (qt_pick_f rfl rfl rfl) ?_
    refine g_v (.free rfl) rfl rfl (qt_assign rfl rfl) ?_
    refine g_nil ?_
    refine gk_then (hK4 _ _ ?_)
    refine gc_ret ?_
    refine ret_1 rfl rfl  (fun w M => ?_)
    rw [bP_f (by omega)]; exact ⟨rfl, M.1⟩

set_option maxHeartbeats 1000000 in
set_option maxRecDepth 100000 in
theorem specConst_any (w : World) (v : Value) (c : Cat) (u : Value) (d : Cat) (y : Int) (h : RdC w v c) (e : RdC w u d) (hS : ShapeP c) (gS : ShapeP d) (hy : 0 ≤ y ∧ y < d.ob) :
    Calls Try.prog 70 #[v, u, .int .i64 y] w (RetFn w (constF c d y)) := by
  have h0 := h
  obtain ⟨va, vb, vc, vd, ve, vf, vg, vh, rfl, h1, h2, h3, h4, _⟩ := h.lists
  have e0 := e
  obtain ⟨ua, ub, uc, ud, ue, uf, ug, uh, rfl, e1, e2, e3, e4, _⟩ := e.lists
  have hob0 := hS.ob0; have hob8 := hS.ob8; have hn40 := hS.n40; have gel := gS.el; have gob8 := gS.ob8
  go_enter Try.func70, Try.ntmps70
  refine gc_enter (N := 43) rfl (look_cons (k := 0) rfl (look_cons (k := 1) rfl (look_cons (k := 2) rfl (look_nil _)))) ?_
  refine gc_seq fun K1 hK1 => ?_
  refine gc_region ?_
  refine g_op (.free rfl) fun K3 hK3 => ?_
  refine go_box rfl rfl rfl rfl rfl ?_
  intro B2
  refine hK3 _ _ ?_
  refine g_op (.free rfl) fun K5 hK5 => ?_
  refine go_box rfl rfl rfl rfl rfl ?_
  intro B4
  refine hK5 _ _ ?_
  refine g_op (.free rfl) fun K7 hK7 => ?_
  refine go_alloc (z := (.agg #[.int .i64 0, .slice none 0 0, .slice none 0 0, .slice none 0 0, .slice none 0 0, .int .i64 0, .slice none 0 0, .slice none 0 0, .slice none 0 0, .slice none 0 0, .slice none 0 0, .slice none 0 0])) (cs := [.int .i64 0, .slice none 0 0, .slice none 0 0, .slice none 0 0, .slice none 0 0, .int .i64 0, .slice none 0 0, .slice none 0 0, .slice none 0 0, .slice none 0 0, .slice none 0 0, .slice none 0 0]) rfl rfl rfl (fun w => by kernel_rfl) rfl ?_
  intro B6
  refine hK7 _ _ ?_
  refine g_nil ?_
  refine gk_then (hK1 _ _ ?_)
  refine gc_seq fun K8 hK8 => ?_
  refine gc_region ?_
  refine g_op (.free rfl) fun K10 hK10 => ?_
  refine go_slice0 rfl rfl rfl Try.underlying22 ?_
  intro B9
  refine hK10 _ _ ?_
  refine g_op (.free rfl) fun K12 hK12 => ?_
  refine go_slice0 rfl rfl rfl Try.underlying22 ?_
  intro B11
  refine hK12 _ _ ?_
  refine g_v (.free rfl) rfl rfl (qt_assign rfl rfl) ?_
  refine g_v (.free rfl) rfl rfl (qt_assign rfl rfl) ?_
  refine g_nil ?_
  refine gk_then (hK8 _ _ ?_)
  refine gc_seq fun K13 hK13 => ?_
  refine gc_seq fun K14 hK14 => ?_
  refine gc_region ?_
  refine g_v (.free rfl) rfl rfl (qt_assign rfl rfl) ?_
  refine g_nil ?_
  refine gk_then (hK14 _ _ ?_)
  refine gc_block ?_
  try simp only [List.nil_append, List.cons_append, List.append_assoc, List.set_cons_succ, List.set_cons_zero]
  refine gc_loop ([(0, _), (1, _), (2, _), (3, _), (4, _), (6, _), (8, _)] : Env) (fun s : Nat × (Option Addr) × Nat => (fun (k : Nat) (a : Option Addr) (q : Nat) => ([(7, .slice a (conL y k).length q), (9, .int .i64 (k : Int))] : Env)) s.1 s.2.1 s.2.2) (fun s : Nat × (Option Addr) × Nat => (fun (k : Nat) (a : Option Addr) (q : Nat) => ([(3, own1I (.slice a (conL y k).length q) (conL y k))] : List (Nat × Itm))) s.1 s.2.1 s.2.2) (fun s : Nat × (Option Addr) × Nat => (fun (k : Nat) (a : Option Addr) (q : Nat) => k ≤ c.ob.toNat) s.1 s.2.1 s.2.2) (fun s : Nat × (Option Addr) × Nat => (fun (k : Nat) (a : Option Addr) (q : Nat) => c.ob.toNat - k) s.1 s.2.1 s.2.2) (0, _, _) (sub_cons rfl (sub_cons rfl (sub_cons rfl (sub_cons rfl (sub_cons rfl (sub_cons rfl (sub_cons rfl (sub_cons rfl (sub_cons rfl sub_nil))))))))) rfl (Nat.zero_le _) ?_
  rintro ⟨k, a, q⟩ hinv KL15 hKL15
  simp only [updL, List.foldl_cons, List.foldl_nil, List.set_cons_succ, List.set_cons_zero, List.cons_append, List.nil_append] at hinv hKL15 ⊢
  have hk := hinv
  have hl := conL_len y k
  refine gc_seq fun K16 hK16 => ?_
  refine gc_seq fun K17 hK17 => ?_
  refine gc_region ?_
  refine g_v (.free rfl) rfl rfl (qt_move rfl rfl) ?_
  refine g_v (.free rfl) rfl rfl (qt_field (z := 0) (off := 0) rfl rfl Try.underlying30 rfl (by kernel_rfl) rfl) ?_
  refine g_v (.free rfl) rfl rfl (qt_loadB (n := 0) rfl rfl Try.underlying2 rfl rfl rfl) ?_
  refine g_v (.free rfl) rfl rfl (qt_lss rfl rfl rfl) ?_
  refine g_nil ?_
  refine gk_then (hK17 _ _ ?_)
  refine gc_cond rfl (fun hc0 => ?_) (fun hc0 => ?_)
  · try simp only [decide_eq_true_eq, decide_eq_false_iff_not, Bool.not_eq_true', Bool.not_eq_false', Bool.not_eq_eq_eq_not, Bool.not_true, Bool.not_false, ne_eq, Decidable.not_not, Classical.not_not] at hc0
    refine gc_skip ?_
    refine gk_then (hK16 _ _ ?_)
    refine gc_seq fun K18 hK18 => ?_
    refine gc_block ?_
    refine gc_region ?_
    refine g_v (.free rfl) rfl rfl (qt_move rfl rfl) ?_
    refine g_v (.free rfl) rfl rfl (qt_move rfl rfl) ?_
    refine g_op (.free rfl) fun K20 hK20 => ?_
    refine go_slice1 rfl rfl rfl rfl Try.underlying22 ?_
    intro B19
    refine hK20 _ _ ?_
    refine g_op (.free rfl) fun K22 hK22 => ?_
    refine go_append (n := 3) (m := 5) rfl rfl rfl Try.underlying22 rfl rfl rfl rfl (by omega) ?_
    intro va21 vc21
    refine hK22 _ _ ?_
    refine g_v (.free rfl) rfl rfl (qt_assign rfl rfl) ?_
    refine g_nil ?_
    refine gk_block ?_
    refine gk_then (hK18 _ _ ?_)
    refine gc_region ?_
    refine g_v (.free rfl) rfl rfl (qt_move rfl rfl) ?_
    refine g_v (.free rfl) rfl rfl (qt_add rfl rfl rfl (by omega)) ?_
    refine g_v (.free rfl) rfl rfl (qt_assign rfl rfl) ?_
    refine g_nil ?_
    simp only [conL_succ]
    refine gk_then (gk_take 5 ?_)
    refine gk_sub ?hs_23 (hKL15 (k + 1, _, _) ?hi_23 ?hm_23)
    case hs_23 => exact (sub_cons rfl (sub_cons rfl (sub_cons rfl (sub_cons rfl (sub_cons rfl (sub_cons rfl (sub_cons rfl (sub_cons rfl (sub_cons rfl sub_nil)))))))))
    case hi_23 => omega
    case hm_23 => omega
  · try simp only [decide_eq_true_eq, decide_eq_false_iff_not, Bool.not_eq_true', Bool.not_eq_false', Bool.not_eq_eq_eq_not, Bool.not_true, Bool.not_false, ne_eq, Decidable.not_not, Classical.not_not] at hc0
    refine gc_exit ?_
    refine gk_then_exit ?_
    refine gk_then_exit ?_
    refine gk_block_hit ?_
    refine gk_then (hK13 _ _ ?_)
    refine gc_seq fun K24 hK24 => ?_
    refine gc_seq fun K25 hK25 => ?_
    obtain rfl : k = c.ob.toNat := by omega
    refine gc_region ?_
    refine g_v (.free rfl) rfl rfl (qt_assign rfl rfl) ?_
    refine g_nil ?_
    refine gk_then (hK25 _ _ ?_)
    refine gc_block ?_
    try simp only [List.nil_append, List.cons_append, List.append_assoc, List.set_cons_succ, List.set_cons_zero]
    refine gc_loop ([(0, _), (1, _), (2, _), (3, _), (4, _), (6, _), (7, _), (9, _), (16, _)] : Env) (fun s : Nat × (Option Addr) × Nat => (fun (k : Nat) (a : Option Addr) (q : Nat) => ([(8, .slice a (conL (at0 d.e y) k).length q), (10, .int .i64 (k : Int))] : Env)) s.1 s.2.1 s.2.2) (fun s : Nat × (Option Addr) × Nat => (fun (k : Nat) (a : Option Addr) (q : Nat) => ([(4, own1I (.slice a (conL (at0 d.e y) k).length q) (conL (at0 d.e y) k))] : List (Nat × Itm))) s.1 s.2.1 s.2.2) (fun s : Nat × (Option Addr) × Nat => (fun (k : Nat) (a : Option Addr) (q : Nat) => k ≤ c.s.length) s.1 s.2.1 s.2.2) (fun s : Nat × (Option Addr) × Nat => (fun (k : Nat) (a : Option Addr) (q : Nat) => c.s.length - k) s.1 s.2.1 s.2.2) (0, _, _) (sub_cons rfl (sub_cons rfl (sub_cons rfl (sub_cons rfl (sub_cons rfl (sub_cons rfl (sub_cons rfl (sub_cons rfl (sub_cons rfl (sub_cons rfl (sub_cons rfl sub_nil))))))))))) rfl (Nat.zero_le _) ?_
    rintro ⟨k, a, q⟩ hinv KL26 hKL26
    simp only [updL, List.foldl_cons, List.foldl_nil, List.set_cons_succ, List.set_cons_zero, List.cons_append, List.nil_append] at hinv hKL26 ⊢
    have hk := hinv
    have hl := conL_len (at0 d.e y) k
    refine gc_seq fun K27 hK27 => ?_
    refine gc_seq fun K28 hK28 => ?_
    refine gc_region ?_
    refine g_v (.free rfl) rfl rfl (qt_move rfl rfl) ?_
    refine g_v (.free rfl) rfl rfl (qt_field (z := 0) (off := 1) rfl rfl Try.underlying30 rfl (by kernel_rfl) rfl) ?_
    refine g_v (.free rfl) rfl rfl (qt_loadB (n := 0) rfl rfl Try.underlying22 rfl rfl rfl) ?_
    refine g_v (.free rfl) rfl rfl (qt_len rfl rfl ulE1 (fun w M => lenV_rd h1)) ?_
    refine g_v (.free rfl) rfl rfl (qt_lss rfl rfl rfl) ?_
    refine g_nil ?_
    refine gk_then (hK28 _ _ ?_)
    refine gc_cond rfl (fun hc1 => ?_) (fun hc1 => ?_)
    · try simp only [decide_eq_true_eq, decide_eq_false_iff_not, Bool.not_eq_true', Bool.not_eq_false', Bool.not_eq_eq_eq_not, Bool.not_true, Bool.not_false, ne_eq, Decidable.not_not, Classical.not_not] at hc1
      refine gc_skip ?_
      refine gk_then (hK27 _ _ ?_)
      refine gc_seq fun K29 hK29 => ?_
      refine gc_block ?_
      refine gc_region ?_
      refine g_v (.free rfl) rfl rfl (qt_move rfl rfl) ?_
      refine g_v (.free rfl) rfl rfl (qt_field (z := 0) (off := 3) rfl rfl Try.underlying30 rfl (by kernel_rfl) rfl) ?_
      refine g_v (.free rfl) rfl rfl (qt_loadB (n := 1) rfl rfl Try.underlying22 rfl rfl rfl) ?_
      refine g_v (.free rfl) rfl rfl (qt_move rfl rfl) ?_
      refine g_v (.free rfl) rfl rfl (qt_index rfl rfl rfl ulE1 szE1 (fun w M => lenA_rd e3) (by omega) (by omega)) ?_
      refine g_v (.free rfl) rfl rfl (qt_load1 rfl rfl Try.underlying2 rfl (fun w M => mem_rd M e3) (by omega) (by omega)) ?_
      refine g_op (.free rfl) fun K31 hK31 => ?_
      refine go_slice1 rfl rfl rfl rfl Try.underlying22 ?_
      intro B30
      refine hK31 _ _ ?_
      refine g_op (.free rfl) fun K33 hK33 => ?_
      refine go_append (n := 4) (m := 5) rfl rfl rfl Try.underlying22 rfl rfl rfl rfl (by omega) ?_
      intro va32 vc32
      refine hK33 _ _ ?_
      refine g_v (.free rfl) rfl rfl (qt_assign rfl rfl) ?_
      refine g_nil ?_
      refine gk_block ?_
      refine gk_then (hK29 _ _ ?_)
      refine gc_region ?_
      refine g_v (.free rfl) rfl rfl (qt_move rfl rfl) ?_
      refine g_v (.free rfl) rfl rfl (qt_add rfl rfl rfl (by omega)) ?_
      refine g_v (.free rfl) rfl rfl (qt_assign rfl rfl) ?_
      refine g_nil ?_
      simp only [conL_succ]
      refine gk_then (gk_take 5 ?_)
      refine gk_sub ?hs_34 (hKL26 (k + 1, _, _) ?hi_34 ?hm_34)
      case hs_34 => exact (sub_cons rfl (sub_cons rfl (sub_cons rfl (sub_cons rfl (sub_cons rfl (sub_cons rfl (sub_cons rfl (sub_cons rfl (sub_cons rfl (sub_cons rfl (sub_cons rfl sub_nil)))))))))))
      case hi_34 => omega
      case hm_34 => omega
    · try simp only [decide_eq_true_eq, decide_eq_false_iff_not, Bool.not_eq_true', Bool.not_eq_false', Bool.not_eq_eq_eq_not, Bool.not_true, Bool.not_false, ne_eq, Decidable.not_not, Classical.not_not] at hc1
      refine gc_exit ?_
      refine gk_then_exit ?_
      refine gk_then_exit ?_
      refine gk_block_hit ?_
      refine gk_then (hK24 _ _ ?_)
      refine gc_seq fun K35 hK35 => ?_
      obtain rfl : k = c.s.length := by omega
      refine gc_region ?_
      refine g_v (.free rfl) rfl rfl (qt_loadS (n := 0) rfl rfl Try.underlying30 rfl (by kernel_rfl) rfl) ?_
      refine g_v (.free rfl) rfl rfl (qt_loadS (n := 1) rfl rfl Try.underlying30 rfl (by kernel_rfl) rfl) ?_
      refine g_v (.free rfl) rfl rfl (qt_move rfl rfl) ?_
      refine g_v (.free rfl) rfl rfl (qt_move rfl rfl) ?_
      refine g_op (.free rfl) fun K37 hK37 => ?_
      refine go_callFn rfl rfl rfl Try.func88 rfl (by decide) rfl (fun w M => specMakeF_any w _ _ (mem_rdC M h0) _ _ (mem_rdC M e0) _ _ _ _ ((mem_own1 (n := 3) M rfl).rd) ((mem_own1 (n := 4) M rfl).rd)) ?_
      intro fx1_36 fk1_36 fx2_36 fk2_36 fx3_36 fk3_36 fx4_36 fk4_36 fx5_36 fk5_36 fx6_36 fk6_36 fx7_36 fk7_36 fx8_36 fk8_36 fx9_36 fk9_36 fx10_36 fk10_36 us36 ut36
      refine hK37 _ _ ?_
      refine g_op (.free rfl) fun K38 hK38 => ?_
      refine go_storeS (n := 2) rfl rfl rfl rfl (by kernel_rfl) rfl rfl rfl ?_
      refine hK38 _ _ ?_
      refine g_nil ?_
      refine gk_then (hK35 _ _ ?_)
      refine gc_ret ?_
      refine ret_S (n := 2) rfl rfl Try.underlying32 rfl (by kernel_rfl) rfl (fun w M => ?_)
      exact retFn_star (F := constF c d y) (mem_block 5 10 (M))

set_option maxHeartbeats 1000000 in
set_option maxRecDepth 100000 in
theorem spec_ConstantFunctor (w : World) (v : Value) (c : Cat) (u : Value) (d : Cat) (y : Int) (h : RdC w v c) (e : RdC w u d) :
    Calls Try.prog 28 #[v, u, .int .i64 y] w (RetFI w (fConstantFunctor c d y).1 (fConstantFunctor c d y).2) := by
  have h0 := h
  obtain ⟨va, vb, vc, vd, ve, vf, vg, vh, rfl, h1, h2, h3, h4, _⟩ := h.lists
  have e0 := e
  obtain ⟨ua, ub, uc, ud, ue, uf, ug, uh, rfl, e1, e2, e3, e4, _⟩ := e.lists
  go_enter Try.func28, Try.ntmps28
  refine gc_enter (N := 26) rfl (look_cons (k := 0) rfl (look_cons (k := 1) rfl (look_cons (k := 2) rfl (look_nil _)))) ?_
  refine gc_seq fun K1 hK1 => ?_
  refine gc_region ?_
  refine g_op (.free rfl) fun K3 hK3 => ?_
  refine go_box rfl rfl rfl rfl rfl ?_
  intro B2
  refine hK3 _ _ ?_
  refine g_op (.free rfl) fun K5 hK5 => ?_
  refine go_box rfl rfl rfl rfl rfl ?_
  intro B4
  refine hK5 _ _ ?_
  refine g_op (.free rfl) fun K7 hK7 => ?_
  refine go_alloc (z := (.agg #[.int .i64 0, .slice none 0 0, .slice none 0 0, .slice none 0 0, .slice none 0 0, .int .i64 0, .slice none 0 0, .slice none 0 0, .slice none 0 0, .slice none 0 0, .slice none 0 0, .slice none 0 0])) (cs := [.int .i64 0, .slice none 0 0, .slice none 0 0, .slice none 0 0, .slice none 0 0, .int .i64 0, .slice none 0 0, .slice none 0 0, .slice none 0 0, .slice none 0 0, .slice none 0 0, .slice none 0 0]) rfl rfl rfl (fun w => by kernel_rfl) rfl ?_
  intro B6
  refine hK7 _ _ ?_
  refine g_v (.free rfl) rfl rfl (qt_assign rfl rfl) ?_
  refine g_nil ?_
  refine gk_then (hK1 _ _ ?_)
  refine gc_seq fun K8 hK8 => ?_
  refine gc_seq fun K9 hK9 => ?_
  refine gc_region ?_
  refine g_v (.free rfl) rfl rfl (qt_loadS (n := 0) rfl rfl Try.underlying30 rfl (by kernel_rfl) rfl) ?_
  refine g_q (.free rfl) rfl rfl (qt_call rfl Try.func60 rfl (by decide) rfl (fun w M => specIs_any w _ _ (mem_rdC M h0))) ?_
  refine g_v (.free rfl) rfl rfl (qt_not rfl rfl) ?_
  refine g_splitv (.free rfl) rfl rfl (qt_move rfl rfl) (fun hs1_3 => ?_) (fun hs1_3 => ?_)
  · try simp only [decide_eq_true_eq, decide_eq_false_iff_not, Bool.not_eq_true', Bool.not_eq_false', Bool.not_eq_eq_eq_not, Bool.not_true, Bool.not_false, ne_eq, Decidable.not_not, Classical.not_not] at hs1_3
    refine g_skip (.not _ _ _ _ rfl rfl rfl rfl) rfl rfl ?_
    refine g_skip (.not _ _ _ _ rfl rfl rfl rfl) rfl rfl ?_
    refine g_skip (.not _ _ _ _ rfl rfl rfl rfl) rfl rfl ?_
    refine g_v (.free rfl) rfl rfl (qt_pick_t rfl rfl rfl) ?_
    refine g_nil ?_
    refine gk_then (hK9 _ _ ?_)
    refine gc_cond_t rfl ?_
    refine gc_seq fun K10 hK10 => ?_
    refine gc_region ?_
    refine g_v (.free rfl) rfl rfl (qt_build rfl rfl bt0_Functor) ?_
    refine g_op (.free rfl) fun K11 hK11 => ?_
    refine go_storeS (n := 2) rfl rfl rfl rfl (by kernel_rfl) rfl rfl rfl ?_
    refine hK11 _ _ ?_
    refine g_v (.free rfl) rfl rfl (qt_assign rfl rfl) ?_
    refine g_nil ?_
    refine gk_then (hK10 _ _ ?_)
    refine gc_ret ?_
    refine gk_then_ret ?_
    refine ret_SI (n := 2) rfl rfl rfl Try.underlying32 rfl (by kernel_rfl) rfl (fun w M => ?_)
    rw [cof_f (fun h => by rw [(twoErr_0 h).1] at hs1_3; simp at hs1_3)]; exact retFI_zero M.1
  · try simp only [decide_eq_true_eq, decide_eq_false_iff_not, Bool.not_eq_true', Bool.not_eq_false', Bool.not_eq_eq_eq_not, Bool.not_true, Bool.not_false, ne_eq, Decidable.not_not, Classical.not_not] at hs1_3
    refine g_v (.held _ _ _ rfl rfl rfl) rfl rfl (qt_loadS (n := 1) rfl rfl Try.underlying30 rfl (by kernel_rfl) rfl) ?_
    refine g_q (.held _ _ _ rfl rfl rfl) rfl rfl (qt_call rfl Try.func60 rfl (by decide) rfl (fun w M => specIs_any w _ _ (mem_rdC M e0))) ?_
    refine g_v (.held _ _ _ rfl rfl rfl) rfl rfl (qt_not rfl rfl) ?_
    refine g_v (.free rfl) rfl rfl (qt_pick_f rfl rfl rfl) ?_
    refine g_nil ?_
    refine gk_then (hK9 _ _ ?_)
    refine gc_cond rfl (fun hc0 => ?_) (fun hc0 => ?_)
    · try simp only [decide_eq_true_eq, decide_eq_false_iff_not, Bool.not_eq_true', Bool.not_eq_false', Bool.not_eq_eq_eq_not, Bool.not_true, Bool.not_false, ne_eq, Decidable.not_not, Classical.not_not] at hc0
      refine gc_seq fun K12 hK12 => ?_
      refine gc_region ?_
      refine g_v (.free rfl) rfl rfl (qt_build rfl rfl bt0_Functor) ?_
      refine g_op (.free rfl) fun K13 hK13 => ?_
      refine go_storeS (n := 2) rfl rfl rfl rfl (by kernel_rfl) rfl rfl rfl ?_
      refine hK13 _ _ ?_
      refine g_v (.free rfl) rfl rfl (qt_assign rfl rfl) ?_
      refine g_nil ?_
      refine gk_then (hK12 _ _ ?_)
      refine gc_ret ?_
      refine gk_then_ret ?_
      refine ret_SI (n := 2) rfl rfl rfl Try.underlying32 rfl (by kernel_rfl) rfl (fun w M => ?_)
      rw [cof_f (fun h => by rw [(twoErr_0 h).2] at hc0; simp at hc0)]; exact retFI_zero M.1
    · try simp only [decide_eq_true_eq, decide_eq_false_iff_not, Bool.not_eq_true', Bool.not_eq_false', Bool.not_eq_eq_eq_not, Bool.not_true, Bool.not_false, ne_eq, Decidable.not_not, Classical.not_not] at hc0
      refine gc_skip ?_
      refine gk_then (hK8 _ _ ?_)
      refine gc_seq fun K14 hK14 => ?_
      refine gc_seq fun K15 hK15 => ?_
      have hh : fIsCategory c = true ∧ fIsCategory d = true := ⟨hs1_3, hc0⟩
      have ht := twoErr_t hh.1 hh.2
      refine gc_region ?_
      refine g_v (.free rfl) rfl rfl (qt_loadS (n := 1) rfl rfl Try.underlying30 rfl (by kernel_rfl) rfl) ?_
      refine g_v (.free rfl) rfl rfl (qt_move rfl rfl) ?_
      refine g_q (.free rfl) rfl rfl (qt_call rfl Try.func69 rfl (by decide) rfl (fun w M => l02ObjectF_any w _ _ _ (mem_rdC M e0))) ?_
      refine g_v (.free rfl) rfl rfl (qt_not rfl rfl) ?_
      refine g_nil ?_
      refine gk_then (hK15 _ _ ?_)
      refine gc_cond rfl (fun hc1 => ?_) (fun hc1 => ?_)
      · try simp only [decide_eq_true_eq, decide_eq_false_iff_not, Bool.not_eq_true', Bool.not_eq_false', Bool.not_eq_eq_eq_not, Bool.not_true, Bool.not_false, ne_eq, Decidable.not_not, Classical.not_not] at hc1
        refine gc_seq fun K16 hK16 => ?_
        refine gc_region ?_
        refine g_v (.free rfl) rfl rfl (qt_build rfl rfl bt0_Functor) ?_
        refine g_op (.free rfl) fun K17 hK17 => ?_
        refine go_storeS (n := 2) rfl rfl rfl rfl (by kernel_rfl) rfl rfl rfl ?_
        refine hK17 _ _ ?_
        refine g_v (.free rfl) rfl rfl (qt_assign rfl rfl) ?_
        refine g_nil ?_
        refine gk_then (hK16 _ _ ?_)
        refine gc_ret ?_
        refine gk_then_ret ?_
        refine ret_SI (n := 2) rfl rfl rfl Try.underlying32 rfl (by kernel_rfl) rfl (fun w M => ?_)
        rw [cof_r ht (bP_f' hc1)]; exact retFI_zero M.1
      · try simp only [decide_eq_true_eq, decide_eq_false_iff_not, Bool.not_eq_true', Bool.not_eq_false', Bool.not_eq_eq_eq_not, Bool.not_true, Bool.not_false, ne_eq, Decidable.not_not, Classical.not_not] at hc1
        refine gc_skip ?_
        refine gk_then (hK14 _ _ ?_)
        refine gc_seq fun K18 hK18 => ?_
        refine gc_region ?_
        refine g_v (.free rfl) rfl rfl (qt_loadS (n := 0) rfl rfl Try.underlying30 rfl (by kernel_rfl) rfl) ?_
        refine g_v (.free rfl) rfl rfl (qt_loadS (n := 1) rfl rfl Try.underlying30 rfl (by kernel_rfl) rfl) ?_
        refine g_v (.free rfl) rfl rfl (qt_move rfl rfl) ?_
        refine g_op (.free rfl) fun K20 hK20 => ?_
        refine go_callFn rfl rfl rfl Try.func70 rfl (by decide) rfl (fun w M => specConst_any w _ _ _ _ _ (mem_rdC M h0) (mem_rdC M e0) (isCat_of hh.1).toShapeP (isCat_of hh.2).toShapeP (bP_t' hc1)) ?_
        intro fx1_19 fk1_19 fx2_19 fk2_19 fx3_19 fk3_19 fx4_19 fk4_19 fx5_19 fk5_19 fx6_19 fk6_19 fx7_19 fk7_19 fx8_19 fk8_19 fx9_19 fk9_19 fx10_19 fk10_19 us19 ut19
        refine hK20 _ _ ?_
        refine g_op (.free rfl) fun K21 hK21 => ?_
        refine go_storeS (n := 2) rfl rfl rfl rfl (by kernel_rfl) rfl rfl rfl ?_
        refine hK21 _ _ ?_
        refine g_v (.free rfl) rfl rfl (qt_assign rfl rfl) ?_
        refine g_nil ?_
        refine gk_then (hK18 _ _ ?_)
        refine gc_ret ?_
        refine ret_SI (n := 2) rfl rfl rfl Try.underlying32 rfl (by kernel_rfl) rfl (fun w M => ?_)
        rw [cof_t ht (bP_t' hc1)]; exact retFI_star (F := constF c d y) (mem_block 3 10 (M))

set_option maxHeartbeats 1000000 in
set_option maxRecDepth 100000 in
theorem impl_ConstantFunctor (w : World) (v : Value) (c : Cat) (u : Value) (d : Cat) (y : Int) (h : RdC w v c) (e : RdC w u d) :
    Calls Try.prog 29 #[v, u, .int .i64 y] w (RetFI w (fConstantFunctor c d y).1 (fConstantFunctor c d y).2) := by
  have h0 := h
  obtain ⟨va, vb, vc, vd, ve, vf, vg, vh, rfl, h1, h2, h3, h4, _⟩ := h.lists
  have e0 := e
  obtain ⟨ua, ub, uc, ud, ue, uf, ug, uh, rfl, e1, e2, e3, e4, _⟩ := e.lists
  go_enter Try.func29, Try.ntmps29
  refine gc_enter (N := 49) rfl (look_cons (k := 0) rfl (look_cons (k := 1) rfl (look_cons (k := 2) rfl (look_nil _)))) ?_
  refine gc_seq fun K1 hK1 => ?_
  refine gc_region ?_
  refine g_op (.free rfl) fun K3 hK3 => ?_
  refine go_box rfl rfl rfl rfl rfl ?_
  intro B2
  refine hK3 _ _ ?_
  refine g_op (.free rfl) fun K5 hK5 => ?_
  refine go_box rfl rfl rfl rfl rfl ?_
  intro B4
  refine hK5 _ _ ?_
  refine g_op (.free rfl) fun K7 hK7 => ?_
  refine go_alloc (z := (.agg #[.int .i64 0, .slice none 0 0, .slice none 0 0, .slice none 0 0, .slice none 0 0, .int .i64 0, .slice none 0 0, .slice none 0 0, .slice none 0 0, .slice none 0 0, .slice none 0 0, .slice none 0 0])) (cs := [.int .i64 0, .slice none 0 0, .slice none 0 0, .slice none 0 0, .slice none 0 0, .int .i64 0, .slice none 0 0, .slice none 0 0, .slice none 0 0, .slice none 0 0, .slice none 0 0, .slice none 0 0]) rfl rfl rfl (fun w => by kernel_rfl) rfl ?_
  intro B6
  refine hK7 _ _ ?_
  refine g_v (.free rfl) rfl rfl (qt_assign rfl rfl) ?_
  refine g_nil ?_
  refine gk_then (hK1 _ _ ?_)
  refine gc_seq fun K8 hK8 => ?_
  refine gc_region ?_
  refine g_v (.free rfl) rfl rfl (qt_loadS (n := 0) rfl rfl Try.underlying30 rfl (by kernel_rfl) rfl) ?_
  refine g_v (.free rfl) rfl rfl (qt_loadS (n := 1) rfl rfl Try.underlying30 rfl (by kernel_rfl) rfl) ?_
  refine g_op (.free rfl) fun K10 hK10 => ?_
  refine go_callCCI rfl rfl rfl Try.func63 rfl (by decide) rfl (fun w M => readTwo_any w _ _ (mem_rdC M h0) _ _ (mem_rdC M e0)) ?_
  intro ca9 cb9 cc9 cd9 ce9 cf9 cg9 ch9 cu9 da9 db9 dc9 dd9 de9 df9 dg9 dh9 du9
  refine hK10 _ _ ?_
  refine g_v (.free rfl) rfl rfl (qt_move rfl rfl) ?_
  refine g_v (.free rfl) rfl rfl (qt_extract rfl rfl rfl) ?_
  refine g_v (.free rfl) rfl rfl (qt_extract rfl rfl rfl) ?_
  refine g_v (.free rfl) rfl rfl (qt_extract rfl rfl rfl) ?_
  refine g_op (.free rfl) fun K12 hK12 => ?_
  refine go_alloc (z := (.agg #[.int .i64 0, .slice none 0 0, .slice none 0 0, .slice none 0 0, .slice none 0 0])) (cs := [.int .i64 0, .slice none 0 0, .slice none 0 0, .slice none 0 0, .slice none 0 0]) rfl rfl rfl (fun w => by kernel_rfl) rfl ?_
  intro B11
  refine hK12 _ _ ?_
  refine g_op (.free rfl) fun K14 hK14 => ?_
  refine go_alloc (z := (.agg #[.int .i64 0, .slice none 0 0, .slice none 0 0, .slice none 0 0, .slice none 0 0])) (cs := [.int .i64 0, .slice none 0 0, .slice none 0 0, .slice none 0 0, .slice none 0 0]) rfl rfl rfl (fun w => by kernel_rfl) rfl ?_
  intro B13
  refine hK14 _ _ ?_
  refine g_op (.free rfl) fun K15 hK15 => ?_
  refine go_storeS (n := 11) rfl rfl rfl rfl (by kernel_rfl) rfl rfl rfl ?_
  refine hK15 _ _ ?_
  refine g_op (.free rfl) fun K16 hK16 => ?_
  refine go_storeS (n := 12) rfl rfl rfl rfl (by kernel_rfl) rfl rfl rfl ?_
  refine hK16 _ _ ?_
  refine g_v (.free rfl) rfl rfl (qt_assign rfl rfl) ?_
  refine g_nil ?_
  refine gk_then (hK8 _ _ ?_)
  refine gc_seq fun K17 hK17 => ?_
  refine gc_seq fun K18 hK18 => ?_
  refine gc_region ?_
  refine g_v (.free rfl) rfl rfl (qt_move rfl rfl) ?_
  refine g_v (.free rfl) rfl rfl (qt_neq rfl rfl rfl) ?_
  refine g_nil ?_
  refine gk_then (hK18 _ _ ?_)
  refine gc_cond rfl (fun hc0 => ?_) (fun hc0 => ?_)
  · try simp only [decide_eq_true_eq, decide_eq_false_iff_not, Bool.not_eq_true', Bool.not_eq_false', Bool.not_eq_eq_eq_not, Bool.not_true, Bool.not_false, ne_eq, Decidable.not_not, Classical.not_not] at hc0
    refine gc_seq fun K19 hK19 => ?_
    refine gc_region ?_
    refine g_v (.free rfl) rfl rfl (qt_build rfl rfl bt0_Functor) ?_
    refine g_v (.free rfl) rfl rfl (qt_move rfl rfl) ?_
    refine g_op (.free rfl) fun K20 hK20 => ?_
    refine go_storeS (n := 2) rfl rfl rfl rfl (by kernel_rfl) rfl rfl rfl ?_
    refine hK20 _ _ ?_
    refine g_v (.free rfl) rfl rfl (qt_assign rfl rfl) ?_
    refine g_nil ?_
    refine gk_then (hK19 _ _ ?_)
    refine gc_ret ?_
    refine gk_then_ret ?_
    refine ret_SI (n := 2) rfl rfl rfl Try.underlying32 rfl (by kernel_rfl) rfl (fun w M => ?_)
    rw [(twoErr_n hc0).2, cof_f (fun h => hc0 h)]; exact retFI_zero M.1
  · try simp only [decide_eq_true_eq, decide_eq_false_iff_not, Bool.not_eq_true', Bool.not_eq_false', Bool.not_eq_eq_eq_not, Bool.not_true, Bool.not_false, ne_eq, Decidable.not_not, Classical.not_not] at hc0
    refine gc_skip ?_
    refine gk_then (hK17 _ _ ?_)
    refine gc_seq fun K21 hK21 => ?_
    refine gc_seq fun K22 hK22 => ?_
    have hh := twoErr_0 hc0
    have hC := two_c hc0
    simp only [hC.1, hC.2]
    have sc := (isCat_of hh.1).toShapeP; have sd := (isCat_of hh.2).toShapeP
    have c0 := sc.ob0; have c1 := sc.ob8; have c2 := sc.n40; have d1 := sd.ob8; have d2 := sd.el
    refine gc_region ?_
    refine g_v (.free rfl) rfl rfl (qt_loadS (n := 12) rfl rfl Try.underlying30 rfl (by kernel_rfl) rfl) ?_
    refine g_v (.free rfl) rfl rfl (qt_move rfl rfl) ?_
    refine g_op (.free rfl) fun K24 hK24 => ?_
    refine go_slice1 rfl rfl rfl rfl Try.underlying22 ?_
    intro B23
    refine hK24 _ _ ?_
    refine g_q (.free rfl) rfl rfl (qt_call rfl Try.func71 rfl (by decide) rfl (fun w M => hasObjects_any w _ _ _ _ (_) (rdC_mk ((mem_own1 (n := 7) M rfl).rd) ((mem_own1 (n := 8) M rfl).rd) ((mem_own1 (n := 9) M rfl).rd) (mem_rdU (n := 10) M rfl)) ((mem_own1 (n := 13) M rfl).rd) (rfl))) ?_
    refine g_v (.free rfl) rfl rfl (qt_not rfl rfl) ?_
    refine g_nil ?_
    refine gk_then (hK22 _ _ ?_)
    refine gc_cond rfl (fun hc1 => ?_) (fun hc1 => ?_)
    · try simp only [decide_eq_true_eq, decide_eq_false_iff_not, Bool.not_eq_true', Bool.not_eq_false', Bool.not_eq_eq_eq_not, Bool.not_true, Bool.not_false, ne_eq, Decidable.not_not, Classical.not_not] at hc1
      refine gc_seq fun K25 hK25 => ?_
      refine gc_region ?_
      refine g_v (.free rfl) rfl rfl (qt_build rfl rfl bt0_Functor) ?_
      refine g_op (.free rfl) fun K26 hK26 => ?_
      refine go_storeS (n := 2) rfl rfl rfl rfl (by kernel_rfl) rfl rfl rfl ?_
      refine hK26 _ _ ?_
      refine g_v (.free rfl) rfl rfl (qt_assign rfl rfl) ?_
      refine g_nil ?_
      refine gk_then (hK25 _ _ ?_)
      refine gc_ret ?_
      refine gk_then_ret ?_
      refine ret_SI (n := 2) rfl rfl rfl Try.underlying32 rfl (by kernel_rfl) rfl (fun w M => ?_)
      rw [cof_r hc0 (fun hq => bP_f' hc1 (allP_one.2 hq))]; exact retFI_zero M.1
    · try simp only [decide_eq_true_eq, decide_eq_false_iff_not, Bool.not_eq_true', Bool.not_eq_false', Bool.not_eq_eq_eq_not, Bool.not_true, Bool.not_false, ne_eq, Decidable.not_not, Classical.not_not] at hc1
      refine gc_skip ?_
      refine gk_then (hK21 _ _ ?_)
      refine gc_seq fun K27 hK27 => ?_
      have hy := allP_one.1 (bP_t' hc1)
      refine gc_region ?_
      refine g_v (.free rfl) rfl rfl (qt_move rfl rfl) ?_
      refine g_op (.free rfl) fun K29 hK29 => ?_
      refine go_slice1 rfl rfl rfl rfl Try.underlying22 ?_
      intro B28
      refine hK29 _ _ ?_
      refine g_v (.free rfl) rfl rfl (qt_field (z := 0) (off := 0) rfl rfl Try.underlying30 rfl (by kernel_rfl) rfl) ?_
      refine g_v (.free rfl) rfl rfl (qt_loadB (n := 11) rfl rfl Try.underlying2 rfl rfl rfl) ?_
      refine g_op (.free rfl) fun K31 hK31 => ?_
      refine go_callL rfl rfl rfl Try.func72 rfl (by decide) rfl (fun w M => slRepeatW_any w _ _ _ ((mem_own1 (n := 14) M rfl).rd) (rfl) (by omega)) ?_
      intro va30 vc30
      refine hK31 _ _ ?_
      refine g_v (.free rfl) rfl rfl (qt_assign rfl rfl) ?_
      refine g_nil ?_
      refine gk_then (hK27 _ _ ?_)
      refine gc_seq fun K32 hK32 => ?_
      try simp only [List.nil_append, List.cons_append, List.append_assoc, List.set_cons_succ, List.set_cons_zero]
      refine ga_start _ (fun w M => M) ?_
      refine ga_v 0 rfl (by kernel_rfl) (by kernel_rfl) (by kernel_rfl) (.free rfl) rfl rfl (qt_field (z := 0) (off := 3) rfl rfl Try.underlying30 rfl (by kernel_rfl) rfl) (fun _ _ _ h => h) ?_
      refine ga_v 1 rfl (by kernel_rfl) (by kernel_rfl) (by kernel_rfl) (.free rfl) rfl rfl (qt_loadB (n := 12) rfl rfl Try.underlying22 rfl rfl rfl) (fun _ _ _ h => h) ?_
      refine ga_v 2 rfl (by kernel_rfl) (by kernel_rfl) (by kernel_rfl) (.free rfl) rfl rfl (qt_move rfl rfl) (fun _ _ _ h => h) ?_
      refine ga_v 3 rfl (by kernel_rfl) (by kernel_rfl) (by kernel_rfl) (.free rfl) rfl rfl (qt_index rfl rfl rfl ulE1 szE1 (fun w M => lenA_own1 (n := 9) rfl M) (by omega) (by omega)) (fun _ _ _ h => h) ?_
      refine ga_v 4 rfl (by kernel_rfl) (by kernel_rfl) (by kernel_rfl) (.free rfl) rfl rfl (qt_load1 rfl rfl Try.underlying2 rfl (fun w M => (mem_own1 (n := 9) M rfl).rd) (by omega) (by omega)) (fun _ _ _ h => h) ?_
      refine ga_v 6 rfl (by kernel_rfl) (by kernel_rfl) (by kernel_rfl) (.free rfl) rfl rfl (qt_loadS (n := 11) rfl rfl Try.underlying30 rfl (by kernel_rfl) rfl) (fun _ _ _ h => h) ?_
      refine ga_two 5 7 (by kernel_rfl) rfl rfl (.free rfl) (.free rfl) (fun K33 hK33 => ?_) (fun K33 hK33 => ?_)
      · refine go_slice1 rfl rfl rfl rfl Try.underlying22 ?_
        intro B34
        refine hK33 _ _ (fun w M => (mem_take 16 M :)) ?_
        refine ga_op 7 (by kernel_rfl) rfl (.free rfl) fun K36 hK36 => ?_
        refine go_q rfl rfl (qt_call rfl Try.func65 rfl (by decide) rfl (fun w M => arrows_any w _ _ (rdC_mk ((mem_own1 (n := 3) M rfl).rd) ((mem_own1 (n := 4) M rfl).rd) ((mem_own1 (n := 5) M rfl).rd) (mem_rdU (n := 6) M rfl)))) ?_
        refine hK36 _ _ (fun w M => (mem_take 16 M :)) ?_
        refine ga_op 8 (by kernel_rfl) rfl (.free rfl) fun K38 hK38 => ?_
        refine go_callL rfl rfl rfl Try.func72 rfl (by decide) rfl (fun w M => slRepeatW_any w _ _ _ ((mem_own1 (n := 16) M rfl).rd) (rfl) (by omega)) ?_
        intro va37 vc37
        refine hK38 _ _ (fun w M => (mem_take 16 M :)) ?_
        refine ga_v 9 rfl (by kernel_rfl) (by kernel_rfl) (by kernel_rfl) (.free rfl) rfl rfl (qt_assign rfl rfl) (fun _ _ _ h => h) ?_
        refine ga_done (by kernel_rfl) ?_
        refine gk_then (hK32 _ _ ?_)
        refine gc_seq fun K39 hK39 => ?_
        refine gc_region ?_
        refine g_v (.free rfl) rfl rfl (qt_loadS (n := 11) rfl rfl Try.underlying30 rfl (by kernel_rfl) rfl) ?_
        refine g_v (.free rfl) rfl rfl (qt_loadS (n := 12) rfl rfl Try.underlying30 rfl (by kernel_rfl) rfl) ?_
        refine g_v (.free rfl) rfl rfl (qt_move rfl rfl) ?_
        refine g_v (.free rfl) rfl rfl (qt_move rfl rfl) ?_
        refine g_v (.free rfl) rfl rfl (qt_build rfl rfl bt_Functor) ?_
        refine g_op (.free rfl) fun K40 hK40 => ?_
        refine go_storeS (n := 2) rfl rfl rfl rfl (by kernel_rfl) rfl rfl rfl ?_
        refine hK40 _ _ ?_
        refine g_v (.free rfl) rfl rfl (qt_assign rfl rfl) ?_
        refine g_nil ?_
        refine gk_then (hK39 _ _ ?_)
        refine gc_ret ?_
        refine ret_SI (n := 2) rfl rfl rfl Try.underlying32 rfl (by kernel_rfl) rfl (fun w M => ?_)
        rw [cof_t hc0 hy]; exact retFI_star (F := constF c d y) (mem_block 5 8 (mem_block 16 1 (mem_block 17 1 (M))))
      · refine go_q rfl rfl (qt_call rfl Try.func65 rfl (by decide) rfl (fun w M => arrows_any w _ _ (rdC_mk ((mem_own1 (n := 3) M rfl).rd) ((mem_own1 (n := 4) M rfl).rd) ((mem_own1 (n := 5) M rfl).rd) (mem_rdU (n := 6) M rfl)))) ?_
        refine hK33 _ _ (fun w M => (mem_take 16 M :)) ?_
        refine ga_op 5 (by kernel_rfl) rfl (.free rfl) fun K43 hK43 => ?_
        refine go_slice1 rfl rfl rfl rfl Try.underlying22 ?_
        intro B42
        refine hK43 _ _ (fun w M => (mem_take 16 M :)) ?_
        refine ga_op 8 (by kernel_rfl) rfl (.free rfl) fun K45 hK45 => ?_
        refine go_callL rfl rfl rfl Try.func72 rfl (by decide) rfl (fun w M => slRepeatW_any w _ _ _ ((mem_own1 (n := 16) M rfl).rd) (rfl) (by omega)) ?_
        intro va44 vc44
        refine hK45 _ _ (fun w M => (mem_take 16 M :)) ?_
        refine ga_v 9 rfl (by kernel_rfl) (by kernel_rfl) (by kernel_rfl) (.free rfl) rfl rfl (qt_assign rfl rfl) (fun _ _ _ h => h) ?_
        refine ga_done (by kernel_rfl) ?_
        refine gk_then (hK32 _ _ ?_)
        refine gc_seq fun K46 hK46 => ?_
        refine gc_region ?_
        refine g_v (.free rfl) rfl rfl (qt_loadS (n := 11) rfl rfl Try.underlying30 rfl (by kernel_rfl) rfl) ?_
        refine g_v (.free rfl) rfl rfl (qt_loadS (n := 12) rfl rfl Try.underlying30 rfl (by kernel_rfl) rfl) ?_
        refine g_v (.free rfl) rfl rfl (qt_move rfl rfl) ?_
        refine g_v (.free rfl) rfl rfl (qt_move rfl rfl) ?_
        refine g_v (.free rfl) rfl rfl (qt_build rfl rfl bt_Functor) ?_
        refine g_op (.free rfl) fun K47 hK47 => ?_
        refine go_storeS (n := 2) rfl rfl rfl rfl (by kernel_rfl) rfl rfl rfl ?_
        refine hK47 _ _ ?_
        refine g_v (.free rfl) rfl rfl (qt_assign rfl rfl) ?_
        refine g_nil ?_
        refine gk_then (hK46 _ _ ?_)
        refine gc_ret ?_
        refine ret_SI (n := 2) rfl rfl rfl Try.underlying32 rfl (by kernel_rfl) rfl (fun w M => ?_)
        rw [cof_t hc0 hy]; exact retFI_star (F := constF c d y) (mem_block 5 8 (mem_block 16 1 (mem_block 17 1 (M))))

end Go.Proofs.Ytpfcfhjpgngneaa
