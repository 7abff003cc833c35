import Derived.Test.YtpcabkdkdnchaaaA21
import Derived.Test.YtpcabkdkdnchaaaA13
set_option linter.unusedSimpArgs false
set_option linter.unusedVariables false
set_option linter.unusedSectionVars false
namespace Go.Proofs.Ytpcabkdkdnchaaa
open Go.RowKit
theorem mapE_succ {α β : Type} [Inhabited α] {f : Ent α → β} {es : List (Ent α)} {k : Nat} (h : k < es.length) : (es.take k).map f ++ [f (atE es (k : Int))] = (es.take (k + 1)).map f := by
  rw [List.take_succ_eq_append_getElem h, ← atE_eq h, List.map_append]; rfl
set_option maxHeartbeats 1000000 in
set_option maxRecDepth 100000 in
theorem listO_any (w : World) (x : Ent Int) :
    Calls Try.prog 35 #[.agg #[.int .i64 x.1, .int .i64 x.2.1, .int .i64 x.2.2]] w (RetL w (row3 x)) := by
  go_enter Try.func35, Try.ntmps35
  refine gc_enter (N := 10) rfl (look_cons (k := 0) rfl (look_nil _)) ?_
  refine gc_seq fun K1 hK1 => ?_
  refine gc_region ?_
  refine g_op (.free rfl) fun K3 hK3 => ?_
  refine go_box rfl rfl rfl rfl rfl ?_
  intro B2
  refine hK3 _ _ ?_
  refine g_v (.free rfl) rfl rfl (qt_assign rfl rfl) ?_
  refine g_nil ?_
  refine gk_then (hK1 _ _ ?_)
  refine gc_seq fun K4 hK4 => ?_
  refine gc_region ?_
  refine g_v (.free rfl) rfl rfl (qt_field (z := 0) (off := 0) rfl rfl Try.underlying64 rfl (by kernel_rfl) rfl) ?_
  refine g_v (.free rfl) rfl rfl (qt_loadB (n := 0) rfl rfl Try.underlying2 rfl rfl rfl) ?_
  refine g_v (.free rfl) rfl rfl (qt_field (z := 0) (off := 1) rfl rfl Try.underlying64 rfl (by kernel_rfl) rfl) ?_
  refine g_v (.free rfl) rfl rfl (qt_loadB (n := 0) rfl rfl Try.underlying2 rfl rfl rfl) ?_
  refine g_v (.free rfl) rfl rfl (qt_field (z := 0) (off := 2) rfl rfl Try.underlying64 rfl (by kernel_rfl) rfl) ?_
  refine g_v (.free rfl) rfl rfl (qt_loadB (n := 0) rfl rfl Try.underlying2 rfl rfl rfl) ?_
  refine g_op (.free rfl) fun K6 hK6 => ?_
  refine go_slice3I rfl rfl rfl rfl rfl rfl Try.underlying22 ?_
  intro B5
  refine hK6 _ _ ?_
  refine g_v (.free rfl) rfl rfl (qt_assign rfl rfl) ?_
  refine g_nil ?_
  refine gk_then (hK4 _ _ ?_)
  refine gc_ret ?_
  refine ret_1 rfl rfl  (fun w M => ?_)
  exact ⟨_, rfl, mem_own1 (n := 1) M rfl, M.1⟩
set_option maxHeartbeats 1000000 in
set_option maxRecDepth 100000 in
theorem listA_any (w : World) (x : Ent (Int × Int)) :
    Calls Try.prog 37 #[.agg #[.int .i64 x.1, .int .i64 x.2.1, .int .i64 x.2.2.1, .int .i64 x.2.2.2]] w (RetL w (row4 x)) := by
  go_enter Try.func37, Try.ntmps37
  refine gc_enter (N := 14) rfl (look_cons (k := 0) rfl (look_nil _)) ?_
  refine gc_seq fun K1 hK1 => ?_
  refine gc_region ?_
  refine g_op (.free rfl) fun K3 hK3 => ?_
  refine go_box rfl rfl rfl rfl rfl ?_
  intro B2
  refine hK3 _ _ ?_
  refine g_v (.free rfl) rfl rfl (qt_assign rfl rfl) ?_
  refine g_nil ?_
  refine gk_then (hK1 _ _ ?_)
  refine gc_seq fun K4 hK4 => ?_
  refine gc_region ?_
  refine g_v (.free rfl) rfl rfl (qt_field (z := 1) (off := 0) rfl rfl Try.underlying71 rfl (by kernel_rfl) rfl) ?_
  refine g_v (.free rfl) rfl rfl (qt_field (z := 0) (off := 0) rfl rfl Try.underlying69 rfl (by kernel_rfl) rfl) ?_
  refine g_v (.free rfl) rfl rfl (qt_loadB (n := 0) rfl rfl Try.underlying2 rfl rfl rfl) ?_
  refine g_v (.free rfl) rfl rfl (qt_field (z := 1) (off := 0) rfl rfl Try.underlying71 rfl (by kernel_rfl) rfl) ?_
  refine g_v (.free rfl) rfl rfl (qt_field (z := 0) (off := 1) rfl rfl Try.underlying69 rfl (by kernel_rfl) rfl) ?_
  refine g_v (.free rfl) rfl rfl (qt_loadB (n := 0) rfl rfl Try.underlying2 rfl rfl rfl) ?_
  refine g_v (.free rfl) rfl rfl (qt_field (z := 0) (off := 2) rfl rfl Try.underlying71 rfl (by kernel_rfl) rfl) ?_
  refine g_v (.free rfl) rfl rfl (qt_loadB (n := 0) rfl rfl Try.underlying2 rfl rfl rfl) ?_
  refine g_v (.free rfl) rfl rfl (qt_field (z := 0) (off := 3) rfl rfl Try.underlying71 rfl (by kernel_rfl) rfl) ?_
  refine g_v (.free rfl) rfl rfl (qt_loadB (n := 0) rfl rfl Try.underlying2 rfl rfl rfl) ?_
  refine g_op (.free rfl) fun K6 hK6 => ?_
  refine go_slice4I rfl rfl rfl rfl rfl rfl rfl Try.underlying22 ?_
  intro B5
  refine hK6 _ _ ?_
  refine g_v (.free rfl) rfl rfl (qt_assign rfl rfl) ?_
  refine g_nil ?_
  refine gk_then (hK4 _ _ ?_)
  refine gc_ret ?_
  refine ret_1 rfl rfl  (fun w M => ?_)
  exact ⟨_, rfl, mem_own1 (n := 1) M rfl, M.1⟩
set_option maxHeartbeats 1000000 in
set_option maxRecDepth 100000 in
theorem each_row3 (w : World) (a : Option Addr) (q : Nat) (es : List (Ent Int)) (hl : es.length ≤ 1000) (hE : RdE0 lab_co w (.slice a es.length q) es) :
    Calls Try.prog 34 #[.slice a es.length q, .func (.func 35) #[] #[]] w (RetR w (es.map row3)) := by
  go_enter Try.func34, Try.ntmps34
  refine gc_enter (N := 22) rfl (look_cons (k := 0) rfl (look_cons (k := 1) rfl (look_nil _))) ?_
  refine gc_seq fun K1 hK1 => ?_
  refine gc_region ?_
  refine g_v (.free rfl) rfl rfl (qt_assign rfl rfl) ?_
  refine g_nil ?_
  refine gk_then (hK1 _ _ ?_)
  refine gc_seq fun K2 hK2 => ?_
  refine gc_region ?_
  refine g_v (.free rfl) rfl rfl (qt_assign rfl rfl) ?_
  refine g_nil ?_
  refine gk_then (hK2 _ _ ?_)
  refine gc_seq fun K3 hK3 => ?_
  refine gc_seq fun K4 hK4 => ?_
  refine gc_region ?_
  refine g_v (.free rfl) rfl rfl (qt_move rfl rfl) ?_
  refine g_v (.free rfl) rfl rfl (qt_len rfl rfl (lab_ul0 lab_co) (fun w M => lenV_E0 (mem_rdE0 M hE))) ?_
  refine g_v (.free rfl) rfl rfl (qt_move rfl rfl) ?_
  refine g_nil ?_
  refine gk_then (hK4 _ _ ?_)
  refine gc_block ?_
  refine gc_nilU ?_
  try simp only [List.nil_append, List.cons_append, List.append_assoc, List.set_cons_succ, List.set_cons_zero]
  refine gc_loop ([(0, _), (1, _), (4, _), (8, _), (9, _)] : Env) (fun s : Nat × (Option Addr) × Nat × (List Value) => (fun (k : Nat) (b : Option Addr) (r : Nat) (us : List Value) => ([(5, .slice b ((es.take k).map row3).length r), (10, .int .i64 (k : Int))] : Env)) s.1 s.2.1 s.2.2.1 s.2.2.2) (fun s : Nat × (Option Addr) × Nat × (List Value) => (fun (k : Nat) (b : Option Addr) (r : Nat) (us : List Value) => ([(0, own2U (.slice b ((es.take k).map row3).length r) us ((es.take k).map row3))] : List (Nat × Itm))) s.1 s.2.1 s.2.2.1 s.2.2.2) (fun s : Nat × (Option Addr) × Nat × (List Value) => (fun (k : Nat) (b : Option Addr) (r : Nat) (us : List Value) => k ≤ es.length) s.1 s.2.1 s.2.2.1 s.2.2.2) (fun s : Nat × (Option Addr) × Nat × (List Value) => (fun (k : Nat) (b : Option Addr) (r : Nat) (us : List Value) => es.length - k) s.1 s.2.1 s.2.2.1 s.2.2.2) ((0, _, _, _)) (sub_cons rfl (sub_cons rfl (sub_cons rfl (sub_cons rfl (sub_cons rfl (sub_cons rfl (sub_cons rfl sub_nil))))))) rfl (Nat.zero_le _) ?_
  rintro ⟨k, b, r, us⟩ hinv KL5 hKL5
  simp only [updL, List.foldl_cons, List.foldl_nil, List.set_cons_succ, List.set_cons_zero, List.cons_append, List.nil_append] at hinv hKL5 ⊢
  have hk := hinv
  have htk : ((es.take k).map row3).length ≤ 1000 := by rw [List.length_map, List.length_take]; omega
  refine gc_seq fun K6 hK6 => ?_
  refine gc_region ?_
  refine g_v (.free rfl) rfl rfl (qt_lss rfl rfl rfl) ?_
  refine g_nil ?_
  refine gk_then (hK6 _ _ ?_)
  refine gc_seq fun K7 hK7 => ?_
  refine gc_cond rfl (fun hc0 => ?_) (fun hc0 => ?_)
  · try simp only [decide_eq_true_eq, decide_eq_false_iff_not, Bool.not_eq_true', Bool.not_eq_false', Bool.not_eq_eq_eq_not, Bool.not_true, Bool.not_false, ne_eq, Decidable.not_not, Classical.not_not] at hc0
    refine gc_skip ?_
    refine gk_then (hK7 _ _ ?_)
    refine gc_seq fun K8 hK8 => ?_
    refine gc_block ?_
    refine gc_seq fun K9 hK9 => ?_
    refine gc_region ?_
    refine g_v (.free rfl) rfl rfl (qt_indexE0 lab_co rfl rfl rfl rfl (fun w M => lenA_E0 (mem_rdE0 M hE)) (by omega) (by omega)) ?_
    refine g_v (.free rfl) rfl rfl (qt_load_co rfl rfl rfl (fun w M => mem_rdE0 M hE) (by omega) (by omega)) ?_
    refine g_op (.free rfl) fun K11 hK11 => ?_
    refine go_alloc (z := (.agg #[.int .i64 0, .int .i64 0, .int .i64 0])) (cs := [.int .i64 0, .int .i64 0, .int .i64 0]) rfl rfl rfl (fun w => by kernel_rfl) rfl ?_
    intro B10
    refine hK11 _ _ ?_
    refine g_op (.free rfl) fun K12 hK12 => ?_
    refine go_storeS (n := 1) rfl rfl rfl rfl (by kernel_rfl) rfl rfl rfl ?_
    refine hK12 _ _ ?_
    refine g_nil ?_
    refine gk_then (hK9 _ _ ?_)
    refine gc_region ?_
    refine g_v (.free rfl) rfl rfl (qt_move rfl rfl) ?_
    refine g_v (.free rfl) rfl rfl (qt_move rfl rfl) ?_
    refine g_v (.free rfl) rfl rfl (qt_loadS (n := 1) rfl rfl Try.underlying64 rfl (by kernel_rfl) rfl) ?_
    refine g_op (.free rfl) fun K14 hK14 => ?_
    refine go_callVL rfl rfl rfl rfl rfl (fun w M => callsV_f (bnd := []) (vs := [_]) (caps := []) Try.func35 rfl (by decide) (listO_any w (atE es (k : Int)))) ?_
    intro va13 vc13
    refine hK14 _ _ ?_
    refine g_op (.free rfl) fun K16 hK16 => ?_
    refine go_sliceR1 (m := 2) rfl rfl rfl rfl Try.underlying23 rfl ?_
    intro B15
    refine hK16 _ _ ?_
    refine g_op (.free rfl) fun K18 hK18 => ?_
    refine go_appendRow (n := 0) (m := 2) (m' := 1) rfl rfl rfl Try.underlying23 rfl rfl rfl rfl rfl (by omega) ?_
    intro va17 vc17
    refine hK18 _ _ ?_
    refine g_v (.free rfl) rfl rfl (qt_assign rfl rfl) ?_
    refine g_nil ?_
    refine gk_block ?_
    refine gk_then (hK8 _ _ ?_)
    refine gc_region ?_
    refine g_v (.free rfl) rfl rfl (qt_add rfl rfl rfl (by omega)) ?_
    refine g_v (.free rfl) rfl rfl (qt_move rfl rfl) ?_
    refine g_nil ?_
    rw [mapE_succ (by omega)]
    refine gk_then (gk_take 1 ?_)
    refine gk_sub ?hs_19 (hKL5 ((k + 1, _, _, _)) ?hi_19 ?hm_19)
    case hs_19 => exact (sub_cons rfl (sub_cons rfl (sub_cons rfl (sub_cons rfl (sub_cons rfl (sub_cons rfl (sub_cons rfl sub_nil)))))))
    case hi_19 => omega
    case hm_19 => omega
  · try simp only [decide_eq_true_eq, decide_eq_false_iff_not, Bool.not_eq_true', Bool.not_eq_false', Bool.not_eq_eq_eq_not, Bool.not_true, Bool.not_false, ne_eq, Decidable.not_not, Classical.not_not] at hc0
    refine gc_exit ?_
    refine gk_then_exit ?_
    refine gk_then_exit ?_
    refine gk_block_hit ?_
    refine gk_then (hK3 _ _ ?_)
    refine gc_seq fun K20 hK20 => ?_
    refine gc_region ?_
    refine g_v (.free rfl) rfl rfl (qt_move rfl rfl) ?_
    refine g_v (.free rfl) rfl rfl (qt_assign rfl rfl) ?_
    refine g_nil ?_
    refine gk_then (hK20 _ _ ?_)
    refine gc_ret ?_
    refine ret_1 rfl rfl  (fun w M => ?_)
    obtain rfl : k = es.length := by omega
    simp only [List.take_length] at M ⊢
    exact ⟨_, rfl, cm_sl2U (n := 0) M rfl, M.1⟩
set_option maxHeartbeats 1000000 in
set_option maxRecDepth 100000 in
theorem each_row4 (w : World) (a : Option Addr) (q : Nat) (es : List (Ent (Int × Int))) (hl : es.length ≤ 1000) (hE : RdE0 lab_ca w (.slice a es.length q) es) :
    Calls Try.prog 36 #[.slice a es.length q, .func (.func 37) #[] #[]] w (RetR w (es.map row4)) := by
  go_enter Try.func36, Try.ntmps36
  refine gc_enter (N := 22) rfl (look_cons (k := 0) rfl (look_cons (k := 1) rfl (look_nil _))) ?_
  refine gc_seq fun K1 hK1 => ?_
  refine gc_region ?_
  refine g_v (.free rfl) rfl rfl (qt_assign rfl rfl) ?_
  refine g_nil ?_
  refine gk_then (hK1 _ _ ?_)
  refine gc_seq fun K2 hK2 => ?_
  refine gc_region ?_
  refine g_v (.free rfl) rfl rfl (qt_assign rfl rfl) ?_
  refine g_nil ?_
  refine gk_then (hK2 _ _ ?_)
  refine gc_seq fun K3 hK3 => ?_
  refine gc_seq fun K4 hK4 => ?_
  refine gc_region ?_
  refine g_v (.free rfl) rfl rfl (qt_move rfl rfl) ?_
  refine g_v (.free rfl) rfl rfl (qt_len rfl rfl (lab_ul0 lab_ca) (fun w M => lenV_E0 (mem_rdE0 M hE))) ?_
  refine g_v (.free rfl) rfl rfl (qt_move rfl rfl) ?_
  refine g_nil ?_
  refine gk_then (hK4 _ _ ?_)
  refine gc_block ?_
  refine gc_nilU ?_
  try simp only [List.nil_append, List.cons_append, List.append_assoc, List.set_cons_succ, List.set_cons_zero]
  refine gc_loop ([(0, _), (1, _), (4, _), (8, _), (9, _)] : Env) (fun s : Nat × (Option Addr) × Nat × (List Value) => (fun (k : Nat) (b : Option Addr) (r : Nat) (us : List Value) => ([(5, .slice b ((es.take k).map row4).length r), (10, .int .i64 (k : Int))] : Env)) s.1 s.2.1 s.2.2.1 s.2.2.2) (fun s : Nat × (Option Addr) × Nat × (List Value) => (fun (k : Nat) (b : Option Addr) (r : Nat) (us : List Value) => ([(0, own2U (.slice b ((es.take k).map row4).length r) us ((es.take k).map row4))] : List (Nat × Itm))) s.1 s.2.1 s.2.2.1 s.2.2.2) (fun s : Nat × (Option Addr) × Nat × (List Value) => (fun (k : Nat) (b : Option Addr) (r : Nat) (us : List Value) => k ≤ es.length) s.1 s.2.1 s.2.2.1 s.2.2.2) (fun s : Nat × (Option Addr) × Nat × (List Value) => (fun (k : Nat) (b : Option Addr) (r : Nat) (us : List Value) => es.length - k) s.1 s.2.1 s.2.2.1 s.2.2.2) ((0, _, _, _)) (sub_cons rfl (sub_cons rfl (sub_cons rfl (sub_cons rfl (sub_cons rfl (sub_cons rfl (sub_cons rfl sub_nil))))))) rfl (Nat.zero_le _) ?_
  rintro ⟨k, b, r, us⟩ hinv KL5 hKL5
  simp only [updL, List.foldl_cons, List.foldl_nil, List.set_cons_succ, List.set_cons_zero, List.cons_append, List.nil_append] at hinv hKL5 ⊢
  have hk := hinv
  have htk : ((es.take k).map row4).length ≤ 1000 := by rw [List.length_map, List.length_take]; omega
  refine gc_seq fun K6 hK6 => ?_
  refine gc_region ?_
  refine g_v (.free rfl) rfl rfl (qt_lss rfl rfl rfl) ?_
  refine g_nil ?_
  refine gk_then (hK6 _ _ ?_)
  refine gc_seq fun K7 hK7 => ?_
  refine gc_cond rfl (fun hc0 => ?_) (fun hc0 => ?_)
  · try simp only [decide_eq_true_eq, decide_eq_false_iff_not, Bool.not_eq_true', Bool.not_eq_false', Bool.not_eq_eq_eq_not, Bool.not_true, Bool.not_false, ne_eq, Decidable.not_not, Classical.not_not] at hc0
    refine gc_skip ?_
    refine gk_then (hK7 _ _ ?_)
    refine gc_seq fun K8 hK8 => ?_
    refine gc_block ?_
    refine gc_seq fun K9 hK9 => ?_
    refine gc_region ?_
    refine g_v (.free rfl) rfl rfl (qt_indexE0 lab_ca rfl rfl rfl rfl (fun w M => lenA_E0 (mem_rdE0 M hE)) (by omega) (by omega)) ?_
    refine g_v (.free rfl) rfl rfl (qt_load_ca rfl rfl rfl (fun w M => mem_rdE0 M hE) (by omega) (by omega)) ?_
    refine g_op (.free rfl) fun K11 hK11 => ?_
    refine go_alloc (z := (.agg #[.int .i64 0, .int .i64 0, .int .i64 0, .int .i64 0])) (cs := [.int .i64 0, .int .i64 0, .int .i64 0, .int .i64 0]) rfl rfl rfl (fun w => by kernel_rfl) rfl ?_
    intro B10
    refine hK11 _ _ ?_
    refine g_op (.free rfl) fun K12 hK12 => ?_
    refine go_storeS (n := 1) rfl rfl rfl rfl (by kernel_rfl) rfl rfl rfl ?_
    refine hK12 _ _ ?_
    refine g_nil ?_
    refine gk_then (hK9 _ _ ?_)
    refine gc_region ?_
    refine g_v (.free rfl) rfl rfl (qt_move rfl rfl) ?_
    refine g_v (.free rfl) rfl rfl (qt_move rfl rfl) ?_
    refine g_v (.free rfl) rfl rfl (qt_loadS (n := 1) rfl rfl Try.underlying71 rfl (by kernel_rfl) rfl) ?_
    refine g_op (.free rfl) fun K14 hK14 => ?_
    refine go_callVL rfl rfl rfl rfl rfl (fun w M => callsV_f (bnd := []) (vs := [_]) (caps := []) Try.func37 rfl (by decide) (listA_any w (atE es (k : Int)))) ?_
    intro va13 vc13
    refine hK14 _ _ ?_
    refine g_op (.free rfl) fun K16 hK16 => ?_
    refine go_sliceR1 (m := 2) rfl rfl rfl rfl Try.underlying23 rfl ?_
    intro B15
    refine hK16 _ _ ?_
    refine g_op (.free rfl) fun K18 hK18 => ?_
    refine go_appendRow (n := 0) (m := 2) (m' := 1) rfl rfl rfl Try.underlying23 rfl rfl rfl rfl rfl (by omega) ?_
    intro va17 vc17
    refine hK18 _ _ ?_
    refine g_v (.free rfl) rfl rfl (qt_assign rfl rfl) ?_
    refine g_nil ?_
    refine gk_block ?_
    refine gk_then (hK8 _ _ ?_)
    refine gc_region ?_
    refine g_v (.free rfl) rfl rfl (qt_add rfl rfl rfl (by omega)) ?_
    refine g_v (.free rfl) rfl rfl (qt_move rfl rfl) ?_
    refine g_nil ?_
    rw [mapE_succ (by omega)]
    refine gk_then (gk_take 1 ?_)
    refine gk_sub ?hs_19 (hKL5 ((k + 1, _, _, _)) ?hi_19 ?hm_19)
    case hs_19 => exact (sub_cons rfl (sub_cons rfl (sub_cons rfl (sub_cons rfl (sub_cons rfl (sub_cons rfl (sub_cons rfl sub_nil)))))))
    case hi_19 => omega
    case hm_19 => omega
  · try simp only [decide_eq_true_eq, decide_eq_false_iff_not, Bool.not_eq_true', Bool.not_eq_false', Bool.not_eq_eq_eq_not, Bool.not_true, Bool.not_false, ne_eq, Decidable.not_not, Classical.not_not] at hc0
    refine gc_exit ?_
    refine gk_then_exit ?_
    refine gk_then_exit ?_
    refine gk_block_hit ?_
    refine gk_then (hK3 _ _ ?_)
    refine gc_seq fun K20 hK20 => ?_
    refine gc_region ?_
    refine g_v (.free rfl) rfl rfl (qt_move rfl rfl) ?_
    refine g_v (.free rfl) rfl rfl (qt_assign rfl rfl) ?_
    refine g_nil ?_
    refine gk_then (hK20 _ _ ?_)
    refine gc_ret ?_
    refine ret_1 rfl rfl  (fun w M => ?_)
    obtain rfl : k = es.length := by omega
    simp only [List.take_length] at M ⊢
    exact ⟨_, rfl, cm_sl2U (n := 0) M rfl, M.1⟩
theorem cmE_0 {F G : Fct} (h : cmE F G = 0) : (obL F G).length ≤ 8 ∧ (arL F G (obL F G)).length ≤ 40 := by
  by_cases h1 : cspE F G = 0
  · by_cases h2 : (obL F G).length ≤ 8 ∧ (arL F G (obL F G)).length ≤ 40
    · exact h2
    · rw [cme_3 h1 h2] at h; exact absurd h (by decide)
  · rw [cme_1 h1] at h; exact absurd h h1
theorem cmO_len (F G : Fct) : (cmO F G).length ≤ 1000 := by
  by_cases h : cmE F G = 0
  · rw [(cmx_t h).2.2.2.1]; have := (cmE_0 h).1; omega
  · rw [(cmx_n rfl h).2.2.2.1]; simp
theorem cmA_len (F G : Fct) : (cmA F G).length ≤ 1000 := by
  by_cases h : cmE F G = 0
  · rw [(cmx_t h).2.2.2.2.1]; have := (cmE_0 h).2; omega
  · rw [(cmx_n rfl h).2.2.2.2.1]; simp
set_option maxHeartbeats 1000000 in
set_option maxRecDepth 100000 in
theorem impl_CommaCategory (w : World) (v : Value) (F : Fct) (u : Value) (G : Fct) (h : RdF w v F) (e : RdF w u G) :
    Calls Try.prog 10 #[v, u] w (RetCI w (fCommaCategory F G).1 (fCommaCategory F G).2) := by
  have h0 := h
  obtain ⟨vx1, vx2, vx3, vx4, vx5, vx6, vx7, vx8, vx9, vx10, vk1, vk2, vk3, vk4, vk5, vk6, vk7, vk8, vk9, vk10, rfl, h1, h2, h3, h4, h5, h6, h7, h8, h9, h10⟩ := h.lists
  have e0 := e
  obtain ⟨ux1, ux2, ux3, ux4, ux5, ux6, ux7, ux8, ux9, ux10, uk1, uk2, uk3, uk4, uk5, uk6, uk7, uk8, uk9, uk10, rfl, e1, e2, e3, e4, e5, e6, e7, e8, e9, e10⟩ := e.lists
  go_enter Try.func10, Try.ntmps10
  refine gc_enter (N := 17) rfl (look_cons (k := 0) rfl (look_cons (k := 1) rfl (look_nil _))) ?_
  refine gc_seq fun K1 hK1 => ?_
  refine gc_region ?_
  refine g_op (.free rfl) fun K3 hK3 => ?_
  refine go_box rfl rfl rfl rfl rfl ?_
  intro B2
  refine hK3 _ _ ?_
  refine g_op (.free rfl) fun K5 hK5 => ?_
  refine go_box rfl rfl rfl rfl rfl ?_
  intro B4
  refine hK5 _ _ ?_
  refine g_op (.free rfl) fun K7 hK7 => ?_
  refine go_alloc (z := (.agg #[.int .i64 0, .slice none 0 0, .slice none 0 0, .slice none 0 0, .slice none 0 0])) (cs := [.int .i64 0, .slice none 0 0, .slice none 0 0, .slice none 0 0, .slice none 0 0]) rfl rfl rfl (fun w => by kernel_rfl) rfl ?_
  intro B6
  refine hK7 _ _ ?_
  refine g_v (.free rfl) rfl rfl (qt_assign rfl rfl) ?_
  refine g_nil ?_
  refine gk_then (hK1 _ _ ?_)
  refine gc_seq fun K8 hK8 => ?_
  refine gc_region ?_
  refine g_v (.free rfl) rfl rfl (qt_loadS (n := 0) rfl rfl Try.underlying33 rfl (by kernel_rfl) rfl) ?_
  refine g_v (.free rfl) rfl rfl (qt_loadS (n := 1) rfl rfl Try.underlying33 rfl (by kernel_rfl) rfl) ?_
  refine g_op (.free rfl) fun K10 hK10 => ?_
  refine go_callCS rfl rfl rfl Try.func30 rfl (by decide) rfl (fun w M => commaOf_any w _ _ _ _ (mem_rdF M h0) (mem_rdF M e0)) ?_
  intro px1_9 pk1_9 px2_9 pk2_9 px3_9 pk3_9 px4_9 pk4_9 px5_9 pk5_9 px6_9 pk6_9 px7_9 pk7_9 px8_9 pk8_9 px9_9 pk9_9 px10_9 pk10_9 py1_9 pl1_9 py2_9 pl2_9 py3_9 pl3_9 py4_9 pl4_9 py5_9 pl5_9 py6_9 pl6_9 py7_9 pl7_9 py8_9 pl8_9 py9_9 pl9_9 py10_9 pl10_9 pc1_9 pd1_9 pc2_9 pd2_9 pc3_9 pd3_9 pc4_9 pd4_9 oa9 oq9 ra9 rq9 pu9 pv9 pw9 pz9 pp9
  refine hK10 _ _ ?_
  refine g_v (.free rfl) rfl rfl (qt_move rfl rfl) ?_
  refine g_v (.free rfl) rfl rfl (qt_extract rfl rfl rfl) ?_
  refine g_v (.free rfl) rfl rfl (qt_extract rfl rfl rfl) ?_
  refine g_op (.free rfl) fun K12 hK12 => ?_
  refine go_alloc (z := (.agg #[.int .i64 0, .slice none 0 0, .slice none 0 0, .slice none 0 0, .slice none 0 0, .int .i64 0, .slice none 0 0, .slice none 0 0, .slice none 0 0, .slice none 0 0, .slice none 0 0, .slice none 0 0, .int .i64 0, .slice none 0 0, .slice none 0 0, .slice none 0 0, .slice none 0 0, .int .i64 0, .slice none 0 0, .slice none 0 0, .slice none 0 0, .slice none 0 0, .slice none 0 0, .slice none 0 0, .int .i64 0, .slice none 0 0, .slice none 0 0, .slice none 0 0, .slice none 0 0, .slice none 0 0, .slice none 0 0])) (cs := [.int .i64 0, .slice none 0 0, .slice none 0 0, .slice none 0 0, .slice none 0 0, .int .i64 0, .slice none 0 0, .slice none 0 0, .slice none 0 0, .slice none 0 0, .slice none 0 0, .slice none 0 0, .int .i64 0, .slice none 0 0, .slice none 0 0, .slice none 0 0, .slice none 0 0, .int .i64 0, .slice none 0 0, .slice none 0 0, .slice none 0 0, .slice none 0 0, .slice none 0 0, .slice none 0 0, .int .i64 0, .slice none 0 0, .slice none 0 0, .slice none 0 0, .slice none 0 0, .slice none 0 0, .slice none 0 0]) rfl rfl rfl (fun w => by kernel_rfl) rfl ?_
  intro B11
  refine hK12 _ _ ?_
  refine g_op (.free rfl) fun K13 hK13 => ?_
  refine go_storeS (n := 29) rfl rfl rfl rfl (by kernel_rfl) rfl rfl rfl ?_
  refine hK13 _ _ ?_
  refine g_v (.free rfl) rfl rfl (qt_assign rfl rfl) ?_
  refine g_nil ?_
  refine gk_then (hK8 _ _ ?_)
  refine gc_seq fun K14 hK14 => ?_
  refine gc_region ?_
  refine g_v (.free rfl) rfl rfl (qt_field (z := 4) (off := 24) rfl rfl Try.underlying58 rfl (by kernel_rfl) rfl) ?_
  refine g_v (.free rfl) rfl rfl (qt_loadP (n := 29) (z := 5) rfl rfl Try.underlying29 rfl (by kernel_rfl) rfl (by first | decide | exact Nat.le_refl _ | simp)) ?_
  refine g_v (.free rfl) rfl rfl (qt_move rfl rfl) ?_
  refine g_op (.free rfl) fun K15 hK15 => ?_
  refine go_storeS (n := 2) rfl rfl rfl rfl (by kernel_rfl) rfl rfl rfl ?_
  refine hK15 _ _ ?_
  refine g_v (.free rfl) rfl rfl (qt_assign rfl rfl) ?_
  refine g_nil ?_
  refine gk_then (hK14 _ _ ?_)
  refine gc_ret ?_
  refine ret_SI (n := 2) rfl rfl rfl Try.underlying29 rfl (by kernel_rfl) rfl (fun w M => ?_)
  exact ⟨_, rfl, ownC_star (mem_pick (n := 27) (mem_pick (n := 27) (mem_pick (n := 27) (mem_pick (n := 27) (M) rfl) rfl) rfl) rfl).2, M.1⟩
set_option maxHeartbeats 1000000 in
set_option maxRecDepth 100000 in
theorem impl_CommaObjects (w : World) (v : Value) (F : Fct) (u : Value) (G : Fct) (h : RdF w v F) (e : RdF w u G) :
    Calls Try.prog 17 #[v, u] w (RetRI w (fCommaObjects F G).1 (fCommaObjects F G).2) := by
  have h0 := h
  obtain ⟨vx1, vx2, vx3, vx4, vx5, vx6, vx7, vx8, vx9, vx10, vk1, vk2, vk3, vk4, vk5, vk6, vk7, vk8, vk9, vk10, rfl, h1, h2, h3, h4, h5, h6, h7, h8, h9, h10⟩ := h.lists
  have e0 := e
  obtain ⟨ux1, ux2, ux3, ux4, ux5, ux6, ux7, ux8, ux9, ux10, uk1, uk2, uk3, uk4, uk5, uk6, uk7, uk8, uk9, uk10, rfl, e1, e2, e3, e4, e5, e6, e7, e8, e9, e10⟩ := e.lists
  go_enter Try.func17, Try.ntmps17
  refine gc_enter (N := 18) rfl (look_cons (k := 0) rfl (look_cons (k := 1) rfl (look_nil _))) ?_
  refine gc_seq fun K1 hK1 => ?_
  refine gc_region ?_
  refine g_op (.free rfl) fun K3 hK3 => ?_
  refine go_box rfl rfl rfl rfl rfl ?_
  intro B2
  refine hK3 _ _ ?_
  refine g_op (.free rfl) fun K5 hK5 => ?_
  refine go_box rfl rfl rfl rfl rfl ?_
  intro B4
  refine hK5 _ _ ?_
  refine g_v (.free rfl) rfl rfl (qt_assign rfl rfl) ?_
  refine g_v (.free rfl) rfl rfl (qt_assign rfl rfl) ?_
  refine g_nil ?_
  refine gk_then (hK1 _ _ ?_)
  refine gc_seq fun K6 hK6 => ?_
  refine gc_region ?_
  refine g_v (.free rfl) rfl rfl (qt_loadS (n := 0) rfl rfl Try.underlying33 rfl (by kernel_rfl) rfl) ?_
  refine g_v (.free rfl) rfl rfl (qt_loadS (n := 1) rfl rfl Try.underlying33 rfl (by kernel_rfl) rfl) ?_
  refine g_op (.free rfl) fun K8 hK8 => ?_
  refine go_callCS rfl rfl rfl Try.func30 rfl (by decide) rfl (fun w M => commaOf_any w _ _ _ _ (mem_rdF M h0) (mem_rdF M e0)) ?_
  intro px1_7 pk1_7 px2_7 pk2_7 px3_7 pk3_7 px4_7 pk4_7 px5_7 pk5_7 px6_7 pk6_7 px7_7 pk7_7 px8_7 pk8_7 px9_7 pk9_7 px10_7 pk10_7 py1_7 pl1_7 py2_7 pl2_7 py3_7 pl3_7 py4_7 pl4_7 py5_7 pl5_7 py6_7 pl6_7 py7_7 pl7_7 py8_7 pl8_7 py9_7 pl9_7 py10_7 pl10_7 pc1_7 pd1_7 pc2_7 pd2_7 pc3_7 pd3_7 pc4_7 pd4_7 oa7 oq7 ra7 rq7 pu7 pv7 pw7 pz7 pp7
  refine hK8 _ _ ?_
  refine g_v (.free rfl) rfl rfl (qt_move rfl rfl) ?_
  refine g_v (.free rfl) rfl rfl (qt_extract rfl rfl rfl) ?_
  refine g_v (.free rfl) rfl rfl (qt_extract rfl rfl rfl) ?_
  refine g_op (.free rfl) fun K10 hK10 => ?_
  refine go_alloc (z := (.agg #[.int .i64 0, .slice none 0 0, .slice none 0 0, .slice none 0 0, .slice none 0 0, .int .i64 0, .slice none 0 0, .slice none 0 0, .slice none 0 0, .slice none 0 0, .slice none 0 0, .slice none 0 0, .int .i64 0, .slice none 0 0, .slice none 0 0, .slice none 0 0, .slice none 0 0, .int .i64 0, .slice none 0 0, .slice none 0 0, .slice none 0 0, .slice none 0 0, .slice none 0 0, .slice none 0 0, .int .i64 0, .slice none 0 0, .slice none 0 0, .slice none 0 0, .slice none 0 0, .slice none 0 0, .slice none 0 0])) (cs := [.int .i64 0, .slice none 0 0, .slice none 0 0, .slice none 0 0, .slice none 0 0, .int .i64 0, .slice none 0 0, .slice none 0 0, .slice none 0 0, .slice none 0 0, .slice none 0 0, .slice none 0 0, .int .i64 0, .slice none 0 0, .slice none 0 0, .slice none 0 0, .slice none 0 0, .int .i64 0, .slice none 0 0, .slice none 0 0, .slice none 0 0, .slice none 0 0, .slice none 0 0, .slice none 0 0, .int .i64 0, .slice none 0 0, .slice none 0 0, .slice none 0 0, .slice none 0 0, .slice none 0 0, .slice none 0 0]) rfl rfl rfl (fun w => by kernel_rfl) rfl ?_
  intro B9
  refine hK10 _ _ ?_
  refine g_op (.free rfl) fun K11 hK11 => ?_
  refine go_storeS (n := 28) rfl rfl rfl rfl (by kernel_rfl) rfl rfl rfl ?_
  refine hK11 _ _ ?_
  refine g_v (.free rfl) rfl rfl (qt_assign rfl rfl) ?_
  refine g_nil ?_
  refine gk_then (hK6 _ _ ?_)
  refine gc_seq fun K12 hK12 => ?_
  refine gc_region ?_
  refine g_v (.free rfl) rfl rfl (qt_field (z := 0) (off := 29) rfl rfl Try.underlying58 rfl (by kernel_rfl) rfl) ?_
  refine g_v (.free rfl) rfl rfl (qt_loadB (n := 28) rfl rfl Try.underlying55 rfl rfl rfl) ?_
  refine g_op (.free rfl) fun K14 hK14 => ?_
  refine go_callR rfl rfl rfl Try.func34 rfl (by decide) rfl (fun w M => each_row3 w _ _ _ (cmO_len F G) (mem_ownE0 (n := 22) M rfl)) ?_
  intro va13 vc13 us13
  refine hK14 _ _ ?_
  refine g_v (.free rfl) rfl rfl (qt_move rfl rfl) ?_
  refine g_v (.free rfl) rfl rfl (qt_assign rfl rfl) ?_
  refine g_v (.free rfl) rfl rfl (qt_assign rfl rfl) ?_
  refine g_nil ?_
  refine gk_then (hK12 _ _ ?_)
  refine gc_ret ?_
  refine ret_2 rfl rfl rfl  (fun w M => ?_)
  exact ⟨_, rfl, cm_sl2U (n := 29) M rfl, M.1⟩
set_option maxHeartbeats 1000000 in
set_option maxRecDepth 100000 in
theorem impl_CommaArrows (w : World) (v : Value) (F : Fct) (u : Value) (G : Fct) (h : RdF w v F) (e : RdF w u G) :
    Calls Try.prog 22 #[v, u] w (RetRI w (fCommaArrows F G).1 (fCommaArrows F G).2) := by
  have h0 := h
  obtain ⟨vx1, vx2, vx3, vx4, vx5, vx6, vx7, vx8, vx9, vx10, vk1, vk2, vk3, vk4, vk5, vk6, vk7, vk8, vk9, vk10, rfl, h1, h2, h3, h4, h5, h6, h7, h8, h9, h10⟩ := h.lists
  have e0 := e
  obtain ⟨ux1, ux2, ux3, ux4, ux5, ux6, ux7, ux8, ux9, ux10, uk1, uk2, uk3, uk4, uk5, uk6, uk7, uk8, uk9, uk10, rfl, e1, e2, e3, e4, e5, e6, e7, e8, e9, e10⟩ := e.lists
  go_enter Try.func22, Try.ntmps22
  refine gc_enter (N := 18) rfl (look_cons (k := 0) rfl (look_cons (k := 1) rfl (look_nil _))) ?_
  refine gc_seq fun K1 hK1 => ?_
  refine gc_region ?_
  refine g_op (.free rfl) fun K3 hK3 => ?_
  refine go_box rfl rfl rfl rfl rfl ?_
  intro B2
  refine hK3 _ _ ?_
  refine g_op (.free rfl) fun K5 hK5 => ?_
  refine go_box rfl rfl rfl rfl rfl ?_
  intro B4
  refine hK5 _ _ ?_
  refine g_v (.free rfl) rfl rfl (qt_assign rfl rfl) ?_
  refine g_v (.free rfl) rfl rfl (qt_assign rfl rfl) ?_
  refine g_nil ?_
  refine gk_then (hK1 _ _ ?_)
  refine gc_seq fun K6 hK6 => ?_
  refine gc_region ?_
  refine g_v (.free rfl) rfl rfl (qt_loadS (n := 0) rfl rfl Try.underlying33 rfl (by kernel_rfl) rfl) ?_
  refine g_v (.free rfl) rfl rfl (qt_loadS (n := 1) rfl rfl Try.underlying33 rfl (by kernel_rfl) rfl) ?_
  refine g_op (.free rfl) fun K8 hK8 => ?_
  refine go_callCS rfl rfl rfl Try.func30 rfl (by decide) rfl (fun w M => commaOf_any w _ _ _ _ (mem_rdF M h0) (mem_rdF M e0)) ?_
  intro px1_7 pk1_7 px2_7 pk2_7 px3_7 pk3_7 px4_7 pk4_7 px5_7 pk5_7 px6_7 pk6_7 px7_7 pk7_7 px8_7 pk8_7 px9_7 pk9_7 px10_7 pk10_7 py1_7 pl1_7 py2_7 pl2_7 py3_7 pl3_7 py4_7 pl4_7 py5_7 pl5_7 py6_7 pl6_7 py7_7 pl7_7 py8_7 pl8_7 py9_7 pl9_7 py10_7 pl10_7 pc1_7 pd1_7 pc2_7 pd2_7 pc3_7 pd3_7 pc4_7 pd4_7 oa7 oq7 ra7 rq7 pu7 pv7 pw7 pz7 pp7
  refine hK8 _ _ ?_
  refine g_v (.free rfl) rfl rfl (qt_move rfl rfl) ?_
  refine g_v (.free rfl) rfl rfl (qt_extract rfl rfl rfl) ?_
  refine g_v (.free rfl) rfl rfl (qt_extract rfl rfl rfl) ?_
  refine g_op (.free rfl) fun K10 hK10 => ?_
  refine go_alloc (z := (.agg #[.int .i64 0, .slice none 0 0, .slice none 0 0, .slice none 0 0, .slice none 0 0, .int .i64 0, .slice none 0 0, .slice none 0 0, .slice none 0 0, .slice none 0 0, .slice none 0 0, .slice none 0 0, .int .i64 0, .slice none 0 0, .slice none 0 0, .slice none 0 0, .slice none 0 0, .int .i64 0, .slice none 0 0, .slice none 0 0, .slice none 0 0, .slice none 0 0, .slice none 0 0, .slice none 0 0, .int .i64 0, .slice none 0 0, .slice none 0 0, .slice none 0 0, .slice none 0 0, .slice none 0 0, .slice none 0 0])) (cs := [.int .i64 0, .slice none 0 0, .slice none 0 0, .slice none 0 0, .slice none 0 0, .int .i64 0, .slice none 0 0, .slice none 0 0, .slice none 0 0, .slice none 0 0, .slice none 0 0, .slice none 0 0, .int .i64 0, .slice none 0 0, .slice none 0 0, .slice none 0 0, .slice none 0 0, .int .i64 0, .slice none 0 0, .slice none 0 0, .slice none 0 0, .slice none 0 0, .slice none 0 0, .slice none 0 0, .int .i64 0, .slice none 0 0, .slice none 0 0, .slice none 0 0, .slice none 0 0, .slice none 0 0, .slice none 0 0]) rfl rfl rfl (fun w => by kernel_rfl) rfl ?_
  intro B9
  refine hK10 _ _ ?_
  refine g_op (.free rfl) fun K11 hK11 => ?_
  refine go_storeS (n := 28) rfl rfl rfl rfl (by kernel_rfl) rfl rfl rfl ?_
  refine hK11 _ _ ?_
  refine g_v (.free rfl) rfl rfl (qt_assign rfl rfl) ?_
  refine g_nil ?_
  refine gk_then (hK6 _ _ ?_)
  refine gc_seq fun K12 hK12 => ?_
  refine gc_region ?_
  refine g_v (.free rfl) rfl rfl (qt_field (z := 0) (off := 30) rfl rfl Try.underlying58 rfl (by kernel_rfl) rfl) ?_
  refine g_v (.free rfl) rfl rfl (qt_loadB (n := 28) rfl rfl Try.underlying56 rfl rfl rfl) ?_
  refine g_op (.free rfl) fun K14 hK14 => ?_
  refine go_callR rfl rfl rfl Try.func36 rfl (by decide) rfl (fun w M => each_row4 w _ _ _ (cmA_len F G) (mem_ownE0 (n := 27) M rfl)) ?_
  intro va13 vc13 us13
  refine hK14 _ _ ?_
  refine g_v (.free rfl) rfl rfl (qt_move rfl rfl) ?_
  refine g_v (.free rfl) rfl rfl (qt_assign rfl rfl) ?_
  refine g_v (.free rfl) rfl rfl (qt_assign rfl rfl) ?_
  refine g_nil ?_
  refine gk_then (hK12 _ _ ?_)
  refine gc_ret ?_
  refine ret_2 rfl rfl rfl  (fun w M => ?_)
  exact ⟨_, rfl, cm_sl2U (n := 29) M rfl, M.1⟩
end Go.Proofs.Ytpcabkdkdnchaaa
