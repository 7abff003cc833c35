
/- Connected objects: both sides. -/
import Derived.Test.YtbfenibkbmkcaaaHomL
import Derived.Test.YtbfenibkbmkcaaaRul7
set_option linter.unusedSimpArgs false
set_option linter.unusedVariables false
set_option linter.unusedSectionVars false
namespace Go.Proofs.Ytbfenibkbmkcaaa
open Go.RowKit


def endsL (c : Cat) (n : Nat) : List (List Int) := (List.range n).map fun (f : Nat) => [at0 c.s f, at0 c.t f]
theorem endsL_len (c : Cat) (n : Nat) : (endsL c n).length = n := by simp [endsL]
theorem endsL_succ (c : Cat) (n : Nat) : endsL c n ++ [[at0 c.s n, at0 c.t n]] = endsL c (n + 1) := by simp [endsL, List.range_succ]
theorem endsL_pair {c : Cat} (hS : ShapeP c) : ∀ r ∈ endsL c c.s.length, PairP c.ob.toNat r := by
  intro r hr
  simp only [endsL, List.mem_map, List.mem_range] at hr
  obtain ⟨f, hf, rfl⟩ := hr
  have h1 := allP_at hS.sa hf
  have h2 := allP_at hS.ta (k := f) (by rw [hS.tl]; exact hf)
  have h3 := hS.ob0
  exact ⟨rfl, allP_two.2 ⟨⟨h1.1, by omega⟩, h2.1, by omega⟩⟩
theorem endsL_pair2 {c : Cat} (hS : ShapeP c) {k : Nat} (h : k = c.s.length) : ∀ r ∈ endsL c k, PairP c.ob.toNat r := by subst h; exact endsL_pair hS
theorem specJoinC_any (w : World) (n : Int) (v : Value) (ps : List (List Int)) (h0 : 0 ≤ n) (h8 : n ≤ 8) (h : Rd2 w v ps) (hps : ∀ r ∈ ps, PairP n.toNat r) : Calls Try.prog 66 #[.int .i64 n, v] w (RetL w (clsOf (specL n.toNat ps))) := by
  obtain ⟨k, rfl⟩ := Int.eq_ofNat_of_zero_le h0
  exact specJoin_any w k v ps (by omega) h hps
noncomputable def fConnectedObjects (c : Cat) : List Int × Int := if fIsCategory c = true then (clsOf (specL c.ob.toNat (endsL c c.s.length)), 0) else ([], 1)
theorem conn_f {c : Cat} (h : fIsCategory c = false) : fConnectedObjects c = ([], 1) := if_neg (by rw [h]; decide)
theorem conn_t {c : Cat} (h : fIsCategory c = true) : fConnectedObjects c = (clsOf (specL c.ob.toNat (endsL c c.s.length)), 0) := if_pos h
theorem implL_len' (c : Cat) (k : Nat) : ((implL c.ob.toNat (endsL c k)).length : Int) = c.ob.toNat := by rw [implL_len]
theorem implL_next (c : Cat) (k : Nat) : mergeR (implL c.ob.toNat (endsL c k)) ((implL c.ob.toNat (endsL c k)).getD (at0 c.s k).toNat 0) ((implL c.ob.toNat (endsL c k)).getD (at0 c.t k).toNat 0) = implL c.ob.toNat (endsL c (k + 1)) := by
  rw [← endsL_succ, implL_snoc]; rfl

set_option maxHeartbeats 1000000 in
set_option maxRecDepth 100000 in
theorem spec_ConnectedObjects (w : World) (v : Value) (c : Cat) (h : RdC w v c) :
    Calls Try.prog 48 #[v] w (RetLI w (fConnectedObjects c).1 (fConnectedObjects c).2) := by
  have h0 := h
  obtain ⟨va, vb, vc, vd, ve, vf, vg, vh, rfl, h1, h2, h3, h4, _⟩ := h.lists
  go_enter Try.func48, Try.ntmps48
  refine gc_enter (N := 35) rfl (look_cons (k := 0) rfl (look_nil _)) ?_
  refine gc_seq fun K1 hK1 => ?_
  refine gc_region ?_
  refine g_op (.free rfl) fun K3 hK3 => ?_
  refine go_box rfl rfl rfl rfl rfl ?_
  intro B2
  refine hK3 _ _ ?_
  refine g_v (.free rfl) rfl rfl (qt_assign rfl rfl) ?_
  refine g_v (.free rfl) rfl rfl (qt_assign rfl rfl) ?_
  refine g_nil ?_
  refine gk_then (hK1 _ _ ?_)
  refine gc_seq fun K4 hK4 => ?_
  refine gc_seq fun K5 hK5 => ?_
  refine gc_region ?_
  refine g_v (.free rfl) rfl rfl (qt_loadS (n := 0) rfl rfl Try.underlying44 rfl (by kernel_rfl) rfl) ?_
  refine g_q (.free rfl) rfl rfl (qt_call rfl Try.func87 rfl (by decide) rfl (fun w M => specIs_any w _ _ (mem_rdC M h0))) ?_
  refine g_v (.free rfl) rfl rfl (qt_not rfl rfl) ?_
  refine g_nil ?_
  refine gk_then (hK5 _ _ ?_)
  refine gc_cond rfl (fun hc0 => ?_) (fun hc0 => ?_)
  · try simp only [decide_eq_true_eq, decide_eq_false_iff_not, Bool.not_eq_true', Bool.not_eq_false', Bool.not_eq_eq_eq_not, Bool.not_true, Bool.not_false, ne_eq, Decidable.not_not, Classical.not_not] at hc0
    refine gc_seq fun K6 hK6 => ?_
    refine gc_region ?_
    refine g_v (.free rfl) rfl rfl (qt_assign rfl rfl) ?_
    refine g_v (.free rfl) rfl rfl (qt_assign rfl rfl) ?_
    refine g_nil ?_
    refine gk_then (hK6 _ _ ?_)
    refine gc_ret ?_
    refine gk_then_ret ?_
    refine ret_2 rfl rfl rfl  (fun w M => ?_)
    rw [conn_f hc0]; exact ⟨_, rfl, Sl.nil _ _, M.1⟩
  · try simp only [decide_eq_true_eq, decide_eq_false_iff_not, Bool.not_eq_true', Bool.not_eq_false', Bool.not_eq_eq_eq_not, Bool.not_true, Bool.not_false, ne_eq, Decidable.not_not, Classical.not_not] at hc0
    refine gc_skip ?_
    refine gk_then (hK4 _ _ ?_)
    refine gc_seq fun K7 hK7 => ?_
    have hS := (isCat_of hc0).toShapeP
    have hn40 := hS.n40; have htl := hS.tl; have hob0 := hS.ob0; have hob8 := hS.ob8
    refine gc_region ?_
    refine g_op (.free rfl) fun K9 hK9 => ?_
    refine go_sliceR0 rfl rfl rfl Try.underlying32 ?_
    intro B8
    refine hK9 _ _ ?_
    refine g_v (.free rfl) rfl rfl (qt_assign rfl rfl) ?_
    refine g_nil ?_
    refine gk_then (hK7 _ _ ?_)
    refine gc_seq fun K10 hK10 => ?_
    refine gc_seq fun K11 hK11 => ?_
    refine gc_region ?_
    refine g_v (.free rfl) rfl rfl (qt_assign rfl rfl) ?_
    refine g_nil ?_
    refine gk_then (hK11 _ _ ?_)
    refine gc_block ?_
    try simp only [List.nil_append, List.cons_append, List.append_assoc, List.set_cons_succ, List.set_cons_zero]
    refine gc_loop ([(0, _), (1, _), (2, _), (3, _), (8, _)] : Env) (fun s : Nat × (Option Addr) × Nat × (List Value) => (fun (k : Nat) (a : Option Addr) (q : Nat) (us : List Value) => ([(4, .slice a (endsL c k).length q), (5, .int .i64 (k : Int))] : Env)) s.1 s.2.1 s.2.2.1 s.2.2.2) (fun s : Nat × (Option Addr) × Nat × (List Value) => (fun (k : Nat) (a : Option Addr) (q : Nat) (us : List Value) => ([(1, own2U (.slice a (endsL c k).length q) us (endsL c k))] : List (Nat × Itm))) s.1 s.2.1 s.2.2.1 s.2.2.2) (fun s : Nat × (Option Addr) × Nat × (List Value) => (fun (k : Nat) (a : Option Addr) (q : Nat) (us : List Value) => k ≤ c.s.length) s.1 s.2.1 s.2.2.1 s.2.2.2) (fun s : Nat × (Option Addr) × Nat × (List Value) => (fun (k : Nat) (a : Option Addr) (q : Nat) (us : List Value) => c.s.length - k) s.1 s.2.1 s.2.2.1 s.2.2.2) ((0, _, _, _)) (sub_cons rfl (sub_cons rfl (sub_cons rfl (sub_cons rfl (sub_cons rfl (sub_cons rfl (sub_cons rfl sub_nil))))))) rfl (Nat.zero_le _) ?_
    rintro ⟨k, a, q, us⟩ hinv KL12 hKL12
    simp only [updL, List.foldl_cons, List.foldl_nil, List.set_cons_succ, List.set_cons_zero, List.cons_append, List.nil_append] at hinv hKL12 ⊢
    have hk := hinv
    have hl := endsL_len c k
    refine gc_seq fun K13 hK13 => ?_
    refine gc_seq fun K14 hK14 => ?_
    refine gc_region ?_
    refine g_v (.free rfl) rfl rfl (qt_move rfl rfl) ?_
    refine g_v (.free rfl) rfl rfl (qt_field (z := 0) (off := 1) rfl rfl Try.underlying44 rfl (by kernel_rfl) rfl) ?_
    refine g_v (.free rfl) rfl rfl (qt_loadB (n := 0) rfl rfl Try.underlying22 rfl rfl rfl) ?_
    refine g_v (.free rfl) rfl rfl (qt_len rfl rfl ulE1 (fun w M => lenV_rd h1)) ?_
    refine g_v (.free rfl) rfl rfl (qt_lss rfl rfl rfl) ?_
    refine g_nil ?_
    refine gk_then (hK14 _ _ ?_)
    refine gc_cond rfl (fun hc1 => ?_) (fun hc1 => ?_)
    · try simp only [decide_eq_true_eq, decide_eq_false_iff_not, Bool.not_eq_true', Bool.not_eq_false', Bool.not_eq_eq_eq_not, Bool.not_true, Bool.not_false, ne_eq, Decidable.not_not, Classical.not_not] at hc1
      refine gc_skip ?_
      refine gk_then (hK13 _ _ ?_)
      refine gc_seq fun K15 hK15 => ?_
      refine gc_block ?_
      try simp only [List.nil_append, List.cons_append, List.append_assoc, List.set_cons_succ, List.set_cons_zero]
      refine ga_start _ (fun w M => mem_erase 1 (M)) ?_
      refine ga_v 0 rfl (by kernel_rfl) (by kernel_rfl) (by kernel_rfl) (.free rfl) rfl rfl (qt_move rfl rfl) (fun _ _ _ h => h) ?_
      refine ga_v 1 rfl (by kernel_rfl) (by kernel_rfl) (by kernel_rfl) (.free rfl) rfl rfl (qt_field (z := 0) (off := 1) rfl rfl Try.underlying44 rfl (by kernel_rfl) rfl) (fun _ _ _ h => h) ?_
      refine ga_v 2 rfl (by kernel_rfl) (by kernel_rfl) (by kernel_rfl) (.free rfl) rfl rfl (qt_loadB (n := 0) rfl rfl Try.underlying22 rfl rfl rfl) (fun _ _ _ h => h) ?_
      refine ga_v 3 rfl (by kernel_rfl) (by kernel_rfl) (by kernel_rfl) (.free rfl) rfl rfl (qt_move rfl rfl) (fun _ _ _ h => h) ?_
      refine ga_v 4 rfl (by kernel_rfl) (by kernel_rfl) (by kernel_rfl) (.free rfl) rfl rfl (qt_index rfl rfl rfl ulE1 szE1 (fun w M => lenA_rd h1) (by omega) (by omega)) (fun _ _ _ h => h) ?_
      refine ga_v 5 rfl (by kernel_rfl) (by kernel_rfl) (by kernel_rfl) (.free rfl) rfl rfl (qt_load1 rfl rfl Try.underlying2 rfl (fun w M => mem_rd M h1) (by omega) (by omega)) (fun _ _ _ h => h) ?_
      refine ga_v 6 rfl (by kernel_rfl) (by kernel_rfl) (by kernel_rfl) (.free rfl) rfl rfl (qt_field (z := 0) (off := 2) rfl rfl Try.underlying44 rfl (by kernel_rfl) rfl) (fun _ _ _ h => h) ?_
      refine ga_v 7 rfl (by kernel_rfl) (by kernel_rfl) (by kernel_rfl) (.free rfl) rfl rfl (qt_loadB (n := 0) rfl rfl Try.underlying22 rfl rfl rfl) (fun _ _ _ h => h) ?_
      refine ga_v 8 rfl (by kernel_rfl) (by kernel_rfl) (by kernel_rfl) (.free rfl) rfl rfl (qt_move rfl rfl) (fun _ _ _ h => h) ?_
      refine ga_v 9 rfl (by kernel_rfl) (by kernel_rfl) (by kernel_rfl) (.free rfl) rfl rfl (qt_index rfl rfl rfl ulE1 szE1 (fun w M => lenA_rd h2) (by omega) (by omega)) (fun _ _ _ h => h) ?_
      refine ga_v 10 rfl (by kernel_rfl) (by kernel_rfl) (by kernel_rfl) (.free rfl) rfl rfl (qt_load1 rfl rfl Try.underlying2 rfl (fun w M => mem_rd M h2) (by omega) (by omega)) (fun _ _ _ h => h) ?_
      refine ga_op 11 (by kernel_rfl) rfl (.free rfl) fun K17 hK17 => ?_
      refine go_slice2 rfl rfl rfl rfl rfl Try.underlying22 ?_
      intro B16
      refine hK17 _ _ (fun w M => (mem_erase 1 (mem_take 2 M) :)) ?_
      refine ga_op 12 (by kernel_rfl) rfl (.free rfl) fun K19 hK19 => ?_
      refine go_sliceR1 (m := 2) rfl rfl rfl rfl Try.underlying32 rfl ?_
      intro B18
      refine hK19 _ _ (fun w M => (mem_erase 1 (mem_take 2 M) :)) ?_
      refine ga_op 13 (by kernel_rfl) rfl (.free rfl) fun K21 hK21 => ?_
      refine go_appendRow (n := 1) (m := 2) (m' := 1) rfl rfl rfl Try.underlying32 rfl rfl rfl rfl rfl (by omega) ?_
      intro va20 vc20
      refine hK21 _ _ (fun w M => (mem_erase 1 (mem_take 2 M) :)) ?_
      refine ga_v 14 rfl (by kernel_rfl) (by kernel_rfl) (by kernel_rfl) (.free rfl) rfl rfl (qt_assign rfl rfl) (fun _ _ _ h => h) ?_
      refine ga_done (by kernel_rfl) ?_
      refine gk_block ?_
      refine gk_then (hK15 _ _ ?_)
      refine gc_region ?_
      refine g_v (.free rfl) rfl rfl (qt_move rfl rfl) ?_
      refine g_v (.free rfl) rfl rfl (qt_add rfl rfl rfl (by omega)) ?_
      refine g_v (.free rfl) rfl rfl (qt_assign rfl rfl) ?_
      refine g_nil ?_
      simp only [endsL_succ]
      refine gk_then (gk_take 2 ?_)
      refine gk_sub ?hs_22 (hKL12 (k + 1, _, _, _) ?hi_22 ?hm_22)
      case hs_22 => exact (sub_cons rfl (sub_cons rfl (sub_cons rfl (sub_cons rfl (sub_cons rfl (sub_cons rfl (sub_cons rfl sub_nil)))))))
      case hi_22 => omega
      case hm_22 => omega
    · try simp only [decide_eq_true_eq, decide_eq_false_iff_not, Bool.not_eq_true', Bool.not_eq_false', Bool.not_eq_eq_eq_not, Bool.not_true, Bool.not_false, ne_eq, Decidable.not_not, Classical.not_not] at hc1
      refine gc_exit ?_
      refine gk_then_exit ?_
      refine gk_then_exit ?_
      refine gk_block_hit ?_
      refine gk_then (hK10 _ _ ?_)
      refine gc_seq fun K23 hK23 => ?_
      refine gc_region ?_
      refine g_v (.free rfl) rfl rfl (qt_field (z := 0) (off := 0) rfl rfl Try.underlying44 rfl (by kernel_rfl) rfl) ?_
      refine g_v (.free rfl) rfl rfl (qt_loadB (n := 0) rfl rfl Try.underlying2 rfl rfl rfl) ?_
      refine g_v (.free rfl) rfl rfl (qt_move rfl rfl) ?_
      refine g_op (.free rfl) fun K25 hK25 => ?_
      refine go_callL rfl rfl rfl Try.func66 rfl (by decide) rfl (fun w M => specJoinC_any w _ _ _ (hob0) (hob8) (mem_rdU (n := 1) M rfl) (endsL_pair2 hS (by omega))) ?_
      intro va24 vc24
      refine hK25 _ _ ?_
      refine g_v (.free rfl) rfl rfl (qt_assign rfl rfl) ?_
      refine g_v (.free rfl) rfl rfl (qt_assign rfl rfl) ?_
      refine g_nil ?_
      refine gk_then (hK23 _ _ ?_)
      refine gc_ret ?_
      refine ret_2 rfl rfl rfl  (fun w M => ?_)
      obtain rfl : k = c.s.length := by omega
      rw [conn_t hc0]
      exact ⟨_, rfl, mem_own1 (n := 2) M rfl, M.1⟩

set_option maxHeartbeats 1000000 in
set_option maxRecDepth 100000 in
theorem impl_ConnectedObjects (w : World) (v : Value) (c : Cat) (h : RdC w v c) :
    Calls Try.prog 49 #[v] w (RetLI w (fConnectedObjects c).1 (fConnectedObjects c).2) := by
  have h0 := h
  obtain ⟨va, vb, vc, vd, ve, vf, vg, vh, rfl, h1, h2, h3, h4, _⟩ := h.lists
  go_enter Try.func49, Try.ntmps49
  refine gc_enter (N := 39) rfl (look_cons (k := 0) rfl (look_nil _)) ?_
  refine gc_seq fun K1 hK1 => ?_
  refine gc_region ?_
  refine g_op (.free rfl) fun K3 hK3 => ?_
  refine go_box rfl rfl rfl rfl rfl ?_
  intro B2
  refine hK3 _ _ ?_
  refine g_v (.free rfl) rfl rfl (qt_assign rfl rfl) ?_
  refine g_v (.free rfl) rfl rfl (qt_assign rfl rfl) ?_
  refine g_nil ?_
  refine gk_then (hK1 _ _ ?_)
  refine gc_seq fun K4 hK4 => ?_
  refine gc_region ?_
  refine g_v (.free rfl) rfl rfl (qt_loadS (n := 0) rfl rfl Try.underlying44 rfl (by kernel_rfl) rfl) ?_
  refine g_op (.free rfl) fun K6 hK6 => ?_
  refine go_callCI rfl rfl rfl Try.func89 rfl (by decide) rfl (fun w M => readCat_any w _ _ (mem_rdC M h0)) ?_
  intro ca5 cb5 cc5 cd5 ce5 cf5 cg5 ch5 cu5
  refine hK6 _ _ ?_
  refine g_v (.free rfl) rfl rfl (qt_move rfl rfl) ?_
  refine g_v (.free rfl) rfl rfl (qt_extract rfl rfl rfl) ?_
  refine g_v (.free rfl) rfl rfl (qt_extract rfl rfl rfl) ?_
  refine g_op (.free rfl) fun K8 hK8 => ?_
  refine go_alloc (z := (.agg #[.int .i64 0, .slice none 0 0, .slice none 0 0, .slice none 0 0, .slice none 0 0])) (cs := [.int .i64 0, .slice none 0 0, .slice none 0 0, .slice none 0 0, .slice none 0 0]) rfl rfl rfl (fun w => by kernel_rfl) rfl ?_
  intro B7
  refine hK8 _ _ ?_
  refine g_op (.free rfl) fun K9 hK9 => ?_
  refine go_storeS (n := 5) rfl rfl rfl rfl (by kernel_rfl) rfl rfl rfl ?_
  refine hK9 _ _ ?_
  refine g_v (.free rfl) rfl rfl (qt_assign rfl rfl) ?_
  refine g_nil ?_
  refine gk_then (hK4 _ _ ?_)
  refine gc_seq fun K10 hK10 => ?_
  refine gc_seq fun K11 hK11 => ?_
  refine gc_region ?_
  refine g_v (.free rfl) rfl rfl (qt_move rfl rfl) ?_
  refine g_v (.free rfl) rfl rfl (qt_neq rfl rfl rfl) ?_
  refine g_nil ?_
  refine gk_then (hK11 _ _ ?_)
  refine gc_cond rfl (fun hc0 => ?_) (fun hc0 => ?_)
  · try simp only [decide_eq_true_eq, decide_eq_false_iff_not, Bool.not_eq_true', Bool.not_eq_false', Bool.not_eq_eq_eq_not, Bool.not_true, Bool.not_false, ne_eq, Decidable.not_not, Classical.not_not] at hc0
    refine gc_seq fun K12 hK12 => ?_
    refine gc_region ?_
    refine g_v (.free rfl) rfl rfl (qt_move rfl rfl) ?_
    refine g_v (.free rfl) rfl rfl (qt_assign rfl rfl) ?_
    refine g_v (.free rfl) rfl rfl (qt_assign rfl rfl) ?_
    refine g_nil ?_
    refine gk_then (hK12 _ _ ?_)
    refine gc_ret ?_
    refine gk_then_ret ?_
    refine ret_2 rfl rfl rfl  (fun w M => ?_)
    rw [(catErr_n hc0).2, conn_f (catErr_n hc0).1]; exact ⟨_, rfl, Sl.nil _ _, M.1⟩
  · try simp only [decide_eq_true_eq, decide_eq_false_iff_not, Bool.not_eq_true', Bool.not_eq_false', Bool.not_eq_eq_eq_not, Bool.not_true, Bool.not_false, ne_eq, Decidable.not_not, Classical.not_not] at hc0
    refine gc_skip ?_
    refine gk_then (hK10 _ _ ?_)
    refine gc_seq fun K13 hK13 => ?_
    have hI := catErr_0 hc0
    simp only [catCat_t hc0]
    have hS := (isCat_of hI).toShapeP
    have hn40 := hS.n40; have htl := hS.tl; have hob0 := hS.ob0; have hob8 := hS.ob8
    refine gc_region ?_
    refine g_v (.free rfl) rfl rfl (qt_field (z := 0) (off := 0) rfl rfl Try.underlying44 rfl (by kernel_rfl) rfl) ?_
    refine g_v (.free rfl) rfl rfl (qt_loadB (n := 5) rfl rfl Try.underlying2 rfl rfl rfl) ?_
    refine g_op (.free rfl) fun K15 hK15 => ?_
    refine go_newLeaders rfl rfl rfl Try.func67 rfl (by decide) rfl (by omega) (by omega) rfl ?_
    intro B14
    refine hK15 _ _ ?_
    refine g_v (.free rfl) rfl rfl (qt_assign rfl rfl) ?_
    refine g_nil ?_
    refine gk_then (hK13 _ _ ?_)
    refine gc_seq fun K16 hK16 => ?_
    refine gc_seq fun K17 hK17 => ?_
    refine gc_region ?_
    refine g_v (.free rfl) rfl rfl (qt_loadS (n := 5) rfl rfl Try.underlying44 rfl (by kernel_rfl) rfl) ?_
    refine g_q (.free rfl) rfl rfl (qt_call rfl Try.func83 rfl (by decide) rfl (fun w M => arrows_any w _ _ (rdC_mk ((mem_own1 (n := 1) M rfl).rd) ((mem_own1 (n := 2) M rfl).rd) ((mem_own1 (n := 3) M rfl).rd) (mem_rdU (n := 4) M rfl)))) ?_
    refine g_v (.free rfl) rfl rfl (qt_move rfl rfl) ?_
    refine g_nil ?_
    refine gk_then (hK17 _ _ ?_)
    refine gc_block ?_
    try simp only [List.nil_append, List.cons_append, List.append_assoc, List.set_cons_succ, List.set_cons_zero]
    refine gc_loop ([(0, _), (1, _), (2, _), (3, _), (4, _), (5, _), (6, _), (14, _), (20, _)] : Env) (fun s : Nat => (fun (k : Nat) => ([(21, .int .i64 (k : Int))] : Env)) s) (fun s : Nat => (fun (k : Nat) => ([(6, leadI (.slice (some ⟨B14, 0, none⟩) c.ob.toNat c.ob.toNat) (implL c.ob.toNat (endsL c k)))] : List (Nat × Itm))) s) (fun s : Nat => (fun (k : Nat) => k ≤ c.s.length) s) (fun s : Nat => (fun (k : Nat) => c.s.length - k) s) (0) (sub_cons rfl (sub_cons rfl (sub_cons rfl (sub_cons rfl (sub_cons rfl (sub_cons rfl (sub_cons rfl (sub_cons rfl (sub_cons rfl (sub_cons rfl sub_nil)))))))))) rfl (Nat.zero_le _) ?_
    rintro k hinv KL18 hKL18
    simp only [updL, List.foldl_cons, List.foldl_nil, List.set_cons_succ, List.set_cons_zero, List.cons_append, List.nil_append] at hinv hKL18 ⊢
    have hk := hinv
    have hl := implL_len' c k
    have hsa : k < c.s.length → _ := fun h => allP_at hS.sa h
    have hta : k < c.s.length → _ := fun h => allP_at hS.ta (k := k) (by omega)
    refine gc_seq fun K19 hK19 => ?_
    refine gc_region ?_
    refine g_v (.free rfl) rfl rfl (qt_lss rfl rfl rfl) ?_
    refine g_nil ?_
    refine gk_then (hK19 _ _ ?_)
    refine gc_seq fun K20 hK20 => ?_
    refine gc_cond rfl (fun hc1 => ?_) (fun hc1 => ?_)
    · try simp only [decide_eq_true_eq, decide_eq_false_iff_not, Bool.not_eq_true', Bool.not_eq_false', Bool.not_eq_eq_eq_not, Bool.not_true, Bool.not_false, ne_eq, Decidable.not_not, Classical.not_not] at hc1
      refine gc_skip ?_
      refine gk_then (hK20 _ _ ?_)
      refine gc_seq fun K21 hK21 => ?_
      refine gc_block ?_
      refine gc_seq fun K22 hK22 => ?_
      refine gc_region ?_
      refine g_v (.free rfl) rfl rfl (qt_move rfl rfl) ?_
      refine g_v (.free rfl) rfl rfl (qt_assign rfl rfl) ?_
      refine g_nil ?_
      refine gk_then (hK22 _ _ ?_)
      try simp only [List.nil_append, List.cons_append, List.append_assoc, List.set_cons_succ, List.set_cons_zero]
      refine ga_start _ (fun w M => mem_erase 6 (M)) ?_
      refine ga_v 0 rfl (by kernel_rfl) (by kernel_rfl) (by kernel_rfl) (.free rfl) rfl rfl (qt_move rfl rfl) (fun _ _ _ h => h) ?_
      refine ga_v 1 rfl (by kernel_rfl) (by kernel_rfl) (by kernel_rfl) (.free rfl) rfl rfl (qt_field (z := 0) (off := 1) rfl rfl Try.underlying44 rfl (by kernel_rfl) rfl) (fun _ _ _ h => h) ?_
      refine ga_v 2 rfl (by kernel_rfl) (by kernel_rfl) (by kernel_rfl) (.free rfl) rfl rfl (qt_loadB (n := 5) rfl rfl Try.underlying22 rfl rfl rfl) (fun _ _ _ h => h) ?_
      refine ga_v 3 rfl (by kernel_rfl) (by kernel_rfl) (by kernel_rfl) (.free rfl) rfl rfl (qt_move rfl rfl) (fun _ _ _ h => h) ?_
      refine ga_v 4 rfl (by kernel_rfl) (by kernel_rfl) (by kernel_rfl) (.free rfl) rfl rfl (qt_index rfl rfl rfl ulE1 szE1 (fun w M => lenA_own1 (n := 1) rfl M) (by omega) (by omega)) (fun _ _ _ h => h) ?_
      refine ga_v 5 rfl (by kernel_rfl) (by kernel_rfl) (by kernel_rfl) (.free rfl) rfl rfl (qt_load1 rfl rfl Try.underlying2 rfl (fun w M => (mem_own1 (n := 1) M rfl).rd) (by omega) (by omega)) (fun _ _ _ h => h) ?_
      refine ga_v 6 rfl (by kernel_rfl) (by kernel_rfl) (by kernel_rfl) (.free rfl) rfl rfl (qt_field (z := 0) (off := 2) rfl rfl Try.underlying44 rfl (by kernel_rfl) rfl) (fun _ _ _ h => h) ?_
      refine ga_v 7 rfl (by kernel_rfl) (by kernel_rfl) (by kernel_rfl) (.free rfl) rfl rfl (qt_loadB (n := 5) rfl rfl Try.underlying22 rfl rfl rfl) (fun _ _ _ h => h) ?_
      refine ga_v 8 rfl (by kernel_rfl) (by kernel_rfl) (by kernel_rfl) (.free rfl) rfl rfl (qt_move rfl rfl) (fun _ _ _ h => h) ?_
      refine ga_v 9 rfl (by kernel_rfl) (by kernel_rfl) (by kernel_rfl) (.free rfl) rfl rfl (qt_index rfl rfl rfl ulE1 szE1 (fun w M => lenA_own1 (n := 2) rfl M) (by omega) (by omega)) (fun _ _ _ h => h) ?_
      refine ga_v 10 rfl (by kernel_rfl) (by kernel_rfl) (by kernel_rfl) (.free rfl) rfl rfl (qt_load1 rfl rfl Try.underlying2 rfl (fun w M => (mem_own1 (n := 2) M rfl).rd) (by omega) (by omega)) (fun _ _ _ h => h) ?_
      refine ga_op 11 (by kernel_rfl) rfl (.free rfl) fun K24 hK24 => ?_
      refine go_join (n := 6) rfl rfl rfl Try.func68 rfl (by decide) rfl rfl rfl (by omega) (by omega) (by omega) (by omega) ?_
      refine hK24 _ _ (fun w M => (mem_erase 6 (mem_take 7 M) :)) ?_
      refine ga_done (by kernel_rfl) ?_
      refine gk_block ?_
      refine gk_then (hK21 _ _ ?_)
      refine gc_region ?_
      refine g_v (.free rfl) rfl rfl (qt_add rfl rfl rfl (by omega)) ?_
      refine g_v (.free rfl) rfl rfl (qt_move rfl rfl) ?_
      refine g_nil ?_
      simp only [implL_next]
      refine gk_then (gk_take 7 ?_)
      refine gk_sub ?hs_25 (hKL18 (k + 1) ?hi_25 ?hm_25)
      case hs_25 => exact (sub_cons rfl (sub_cons rfl (sub_cons rfl (sub_cons rfl (sub_cons rfl (sub_cons rfl (sub_cons rfl (sub_cons rfl (sub_cons rfl (sub_cons rfl sub_nil))))))))))
      case hi_25 => omega
      case hm_25 => omega
    · try simp only [decide_eq_true_eq, decide_eq_false_iff_not, Bool.not_eq_true', Bool.not_eq_false', Bool.not_eq_eq_eq_not, Bool.not_true, Bool.not_false, ne_eq, Decidable.not_not, Classical.not_not] at hc1
      refine gc_exit ?_
      refine gk_then_exit ?_
      refine gk_then_exit ?_
      refine gk_block_hit ?_
      refine gk_then (hK16 _ _ ?_)
      refine gc_seq fun K26 hK26 => ?_
      refine gc_region ?_
      refine g_v (.free rfl) rfl rfl (qt_move rfl rfl) ?_
      refine g_op (.free rfl) fun K28 hK28 => ?_
      refine go_classes (n := 6) rfl rfl rfl Try.func69 rfl (by decide) rfl rfl rfl ?_
      intro va27 vc27
      refine hK28 _ _ ?_
      refine g_v (.free rfl) rfl rfl (qt_assign rfl rfl) ?_
      refine g_v (.free rfl) rfl rfl (qt_assign rfl rfl) ?_
      refine g_nil ?_
      refine gk_then (hK26 _ _ ?_)
      refine gc_ret ?_
      refine ret_2 rfl rfl rfl  (fun w M => ?_)
      obtain rfl : k = c.s.length := by omega
      rw [conn_t hI, join_cls (endsL_pair hS)]
      exact ⟨_, rfl, mem_own1 (n := 0) M rfl, M.1⟩

end Go.Proofs.Ytbfenibkbmkcaaa
