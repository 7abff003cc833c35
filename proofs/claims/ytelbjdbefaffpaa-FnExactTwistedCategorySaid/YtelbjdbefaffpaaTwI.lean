
/- The category of twisted arrows: both sides. -/
import Derived.Test.YtelbjdbefaffpaaTwQ
import Derived.Test.YtelbjdbefaffpaaPlanB
import Derived.Test.YtelbjdbefaffpaaComp
set_option linter.unusedSimpArgs false
set_option linter.unusedVariables false
set_option linter.unusedSectionVars false
namespace Go.Proofs.Ytelbjdbefaffpaa
open Go.RowKit

set_option maxHeartbeats 1000000 in
set_option maxRecDepth 100000 in
theorem specTwC_t (w : World) (v : Value) (c : Cat) (h : RdC w v c) (hf : FitP (twM c)) :
    Calls Try.prog 24 #[v] w (RetCI w (fTwistedCategory c).1 (fTwistedCategory c).2) := by
  have h0 := h
  obtain ⟨va, vb, vc, vd, ve, vf, vg, vh, rfl, h1, h2, h3, h4, _⟩ := h.lists
  go_enter Try.func24, Try.ntmps24
  refine gc_enter (N := 19) rfl (look_cons (k := 0) rfl (look_nil _)) ?_
  refine gc_seq fun K1 hK1 => ?_
  refine gc_region ?_
  refine g_op (.free rfl) fun K3 hK3 => ?_
  refine go_box rfl rfl rfl rfl rfl ?_
  intro B2
  refine hK3 _ _ ?_
  refine g_op (.free rfl) fun K5 hK5 => ?_
  refine go_alloc (z := (.agg #[.int .i64 0, .slice none 0 0, .slice none 0 0, .slice none 0 0, .slice none 0 0])) (cs := [.int .i64 0, .slice none 0 0, .slice none 0 0, .slice none 0 0, .slice none 0 0]) rfl rfl rfl (fun w => by kernel_rfl) rfl ?_
  intro B4
  refine hK5 _ _ ?_
  refine g_v (.free rfl) rfl rfl (qt_assign rfl rfl) ?_
  refine g_nil ?_
  refine gk_then (hK1 _ _ ?_)
  refine gc_seq fun K6 hK6 => ?_
  refine gc_seq fun K7 hK7 => ?_
  refine gc_region ?_
  refine g_v (.free rfl) rfl rfl (qt_loadS (n := 0) rfl rfl Try.underlying29 rfl (by kernel_rfl) rfl) ?_
  refine g_q (.free rfl) rfl rfl (qt_call rfl Try.func48 rfl (by decide) rfl (fun w M => specIs_any w _ _ (mem_rdC M h0))) ?_
  refine g_v (.free rfl) rfl rfl (qt_not rfl rfl) ?_
  refine g_nil ?_
  refine gk_then (hK7 _ _ ?_)
  refine gc_cond rfl (fun hc0 => ?_) (fun hc0 => ?_)
  · try simp only [decide_eq_true_eq, decide_eq_false_iff_not, Bool.not_eq_true', Bool.not_eq_false', Bool.not_eq_eq_eq_not, Bool.not_true, Bool.not_false, ne_eq, Decidable.not_not, Classical.not_not] at hc0
    refine gc_seq fun K8 hK8 => ?_
    refine gc_region ?_
    refine g_v (.free rfl) rfl rfl (qt_build rfl rfl bt0_Category) ?_
    refine g_op (.free rfl) fun K9 hK9 => ?_
    refine go_storeS (n := 1) rfl rfl rfl rfl (by kernel_rfl) rfl rfl rfl ?_
    refine hK9 _ _ ?_
    refine g_v (.free rfl) rfl rfl (qt_assign rfl rfl) ?_
    refine g_nil ?_
    refine gk_then (hK8 _ _ ?_)
    refine gc_ret ?_
    refine gk_then_ret ?_
    refine ret_SI (n := 1) rfl rfl rfl Try.underlying29 rfl (by kernel_rfl) rfl (fun w M => ?_)
    rw [twc_f hc0]; exact ⟨_, rfl, ownC_zero _ _, M.1⟩
  · try simp only [decide_eq_true_eq, decide_eq_false_iff_not, Bool.not_eq_true', Bool.not_eq_false', Bool.not_eq_eq_eq_not, Bool.not_true, Bool.not_false, ne_eq, Decidable.not_not, Classical.not_not] at hc0
    refine gc_skip ?_
    refine gk_then (hK6 _ _ ?_)
    refine gc_seq fun K10 hK10 => ?_
    refine gc_region ?_
    refine g_v (.free rfl) rfl rfl (qt_loadS (n := 0) rfl rfl Try.underlying29 rfl (by kernel_rfl) rfl) ?_
    refine g_op (.free rfl) fun K12 hK12 => ?_
    refine go_callCX rfl rfl rfl Try.func49 rfl (by decide) rfl (fun w M => specTwisted_any w _ _ (mem_rdC M h0) (isCat_of hc0).toShapeP) ?_
    intro ca11 cb11 cc11 cd11 ce11 cf11 cg11 ch11 cu11 cz11
    refine hK12 _ _ ?_
    refine g_v (.free rfl) rfl rfl (qt_move rfl rfl) ?_
    refine g_v (.free rfl) rfl rfl (qt_extract rfl rfl rfl) ?_
    refine g_v (.free rfl) rfl rfl (qt_extract rfl rfl rfl) ?_
    refine g_op (.free rfl) fun K14 hK14 => ?_
    refine go_alloc (z := (.agg #[.int .i64 0, .slice none 0 0, .slice none 0 0, .slice none 0 0, .slice none 0 0])) (cs := [.int .i64 0, .slice none 0 0, .slice none 0 0, .slice none 0 0, .slice none 0 0]) rfl rfl rfl (fun w => by kernel_rfl) rfl ?_
    intro B13
    refine hK14 _ _ ?_
    refine g_op (.free rfl) fun K15 hK15 => ?_
    refine go_storeS (n := 6) rfl rfl rfl rfl (by kernel_rfl) rfl rfl rfl ?_
    refine hK15 _ _ ?_
    refine g_v (.free rfl) rfl rfl (qt_assign rfl rfl) ?_
    refine g_nil ?_
    refine gk_then (hK10 _ _ ?_)
    refine gc_seq fun K16 hK16 => ?_
    refine gc_region ?_
    refine g_v (.free rfl) rfl rfl (qt_loadS (n := 6) rfl rfl Try.underlying29 rfl (by kernel_rfl) rfl) ?_
    refine g_q (.free rfl) rfl rfl (qt_call rfl Try.func50 rfl (by decide) rfl (fun w M => specMade_t w _ _ (rdC_mk ((mem_own1 (n := 2) M rfl).rd) ((mem_own1 (n := 3) M rfl).rd) ((mem_own1 (n := 4) M rfl).rd) (mem_rdU (n := 5) M rfl)) (hf))) ?_
    refine g_v (.free rfl) rfl rfl (qt_extract rfl rfl rfl) ?_
    refine g_v (.free rfl) rfl rfl (qt_extract rfl rfl rfl) ?_
    refine g_op (.free rfl) fun K17 hK17 => ?_
    refine go_storeS (n := 1) rfl rfl rfl rfl (by kernel_rfl) rfl rfl rfl ?_
    refine hK17 _ _ ?_
    refine g_v (.free rfl) rfl rfl (qt_assign rfl rfl) ?_
    refine g_nil ?_
    refine gk_then (hK16 _ _ ?_)
    refine gc_ret ?_
    refine ret_SI (n := 1) rfl rfl rfl Try.underlying29 rfl (by kernel_rfl) rfl (fun w M => ?_)
    rw [twc_t hc0 hf]; exact ⟨_, rfl, ownC_star (c := twM c) (mem_pick (n := 5) (mem_pick (n := 5) (mem_pick (n := 5) (mem_pick (n := 5) (M) rfl) rfl) rfl) rfl).2, M.1⟩

set_option maxHeartbeats 1000000 in
set_option maxRecDepth 100000 in
theorem specTwC_f (w : World) (v : Value) (c : Cat) (h : RdC w v c) (hf : ¬ FitP (twM c)) :
    Calls Try.prog 24 #[v] w (RetCI w (fTwistedCategory c).1 (fTwistedCategory c).2) := by
  have h0 := h
  obtain ⟨va, vb, vc, vd, ve, vf, vg, vh, rfl, h1, h2, h3, h4, _⟩ := h.lists
  go_enter Try.func24, Try.ntmps24
  refine gc_enter (N := 19) rfl (look_cons (k := 0) rfl (look_nil _)) ?_
  refine gc_seq fun K1 hK1 => ?_
  refine gc_region ?_
  refine g_op (.free rfl) fun K3 hK3 => ?_
  refine go_box rfl rfl rfl rfl rfl ?_
  intro B2
  refine hK3 _ _ ?_
  refine g_op (.free rfl) fun K5 hK5 => ?_
  refine go_alloc (z := (.agg #[.int .i64 0, .slice none 0 0, .slice none 0 0, .slice none 0 0, .slice none 0 0])) (cs := [.int .i64 0, .slice none 0 0, .slice none 0 0, .slice none 0 0, .slice none 0 0]) rfl rfl rfl (fun w => by kernel_rfl) rfl ?_
  intro B4
  refine hK5 _ _ ?_
  refine g_v (.free rfl) rfl rfl (qt_assign rfl rfl) ?_
  refine g_nil ?_
  refine gk_then (hK1 _ _ ?_)
  refine gc_seq fun K6 hK6 => ?_
  refine gc_seq fun K7 hK7 => ?_
  refine gc_region ?_
  refine g_v (.free rfl) rfl rfl (qt_loadS (n := 0) rfl rfl Try.underlying29 rfl (by kernel_rfl) rfl) ?_
  refine g_q (.free rfl) rfl rfl (qt_call rfl Try.func48 rfl (by decide) rfl (fun w M => specIs_any w _ _ (mem_rdC M h0))) ?_
  refine g_v (.free rfl) rfl rfl (qt_not rfl rfl) ?_
  refine g_nil ?_
  refine gk_then (hK7 _ _ ?_)
  refine gc_cond rfl (fun hc0 => ?_) (fun hc0 => ?_)
  · try simp only [decide_eq_true_eq, decide_eq_false_iff_not, Bool.not_eq_true', Bool.not_eq_false', Bool.not_eq_eq_eq_not, Bool.not_true, Bool.not_false, ne_eq, Decidable.not_not, Classical.not_not] at hc0
    refine gc_seq fun K8 hK8 => ?_
    refine gc_region ?_
    refine g_v (.free rfl) rfl rfl (qt_build rfl rfl bt0_Category) ?_
    refine g_op (.free rfl) fun K9 hK9 => ?_
    refine go_storeS (n := 1) rfl rfl rfl rfl (by kernel_rfl) rfl rfl rfl ?_
    refine hK9 _ _ ?_
    refine g_v (.free rfl) rfl rfl (qt_assign rfl rfl) ?_
    refine g_nil ?_
    refine gk_then (hK8 _ _ ?_)
    refine gc_ret ?_
    refine gk_then_ret ?_
    refine ret_SI (n := 1) rfl rfl rfl Try.underlying29 rfl (by kernel_rfl) rfl (fun w M => ?_)
    rw [twc_f hc0]; exact ⟨_, rfl, ownC_zero _ _, M.1⟩
  · try simp only [decide_eq_true_eq, decide_eq_false_iff_not, Bool.not_eq_true', Bool.not_eq_false', Bool.not_eq_eq_eq_not, Bool.not_true, Bool.not_false, ne_eq, Decidable.not_not, Classical.not_not] at hc0
    refine gc_skip ?_
    refine gk_then (hK6 _ _ ?_)
    refine gc_seq fun K10 hK10 => ?_
    refine gc_region ?_
    refine g_v (.free rfl) rfl rfl (qt_loadS (n := 0) rfl rfl Try.underlying29 rfl (by kernel_rfl) rfl) ?_
    refine g_op (.free rfl) fun K12 hK12 => ?_
    refine go_callCX rfl rfl rfl Try.func49 rfl (by decide) rfl (fun w M => specTwisted_any w _ _ (mem_rdC M h0) (isCat_of hc0).toShapeP) ?_
    intro ca11 cb11 cc11 cd11 ce11 cf11 cg11 ch11 cu11 cz11
    refine hK12 _ _ ?_
    refine g_v (.free rfl) rfl rfl (qt_move rfl rfl) ?_
    refine g_v (.free rfl) rfl rfl (qt_extract rfl rfl rfl) ?_
    refine g_v (.free rfl) rfl rfl (qt_extract rfl rfl rfl) ?_
    refine g_op (.free rfl) fun K14 hK14 => ?_
    refine go_alloc (z := (.agg #[.int .i64 0, .slice none 0 0, .slice none 0 0, .slice none 0 0, .slice none 0 0])) (cs := [.int .i64 0, .slice none 0 0, .slice none 0 0, .slice none 0 0, .slice none 0 0]) rfl rfl rfl (fun w => by kernel_rfl) rfl ?_
    intro B13
    refine hK14 _ _ ?_
    refine g_op (.free rfl) fun K15 hK15 => ?_
    refine go_storeS (n := 6) rfl rfl rfl rfl (by kernel_rfl) rfl rfl rfl ?_
    refine hK15 _ _ ?_
    refine g_v (.free rfl) rfl rfl (qt_assign rfl rfl) ?_
    refine g_nil ?_
    refine gk_then (hK10 _ _ ?_)
    refine gc_seq fun K16 hK16 => ?_
    refine gc_region ?_
    refine g_v (.free rfl) rfl rfl (qt_loadS (n := 6) rfl rfl Try.underlying29 rfl (by kernel_rfl) rfl) ?_
    refine g_q (.free rfl) rfl rfl (qt_call rfl Try.func50 rfl (by decide) rfl (fun w M => specMade_f w _ _ (rdC_mk ((mem_own1 (n := 2) M rfl).rd) ((mem_own1 (n := 3) M rfl).rd) ((mem_own1 (n := 4) M rfl).rd) (mem_rdU (n := 5) M rfl)) (hf))) ?_
    refine g_v (.free rfl) rfl rfl (qt_extract rfl rfl rfl) ?_
    refine g_v (.free rfl) rfl rfl (qt_extract rfl rfl rfl) ?_
    refine g_op (.free rfl) fun K17 hK17 => ?_
    refine go_storeS (n := 1) rfl rfl rfl rfl (by kernel_rfl) rfl rfl rfl ?_
    refine hK17 _ _ ?_
    refine g_v (.free rfl) rfl rfl (qt_assign rfl rfl) ?_
    refine g_nil ?_
    refine gk_then (hK16 _ _ ?_)
    refine gc_ret ?_
    refine ret_SI (n := 1) rfl rfl rfl Try.underlying29 rfl (by kernel_rfl) rfl (fun w M => ?_)
    rw [twc_l hc0 hf]; exact ⟨_, rfl, ownC_zero _ _, M.1⟩


theorem spec_TwistedCategory (w : World) (v : Value) (c : Cat) (h : RdC w v c) : Calls Try.prog 24 #[v] w (RetCI w (fTwistedCategory c).1 (fTwistedCategory c).2) := by
  by_cases hf : FitP (twM c)
  · exact specTwC_t w v c h hf
  · exact specTwC_f w v c h hf

set_option maxHeartbeats 1000000 in
set_option maxRecDepth 100000 in
theorem twC1_any (w : World) (f1 f2 g1 g2 : Int) (B : Nat) (v : Value) (c : Cat) (h : RdC w v c) (hS : ShapeP c) (hbB : BxV w B 29 v) (a0 : 0 ≤ g1) (a1 : g1 < c.s.length) (p0 : 0 ≤ f1) (p1 : f1 < c.s.length) (b0 : 0 ≤ f2) (b1 : f2 < c.s.length) (q0 : 0 ≤ g2) (q1 : g2 < c.s.length) :
    Calls Try.prog 54 #[.agg #[.int .i64 f1, .int .i64 f2], .agg #[.int .i64 g1, .int .i64 g2], .pointer (some ⟨B, 0, none⟩)] w (RetV w (.agg #[.int .i64 (c.th g1 f1), .int .i64 (c.th f2 g2)])) := by
  have h0 := h
  obtain ⟨va, vb, vc, vd, ve, vf, vg, vh, rfl, h1, h2, h3, h4, _⟩ := h.lists
  have hn40 := hS.n40; have htl := hS.tl; have hel := hS.el; have hob0 := hS.ob0; have hob8 := hS.ob8; have hml := hS.ml
  have hG := arrP hS a0 a1
  have g3 := hG.fm; have g4 := hG.row
  have kG := arrP hS b0 b1
  have k3 := kG.fm; have k4 := kG.row
  go_enter Try.func54, Try.ntmps54
  refine gc_enter (N := 19) rfl (look_cons (k := 0) rfl (look_cons (k := 1) rfl (look_cons (k := 2) rfl (look_nil _)))) ?_
  refine gc_seq fun K1 hK1 => ?_
  refine gc_region ?_
  refine g_op (.free rfl) fun K3 hK3 => ?_
  refine go_box rfl rfl rfl rfl rfl ?_
  intro B2
  refine hK3 _ _ ?_
  refine g_op (.free rfl) fun K5 hK5 => ?_
  refine go_box rfl rfl rfl rfl rfl ?_
  intro B4
  refine hK5 _ _ ?_
  refine g_op (.free rfl) fun K7 hK7 => ?_
  refine go_alloc (z := (.agg #[.int .i64 0, .int .i64 0])) (cs := [.int .i64 0, .int .i64 0]) rfl rfl rfl (fun w => by kernel_rfl) rfl ?_
  intro B6
  refine hK7 _ _ ?_
  refine g_nil ?_
  refine gk_then (hK1 _ _ ?_)
  refine gc_seq fun K8 hK8 => ?_
  try simp only [List.nil_append, List.cons_append, List.append_assoc, List.set_cons_succ, List.set_cons_zero]
  refine ga_start _ (fun w M => mem_erase 2 (M)) ?_
  refine ga_v 0 rfl (by kernel_rfl) (by kernel_rfl) (by kernel_rfl) (.free rfl) rfl rfl (qt_loadRS hbB rfl rfl Try.underlying29 rfl (by kernel_rfl)) (fun _ _ _ h => h) ?_
  refine ga_v 1 rfl (by kernel_rfl) (by kernel_rfl) (by kernel_rfl) (.free rfl) rfl rfl (qt_field (z := 0) (off := 0) rfl rfl Try.underlying65 rfl (by kernel_rfl) rfl) (fun _ _ _ h => h) ?_
  refine ga_v 2 rfl (by kernel_rfl) (by kernel_rfl) (by kernel_rfl) (.free rfl) rfl rfl (qt_loadB (n := 1) rfl rfl Try.underlying2 rfl rfl rfl) (fun _ _ _ h => h) ?_
  refine ga_v 3 rfl (by kernel_rfl) (by kernel_rfl) (by kernel_rfl) (.free rfl) rfl rfl (qt_field (z := 0) (off := 0) rfl rfl Try.underlying65 rfl (by kernel_rfl) rfl) (fun _ _ _ h => h) ?_
  refine ga_v 4 rfl (by kernel_rfl) (by kernel_rfl) (by kernel_rfl) (.free rfl) rfl rfl (qt_loadB (n := 0) rfl rfl Try.underlying2 rfl rfl rfl) (fun _ _ _ h => h) ?_
  refine ga_v 6 rfl (by kernel_rfl) (by kernel_rfl) (by kernel_rfl) (.free rfl) rfl rfl (qt_loadRS hbB rfl rfl Try.underlying29 rfl (by kernel_rfl)) (fun _ _ _ h => h) ?_
  refine ga_v 7 rfl (by kernel_rfl) (by kernel_rfl) (by kernel_rfl) (.free rfl) rfl rfl (qt_field (z := 0) (off := 1) rfl rfl Try.underlying65 rfl (by kernel_rfl) rfl) (fun _ _ _ h => h) ?_
  refine ga_v 8 rfl (by kernel_rfl) (by kernel_rfl) (by kernel_rfl) (.free rfl) rfl rfl (qt_loadB (n := 0) rfl rfl Try.underlying2 rfl rfl rfl) (fun _ _ _ h => h) ?_
  refine ga_v 9 rfl (by kernel_rfl) (by kernel_rfl) (by kernel_rfl) (.free rfl) rfl rfl (qt_field (z := 0) (off := 1) rfl rfl Try.underlying65 rfl (by kernel_rfl) rfl) (fun _ _ _ h => h) ?_
  refine ga_v 10 rfl (by kernel_rfl) (by kernel_rfl) (by kernel_rfl) (.free rfl) rfl rfl (qt_loadB (n := 1) rfl rfl Try.underlying2 rfl rfl rfl) (fun _ _ _ h => h) ?_
  refine ga_op 5 (by kernel_rfl) rfl (.free rfl) fun K9 hK9 => ?_
  refine go_q rfl rfl (qt_call rfl Try.func55 rfl (by decide) rfl (fun w M => then_any w _ _ _ _ (mem_rdC M h0) (by first | assumption | omega) (by first | assumption | omega) (by first | assumption | omega) (by first | assumption | omega))) ?_
  refine hK9 _ _ (fun w M => (mem_erase 2 (mem_take 3 M) :)) ?_
  refine ga_op 11 (by kernel_rfl) rfl (.free rfl) fun K10 hK10 => ?_
  refine go_q rfl rfl (qt_call rfl Try.func55 rfl (by decide) rfl (fun w M => then_any w _ _ _ _ (mem_rdC M h0) (by first | assumption | omega) (by first | assumption | omega) (by first | assumption | omega) (by first | assumption | omega))) ?_
  refine hK10 _ _ (fun w M => (mem_erase 2 (mem_take 3 M) :)) ?_
  refine ga_v 12 rfl (by kernel_rfl) (by kernel_rfl) (by kernel_rfl) (.free rfl) rfl rfl (qt_build rfl rfl bt_arrowPair) (fun _ _ _ h => h) ?_
  refine ga_op 13 (by kernel_rfl) rfl (.free rfl) fun K11 hK11 => ?_
  refine go_storeS (n := 2) rfl rfl rfl rfl (by kernel_rfl) rfl rfl rfl ?_
  refine hK11 _ _ (fun w M => (mem_erase 2 (mem_take 3 M) :)) ?_
  refine ga_done (by kernel_rfl) ?_
  refine gk_then (hK8 _ _ ?_)
  refine gc_ret ?_
  refine ret_S (n := 2) rfl rfl Try.underlying65 rfl (by kernel_rfl) rfl (fun w M => ?_)
  exact ⟨rfl, M.1⟩

set_option maxHeartbeats 1000000 in
set_option maxRecDepth 100000 in
theorem impl_TwistedCategory (w : World) (v : Value) (c : Cat) (h : RdC w v c) :
    Calls Try.prog 25 #[v] w (RetCI w (fTwistedCategory c).1 (fTwistedCategory c).2) := by
  have h0 := h
  obtain ⟨va, vb, vc, vd, ve, vf, vg, vh, rfl, h1, h2, h3, h4, _⟩ := h.lists
  go_enter Try.func25, Try.ntmps25
  refine gc_enter (N := 98) rfl (look_cons (k := 0) rfl (look_nil _)) ?_
  refine gc_seq fun K1 hK1 => ?_
  refine gc_region ?_
  refine g_op (.free rfl) fun K3 hK3 => ?_
  refine go_box rfl rfl rfl rfl rfl ?_
  intro B2
  refine hK3 _ _ ?_
  refine g_op (.free rfl) fun K5 hK5 => ?_
  refine go_alloc (z := (.agg #[.int .i64 0, .slice none 0 0, .slice none 0 0, .slice none 0 0, .slice none 0 0])) (cs := [.int .i64 0, .slice none 0 0, .slice none 0 0, .slice none 0 0, .slice none 0 0]) rfl rfl rfl (fun w => by kernel_rfl) rfl ?_
  intro B4
  refine hK5 _ _ ?_
  refine g_v (.free rfl) rfl rfl (qt_assign rfl rfl) ?_
  refine g_nil ?_
  refine gk_then (hK1 _ _ ?_)
  refine gc_seq fun K6 hK6 => ?_
  refine gc_region ?_
  refine g_v (.free rfl) rfl rfl (qt_loadS (n := 0) rfl rfl Try.underlying29 rfl (by kernel_rfl) rfl) ?_
  refine g_op (.free rfl) fun K8 hK8 => ?_
  refine go_callCI rfl rfl rfl Try.func51 rfl (by decide) rfl (fun w M => readCat_any w _ _ (mem_rdC M h0)) ?_
  intro ca7 cb7 cc7 cd7 ce7 cf7 cg7 ch7 cu7
  refine hK8 _ _ ?_
  refine g_v (.free rfl) rfl rfl (qt_move rfl rfl) ?_
  refine g_v (.free rfl) rfl rfl (qt_extract rfl rfl rfl) ?_
  refine g_v (.free rfl) rfl rfl (qt_extract rfl rfl rfl) ?_
  refine g_op (.free rfl) fun K10 hK10 => ?_
  refine go_alloc (z := (.agg #[.int .i64 0, .slice none 0 0, .slice none 0 0, .slice none 0 0, .slice none 0 0])) (cs := [.int .i64 0, .slice none 0 0, .slice none 0 0, .slice none 0 0, .slice none 0 0]) rfl rfl rfl (fun w => by kernel_rfl) rfl ?_
  intro B9
  refine hK10 _ _ ?_
  refine g_op (.free rfl) fun K11 hK11 => ?_
  refine go_storeS (n := 6) rfl rfl rfl rfl (by kernel_rfl) rfl rfl rfl ?_
  refine hK11 _ _ ?_
  refine g_v (.free rfl) rfl rfl (qt_assign rfl rfl) ?_
  refine g_nil ?_
  refine gk_then (hK6 _ _ ?_)
  refine gc_seq fun K12 hK12 => ?_
  refine gc_seq fun K13 hK13 => ?_
  refine gc_region ?_
  refine g_v (.free rfl) rfl rfl (qt_move rfl rfl) ?_
  refine g_v (.free rfl) rfl rfl (qt_neq rfl rfl rfl) ?_
  refine g_nil ?_
  refine gk_then (hK13 _ _ ?_)
  refine gc_cond rfl (fun hc0 => ?_) (fun hc0 => ?_)
  · try simp only [decide_eq_true_eq, decide_eq_false_iff_not, Bool.not_eq_true', Bool.not_eq_false', Bool.not_eq_eq_eq_not, Bool.not_true, Bool.not_false, ne_eq, Decidable.not_not, Classical.not_not] at hc0
    refine gc_seq fun K14 hK14 => ?_
    refine gc_region ?_
    refine g_v (.free rfl) rfl rfl (qt_build rfl rfl bt0_Category) ?_
    refine g_v (.free rfl) rfl rfl (qt_move rfl rfl) ?_
    refine g_op (.free rfl) fun K15 hK15 => ?_
    refine go_storeS (n := 1) rfl rfl rfl rfl (by kernel_rfl) rfl rfl rfl ?_
    refine hK15 _ _ ?_
    refine g_v (.free rfl) rfl rfl (qt_assign rfl rfl) ?_
    refine g_nil ?_
    refine gk_then (hK14 _ _ ?_)
    refine gc_ret ?_
    refine gk_then_ret ?_
    refine ret_SI (n := 1) rfl rfl rfl Try.underlying29 rfl (by kernel_rfl) rfl (fun w M => ?_)
    rw [(catErr_n hc0).2, twc_f (catErr_n hc0).1]; exact ⟨_, rfl, ownC_zero _ _, M.1⟩
  · try simp only [decide_eq_true_eq, decide_eq_false_iff_not, Bool.not_eq_true', Bool.not_eq_false', Bool.not_eq_eq_eq_not, Bool.not_true, Bool.not_false, ne_eq, Decidable.not_not, Classical.not_not] at hc0
    refine gc_skip ?_
    refine gk_then (hK12 _ _ ?_)
    refine gc_seq fun K16 hK16 => ?_
    have hI := catErr_0 hc0
    simp only [catCat_t hc0]
    have hS := (isCat_of hI).toShapeP
    have hn40 := hS.n40; have htl := hS.tl; have hel := hS.el; have hob0 := hS.ob0; have hob8 := hS.ob8; have hml := hS.ml
    try simp only [List.nil_append, List.cons_append, List.append_assoc, List.set_cons_succ, List.set_cons_zero]
    refine gc_cut ([(0, _), (1, _), (2, _), (3, _), (4, _), (5, _), (19, _)] : Env) (fun s : Nat => (fun (B7 : Nat) => ([(6, .pointer (some ⟨B7, 0, none⟩))] : Env)) s) (fun s : Nat => (fun (B7 : Nat) => ([] : List (Nat × Itm))) s) (fun s : Nat => (fun (B7 : Nat) => ([bxI B7 70 [.int .i64 c.s.length, .slice none 0 0, .func (.func 53) #[.agg #[.int .i64 c.ob, .slice ca7 c.s.length cb7, .slice cc7 c.t.length cd7, .slice ce7 c.e.length cf7, .slice cg7 c.m.length ch7]] #[], .func (.func 54) #[] #[.pointer (some ⟨B9, 0, none⟩)]]] : List Itm)) s) (sub_cons rfl (sub_cons rfl (sub_cons rfl (sub_cons rfl (sub_cons rfl (sub_cons rfl (sub_cons rfl sub_nil))))))) ?_ (fun HJ17 => ?_)
    · rintro B7
      simp only [updL, List.foldl_cons, List.foldl_nil, List.set_cons_succ, List.set_cons_zero, List.cons_append, List.nil_append]
      refine gk_then (hK16 _ _ ?_)
      refine gc_seq fun K18 hK18 => ?_
      refine gc_seq fun K19 hK19 => ?_
      refine gc_region ?_
      refine g_v (.free rfl) rfl rfl (qt_loadS (n := 6) rfl rfl Try.underlying29 rfl (by kernel_rfl) rfl) ?_
      refine g_q (.free rfl) rfl rfl (qt_call rfl Try.func52 rfl (by decide) rfl (fun w M => arrows_any w _ _ (rdC_mk ((mem_own1 (n := 2) M rfl).rd) ((mem_own1 (n := 3) M rfl).rd) ((mem_own1 (n := 4) M rfl).rd) (mem_rdU (n := 5) M rfl)))) ?_
      refine g_v (.free rfl) rfl rfl (qt_move rfl rfl) ?_
      refine g_nil ?_
      refine gk_then (hK19 _ _ ?_)
      refine gc_block ?_
      refine gc_nilE lab_pair ?_
      try simp only [List.nil_append, List.cons_append, List.append_assoc, List.set_cons_succ, List.set_cons_zero]
      refine gc_loop ([(0, _), (1, _), (2, _), (3, _), (4, _), (5, _), (6, _), (19, _), (29, _)] : Env) (fun s : Nat × (Option Addr) × Nat => (fun (f : Nat) (a : Option Addr) (q : Nat) => ([(30, .int .i64 (f : Int))] : Env)) s.1 s.2.1 s.2.2) (fun s : Nat × (Option Addr) × Nat => (fun (f : Nat) (a : Option Addr) (q : Nat) => ([(7, bxI B7 70 [.int .i64 c.s.length, .slice a (tw1 emE c f).length q, .func (.func 53) #[.agg #[.int .i64 c.ob, .slice ca7 c.s.length cb7, .slice cc7 c.t.length cd7, .slice ce7 c.e.length cf7, .slice cg7 c.m.length ch7]] #[], .func (.func 54) #[] #[.pointer (some ⟨B9, 0, none⟩)]]), (8, ownEI lab_pair (.slice a (tw1 emE c f).length q) (tw1 emE c f))] : List (Nat × Itm))) s.1 s.2.1 s.2.2) (fun s : Nat × (Option Addr) × Nat => (fun (f : Nat) (a : Option Addr) (q : Nat) => f ≤ c.s.length) s.1 s.2.1 s.2.2) (fun s : Nat × (Option Addr) × Nat => (fun (f : Nat) (a : Option Addr) (q : Nat) => c.s.length - f) s.1 s.2.1 s.2.2) (0, _, _) (sub_cons rfl (sub_cons rfl (sub_cons rfl (sub_cons rfl (sub_cons rfl (sub_cons rfl (sub_cons rfl (sub_cons rfl (sub_cons rfl (sub_cons rfl sub_nil)))))))))) rfl (Nat.zero_le _) ?_
      rintro ⟨f, a, q⟩ hinv KL20 hKL20
      simp only [updL, List.foldl_cons, List.foldl_nil, List.set_cons_succ, List.set_cons_zero, List.cons_append, List.nil_append] at hinv hKL20 ⊢
      have hf := hinv
      refine gc_seq fun K21 hK21 => ?_
      refine gc_region ?_
      refine g_v (.free rfl) rfl rfl (qt_lss rfl rfl rfl) ?_
      refine g_nil ?_
      refine gk_then (hK21 _ _ ?_)
      refine gc_seq fun K22 hK22 => ?_
      refine gc_cond rfl (fun hc1 => ?_) (fun hc1 => ?_)
      · try simp only [decide_eq_true_eq, decide_eq_false_iff_not, Bool.not_eq_true', Bool.not_eq_false', Bool.not_eq_eq_eq_not, Bool.not_true, Bool.not_false, ne_eq, Decidable.not_not, Classical.not_not] at hc1
        refine gc_skip ?_
        refine gk_then (hK22 _ _ ?_)
        refine gc_seq fun K23 hK23 => ?_
        refine gc_block ?_
        refine gc_seq fun K24 hK24 => ?_
        refine gc_region ?_
        refine g_v (.free rfl) rfl rfl (qt_move rfl rfl) ?_
        refine g_v (.free rfl) rfl rfl (qt_assign rfl rfl) ?_
        refine g_nil ?_
        refine gk_then (hK24 _ _ ?_)
        refine gc_seq fun K25 hK25 => ?_
        refine gc_region ?_
        refine g_v (.free rfl) rfl rfl (qt_loadS (n := 6) rfl rfl Try.underlying29 rfl (by kernel_rfl) rfl) ?_
        refine g_q (.free rfl) rfl rfl (qt_call rfl Try.func52 rfl (by decide) rfl (fun w M => arrows_any w _ _ (rdC_mk ((mem_own1 (n := 2) M rfl).rd) ((mem_own1 (n := 3) M rfl).rd) ((mem_own1 (n := 4) M rfl).rd) (mem_rdU (n := 5) M rfl)))) ?_
        refine g_v (.free rfl) rfl rfl (qt_move rfl rfl) ?_
        refine g_nil ?_
        refine gk_then (hK25 _ _ ?_)
        refine gc_block ?_
        try simp only [List.nil_append, List.cons_append, List.append_assoc, List.set_cons_succ, List.set_cons_zero]
        refine gc_loop ([(0, _), (1, _), (2, _), (3, _), (4, _), (5, _), (6, _), (7, _), (19, _), (29, _), (30, _), (31, _), (34, _)] : Env) (fun s : Nat × (Option Addr) × Nat => (fun (g : Nat) (a : Option Addr) (q : Nat) => ([(35, .int .i64 (g : Int))] : Env)) s.1 s.2.1 s.2.2) (fun s : Nat × (Option Addr) × Nat => (fun (g : Nat) (a : Option Addr) (q : Nat) => ([(7, bxI B7 70 [.int .i64 c.s.length, .slice a (tw2 emE c f (tw1 emE c f) g).length q, .func (.func 53) #[.agg #[.int .i64 c.ob, .slice ca7 c.s.length cb7, .slice cc7 c.t.length cd7, .slice ce7 c.e.length cf7, .slice cg7 c.m.length ch7]] #[], .func (.func 54) #[] #[.pointer (some ⟨B9, 0, none⟩)]]), (8, ownEI lab_pair (.slice a (tw2 emE c f (tw1 emE c f) g).length q) (tw2 emE c f (tw1 emE c f) g))] : List (Nat × Itm))) s.1 s.2.1 s.2.2) (fun s : Nat × (Option Addr) × Nat => (fun (g : Nat) (a : Option Addr) (q : Nat) => g ≤ c.s.length) s.1 s.2.1 s.2.2) (fun s : Nat × (Option Addr) × Nat => (fun (g : Nat) (a : Option Addr) (q : Nat) => c.s.length - g) s.1 s.2.1 s.2.2) (0, _, _) (sub_cons rfl (sub_cons rfl (sub_cons rfl (sub_cons rfl (sub_cons rfl (sub_cons rfl (sub_cons rfl (sub_cons rfl (sub_cons rfl (sub_cons rfl (sub_cons rfl (sub_cons rfl (sub_cons rfl (sub_cons rfl sub_nil)))))))))))))) rfl (Nat.zero_le _) ?_
        rintro ⟨g, a, q⟩ hinv KL26 hKL26
        simp only [updL, List.foldl_cons, List.foldl_nil, List.set_cons_succ, List.set_cons_zero, List.cons_append, List.nil_append] at hinv hKL26 ⊢
        have hg := hinv
        refine gc_seq fun K27 hK27 => ?_
        refine gc_region ?_
        refine g_v (.free rfl) rfl rfl (qt_lss rfl rfl rfl) ?_
        refine g_nil ?_
        refine gk_then (hK27 _ _ ?_)
        refine gc_seq fun K28 hK28 => ?_
        refine gc_cond rfl (fun hc2 => ?_) (fun hc2 => ?_)
        · try simp only [decide_eq_true_eq, decide_eq_false_iff_not, Bool.not_eq_true', Bool.not_eq_false', Bool.not_eq_eq_eq_not, Bool.not_true, Bool.not_false, ne_eq, Decidable.not_not, Classical.not_not] at hc2
          refine gc_skip ?_
          refine gk_then (hK28 _ _ ?_)
          refine gc_seq fun K29 hK29 => ?_
          refine gc_block ?_
          refine gc_seq fun K30 hK30 => ?_
          refine gc_region ?_
          refine g_v (.free rfl) rfl rfl (qt_move rfl rfl) ?_
          refine g_v (.free rfl) rfl rfl (qt_assign rfl rfl) ?_
          refine g_nil ?_
          refine gk_then (hK30 _ _ ?_)
          refine gc_seq fun K31 hK31 => ?_
          have hx := arrP hS (f := (f : Int)) (by omega) (by omega)
          have x1 := hx.fs; have x2 := hx.ft; have x3 := hx.row; have x4 := hx.fm
          have hy := arrP hS (f := (g : Int)) (by omega) (by omega)
          have y1 := hy.fs; have y2 := hy.ft; have y3 := hy.row; have y4 := hy.fm
          try simp only [List.nil_append, List.cons_append, List.append_assoc, List.set_cons_succ, List.set_cons_zero]
          refine ga_start _ (fun w M => M) ?_
          refine ga_v 0 rfl (by kernel_rfl) (by kernel_rfl) (by kernel_rfl) (.free rfl) rfl rfl (qt_loadS (n := 6) rfl rfl Try.underlying29 rfl (by kernel_rfl) rfl) (fun _ _ _ h => h) ?_
          refine ga_v 1 rfl (by kernel_rfl) (by kernel_rfl) (by kernel_rfl) (.free rfl) rfl rfl (qt_field (z := 0) (off := 1) rfl rfl Try.underlying29 rfl (by kernel_rfl) rfl) (fun _ _ _ h => h) ?_
          refine ga_v 2 rfl (by kernel_rfl) (by kernel_rfl) (by kernel_rfl) (.free rfl) rfl rfl (qt_loadB (n := 6) rfl rfl Try.underlying22 rfl rfl rfl) (fun _ _ _ h => h) ?_
          refine ga_v 3 rfl (by kernel_rfl) (by kernel_rfl) (by kernel_rfl) (.free rfl) rfl rfl (qt_move rfl rfl) (fun _ _ _ h => h) ?_
          refine ga_v 4 rfl (by kernel_rfl) (by kernel_rfl) (by kernel_rfl) (.free rfl) rfl rfl (qt_index rfl rfl rfl ulE1 szE1 (fun w M => lenA_own1 (n := 2) rfl M) (by omega) (by omega)) (fun _ _ _ h => h) ?_
          refine ga_v 5 rfl (by kernel_rfl) (by kernel_rfl) (by kernel_rfl) (.free rfl) rfl rfl (qt_load1 rfl rfl Try.underlying2 rfl (fun w M => (mem_own1 (n := 2) M rfl).rd) (by omega) (by omega)) (fun _ _ _ h => h) ?_
          refine ga_v 6 rfl (by kernel_rfl) (by kernel_rfl) (by kernel_rfl) (.free rfl) rfl rfl (qt_field (z := 0) (off := 1) rfl rfl Try.underlying29 rfl (by kernel_rfl) rfl) (fun _ _ _ h => h) ?_
          refine ga_v 7 rfl (by kernel_rfl) (by kernel_rfl) (by kernel_rfl) (.free rfl) rfl rfl (qt_loadB (n := 6) rfl rfl Try.underlying22 rfl rfl rfl) (fun _ _ _ h => h) ?_
          refine ga_v 8 rfl (by kernel_rfl) (by kernel_rfl) (by kernel_rfl) (.free rfl) rfl rfl (qt_move rfl rfl) (fun _ _ _ h => h) ?_
          refine ga_v 9 rfl (by kernel_rfl) (by kernel_rfl) (by kernel_rfl) (.free rfl) rfl rfl (qt_index rfl rfl rfl ulE1 szE1 (fun w M => lenA_own1 (n := 2) rfl M) (by omega) (by omega)) (fun _ _ _ h => h) ?_
          refine ga_v 10 rfl (by kernel_rfl) (by kernel_rfl) (by kernel_rfl) (.free rfl) rfl rfl (qt_load1 rfl rfl Try.underlying2 rfl (fun w M => (mem_own1 (n := 2) M rfl).rd) (by omega) (by omega)) (fun _ _ _ h => h) ?_
          refine ga_v 11 rfl (by kernel_rfl) (by kernel_rfl) (by kernel_rfl) (.free rfl) rfl rfl (qt_build rfl rfl bt_arrowEnds) (fun _ _ _ h => h) ?_
          refine ga_v 14 rfl (by kernel_rfl) (by kernel_rfl) (by kernel_rfl) (.free rfl) rfl rfl (qt_move rfl rfl) (fun _ _ _ h => h) ?_
          refine ga_op 12 (by kernel_rfl) rfl (.free rfl) fun K33 hK33 => ?_
          refine go_callL rfl rfl rfl Try.func56 rfl (by decide) rfl (fun w M => arrowsBetween_any w _ _ _ _ (rdC_mk ((mem_own1 (n := 2) M rfl).rd) ((mem_own1 (n := 3) M rfl).rd) ((mem_own1 (n := 4) M rfl).rd) (mem_rdU (n := 5) M rfl)) (by first | assumption | omega)) ?_
          intro va32 vc32
          refine hK33 _ _ (fun w M => (mem_take 9 M :)) ?_
          refine ga_op 13 (by kernel_rfl) rfl (.free rfl) fun K34 hK34 => ?_
          refine go_v rfl rfl (qt_len rfl rfl ulE1 (fun w M => lenV_own1 (n := 9) rfl M)) ?_
          refine hK34 _ _ (fun w M => (mem_take 9 M :)) ?_
          refine ga_done (by kernel_rfl) ?_
          refine gk_then (hK31 _ _ ?_)
          refine gc_block ?_
          have hTU : homTo c (at0 c.s (g : Int)) (at0 c.s (f : Int)) c.s.length = twU c f g := rfl
          simp only [hTU]
          try simp only [List.nil_append, List.cons_append, List.append_assoc, List.set_cons_succ, List.set_cons_zero]
          refine gc_loop ([(0, _), (1, _), (2, _), (3, _), (4, _), (5, _), (6, _), (7, _), (8, _), (19, _), (29, _), (30, _), (31, _), (34, _), (35, _), (36, _), (50, _), (51, _)] : Env) (fun s : Nat × (Option Addr) × Nat => (fun (i : Nat) (a : Option Addr) (q : Nat) => ([(52, .int .i64 (i : Int))] : Env)) s.1 s.2.1 s.2.2) (fun s : Nat × (Option Addr) × Nat => (fun (i : Nat) (a : Option Addr) (q : Nat) => ([(7, bxI B7 70 [.int .i64 c.s.length, .slice a (tw3 emE c f g (twU c f g) (twV c f g) (tw2 emE c f (tw1 emE c f) g) i).length q, .func (.func 53) #[.agg #[.int .i64 c.ob, .slice ca7 c.s.length cb7, .slice cc7 c.t.length cd7, .slice ce7 c.e.length cf7, .slice cg7 c.m.length ch7]] #[], .func (.func 54) #[] #[.pointer (some ⟨B9, 0, none⟩)]]), (8, ownEI lab_pair (.slice a (tw3 emE c f g (twU c f g) (twV c f g) (tw2 emE c f (tw1 emE c f) g) i).length q) (tw3 emE c f g (twU c f g) (twV c f g) (tw2 emE c f (tw1 emE c f) g) i))] : List (Nat × Itm))) s.1 s.2.1 s.2.2) (fun s : Nat × (Option Addr) × Nat => (fun (i : Nat) (a : Option Addr) (q : Nat) => i ≤ (twU c f g).length) s.1 s.2.1 s.2.2) (fun s : Nat × (Option Addr) × Nat => (fun (i : Nat) (a : Option Addr) (q : Nat) => (twU c f g).length - i) s.1 s.2.1 s.2.2) (0, _, _) (sub_cons rfl (sub_cons rfl (sub_cons rfl (sub_cons rfl (sub_cons rfl (sub_cons rfl (sub_cons rfl (sub_cons rfl (sub_cons rfl (sub_cons rfl (sub_cons rfl (sub_cons rfl (sub_cons rfl (sub_cons rfl (sub_cons rfl (sub_cons rfl (sub_cons rfl (sub_cons rfl (sub_cons rfl sub_nil))))))))))))))))))) rfl (Nat.zero_le _) ?_
          rintro ⟨i, a, q⟩ hinv KL35 hKL35
          simp only [updL, List.foldl_cons, List.foldl_nil, List.set_cons_succ, List.set_cons_zero, List.cons_append, List.nil_append] at hinv hKL35 ⊢
          have hi := hinv
          refine gc_seq fun K36 hK36 => ?_
          refine gc_region ?_
          refine g_v (.free rfl) rfl rfl (qt_lss rfl rfl rfl) ?_
          refine g_nil ?_
          refine gk_then (hK36 _ _ ?_)
          refine gc_seq fun K37 hK37 => ?_
          refine gc_cond rfl (fun hc3 => ?_) (fun hc3 => ?_)
          · try simp only [decide_eq_true_eq, decide_eq_false_iff_not, Bool.not_eq_true', Bool.not_eq_false', Bool.not_eq_eq_eq_not, Bool.not_true, Bool.not_false, ne_eq, Decidable.not_not, Classical.not_not] at hc3
            refine gc_skip ?_
            refine gk_then (hK37 _ _ ?_)
            refine gc_seq fun K38 hK38 => ?_
            refine gc_block ?_
            refine gc_seq fun K39 hK39 => ?_
            refine gc_region ?_
            refine g_v (.free rfl) rfl rfl (qt_index rfl rfl rfl ulE1 szE1 (fun w M => lenA_own1 (n := 9) rfl M) (by omega) (by omega)) ?_
            refine g_v (.free rfl) rfl rfl (qt_load1 rfl rfl Try.underlying2 rfl (fun w M => (mem_own1 (n := 9) M rfl).rd) (by omega) (by omega)) ?_
            refine g_v (.free rfl) rfl rfl (qt_assign rfl rfl) ?_
            refine g_nil ?_
            refine gk_then (hK39 _ _ ?_)
            refine gc_seq fun K40 hK40 => ?_
            have hUl := twU_len c f g; have hVl := twV_len c f g
            try simp only [List.nil_append, List.cons_append, List.append_assoc, List.set_cons_succ, List.set_cons_zero]
            refine ga_start _ (fun w M => M) ?_
            refine ga_v 0 rfl (by kernel_rfl) (by kernel_rfl) (by kernel_rfl) (.free rfl) rfl rfl (qt_loadS (n := 6) rfl rfl Try.underlying29 rfl (by kernel_rfl) rfl) (fun _ _ _ h => h) ?_
            refine ga_v 1 rfl (by kernel_rfl) (by kernel_rfl) (by kernel_rfl) (.free rfl) rfl rfl (qt_field (z := 0) (off := 2) rfl rfl Try.underlying29 rfl (by kernel_rfl) rfl) (fun _ _ _ h => h) ?_
            refine ga_v 2 rfl (by kernel_rfl) (by kernel_rfl) (by kernel_rfl) (.free rfl) rfl rfl (qt_loadB (n := 6) rfl rfl Try.underlying22 rfl rfl rfl) (fun _ _ _ h => h) ?_
            refine ga_v 3 rfl (by kernel_rfl) (by kernel_rfl) (by kernel_rfl) (.free rfl) rfl rfl (qt_move rfl rfl) (fun _ _ _ h => h) ?_
            refine ga_v 4 rfl (by kernel_rfl) (by kernel_rfl) (by kernel_rfl) (.free rfl) rfl rfl (qt_index rfl rfl rfl ulE1 szE1 (fun w M => lenA_own1 (n := 3) rfl M) (by omega) (by omega)) (fun _ _ _ h => h) ?_
            refine ga_v 5 rfl (by kernel_rfl) (by kernel_rfl) (by kernel_rfl) (.free rfl) rfl rfl (qt_load1 rfl rfl Try.underlying2 rfl (fun w M => (mem_own1 (n := 3) M rfl).rd) (by omega) (by omega)) (fun _ _ _ h => h) ?_
            refine ga_v 6 rfl (by kernel_rfl) (by kernel_rfl) (by kernel_rfl) (.free rfl) rfl rfl (qt_field (z := 0) (off := 2) rfl rfl Try.underlying29 rfl (by kernel_rfl) rfl) (fun _ _ _ h => h) ?_
            refine ga_v 7 rfl (by kernel_rfl) (by kernel_rfl) (by kernel_rfl) (.free rfl) rfl rfl (qt_loadB (n := 6) rfl rfl Try.underlying22 rfl rfl rfl) (fun _ _ _ h => h) ?_
            refine ga_v 8 rfl (by kernel_rfl) (by kernel_rfl) (by kernel_rfl) (.free rfl) rfl rfl (qt_move rfl rfl) (fun _ _ _ h => h) ?_
            refine ga_v 9 rfl (by kernel_rfl) (by kernel_rfl) (by kernel_rfl) (.free rfl) rfl rfl (qt_index rfl rfl rfl ulE1 szE1 (fun w M => lenA_own1 (n := 3) rfl M) (by omega) (by omega)) (fun _ _ _ h => h) ?_
            refine ga_v 10 rfl (by kernel_rfl) (by kernel_rfl) (by kernel_rfl) (.free rfl) rfl rfl (qt_load1 rfl rfl Try.underlying2 rfl (fun w M => (mem_own1 (n := 3) M rfl).rd) (by omega) (by omega)) (fun _ _ _ h => h) ?_
            refine ga_v 11 rfl (by kernel_rfl) (by kernel_rfl) (by kernel_rfl) (.free rfl) rfl rfl (qt_build rfl rfl bt_arrowEnds) (fun _ _ _ h => h) ?_
            refine ga_v 14 rfl (by kernel_rfl) (by kernel_rfl) (by kernel_rfl) (.free rfl) rfl rfl (qt_move rfl rfl) (fun _ _ _ h => h) ?_
            refine ga_op 12 (by kernel_rfl) rfl (.free rfl) fun K42 hK42 => ?_
            refine go_callL rfl rfl rfl Try.func56 rfl (by decide) rfl (fun w M => arrowsBetween_any w _ _ _ _ (rdC_mk ((mem_own1 (n := 2) M rfl).rd) ((mem_own1 (n := 3) M rfl).rd) ((mem_own1 (n := 4) M rfl).rd) (mem_rdU (n := 5) M rfl)) (by first | assumption | omega)) ?_
            intro va41 vc41
            refine hK42 _ _ (fun w M => (mem_take 10 M :)) ?_
            refine ga_op 13 (by kernel_rfl) rfl (.free rfl) fun K43 hK43 => ?_
            refine go_v rfl rfl (qt_len rfl rfl ulE1 (fun w M => lenV_own1 (n := 10) rfl M)) ?_
            refine hK43 _ _ (fun w M => (mem_take 10 M :)) ?_
            refine ga_done (by kernel_rfl) ?_
            refine gk_then (hK40 _ _ ?_)
            refine gc_block ?_
            have hTV : homTo c (at0 c.t (f : Int)) (at0 c.t (g : Int)) c.s.length = twV c f g := rfl
            simp only [hTV]
            try simp only [List.nil_append, List.cons_append, List.append_assoc, List.set_cons_succ, List.set_cons_zero]
            refine gc_loop ([(0, _), (1, _), (2, _), (3, _), (4, _), (5, _), (6, _), (7, _), (8, _), (10, _), (19, _), (29, _), (30, _), (31, _), (34, _), (35, _), (36, _), (50, _), (51, _), (52, _), (53, _), (68, _), (69, _)] : Env) (fun s : Nat × (Option Addr) × Nat => (fun (j : Nat) (a : Option Addr) (q : Nat) => ([(70, .int .i64 (j : Int))] : Env)) s.1 s.2.1 s.2.2) (fun s : Nat × (Option Addr) × Nat => (fun (j : Nat) (a : Option Addr) (q : Nat) => ([(7, bxI B7 70 [.int .i64 c.s.length, .slice a (tw4 emE c f g (at0 (twU c f g) (i : Int)) (twV c f g) (tw3 emE c f g (twU c f g) (twV c f g) (tw2 emE c f (tw1 emE c f) g) i) j).length q, .func (.func 53) #[.agg #[.int .i64 c.ob, .slice ca7 c.s.length cb7, .slice cc7 c.t.length cd7, .slice ce7 c.e.length cf7, .slice cg7 c.m.length ch7]] #[], .func (.func 54) #[] #[.pointer (some ⟨B9, 0, none⟩)]]), (8, ownEI lab_pair (.slice a (tw4 emE c f g (at0 (twU c f g) (i : Int)) (twV c f g) (tw3 emE c f g (twU c f g) (twV c f g) (tw2 emE c f (tw1 emE c f) g) i) j).length q) (tw4 emE c f g (at0 (twU c f g) (i : Int)) (twV c f g) (tw3 emE c f g (twU c f g) (twV c f g) (tw2 emE c f (tw1 emE c f) g) i) j))] : List (Nat × Itm))) s.1 s.2.1 s.2.2) (fun s : Nat × (Option Addr) × Nat => (fun (j : Nat) (a : Option Addr) (q : Nat) => j ≤ (twV c f g).length) s.1 s.2.1 s.2.2) (fun s : Nat × (Option Addr) × Nat => (fun (j : Nat) (a : Option Addr) (q : Nat) => (twV c f g).length - j) s.1 s.2.1 s.2.2) (0, _, _) (sub_cons rfl (sub_cons rfl (sub_cons rfl (sub_cons rfl (sub_cons rfl (sub_cons rfl (sub_cons rfl (sub_cons rfl (sub_cons rfl (sub_cons rfl (sub_cons rfl (sub_cons rfl (sub_cons rfl (sub_cons rfl (sub_cons rfl (sub_cons rfl (sub_cons rfl (sub_cons rfl (sub_cons rfl (sub_cons rfl (sub_cons rfl (sub_cons rfl (sub_cons rfl (sub_cons rfl sub_nil)))))))))))))))))))))))) rfl (Nat.zero_le _) ?_
            rintro ⟨j, a, q⟩ hinv KL44 hKL44
            simp only [updL, List.foldl_cons, List.foldl_nil, List.set_cons_succ, List.set_cons_zero, List.cons_append, List.nil_append] at hinv hKL44 ⊢
            have hj := hinv
            refine gc_seq fun K45 hK45 => ?_
            refine gc_region ?_
            refine g_v (.free rfl) rfl rfl (qt_lss rfl rfl rfl) ?_
            refine g_nil ?_
            refine gk_then (hK45 _ _ ?_)
            refine gc_seq fun K46 hK46 => ?_
            refine gc_cond rfl (fun hc4 => ?_) (fun hc4 => ?_)
            · try simp only [decide_eq_true_eq, decide_eq_false_iff_not, Bool.not_eq_true', Bool.not_eq_false', Bool.not_eq_eq_eq_not, Bool.not_true, Bool.not_false, ne_eq, Decidable.not_not, Classical.not_not] at hc4
              refine gc_skip ?_
              refine gk_then (hK46 _ _ ?_)
              refine gc_seq fun K47 hK47 => ?_
              refine gc_block ?_
              refine gc_seq fun K48 hK48 => ?_
              refine gc_region ?_
              refine g_v (.free rfl) rfl rfl (qt_index rfl rfl rfl ulE1 szE1 (fun w M => lenA_own1 (n := 10) rfl M) (by omega) (by omega)) ?_
              refine g_v (.free rfl) rfl rfl (qt_load1 rfl rfl Try.underlying2 rfl (fun w M => (mem_own1 (n := 10) M rfl).rd) (by omega) (by omega)) ?_
              refine g_v (.free rfl) rfl rfl (qt_assign rfl rfl) ?_
              refine g_nil ?_
              refine gk_then (hK48 _ _ ?_)
              refine gc_seq fun K49 hK49 => ?_
              have hu := homTo_at (c := c) (x := at0 c.s (g : Int)) (y := at0 c.s (f : Int)) (n := c.s.length) (k := i) (show i < (twU c f g).length by omega)
              have hv := homTo_at (c := c) (x := at0 c.t (f : Int)) (y := at0 c.t (g : Int)) (n := c.s.length) (k := j) (show j < (twV c f g).length by omega)
              have hu2 : 0 ≤ at0 (twU c f g) (i : Int) ∧ at0 (twU c f g) (i : Int) < c.s.length ∧ at0 c.s (at0 (twU c f g) (i : Int)) = at0 c.s (g : Int) ∧ at0 c.t (at0 (twU c f g) (i : Int)) = at0 c.s (f : Int) := hu
              have hv2 : 0 ≤ at0 (twV c f g) (j : Int) ∧ at0 (twV c f g) (j : Int) < c.s.length ∧ at0 c.s (at0 (twV c f g) (j : Int)) = at0 c.t (f : Int) ∧ at0 c.t (at0 (twV c f g) (j : Int)) = at0 c.t (g : Int) := hv
              have u0 := hu2.1; have u1 := hu2.2.1; have v0 := hv2.1; have v1 := hv2.2.1
              have hp := arrP hS (f := at0 (twU c f g) (i : Int)) (by omega) (by omega)
              have p1 := hp.fs; have p2 := hp.ft; have p3 := hp.row; have p4 := hp.fm
              have hq := th_ends hS (f := at0 (twU c f g) (i : Int)) (g := (f : Int)) u0 u1 (by omega) (by omega) hu2.2.2.2
              have q0 := hq.1.1; have q1 := hq.1.2
              have hr := arrP hS (f := c.th (at0 (twU c f g) (i : Int)) (f : Int)) (by omega) (by omega)
              have r1 := hr.fs; have r2 := hr.ft; have r3 := hr.row; have r4 := hr.fm
              refine gc_draw (by kernel_rfl) ?_
              refine gd_v (.free rfl) rfl rfl (qt_loadS (n := 6) rfl rfl Try.underlying29 rfl (by kernel_rfl) rfl) ?_
              refine gd_v (.free rfl) rfl rfl (qt_loadS (n := 6) rfl rfl Try.underlying29 rfl (by kernel_rfl) rfl) ?_
              refine gd_v (.free rfl) rfl rfl (qt_move rfl rfl) ?_
              refine gd_v (.free rfl) rfl rfl (qt_move rfl rfl) ?_
              refine gd_q (.free rfl) rfl rfl (qt_call rfl Try.func55 rfl (by decide) rfl (fun w M => then_any w _ _ _ _ (rdC_mk ((mem_own1 (n := 2) M rfl).rd) ((mem_own1 (n := 3) M rfl).rd) ((mem_own1 (n := 4) M rfl).rd) (mem_rdU (n := 5) M rfl)) (by first | assumption | omega) (by first | assumption | omega) (by first | assumption | omega) (by first | assumption | omega))) ?_
              refine gd_v (.free rfl) rfl rfl (qt_move rfl rfl) ?_
              refine gd_q (.free rfl) rfl rfl (qt_call rfl Try.func55 rfl (by decide) rfl (fun w M => then_any w _ _ _ _ (rdC_mk ((mem_own1 (n := 2) M rfl).rd) ((mem_own1 (n := 3) M rfl).rd) ((mem_own1 (n := 4) M rfl).rd) (mem_rdU (n := 5) M rfl)) (by first | assumption | omega) (by first | assumption | omega) (by first | assumption | omega) (by first | assumption | omega))) ?_
              refine gd_v (.free rfl) rfl rfl (qt_move rfl rfl) ?_
              refine gd_v (.free rfl) rfl rfl (qt_eql rfl rfl rfl) ?_
              refine gd_nil ?_
              refine gk_then (hK49 _ _ ?_)
              refine gc_cond rfl (fun hc5 => ?_) (fun hc5 => ?_)
              · try simp only [decide_eq_true_eq, decide_eq_false_iff_not, Bool.not_eq_true', Bool.not_eq_false', Bool.not_eq_eq_eq_not, Bool.not_true, Bool.not_false, ne_eq, Decidable.not_not, Classical.not_not] at hc5
                have b1 := tw1_len hn40 emE (c := c) f
                have b2 := tw2_len hn40 emE f (tw1 emE c f) (c := c) g
                have b3 := tw3_len hn40 emE f g (twU c f g) (tw2 emE c f (tw1 emE c f) g) (c := c) i
                have b4 := tw4_len emE c f g (at0 (twU c f g) (i : Int)) (twV c f g) (tw3 emE c f g (twU c f g) (twV c f g) (tw2 emE c f (tw1 emE c f) g) i) j
                have hUl := twU_len c f g; have hVl := twV_len c f g
                refine gc_region ?_
                refine g_v (.free rfl) rfl rfl (qt_move rfl rfl) ?_
                refine g_v (.free rfl) rfl rfl (qt_move rfl rfl) ?_
                refine g_v (.free rfl) rfl rfl (qt_build rfl rfl bt_arrowEnds) ?_
                refine g_v (.free rfl) rfl rfl (qt_move rfl rfl) ?_
                refine g_v (.free rfl) rfl rfl (qt_move rfl rfl) ?_
                refine g_v (.free rfl) rfl rfl (qt_build rfl rfl bt_arrowPair) ?_
                refine g_op (.free rfl) fun K51 hK51 => ?_
                refine go_two (n := 7) (m := 8) (m' := 7) (σ := Option Addr × Nat) rfl rfl rfl Try.func57 rfl (by decide) rfl rfl rfl (fun z => rfl) (fun R w M => add_pair _ w R _ _ _ _ (at0 (twU c f g) (i : Int), at0 (twV c f g) (j : Int)) _ _ _ _ _ (by omega) M) ?_
                intro ⟨sa50, sq50⟩
                refine hK51 _ _ ?_
                refine g_nil ?_
                refine gk_block ?_
                refine gk_then (hK47 _ _ ?_)
                refine gc_region ?_
                refine g_v (.free rfl) rfl rfl (qt_add rfl rfl rfl (by omega)) ?_
                refine g_v (.free rfl) rfl rfl (qt_move rfl rfl) ?_
                refine g_nil ?_
                have ht : tw4 emE c f g (at0 (twU c f g) (i : Int)) (twV c f g) (tw3 emE c f g (twU c f g) (twV c f g) (tw2 emE c f (tw1 emE c f) g) i) j ++ [((f : Int), (g : Int), (at0 (twU c f g) (i : Int), at0 (twV c f g) (j : Int)))] = tw4 emE c f g (at0 (twU c f g) (i : Int)) (twV c f g) (tw3 emE c f g (twU c f g) (twV c f g) (tw2 emE c f (tw1 emE c f) g) i) (j + 1) := tw4_t hc5
                simp only [ht]
                refine gk_then (gk_take 11 ?_)
                refine gk_sub ?hs_52 (hKL44 (j + 1, _, _) ?hi_52 ?hm_52)
                case hs_52 => exact (sub_cons rfl (sub_cons rfl (sub_cons rfl (sub_cons rfl (sub_cons rfl (sub_cons rfl (sub_cons rfl (sub_cons rfl (sub_cons rfl (sub_cons rfl (sub_cons rfl (sub_cons rfl (sub_cons rfl (sub_cons rfl (sub_cons rfl (sub_cons rfl (sub_cons rfl (sub_cons rfl (sub_cons rfl (sub_cons rfl (sub_cons rfl (sub_cons rfl (sub_cons rfl (sub_cons rfl sub_nil))))))))))))))))))))))))
                case hi_52 => omega
                case hm_52 => omega
              · try simp only [decide_eq_true_eq, decide_eq_false_iff_not, Bool.not_eq_true', Bool.not_eq_false', Bool.not_eq_eq_eq_not, Bool.not_true, Bool.not_false, ne_eq, Decidable.not_not, Classical.not_not] at hc5
                refine gc_skip ?_
                refine gk_block ?_
                refine gk_then (hK47 _ _ ?_)
                refine gc_region ?_
                refine g_v (.free rfl) rfl rfl (qt_add rfl rfl rfl (by omega)) ?_
                refine g_v (.free rfl) rfl rfl (qt_move rfl rfl) ?_
                refine g_nil ?_
                rw [tw4_f hc5]
                refine gk_then (gk_take 11 ?_)
                refine gk_sub ?hs_53 (hKL44 (j + 1, _, _) ?hi_53 ?hm_53)
                case hs_53 => exact (sub_cons rfl (sub_cons rfl (sub_cons rfl (sub_cons rfl (sub_cons rfl (sub_cons rfl (sub_cons rfl (sub_cons rfl (sub_cons rfl (sub_cons rfl (sub_cons rfl (sub_cons rfl (sub_cons rfl (sub_cons rfl (sub_cons rfl (sub_cons rfl (sub_cons rfl (sub_cons rfl (sub_cons rfl (sub_cons rfl (sub_cons rfl (sub_cons rfl (sub_cons rfl (sub_cons rfl sub_nil))))))))))))))))))))))))
                case hi_53 => omega
                case hm_53 => omega
            · try simp only [decide_eq_true_eq, decide_eq_false_iff_not, Bool.not_eq_true', Bool.not_eq_false', Bool.not_eq_eq_eq_not, Bool.not_true, Bool.not_false, ne_eq, Decidable.not_not, Classical.not_not] at hc4
              refine gc_exit ?_
              refine gk_then_exit ?_
              refine gk_then_exit ?_
              refine gk_block_hit ?_
              refine gk_block ?_
              refine gk_then (hK38 _ _ ?_)
              refine gc_region ?_
              refine g_v (.free rfl) rfl rfl (qt_add rfl rfl rfl (by omega)) ?_
              refine g_v (.free rfl) rfl rfl (qt_move rfl rfl) ?_
              refine g_nil ?_
              obtain rfl : j = (twV c f g).length := by omega
              refine gk_then (gk_take 10 ?_)
              refine gk_sub ?hs_54 (hKL35 (i + 1, _, _) ?hi_54 ?hm_54)
              case hs_54 => exact (sub_cons rfl (sub_cons rfl (sub_cons rfl (sub_cons rfl (sub_cons rfl (sub_cons rfl (sub_cons rfl (sub_cons rfl (sub_cons rfl (sub_cons rfl (sub_cons rfl (sub_cons rfl (sub_cons rfl (sub_cons rfl (sub_cons rfl (sub_cons rfl (sub_cons rfl (sub_cons rfl (sub_cons rfl sub_nil)))))))))))))))))))
              case hi_54 => omega
              case hm_54 => omega
          · try simp only [decide_eq_true_eq, decide_eq_false_iff_not, Bool.not_eq_true', Bool.not_eq_false', Bool.not_eq_eq_eq_not, Bool.not_true, Bool.not_false, ne_eq, Decidable.not_not, Classical.not_not] at hc3
            refine gc_exit ?_
            refine gk_then_exit ?_
            refine gk_then_exit ?_
            refine gk_block_hit ?_
            refine gk_block ?_
            refine gk_then (hK29 _ _ ?_)
            refine gc_region ?_
            refine g_v (.free rfl) rfl rfl (qt_add rfl rfl rfl (by omega)) ?_
            refine g_v (.free rfl) rfl rfl (qt_move rfl rfl) ?_
            refine g_nil ?_
            obtain rfl : i = (twU c f g).length := by omega
            refine gk_then (gk_take 9 ?_)
            refine gk_sub ?hs_55 (hKL26 (g + 1, _, _) ?hi_55 ?hm_55)
            case hs_55 => exact (sub_cons rfl (sub_cons rfl (sub_cons rfl (sub_cons rfl (sub_cons rfl (sub_cons rfl (sub_cons rfl (sub_cons rfl (sub_cons rfl (sub_cons rfl (sub_cons rfl (sub_cons rfl (sub_cons rfl (sub_cons rfl sub_nil))))))))))))))
            case hi_55 => omega
            case hm_55 => omega
        · try simp only [decide_eq_true_eq, decide_eq_false_iff_not, Bool.not_eq_true', Bool.not_eq_false', Bool.not_eq_eq_eq_not, Bool.not_true, Bool.not_false, ne_eq, Decidable.not_not, Classical.not_not] at hc2
          refine gc_exit ?_
          refine gk_then_exit ?_
          refine gk_then_exit ?_
          refine gk_block_hit ?_
          refine gk_block ?_
          refine gk_then (hK23 _ _ ?_)
          refine gc_region ?_
          refine g_v (.free rfl) rfl rfl (qt_add rfl rfl rfl (by omega)) ?_
          refine g_v (.free rfl) rfl rfl (qt_move rfl rfl) ?_
          refine g_nil ?_
          obtain rfl : g = c.s.length := by omega
          refine gk_then (gk_take 9 ?_)
          refine gk_sub ?hs_56 (hKL20 (f + 1, _, _) ?hi_56 ?hm_56)
          case hs_56 => exact (sub_cons rfl (sub_cons rfl (sub_cons rfl (sub_cons rfl (sub_cons rfl (sub_cons rfl (sub_cons rfl (sub_cons rfl (sub_cons rfl (sub_cons rfl sub_nil))))))))))
          case hi_56 => omega
          case hm_56 => omega
      · try simp only [decide_eq_true_eq, decide_eq_false_iff_not, Bool.not_eq_true', Bool.not_eq_false', Bool.not_eq_eq_eq_not, Bool.not_true, Bool.not_false, ne_eq, Decidable.not_not, Classical.not_not] at hc1
        refine gc_exit ?_
        refine gk_then_exit ?_
        refine gk_then_exit ?_
        refine gk_block_hit ?_
        refine gk_then (hK18 _ _ ?_)
        refine gc_seq fun K57 hK57 => ?_
        obtain rfl : f = c.s.length := by omega
        have hTW : tw1 emE c c.s.length = twE c := rfl
        simp only [hTW]
        refine gc_region ?_
        refine g_v (.free rfl) rfl rfl (qt_loadS (n := 7) rfl rfl Try.underlying70 rfl (by kernel_rfl) rfl) ?_
        refine g_op (.free rfl) fun K59 hK59 => ?_
        refine go_callCI rfl rfl rfl Try.func58 rfl (by decide) rfl (fun w M => build_pairB w (c.s.length : Int) _ (twE c) (mem_ownE (n := 8) M rfl) (twE_nodup c) (by omega) _ _ (uTw c) (⟨_, Try.func53, rfl, by decide⟩) (fun w' hb x hx => units_any w' _ c (x : Int) (rdC_below hb (rdC_mk ((mem_own1 (n := 2) M rfl).rd) ((mem_own1 (n := 3) M rfl).rd) ((mem_own1 (n := 4) M rfl).rd) (mem_rdU (n := 5) M rfl))) (arrP hS (by omega) (by omega))) _ _ (thTw c) (⟨_, Try.func54, rfl, by decide⟩) (fun w' hb f hf g hg _ => by have P := rowP_of (twE_mem.1 hf); have Q := rowP_of (twE_mem.1 hg); exact twC1_any w' f.2.2.1 f.2.2.2 g.2.2.1 g.2.2.2 _ _ c (rdC_below hb (rdC_mk ((mem_own1 (n := 2) M rfl).rd) ((mem_own1 (n := 3) M rfl).rd) ((mem_own1 (n := 4) M rfl).rd) (mem_rdU (n := 5) M rfl))) hS (bxV_below hb (bxV_of (n := 6) M rfl)) Q.r2.1 Q.r2.2 P.r2.1 P.r2.2 P.r3.1 P.r3.2 Q.r3.1 Q.r3.2)) ?_
        intro ca58 cb58 cc58 cd58 ce58 cf58 cg58 ch58 cu58
        refine hK59 _ _ ?_
        refine g_v (.free rfl) rfl rfl (qt_extract rfl rfl rfl) ?_
        refine g_v (.free rfl) rfl rfl (qt_extract rfl rfl rfl) ?_
        refine g_op (.free rfl) fun K60 hK60 => ?_
        refine go_storeS (n := 1) rfl rfl rfl rfl (by kernel_rfl) rfl rfl rfl ?_
        refine hK60 _ _ ?_
        refine g_v (.free rfl) rfl rfl (qt_assign rfl rfl) ?_
        refine g_nil ?_
        refine gk_then (hK57 _ _ ?_)
        refine gc_ret ?_
        refine ret_SI (n := 1) rfl rfl rfl Try.underlying29 rfl (by kernel_rfl) rfl (fun w M => ?_)
        have hm := tw_made hI
        exact retCI_eq hm.1 hm.2 ⟨_, rfl, ownC_star (mem_pick (n := 12) (mem_pick (n := 12) (mem_pick (n := 12) (mem_pick (n := 12) (M) rfl) rfl) rfl) rfl).2, M.1⟩
    simp only [updL, List.foldl_cons, List.foldl_nil, List.set_cons_succ, List.set_cons_zero, List.cons_append, List.nil_append] at HJ17
    refine ga_start _ (fun w M => M) ?_
    refine ga_v 0 rfl (by kernel_rfl) (by kernel_rfl) (by kernel_rfl) (.free rfl) rfl rfl (qt_loadS (n := 6) rfl rfl Try.underlying29 rfl (by kernel_rfl) rfl) (fun _ _ _ h => h) ?_
    refine ga_v 2 rfl (by kernel_rfl) (by kernel_rfl) (by kernel_rfl) (.free rfl) rfl rfl (qt_loadS (n := 6) rfl rfl Try.underlying29 rfl (by kernel_rfl) rfl) (fun _ _ _ h => h) ?_
    refine ga_four 1 3 4 6 (by kernel_rfl) rfl (.free rfl) rfl (.free rfl) rfl (.free rfl) rfl (.free rfl) (fun K61 hK61 => ?_) (fun K61 hK61 => ?_) (fun K61 hK61 => ?_) (fun K61 hK61 => ?_)
    · refine go_q rfl rfl (qt_call rfl Try.func52 rfl (by decide) rfl (fun w M => arrows_any w _ _ (rdC_mk ((mem_own1 (n := 2) M rfl).rd) ((mem_own1 (n := 3) M rfl).rd) ((mem_own1 (n := 4) M rfl).rd) (mem_rdU (n := 5) M rfl)))) ?_
      refine hK61 _ _ (fun w M => (mem_take 7 M :)) ?_
      refine ga_three 3 4 6 (by kernel_rfl) rfl (.free rfl) rfl (.free rfl) rfl (.free rfl) (fun K63 hK63 => ?_) (fun K63 hK63 => ?_) (fun K63 hK63 => ?_)
      · refine go_v rfl rfl (qt_makeFB rfl rfl) ?_
        refine hK63 _ _ (fun w M => (mem_take 7 M :)) ?_
        refine ga_two 4 6 (by kernel_rfl) rfl rfl (.free rfl) (.free rfl) (fun K65 hK65 => ?_) (fun K65 hK65 => ?_)
        · refine go_v rfl rfl (qt_makeF rfl rfl) ?_
          refine hK65 _ _ (fun w M => (mem_take 7 M :)) ?_
          refine ga_v 5 rfl (by kernel_rfl) (by kernel_rfl) (by kernel_rfl) (.free rfl) rfl rfl (qt_build rfl rfl bt023_plan_pairOf_int64_int64) (fun _ _ _ h => h) ?_
          refine ga_op 6 (by kernel_rfl) rfl (.free rfl) fun K68 hK68 => ?_
          refine go_alloc (z := (.agg #[.int .i64 0, .slice none 0 0, .nilFunc, .nilFunc])) (cs := [.int .i64 0, .slice none 0 0, .nilFunc, .nilFunc]) rfl rfl rfl (fun w => by kernel_rfl) rfl ?_
          intro B67
          refine hK68 _ _ (fun w M => (mem_take 7 M :)) ?_
          refine ga_op 7 (by kernel_rfl) rfl (.free rfl) fun K69 hK69 => ?_
          refine go_storeS (n := 7) rfl rfl rfl rfl (by kernel_rfl) rfl rfl rfl ?_
          refine hK69 _ _ (fun w M => (mem_take 7 M :)) ?_
          refine ga_done (by kernel_rfl) ?_
          refine gk_pickL [0, 0, 0, 0, 0, 0, 0, 0] ?_
          refine gk_sub ?hs_70 (HJ17 _)
          case hs_70 => exact (sub_cons rfl (sub_cons rfl (sub_cons rfl (sub_cons rfl (sub_cons rfl (sub_cons rfl (sub_cons rfl (sub_cons rfl sub_nil))))))))
        · refine go_alloc (z := (.agg #[.int .i64 0, .slice none 0 0, .nilFunc, .nilFunc])) (cs := [.int .i64 0, .slice none 0 0, .nilFunc, .nilFunc]) rfl rfl rfl (fun w => by kernel_rfl) rfl ?_
          intro B71
          refine hK65 _ _ (fun w M => (mem_take 7 M :)) ?_
          refine ga_op 4 (by kernel_rfl) rfl (.free rfl) fun K73 hK73 => ?_
          refine go_v rfl rfl (qt_makeF rfl rfl) ?_
          refine hK73 _ _ (fun w M => (mem_take 7 M :)) ?_
          refine ga_v 5 rfl (by kernel_rfl) (by kernel_rfl) (by kernel_rfl) (.free rfl) rfl rfl (qt_build rfl rfl bt023_plan_pairOf_int64_int64) (fun _ _ _ h => h) ?_
          refine ga_op 7 (by kernel_rfl) rfl (.free rfl) fun K74 hK74 => ?_
          refine go_storeS (n := 7) rfl rfl rfl rfl (by kernel_rfl) rfl rfl rfl ?_
          refine hK74 _ _ (fun w M => (mem_take 7 M :)) ?_
          refine ga_done (by kernel_rfl) ?_
          refine gk_pickL [0, 0, 0, 0, 0, 0, 0, 0] ?_
          refine gk_sub ?hs_75 (HJ17 _)
          case hs_75 => exact (sub_cons rfl (sub_cons rfl (sub_cons rfl (sub_cons rfl (sub_cons rfl (sub_cons rfl (sub_cons rfl (sub_cons rfl sub_nil))))))))
      · refine go_v rfl rfl (qt_makeF rfl rfl) ?_
        refine hK63 _ _ (fun w M => (mem_take 7 M :)) ?_
        refine ga_two 3 6 (by kernel_rfl) rfl rfl (.free rfl) (.free rfl) (fun K77 hK77 => ?_) (fun K77 hK77 => ?_)
        · refine go_v rfl rfl (qt_makeFB rfl rfl) ?_
          refine hK77 _ _ (fun w M => (mem_take 7 M :)) ?_
          refine ga_v 5 rfl (by kernel_rfl) (by kernel_rfl) (by kernel_rfl) (.free rfl) rfl rfl (qt_build rfl rfl bt023_plan_pairOf_int64_int64) (fun _ _ _ h => h) ?_
          refine ga_op 6 (by kernel_rfl) rfl (.free rfl) fun K80 hK80 => ?_
          refine go_alloc (z := (.agg #[.int .i64 0, .slice none 0 0, .nilFunc, .nilFunc])) (cs := [.int .i64 0, .slice none 0 0, .nilFunc, .nilFunc]) rfl rfl rfl (fun w => by kernel_rfl) rfl ?_
          intro B79
          refine hK80 _ _ (fun w M => (mem_take 7 M :)) ?_
          refine ga_op 7 (by kernel_rfl) rfl (.free rfl) fun K81 hK81 => ?_
          refine go_storeS (n := 7) rfl rfl rfl rfl (by kernel_rfl) rfl rfl rfl ?_
          refine hK81 _ _ (fun w M => (mem_take 7 M :)) ?_
          refine ga_done (by kernel_rfl) ?_
          refine gk_pickL [0, 0, 0, 0, 0, 0, 0, 0] ?_
          refine gk_sub ?hs_82 (HJ17 _)
          case hs_82 => exact (sub_cons rfl (sub_cons rfl (sub_cons rfl (sub_cons rfl (sub_cons rfl (sub_cons rfl (sub_cons rfl (sub_cons rfl sub_nil))))))))
        · refine go_alloc (z := (.agg #[.int .i64 0, .slice none 0 0, .nilFunc, .nilFunc])) (cs := [.int .i64 0, .slice none 0 0, .nilFunc, .nilFunc]) rfl rfl rfl (fun w => by kernel_rfl) rfl ?_
          intro B83
          refine hK77 _ _ (fun w M => (mem_take 7 M :)) ?_
          refine ga_op 3 (by kernel_rfl) rfl (.free rfl) fun K85 hK85 => ?_
          refine go_v rfl rfl (qt_makeFB rfl rfl) ?_
          refine hK85 _ _ (fun w M => (mem_take 7 M :)) ?_
          refine ga_v 5 rfl (by kernel_rfl) (by kernel_rfl) (by kernel_rfl) (.free rfl) rfl rfl (qt_build rfl rfl bt023_plan_pairOf_int64_int64) (fun _ _ _ h => h) ?_
          refine ga_op 7 (by kernel_rfl) rfl (.free rfl) fun K86 hK86 => ?_
          refine go_storeS (n := 7) rfl rfl rfl rfl (by kernel_rfl) rfl rfl rfl ?_
          refine hK86 _ _ (fun w M => (mem_take 7 M :)) ?_
          refine ga_done (by kernel_rfl) ?_
          refine gk_pickL [0, 0, 0, 0, 0, 0, 0, 0] ?_
          refine gk_sub ?hs_87 (HJ17 _)
          case hs_87 => exact (sub_cons rfl (sub_cons rfl (sub_cons rfl (sub_cons rfl (sub_cons rfl (sub_cons rfl (sub_cons rfl (sub_cons rfl sub_nil))))))))
      · refine go_alloc (z := (.agg #[.int .i64 0, .slice none 0 0, .nilFunc, .nilFunc])) (cs := [.int .i64 0, .slice none 0 0, .nilFunc, .nilFunc]) rfl rfl rfl (fun w => by kernel_rfl) rfl ?_
        intro B88
        refine hK63 _ _ (fun w M => (mem_take 7 M :)) ?_
        refine ga_two 3 4 (by kernel_rfl) rfl rfl (.free rfl) (.free rfl) (fun K90 hK90 => ?_) (fun K90 hK90 => ?_)
        · refine go_v rfl rfl (qt_makeFB rfl rfl) ?_
          refine hK90 _ _ (fun w M => (mem_take 7 M :)) ?_
          refine ga_op 4 (by kernel_rfl) rfl (.free rfl) fun K92 hK92 => ?_
          refine go_v rfl rfl (qt_makeF rfl rfl) ?_
          refine hK92 _ _ (fun w M => (mem_take 7 M :)) ?_
          refine ga_v 5 rfl (by kernel_rfl) (by kernel_rfl) (by kernel_rfl) (.free rfl) rfl rfl (qt_build rfl rfl bt023_plan_pairOf_int64_int64) (fun _ _ _ h => h) ?_
          refine ga_op 7 (by kernel_rfl) rfl (.free rfl) fun K93 hK93 => ?_
          refine go_storeS (n := 7) rfl rfl rfl rfl (by kernel_rfl) rfl rfl rfl ?_
          refine hK93 _ _ (fun w M => (mem_take 7 M :)) ?_
          refine ga_done (by kernel_rfl) ?_
          refine gk_pickL [0, 0, 0, 0, 0, 0, 0, 0] ?_
          refine gk_sub ?hs_94 (HJ17 _)
          case hs_94 => exact (sub_cons rfl (sub_cons rfl (sub_cons rfl (sub_cons rfl (sub_cons rfl (sub_cons rfl (sub_cons rfl (sub_cons rfl sub_nil))))))))
        · refine go_v rfl rfl (qt_makeF rfl rfl) ?_
          refine hK90 _ _ (fun w M => (mem_take 7 M :)) ?_
          refine ga_op 3 (by kernel_rfl) rfl (.free rfl) fun K96 hK96 => ?_
          refine go_v rfl rfl (qt_makeFB rfl rfl) ?_
          refine hK96 _ _ (fun w M => (mem_take 7 M :)) ?_
          refine ga_v 5 rfl (by kernel_rfl) (by kernel_rfl) (by kernel_rfl) (.free rfl) rfl rfl (qt_build rfl rfl bt023_plan_pairOf_int64_int64) (fun _ _ _ h => h) ?_
          refine ga_op 7 (by kernel_rfl) rfl (.free rfl) fun K97 hK97 => ?_
          refine go_storeS (n := 7) rfl rfl rfl rfl (by kernel_rfl) rfl rfl rfl ?_
          refine hK97 _ _ (fun w M => (mem_take 7 M :)) ?_
          refine ga_done (by kernel_rfl) ?_
          refine gk_pickL [0, 0, 0, 0, 0, 0, 0, 0] ?_
          refine gk_sub ?hs_98 (HJ17 _)
          case hs_98 => exact (sub_cons rfl (sub_cons rfl (sub_cons rfl (sub_cons rfl (sub_cons rfl (sub_cons rfl (sub_cons rfl (sub_cons rfl sub_nil))))))))
    · refine go_v rfl rfl (qt_makeFB rfl rfl) ?_
      refine hK61 _ _ (fun w M => (mem_take 7 M :)) ?_
      refine ga_three 1 4 6 (by kernel_rfl) rfl (.free rfl) rfl (.free rfl) rfl (.free rfl) (fun K100 hK100 => ?_) (fun K100 hK100 => ?_) (fun K100 hK100 => ?_)
      · refine go_q rfl rfl (qt_call rfl Try.func52 rfl (by decide) rfl (fun w M => arrows_any w _ _ (rdC_mk ((mem_own1 (n := 2) M rfl).rd) ((mem_own1 (n := 3) M rfl).rd) ((mem_own1 (n := 4) M rfl).rd) (mem_rdU (n := 5) M rfl)))) ?_
        refine hK100 _ _ (fun w M => (mem_take 7 M :)) ?_
        refine ga_two 4 6 (by kernel_rfl) rfl rfl (.free rfl) (.free rfl) (fun K102 hK102 => ?_) (fun K102 hK102 => ?_)
        · refine go_v rfl rfl (qt_makeF rfl rfl) ?_
          refine hK102 _ _ (fun w M => (mem_take 7 M :)) ?_
          refine ga_v 5 rfl (by kernel_rfl) (by kernel_rfl) (by kernel_rfl) (.free rfl) rfl rfl (qt_build rfl rfl bt023_plan_pairOf_int64_int64) (fun _ _ _ h => h) ?_
          refine ga_op 6 (by kernel_rfl) rfl (.free rfl) fun K105 hK105 => ?_
          refine go_alloc (z := (.agg #[.int .i64 0, .slice none 0 0, .nilFunc, .nilFunc])) (cs := [.int .i64 0, .slice none 0 0, .nilFunc, .nilFunc]) rfl rfl rfl (fun w => by kernel_rfl) rfl ?_
          intro B104
          refine hK105 _ _ (fun w M => (mem_take 7 M :)) ?_
          refine ga_op 7 (by kernel_rfl) rfl (.free rfl) fun K106 hK106 => ?_
          refine go_storeS (n := 7) rfl rfl rfl rfl (by kernel_rfl) rfl rfl rfl ?_
          refine hK106 _ _ (fun w M => (mem_take 7 M :)) ?_
          refine ga_done (by kernel_rfl) ?_
          refine gk_pickL [0, 0, 0, 0, 0, 0, 0, 0] ?_
          refine gk_sub ?hs_107 (HJ17 _)
          case hs_107 => exact (sub_cons rfl (sub_cons rfl (sub_cons rfl (sub_cons rfl (sub_cons rfl (sub_cons rfl (sub_cons rfl (sub_cons rfl sub_nil))))))))
        · refine go_alloc (z := (.agg #[.int .i64 0, .slice none 0 0, .nilFunc, .nilFunc])) (cs := [.int .i64 0, .slice none 0 0, .nilFunc, .nilFunc]) rfl rfl rfl (fun w => by kernel_rfl) rfl ?_
          intro B108
          refine hK102 _ _ (fun w M => (mem_take 7 M :)) ?_
          refine ga_op 4 (by kernel_rfl) rfl (.free rfl) fun K110 hK110 => ?_
          refine go_v rfl rfl (qt_makeF rfl rfl) ?_
          refine hK110 _ _ (fun w M => (mem_take 7 M :)) ?_
          refine ga_v 5 rfl (by kernel_rfl) (by kernel_rfl) (by kernel_rfl) (.free rfl) rfl rfl (qt_build rfl rfl bt023_plan_pairOf_int64_int64) (fun _ _ _ h => h) ?_
          refine ga_op 7 (by kernel_rfl) rfl (.free rfl) fun K111 hK111 => ?_
          refine go_storeS (n := 7) rfl rfl rfl rfl (by kernel_rfl) rfl rfl rfl ?_
          refine hK111 _ _ (fun w M => (mem_take 7 M :)) ?_
          refine ga_done (by kernel_rfl) ?_
          refine gk_pickL [0, 0, 0, 0, 0, 0, 0, 0] ?_
          refine gk_sub ?hs_112 (HJ17 _)
          case hs_112 => exact (sub_cons rfl (sub_cons rfl (sub_cons rfl (sub_cons rfl (sub_cons rfl (sub_cons rfl (sub_cons rfl (sub_cons rfl sub_nil))))))))
      · refine go_v rfl rfl (qt_makeF rfl rfl) ?_
        refine hK100 _ _ (fun w M => (mem_take 7 M :)) ?_
        refine ga_two 1 6 (by kernel_rfl) rfl rfl (.free rfl) (.free rfl) (fun K114 hK114 => ?_) (fun K114 hK114 => ?_)
        · refine go_q rfl rfl (qt_call rfl Try.func52 rfl (by decide) rfl (fun w M => arrows_any w _ _ (rdC_mk ((mem_own1 (n := 2) M rfl).rd) ((mem_own1 (n := 3) M rfl).rd) ((mem_own1 (n := 4) M rfl).rd) (mem_rdU (n := 5) M rfl)))) ?_
          refine hK114 _ _ (fun w M => (mem_take 7 M :)) ?_
          refine ga_v 5 rfl (by kernel_rfl) (by kernel_rfl) (by kernel_rfl) (.free rfl) rfl rfl (qt_build rfl rfl bt023_plan_pairOf_int64_int64) (fun _ _ _ h => h) ?_
          refine ga_op 6 (by kernel_rfl) rfl (.free rfl) fun K117 hK117 => ?_
          refine go_alloc (z := (.agg #[.int .i64 0, .slice none 0 0, .nilFunc, .nilFunc])) (cs := [.int .i64 0, .slice none 0 0, .nilFunc, .nilFunc]) rfl rfl rfl (fun w => by kernel_rfl) rfl ?_
          intro B116
          refine hK117 _ _ (fun w M => (mem_take 7 M :)) ?_
          refine ga_op 7 (by kernel_rfl) rfl (.free rfl) fun K118 hK118 => ?_
          refine go_storeS (n := 7) rfl rfl rfl rfl (by kernel_rfl) rfl rfl rfl ?_
          refine hK118 _ _ (fun w M => (mem_take 7 M :)) ?_
          refine ga_done (by kernel_rfl) ?_
          refine gk_pickL [0, 0, 0, 0, 0, 0, 0, 0] ?_
          refine gk_sub ?hs_119 (HJ17 _)
          case hs_119 => exact (sub_cons rfl (sub_cons rfl (sub_cons rfl (sub_cons rfl (sub_cons rfl (sub_cons rfl (sub_cons rfl (sub_cons rfl sub_nil))))))))
        · refine go_alloc (z := (.agg #[.int .i64 0, .slice none 0 0, .nilFunc, .nilFunc])) (cs := [.int .i64 0, .slice none 0 0, .nilFunc, .nilFunc]) rfl rfl rfl (fun w => by kernel_rfl) rfl ?_
          intro B120
          refine hK114 _ _ (fun w M => (mem_take 7 M :)) ?_
          refine ga_op 1 (by kernel_rfl) rfl (.free rfl) fun K122 hK122 => ?_
          refine go_q rfl rfl (qt_call rfl Try.func52 rfl (by decide) rfl (fun w M => arrows_any w _ _ (rdC_mk ((mem_own1 (n := 2) M rfl).rd) ((mem_own1 (n := 3) M rfl).rd) ((mem_own1 (n := 4) M rfl).rd) (mem_rdU (n := 5) M rfl)))) ?_
          refine hK122 _ _ (fun w M => (mem_take 7 M :)) ?_
          refine ga_v 5 rfl (by kernel_rfl) (by kernel_rfl) (by kernel_rfl) (.free rfl) rfl rfl (qt_build rfl rfl bt023_plan_pairOf_int64_int64) (fun _ _ _ h => h) ?_
          refine ga_op 7 (by kernel_rfl) rfl (.free rfl) fun K123 hK123 => ?_
          refine go_storeS (n := 7) rfl rfl rfl rfl (by kernel_rfl) rfl rfl rfl ?_
          refine hK123 _ _ (fun w M => (mem_take 7 M :)) ?_
          refine ga_done (by kernel_rfl) ?_
          refine gk_pickL [0, 0, 0, 0, 0, 0, 0, 0] ?_
          refine gk_sub ?hs_124 (HJ17 _)
          case hs_124 => exact (sub_cons rfl (sub_cons rfl (sub_cons rfl (sub_cons rfl (sub_cons rfl (sub_cons rfl (sub_cons rfl (sub_cons rfl sub_nil))))))))
      · refine go_alloc (z := (.agg #[.int .i64 0, .slice none 0 0, .nilFunc, .nilFunc])) (cs := [.int .i64 0, .slice none 0 0, .nilFunc, .nilFunc]) rfl rfl rfl (fun w => by kernel_rfl) rfl ?_
        intro B125
        refine hK100 _ _ (fun w M => (mem_take 7 M :)) ?_
        refine ga_two 1 4 (by kernel_rfl) rfl rfl (.free rfl) (.free rfl) (fun K127 hK127 => ?_) (fun K127 hK127 => ?_)
        · refine go_q rfl rfl (qt_call rfl Try.func52 rfl (by decide) rfl (fun w M => arrows_any w _ _ (rdC_mk ((mem_own1 (n := 2) M rfl).rd) ((mem_own1 (n := 3) M rfl).rd) ((mem_own1 (n := 4) M rfl).rd) (mem_rdU (n := 5) M rfl)))) ?_
          refine hK127 _ _ (fun w M => (mem_take 7 M :)) ?_
          refine ga_op 4 (by kernel_rfl) rfl (.free rfl) fun K129 hK129 => ?_
          refine go_v rfl rfl (qt_makeF rfl rfl) ?_
          refine hK129 _ _ (fun w M => (mem_take 7 M :)) ?_
          refine ga_v 5 rfl (by kernel_rfl) (by kernel_rfl) (by kernel_rfl) (.free rfl) rfl rfl (qt_build rfl rfl bt023_plan_pairOf_int64_int64) (fun _ _ _ h => h) ?_
          refine ga_op 7 (by kernel_rfl) rfl (.free rfl) fun K130 hK130 => ?_
          refine go_storeS (n := 7) rfl rfl rfl rfl (by kernel_rfl) rfl rfl rfl ?_
          refine hK130 _ _ (fun w M => (mem_take 7 M :)) ?_
          refine ga_done (by kernel_rfl) ?_
          refine gk_pickL [0, 0, 0, 0, 0, 0, 0, 0] ?_
          refine gk_sub ?hs_131 (HJ17 _)
          case hs_131 => exact (sub_cons rfl (sub_cons rfl (sub_cons rfl (sub_cons rfl (sub_cons rfl (sub_cons rfl (sub_cons rfl (sub_cons rfl sub_nil))))))))
        · refine go_v rfl rfl (qt_makeF rfl rfl) ?_
          refine hK127 _ _ (fun w M => (mem_take 7 M :)) ?_
          refine ga_op 1 (by kernel_rfl) rfl (.free rfl) fun K133 hK133 => ?_
          refine go_q rfl rfl (qt_call rfl Try.func52 rfl (by decide) rfl (fun w M => arrows_any w _ _ (rdC_mk ((mem_own1 (n := 2) M rfl).rd) ((mem_own1 (n := 3) M rfl).rd) ((mem_own1 (n := 4) M rfl).rd) (mem_rdU (n := 5) M rfl)))) ?_
          refine hK133 _ _ (fun w M => (mem_take 7 M :)) ?_
          refine ga_v 5 rfl (by kernel_rfl) (by kernel_rfl) (by kernel_rfl) (.free rfl) rfl rfl (qt_build rfl rfl bt023_plan_pairOf_int64_int64) (fun _ _ _ h => h) ?_
          refine ga_op 7 (by kernel_rfl) rfl (.free rfl) fun K134 hK134 => ?_
          refine go_storeS (n := 7) rfl rfl rfl rfl (by kernel_rfl) rfl rfl rfl ?_
          refine hK134 _ _ (fun w M => (mem_take 7 M :)) ?_
          refine ga_done (by kernel_rfl) ?_
          refine gk_pickL [0, 0, 0, 0, 0, 0, 0, 0] ?_
          refine gk_sub ?hs_135 (HJ17 _)
          case hs_135 => exact (sub_cons rfl (sub_cons rfl (sub_cons rfl (sub_cons rfl (sub_cons rfl (sub_cons rfl (sub_cons rfl (sub_cons rfl sub_nil))))))))
    · refine go_v rfl rfl (qt_makeF rfl rfl) ?_
      refine hK61 _ _ (fun w M => (mem_take 7 M :)) ?_
      refine ga_three 1 3 6 (by kernel_rfl) rfl (.free rfl) rfl (.free rfl) rfl (.free rfl) (fun K137 hK137 => ?_) (fun K137 hK137 => ?_) (fun K137 hK137 => ?_)
      · refine go_q rfl rfl (qt_call rfl Try.func52 rfl (by decide) rfl (fun w M => arrows_any w _ _ (rdC_mk ((mem_own1 (n := 2) M rfl).rd) ((mem_own1 (n := 3) M rfl).rd) ((mem_own1 (n := 4) M rfl).rd) (mem_rdU (n := 5) M rfl)))) ?_
        refine hK137 _ _ (fun w M => (mem_take 7 M :)) ?_
        refine ga_two 3 6 (by kernel_rfl) rfl rfl (.free rfl) (.free rfl) (fun K139 hK139 => ?_) (fun K139 hK139 => ?_)
        · refine go_v rfl rfl (qt_makeFB rfl rfl) ?_
          refine hK139 _ _ (fun w M => (mem_take 7 M :)) ?_
          refine ga_v 5 rfl (by kernel_rfl) (by kernel_rfl) (by kernel_rfl) (.free rfl) rfl rfl (qt_build rfl rfl bt023_plan_pairOf_int64_int64) (fun _ _ _ h => h) ?_
          refine ga_op 6 (by kernel_rfl) rfl (.free rfl) fun K142 hK142 => ?_
          refine go_alloc (z := (.agg #[.int .i64 0, .slice none 0 0, .nilFunc, .nilFunc])) (cs := [.int .i64 0, .slice none 0 0, .nilFunc, .nilFunc]) rfl rfl rfl (fun w => by kernel_rfl) rfl ?_
          intro B141
          refine hK142 _ _ (fun w M => (mem_take 7 M :)) ?_
          refine ga_op 7 (by kernel_rfl) rfl (.free rfl) fun K143 hK143 => ?_
          refine go_storeS (n := 7) rfl rfl rfl rfl (by kernel_rfl) rfl rfl rfl ?_
          refine hK143 _ _ (fun w M => (mem_take 7 M :)) ?_
          refine ga_done (by kernel_rfl) ?_
          refine gk_pickL [0, 0, 0, 0, 0, 0, 0, 0] ?_
          refine gk_sub ?hs_144 (HJ17 _)
          case hs_144 => exact (sub_cons rfl (sub_cons rfl (sub_cons rfl (sub_cons rfl (sub_cons rfl (sub_cons rfl (sub_cons rfl (sub_cons rfl sub_nil))))))))
        · refine go_alloc (z := (.agg #[.int .i64 0, .slice none 0 0, .nilFunc, .nilFunc])) (cs := [.int .i64 0, .slice none 0 0, .nilFunc, .nilFunc]) rfl rfl rfl (fun w => by kernel_rfl) rfl ?_
          intro B145
          refine hK139 _ _ (fun w M => (mem_take 7 M :)) ?_
          refine ga_op 3 (by kernel_rfl) rfl (.free rfl) fun K147 hK147 => ?_
          refine go_v rfl rfl (qt_makeFB rfl rfl) ?_
          refine hK147 _ _ (fun w M => (mem_take 7 M :)) ?_
          refine ga_v 5 rfl (by kernel_rfl) (by kernel_rfl) (by kernel_rfl) (.free rfl) rfl rfl (qt_build rfl rfl bt023_plan_pairOf_int64_int64) (fun _ _ _ h => h) ?_
          refine ga_op 7 (by kernel_rfl) rfl (.free rfl) fun K148 hK148 => ?_
          refine go_storeS (n := 7) rfl rfl rfl rfl (by kernel_rfl) rfl rfl rfl ?_
          refine hK148 _ _ (fun w M => (mem_take 7 M :)) ?_
          refine ga_done (by kernel_rfl) ?_
          refine gk_pickL [0, 0, 0, 0, 0, 0, 0, 0] ?_
          refine gk_sub ?hs_149 (HJ17 _)
          case hs_149 => exact (sub_cons rfl (sub_cons rfl (sub_cons rfl (sub_cons rfl (sub_cons rfl (sub_cons rfl (sub_cons rfl (sub_cons rfl sub_nil))))))))
      · refine go_v rfl rfl (qt_makeFB rfl rfl) ?_
        refine hK137 _ _ (fun w M => (mem_take 7 M :)) ?_
        refine ga_two 1 6 (by kernel_rfl) rfl rfl (.free rfl) (.free rfl) (fun K151 hK151 => ?_) (fun K151 hK151 => ?_)
        · refine go_q rfl rfl (qt_call rfl Try.func52 rfl (by decide) rfl (fun w M => arrows_any w _ _ (rdC_mk ((mem_own1 (n := 2) M rfl).rd) ((mem_own1 (n := 3) M rfl).rd) ((mem_own1 (n := 4) M rfl).rd) (mem_rdU (n := 5) M rfl)))) ?_
          refine hK151 _ _ (fun w M => (mem_take 7 M :)) ?_
          refine ga_v 5 rfl (by kernel_rfl) (by kernel_rfl) (by kernel_rfl) (.free rfl) rfl rfl (qt_build rfl rfl bt023_plan_pairOf_int64_int64) (fun _ _ _ h => h) ?_
          refine ga_op 6 (by kernel_rfl) rfl (.free rfl) fun K154 hK154 => ?_
          refine go_alloc (z := (.agg #[.int .i64 0, .slice none 0 0, .nilFunc, .nilFunc])) (cs := [.int .i64 0, .slice none 0 0, .nilFunc, .nilFunc]) rfl rfl rfl (fun w => by kernel_rfl) rfl ?_
          intro B153
          refine hK154 _ _ (fun w M => (mem_take 7 M :)) ?_
          refine ga_op 7 (by kernel_rfl) rfl (.free rfl) fun K155 hK155 => ?_
          refine go_storeS (n := 7) rfl rfl rfl rfl (by kernel_rfl) rfl rfl rfl ?_
          refine hK155 _ _ (fun w M => (mem_take 7 M :)) ?_
          refine ga_done (by kernel_rfl) ?_
          refine gk_pickL [0, 0, 0, 0, 0, 0, 0, 0] ?_
          refine gk_sub ?hs_156 (HJ17 _)
          case hs_156 => exact (sub_cons rfl (sub_cons rfl (sub_cons rfl (sub_cons rfl (sub_cons rfl (sub_cons rfl (sub_cons rfl (sub_cons rfl sub_nil))))))))
        · refine go_alloc (z := (.agg #[.int .i64 0, .slice none 0 0, .nilFunc, .nilFunc])) (cs := [.int .i64 0, .slice none 0 0, .nilFunc, .nilFunc]) rfl rfl rfl (fun w => by kernel_rfl) rfl ?_
          intro B157
          refine hK151 _ _ (fun w M => (mem_take 7 M :)) ?_
          refine ga_op 1 (by kernel_rfl) rfl (.free rfl) fun K159 hK159 => ?_
          refine go_q rfl rfl (qt_call rfl Try.func52 rfl (by decide) rfl (fun w M => arrows_any w _ _ (rdC_mk ((mem_own1 (n := 2) M rfl).rd) ((mem_own1 (n := 3) M rfl).rd) ((mem_own1 (n := 4) M rfl).rd) (mem_rdU (n := 5) M rfl)))) ?_
          refine hK159 _ _ (fun w M => (mem_take 7 M :)) ?_
          refine ga_v 5 rfl (by kernel_rfl) (by kernel_rfl) (by kernel_rfl) (.free rfl) rfl rfl (qt_build rfl rfl bt023_plan_pairOf_int64_int64) (fun _ _ _ h => h) ?_
          refine ga_op 7 (by kernel_rfl) rfl (.free rfl) fun K160 hK160 => ?_
          refine go_storeS (n := 7) rfl rfl rfl rfl (by kernel_rfl) rfl rfl rfl ?_
          refine hK160 _ _ (fun w M => (mem_take 7 M :)) ?_
          refine ga_done (by kernel_rfl) ?_
          refine gk_pickL [0, 0, 0, 0, 0, 0, 0, 0] ?_
          refine gk_sub ?hs_161 (HJ17 _)
          case hs_161 => exact (sub_cons rfl (sub_cons rfl (sub_cons rfl (sub_cons rfl (sub_cons rfl (sub_cons rfl (sub_cons rfl (sub_cons rfl sub_nil))))))))
      · refine go_alloc (z := (.agg #[.int .i64 0, .slice none 0 0, .nilFunc, .nilFunc])) (cs := [.int .i64 0, .slice none 0 0, .nilFunc, .nilFunc]) rfl rfl rfl (fun w => by kernel_rfl) rfl ?_
        intro B162
        refine hK137 _ _ (fun w M => (mem_take 7 M :)) ?_
        refine ga_two 1 3 (by kernel_rfl) rfl rfl (.free rfl) (.free rfl) (fun K164 hK164 => ?_) (fun K164 hK164 => ?_)
        · refine go_q rfl rfl (qt_call rfl Try.func52 rfl (by decide) rfl (fun w M => arrows_any w _ _ (rdC_mk ((mem_own1 (n := 2) M rfl).rd) ((mem_own1 (n := 3) M rfl).rd) ((mem_own1 (n := 4) M rfl).rd) (mem_rdU (n := 5) M rfl)))) ?_
          refine hK164 _ _ (fun w M => (mem_take 7 M :)) ?_
          refine ga_op 3 (by kernel_rfl) rfl (.free rfl) fun K166 hK166 => ?_
          refine go_v rfl rfl (qt_makeFB rfl rfl) ?_
          refine hK166 _ _ (fun w M => (mem_take 7 M :)) ?_
          refine ga_v 5 rfl (by kernel_rfl) (by kernel_rfl) (by kernel_rfl) (.free rfl) rfl rfl (qt_build rfl rfl bt023_plan_pairOf_int64_int64) (fun _ _ _ h => h) ?_
          refine ga_op 7 (by kernel_rfl) rfl (.free rfl) fun K167 hK167 => ?_
          refine go_storeS (n := 7) rfl rfl rfl rfl (by kernel_rfl) rfl rfl rfl ?_
          refine hK167 _ _ (fun w M => (mem_take 7 M :)) ?_
          refine ga_done (by kernel_rfl) ?_
          refine gk_pickL [0, 0, 0, 0, 0, 0, 0, 0] ?_
          refine gk_sub ?hs_168 (HJ17 _)
          case hs_168 => exact (sub_cons rfl (sub_cons rfl (sub_cons rfl (sub_cons rfl (sub_cons rfl (sub_cons rfl (sub_cons rfl (sub_cons rfl sub_nil))))))))
        · refine go_v rfl rfl (qt_makeFB rfl rfl) ?_
          refine hK164 _ _ (fun w M => (mem_take 7 M :)) ?_
          refine ga_op 1 (by kernel_rfl) rfl (.free rfl) fun K170 hK170 => ?_
          refine go_q rfl rfl (qt_call rfl Try.func52 rfl (by decide) rfl (fun w M => arrows_any w _ _ (rdC_mk ((mem_own1 (n := 2) M rfl).rd) ((mem_own1 (n := 3) M rfl).rd) ((mem_own1 (n := 4) M rfl).rd) (mem_rdU (n := 5) M rfl)))) ?_
          refine hK170 _ _ (fun w M => (mem_take 7 M :)) ?_
          refine ga_v 5 rfl (by kernel_rfl) (by kernel_rfl) (by kernel_rfl) (.free rfl) rfl rfl (qt_build rfl rfl bt023_plan_pairOf_int64_int64) (fun _ _ _ h => h) ?_
          refine ga_op 7 (by kernel_rfl) rfl (.free rfl) fun K171 hK171 => ?_
          refine go_storeS (n := 7) rfl rfl rfl rfl (by kernel_rfl) rfl rfl rfl ?_
          refine hK171 _ _ (fun w M => (mem_take 7 M :)) ?_
          refine ga_done (by kernel_rfl) ?_
          refine gk_pickL [0, 0, 0, 0, 0, 0, 0, 0] ?_
          refine gk_sub ?hs_172 (HJ17 _)
          case hs_172 => exact (sub_cons rfl (sub_cons rfl (sub_cons rfl (sub_cons rfl (sub_cons rfl (sub_cons rfl (sub_cons rfl (sub_cons rfl sub_nil))))))))
    · refine go_alloc (z := (.agg #[.int .i64 0, .slice none 0 0, .nilFunc, .nilFunc])) (cs := [.int .i64 0, .slice none 0 0, .nilFunc, .nilFunc]) rfl rfl rfl (fun w => by kernel_rfl) rfl ?_
      intro B173
      refine hK61 _ _ (fun w M => (mem_take 7 M :)) ?_
      refine ga_three 1 3 4 (by kernel_rfl) rfl (.free rfl) rfl (.free rfl) rfl (.free rfl) (fun K175 hK175 => ?_) (fun K175 hK175 => ?_) (fun K175 hK175 => ?_)
      · refine go_q rfl rfl (qt_call rfl Try.func52 rfl (by decide) rfl (fun w M => arrows_any w _ _ (rdC_mk ((mem_own1 (n := 2) M rfl).rd) ((mem_own1 (n := 3) M rfl).rd) ((mem_own1 (n := 4) M rfl).rd) (mem_rdU (n := 5) M rfl)))) ?_
        refine hK175 _ _ (fun w M => (mem_take 7 M :)) ?_
        refine ga_two 3 4 (by kernel_rfl) rfl rfl (.free rfl) (.free rfl) (fun K177 hK177 => ?_) (fun K177 hK177 => ?_)
        · refine go_v rfl rfl (qt_makeFB rfl rfl) ?_
          refine hK177 _ _ (fun w M => (mem_take 7 M :)) ?_
          refine ga_op 4 (by kernel_rfl) rfl (.free rfl) fun K179 hK179 => ?_
          refine go_v rfl rfl (qt_makeF rfl rfl) ?_
          refine hK179 _ _ (fun w M => (mem_take 7 M :)) ?_
          refine ga_v 5 rfl (by kernel_rfl) (by kernel_rfl) (by kernel_rfl) (.free rfl) rfl rfl (qt_build rfl rfl bt023_plan_pairOf_int64_int64) (fun _ _ _ h => h) ?_
          refine ga_op 7 (by kernel_rfl) rfl (.free rfl) fun K180 hK180 => ?_
          refine go_storeS (n := 7) rfl rfl rfl rfl (by kernel_rfl) rfl rfl rfl ?_
          refine hK180 _ _ (fun w M => (mem_take 7 M :)) ?_
          refine ga_done (by kernel_rfl) ?_
          refine gk_pickL [0, 0, 0, 0, 0, 0, 0, 0] ?_
          refine gk_sub ?hs_181 (HJ17 _)
          case hs_181 => exact (sub_cons rfl (sub_cons rfl (sub_cons rfl (sub_cons rfl (sub_cons rfl (sub_cons rfl (sub_cons rfl (sub_cons rfl sub_nil))))))))
        · refine go_v rfl rfl (qt_makeF rfl rfl) ?_
          refine hK177 _ _ (fun w M => (mem_take 7 M :)) ?_
          refine ga_op 3 (by kernel_rfl) rfl (.free rfl) fun K183 hK183 => ?_
          refine go_v rfl rfl (qt_makeFB rfl rfl) ?_
          refine hK183 _ _ (fun w M => (mem_take 7 M :)) ?_
          refine ga_v 5 rfl (by kernel_rfl) (by kernel_rfl) (by kernel_rfl) (.free rfl) rfl rfl (qt_build rfl rfl bt023_plan_pairOf_int64_int64) (fun _ _ _ h => h) ?_
          refine ga_op 7 (by kernel_rfl) rfl (.free rfl) fun K184 hK184 => ?_
          refine go_storeS (n := 7) rfl rfl rfl rfl (by kernel_rfl) rfl rfl rfl ?_
          refine hK184 _ _ (fun w M => (mem_take 7 M :)) ?_
          refine ga_done (by kernel_rfl) ?_
          refine gk_pickL [0, 0, 0, 0, 0, 0, 0, 0] ?_
          refine gk_sub ?hs_185 (HJ17 _)
          case hs_185 => exact (sub_cons rfl (sub_cons rfl (sub_cons rfl (sub_cons rfl (sub_cons rfl (sub_cons rfl (sub_cons rfl (sub_cons rfl sub_nil))))))))
      · refine go_v rfl rfl (qt_makeFB rfl rfl) ?_
        refine hK175 _ _ (fun w M => (mem_take 7 M :)) ?_
        refine ga_two 1 4 (by kernel_rfl) rfl rfl (.free rfl) (.free rfl) (fun K187 hK187 => ?_) (fun K187 hK187 => ?_)
        · refine go_q rfl rfl (qt_call rfl Try.func52 rfl (by decide) rfl (fun w M => arrows_any w _ _ (rdC_mk ((mem_own1 (n := 2) M rfl).rd) ((mem_own1 (n := 3) M rfl).rd) ((mem_own1 (n := 4) M rfl).rd) (mem_rdU (n := 5) M rfl)))) ?_
          refine hK187 _ _ (fun w M => (mem_take 7 M :)) ?_
          refine ga_op 4 (by kernel_rfl) rfl (.free rfl) fun K189 hK189 => ?_
          refine go_v rfl rfl (qt_makeF rfl rfl) ?_
          refine hK189 _ _ (fun w M => (mem_take 7 M :)) ?_
          refine ga_v 5 rfl (by kernel_rfl) (by kernel_rfl) (by kernel_rfl) (.free rfl) rfl rfl (qt_build rfl rfl bt023_plan_pairOf_int64_int64) (fun _ _ _ h => h) ?_
          refine ga_op 7 (by kernel_rfl) rfl (.free rfl) fun K190 hK190 => ?_
          refine go_storeS (n := 7) rfl rfl rfl rfl (by kernel_rfl) rfl rfl rfl ?_
          refine hK190 _ _ (fun w M => (mem_take 7 M :)) ?_
          refine ga_done (by kernel_rfl) ?_
          refine gk_pickL [0, 0, 0, 0, 0, 0, 0, 0] ?_
          refine gk_sub ?hs_191 (HJ17 _)
          case hs_191 => exact (sub_cons rfl (sub_cons rfl (sub_cons rfl (sub_cons rfl (sub_cons rfl (sub_cons rfl (sub_cons rfl (sub_cons rfl sub_nil))))))))
        · refine go_v rfl rfl (qt_makeF rfl rfl) ?_
          refine hK187 _ _ (fun w M => (mem_take 7 M :)) ?_
          refine ga_op 1 (by kernel_rfl) rfl (.free rfl) fun K193 hK193 => ?_
          refine go_q rfl rfl (qt_call rfl Try.func52 rfl (by decide) rfl (fun w M => arrows_any w _ _ (rdC_mk ((mem_own1 (n := 2) M rfl).rd) ((mem_own1 (n := 3) M rfl).rd) ((mem_own1 (n := 4) M rfl).rd) (mem_rdU (n := 5) M rfl)))) ?_
          refine hK193 _ _ (fun w M => (mem_take 7 M :)) ?_
          refine ga_v 5 rfl (by kernel_rfl) (by kernel_rfl) (by kernel_rfl) (.free rfl) rfl rfl (qt_build rfl rfl bt023_plan_pairOf_int64_int64) (fun _ _ _ h => h) ?_
          refine ga_op 7 (by kernel_rfl) rfl (.free rfl) fun K194 hK194 => ?_
          refine go_storeS (n := 7) rfl rfl rfl rfl (by kernel_rfl) rfl rfl rfl ?_
          refine hK194 _ _ (fun w M => (mem_take 7 M :)) ?_
          refine ga_done (by kernel_rfl) ?_
          refine gk_pickL [0, 0, 0, 0, 0, 0, 0, 0] ?_
          refine gk_sub ?hs_195 (HJ17 _)
          case hs_195 => exact (sub_cons rfl (sub_cons rfl (sub_cons rfl (sub_cons rfl (sub_cons rfl (sub_cons rfl (sub_cons rfl (sub_cons rfl sub_nil))))))))
      · refine go_v rfl rfl (qt_makeF rfl rfl) ?_
        refine hK175 _ _ (fun w M => (mem_take 7 M :)) ?_
        refine ga_two 1 3 (by kernel_rfl) rfl rfl (.free rfl) (.free rfl) (fun K197 hK197 => ?_) (fun K197 hK197 => ?_)
        · refine go_q rfl rfl (qt_call rfl Try.func52 rfl (by decide) rfl (fun w M => arrows_any w _ _ (rdC_mk ((mem_own1 (n := 2) M rfl).rd) ((mem_own1 (n := 3) M rfl).rd) ((mem_own1 (n := 4) M rfl).rd) (mem_rdU (n := 5) M rfl)))) ?_
          refine hK197 _ _ (fun w M => (mem_take 7 M :)) ?_
          refine ga_op 3 (by kernel_rfl) rfl (.free rfl) fun K199 hK199 => ?_
          refine go_v rfl rfl (qt_makeFB rfl rfl) ?_
          refine hK199 _ _ (fun w M => (mem_take 7 M :)) ?_
          refine ga_v 5 rfl (by kernel_rfl) (by kernel_rfl) (by kernel_rfl) (.free rfl) rfl rfl (qt_build rfl rfl bt023_plan_pairOf_int64_int64) (fun _ _ _ h => h) ?_
          refine ga_op 7 (by kernel_rfl) rfl (.free rfl) fun K200 hK200 => ?_
          refine go_storeS (n := 7) rfl rfl rfl rfl (by kernel_rfl) rfl rfl rfl ?_
          refine hK200 _ _ (fun w M => (mem_take 7 M :)) ?_
          refine ga_done (by kernel_rfl) ?_
          refine gk_pickL [0, 0, 0, 0, 0, 0, 0, 0] ?_
          refine gk_sub ?hs_201 (HJ17 _)
          case hs_201 => exact (sub_cons rfl (sub_cons rfl (sub_cons rfl (sub_cons rfl (sub_cons rfl (sub_cons rfl (sub_cons rfl (sub_cons rfl sub_nil))))))))
        · refine go_v rfl rfl (qt_makeFB rfl rfl) ?_
          refine hK197 _ _ (fun w M => (mem_take 7 M :)) ?_
          refine ga_op 1 (by kernel_rfl) rfl (.free rfl) fun K203 hK203 => ?_
          refine go_q rfl rfl (qt_call rfl Try.func52 rfl (by decide) rfl (fun w M => arrows_any w _ _ (rdC_mk ((mem_own1 (n := 2) M rfl).rd) ((mem_own1 (n := 3) M rfl).rd) ((mem_own1 (n := 4) M rfl).rd) (mem_rdU (n := 5) M rfl)))) ?_
          refine hK203 _ _ (fun w M => (mem_take 7 M :)) ?_
          refine ga_v 5 rfl (by kernel_rfl) (by kernel_rfl) (by kernel_rfl) (.free rfl) rfl rfl (qt_build rfl rfl bt023_plan_pairOf_int64_int64) (fun _ _ _ h => h) ?_
          refine ga_op 7 (by kernel_rfl) rfl (.free rfl) fun K204 hK204 => ?_
          refine go_storeS (n := 7) rfl rfl rfl rfl (by kernel_rfl) rfl rfl rfl ?_
          refine hK204 _ _ (fun w M => (mem_take 7 M :)) ?_
          refine ga_done (by kernel_rfl) ?_
          refine gk_pickL [0, 0, 0, 0, 0, 0, 0, 0] ?_
          refine gk_sub ?hs_205 (HJ17 _)
          case hs_205 => exact (sub_cons rfl (sub_cons rfl (sub_cons rfl (sub_cons rfl (sub_cons rfl (sub_cons rfl (sub_cons rfl (sub_cons rfl sub_nil))))))))


theorem bound_TwistedCategory (c : Cat) : mzC (fTwistedCategory c).1 ≤ 1152921504606846 := by
  cases h : fIsCategory c with
  | false => rw [twc_f h]; show mzC cat0 ≤ _; decide
  | true =>
    by_cases hf : FitP (twM c)
    · rw [twc_t h hf]
      have h2 := (fit_tw c).1 hf
      have hl := twR_len c
      have hn := h2.1
      have hl40 : (twR c).length ≤ 40 := by omega
      have hrows : (twM c).m = rowsTo (twRow c) (twR c).length := if_pos hl40
      refine mz_small (show (tabTo _ _).length ≤ 40 by rw [tabTo_len]; exact hl40) (show (tabTo _ _).length ≤ 40 by rw [tabTo_len]; exact hl40) (show (twI c _).length ≤ 40 by rw [twI_len]; omega) (show (twM c).m.length ≤ 40 by rw [hrows, rowsTo_len]; exact hl40) fun i hi => ?_
      have hi2 : i < (twM c).m.length := hi
      rw [hrows, rowsTo_len] at hi2
      show (row2 (twM c).m (i : Int)).length ≤ 40
      rw [hrows, rowsTo_at _ hi2]; unfold twRow; rw [tabTo_len]; exact hl40
    · rw [twc_l h hf]; show mzC cat0 ≤ _; decide

end Go.Proofs.Ytelbjdbefaffpaa
