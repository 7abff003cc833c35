
/- RenumberCategory: both sides. -/
import Derived.Test.YtgkfampgofjkfaaRnm
import Derived.Test.YtgkfampgofjkfaaHas
import Derived.Test.YtgkfampgofjkfaaHasC
set_option linter.unusedSimpArgs false
set_option linter.unusedVariables false
set_option linter.unusedSectionVars false
namespace Go.Proofs.Ytgkfampgofjkfaa
open Go.RowKit

set_option maxHeartbeats 1000000 in
set_option maxRecDepth 100000 in
theorem spec_RenumberCategory (w : World) (v : Value) (c : Cat) (vo : Value) (xs : List Int) (vn : Value) (ys : List Int) (h : RdC w v c) (ho : Rd w vo xs) (ha : Rd w vn ys) (ho2 : CapV vo) (ha2 : CapV vn) :
    Calls Try.prog 9 #[v, vo, vn] w (RetCI w (fRenumberCategory c xs ys).1 (fRenumberCategory c xs ys).2) := by
  have h0 := h
  obtain ⟨va, vb, vc, vd, ve, vf, vg, vh, rfl, h1, h2, h3, h4, _⟩ := h.lists
  obtain ⟨voa, voc, rfl⟩ := rd_form ho
  obtain ⟨vna, vnc, rfl⟩ := rd_form ha
  go_enter Try.func9, Try.ntmps9
  refine gc_enter (N := 30) rfl (look_cons (k := 0) rfl (look_cons (k := 1) rfl (look_cons (k := 2) rfl (look_nil _)))) ?_
  refine gc_seq fun K1 hK1 => ?_
  refine gc_region ?_
  refine g_op (.free rfl) fun K3 hK3 => ?_
  refine go_box rfl rfl rfl rfl rfl ?_
  intro B2
  refine hK3 _ _ ?_
  refine g_op (.free rfl) fun K5 hK5 => ?_
  refine go_alloc (z := (.agg #[.int .i64 0, .slice none 0 0, .slice none 0 0, .slice none 0 0, .slice none 0 0])) (cs := [.int .i64 0, .slice none 0 0, .slice none 0 0, .slice none 0 0, .slice none 0 0]) rfl rfl rfl (fun w => by kernel_rfl) rfl ?_
  intro B4
  refine hK5 _ _ ?_
  refine g_v (.free rfl) rfl rfl (qt_assign rfl rfl) ?_
  refine g_nil ?_
  refine gk_then (hK1 _ _ ?_)
  refine gc_seq fun K6 hK6 => ?_
  refine gc_seq fun K7 hK7 => ?_
  refine gc_region ?_
  refine g_v (.free rfl) rfl rfl (qt_loadS (n := 0) rfl rfl Try.underlying27 rfl (by kernel_rfl) rfl) ?_
  refine g_q (.free rfl) rfl rfl (qt_call rfl Try.func34 rfl (by decide) rfl (fun w M => specIs_any w _ _ (mem_rdC M h0))) ?_
  refine g_v (.free rfl) rfl rfl (qt_not rfl rfl) ?_
  refine g_nil ?_
  refine gk_then (hK7 _ _ ?_)
  refine gc_cond rfl (fun hc0 => ?_) (fun hc0 => ?_)
  · try simp only [decide_eq_true_eq, decide_eq_false_iff_not, Bool.not_eq_true', Bool.not_eq_false', Bool.not_eq_eq_eq_not, Bool.not_true, Bool.not_false, ne_eq, Decidable.not_not, Classical.not_not] at hc0
    refine gc_seq fun K8 hK8 => ?_
    refine gc_region ?_
    refine g_v (.free rfl) rfl rfl (qt_build rfl rfl bt0_Category) ?_
    refine g_op (.free rfl) fun K9 hK9 => ?_
    refine go_storeS (n := 1) rfl rfl rfl rfl (by kernel_rfl) rfl rfl rfl ?_
    refine hK9 _ _ ?_
    refine g_v (.free rfl) rfl rfl (qt_assign rfl rfl) ?_
    refine g_nil ?_
    refine gk_then (hK8 _ _ ?_)
    refine gc_ret ?_
    refine gk_then_ret ?_
    refine ret_SI (n := 1) rfl rfl rfl Try.underlying27 rfl (by kernel_rfl) rfl (fun w M => ?_)
    rw [rn_f hc0]; exact ⟨_, rfl, ownC_zero _ _, M.1⟩
  · try simp only [decide_eq_true_eq, decide_eq_false_iff_not, Bool.not_eq_true', Bool.not_eq_false', Bool.not_eq_eq_eq_not, Bool.not_true, Bool.not_false, ne_eq, Decidable.not_not, Classical.not_not] at hc0
    refine gc_skip ?_
    refine gk_then (hK6 _ _ ?_)
    refine gc_seq fun K10 hK10 => ?_
    refine gc_seq fun K11 hK11 => ?_
    have hS := (isCat_of hc0).toShapeP
    have hn40 := hS.n40; have htl := hS.tl; have hel := hS.el; have hob0 := hS.ob0; have hob8 := hS.ob8; have hml := hS.ml
    have hon : c.ob = ((c.e.length : Nat) : Int) := by omega
    refine gc_region ?_
    refine g_v (.free rfl) rfl rfl (qt_field (z := 0) (off := 0) rfl rfl Try.underlying27 rfl (by kernel_rfl) rfl) ?_
    refine g_v (.free rfl) rfl rfl (qt_loadB (n := 0) rfl rfl Try.underlying2 rfl rfl rfl) ?_
    refine g_v (.free rfl) rfl rfl (qt_move rfl rfl) ?_
    refine g_q (.free rfl) rfl rfl (qt_call rfl Try.func35 rfl (by decide) rfl (fun w M => specBijB_any w _ _ _ (_) (mem_rd M ho) (by first | assumption | omega) (by first | exact hon | rfl))) ?_
    refine g_v (.free rfl) rfl rfl (qt_not rfl rfl) ?_
    refine g_splitv (.free rfl) rfl rfl (qt_move rfl rfl) (fun hs3_5 => ?_) (fun hs3_5 => ?_)
    · try simp only [decide_eq_true_eq, decide_eq_false_iff_not, Bool.not_eq_true', Bool.not_eq_false', Bool.not_eq_eq_eq_not, Bool.not_true, Bool.not_false, ne_eq, Decidable.not_not, Classical.not_not] at hs3_5
      refine g_skip (.not _ _ _ _ rfl rfl rfl rfl) rfl rfl ?_
      refine g_skip (.not _ _ _ _ rfl rfl rfl rfl) rfl rfl ?_
      refine g_skip (.not _ _ _ _ rfl rfl rfl rfl) rfl rfl ?_
      refine g_skip (.not _ _ _ _ rfl rfl rfl rfl) rfl rfl ?_
      refine g_skip (.not _ _ _ _ rfl rfl rfl rfl) rfl rfl ?_
      refine g_skip (.not _ _ _ _ rfl rfl rfl rfl) rfl rfl ?_
      refine g_v (.free rfl) rfl rfl (qt_pick_t rfl rfl rfl) ?_
      refine g_nil ?_
      refine gk_then (hK11 _ _ ?_)
      refine gc_cond_t rfl ?_
      refine gc_seq fun K12 hK12 => ?_
      refine gc_region ?_
      refine g_v (.free rfl) rfl rfl (qt_build rfl rfl bt0_Category) ?_
      refine g_op (.free rfl) fun K13 hK13 => ?_
      refine go_storeS (n := 1) rfl rfl rfl rfl (by kernel_rfl) rfl rfl rfl ?_
      refine hK13 _ _ ?_
      refine g_v (.free rfl) rfl rfl (qt_assign rfl rfl) ?_
      refine g_nil ?_
      refine gk_then (hK12 _ _ ?_)
      refine gc_ret ?_
      refine gk_then_ret ?_
      refine ret_SI (n := 1) rfl rfl rfl Try.underlying27 rfl (by kernel_rfl) rfl (fun w M => ?_)
      rw [rn_n hc0 fun hq => bP_f' hs3_5 hq.1]; exact ⟨_, rfl, ownC_zero _ _, M.1⟩
    · try simp only [decide_eq_true_eq, decide_eq_false_iff_not, Bool.not_eq_true', Bool.not_eq_false', Bool.not_eq_eq_eq_not, Bool.not_true, Bool.not_false, ne_eq, Decidable.not_not, Classical.not_not] at hs3_5
      refine g_v (.held _ _ _ rfl rfl rfl) rfl rfl (qt_field (z := 0) (off := 1) rfl rfl Try.underlying27 rfl (by kernel_rfl) rfl) ?_
      refine g_v (.held _ _ _ rfl rfl rfl) rfl rfl (qt_loadB (n := 0) rfl rfl Try.underlying22 rfl rfl rfl) ?_
      refine g_v (.held _ _ _ rfl rfl rfl) rfl rfl (qt_len rfl rfl ulE1 (fun w M => lenV_rd h1)) ?_
      refine g_v (.held _ _ _ rfl rfl rfl) rfl rfl (qt_move rfl rfl) ?_
      refine g_q (.held _ _ _ rfl rfl rfl) rfl rfl (qt_call rfl Try.func35 rfl (by decide) rfl (fun w M => specBijB_any w _ _ _ (_) (mem_rd M ha) (by first | assumption | omega) (by first | exact hon | rfl))) ?_
      refine g_v (.held _ _ _ rfl rfl rfl) rfl rfl (qt_not rfl rfl) ?_
      refine g_v (.free rfl) rfl rfl (qt_pick_f rfl rfl rfl) ?_
      refine g_nil ?_
      refine gk_then (hK11 _ _ ?_)
      refine gc_cond rfl (fun hc1 => ?_) (fun hc1 => ?_)
      · try simp only [decide_eq_true_eq, decide_eq_false_iff_not, Bool.not_eq_true', Bool.not_eq_false', Bool.not_eq_eq_eq_not, Bool.not_true, Bool.not_false, ne_eq, Decidable.not_not, Classical.not_not] at hc1
        refine gc_seq fun K14 hK14 => ?_
        refine gc_region ?_
        refine g_v (.free rfl) rfl rfl (qt_build rfl rfl bt0_Category) ?_
        refine g_op (.free rfl) fun K15 hK15 => ?_
        refine go_storeS (n := 1) rfl rfl rfl rfl (by kernel_rfl) rfl rfl rfl ?_
        refine hK15 _ _ ?_
        refine g_v (.free rfl) rfl rfl (qt_assign rfl rfl) ?_
        refine g_nil ?_
        refine gk_then (hK14 _ _ ?_)
        refine gc_ret ?_
        refine gk_then_ret ?_
        refine ret_SI (n := 1) rfl rfl rfl Try.underlying27 rfl (by kernel_rfl) rfl (fun w M => ?_)
        rw [rn_n hc0 fun hq => bP_f' hc1 hq.2]; exact ⟨_, rfl, ownC_zero _ _, M.1⟩
      · try simp only [decide_eq_true_eq, decide_eq_false_iff_not, Bool.not_eq_true', Bool.not_eq_false', Bool.not_eq_eq_eq_not, Bool.not_true, Bool.not_false, ne_eq, Decidable.not_not, Classical.not_not] at hc1
        refine gc_skip ?_
        refine gk_then (hK10 _ _ ?_)
        refine gc_seq fun K16 hK16 => ?_
        refine gc_region ?_
        refine g_v (.free rfl) rfl rfl (qt_loadS (n := 0) rfl rfl Try.underlying27 rfl (by kernel_rfl) rfl) ?_
        refine g_v (.free rfl) rfl rfl (qt_move rfl rfl) ?_
        refine g_v (.free rfl) rfl rfl (qt_move rfl rfl) ?_
        refine g_op (.free rfl) fun K18 hK18 => ?_
        refine go_callC rfl rfl rfl Try.func36 rfl (by decide) rfl (fun w M => specRen_any w _ _ (mem_rdC M h0) _ _ (mem_rd M ho) _ _ (mem_rd M ha) (by first | assumption | omega) (bP_t' hs3_5) (bP_t' hc1)) ?_
        intro ca17 cb17 cc17 cd17 ce17 cf17 cg17 ch17 cu17
        refine hK18 _ _ ?_
        refine g_op (.free rfl) fun K19 hK19 => ?_
        refine go_storeS (n := 1) rfl rfl rfl rfl (by kernel_rfl) rfl rfl rfl ?_
        refine hK19 _ _ ?_
        refine g_v (.free rfl) rfl rfl (qt_assign rfl rfl) ?_
        refine g_nil ?_
        refine gk_then (hK16 _ _ ?_)
        refine gc_ret ?_
        refine ret_SI (n := 1) rfl rfl rfl Try.underlying27 rfl (by kernel_rfl) rfl (fun w M => ?_)
        rw [rn_t hc0 ⟨bP_t' hs3_5, bP_t' hc1⟩]; exact ⟨_, rfl, ownC_star (c := rnC c xs ys) (mem_pick (n := 5) (mem_pick (n := 5) (mem_pick (n := 5) (mem_pick (n := 5) (M) rfl) rfl) rfl) rfl).2, M.1⟩

set_option maxHeartbeats 1000000 in
set_option maxRecDepth 100000 in
theorem impl_RenumberCategory (w : World) (v : Value) (c : Cat) (vo : Value) (xs : List Int) (vn : Value) (ys : List Int) (h : RdC w v c) (ho : Rd w vo xs) (ha : Rd w vn ys) :
    Calls Try.prog 12 #[v, vo, vn] w (RetCI w (fRenumberCategory c xs ys).1 (fRenumberCategory c xs ys).2) := by
  have h0 := h
  obtain ⟨va, vb, vc, vd, ve, vf, vg, vh, rfl, h1, h2, h3, h4, _⟩ := h.lists
  obtain ⟨voa, voc, rfl⟩ := rd_form ho
  obtain ⟨vna, vnc, rfl⟩ := rd_form ha
  go_enter Try.func12, Try.ntmps12
  refine gc_enter (N := 48) rfl (look_cons (k := 0) rfl (look_cons (k := 1) rfl (look_cons (k := 2) rfl (look_nil _)))) ?_
  refine gc_seq fun K1 hK1 => ?_
  refine gc_region ?_
  refine g_op (.free rfl) fun K3 hK3 => ?_
  refine go_box rfl rfl rfl rfl rfl ?_
  intro B2
  refine hK3 _ _ ?_
  refine g_op (.free rfl) fun K5 hK5 => ?_
  refine go_alloc (z := (.agg #[.int .i64 0, .slice none 0 0, .slice none 0 0, .slice none 0 0, .slice none 0 0])) (cs := [.int .i64 0, .slice none 0 0, .slice none 0 0, .slice none 0 0, .slice none 0 0]) rfl rfl rfl (fun w => by kernel_rfl) rfl ?_
  intro B4
  refine hK5 _ _ ?_
  refine g_v (.free rfl) rfl rfl (qt_assign rfl rfl) ?_
  refine g_nil ?_
  refine gk_then (hK1 _ _ ?_)
  refine gc_seq fun K6 hK6 => ?_
  refine gc_region ?_
  refine g_v (.free rfl) rfl rfl (qt_loadS (n := 0) rfl rfl Try.underlying27 rfl (by kernel_rfl) rfl) ?_
  refine g_op (.free rfl) fun K8 hK8 => ?_
  refine go_callCI rfl rfl rfl Try.func38 rfl (by decide) rfl (fun w M => readCat_any w _ _ (mem_rdC M h0)) ?_
  intro ca7 cb7 cc7 cd7 ce7 cf7 cg7 ch7 cu7
  refine hK8 _ _ ?_
  refine g_v (.free rfl) rfl rfl (qt_move rfl rfl) ?_
  refine g_v (.free rfl) rfl rfl (qt_extract rfl rfl rfl) ?_
  refine g_v (.free rfl) rfl rfl (qt_extract rfl rfl rfl) ?_
  refine g_op (.free rfl) fun K10 hK10 => ?_
  refine go_alloc (z := (.agg #[.int .i64 0, .slice none 0 0, .slice none 0 0, .slice none 0 0, .slice none 0 0])) (cs := [.int .i64 0, .slice none 0 0, .slice none 0 0, .slice none 0 0, .slice none 0 0]) rfl rfl rfl (fun w => by kernel_rfl) rfl ?_
  intro B9
  refine hK10 _ _ ?_
  refine g_op (.free rfl) fun K11 hK11 => ?_
  refine go_storeS (n := 6) rfl rfl rfl rfl (by kernel_rfl) rfl rfl rfl ?_
  refine hK11 _ _ ?_
  refine g_v (.free rfl) rfl rfl (qt_assign rfl rfl) ?_
  refine g_nil ?_
  refine gk_then (hK6 _ _ ?_)
  refine gc_seq fun K12 hK12 => ?_
  refine gc_seq fun K13 hK13 => ?_
  refine gc_region ?_
  refine g_v (.free rfl) rfl rfl (qt_move rfl rfl) ?_
  refine g_v (.free rfl) rfl rfl (qt_neq rfl rfl rfl) ?_
  refine g_nil ?_
  refine gk_then (hK13 _ _ ?_)
  refine gc_cond rfl (fun hc0 => ?_) (fun hc0 => ?_)
  · try simp only [decide_eq_true_eq, decide_eq_false_iff_not, Bool.not_eq_true', Bool.not_eq_false', Bool.not_eq_eq_eq_not, Bool.not_true, Bool.not_false, ne_eq, Decidable.not_not, Classical.not_not] at hc0
    refine gc_seq fun K14 hK14 => ?_
    refine gc_region ?_
    refine g_v (.free rfl) rfl rfl (qt_build rfl rfl bt0_Category) ?_
    refine g_v (.free rfl) rfl rfl (qt_move rfl rfl) ?_
    refine g_op (.free rfl) fun K15 hK15 => ?_
    refine go_storeS (n := 1) rfl rfl rfl rfl (by kernel_rfl) rfl rfl rfl ?_
    refine hK15 _ _ ?_
    refine g_v (.free rfl) rfl rfl (qt_assign rfl rfl) ?_
    refine g_nil ?_
    refine gk_then (hK14 _ _ ?_)
    refine gc_ret ?_
    refine gk_then_ret ?_
    refine ret_SI (n := 1) rfl rfl rfl Try.underlying27 rfl (by kernel_rfl) rfl (fun w M => ?_)
    rw [(catErr_n hc0).2, rn_f (catErr_n hc0).1]; exact ⟨_, rfl, ownC_zero _ _, M.1⟩
  · try simp only [decide_eq_true_eq, decide_eq_false_iff_not, Bool.not_eq_true', Bool.not_eq_false', Bool.not_eq_eq_eq_not, Bool.not_true, Bool.not_false, ne_eq, Decidable.not_not, Classical.not_not] at hc0
    refine gc_skip ?_
    refine gk_then (hK12 _ _ ?_)
    refine gc_seq fun K16 hK16 => ?_
    refine gc_seq fun K17 hK17 => ?_
    have hI := catErr_0 hc0
    simp only [catCat_t hc0]
    have hS := (isCat_of hI).toShapeP
    have hn40 := hS.n40; have htl := hS.tl; have hel := hS.el; have hob0 := hS.ob0; have hob8 := hS.ob8; have hml := hS.ml
    have hon : c.ob = ((c.e.length : Nat) : Int) := by omega
    have hbo := bijP_iff (n := c.e.length) (xs := xs)
    rw [← hon] at hbo
    have hba := bijP_iff (n := c.s.length) (xs := ys)
    refine gc_region ?_
    refine g_v (.free rfl) rfl rfl (qt_loadS (n := 6) rfl rfl Try.underlying27 rfl (by kernel_rfl) rfl) ?_
    refine g_v (.free rfl) rfl rfl (qt_move rfl rfl) ?_
    refine g_q (.free rfl) rfl rfl (qt_call rfl Try.func39 rfl (by decide) rfl (fun w M => hasObjects_any w _ _ _ _ (bP (AllP c.ob xs)) (rdC_mk ((mem_own1 (n := 2) M rfl).rd) ((mem_own1 (n := 3) M rfl).rd) ((mem_own1 (n := 4) M rfl).rd) (mem_rdU (n := 5) M rfl)) (mem_rd M ho) (rfl))) ?_
    refine g_v (.free rfl) rfl rfl (qt_not rfl rfl) ?_
    refine g_splitv (.free rfl) rfl rfl (qt_move rfl rfl) (fun hs4_4 => ?_) (fun hs4_4 => ?_)
    · try simp only [decide_eq_true_eq, decide_eq_false_iff_not, Bool.not_eq_true', Bool.not_eq_false', Bool.not_eq_eq_eq_not, Bool.not_true, Bool.not_false, ne_eq, Decidable.not_not, Classical.not_not] at hs4_4
      refine g_skip (.not _ _ _ _ rfl rfl rfl rfl) rfl rfl ?_
      refine g_skip (.not _ _ _ _ rfl rfl rfl rfl) rfl rfl ?_
      refine g_skip (.not _ _ _ _ rfl rfl rfl rfl) rfl rfl ?_
      refine g_skip (.not _ _ _ _ rfl rfl rfl rfl) rfl rfl ?_
      refine g_v (.free rfl) rfl rfl (qt_pick_t rfl rfl rfl) ?_
      refine g_v (.free rfl) rfl rfl (qt_move rfl rfl) ?_
      refine g_skip (.not _ _ _ _ rfl rfl rfl rfl) rfl rfl ?_
      refine g_skip (.not _ _ _ _ rfl rfl rfl rfl) rfl rfl ?_
      refine g_skip (.not _ _ _ _ rfl rfl rfl rfl) rfl rfl ?_
      refine g_skip (.not _ _ _ _ rfl rfl rfl rfl) rfl rfl ?_
      refine g_skip (.not _ _ _ _ rfl rfl rfl rfl) rfl rfl ?_
      refine g_v (.free rfl) rfl rfl (qt_pick_t rfl rfl rfl) ?_
      refine g_v (.free rfl) rfl rfl (qt_move rfl rfl) ?_
      refine g_skip (.not _ _ _ _ rfl rfl rfl rfl) rfl rfl ?_
      refine g_skip (.not _ _ _ _ rfl rfl rfl rfl) rfl rfl ?_
      refine g_skip (.not _ _ _ _ rfl rfl rfl rfl) rfl rfl ?_
      refine g_skip (.not _ _ _ _ rfl rfl rfl rfl) rfl rfl ?_
      refine g_skip (.not _ _ _ _ rfl rfl rfl rfl) rfl rfl ?_
      refine g_v (.free rfl) rfl rfl (qt_pick_t rfl rfl rfl) ?_
      refine g_nil ?_
      refine gk_then (hK17 _ _ ?_)
      refine gc_cond_t rfl ?_
      refine gc_seq fun K18 hK18 => ?_
      refine gc_region ?_
      refine g_v (.free rfl) rfl rfl (qt_build rfl rfl bt0_Category) ?_
      refine g_op (.free rfl) fun K19 hK19 => ?_
      refine go_storeS (n := 1) rfl rfl rfl rfl (by kernel_rfl) rfl rfl rfl ?_
      refine hK19 _ _ ?_
      refine g_v (.free rfl) rfl rfl (qt_assign rfl rfl) ?_
      refine g_nil ?_
      refine gk_then (hK18 _ _ ?_)
      refine gc_ret ?_
      refine gk_then_ret ?_
      refine ret_SI (n := 1) rfl rfl rfl Try.underlying27 rfl (by kernel_rfl) rfl (fun w M => ?_)
      rw [rn_n hI fun hq => bP_f' hs4_4 (by have := hq.1.all; rwa [← hon] at this)]; exact ⟨_, rfl, ownC_zero _ _, M.1⟩
    · try simp only [decide_eq_true_eq, decide_eq_false_iff_not, Bool.not_eq_true', Bool.not_eq_false', Bool.not_eq_eq_eq_not, Bool.not_true, Bool.not_false, ne_eq, Decidable.not_not, Classical.not_not] at hs4_4
      refine g_v (.held _ _ _ rfl rfl rfl) rfl rfl (qt_loadS (n := 6) rfl rfl Try.underlying27 rfl (by kernel_rfl) rfl) ?_
      refine g_v (.held _ _ _ rfl rfl rfl) rfl rfl (qt_move rfl rfl) ?_
      refine g_q (.held _ _ _ rfl rfl rfl) rfl rfl (qt_call rfl Try.func40 rfl (by decide) rfl (fun w M => hasArrows_any w _ _ _ _ (bP (AllP c.s.length ys)) (rdC_mk ((mem_own1 (n := 2) M rfl).rd) ((mem_own1 (n := 3) M rfl).rd) ((mem_own1 (n := 4) M rfl).rd) (mem_rdU (n := 5) M rfl)) (mem_rd M ha) (rfl))) ?_
      refine g_v (.held _ _ _ rfl rfl rfl) rfl rfl (qt_not rfl rfl) ?_
      refine g_v (.free rfl) rfl rfl (qt_pick_f rfl rfl rfl) ?_
      refine g_splitv (.free rfl) rfl rfl (qt_move rfl rfl) (fun hs4_10 => ?_) (fun hs4_10 => ?_)
      · try simp only [decide_eq_true_eq, decide_eq_false_iff_not, Bool.not_eq_true', Bool.not_eq_false', Bool.not_eq_eq_eq_not, Bool.not_true, Bool.not_false, ne_eq, Decidable.not_not, Classical.not_not] at hs4_10
        refine g_skip (.not _ _ _ _ rfl rfl rfl rfl) rfl rfl ?_
        refine g_skip (.not _ _ _ _ rfl rfl rfl rfl) rfl rfl ?_
        refine g_skip (.not _ _ _ _ rfl rfl rfl rfl) rfl rfl ?_
        refine g_skip (.not _ _ _ _ rfl rfl rfl rfl) rfl rfl ?_
        refine g_skip (.not _ _ _ _ rfl rfl rfl rfl) rfl rfl ?_
        refine g_v (.free rfl) rfl rfl (qt_pick_t rfl rfl rfl) ?_
        refine g_v (.free rfl) rfl rfl (qt_move rfl rfl) ?_
        refine g_skip (.not _ _ _ _ rfl rfl rfl rfl) rfl rfl ?_
        refine g_skip (.not _ _ _ _ rfl rfl rfl rfl) rfl rfl ?_
        refine g_skip (.not _ _ _ _ rfl rfl rfl rfl) rfl rfl ?_
        refine g_skip (.not _ _ _ _ rfl rfl rfl rfl) rfl rfl ?_
        refine g_skip (.not _ _ _ _ rfl rfl rfl rfl) rfl rfl ?_
        refine g_v (.free rfl) rfl rfl (qt_pick_t rfl rfl rfl) ?_
        refine g_nil ?_
        refine gk_then (hK17 _ _ ?_)
        refine gc_cond_t rfl ?_
        refine gc_seq fun K20 hK20 => ?_
        refine gc_region ?_
        refine g_v (.free rfl) rfl rfl (qt_build rfl rfl bt0_Category) ?_
        refine g_op (.free rfl) fun K21 hK21 => ?_
        refine go_storeS (n := 1) rfl rfl rfl rfl (by kernel_rfl) rfl rfl rfl ?_
        refine hK21 _ _ ?_
        refine g_v (.free rfl) rfl rfl (qt_assign rfl rfl) ?_
        refine g_nil ?_
        refine gk_then (hK20 _ _ ?_)
        refine gc_ret ?_
        refine gk_then_ret ?_
        refine ret_SI (n := 1) rfl rfl rfl Try.underlying27 rfl (by kernel_rfl) rfl (fun w M => ?_)
        rw [rn_n hI fun hq => bP_f' hs4_10 hq.2.all]; exact ⟨_, rfl, ownC_zero _ _, M.1⟩
      · try simp only [decide_eq_true_eq, decide_eq_false_iff_not, Bool.not_eq_true', Bool.not_eq_false', Bool.not_eq_eq_eq_not, Bool.not_true, Bool.not_false, ne_eq, Decidable.not_not, Classical.not_not] at hs4_10
        refine g_v (.held _ _ _ rfl rfl rfl) rfl rfl (qt_move rfl rfl) ?_
        refine g_v (.held _ _ _ rfl rfl rfl) rfl rfl (qt_field (z := 0) (off := 0) rfl rfl Try.underlying27 rfl (by kernel_rfl) rfl) ?_
        refine g_v (.held _ _ _ rfl rfl rfl) rfl rfl (qt_loadB (n := 6) rfl rfl Try.underlying2 rfl rfl rfl) ?_
        refine g_q (.held _ _ _ rfl rfl rfl) rfl rfl (qt_call rfl Try.func41 rfl (by decide) rfl (fun w M => isBijB_any w _ _ _ (mem_rd M ho) (by first | exact bP_t' hs4_4 | exact bP_t' hs4_10) (by first | assumption | omega))) ?_
        refine g_v (.held _ _ _ rfl rfl rfl) rfl rfl (qt_not rfl rfl) ?_
        refine g_v (.free rfl) rfl rfl (qt_pick_f rfl rfl rfl) ?_
        refine g_splitv (.free rfl) rfl rfl (qt_move rfl rfl) (fun hs4_17 => ?_) (fun hs4_17 => ?_)
        · try simp only [decide_eq_true_eq, decide_eq_false_iff_not, Bool.not_eq_true', Bool.not_eq_false', Bool.not_eq_eq_eq_not, Bool.not_true, Bool.not_false, ne_eq, Decidable.not_not, Classical.not_not] at hs4_17
          refine g_skip (.not _ _ _ _ rfl rfl rfl rfl) rfl rfl ?_
          refine g_skip (.not _ _ _ _ rfl rfl rfl rfl) rfl rfl ?_
          refine g_skip (.not _ _ _ _ rfl rfl rfl rfl) rfl rfl ?_
          refine g_skip (.not _ _ _ _ rfl rfl rfl rfl) rfl rfl ?_
          refine g_skip (.not _ _ _ _ rfl rfl rfl rfl) rfl rfl ?_
          refine g_v (.free rfl) rfl rfl (qt_pick_t rfl rfl rfl) ?_
          refine g_nil ?_
          refine gk_then (hK17 _ _ ?_)
          refine gc_cond_t rfl ?_
          refine gc_seq fun K22 hK22 => ?_
          refine gc_region ?_
          refine g_v (.free rfl) rfl rfl (qt_build rfl rfl bt0_Category) ?_
          refine g_op (.free rfl) fun K23 hK23 => ?_
          refine go_storeS (n := 1) rfl rfl rfl rfl (by kernel_rfl) rfl rfl rfl ?_
          refine hK23 _ _ ?_
          refine g_v (.free rfl) rfl rfl (qt_assign rfl rfl) ?_
          refine g_nil ?_
          refine gk_then (hK22 _ _ ?_)
          refine gc_ret ?_
          refine gk_then_ret ?_
          refine ret_SI (n := 1) rfl rfl rfl Try.underlying27 rfl (by kernel_rfl) rfl (fun w M => ?_)
          rw [rn_n hI fun hq => bP_f' hs4_17 ((hbo (bP_t' hs4_4)).2 hq.1)]; exact ⟨_, rfl, ownC_zero _ _, M.1⟩
        · try simp only [decide_eq_true_eq, decide_eq_false_iff_not, Bool.not_eq_true', Bool.not_eq_false', Bool.not_eq_eq_eq_not, Bool.not_true, Bool.not_false, ne_eq, Decidable.not_not, Classical.not_not] at hs4_17
          refine g_v (.held _ _ _ rfl rfl rfl) rfl rfl (qt_move rfl rfl) ?_
          refine g_v (.held _ _ _ rfl rfl rfl) rfl rfl (qt_loadS (n := 6) rfl rfl Try.underlying27 rfl (by kernel_rfl) rfl) ?_
          refine g_q (.held _ _ _ rfl rfl rfl) rfl rfl (qt_call rfl Try.func42 rfl (by decide) rfl (fun w M => arrows_any w _ _ (rdC_mk ((mem_own1 (n := 2) M rfl).rd) ((mem_own1 (n := 3) M rfl).rd) ((mem_own1 (n := 4) M rfl).rd) (mem_rdU (n := 5) M rfl)))) ?_
          refine g_q (.held _ _ _ rfl rfl rfl) rfl rfl (qt_call rfl Try.func41 rfl (by decide) rfl (fun w M => isBijB_any w _ _ _ (mem_rd M ha) (by first | exact bP_t' hs4_4 | exact bP_t' hs4_10) (by first | assumption | omega))) ?_
          refine g_v (.held _ _ _ rfl rfl rfl) rfl rfl (qt_not rfl rfl) ?_
          refine g_v (.free rfl) rfl rfl (qt_pick_f rfl rfl rfl) ?_
          refine g_nil ?_
          refine gk_then (hK17 _ _ ?_)
          refine gc_cond rfl (fun hc1 => ?_) (fun hc1 => ?_)
          · try simp only [decide_eq_true_eq, decide_eq_false_iff_not, Bool.not_eq_true', Bool.not_eq_false', Bool.not_eq_eq_eq_not, Bool.not_true, Bool.not_false, ne_eq, Decidable.not_not, Classical.not_not] at hc1
            refine gc_seq fun K24 hK24 => ?_
            refine gc_region ?_
            refine g_v (.free rfl) rfl rfl (qt_build rfl rfl bt0_Category) ?_
            refine g_op (.free rfl) fun K25 hK25 => ?_
            refine go_storeS (n := 1) rfl rfl rfl rfl (by kernel_rfl) rfl rfl rfl ?_
            refine hK25 _ _ ?_
            refine g_v (.free rfl) rfl rfl (qt_assign rfl rfl) ?_
            refine g_nil ?_
            refine gk_then (hK24 _ _ ?_)
            refine gc_ret ?_
            refine gk_then_ret ?_
            refine ret_SI (n := 1) rfl rfl rfl Try.underlying27 rfl (by kernel_rfl) rfl (fun w M => ?_)
            rw [rn_n hI fun hq => bP_f' hc1 ((hba (bP_t' hs4_10)).2 hq.2)]; exact ⟨_, rfl, ownC_zero _ _, M.1⟩
          · try simp only [decide_eq_true_eq, decide_eq_false_iff_not, Bool.not_eq_true', Bool.not_eq_false', Bool.not_eq_eq_eq_not, Bool.not_true, Bool.not_false, ne_eq, Decidable.not_not, Classical.not_not] at hc1
            refine gc_skip ?_
            refine gk_then (hK16 _ _ ?_)
            refine gc_seq fun K26 hK26 => ?_
            refine gc_region ?_
            refine g_v (.free rfl) rfl rfl (qt_loadS (n := 6) rfl rfl Try.underlying27 rfl (by kernel_rfl) rfl) ?_
            refine g_v (.free rfl) rfl rfl (qt_move rfl rfl) ?_
            refine g_v (.free rfl) rfl rfl (qt_move rfl rfl) ?_
            refine g_op (.free rfl) fun K28 hK28 => ?_
            refine go_callC rfl rfl rfl Try.func43 rfl (by decide) rfl (fun w M => renumbered_any w _ _ (rdC_mk ((mem_own1 (n := 2) M rfl).rd) ((mem_own1 (n := 3) M rfl).rd) ((mem_own1 (n := 4) M rfl).rd) (mem_rdU (n := 5) M rfl)) _ _ (mem_rd M ho) _ _ (mem_rd M ha) (by first | assumption | omega) ((hbo (bP_t' hs4_4)).1 (bP_t' hs4_17)) ((hba (bP_t' hs4_10)).1 (bP_t' hc1))) ?_
            intro ca27 cb27 cc27 cd27 ce27 cf27 cg27 ch27 cu27
            refine hK28 _ _ ?_
            refine g_op (.free rfl) fun K29 hK29 => ?_
            refine go_storeS (n := 1) rfl rfl rfl rfl (by kernel_rfl) rfl rfl rfl ?_
            refine hK29 _ _ ?_
            refine g_v (.free rfl) rfl rfl (qt_assign rfl rfl) ?_
            refine g_nil ?_
            refine gk_then (hK26 _ _ ?_)
            refine gc_ret ?_
            refine ret_SI (n := 1) rfl rfl rfl Try.underlying27 rfl (by kernel_rfl) rfl (fun w M => ?_)
            rw [rn_t hI ⟨(hbo (bP_t' hs4_4)).1 (bP_t' hs4_17), (hba (bP_t' hs4_10)).1 (bP_t' hc1)⟩]; exact ⟨_, rfl, ownC_star (c := rnC c xs ys) (mem_pick (n := 10) (mem_pick (n := 10) (mem_pick (n := 10) (mem_pick (n := 10) (M) rfl) rfl) rfl) rfl).2, M.1⟩

end Go.Proofs.Ytgkfampgofjkfaa
