
/- FixFirst and FixSecond: the model's side. -/
import Derived.Test.YtfnneogadciimabTwV
set_option linter.unusedSimpArgs false
set_option linter.unusedVariables false
set_option linter.unusedSectionVars false
namespace Go.Proofs.Ytfnneogadciimab
open Go.RowKit

set_option maxHeartbeats 1000000 in
set_option maxRecDepth 100000 in
theorem l02ObjectV_any (w : World) (v : Value) (c : Cat) (x : Int) (h : RdC w v c) :
    Calls Try.prog 66 #[v, .int .i64 x] w (RetB w (bP (0 ≤ x ∧ x < c.ob))) := by
  have h0 := h
  obtain ⟨va, vb, vc, vd, ve, vf, vg, vh, rfl, h1, h2, h3, h4, _⟩ := h.lists
  go_enter Try.func66, Try.ntmps66
  refine gc_enter (N := 13) rfl (look_cons (k := 0) rfl (look_cons (k := 1) rfl (look_nil _))) ?_
  refine gc_seq fun K1 hK1 => ?_
  refine gc_region ?_
  refine g_op (.free rfl) fun K3 hK3 => ?_
  refine go_box rfl rfl rfl rfl rfl ?_
  intro B2
  refine hK3 _ _ ?_
  refine g_v (.free rfl) rfl rfl (qt_assign rfl rfl) ?_
  refine g_nil ?_
  refine gk_then (hK1 _ _ ?_)
  refine gc_seq fun K4 hK4 => ?_
  refine gc_region ?_
  refine g_v (.free rfl) rfl rfl (qt_move rfl rfl) ?_
  refine g_v (.free rfl) rfl rfl (qt_geq rfl rfl rfl) ?_
  refine g_splitv (.free rfl) rfl rfl (qt_move rfl rfl) (fun hs1_2 => ?_) (fun hs1_2 => ?_)
  · try simp only [decide_eq_true_eq, decide_eq_false_iff_not, Bool.not_eq_true', Bool.not_eq_false', Bool.not_eq_eq_eq_not, Bool.not_true, Bool.not_false, ne_eq, Decidable.not_not, Classical.not_not] at hs1_2
    refine g_v (.held _ _ _ rfl rfl rfl) rfl rfl (qt_move rfl rfl) ?_
    refine g_v (.held _ _ _ rfl rfl rfl) rfl rfl (qt_field (z := 0) (off := 0) rfl rfl Try.underlying30 rfl (by kernel_rfl) rfl) ?_
    refine g_v (.held _ _ _ rfl rfl rfl) rfl rfl (qt_loadB (n := 0) rfl rfl Try.underlying2 rfl rfl rfl) ?_
    refine g_v (.held _ _ _ rfl rfl rfl) rfl rfl (qt_lss rfl rfl rfl) ?_
    refine g_v (.free rfl) rfl rfl (qt_pick_t rfl rfl rfl) ?_
    refine g_v (.free rfl) rfl rfl (qt_assign rfl rfl) ?_
    refine g_nil ?_
    refine gk_then (hK4 _ _ ?_)
    refine gc_ret ?_
    refine ret_1 rfl rfl  (fun w M => ?_)
    rw [bP_dec]; exact ⟨by first | rfl | (congr 2; simp; omega), M.1⟩
  · try simp only [decide_eq_true_eq, decide_eq_false_iff_not, Bool.not_eq_true', Bool.not_eq_false', Bool.not_eq_eq_eq_not, Bool.not_true, Bool.not_false, ne_eq, Decidable.not_not, Classical.not_not] at hs1_2
    refine g_skip (.not _ _ _ _ rfl rfl rfl rfl) rfl rfl ?_
    refine g_skip (.not _ _ _ _ rfl rfl rfl rfl) rfl rfl ?_
    refine g_skip (.not _ _ _ _ rfl rfl rfl rfl) rfl rfl ?_
    refine g_skip (.not _ _ _ _ rfl rfl rfl rfl) rfl rfl ?_
    refine g_v (.free rfl) rfl rfl (qt_pick_f rfl rfl rfl) ?_
    refine g_v (.free rfl) rfl rfl (qt_assign rfl rfl) ?_
    refine g_nil ?_
    refine gk_then (hK4 _ _ ?_)
    refine gc_ret ?_
    refine ret_1 rfl rfl  (fun w M => ?_)
    rw [bP_f (by omega)]; exact ⟨rfl, M.1⟩

set_option maxHeartbeats 1000000 in
set_option maxRecDepth 100000 in
theorem specTwoV_any (w : World) (v : Value) (A : Cat) (u : Value) (B : Cat) (t : Value) (F : Fct) (i : Bool) (h : RdC w v A) (e : RdC w u B) (g : RdF w t F) :
    Calls Try.prog 65 #[v, u, t, .bool i] w (RetI w (tvCode A B F i)) := by
  have h0 := h
  obtain ⟨va, vb, vc, vd, ve, vf, vg, vh, rfl, h1, h2, h3, h4, _⟩ := h.lists
  have e0 := e
  obtain ⟨ua, ub, uc, ud, ue, uf, ug, uh, rfl, e1, e2, e3, e4, _⟩ := e.lists
  have g0 := g
  obtain ⟨tx1, tx2, tx3, tx4, tx5, tx6, tx7, tx8, tx9, tx10, tk1, tk2, tk3, tk4, tk5, tk6, tk7, tk8, tk9, tk10, rfl, g1, g2, g3, g4, g5, g6, g7, g8, g9, g10⟩ := g.lists
  go_enter Try.func65, Try.ntmps65
  refine gc_enter (N := 34) rfl (look_cons (k := 0) rfl (look_cons (k := 1) rfl (look_cons (k := 2) rfl (look_cons (k := 3) rfl (look_nil _))))) ?_
  refine gc_seq fun K1 hK1 => ?_
  refine gc_region ?_
  refine g_op (.free rfl) fun K3 hK3 => ?_
  refine go_box rfl rfl rfl rfl rfl ?_
  intro B2
  refine hK3 _ _ ?_
  refine g_op (.free rfl) fun K5 hK5 => ?_
  refine go_box rfl rfl rfl rfl rfl ?_
  intro B4
  refine hK5 _ _ ?_
  refine g_op (.free rfl) fun K7 hK7 => ?_
  refine go_box rfl rfl rfl rfl rfl ?_
  intro B6
  refine hK7 _ _ ?_
  refine g_v (.free rfl) rfl rfl (qt_assign rfl rfl) ?_
  refine g_nil ?_
  refine gk_then (hK1 _ _ ?_)
  refine gc_seq fun K8 hK8 => ?_
  refine gc_block ?_
  refine gc_seq fun K9 hK9 => ?_
  refine gc_region ?_
  refine g_v (.free rfl) rfl rfl (qt_loadS (n := 0) rfl rfl Try.underlying30 rfl (by kernel_rfl) rfl) ?_
  refine g_q (.free rfl) rfl rfl (qt_call rfl Try.func111 rfl (by decide) rfl (fun w M => specIs_any w _ _ (mem_rdC M h0))) ?_
  refine g_v (.free rfl) rfl rfl (qt_not rfl rfl) ?_
  refine g_splitv (.free rfl) rfl rfl (qt_move rfl rfl) (fun hs1_3 => ?_) (fun hs1_3 => ?_)
  · try simp only [decide_eq_true_eq, decide_eq_false_iff_not, Bool.not_eq_true', Bool.not_eq_false', Bool.not_eq_eq_eq_not, Bool.not_true, Bool.not_false, ne_eq, Decidable.not_not, Classical.not_not] at hs1_3
    refine g_skip (.not _ _ _ _ rfl rfl rfl rfl) rfl rfl ?_
    refine g_skip (.not _ _ _ _ rfl rfl rfl rfl) rfl rfl ?_
    refine g_skip (.not _ _ _ _ rfl rfl rfl rfl) rfl rfl ?_
    refine g_v (.free rfl) rfl rfl (qt_pick_t rfl rfl rfl) ?_
    refine g_v (.free rfl) rfl rfl (qt_move rfl rfl) ?_
    refine g_skip (.not _ _ _ _ rfl rfl rfl rfl) rfl rfl ?_
    refine g_skip (.not _ _ _ _ rfl rfl rfl rfl) rfl rfl ?_
    refine g_skip (.not _ _ _ _ rfl rfl rfl rfl) rfl rfl ?_
    refine g_v (.free rfl) rfl rfl (qt_pick_t rfl rfl rfl) ?_
    refine g_v (.free rfl) rfl rfl (qt_assign rfl rfl) ?_
    refine g_nil ?_
    refine gk_then (hK9 _ _ ?_)
    refine gc_cond_t rfl ?_
    refine gc_seq fun K10 hK10 => ?_
    refine gc_region ?_
    refine g_v (.free rfl) rfl rfl (qt_assign rfl rfl) ?_
    refine g_nil ?_
    refine gk_then (hK10 _ _ ?_)
    refine gc_ret ?_
    refine gk_block_ret ?_
    refine gk_then_ret ?_
    refine ret_1 rfl rfl  (fun w M => ?_)
    first | (rw [tvc_1 (by intro hh; simp_all)]; exact ⟨rfl, M.1⟩) | (rw [tvc_2 (by simp_all) (by simp_all)]; exact ⟨rfl, M.1⟩) | (rw [tvc_5 hq (by simp_all) (by first | exact bP_f' (by assumption) | simp_all)]; exact ⟨rfl, M.1⟩) | (rw [tvc_0 hq (by simp_all) (by first | exact bP_t' (by assumption) | simp_all)]; exact ⟨rfl, M.1⟩)
  · try simp only [decide_eq_true_eq, decide_eq_false_iff_not, Bool.not_eq_true', Bool.not_eq_false', Bool.not_eq_eq_eq_not, Bool.not_true, Bool.not_false, ne_eq, Decidable.not_not, Classical.not_not] at hs1_3
    refine g_v (.held _ _ _ rfl rfl rfl) rfl rfl (qt_loadS (n := 1) rfl rfl Try.underlying30 rfl (by kernel_rfl) rfl) ?_
    refine g_q (.held _ _ _ rfl rfl rfl) rfl rfl (qt_call rfl Try.func111 rfl (by decide) rfl (fun w M => specIs_any w _ _ (mem_rdC M e0))) ?_
    refine g_v (.held _ _ _ rfl rfl rfl) rfl rfl (qt_not rfl rfl) ?_
    refine g_v (.free rfl) rfl rfl (qt_pick_f rfl rfl rfl) ?_
    refine g_splitv (.free rfl) rfl rfl (qt_move rfl rfl) (fun hs1_8 => ?_) (fun hs1_8 => ?_)
    · try simp only [decide_eq_true_eq, decide_eq_false_iff_not, Bool.not_eq_true', Bool.not_eq_false', Bool.not_eq_eq_eq_not, Bool.not_true, Bool.not_false, ne_eq, Decidable.not_not, Classical.not_not] at hs1_8
      refine g_skip (.not _ _ _ _ rfl rfl rfl rfl) rfl rfl ?_
      refine g_skip (.not _ _ _ _ rfl rfl rfl rfl) rfl rfl ?_
      refine g_skip (.not _ _ _ _ rfl rfl rfl rfl) rfl rfl ?_
      refine g_v (.free rfl) rfl rfl (qt_pick_t rfl rfl rfl) ?_
      refine g_v (.free rfl) rfl rfl (qt_assign rfl rfl) ?_
      refine g_nil ?_
      refine gk_then (hK9 _ _ ?_)
      refine gc_cond_t rfl ?_
      refine gc_seq fun K11 hK11 => ?_
      refine gc_region ?_
      refine g_v (.free rfl) rfl rfl (qt_assign rfl rfl) ?_
      refine g_nil ?_
      refine gk_then (hK11 _ _ ?_)
      refine gc_ret ?_
      refine gk_block_ret ?_
      refine gk_then_ret ?_
      refine ret_1 rfl rfl  (fun w M => ?_)
      first | (rw [tvc_1 (by intro hh; simp_all)]; exact ⟨rfl, M.1⟩) | (rw [tvc_2 (by simp_all) (by simp_all)]; exact ⟨rfl, M.1⟩) | (rw [tvc_5 hq (by simp_all) (by first | exact bP_f' (by assumption) | simp_all)]; exact ⟨rfl, M.1⟩) | (rw [tvc_0 hq (by simp_all) (by first | exact bP_t' (by assumption) | simp_all)]; exact ⟨rfl, M.1⟩)
    · try simp only [decide_eq_true_eq, decide_eq_false_iff_not, Bool.not_eq_true', Bool.not_eq_false', Bool.not_eq_eq_eq_not, Bool.not_true, Bool.not_false, ne_eq, Decidable.not_not, Classical.not_not] at hs1_8
      refine g_v (.held _ _ _ rfl rfl rfl) rfl rfl (qt_loadS (n := 2) rfl rfl Try.underlying32 rfl (by kernel_rfl) rfl) ?_
      refine g_q (.held _ _ _ rfl rfl rfl) rfl rfl (qt_call rfl Try.func112 rfl (by decide) rfl (fun w M => specIsF_any w _ _ (mem_rdF M g0))) ?_
      refine g_v (.held _ _ _ rfl rfl rfl) rfl rfl (qt_not rfl rfl) ?_
      refine g_v (.free rfl) rfl rfl (qt_pick_f rfl rfl rfl) ?_
      refine g_v (.free rfl) rfl rfl (qt_assign rfl rfl) ?_
      refine g_nil ?_
      refine gk_then (hK9 _ _ ?_)
      refine gc_cond rfl (fun hc0 => ?_) (fun hc0 => ?_)
      · try simp only [decide_eq_true_eq, decide_eq_false_iff_not, Bool.not_eq_true', Bool.not_eq_false', Bool.not_eq_eq_eq_not, Bool.not_true, Bool.not_false, ne_eq, Decidable.not_not, Classical.not_not] at hc0
        refine gc_seq fun K12 hK12 => ?_
        refine gc_region ?_
        refine g_v (.free rfl) rfl rfl (qt_assign rfl rfl) ?_
        refine g_nil ?_
        refine gk_then (hK12 _ _ ?_)
        refine gc_ret ?_
        refine gk_block_ret ?_
        refine gk_then_ret ?_
        refine ret_1 rfl rfl  (fun w M => ?_)
        first | (rw [tvc_1 (by intro hh; simp_all)]; exact ⟨rfl, M.1⟩) | (rw [tvc_2 (by simp_all) (by simp_all)]; exact ⟨rfl, M.1⟩) | (rw [tvc_5 hq (by simp_all) (by first | exact bP_f' (by assumption) | simp_all)]; exact ⟨rfl, M.1⟩) | (rw [tvc_0 hq (by simp_all) (by first | exact bP_t' (by assumption) | simp_all)]; exact ⟨rfl, M.1⟩)
      · try simp only [decide_eq_true_eq, decide_eq_false_iff_not, Bool.not_eq_true', Bool.not_eq_false', Bool.not_eq_eq_eq_not, Bool.not_true, Bool.not_false, ne_eq, Decidable.not_not, Classical.not_not] at hc0
        refine gc_seq fun K13 hK13 => ?_
        refine gc_region ?_
        refine g_v (.free rfl) rfl rfl (qt_move rfl rfl) ?_
        refine g_v (.free rfl) rfl rfl (qt_not rfl rfl) ?_
        refine g_v (.free rfl) rfl rfl (qt_assign rfl rfl) ?_
        refine g_nil ?_
        refine gk_then (hK13 _ _ ?_)
        refine gc_cond rfl (fun hc1 => ?_) (fun hc1 => ?_)
        · try simp only [decide_eq_true_eq, decide_eq_false_iff_not, Bool.not_eq_true', Bool.not_eq_false', Bool.not_eq_eq_eq_not, Bool.not_true, Bool.not_false, ne_eq, Decidable.not_not, Classical.not_not] at hc1
          refine gc_seq fun K14 hK14 => ?_
          refine gc_region ?_
          refine g_v (.free rfl) rfl rfl (qt_assign rfl rfl) ?_
          refine g_nil ?_
          refine gk_then (hK14 _ _ ?_)
          refine gc_ret ?_
          refine gk_block_ret ?_
          refine gk_then_ret ?_
          refine ret_1 rfl rfl  (fun w M => ?_)
          first | (rw [tvc_1 (by intro hh; simp_all)]; exact ⟨rfl, M.1⟩) | (rw [tvc_2 (by simp_all) (by simp_all)]; exact ⟨rfl, M.1⟩) | (rw [tvc_5 hq (by simp_all) (by first | exact bP_f' (by assumption) | simp_all)]; exact ⟨rfl, M.1⟩) | (rw [tvc_0 hq (by simp_all) (by first | exact bP_t' (by assumption) | simp_all)]; exact ⟨rfl, M.1⟩)
        · try simp only [decide_eq_true_eq, decide_eq_false_iff_not, Bool.not_eq_true', Bool.not_eq_false', Bool.not_eq_eq_eq_not, Bool.not_true, Bool.not_false, ne_eq, Decidable.not_not, Classical.not_not] at hc1
          refine gc_seq fun K15 hK15 => ?_
          have hq : fIsCategory A = true ∧ fIsCategory B = true ∧ fIsFunctor F = true := by simp_all
          try simp only [List.nil_append, List.cons_append, List.append_assoc, List.set_cons_succ, List.set_cons_zero]
          refine ga_start _ (fun w M => M) ?_
          refine ga_v 0 rfl (by kernel_rfl) (by kernel_rfl) (by kernel_rfl) (.free rfl) rfl rfl (qt_field (z := 4) (off := 0) rfl rfl Try.underlying32 rfl (by kernel_rfl) rfl) (fun _ _ _ h => h) ?_
          refine ga_v 1 rfl (by kernel_rfl) (by kernel_rfl) (by kernel_rfl) (.free rfl) rfl rfl (qt_loadP (n := 2) (z := 5) rfl rfl Try.underlying30 rfl (by kernel_rfl) rfl (by first | decide | exact Nat.le_refl _ | simp)) (fun _ _ _ h => h) ?_
          refine ga_v 2 rfl (by kernel_rfl) (by kernel_rfl) (by kernel_rfl) (.free rfl) rfl rfl (qt_loadS (n := 0) rfl rfl Try.underlying30 rfl (by kernel_rfl) rfl) (fun _ _ _ h => h) ?_
          refine ga_v 3 rfl (by kernel_rfl) (by kernel_rfl) (by kernel_rfl) (.free rfl) rfl rfl (qt_loadS (n := 1) rfl rfl Try.underlying30 rfl (by kernel_rfl) rfl) (fun _ _ _ h => h) ?_
          refine ga_op 4 (by kernel_rfl) rfl (.free rfl) fun K17 hK17 => ?_
          refine go_callC rfl rfl rfl Try.func114 rfl (by decide) rfl (fun w M => specProduct_any w _ _ (mem_rdC M h0) _ _ (mem_rdC M e0) (isCat_of hq.1).toShapeP (isCat_of hq.2.1).toShapeP) ?_
          intro ca16 cb16 cc16 cd16 ce16 cf16 cg16 ch16 cu16
          refine hK17 _ _ (fun w M => (mem_take 3 M :)) ?_
          refine ga_op 5 (by kernel_rfl) rfl (.free rfl) fun K18 hK18 => ?_
          refine go_q rfl rfl (qt_call rfl Try.func113 rfl (by decide) rfl (fun w M => specSameC_any w _ _ (rdC_mk (mem_rd M g1) (mem_rd M g2) (mem_rd M g3) (mem_rd2 M g4)) _ _ (rdC_mk ((mem_own1 (n := 3) M rfl).rd) ((mem_own1 (n := 4) M rfl).rd) ((mem_own1 (n := 5) M rfl).rd) (mem_rdU (n := 6) M rfl)))) ?_
          refine hK18 _ _ (fun w M => (mem_take 3 M :)) ?_
          refine ga_v 6 rfl (by kernel_rfl) (by kernel_rfl) (by kernel_rfl) (.free rfl) rfl rfl (qt_not rfl rfl) (fun _ _ _ h => h) ?_
          refine ga_v 7 rfl (by kernel_rfl) (by kernel_rfl) (by kernel_rfl) (.free rfl) rfl rfl (qt_assign rfl rfl) (fun _ _ _ h => h) ?_
          refine ga_done (by kernel_rfl) ?_
          refine gk_then (hK15 _ _ ?_)
          refine gc_cond rfl (fun hc2 => ?_) (fun hc2 => ?_)
          · try simp only [decide_eq_true_eq, decide_eq_false_iff_not, Bool.not_eq_true', Bool.not_eq_false', Bool.not_eq_eq_eq_not, Bool.not_true, Bool.not_false, ne_eq, Decidable.not_not, Classical.not_not] at hc2
            refine gc_seq fun K19 hK19 => ?_
            refine gc_region ?_
            refine g_v (.free rfl) rfl rfl (qt_assign rfl rfl) ?_
            refine g_nil ?_
            refine gk_then (hK19 _ _ ?_)
            refine gc_ret ?_
            refine gk_block_ret ?_
            refine gk_then_ret ?_
            refine ret_1 rfl rfl  (fun w M => ?_)
            first | (rw [tvc_1 (by intro hh; simp_all)]; exact ⟨rfl, M.1⟩) | (rw [tvc_2 (by simp_all) (by simp_all)]; exact ⟨rfl, M.1⟩) | (rw [tvc_5 hq (by simp_all) (by first | exact bP_f' (by assumption) | simp_all)]; exact ⟨rfl, M.1⟩) | (rw [tvc_0 hq (by simp_all) (by first | exact bP_t' (by assumption) | simp_all)]; exact ⟨rfl, M.1⟩)
          · try simp only [decide_eq_true_eq, decide_eq_false_iff_not, Bool.not_eq_true', Bool.not_eq_false', Bool.not_eq_eq_eq_not, Bool.not_true, Bool.not_false, ne_eq, Decidable.not_not, Classical.not_not] at hc2
            refine gc_skip ?_
            refine gk_block ?_
            refine gk_then (hK8 _ _ ?_)
            refine gc_seq fun K20 hK20 => ?_
            refine gc_region ?_
            refine g_v (.free rfl) rfl rfl (qt_assign rfl rfl) ?_
            refine g_nil ?_
            refine gk_then (hK20 _ _ ?_)
            refine gc_ret ?_
            refine ret_1 rfl rfl  (fun w M => ?_)
            first | (rw [tvc_1 (by intro hh; simp_all)]; exact ⟨rfl, M.1⟩) | (rw [tvc_2 (by simp_all) (by simp_all)]; exact ⟨rfl, M.1⟩) | (rw [tvc_5 hq (by simp_all) (by first | exact bP_f' (by assumption) | simp_all)]; exact ⟨rfl, M.1⟩) | (rw [tvc_0 hq (by simp_all) (by first | exact bP_t' (by assumption) | simp_all)]; exact ⟨rfl, M.1⟩)

set_option maxHeartbeats 1000000 in
set_option maxRecDepth 100000 in
theorem specFix_any (w : World) (v : Value) (A : Cat) (u : Value) (B : Cat) (t : Value) (F : Fct) (x : Int) (h : RdC w v A) (e : RdC w u B) (g : RdF w t F) (hx0 : 0 ≤ x) (hx1 : x < A.ob) (hP : TvP A B F) :
    Calls Try.prog 67 #[v, u, t, .int .i64 x] w (RetFn w (fix1 A B F x)) := by
  have h0 := h
  obtain ⟨va, vb, vc, vd, ve, vf, vg, vh, rfl, h1, h2, h3, h4, _⟩ := h.lists
  have e0 := e
  obtain ⟨ua, ub, uc, ud, ue, uf, ug, uh, rfl, e1, e2, e3, e4, _⟩ := e.lists
  have g0 := g
  obtain ⟨tx1, tx2, tx3, tx4, tx5, tx6, tx7, tx8, tx9, tx10, tk1, tk2, tk3, tk4, tk5, tk6, tk7, tk8, tk9, tk10, rfl, g1, g2, g3, g4, g5, g6, g7, g8, g9, g10⟩ := g.lists
  have hL := tvL hP
  have a0 := hL.a0; have a8 := hL.a8; have an := hL.an; have ae := hL.ae; have b0 := hL.b0; have b8 := hL.b8; have bn := hL.bn; have be := hL.be; have fo := hL.fo; have fa := hL.fa
  have faI : (F.a.length : Int) = (A.s.length : Int) * (B.s.length : Int) := by rw [fa, Int.natCast_mul]
  have hid := hL.ia x hx0 hx1
  have hi0 := hid.1; have hi1 := hid.2
  go_enter Try.func67, Try.ntmps67
  refine gc_enter (N := 65) rfl (look_cons (k := 0) rfl (look_cons (k := 1) rfl (look_cons (k := 2) rfl (look_cons (k := 3) rfl (look_nil _))))) ?_
  refine gc_seq fun K1 hK1 => ?_
  refine gc_region ?_
  refine g_op (.free rfl) fun K3 hK3 => ?_
  refine go_box rfl rfl rfl rfl rfl ?_
  intro B2
  refine hK3 _ _ ?_
  refine g_op (.free rfl) fun K5 hK5 => ?_
  refine go_box rfl rfl rfl rfl rfl ?_
  intro B4
  refine hK5 _ _ ?_
  refine g_op (.free rfl) fun K7 hK7 => ?_
  refine go_box rfl rfl rfl rfl rfl ?_
  intro B6
  refine hK7 _ _ ?_
  refine g_op (.free rfl) fun K9 hK9 => ?_
  refine go_alloc (z := (.agg #[.int .i64 0, .slice none 0 0, .slice none 0 0, .slice none 0 0, .slice none 0 0, .int .i64 0, .slice none 0 0, .slice none 0 0, .slice none 0 0, .slice none 0 0, .slice none 0 0, .slice none 0 0])) (cs := [.int .i64 0, .slice none 0 0, .slice none 0 0, .slice none 0 0, .slice none 0 0, .int .i64 0, .slice none 0 0, .slice none 0 0, .slice none 0 0, .slice none 0 0, .slice none 0 0, .slice none 0 0]) rfl rfl rfl (fun w => by kernel_rfl) rfl ?_
  intro B8
  refine hK9 _ _ ?_
  refine g_nil ?_
  refine gk_then (hK1 _ _ ?_)
  refine gc_seq fun K10 hK10 => ?_
  refine gc_region ?_
  refine g_op (.free rfl) fun K12 hK12 => ?_
  refine go_slice0 rfl rfl rfl Try.underlying22 ?_
  intro B11
  refine hK12 _ _ ?_
  refine g_op (.free rfl) fun K14 hK14 => ?_
  refine go_slice0 rfl rfl rfl Try.underlying22 ?_
  intro B13
  refine hK14 _ _ ?_
  refine g_v (.free rfl) rfl rfl (qt_assign rfl rfl) ?_
  refine g_v (.free rfl) rfl rfl (qt_assign rfl rfl) ?_
  refine g_nil ?_
  refine gk_then (hK10 _ _ ?_)
  refine gc_seq fun K15 hK15 => ?_
  refine gc_seq fun K16 hK16 => ?_
  refine gc_region ?_
  refine g_v (.free rfl) rfl rfl (qt_assign rfl rfl) ?_
  refine g_nil ?_
  refine gk_then (hK16 _ _ ?_)
  refine gc_block ?_
  try simp only [List.nil_append, List.cons_append, List.append_assoc, List.set_cons_succ, List.set_cons_zero]
  refine gc_loop ([(0, _), (1, _), (2, _), (3, _), (4, _), (5, _), (6, _), (8, _), (10, _)] : Env) (fun s : Nat × (Option Addr) × Nat => (fun (k : Nat) (a : Option Addr) (q : Nat) => ([(9, .slice a (tabTo (fun y : Nat => at0 F.o (x * B.ob + (y : Int))) k).length q), (11, .int .i64 (k : Int))] : Env)) s.1 s.2.1 s.2.2) (fun s : Nat × (Option Addr) × Nat => (fun (k : Nat) (a : Option Addr) (q : Nat) => ([(4, own1I (.slice a (tabTo (fun y : Nat => at0 F.o (x * B.ob + (y : Int))) k).length q) (tabTo (fun y : Nat => at0 F.o (x * B.ob + (y : Int))) k))] : List (Nat × Itm))) s.1 s.2.1 s.2.2) (fun s : Nat × (Option Addr) × Nat => (fun (k : Nat) (a : Option Addr) (q : Nat) => (k : Int) ≤ B.ob) s.1 s.2.1 s.2.2) (fun s : Nat × (Option Addr) × Nat => (fun (k : Nat) (a : Option Addr) (q : Nat) => B.ob.toNat - k) s.1 s.2.1 s.2.2) (0, _, _) (sub_cons rfl (sub_cons rfl (sub_cons rfl (sub_cons rfl (sub_cons rfl (sub_cons rfl (sub_cons rfl (sub_cons rfl (sub_cons rfl (sub_cons rfl (sub_cons rfl sub_nil))))))))))) rfl (by omega) ?_
  rintro ⟨k, a, q⟩ hinv KL17 hKL17
  simp only [updL, List.foldl_cons, List.foldl_nil, List.set_cons_succ, List.set_cons_zero, List.cons_append, List.nil_append] at hinv hKL17 ⊢
  have hk := hinv
  have hl1 := tabTo_len (fun y : Nat => at0 F.o (x * B.ob + (y : Int))) k
  refine gc_seq fun K18 hK18 => ?_
  refine gc_seq fun K19 hK19 => ?_
  refine gc_region ?_
  refine g_v (.free rfl) rfl rfl (qt_move rfl rfl) ?_
  refine g_v (.free rfl) rfl rfl (qt_field (z := 0) (off := 0) rfl rfl Try.underlying30 rfl (by kernel_rfl) rfl) ?_
  refine g_v (.free rfl) rfl rfl (qt_loadB (n := 1) rfl rfl Try.underlying2 rfl rfl rfl) ?_
  refine g_v (.free rfl) rfl rfl (qt_lss rfl rfl rfl) ?_
  refine g_nil ?_
  refine gk_then (hK19 _ _ ?_)
  refine gc_cond rfl (fun hc0 => ?_) (fun hc0 => ?_)
  · try simp only [decide_eq_true_eq, decide_eq_false_iff_not, Bool.not_eq_true', Bool.not_eq_false', Bool.not_eq_eq_eq_not, Bool.not_true, Bool.not_false, ne_eq, Decidable.not_not, Classical.not_not] at hc0
    refine gc_skip ?_
    refine gk_then (hK18 _ _ ?_)
    refine gc_seq fun K20 hK20 => ?_
    refine gc_block ?_
    have hm := mul_bnd (x := x) (n := B.ob) (by omega) (by omega) (by omega) (by omega)
    have hm0 := hm.1; have hm1 := hm.2
    have hI := mul_in (x := x) (y := (k : Int)) (a := A.ob) (b := B.ob) (by omega) (by omega) (by omega) (by omega)
    have hI0 := hI.1; have hI1 := hI.2
    refine gc_region ?_
    refine g_v (.free rfl) rfl rfl (qt_move rfl rfl) ?_
    refine g_v (.free rfl) rfl rfl (qt_field (z := 0) (off := 10) rfl rfl Try.underlying32 rfl (by kernel_rfl) rfl) ?_
    refine g_v (.free rfl) rfl rfl (qt_loadB (n := 2) rfl rfl Try.underlying22 rfl rfl rfl) ?_
    refine g_v (.free rfl) rfl rfl (qt_move rfl rfl) ?_
    refine g_v (.free rfl) rfl rfl (qt_field (z := 0) (off := 0) rfl rfl Try.underlying30 rfl (by kernel_rfl) rfl) ?_
    refine g_v (.free rfl) rfl rfl (qt_loadB (n := 1) rfl rfl Try.underlying2 rfl rfl rfl) ?_
    refine g_v (.free rfl) rfl rfl (qt_mul rfl rfl rfl (by omega)) ?_
    refine g_v (.free rfl) rfl rfl (qt_move rfl rfl) ?_
    refine g_v (.free rfl) rfl rfl (qt_add rfl rfl rfl (by omega)) ?_
    refine g_v (.free rfl) rfl rfl (qt_index rfl rfl rfl ulE1 szE1 (fun w M => lenA_rd g9) (by omega) (by omega)) ?_
    refine g_v (.free rfl) rfl rfl (qt_load1 rfl rfl Try.underlying2 rfl (fun w M => mem_rd M g9) (by omega) (by omega)) ?_
    refine g_op (.free rfl) fun K22 hK22 => ?_
    refine go_slice1 rfl rfl rfl rfl Try.underlying22 ?_
    intro B21
    refine hK22 _ _ ?_
    refine g_op (.free rfl) fun K24 hK24 => ?_
    refine go_append (n := 4) (m := 6) rfl rfl rfl Try.underlying22 rfl rfl rfl rfl (by omega) ?_
    intro va23 vc23
    refine hK24 _ _ ?_
    refine g_v (.free rfl) rfl rfl (qt_assign rfl rfl) ?_
    refine g_nil ?_
    refine gk_block ?_
    refine gk_then (hK20 _ _ ?_)
    refine gc_region ?_
    refine g_v (.free rfl) rfl rfl (qt_move rfl rfl) ?_
    refine g_v (.free rfl) rfl rfl (qt_add rfl rfl rfl (by omega)) ?_
    refine g_v (.free rfl) rfl rfl (qt_assign rfl rfl) ?_
    refine g_nil ?_
    simp only [tabTo_succ (fun y : Nat => at0 F.o (x * B.ob + (y : Int)))]
    refine gk_then (gk_take 6 ?_)
    refine gk_sub ?hs_25 (hKL17 (k + 1, _, _) ?hi_25 ?hm_25)
    case hs_25 => exact (sub_cons rfl (sub_cons rfl (sub_cons rfl (sub_cons rfl (sub_cons rfl (sub_cons rfl (sub_cons rfl (sub_cons rfl (sub_cons rfl (sub_cons rfl (sub_cons rfl sub_nil)))))))))))
    case hi_25 => omega
    case hm_25 => omega
  · try simp only [decide_eq_true_eq, decide_eq_false_iff_not, Bool.not_eq_true', Bool.not_eq_false', Bool.not_eq_eq_eq_not, Bool.not_true, Bool.not_false, ne_eq, Decidable.not_not, Classical.not_not] at hc0
    refine gc_exit ?_
    refine gk_then_exit ?_
    refine gk_then_exit ?_
    refine gk_block_hit ?_
    refine gk_then (hK15 _ _ ?_)
    refine gc_seq fun K26 hK26 => ?_
    refine gc_seq fun K27 hK27 => ?_
    obtain rfl : k = B.ob.toNat := by omega
    refine gc_region ?_
    refine g_v (.free rfl) rfl rfl (qt_assign rfl rfl) ?_
    refine g_nil ?_
    refine gk_then (hK27 _ _ ?_)
    refine gc_block ?_
    try simp only [List.nil_append, List.cons_append, List.append_assoc, List.set_cons_succ, List.set_cons_zero]
    refine gc_loop ([(0, _), (1, _), (2, _), (3, _), (4, _), (5, _), (6, _), (8, _), (9, _), (11, _), (18, _)] : Env) (fun s : Nat × (Option Addr) × Nat => (fun (k : Nat) (a : Option Addr) (q : Nat) => ([(10, .slice a (tabTo (fun v : Nat => at0 F.a (at0 A.e x * (B.s.length : Int) + (v : Int))) k).length q), (12, .int .i64 (k : Int))] : Env)) s.1 s.2.1 s.2.2) (fun s : Nat × (Option Addr) × Nat => (fun (k : Nat) (a : Option Addr) (q : Nat) => ([(5, own1I (.slice a (tabTo (fun v : Nat => at0 F.a (at0 A.e x * (B.s.length : Int) + (v : Int))) k).length q) (tabTo (fun v : Nat => at0 F.a (at0 A.e x * (B.s.length : Int) + (v : Int))) k))] : List (Nat × Itm))) s.1 s.2.1 s.2.2) (fun s : Nat × (Option Addr) × Nat => (fun (k : Nat) (a : Option Addr) (q : Nat) => (k : Int) ≤ (B.s.length : Int)) s.1 s.2.1 s.2.2) (fun s : Nat × (Option Addr) × Nat => (fun (k : Nat) (a : Option Addr) (q : Nat) => B.s.length - k) s.1 s.2.1 s.2.2) (0, _, _) (sub_cons rfl (sub_cons rfl (sub_cons rfl (sub_cons rfl (sub_cons rfl (sub_cons rfl (sub_cons rfl (sub_cons rfl (sub_cons rfl (sub_cons rfl (sub_cons rfl (sub_cons rfl (sub_cons rfl sub_nil))))))))))))) rfl (by omega) ?_
    rintro ⟨k, a, q⟩ hinv KL28 hKL28
    simp only [updL, List.foldl_cons, List.foldl_nil, List.set_cons_succ, List.set_cons_zero, List.cons_append, List.nil_append] at hinv hKL28 ⊢
    have hk := hinv
    have hl1 := tabTo_len (fun v : Nat => at0 F.a (at0 A.e x * (B.s.length : Int) + (v : Int))) k
    refine gc_seq fun K29 hK29 => ?_
    refine gc_seq fun K30 hK30 => ?_
    refine gc_region ?_
    refine g_v (.free rfl) rfl rfl (qt_move rfl rfl) ?_
    refine g_v (.free rfl) rfl rfl (qt_field (z := 0) (off := 1) rfl rfl Try.underlying30 rfl (by kernel_rfl) rfl) ?_
    refine g_v (.free rfl) rfl rfl (qt_loadB (n := 1) rfl rfl Try.underlying22 rfl rfl rfl) ?_
    refine g_v (.free rfl) rfl rfl (qt_len rfl rfl ulE1 (fun w M => lenV_rd e1)) ?_
    refine g_v (.free rfl) rfl rfl (qt_lss rfl rfl rfl) ?_
    refine g_nil ?_
    refine gk_then (hK30 _ _ ?_)
    refine gc_cond rfl (fun hc1 => ?_) (fun hc1 => ?_)
    · try simp only [decide_eq_true_eq, decide_eq_false_iff_not, Bool.not_eq_true', Bool.not_eq_false', Bool.not_eq_eq_eq_not, Bool.not_true, Bool.not_false, ne_eq, Decidable.not_not, Classical.not_not] at hc1
      refine gc_skip ?_
      refine gk_then (hK29 _ _ ?_)
      refine gc_seq fun K31 hK31 => ?_
      refine gc_block ?_
      have hm := mul_bnd (x := (at0 A.e x)) (n := (B.s.length : Int)) (by omega) (by omega) (by omega) (by omega)
      have hm0 := hm.1; have hm1 := hm.2
      have hI := mul_in (x := (at0 A.e x)) (y := (k : Int)) (a := (A.s.length : Int)) (b := (B.s.length : Int)) (by omega) (by omega) (by omega) (by omega)
      have hI0 := hI.1; have hI1 := hI.2
      try simp only [List.nil_append, List.cons_append, List.append_assoc, List.set_cons_succ, List.set_cons_zero]
      refine ga_start _ (fun w M => mem_erase 5 (M)) ?_
      refine ga_v 0 rfl (by kernel_rfl) (by kernel_rfl) (by kernel_rfl) (.free rfl) rfl rfl (qt_move rfl rfl) (fun _ _ _ h => h) ?_
      refine ga_v 1 rfl (by kernel_rfl) (by kernel_rfl) (by kernel_rfl) (.free rfl) rfl rfl (qt_field (z := 0) (off := 11) rfl rfl Try.underlying32 rfl (by kernel_rfl) rfl) (fun _ _ _ h => h) ?_
      refine ga_v 2 rfl (by kernel_rfl) (by kernel_rfl) (by kernel_rfl) (.free rfl) rfl rfl (qt_loadB (n := 2) rfl rfl Try.underlying22 rfl rfl rfl) (fun _ _ _ h => h) ?_
      refine ga_v 3 rfl (by kernel_rfl) (by kernel_rfl) (by kernel_rfl) (.free rfl) rfl rfl (qt_field (z := 0) (off := 3) rfl rfl Try.underlying30 rfl (by kernel_rfl) rfl) (fun _ _ _ h => h) ?_
      refine ga_v 4 rfl (by kernel_rfl) (by kernel_rfl) (by kernel_rfl) (.free rfl) rfl rfl (qt_loadB (n := 0) rfl rfl Try.underlying22 rfl rfl rfl) (fun _ _ _ h => h) ?_
      refine ga_v 5 rfl (by kernel_rfl) (by kernel_rfl) (by kernel_rfl) (.free rfl) rfl rfl (qt_move rfl rfl) (fun _ _ _ h => h) ?_
      refine ga_v 6 rfl (by kernel_rfl) (by kernel_rfl) (by kernel_rfl) (.free rfl) rfl rfl (qt_index rfl rfl rfl ulE1 szE1 (fun w M => lenA_rd h3) (by omega) (by omega)) (fun _ _ _ h => h) ?_
      refine ga_v 7 rfl (by kernel_rfl) (by kernel_rfl) (by kernel_rfl) (.free rfl) rfl rfl (qt_load1 rfl rfl Try.underlying2 rfl (fun w M => mem_rd M h3) (by omega) (by omega)) (fun _ _ _ h => h) ?_
      refine ga_v 8 rfl (by kernel_rfl) (by kernel_rfl) (by kernel_rfl) (.free rfl) rfl rfl (qt_field (z := 0) (off := 1) rfl rfl Try.underlying30 rfl (by kernel_rfl) rfl) (fun _ _ _ h => h) ?_
      refine ga_v 9 rfl (by kernel_rfl) (by kernel_rfl) (by kernel_rfl) (.free rfl) rfl rfl (qt_loadB (n := 1) rfl rfl Try.underlying22 rfl rfl rfl) (fun _ _ _ h => h) ?_
      refine ga_v 10 rfl (by kernel_rfl) (by kernel_rfl) (by kernel_rfl) (.free rfl) rfl rfl (qt_len rfl rfl ulE1 (fun w M => lenV_rd e1)) (fun _ _ _ h => h) ?_
      refine ga_v 11 rfl (by kernel_rfl) (by kernel_rfl) (by kernel_rfl) (.free rfl) rfl rfl (qt_mul rfl rfl rfl (by omega)) (fun _ _ _ h => h) ?_
      refine ga_v 12 rfl (by kernel_rfl) (by kernel_rfl) (by kernel_rfl) (.free rfl) rfl rfl (qt_move rfl rfl) (fun _ _ _ h => h) ?_
      refine ga_v 13 rfl (by kernel_rfl) (by kernel_rfl) (by kernel_rfl) (.free rfl) rfl rfl (qt_add rfl rfl rfl (by omega)) (fun _ _ _ h => h) ?_
      refine ga_v 14 rfl (by kernel_rfl) (by kernel_rfl) (by kernel_rfl) (.free rfl) rfl rfl (qt_index rfl rfl rfl ulE1 szE1 (fun w M => lenA_rd g10) (by omega) (by omega)) (fun _ _ _ h => h) ?_
      refine ga_v 15 rfl (by kernel_rfl) (by kernel_rfl) (by kernel_rfl) (.free rfl) rfl rfl (qt_load1 rfl rfl Try.underlying2 rfl (fun w M => mem_rd M g10) (by omega) (by omega)) (fun _ _ _ h => h) ?_
      refine ga_op 16 (by kernel_rfl) rfl (.free rfl) fun K33 hK33 => ?_
      refine go_slice1 rfl rfl rfl rfl Try.underlying22 ?_
      intro B32
      refine hK33 _ _ (fun w M => (mem_erase 5 (mem_take 6 M) :)) ?_
      refine ga_op 17 (by kernel_rfl) rfl (.free rfl) fun K35 hK35 => ?_
      refine go_append (n := 5) (m := 6) rfl rfl rfl Try.underlying22 rfl rfl rfl rfl (by omega) ?_
      intro va34 vc34
      refine hK35 _ _ (fun w M => (mem_erase 5 (mem_take 6 M) :)) ?_
      refine ga_v 18 rfl (by kernel_rfl) (by kernel_rfl) (by kernel_rfl) (.free rfl) rfl rfl (qt_assign rfl rfl) (fun _ _ _ h => h) ?_
      refine ga_done (by kernel_rfl) ?_
      refine gk_block ?_
      refine gk_then (hK31 _ _ ?_)
      refine gc_region ?_
      refine g_v (.free rfl) rfl rfl (qt_move rfl rfl) ?_
      refine g_v (.free rfl) rfl rfl (qt_add rfl rfl rfl (by omega)) ?_
      refine g_v (.free rfl) rfl rfl (qt_assign rfl rfl) ?_
      refine g_nil ?_
      simp only [tabTo_succ (fun v : Nat => at0 F.a (at0 A.e x * (B.s.length : Int) + (v : Int)))]
      refine gk_then (gk_take 6 ?_)
      refine gk_sub ?hs_36 (hKL28 (k + 1, _, _) ?hi_36 ?hm_36)
      case hs_36 => exact (sub_cons rfl (sub_cons rfl (sub_cons rfl (sub_cons rfl (sub_cons rfl (sub_cons rfl (sub_cons rfl (sub_cons rfl (sub_cons rfl (sub_cons rfl (sub_cons rfl (sub_cons rfl (sub_cons rfl sub_nil)))))))))))))
      case hi_36 => omega
      case hm_36 => omega
    · try simp only [decide_eq_true_eq, decide_eq_false_iff_not, Bool.not_eq_true', Bool.not_eq_false', Bool.not_eq_eq_eq_not, Bool.not_true, Bool.not_false, ne_eq, Decidable.not_not, Classical.not_not] at hc1
      refine gc_exit ?_
      refine gk_then_exit ?_
      refine gk_then_exit ?_
      refine gk_block_hit ?_
      refine gk_then (hK26 _ _ ?_)
      refine gc_seq fun K37 hK37 => ?_
      obtain rfl : k = B.s.length := by omega
      refine gc_region ?_
      refine g_v (.free rfl) rfl rfl (qt_loadS (n := 1) rfl rfl Try.underlying30 rfl (by kernel_rfl) rfl) ?_
      refine g_v (.free rfl) rfl rfl (qt_field (z := 4) (off := 5) rfl rfl Try.underlying32 rfl (by kernel_rfl) rfl) ?_
      refine g_v (.free rfl) rfl rfl (qt_loadP (n := 2) (z := 5) rfl rfl Try.underlying30 rfl (by kernel_rfl) rfl (by first | decide | exact Nat.le_refl _ | simp)) ?_
      refine g_v (.free rfl) rfl rfl (qt_move rfl rfl) ?_
      refine g_v (.free rfl) rfl rfl (qt_move rfl rfl) ?_
      refine g_op (.free rfl) fun K39 hK39 => ?_
      refine go_callFn rfl rfl rfl Try.func75 rfl (by decide) rfl (fun w M => specMakeF_any w _ _ (mem_rdC M e0) _ _ (rdC_mk (mem_rd M g5) (mem_rd M g6) (mem_rd M g7) (mem_rd2 M g8)) _ _ _ _ ((mem_own1 (n := 4) M rfl).rd) ((mem_own1 (n := 5) M rfl).rd)) ?_
      intro fx1_38 fk1_38 fx2_38 fk2_38 fx3_38 fk3_38 fx4_38 fk4_38 fx5_38 fk5_38 fx6_38 fk6_38 fx7_38 fk7_38 fx8_38 fk8_38 fx9_38 fk9_38 fx10_38 fk10_38 us38 ut38
      refine hK39 _ _ ?_
      refine g_op (.free rfl) fun K40 hK40 => ?_
      refine go_storeS (n := 3) rfl rfl rfl rfl (by kernel_rfl) rfl rfl rfl ?_
      refine hK40 _ _ ?_
      refine g_nil ?_
      refine gk_then (hK37 _ _ ?_)
      refine gc_ret ?_
      refine ret_S (n := 3) rfl rfl Try.underlying32 rfl (by kernel_rfl) rfl (fun w M => ?_)
      try simp only [List.nil_append, List.cons_append, List.append_assoc, List.set_cons_succ, List.set_cons_zero] at M
      exact retFn_star (F := fix1 A B F x) (mem_block 6 10 (M))

set_option maxHeartbeats 1000000 in
set_option maxRecDepth 100000 in
theorem spec_FixFirst (w : World) (v : Value) (A : Cat) (u : Value) (B : Cat) (t : Value) (F : Fct) (x : Int) (h : RdC w v A) (e : RdC w u B) (g : RdF w t F) :
    Calls Try.prog 15 #[v, u, t, .int .i64 x] w (RetFI w (fFixFirst A B F x).1 (fFixFirst A B F x).2) := by
  have h0 := h
  obtain ⟨va, vb, vc, vd, ve, vf, vg, vh, rfl, h1, h2, h3, h4, _⟩ := h.lists
  have e0 := e
  obtain ⟨ua, ub, uc, ud, ue, uf, ug, uh, rfl, e1, e2, e3, e4, _⟩ := e.lists
  have g0 := g
  obtain ⟨tx1, tx2, tx3, tx4, tx5, tx6, tx7, tx8, tx9, tx10, tk1, tk2, tk3, tk4, tk5, tk6, tk7, tk8, tk9, tk10, rfl, g1, g2, g3, g4, g5, g6, g7, g8, g9, g10⟩ := g.lists
  go_enter Try.func15, Try.ntmps15
  refine gc_enter (N := 27) rfl (look_cons (k := 0) rfl (look_cons (k := 1) rfl (look_cons (k := 2) rfl (look_cons (k := 3) rfl (look_nil _))))) ?_
  refine gc_seq fun K1 hK1 => ?_
  refine gc_region ?_
  refine g_op (.free rfl) fun K3 hK3 => ?_
  refine go_box rfl rfl rfl rfl rfl ?_
  intro B2
  refine hK3 _ _ ?_
  refine g_op (.free rfl) fun K5 hK5 => ?_
  refine go_box rfl rfl rfl rfl rfl ?_
  intro B4
  refine hK5 _ _ ?_
  refine g_op (.free rfl) fun K7 hK7 => ?_
  refine go_box rfl rfl rfl rfl rfl ?_
  intro B6
  refine hK7 _ _ ?_
  refine g_op (.free rfl) fun K9 hK9 => ?_
  refine go_alloc (z := (.agg #[.int .i64 0, .slice none 0 0, .slice none 0 0, .slice none 0 0, .slice none 0 0, .int .i64 0, .slice none 0 0, .slice none 0 0, .slice none 0 0, .slice none 0 0, .slice none 0 0, .slice none 0 0])) (cs := [.int .i64 0, .slice none 0 0, .slice none 0 0, .slice none 0 0, .slice none 0 0, .int .i64 0, .slice none 0 0, .slice none 0 0, .slice none 0 0, .slice none 0 0, .slice none 0 0, .slice none 0 0]) rfl rfl rfl (fun w => by kernel_rfl) rfl ?_
  intro B8
  refine hK9 _ _ ?_
  refine g_v (.free rfl) rfl rfl (qt_assign rfl rfl) ?_
  refine g_nil ?_
  refine gk_then (hK1 _ _ ?_)
  refine gc_seq fun K10 hK10 => ?_
  refine gc_draw (by kernel_rfl) ?_
  refine gd_v (.free rfl) rfl rfl (qt_loadS (n := 0) rfl rfl Try.underlying30 rfl (by kernel_rfl) rfl) ?_
  refine gd_v (.free rfl) rfl rfl (qt_loadS (n := 1) rfl rfl Try.underlying30 rfl (by kernel_rfl) rfl) ?_
  refine gd_v (.free rfl) rfl rfl (qt_loadS (n := 2) rfl rfl Try.underlying32 rfl (by kernel_rfl) rfl) ?_
  refine gd_v (.free rfl) rfl rfl (qt_loadS (n := 0) rfl rfl Try.underlying30 rfl (by kernel_rfl) rfl) ?_
  refine gd_v (.free rfl) rfl rfl (qt_move rfl rfl) ?_
  refine gd_q (.free rfl) rfl rfl (qt_call rfl Try.func66 rfl (by decide) rfl (fun w M => l02ObjectV_any w _ _ _ (mem_rdC M h0))) ?_
  refine gd_q (.free rfl) rfl rfl (qt_call rfl Try.func65 rfl (by decide) rfl (fun w M => specTwoV_any w _ _ _ _ _ _ _ (mem_rdC M h0) (mem_rdC M e0) (mem_rdF M g0))) ?_
  refine gd_v (.free rfl) rfl rfl (qt_assign rfl rfl) ?_
  refine gd_nil ?_
  refine gk_then (hK10 _ _ ?_)
  refine gc_seq fun K11 hK11 => ?_
  refine gc_seq fun K12 hK12 => ?_
  refine gc_region ?_
  refine g_v (.free rfl) rfl rfl (qt_move rfl rfl) ?_
  refine g_v (.free rfl) rfl rfl (qt_neq rfl rfl rfl) ?_
  refine g_nil ?_
  refine gk_then (hK12 _ _ ?_)
  refine gc_cond rfl (fun hc0 => ?_) (fun hc0 => ?_)
  · try simp only [decide_eq_true_eq, decide_eq_false_iff_not, Bool.not_eq_true', Bool.not_eq_false', Bool.not_eq_eq_eq_not, Bool.not_true, Bool.not_false, ne_eq, Decidable.not_not, Classical.not_not] at hc0
    refine gc_seq fun K13 hK13 => ?_
    refine gc_region ?_
    refine g_v (.free rfl) rfl rfl (qt_build rfl rfl bt0_Functor) ?_
    refine g_v (.free rfl) rfl rfl (qt_move rfl rfl) ?_
    refine g_op (.free rfl) fun K14 hK14 => ?_
    refine go_storeS (n := 3) rfl rfl rfl rfl (by kernel_rfl) rfl rfl rfl ?_
    refine hK14 _ _ ?_
    refine g_v (.free rfl) rfl rfl (qt_assign rfl rfl) ?_
    refine g_nil ?_
    refine gk_then (hK13 _ _ ?_)
    refine gc_ret ?_
    refine gk_then_ret ?_
    refine ret_SI (n := 3) rfl rfl rfl Try.underlying32 rfl (by kernel_rfl) rfl (fun w M => ?_)
    rw [fx1_f hc0]; exact retFI_zero M.1
  · try simp only [decide_eq_true_eq, decide_eq_false_iff_not, Bool.not_eq_true', Bool.not_eq_false', Bool.not_eq_eq_eq_not, Bool.not_true, Bool.not_false, ne_eq, Decidable.not_not, Classical.not_not] at hc0
    refine gc_skip ?_
    refine gk_then (hK11 _ _ ?_)
    refine gc_seq fun K15 hK15 => ?_
    have hv := tvc_t hc0
    have hx := bP_t' hv.1
    have hP := hv.2
    have hx0 := hx.1; have hx1 := hx.2
    refine gc_region ?_
    refine g_v (.free rfl) rfl rfl (qt_loadS (n := 0) rfl rfl Try.underlying30 rfl (by kernel_rfl) rfl) ?_
    refine g_v (.free rfl) rfl rfl (qt_loadS (n := 1) rfl rfl Try.underlying30 rfl (by kernel_rfl) rfl) ?_
    refine g_v (.free rfl) rfl rfl (qt_loadS (n := 2) rfl rfl Try.underlying32 rfl (by kernel_rfl) rfl) ?_
    refine g_v (.free rfl) rfl rfl (qt_move rfl rfl) ?_
    refine g_op (.free rfl) fun K17 hK17 => ?_
    refine go_callFn rfl rfl rfl Try.func67 rfl (by decide) rfl (fun w M => specFix_any w _ _ _ _ _ _ _ (mem_rdC M h0) (mem_rdC M e0) (mem_rdF M g0) (hx0) (hx1) (hP)) ?_
    intro fx1_16 fk1_16 fx2_16 fk2_16 fx3_16 fk3_16 fx4_16 fk4_16 fx5_16 fk5_16 fx6_16 fk6_16 fx7_16 fk7_16 fx8_16 fk8_16 fx9_16 fk9_16 fx10_16 fk10_16 us16 ut16
    refine hK17 _ _ ?_
    refine g_op (.free rfl) fun K18 hK18 => ?_
    refine go_storeS (n := 3) rfl rfl rfl rfl (by kernel_rfl) rfl rfl rfl ?_
    refine hK18 _ _ ?_
    refine g_v (.free rfl) rfl rfl (qt_assign rfl rfl) ?_
    refine g_nil ?_
    refine gk_then (hK15 _ _ ?_)
    refine gc_ret ?_
    refine ret_SI (n := 3) rfl rfl rfl Try.underlying32 rfl (by kernel_rfl) rfl (fun w M => ?_)
    try simp only [List.nil_append, List.cons_append, List.append_assoc, List.set_cons_succ, List.set_cons_zero] at M
    rw [fx1_t hc0]; exact retFI_star (F := fix1 A B F x) (mem_block 4 10 (M))

set_option maxHeartbeats 4000000 in
set_option maxRecDepth 100000 in
theorem spec_FixSecond (w : World) (v : Value) (A : Cat) (u : Value) (B : Cat) (t : Value) (F : Fct) (y : Int) (h : RdC w v A) (e : RdC w u B) (g : RdF w t F) :
    Calls Try.prog 24 #[v, u, t, .int .i64 y] w (RetFI w (fFixSecond A B F y).1 (fFixSecond A B F y).2) := by
  have h0 := h
  obtain ⟨va, vb, vc, vd, ve, vf, vg, vh, rfl, h1, h2, h3, h4, _⟩ := h.lists
  have e0 := e
  obtain ⟨ua, ub, uc, ud, ue, uf, ug, uh, rfl, e1, e2, e3, e4, _⟩ := e.lists
  have g0 := g
  obtain ⟨tx1, tx2, tx3, tx4, tx5, tx6, tx7, tx8, tx9, tx10, tk1, tk2, tk3, tk4, tk5, tk6, tk7, tk8, tk9, tk10, rfl, g1, g2, g3, g4, g5, g6, g7, g8, g9, g10⟩ := g.lists
  go_enter Try.func24, Try.ntmps24
  refine gc_enter (N := 78) rfl (look_cons (k := 0) rfl (look_cons (k := 1) rfl (look_cons (k := 2) rfl (look_cons (k := 3) rfl (look_nil _))))) ?_
  refine gc_seq fun K1 hK1 => ?_
  refine gc_region ?_
  refine g_op (.free rfl) fun K3 hK3 => ?_
  refine go_box rfl rfl rfl rfl rfl ?_
  intro B2
  refine hK3 _ _ ?_
  refine g_op (.free rfl) fun K5 hK5 => ?_
  refine go_box rfl rfl rfl rfl rfl ?_
  intro B4
  refine hK5 _ _ ?_
  refine g_op (.free rfl) fun K7 hK7 => ?_
  refine go_box rfl rfl rfl rfl rfl ?_
  intro B6
  refine hK7 _ _ ?_
  refine g_op (.free rfl) fun K9 hK9 => ?_
  refine go_alloc (z := (.agg #[.int .i64 0, .slice none 0 0, .slice none 0 0, .slice none 0 0, .slice none 0 0, .int .i64 0, .slice none 0 0, .slice none 0 0, .slice none 0 0, .slice none 0 0, .slice none 0 0, .slice none 0 0])) (cs := [.int .i64 0, .slice none 0 0, .slice none 0 0, .slice none 0 0, .slice none 0 0, .int .i64 0, .slice none 0 0, .slice none 0 0, .slice none 0 0, .slice none 0 0, .slice none 0 0, .slice none 0 0]) rfl rfl rfl (fun w => by kernel_rfl) rfl ?_
  intro B8
  refine hK9 _ _ ?_
  refine g_v (.free rfl) rfl rfl (qt_assign rfl rfl) ?_
  refine g_nil ?_
  refine gk_then (hK1 _ _ ?_)
  refine gc_seq fun K10 hK10 => ?_
  refine gc_draw (by kernel_rfl) ?_
  refine gd_v (.free rfl) rfl rfl (qt_loadS (n := 0) rfl rfl Try.underlying30 rfl (by kernel_rfl) rfl) ?_
  refine gd_v (.free rfl) rfl rfl (qt_loadS (n := 1) rfl rfl Try.underlying30 rfl (by kernel_rfl) rfl) ?_
  refine gd_v (.free rfl) rfl rfl (qt_loadS (n := 2) rfl rfl Try.underlying32 rfl (by kernel_rfl) rfl) ?_
  refine gd_v (.free rfl) rfl rfl (qt_loadS (n := 1) rfl rfl Try.underlying30 rfl (by kernel_rfl) rfl) ?_
  refine gd_v (.free rfl) rfl rfl (qt_move rfl rfl) ?_
  refine gd_q (.free rfl) rfl rfl (qt_call rfl Try.func66 rfl (by decide) rfl (fun w M => l02ObjectV_any w _ _ _ (mem_rdC M e0))) ?_
  refine gd_q (.free rfl) rfl rfl (qt_call rfl Try.func65 rfl (by decide) rfl (fun w M => specTwoV_any w _ _ _ _ _ _ _ (mem_rdC M h0) (mem_rdC M e0) (mem_rdF M g0))) ?_
  refine gd_v (.free rfl) rfl rfl (qt_assign rfl rfl) ?_
  refine gd_nil ?_
  refine gk_then (hK10 _ _ ?_)
  refine gc_seq fun K11 hK11 => ?_
  refine gc_seq fun K12 hK12 => ?_
  refine gc_region ?_
  refine g_v (.free rfl) rfl rfl (qt_move rfl rfl) ?_
  refine g_v (.free rfl) rfl rfl (qt_neq rfl rfl rfl) ?_
  refine g_nil ?_
  refine gk_then (hK12 _ _ ?_)
  refine gc_cond rfl (fun hc0 => ?_) (fun hc0 => ?_)
  · try simp only [decide_eq_true_eq, decide_eq_false_iff_not, Bool.not_eq_true', Bool.not_eq_false', Bool.not_eq_eq_eq_not, Bool.not_true, Bool.not_false, ne_eq, Decidable.not_not, Classical.not_not] at hc0
    refine gc_seq fun K13 hK13 => ?_
    refine gc_region ?_
    refine g_v (.free rfl) rfl rfl (qt_build rfl rfl bt0_Functor) ?_
    refine g_v (.free rfl) rfl rfl (qt_move rfl rfl) ?_
    refine g_op (.free rfl) fun K14 hK14 => ?_
    refine go_storeS (n := 3) rfl rfl rfl rfl (by kernel_rfl) rfl rfl rfl ?_
    refine hK14 _ _ ?_
    refine g_v (.free rfl) rfl rfl (qt_assign rfl rfl) ?_
    refine g_nil ?_
    refine gk_then (hK13 _ _ ?_)
    refine gc_ret ?_
    refine gk_then_ret ?_
    refine ret_SI (n := 3) rfl rfl rfl Try.underlying32 rfl (by kernel_rfl) rfl (fun w M => ?_)
    rw [fx2_f hc0]; exact retFI_zero M.1
  · try simp only [decide_eq_true_eq, decide_eq_false_iff_not, Bool.not_eq_true', Bool.not_eq_false', Bool.not_eq_eq_eq_not, Bool.not_true, Bool.not_false, ne_eq, Decidable.not_not, Classical.not_not] at hc0
    refine gc_skip ?_
    refine gk_then (hK11 _ _ ?_)
    refine gc_seq fun K15 hK15 => ?_
    have hv := tvc_t hc0
    have hx := bP_t' hv.1
    have hP := hv.2
    have hx0 := hx.1; have hx1 := hx.2
    have hL := tvL hP
    have a0 := hL.a0; have a8 := hL.a8; have an := hL.an; have ae := hL.ae; have b0 := hL.b0; have b8 := hL.b8; have bn := hL.bn; have be := hL.be; have fo := hL.fo; have fa := hL.fa
    have faI : (F.a.length : Int) = (A.s.length : Int) * (B.s.length : Int) := by rw [fa, Int.natCast_mul]
    have hid := hL.ib y hx0 hx1
    have hi0 := hid.1; have hi1 := hid.2
    refine gc_region ?_
    refine g_op (.free rfl) fun K17 hK17 => ?_
    refine go_slice0 rfl rfl rfl Try.underlying22 ?_
    intro B16
    refine hK17 _ _ ?_
    refine g_op (.free rfl) fun K19 hK19 => ?_
    refine go_slice0 rfl rfl rfl Try.underlying22 ?_
    intro B18
    refine hK19 _ _ ?_
    refine g_v (.free rfl) rfl rfl (qt_assign rfl rfl) ?_
    refine g_v (.free rfl) rfl rfl (qt_assign rfl rfl) ?_
    refine g_nil ?_
    refine gk_then (hK15 _ _ ?_)
    refine gc_seq fun K20 hK20 => ?_
    refine gc_seq fun K21 hK21 => ?_
    refine gc_region ?_
    refine g_v (.free rfl) rfl rfl (qt_assign rfl rfl) ?_
    refine g_nil ?_
    refine gk_then (hK21 _ _ ?_)
    refine gc_block ?_
    try simp only [List.nil_append, List.cons_append, List.append_assoc, List.set_cons_succ, List.set_cons_zero]
    refine gc_loop ([(0, _), (1, _), (2, _), (3, _), (4, _), (5, _), (6, _), (8, _), (9, _), (10, _), (12, _), (23, _)] : Env) (fun s : Nat × (Option Addr) × Nat => (fun (k : Nat) (a : Option Addr) (q : Nat) => ([(11, .slice a (tabTo (fun x : Nat => at0 F.o ((x : Int) * B.ob + y)) k).length q), (13, .int .i64 (k : Int))] : Env)) s.1 s.2.1 s.2.2) (fun s : Nat × (Option Addr) × Nat => (fun (k : Nat) (a : Option Addr) (q : Nat) => ([(4, own1I (.slice a (tabTo (fun x : Nat => at0 F.o ((x : Int) * B.ob + y)) k).length q) (tabTo (fun x : Nat => at0 F.o ((x : Int) * B.ob + y)) k))] : List (Nat × Itm))) s.1 s.2.1 s.2.2) (fun s : Nat × (Option Addr) × Nat => (fun (k : Nat) (a : Option Addr) (q : Nat) => (k : Int) ≤ A.ob) s.1 s.2.1 s.2.2) (fun s : Nat × (Option Addr) × Nat => (fun (k : Nat) (a : Option Addr) (q : Nat) => A.ob.toNat - k) s.1 s.2.1 s.2.2) (0, _, _) (sub_cons rfl (sub_cons rfl (sub_cons rfl (sub_cons rfl (sub_cons rfl (sub_cons rfl (sub_cons rfl (sub_cons rfl (sub_cons rfl (sub_cons rfl (sub_cons rfl (sub_cons rfl (sub_cons rfl (sub_cons rfl sub_nil)))))))))))))) rfl (by omega) ?_
    rintro ⟨k, a, q⟩ hinv KL22 hKL22
    simp only [updL, List.foldl_cons, List.foldl_nil, List.set_cons_succ, List.set_cons_zero, List.cons_append, List.nil_append] at hinv hKL22 ⊢
    have hk := hinv
    have hl1 := tabTo_len (fun x : Nat => at0 F.o ((x : Int) * B.ob + y)) k
    refine gc_seq fun K23 hK23 => ?_
    refine gc_seq fun K24 hK24 => ?_
    refine gc_region ?_
    refine g_v (.free rfl) rfl rfl (qt_move rfl rfl) ?_
    refine g_v (.free rfl) rfl rfl (qt_field (z := 0) (off := 0) rfl rfl Try.underlying30 rfl (by kernel_rfl) rfl) ?_
    refine g_v (.free rfl) rfl rfl (qt_loadB (n := 0) rfl rfl Try.underlying2 rfl rfl rfl) ?_
    refine g_v (.free rfl) rfl rfl (qt_lss rfl rfl rfl) ?_
    refine g_nil ?_
    refine gk_then (hK24 _ _ ?_)
    refine gc_cond rfl (fun hc1 => ?_) (fun hc1 => ?_)
    · try simp only [decide_eq_true_eq, decide_eq_false_iff_not, Bool.not_eq_true', Bool.not_eq_false', Bool.not_eq_eq_eq_not, Bool.not_true, Bool.not_false, ne_eq, Decidable.not_not, Classical.not_not] at hc1
      refine gc_skip ?_
      refine gk_then (hK23 _ _ ?_)
      refine gc_seq fun K25 hK25 => ?_
      refine gc_block ?_
      have hm := mul_bnd (x := (k : Int)) (n := B.ob) (by omega) (by omega) (by omega) (by omega)
      have hm0 := hm.1; have hm1 := hm.2
      have hI := mul_in (x := (k : Int)) (y := y) (a := A.ob) (b := B.ob) (by omega) (by omega) (by omega) (by omega)
      have hI0 := hI.1; have hI1 := hI.2
      refine gc_region ?_
      refine g_v (.free rfl) rfl rfl (qt_move rfl rfl) ?_
      refine g_v (.free rfl) rfl rfl (qt_field (z := 0) (off := 10) rfl rfl Try.underlying32 rfl (by kernel_rfl) rfl) ?_
      refine g_v (.free rfl) rfl rfl (qt_loadB (n := 2) rfl rfl Try.underlying22 rfl rfl rfl) ?_
      refine g_v (.free rfl) rfl rfl (qt_move rfl rfl) ?_
      refine g_v (.free rfl) rfl rfl (qt_field (z := 0) (off := 0) rfl rfl Try.underlying30 rfl (by kernel_rfl) rfl) ?_
      refine g_v (.free rfl) rfl rfl (qt_loadB (n := 1) rfl rfl Try.underlying2 rfl rfl rfl) ?_
      refine g_v (.free rfl) rfl rfl (qt_mul rfl rfl rfl (by omega)) ?_
      refine g_v (.free rfl) rfl rfl (qt_move rfl rfl) ?_
      refine g_v (.free rfl) rfl rfl (qt_add rfl rfl rfl (by omega)) ?_
      refine g_v (.free rfl) rfl rfl (qt_index rfl rfl rfl ulE1 szE1 (fun w M => lenA_rd g9) (by omega) (by omega)) ?_
      refine g_v (.free rfl) rfl rfl (qt_load1 rfl rfl Try.underlying2 rfl (fun w M => mem_rd M g9) (by omega) (by omega)) ?_
      refine g_op (.free rfl) fun K27 hK27 => ?_
      refine go_slice1 rfl rfl rfl rfl Try.underlying22 ?_
      intro B26
      refine hK27 _ _ ?_
      refine g_op (.free rfl) fun K29 hK29 => ?_
      refine go_append (n := 4) (m := 6) rfl rfl rfl Try.underlying22 rfl rfl rfl rfl (by omega) ?_
      intro va28 vc28
      refine hK29 _ _ ?_
      refine g_v (.free rfl) rfl rfl (qt_assign rfl rfl) ?_
      refine g_nil ?_
      refine gk_block ?_
      refine gk_then (hK25 _ _ ?_)
      refine gc_region ?_
      refine g_v (.free rfl) rfl rfl (qt_move rfl rfl) ?_
      refine g_v (.free rfl) rfl rfl (qt_add rfl rfl rfl (by omega)) ?_
      refine g_v (.free rfl) rfl rfl (qt_assign rfl rfl) ?_
      refine g_nil ?_
      simp only [tabTo_succ (fun x : Nat => at0 F.o ((x : Int) * B.ob + y))]
      refine gk_then (gk_take 6 ?_)
      refine gk_sub ?hs_30 (hKL22 (k + 1, _, _) ?hi_30 ?hm_30)
      case hs_30 => exact (sub_cons rfl (sub_cons rfl (sub_cons rfl (sub_cons rfl (sub_cons rfl (sub_cons rfl (sub_cons rfl (sub_cons rfl (sub_cons rfl (sub_cons rfl (sub_cons rfl (sub_cons rfl (sub_cons rfl (sub_cons rfl sub_nil))))))))))))))
      case hi_30 => omega
      case hm_30 => omega
    · try simp only [decide_eq_true_eq, decide_eq_false_iff_not, Bool.not_eq_true', Bool.not_eq_false', Bool.not_eq_eq_eq_not, Bool.not_true, Bool.not_false, ne_eq, Decidable.not_not, Classical.not_not] at hc1
      refine gc_exit ?_
      refine gk_then_exit ?_
      refine gk_then_exit ?_
      refine gk_block_hit ?_
      refine gk_then (hK20 _ _ ?_)
      refine gc_seq fun K31 hK31 => ?_
      refine gc_seq fun K32 hK32 => ?_
      obtain rfl : k = A.ob.toNat := by omega
      refine gc_region ?_
      refine g_v (.free rfl) rfl rfl (qt_assign rfl rfl) ?_
      refine g_nil ?_
      refine gk_then (hK32 _ _ ?_)
      refine gc_block ?_
      try simp only [List.nil_append, List.cons_append, List.append_assoc, List.set_cons_succ, List.set_cons_zero]
      refine gc_loop ([(0, _), (1, _), (2, _), (3, _), (4, _), (5, _), (6, _), (8, _), (9, _), (10, _), (11, _), (13, _), (23, _), (31, _)] : Env) (fun s : Nat × (Option Addr) × Nat => (fun (k : Nat) (a : Option Addr) (q : Nat) => ([(12, .slice a (tabTo (fun u : Nat => at0 F.a ((u : Int) * (B.s.length : Int) + at0 B.e y)) k).length q), (14, .int .i64 (k : Int))] : Env)) s.1 s.2.1 s.2.2) (fun s : Nat × (Option Addr) × Nat => (fun (k : Nat) (a : Option Addr) (q : Nat) => ([(5, own1I (.slice a (tabTo (fun u : Nat => at0 F.a ((u : Int) * (B.s.length : Int) + at0 B.e y)) k).length q) (tabTo (fun u : Nat => at0 F.a ((u : Int) * (B.s.length : Int) + at0 B.e y)) k))] : List (Nat × Itm))) s.1 s.2.1 s.2.2) (fun s : Nat × (Option Addr) × Nat => (fun (k : Nat) (a : Option Addr) (q : Nat) => (k : Int) ≤ (A.s.length : Int)) s.1 s.2.1 s.2.2) (fun s : Nat × (Option Addr) × Nat => (fun (k : Nat) (a : Option Addr) (q : Nat) => A.s.length - k) s.1 s.2.1 s.2.2) (0, _, _) (sub_cons rfl (sub_cons rfl (sub_cons rfl (sub_cons rfl (sub_cons rfl (sub_cons rfl (sub_cons rfl (sub_cons rfl (sub_cons rfl (sub_cons rfl (sub_cons rfl (sub_cons rfl (sub_cons rfl (sub_cons rfl (sub_cons rfl (sub_cons rfl sub_nil)))))))))))))))) rfl (by omega) ?_
      rintro ⟨k, a, q⟩ hinv KL33 hKL33
      simp only [updL, List.foldl_cons, List.foldl_nil, List.set_cons_succ, List.set_cons_zero, List.cons_append, List.nil_append] at hinv hKL33 ⊢
      have hk := hinv
      have hl1 := tabTo_len (fun u : Nat => at0 F.a ((u : Int) * (B.s.length : Int) + at0 B.e y)) k
      refine gc_seq fun K34 hK34 => ?_
      refine gc_seq fun K35 hK35 => ?_
      refine gc_region ?_
      refine g_v (.free rfl) rfl rfl (qt_move rfl rfl) ?_
      refine g_v (.free rfl) rfl rfl (qt_field (z := 0) (off := 1) rfl rfl Try.underlying30 rfl (by kernel_rfl) rfl) ?_
      refine g_v (.free rfl) rfl rfl (qt_loadB (n := 0) rfl rfl Try.underlying22 rfl rfl rfl) ?_
      refine g_v (.free rfl) rfl rfl (qt_len rfl rfl ulE1 (fun w M => lenV_rd h1)) ?_
      refine g_v (.free rfl) rfl rfl (qt_lss rfl rfl rfl) ?_
      refine g_nil ?_
      refine gk_then (hK35 _ _ ?_)
      refine gc_cond rfl (fun hc2 => ?_) (fun hc2 => ?_)
      · try simp only [decide_eq_true_eq, decide_eq_false_iff_not, Bool.not_eq_true', Bool.not_eq_false', Bool.not_eq_eq_eq_not, Bool.not_true, Bool.not_false, ne_eq, Decidable.not_not, Classical.not_not] at hc2
        refine gc_skip ?_
        refine gk_then (hK34 _ _ ?_)
        refine gc_seq fun K36 hK36 => ?_
        refine gc_block ?_
        have hm := mul_bnd (x := (k : Int)) (n := (B.s.length : Int)) (by omega) (by omega) (by omega) (by omega)
        have hm0 := hm.1; have hm1 := hm.2
        have hI := mul_in (x := (k : Int)) (y := (at0 B.e y)) (a := (A.s.length : Int)) (b := (B.s.length : Int)) (by omega) (by omega) (by omega) (by omega)
        have hI0 := hI.1; have hI1 := hI.2
        try simp only [List.nil_append, List.cons_append, List.append_assoc, List.set_cons_succ, List.set_cons_zero]
        refine ga_start _ (fun w M => mem_erase 5 (M)) ?_
        refine ga_v 0 rfl (by kernel_rfl) (by kernel_rfl) (by kernel_rfl) (.free rfl) rfl rfl (qt_move rfl rfl) (fun _ _ _ h => h) ?_
        refine ga_v 1 rfl (by kernel_rfl) (by kernel_rfl) (by kernel_rfl) (.free rfl) rfl rfl (qt_field (z := 0) (off := 11) rfl rfl Try.underlying32 rfl (by kernel_rfl) rfl) (fun _ _ _ h => h) ?_
        refine ga_v 2 rfl (by kernel_rfl) (by kernel_rfl) (by kernel_rfl) (.free rfl) rfl rfl (qt_loadB (n := 2) rfl rfl Try.underlying22 rfl rfl rfl) (fun _ _ _ h => h) ?_
        refine ga_v 3 rfl (by kernel_rfl) (by kernel_rfl) (by kernel_rfl) (.free rfl) rfl rfl (qt_move rfl rfl) (fun _ _ _ h => h) ?_
        refine ga_v 4 rfl (by kernel_rfl) (by kernel_rfl) (by kernel_rfl) (.free rfl) rfl rfl (qt_field (z := 0) (off := 1) rfl rfl Try.underlying30 rfl (by kernel_rfl) rfl) (fun _ _ _ h => h) ?_
        refine ga_v 5 rfl (by kernel_rfl) (by kernel_rfl) (by kernel_rfl) (.free rfl) rfl rfl (qt_loadB (n := 1) rfl rfl Try.underlying22 rfl rfl rfl) (fun _ _ _ h => h) ?_
        refine ga_v 6 rfl (by kernel_rfl) (by kernel_rfl) (by kernel_rfl) (.free rfl) rfl rfl (qt_len rfl rfl ulE1 (fun w M => lenV_rd e1)) (fun _ _ _ h => h) ?_
        refine ga_v 7 rfl (by kernel_rfl) (by kernel_rfl) (by kernel_rfl) (.free rfl) rfl rfl (qt_mul rfl rfl rfl (by omega)) (fun _ _ _ h => h) ?_
        refine ga_v 8 rfl (by kernel_rfl) (by kernel_rfl) (by kernel_rfl) (.free rfl) rfl rfl (qt_field (z := 0) (off := 3) rfl rfl Try.underlying30 rfl (by kernel_rfl) rfl) (fun _ _ _ h => h) ?_
        refine ga_v 9 rfl (by kernel_rfl) (by kernel_rfl) (by kernel_rfl) (.free rfl) rfl rfl (qt_loadB (n := 1) rfl rfl Try.underlying22 rfl rfl rfl) (fun _ _ _ h => h) ?_
        refine ga_v 10 rfl (by kernel_rfl) (by kernel_rfl) (by kernel_rfl) (.free rfl) rfl rfl (qt_move rfl rfl) (fun _ _ _ h => h) ?_
        refine ga_v 11 rfl (by kernel_rfl) (by kernel_rfl) (by kernel_rfl) (.free rfl) rfl rfl (qt_index rfl rfl rfl ulE1 szE1 (fun w M => lenA_rd e3) (by omega) (by omega)) (fun _ _ _ h => h) ?_
        refine ga_v 12 rfl (by kernel_rfl) (by kernel_rfl) (by kernel_rfl) (.free rfl) rfl rfl (qt_load1 rfl rfl Try.underlying2 rfl (fun w M => mem_rd M e3) (by omega) (by omega)) (fun _ _ _ h => h) ?_
        refine ga_v 13 rfl (by kernel_rfl) (by kernel_rfl) (by kernel_rfl) (.free rfl) rfl rfl (qt_add rfl rfl rfl (by omega)) (fun _ _ _ h => h) ?_
        refine ga_v 14 rfl (by kernel_rfl) (by kernel_rfl) (by kernel_rfl) (.free rfl) rfl rfl (qt_index rfl rfl rfl ulE1 szE1 (fun w M => lenA_rd g10) (by omega) (by omega)) (fun _ _ _ h => h) ?_
        refine ga_v 15 rfl (by kernel_rfl) (by kernel_rfl) (by kernel_rfl) (.free rfl) rfl rfl (qt_load1 rfl rfl Try.underlying2 rfl (fun w M => mem_rd M g10) (by omega) (by omega)) (fun _ _ _ h => h) ?_
        refine ga_op 16 (by kernel_rfl) rfl (.free rfl) fun K38 hK38 => ?_
        refine go_slice1 rfl rfl rfl rfl Try.underlying22 ?_
        intro B37
        refine hK38 _ _ (fun w M => (mem_erase 5 (mem_take 6 M) :)) ?_
        refine ga_op 17 (by kernel_rfl) rfl (.free rfl) fun K40 hK40 => ?_
        refine go_append (n := 5) (m := 6) rfl rfl rfl Try.underlying22 rfl rfl rfl rfl (by omega) ?_
        intro va39 vc39
        refine hK40 _ _ (fun w M => (mem_erase 5 (mem_take 6 M) :)) ?_
        refine ga_v 18 rfl (by kernel_rfl) (by kernel_rfl) (by kernel_rfl) (.free rfl) rfl rfl (qt_assign rfl rfl) (fun _ _ _ h => h) ?_
        refine ga_done (by kernel_rfl) ?_
        refine gk_block ?_
        refine gk_then (hK36 _ _ ?_)
        refine gc_region ?_
        refine g_v (.free rfl) rfl rfl (qt_move rfl rfl) ?_
        refine g_v (.free rfl) rfl rfl (qt_add rfl rfl rfl (by omega)) ?_
        refine g_v (.free rfl) rfl rfl (qt_assign rfl rfl) ?_
        refine g_nil ?_
        simp only [tabTo_succ (fun u : Nat => at0 F.a ((u : Int) * (B.s.length : Int) + at0 B.e y))]
        refine gk_then (gk_take 6 ?_)
        refine gk_sub ?hs_41 (hKL33 (k + 1, _, _) ?hi_41 ?hm_41)
        case hs_41 => exact (sub_cons rfl (sub_cons rfl (sub_cons rfl (sub_cons rfl (sub_cons rfl (sub_cons rfl (sub_cons rfl (sub_cons rfl (sub_cons rfl (sub_cons rfl (sub_cons rfl (sub_cons rfl (sub_cons rfl (sub_cons rfl (sub_cons rfl (sub_cons rfl sub_nil))))))))))))))))
        case hi_41 => omega
        case hm_41 => omega
      · try simp only [decide_eq_true_eq, decide_eq_false_iff_not, Bool.not_eq_true', Bool.not_eq_false', Bool.not_eq_eq_eq_not, Bool.not_true, Bool.not_false, ne_eq, Decidable.not_not, Classical.not_not] at hc2
        refine gc_exit ?_
        refine gk_then_exit ?_
        refine gk_then_exit ?_
        refine gk_block_hit ?_
        refine gk_then (hK31 _ _ ?_)
        refine gc_seq fun K42 hK42 => ?_
        obtain rfl : k = A.s.length := by omega
        refine gc_region ?_
        refine g_v (.free rfl) rfl rfl (qt_loadS (n := 0) rfl rfl Try.underlying30 rfl (by kernel_rfl) rfl) ?_
        refine g_v (.free rfl) rfl rfl (qt_field (z := 4) (off := 5) rfl rfl Try.underlying32 rfl (by kernel_rfl) rfl) ?_
        refine g_v (.free rfl) rfl rfl (qt_loadP (n := 2) (z := 5) rfl rfl Try.underlying30 rfl (by kernel_rfl) rfl (by first | decide | exact Nat.le_refl _ | simp)) ?_
        refine g_v (.free rfl) rfl rfl (qt_move rfl rfl) ?_
        refine g_v (.free rfl) rfl rfl (qt_move rfl rfl) ?_
        refine g_op (.free rfl) fun K44 hK44 => ?_
        refine go_callFn rfl rfl rfl Try.func75 rfl (by decide) rfl (fun w M => specMakeF_any w _ _ (mem_rdC M h0) _ _ (rdC_mk (mem_rd M g5) (mem_rd M g6) (mem_rd M g7) (mem_rd2 M g8)) _ _ _ _ ((mem_own1 (n := 4) M rfl).rd) ((mem_own1 (n := 5) M rfl).rd)) ?_
        intro fx1_43 fk1_43 fx2_43 fk2_43 fx3_43 fk3_43 fx4_43 fk4_43 fx5_43 fk5_43 fx6_43 fk6_43 fx7_43 fk7_43 fx8_43 fk8_43 fx9_43 fk9_43 fx10_43 fk10_43 us43 ut43
        refine hK44 _ _ ?_
        refine g_op (.free rfl) fun K45 hK45 => ?_
        refine go_storeS (n := 3) rfl rfl rfl rfl (by kernel_rfl) rfl rfl rfl ?_
        refine hK45 _ _ ?_
        refine g_v (.free rfl) rfl rfl (qt_assign rfl rfl) ?_
        refine g_nil ?_
        refine gk_then (hK42 _ _ ?_)
        refine gc_ret ?_
        refine ret_SI (n := 3) rfl rfl rfl Try.underlying32 rfl (by kernel_rfl) rfl (fun w M => ?_)
        try simp only [List.nil_append, List.cons_append, List.append_assoc, List.set_cons_succ, List.set_cons_zero] at M
        rw [fx2_t hc0]; exact retFI_star (F := fix2 A B F y) (mem_block 6 10 (M))

end Go.Proofs.Ytfnneogadciimab
