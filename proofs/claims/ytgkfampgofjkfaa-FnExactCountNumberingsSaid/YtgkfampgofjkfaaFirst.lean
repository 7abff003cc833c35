
/- The first fault of a shape, and what a category is: the program's and the model's. -/
import Derived.Test.YtgkfampgofjkfaaShort
import Derived.Test.YtgkfampgofjkfaaRul4
import Derived.Test.YtgkfampgofjkfaaHasC
import Derived.Test.YtgkfampgofjkfaaShape
import Derived.Test.YtgkfampgofjkfaaSFault
import Derived.Test.YtgkfampgofjkfaaFault
set_option linter.unusedSimpArgs false
set_option linter.unusedVariables false
set_option linter.unusedSectionVars false
namespace Go.Proofs.Ytgkfampgofjkfaa
open Go.RowKit


def RetIIIII (W : World) (a b d f g : Int) (e : Ending) (w' : World) : Prop := e = .returned (.tuple #[.int .i64 a, .int .i64 b, .int .i64 d, .int .i64 f, .int .i64 g]) ∧ Below W.heap.size W w'
theorem idFP_of {c : Cat} {k f g h : Int} (hp : FaultP c k f g h) : (k = 1 ∧ g = 0 ∧ h = 0 ∧ IdFP c 1 f) ∨ (IdFP c 0 0 ∧ AsP c k f g h) := by
 cases hp with
 | id m hm => exact .inl ⟨rfl, rfl, rfl, .inl ⟨rfl, m, rfl, hm.1, hm.2.1, hm.2.2⟩⟩
 | asc a b d h0 h1 => exact .inr ⟨.inr ⟨rfl, rfl, h0⟩, .asc a b d h1⟩
 | no h0 h1 => exact .inr ⟨.inr ⟨rfl, rfl, h0⟩, .no h1⟩
theorem shape_iff {c : Cat} : fIsShape c = true ↔ ShapeP c := bP_iff
theorem shape_no {c : Cat} (h : fIsShape c = false) : ¬ ShapeP c := fun h' => by rw [shape_iff.2 h'] at h; cases h
theorem fFirst_t {c : Cat} (h : fIsShape c = true) : fFirstFault c = ((faultOf c).1, (faultOf c).2.1, (faultOf c).2.2.1, (faultOf c).2.2.2, 0) := by unfold fFirstFault; rw [if_pos h]
theorem fFirst_f {c : Cat} (h : fIsShape c = false) : fFirstFault c = (0, 0, 0, 0, 1) := by unfold fFirstFault; rw [if_neg (by rw [h]; decide)]
theorem isCat_t {c : Cat} (h : fIsShape c = true) (h' : (faultOf c).1 = 0) : fIsCategory c = true := bP_t (isCat_iff.2 ⟨shape_iff.1 h, h'⟩)
theorem isCat_f {c : Cat} (h : fIsShape c = false ∨ (faultOf c).1 ≠ 0) : fIsCategory c = false := bP_f fun hc => by
 obtain ⟨h1, h2⟩ := isCat_iff.1 hc
 rcases h with h | h
 ·exact shape_no h h1
 ·exact h h2
theorem fault_z {c : Cat} (h : (faultOf c).1 = 0) : (faultOf c).2.1 = 0 ∧ (faultOf c).2.2.1 = 0 ∧ (faultOf c).2.2.2 = 0 := by
 have hz := fault_zero.1 h
 rw [fault_no hz.1 hz.2]
 exact ⟨rfl, rfl, rfl⟩

set_option maxHeartbeats 1000000 in
set_option maxRecDepth 100000 in
theorem implFault_id (w : World) (v : Value) (c : Cat) (f : Int) (h : RdC w v c) (hS : ShapeP c) (hP : IdFP c 1 f) :
  Calls Try.prog 94 #[v] w (RetF w 1 f 0 0) := by
 have h0 := h
 obtain ⟨va, vb, vc, vd, ve, vf, vg, vh, rfl, h1, h2, h3, h4, _⟩ := h.lists
 go_enter Try.func94, Try.ntmps94
 refine gc_enter (N := 12) rfl (look_cons (k := 0) rfl (look_nil _)) ?_
 refine gc_sr fun K1 hK1 => ?_
 refine gop fun K3 hK3 => ?_
 refine go_box rfl rfl rfl rfl rfl ?_
 intro B2
 refine hK3 _ _ ?_
 refine gop fun K5 hK5 => ?_
 refine go_alloc (z := (.agg #[.int .i64 0, .int .i64 0, .int .i64 0, .int .i64 0])) (cs := [.int .i64 0, .int .i64 0, .int .i64 0, .int .i64 0]) rfl rfl rfl (fun w => by kernel_rfl) rfl ?_
 intro B4
 refine hK5 _ _ ?_
 refine gnt (hK1 _ _ ?_)
 refine gc_seq fun K6 hK6 => ?_
 refine gc_sr fun K7 hK7 => ?_
 refine gv (qts Try.underlying27 (n := 0)) ?_
 refine g_q (.free rfl) rfl rfl (qt_call rfl Try.func105 rfl (by decide) rfl (fun w M => idFault_any w _ _ _ _ (mem_rdC M h0) (hS) (hP))) ?_
 refine gop fun K9 hK9 => ?_
 refine go_alloc (z := (.agg #[.int .i64 0, .int .i64 0, .int .i64 0, .int .i64 0])) (cs := [.int .i64 0, .int .i64 0, .int .i64 0, .int .i64 0]) rfl rfl rfl (fun w => by kernel_rfl) rfl ?_
 intro B8
 refine hK9 _ _ ?_
 refine gop fun K10 hK10 => ?_
 refine go_storeS (n := 2) rfl rfl rfl rfl (by kernel_rfl) rfl rfl rfl ?_
 refine hK10 _ _ ?_
 refine gnt (hK7 _ _ ?_)
 refine gc_sr fun K11 hK11 => ?_
 refine gv (qts Try.underlying106 (n := 2)) ?_
 refine gv (qt_build rfl rfl bt0_fault) ?_
 refine gv (qt_neA rfl rfl rfl (fun w => eqA_fault _ _ _ _ _ _ _ _ w) eqG_fault) ?_
 refine gnt (hK11 _ _ ?_)
 refine gc_cond rfl (fun hc0 => ?_) (fun hc0 => ?_)
 ·try simp only [decide_eq_true_eq, decide_eq_false_iff_not, Bool.not_eq_true', Bool.not_eq_false', Bool.not_eq_eq_eq_not, Bool.not_true, Bool.not_false] at hc0
  refine gc_sr fun K12 hK12 => ?_
  refine gv (qts Try.underlying106 (n := 2)) ?_
  refine gop fun K13 hK13 => ?_
  refine go_storeS (n := 1) rfl rfl rfl rfl (by kernel_rfl) rfl rfl rfl ?_
  refine hK13 _ _ ?_
  refine gnt (hK12 _ _ ?_)
  refine gc_ret ?_
  refine gk_then_ret ?_
  refine ret_S (n := 1) rfl rfl Try.underlying106 rfl (by kernel_rfl) rfl (fun w M => ?_)
  exact ⟨rfl, M.1⟩
 ·try simp only [decide_eq_true_eq, decide_eq_false_iff_not, Bool.not_eq_true', Bool.not_eq_false', Bool.not_eq_eq_eq_not, Bool.not_true, Bool.not_false] at hc0
  exact absurd hc0.1 (by decide)

set_option maxHeartbeats 1000000 in
set_option maxRecDepth 100000 in
theorem implFault_as (w : World) (v : Value) (c : Cat) (k f g q : Int) (h : RdC w v c) (hS : ShapeP c) (hP : IdFP c 0 0) (hA : AsP c k f g q) :
  Calls Try.prog 94 #[v] w (RetF w k f g q) := by
 have h0 := h
 obtain ⟨va, vb, vc, vd, ve, vf, vg, vh, rfl, h1, h2, h3, h4, _⟩ := h.lists
 go_enter Try.func94, Try.ntmps94
 refine gc_enter (N := 12) rfl (look_cons (k := 0) rfl (look_nil _)) ?_
 refine gc_sr fun K1 hK1 => ?_
 refine gop fun K3 hK3 => ?_
 refine go_box rfl rfl rfl rfl rfl ?_
 intro B2
 refine hK3 _ _ ?_
 refine gop fun K5 hK5 => ?_
 refine go_alloc (z := (.agg #[.int .i64 0, .int .i64 0, .int .i64 0, .int .i64 0])) (cs := [.int .i64 0, .int .i64 0, .int .i64 0, .int .i64 0]) rfl rfl rfl (fun w => by kernel_rfl) rfl ?_
 intro B4
 refine hK5 _ _ ?_
 refine gnt (hK1 _ _ ?_)
 refine gc_seq fun K6 hK6 => ?_
 refine gc_sr fun K7 hK7 => ?_
 refine gv (qts Try.underlying27 (n := 0)) ?_
 refine g_q (.free rfl) rfl rfl (qt_call rfl Try.func105 rfl (by decide) rfl (fun w M => idFault_any w _ _ _ _ (mem_rdC M h0) (hS) (hP))) ?_
 refine gop fun K9 hK9 => ?_
 refine go_alloc (z := (.agg #[.int .i64 0, .int .i64 0, .int .i64 0, .int .i64 0])) (cs := [.int .i64 0, .int .i64 0, .int .i64 0, .int .i64 0]) rfl rfl rfl (fun w => by kernel_rfl) rfl ?_
 intro B8
 refine hK9 _ _ ?_
 refine gop fun K10 hK10 => ?_
 refine go_storeS (n := 2) rfl rfl rfl rfl (by kernel_rfl) rfl rfl rfl ?_
 refine hK10 _ _ ?_
 refine gnt (hK7 _ _ ?_)
 refine gc_sr fun K11 hK11 => ?_
 refine gv (qts Try.underlying106 (n := 2)) ?_
 refine gv (qt_build rfl rfl bt0_fault) ?_
 refine gv (qt_neA rfl rfl rfl (fun w => eqA_fault _ _ _ _ _ _ _ _ w) eqG_fault) ?_
 refine gnt (hK11 _ _ ?_)
 refine gc_cond rfl (fun hc0 => ?_) (fun hc0 => ?_)
 ·try simp only [decide_eq_true_eq, decide_eq_false_iff_not, Bool.not_eq_true', Bool.not_eq_false', Bool.not_eq_eq_eq_not, Bool.not_true, Bool.not_false] at hc0
  simp at hc0
 ·try simp only [decide_eq_true_eq, decide_eq_false_iff_not, Bool.not_eq_true', Bool.not_eq_false', Bool.not_eq_eq_eq_not, Bool.not_true, Bool.not_false] at hc0
  refine gc_skip ?_
  refine gk_then (hK6 _ _ ?_)
  refine gc_sr fun K12 hK12 => ?_
  refine gv (qts Try.underlying27 (n := 0)) ?_
  refine g_q (.free rfl) rfl rfl (qt_call rfl Try.func106 rfl (by decide) rfl (fun w M => asFault_any w _ _ _ _ _ _ (mem_rdC M h0) (hS) (hA))) ?_
  refine gop fun K13 hK13 => ?_
  refine go_storeS (n := 1) rfl rfl rfl rfl (by kernel_rfl) rfl rfl rfl ?_
  refine hK13 _ _ ?_
  refine gnt (hK12 _ _ ?_)
  refine gc_ret ?_
  refine ret_S (n := 1) rfl rfl Try.underlying106 rfl (by kernel_rfl) rfl (fun w M => ?_)
  exact ⟨rfl, M.1⟩


theorem implFault_any (w : World) (v : Value) (c : Cat) (h : RdC w v c) (hS : ShapeP c) :
  Calls Try.prog 94 #[v] w (RetF w (faultOf c).1 (faultOf c).2.1 (faultOf c).2.2.1 (faultOf c).2.2.2) := by
 have hp := faultP_of c
 generalize (faultOf c).1 = k at hp ⊢
 generalize (faultOf c).2.1 = f at hp ⊢
 generalize (faultOf c).2.2.1 = g at hp ⊢
 generalize (faultOf c).2.2.2 = q at hp ⊢
 rcases idFP_of hp with ⟨rfl, rfl, rfl, hi⟩ | ⟨hi, ha⟩
 ·exact implFault_id w v c f h hS hi
 ·exact implFault_as w v c k f g q h hS hi ha

set_option maxHeartbeats 1000000 in
set_option maxRecDepth 100000 in
theorem specIs_any (w : World) (v : Value) (c : Cat) (h : RdC w v c) :
  Calls Try.prog 34 #[v] w (RetB w (fIsCategory c)) := by
 have h0 := h
 obtain ⟨va, vb, vc, vd, ve, vf, vg, vh, rfl, h1, h2, h3, h4, _⟩ := h.lists
 go_enter Try.func34, Try.ntmps34
 refine gc_enter (N := 19) rfl (look_cons (k := 0) rfl (look_nil _)) ?_
 refine gc_sr fun K1 hK1 => ?_
 refine gop fun K3 hK3 => ?_
 refine go_box rfl rfl rfl rfl rfl ?_
 intro B2
 refine hK3 _ _ ?_
 refine gas ?_
 refine gnt (hK1 _ _ ?_)
 refine gc_seq fun K4 hK4 => ?_
 refine gc_sr fun K5 hK5 => ?_
 refine gv (qts Try.underlying27 (n := 0)) ?_
 refine g_q (.free rfl) rfl rfl (qt_call rfl Try.func66 rfl (by decide) rfl (fun w M => spec_IsShape w _ _ (mem_rdC M h0))) ?_
 refine gv (qt_not rfl rfl) ?_
 refine gnt (hK5 _ _ ?_)
 refine gc_cond rfl (fun hc0 => ?_) (fun hc0 => ?_)
 ·try simp only [decide_eq_true_eq, decide_eq_false_iff_not, Bool.not_eq_true', Bool.not_eq_false', Bool.not_eq_eq_eq_not, Bool.not_true, Bool.not_false] at hc0
  refine gc_sr fun K6 hK6 => ?_
  refine gas ?_
  refine gnt (hK6 _ _ ?_)
  refine gc_ret ?_
  refine gk_then_ret ?_
  refine ret_1 rfl rfl  (fun w M => ?_)
  rw [isCat_f (.inl hc0)]; exact ⟨rfl, M.1⟩
 ·try simp only [decide_eq_true_eq, decide_eq_false_iff_not, Bool.not_eq_true', Bool.not_eq_false', Bool.not_eq_eq_eq_not, Bool.not_true, Bool.not_false] at hc0
  refine gc_skip ?_
  refine gk_then (hK4 _ _ ?_)
  refine gc_sr fun K7 hK7 => ?_
  refine gv (qts Try.underlying27 (n := 0)) ?_
  refine g_q (.free rfl) rfl rfl (qt_call rfl Try.func67 rfl (by decide) rfl (fun w M => specFault_any w _ _ _ _ _ _ (mem_rdC M h0) (shape_iff.1 hc0) (faultP_of c))) ?_
  refine gm ?_
  refine gv (qt_extract rfl rfl rfl) ?_
  refine gv (qt_extract rfl rfl rfl) ?_
  refine gv (qt_extract rfl rfl rfl) ?_
  refine gv (qt_extract rfl rfl rfl) ?_
  refine gas ?_
  refine gas ?_
  refine gas ?_
  refine gas ?_
  refine gnt (hK7 _ _ ?_)
  refine gc_sr fun K8 hK8 => ?_
  refine gm ?_
  refine gv (qt_eql rfl rfl rfl) ?_
  refine gas ?_
  refine gnt (hK8 _ _ ?_)
  refine gc_ret ?_
  refine ret_1 rfl rfl  (fun w M => ?_)
  refine ⟨?_, M.1⟩; by_cases hz : (faultOf c).1 = 0
  ·rw [isCat_t hc0 hz, decide_eq_true hz]
  ·rw [isCat_f (.inr hz), decide_eq_false hz]

set_option maxHeartbeats 1000000 in
set_option maxRecDepth 100000 in
theorem impl_IsCategory (w : World) (v : Value) (c : Cat) (h : RdC w v c) :
  Calls Try.prog 71 #[v] w (RetB w (fIsCategory c)) := by
 have h0 := h
 obtain ⟨va, vb, vc, vd, ve, vf, vg, vh, rfl, h1, h2, h3, h4, _⟩ := h.lists
 go_enter Try.func71, Try.ntmps71
 refine gc_enter (N := 11) rfl (look_cons (k := 0) rfl (look_nil _)) ?_
 refine gc_sr fun K1 hK1 => ?_
 refine gop fun K3 hK3 => ?_
 refine go_box rfl rfl rfl rfl rfl ?_
 intro B2
 refine hK3 _ _ ?_
 refine gas ?_
 refine gnt (hK1 _ _ ?_)
 refine gc_sr fun K4 hK4 => ?_
 refine gv (qts Try.underlying27 (n := 0)) ?_
 refine g_q (.free rfl) rfl rfl (qt_call rfl Try.func93 rfl (by decide) rfl (fun w M => impl_IsShape w _ _ (mem_rdC M h0))) ?_
 refine g_splitv (.free rfl) rfl rfl (qt_move rfl rfl) (fun hs1_2 => ?_) (fun hs1_2 => ?_)
 ·try simp only [decide_eq_true_eq, decide_eq_false_iff_not, Bool.not_eq_true', Bool.not_eq_false', Bool.not_eq_eq_eq_not, Bool.not_true, Bool.not_false] at hs1_2
  refine gvh (qts Try.underlying27 (n := 0)) ?_
  refine g_q (.held _ _ _ rfl rfl rfl) rfl rfl (qt_call rfl Try.func94 rfl (by decide) rfl (fun w M => implFault_any w _ _ (mem_rdC M h0) (shape_iff.1 hs1_2))) ?_
  refine gvh (qt_build rfl rfl bt0_fault) ?_
  refine gvh (qt_eqA rfl rfl rfl (fun w => eqA_fault _ _ _ _ _ _ _ _ w) eqG_fault) ?_
  refine gv (qt_pick_t rfl rfl rfl) ?_
  refine gas ?_
  refine gnt (hK4 _ _ ?_)
  refine gc_ret ?_
  refine ret_1 rfl rfl  (fun w M => ?_)
  refine ⟨?_, M.1⟩
  by_cases hz : (faultOf c).1 = 0
  ·rw [isCat_t hs1_2 hz, decide_eq_true ⟨hz, (fault_z hz).1, (fault_z hz).2.1, (fault_z hz).2.2⟩]
  ·rw [isCat_f (.inr hz), decide_eq_false (fun h => hz h.1)]
 ·try simp only [decide_eq_true_eq, decide_eq_false_iff_not, Bool.not_eq_true', Bool.not_eq_false', Bool.not_eq_eq_eq_not, Bool.not_true, Bool.not_false] at hs1_2
  refine gsk ?_
  refine gsk ?_
  refine gsk ?_
  refine gsk ?_
  refine gv (qt_pick_f rfl rfl rfl) ?_
  refine gas ?_
  refine gnt (hK4 _ _ ?_)
  refine gc_ret ?_
  refine ret_1 rfl rfl  (fun w M => ?_)
  rw [isCat_f (.inl hs1_2)]; exact ⟨rfl, M.1⟩

end Go.Proofs.Ytgkfampgofjkfaa
