
/- Square tables of numbers, and categories within the limits: the model's and the program's tests. -/
import Derived.Test.YtpfcfhjpgngneabEnts
import Derived.Test.YtpfcfhjpgngneabOwnL
set_option linter.unusedSimpArgs false
set_option linter.unusedVariables false
set_option linter.unusedSectionVars false
namespace Go.Proofs.Ytpfcfhjpgngneab
open Go.RowKit


def RowOk (rows : List (List Int)) (b : Int) (i : Nat) : Prop := (row2 rows (i : Int)).length = rows.length ∧ AllP b (row2 rows (i : Int))
def SquareP (rows : List (List Int)) (b : Int) : Prop := ∀ i : Nat, i < rows.length → RowOk rows b i
theorem allP_to {b : Int} {xs : List Int} (h : ∀ j : Nat, j < xs.length → 0 ≤ at0 xs (j : Int) ∧ at0 xs (j : Int) < b) : AllP b xs := fun x hx => by
  obtain ⟨j, hj, rfl⟩ := List.getElem_of_mem hx
  have := h j hj
  rwa [at0_nat, List.getD_eq_getElem?_getD, List.getElem?_eq_getElem hj] at this
theorem allP_not {b : Int} {xs : List Int} {j : Nat} (hj : j < xs.length) (h : ¬ (0 ≤ at0 xs (j : Int) ∧ at0 xs (j : Int) < b)) : ¬ AllP b xs := fun ha => h (allP_at ha hj)
theorem sq_at {rows : List (List Int)} {b : Int} (h : SquareP rows b) {i j : Nat} (hi : i < rows.length) (hj : j < rows.length) : 0 ≤ at0 (row2 rows (i : Int)) (j : Int) ∧ at0 (row2 rows (i : Int)) (j : Int) < b :=
  allP_at (h i hi).2 (by rw [(h i hi).1]; exact hj)
def FitP (c : Cat) : Prop := c.ob ≤ 8 ∧ c.s.length ≤ 40

set_option maxHeartbeats 1000000 in
set_option maxRecDepth 100000 in
theorem specFits_any (w : World) (v : Value) (c : Cat) (h : RdC w v c) :
    Calls Try.prog 55 #[v] w (RetB w (bP (FitP c))) := by
  have h0 := h
  obtain ⟨va, vb, vc, vd, ve, vf, vg, vh, rfl, h1, h2, h3, h4, _⟩ := h.lists
  go_enter Try.func55, Try.ntmps55
  refine gc_enter (N := 12) rfl (look_cons (k := 0) rfl (look_nil _)) ?_
  refine gc_seq fun K1 hK1 => ?_
  refine gc_region ?_
  refine g_op (.free rfl) fun K3 hK3 => ?_
  refine go_box rfl rfl rfl rfl rfl ?_
  intro B2
  refine hK3 _ _ ?_
  refine g_v (.free rfl) rfl rfl (qt_assign rfl rfl) ?_
  refine g_nil ?_
  refine gk_then (hK1 _ _ ?_)
  refine gc_seq fun K4 hK4 => ?_
  refine gc_region ?_
  refine g_v (.free rfl) rfl rfl (qt_field (z := 0) (off := 0) rfl rfl Try.underlying29 rfl (by kernel_rfl) rfl) ?_
  refine g_v (.free rfl) rfl rfl (qt_loadB (n := 0) rfl rfl Try.underlying2 rfl rfl rfl) ?_
  refine g_v (.free rfl) rfl rfl (qt_leq rfl rfl rfl) ?_
  refine g_splitv (.free rfl) rfl rfl (qt_move rfl rfl) (fun hs1_3 => ?_) (fun hs1_3 => ?_)
  · try simp only [decide_eq_true_eq, decide_eq_false_iff_not, Bool.not_eq_true', Bool.not_eq_false', Bool.not_eq_eq_eq_not, Bool.not_true, Bool.not_false, ne_eq, Decidable.not_not, Classical.not_not] at hs1_3
    refine g_v (.held _ _ _ rfl rfl rfl) rfl rfl (qt_field (z := 0) (off := 1) rfl rfl Try.underlying29 rfl (by kernel_rfl) rfl) ?_
    refine g_v (.held _ _ _ rfl rfl rfl) rfl rfl (qt_loadB (n := 0) rfl rfl Try.underlying22 rfl rfl rfl) ?_
    refine g_v (.held _ _ _ rfl rfl rfl) rfl rfl (qt_len rfl rfl ulE1 (fun w M => lenV_rd h1)) ?_
    refine g_v (.held _ _ _ rfl rfl rfl) rfl rfl (qt_leq rfl rfl rfl) ?_
    refine g_v (.free rfl) rfl rfl (qt_pick_t rfl rfl rfl) ?_
    refine g_v (.free rfl) rfl rfl (qt_assign rfl rfl) ?_
    refine g_nil ?_
    refine gk_then (hK4 _ _ ?_)
    refine gc_ret ?_
    refine ret_1 rfl rfl  (fun w M => ?_)
    rw [show bP (FitP c) = decide ((c.s.length : Int) ≤ 40) from by rw [← bP_dec]; exact bP_congr ⟨fun h => by have := h.2; omega, fun h => ⟨by omega, by omega⟩⟩]; exact ⟨rfl, M.1⟩
  · try simp only [decide_eq_true_eq, decide_eq_false_iff_not, Bool.not_eq_true', Bool.not_eq_false', Bool.not_eq_eq_eq_not, Bool.not_true, Bool.not_false, ne_eq, Decidable.not_not, Classical.not_not] at hs1_3
    refine g_skip (.not _ _ _ _ rfl rfl rfl rfl) rfl rfl ?_
    refine g_skip (.not _ _ _ _ rfl rfl rfl rfl) rfl rfl ?_
    refine g_skip (.not _ _ _ _ rfl rfl rfl rfl) rfl rfl ?_
    refine g_skip (.not _ _ _ _ rfl rfl rfl rfl) rfl rfl ?_
    refine g_v (.free rfl) rfl rfl (qt_pick_f rfl rfl rfl) ?_
    refine g_v (.free rfl) rfl rfl (qt_assign rfl rfl) ?_
    refine g_nil ?_
    refine gk_then (hK4 _ _ ?_)
    refine gc_ret ?_
    refine ret_1 rfl rfl  (fun w M => ?_)
    rw [bP_f (fun h : FitP c => by have := h.1; omega)]; exact ⟨rfl, M.1⟩

set_option maxHeartbeats 1000000 in
set_option maxRecDepth 100000 in
theorem specMade_t (w : World) (v : Value) (c : Cat) (h : RdC w v c) (hf : FitP c) :
    Calls Try.prog 93 #[v] w (RetV w (.tuple #[v, .int .i64 0])) := by
  have h0 := h
  obtain ⟨va, vb, vc, vd, ve, vf, vg, vh, rfl, h1, h2, h3, h4, _⟩ := h.lists
  go_enter Try.func93, Try.ntmps93
  refine gc_enter (N := 9) rfl (look_cons (k := 0) rfl (look_nil _)) ?_
  refine gc_seq fun K1 hK1 => ?_
  refine gc_region ?_
  refine g_op (.free rfl) fun K3 hK3 => ?_
  refine go_box rfl rfl rfl rfl rfl ?_
  intro B2
  refine hK3 _ _ ?_
  refine g_op (.free rfl) fun K5 hK5 => ?_
  refine go_alloc (z := (.agg #[.int .i64 0, .slice none 0 0, .slice none 0 0, .slice none 0 0, .slice none 0 0])) (cs := [.int .i64 0, .slice none 0 0, .slice none 0 0, .slice none 0 0, .slice none 0 0]) rfl rfl rfl (fun w => by kernel_rfl) rfl ?_
  intro B4
  refine hK5 _ _ ?_
  refine g_v (.free rfl) rfl rfl (qt_assign rfl rfl) ?_
  refine g_nil ?_
  refine gk_then (hK1 _ _ ?_)
  refine gc_seq fun K6 hK6 => ?_
  refine gc_seq fun K7 hK7 => ?_
  refine gc_region ?_
  refine g_v (.free rfl) rfl rfl (qt_loadS (n := 0) rfl rfl Try.underlying29 rfl (by kernel_rfl) rfl) ?_
  refine g_q (.free rfl) rfl rfl (qt_call rfl Try.func55 rfl (by decide) rfl (fun w M => specFits_any w _ _ (mem_rdC M h0))) ?_
  refine g_v (.free rfl) rfl rfl (qt_not rfl rfl) ?_
  refine g_nil ?_
  refine gk_then (hK7 _ _ ?_)
  refine gc_cond rfl (fun hc0 => ?_) (fun hc0 => ?_)
  · try simp only [decide_eq_true_eq, decide_eq_false_iff_not, Bool.not_eq_true', Bool.not_eq_false', Bool.not_eq_eq_eq_not, Bool.not_true, Bool.not_false, ne_eq, Decidable.not_not, Classical.not_not] at hc0
    exact absurd hf (bP_f' hc0)
  · try simp only [decide_eq_true_eq, decide_eq_false_iff_not, Bool.not_eq_true', Bool.not_eq_false', Bool.not_eq_eq_eq_not, Bool.not_true, Bool.not_false, ne_eq, Decidable.not_not, Classical.not_not] at hc0
    refine gc_skip ?_
    refine gk_then (hK6 _ _ ?_)
    refine gc_seq fun K8 hK8 => ?_
    refine gc_region ?_
    refine g_v (.free rfl) rfl rfl (qt_loadS (n := 0) rfl rfl Try.underlying29 rfl (by kernel_rfl) rfl) ?_
    refine g_op (.free rfl) fun K9 hK9 => ?_
    refine go_storeS (n := 1) rfl rfl rfl rfl (by kernel_rfl) rfl rfl rfl ?_
    refine hK9 _ _ ?_
    refine g_v (.free rfl) rfl rfl (qt_assign rfl rfl) ?_
    refine g_nil ?_
    refine gk_then (hK8 _ _ ?_)
    refine gc_ret ?_
    refine ret_SI (n := 1) rfl rfl rfl Try.underlying29 rfl (by kernel_rfl) rfl (fun w M => ?_)
    exact ⟨rfl, M.1⟩

set_option maxHeartbeats 1000000 in
set_option maxRecDepth 100000 in
theorem specMade_f (w : World) (v : Value) (c : Cat) (h : RdC w v c) (hf : ¬ FitP c) :
    Calls Try.prog 93 #[v] w (RetV w (.tuple #[.agg #[.int .i64 0, .slice none 0 0, .slice none 0 0, .slice none 0 0, .slice none 0 0], .int .i64 3])) := by
  have h0 := h
  obtain ⟨va, vb, vc, vd, ve, vf, vg, vh, rfl, h1, h2, h3, h4, _⟩ := h.lists
  go_enter Try.func93, Try.ntmps93
  refine gc_enter (N := 9) rfl (look_cons (k := 0) rfl (look_nil _)) ?_
  refine gc_seq fun K1 hK1 => ?_
  refine gc_region ?_
  refine g_op (.free rfl) fun K3 hK3 => ?_
  refine go_box rfl rfl rfl rfl rfl ?_
  intro B2
  refine hK3 _ _ ?_
  refine g_op (.free rfl) fun K5 hK5 => ?_
  refine go_alloc (z := (.agg #[.int .i64 0, .slice none 0 0, .slice none 0 0, .slice none 0 0, .slice none 0 0])) (cs := [.int .i64 0, .slice none 0 0, .slice none 0 0, .slice none 0 0, .slice none 0 0]) rfl rfl rfl (fun w => by kernel_rfl) rfl ?_
  intro B4
  refine hK5 _ _ ?_
  refine g_v (.free rfl) rfl rfl (qt_assign rfl rfl) ?_
  refine g_nil ?_
  refine gk_then (hK1 _ _ ?_)
  refine gc_seq fun K6 hK6 => ?_
  refine gc_seq fun K7 hK7 => ?_
  refine gc_region ?_
  refine g_v (.free rfl) rfl rfl (qt_loadS (n := 0) rfl rfl Try.underlying29 rfl (by kernel_rfl) rfl) ?_
  refine g_q (.free rfl) rfl rfl (qt_call rfl Try.func55 rfl (by decide) rfl (fun w M => specFits_any w _ _ (mem_rdC M h0))) ?_
  refine g_v (.free rfl) rfl rfl (qt_not rfl rfl) ?_
  refine g_nil ?_
  refine gk_then (hK7 _ _ ?_)
  refine gc_cond rfl (fun hc0 => ?_) (fun hc0 => ?_)
  · try simp only [decide_eq_true_eq, decide_eq_false_iff_not, Bool.not_eq_true', Bool.not_eq_false', Bool.not_eq_eq_eq_not, Bool.not_true, Bool.not_false, ne_eq, Decidable.not_not, Classical.not_not] at hc0
    refine gc_seq fun K8 hK8 => ?_
    refine gc_region ?_
    refine g_v (.free rfl) rfl rfl (qt_build rfl rfl bt0_Category) ?_
    refine g_op (.free rfl) fun K9 hK9 => ?_
    refine go_storeS (n := 1) rfl rfl rfl rfl (by kernel_rfl) rfl rfl rfl ?_
    refine hK9 _ _ ?_
    refine g_v (.free rfl) rfl rfl (qt_assign rfl rfl) ?_
    refine g_nil ?_
    refine gk_then (hK8 _ _ ?_)
    refine gc_ret ?_
    refine gk_then_ret ?_
    refine ret_SI (n := 1) rfl rfl rfl Try.underlying29 rfl (by kernel_rfl) rfl (fun w M => ?_)
    exact ⟨rfl, M.1⟩
  · try simp only [decide_eq_true_eq, decide_eq_false_iff_not, Bool.not_eq_true', Bool.not_eq_false', Bool.not_eq_eq_eq_not, Bool.not_true, Bool.not_false, ne_eq, Decidable.not_not, Classical.not_not] at hc0
    exact absurd (bP_t' hc0) hf

end Go.Proofs.Ytpfcfhjpgngneab
