
/- The least subcategory: the model's statements that speak of it. -/
import Derived.Test.YtelbjdbefaffpaaGen
import Derived.Test.YtelbjdbefaffpaaComp
set_option linter.unusedSimpArgs false
set_option linter.unusedVariables false
set_option linter.unusedSectionVars false
namespace Go.Proofs.Ytelbjdbefaffpaa
open Go.RowKit


noncomputable def fGeneratedArrows (c : Cat) (xs : List Int) : List Int × Int := if arrErr c xs = 0 then (genL c xs c.s.length, 0) else ([], arrErr c xs)
noncomputable def fIsSubcategory (c : Cat) (xs : List Int) : Bool × Int := if arrErr c xs = 0 then (decide (xs = genL c xs c.s.length), 0) else (false, arrErr c xs)
theorem gens_e {c : Cat} {xs : List Int} (h : ¬ arrErr c xs = 0) : fGeneratedArrows c xs = ([], arrErr c xs) := if_neg h
theorem gens_t {c : Cat} {xs : List Int} (h : arrErr c xs = 0) : fGeneratedArrows c xs = (genL c xs c.s.length, 0) := if_pos h
theorem isub_e {c : Cat} {xs : List Int} (h : ¬ arrErr c xs = 0) : fIsSubcategory c xs = (false, arrErr c xs) := if_neg h
theorem isub_t {c : Cat} {xs : List Int} (h : arrErr c xs = 0) : fIsSubcategory c xs = (decide (xs = genL c xs c.s.length), 0) := if_pos h

set_option maxHeartbeats 1000000 in
set_option maxRecDepth 100000 in
theorem spec_GeneratedArrows (w : World) (v : Value) (c : Cat) (u : Value) (xs : List Int) (h : RdC w v c) (hu : Rd w u xs) :
    Calls Try.prog 16 #[v, u] w (RetLI w (fGeneratedArrows c xs).1 (fGeneratedArrows c xs).2) := by
  have h0 := h
  obtain ⟨va, vb, vc, vd, ve, vf, vg, vh, rfl, h1, h2, h3, h4, _⟩ := h.lists
  obtain ⟨ua, uc, rfl⟩ := rd_form hu
  go_enter Try.func16, Try.ntmps16
  refine gc_enter (N := 16) rfl (look_cons (k := 0) rfl (look_cons (k := 1) rfl (look_nil _))) ?_
  refine gc_seq fun K1 hK1 => ?_
  refine gc_region ?_
  refine g_op (.free rfl) fun K3 hK3 => ?_
  refine go_box rfl rfl rfl rfl rfl ?_
  intro B2
  refine hK3 _ _ ?_
  refine g_v (.free rfl) rfl rfl (qt_assign rfl rfl) ?_
  refine g_v (.free rfl) rfl rfl (qt_assign rfl rfl) ?_
  refine g_nil ?_
  refine gk_then (hK1 _ _ ?_)
  refine gc_seq fun K4 hK4 => ?_
  refine gc_seq fun K5 hK5 => ?_
  refine gc_region ?_
  refine g_v (.free rfl) rfl rfl (qt_loadS (n := 0) rfl rfl Try.underlying29 rfl (by kernel_rfl) rfl) ?_
  refine g_v (.free rfl) rfl rfl (qt_move rfl rfl) ?_
  refine g_q (.free rfl) rfl rfl (qt_call rfl Try.func36 rfl (by decide) rfl (fun w M => specarr_any w _ _ _ _ (mem_rdC M h0) (mem_rd M hu))) ?_
  refine g_v (.free rfl) rfl rfl (qt_assign rfl rfl) ?_
  refine g_nil ?_
  refine gk_then (hK5 _ _ ?_)
  refine gc_seq fun K6 hK6 => ?_
  refine gc_region ?_
  refine g_v (.free rfl) rfl rfl (qt_move rfl rfl) ?_
  refine g_v (.free rfl) rfl rfl (qt_neq rfl rfl rfl) ?_
  refine g_nil ?_
  refine gk_then (hK6 _ _ ?_)
  refine gc_cond rfl (fun hc0 => ?_) (fun hc0 => ?_)
  · try simp only [decide_eq_true_eq, decide_eq_false_iff_not, Bool.not_eq_true', Bool.not_eq_false', Bool.not_eq_eq_eq_not, Bool.not_true, Bool.not_false, ne_eq, Decidable.not_not, Classical.not_not] at hc0
    refine gc_seq fun K7 hK7 => ?_
    refine gc_region ?_
    refine g_v (.free rfl) rfl rfl (qt_move rfl rfl) ?_
    refine g_v (.free rfl) rfl rfl (qt_assign rfl rfl) ?_
    refine g_v (.free rfl) rfl rfl (qt_assign rfl rfl) ?_
    refine g_nil ?_
    refine gk_then (hK7 _ _ ?_)
    refine gc_ret ?_
    refine gk_then_ret ?_
    refine ret_2 rfl rfl rfl  (fun w M => ?_)
    rw [gens_e hc0]; exact ⟨_, rfl, Sl.nil _ _, M.1⟩
  · try simp only [decide_eq_true_eq, decide_eq_false_iff_not, Bool.not_eq_true', Bool.not_eq_false', Bool.not_eq_eq_eq_not, Bool.not_true, Bool.not_false, ne_eq, Decidable.not_not, Classical.not_not] at hc0
    refine gc_skip ?_
    refine gk_then (hK4 _ _ ?_)
    refine gc_seq fun K8 hK8 => ?_
    refine gc_region ?_
    refine g_v (.free rfl) rfl rfl (qt_loadS (n := 0) rfl rfl Try.underlying29 rfl (by kernel_rfl) rfl) ?_
    refine g_v (.free rfl) rfl rfl (qt_move rfl rfl) ?_
    refine g_op (.free rfl) fun K10 hK10 => ?_
    refine go_callL rfl rfl rfl Try.func38 rfl (by decide) rfl (fun w M => specClose_any w _ _ _ _ (mem_rdC M h0) (arrErr_0 hc0).1.toShapeP (mem_rd M hu) (arrErr_0 hc0).2) ?_
    intro va9 vc9
    refine hK10 _ _ ?_
    refine g_v (.free rfl) rfl rfl (qt_assign rfl rfl) ?_
    refine g_v (.free rfl) rfl rfl (qt_assign rfl rfl) ?_
    refine g_nil ?_
    refine gk_then (hK8 _ _ ?_)
    refine gc_ret ?_
    refine ret_2 rfl rfl rfl  (fun w M => ?_)
    rw [gens_t hc0]
    exact ⟨_, rfl, mem_own1 (n := 1) M rfl, M.1⟩

set_option maxHeartbeats 1000000 in
set_option maxRecDepth 100000 in
theorem spec_IsSubcategory (w : World) (v : Value) (c : Cat) (u : Value) (xs : List Int) (h : RdC w v c) (hu : Rd w u xs) :
    Calls Try.prog 10 #[v, u] w (RetBI w (fIsSubcategory c xs).1 (fIsSubcategory c xs).2) := by
  have h0 := h
  obtain ⟨va, vb, vc, vd, ve, vf, vg, vh, rfl, h1, h2, h3, h4, _⟩ := h.lists
  obtain ⟨ua, uc, rfl⟩ := rd_form hu
  go_enter Try.func10, Try.ntmps10
  refine gc_enter (N := 18) rfl (look_cons (k := 0) rfl (look_cons (k := 1) rfl (look_nil _))) ?_
  refine gc_seq fun K1 hK1 => ?_
  refine gc_region ?_
  refine g_op (.free rfl) fun K3 hK3 => ?_
  refine go_box rfl rfl rfl rfl rfl ?_
  intro B2
  refine hK3 _ _ ?_
  refine g_v (.free rfl) rfl rfl (qt_assign rfl rfl) ?_
  refine g_v (.free rfl) rfl rfl (qt_assign rfl rfl) ?_
  refine g_nil ?_
  refine gk_then (hK1 _ _ ?_)
  refine gc_seq fun K4 hK4 => ?_
  refine gc_seq fun K5 hK5 => ?_
  refine gc_region ?_
  refine g_v (.free rfl) rfl rfl (qt_loadS (n := 0) rfl rfl Try.underlying29 rfl (by kernel_rfl) rfl) ?_
  refine g_v (.free rfl) rfl rfl (qt_move rfl rfl) ?_
  refine g_q (.free rfl) rfl rfl (qt_call rfl Try.func36 rfl (by decide) rfl (fun w M => specarr_any w _ _ _ _ (mem_rdC M h0) (mem_rd M hu))) ?_
  refine g_v (.free rfl) rfl rfl (qt_assign rfl rfl) ?_
  refine g_nil ?_
  refine gk_then (hK5 _ _ ?_)
  refine gc_seq fun K6 hK6 => ?_
  refine gc_region ?_
  refine g_v (.free rfl) rfl rfl (qt_move rfl rfl) ?_
  refine g_v (.free rfl) rfl rfl (qt_neq rfl rfl rfl) ?_
  refine g_nil ?_
  refine gk_then (hK6 _ _ ?_)
  refine gc_cond rfl (fun hc0 => ?_) (fun hc0 => ?_)
  · try simp only [decide_eq_true_eq, decide_eq_false_iff_not, Bool.not_eq_true', Bool.not_eq_false', Bool.not_eq_eq_eq_not, Bool.not_true, Bool.not_false, ne_eq, Decidable.not_not, Classical.not_not] at hc0
    refine gc_seq fun K7 hK7 => ?_
    refine gc_region ?_
    refine g_v (.free rfl) rfl rfl (qt_move rfl rfl) ?_
    refine g_v (.free rfl) rfl rfl (qt_assign rfl rfl) ?_
    refine g_v (.free rfl) rfl rfl (qt_assign rfl rfl) ?_
    refine g_nil ?_
    refine gk_then (hK7 _ _ ?_)
    refine gc_ret ?_
    refine gk_then_ret ?_
    refine ret_2 rfl rfl rfl  (fun w M => ?_)
    rw [isub_e hc0]; exact ⟨rfl, M.1⟩
  · try simp only [decide_eq_true_eq, decide_eq_false_iff_not, Bool.not_eq_true', Bool.not_eq_false', Bool.not_eq_eq_eq_not, Bool.not_true, Bool.not_false, ne_eq, Decidable.not_not, Classical.not_not] at hc0
    refine gc_skip ?_
    refine gk_then (hK4 _ _ ?_)
    refine gc_seq fun K8 hK8 => ?_
    refine gc_region ?_
    refine g_v (.free rfl) rfl rfl (qt_move rfl rfl) ?_
    refine g_v (.free rfl) rfl rfl (qt_loadS (n := 0) rfl rfl Try.underlying29 rfl (by kernel_rfl) rfl) ?_
    refine g_v (.free rfl) rfl rfl (qt_move rfl rfl) ?_
    refine g_op (.free rfl) fun K10 hK10 => ?_
    refine go_callL rfl rfl rfl Try.func38 rfl (by decide) rfl (fun w M => specClose_any w _ _ _ _ (mem_rdC M h0) (arrErr_0 hc0).1.toShapeP (mem_rd M hu) (arrErr_0 hc0).2) ?_
    intro va9 vc9
    refine hK10 _ _ ?_
    refine g_q (.free rfl) rfl rfl (qt_call rfl Try.func37 rfl (by decide) rfl (fun w M => specSame_any w _ _ _ _ (mem_rd M hu) ((mem_own1 (n := 1) M rfl).rd))) ?_
    refine g_v (.free rfl) rfl rfl (qt_assign rfl rfl) ?_
    refine g_v (.free rfl) rfl rfl (qt_assign rfl rfl) ?_
    refine g_nil ?_
    refine gk_then (hK8 _ _ ?_)
    refine gc_ret ?_
    refine ret_2 rfl rfl rfl  (fun w M => ?_)
    rw [isub_t hc0]
    exact ⟨rfl, M.1⟩


/-! ### What is sorted and has the generated arrows is their list -/
theorem asc_extG : ∀ {xs ys : List Int}, xs.Pairwise (· < ·) → ys.Pairwise (· < ·) → (∀ x, x ∈ xs ↔ x ∈ ys) → xs = ys
  | [], [], _, _, _ => rfl
  | [], y :: ys, _, _, h => absurd ((h y).2 (List.mem_cons_self ..)) (by simp)
  | x :: xs, [], _, _, h => absurd ((h x).1 (List.mem_cons_self ..)) (by simp)
  | x :: xs, y :: ys, hx, hy, h => by
    rw [List.pairwise_cons] at hx hy
    have h1 := (h x).1 (List.mem_cons_self ..)
    have h2 := (h y).2 (List.mem_cons_self ..)
    have e : x = y := by
      rcases List.mem_cons.1 h1 with e | e
      · exact e
      · rcases List.mem_cons.1 h2 with e2 | e2
        · exact e2.symm
        · have a := hy.1 x e; have b := hx.1 y e2; omega
    subst e
    congr 1
    refine asc_extG hx.2 hy.2 fun z => ⟨fun hz => ?_, fun hz => ?_⟩
    · rcases List.mem_cons.1 ((h z).1 (List.mem_cons_of_mem _ hz)) with e | e
      · have := hx.1 z hz; omega
      · exact e
    · rcases List.mem_cons.1 ((h z).2 (List.mem_cons_of_mem _ hz)) with e | e
      · have := hy.1 z hz; omega
      · exact e
theorem genL_mem {c : Cat} {xs : List Int} {m : Nat} {x : Int} : x ∈ genL c xs m ↔ ∃ j : Nat, j < m ∧ Gen c xs (j : Int) ∧ (j : Int) = x := filTo_mem
theorem genL_asc (c : Cat) (xs : List Int) : ∀ m, (genL c xs m).Pairwise (· < ·)
  | 0 => by simp [genL, filTo]
  | m + 1 => by
    have ih := genL_asc c xs m
    by_cases h : Gen c xs (m : Int)
    · rw [← gen_t h, List.pairwise_append]
      refine ⟨ih, List.pairwise_singleton _ _, fun a ha b hb => ?_⟩
      obtain ⟨j, hj, _, rfl⟩ := genL_mem.1 ha
      rw [List.mem_singleton.1 hb]; omega
    · rw [← gen_f h]; exact ih
theorem genL_of {c : Cat} {xs found ys : List Int} (hp : ys.Perm found) (hs : ys.Pairwise (· ≤ ·)) (hn : found.Nodup) (hm : ∀ x, x ∈ found ↔ Gen c xs x ∧ 0 ≤ x ∧ x < c.s.length) : ys = genL c xs c.s.length := by
  refine asc_extG ?_ (genL_asc c xs _) fun x => ?_
  · have hy : ys.Nodup := hp.nodup_iff.2 hn
    refine (List.pairwise_and_iff.2 ⟨hs, hy⟩).imp fun h => ?_
    have := h.1; have h2 := h.2; omega
  · rw [hp.mem_iff, hm, genL_mem]
    constructor
    · rintro ⟨hg, h0, h1⟩
      obtain ⟨j, rfl⟩ := Int.eq_ofNat_of_zero_le h0
      exact ⟨j, by omega, hg, rfl⟩
    · rintro ⟨j, hj, hg, rfl⟩
      exact ⟨hg, by omega, by omega⟩

end Go.Proofs.Ytelbjdbefaffpaa
