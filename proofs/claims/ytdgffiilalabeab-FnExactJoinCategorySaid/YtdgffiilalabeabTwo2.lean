
/- Two categories that are read: the model's and the program's. -/
import Derived.Test.YtdgffiilalabeabGrid
import Derived.Test.YtdgffiilalabeabSq
set_option linter.unusedSimpArgs false
set_option linter.unusedVariables false
set_option linter.unusedSectionVars false
namespace Go.Proofs.Ytdgffiilalabeab
open Go.RowKit


noncomputable def twoErr (c d : Cat) : Int := if fIsCategory c = true ∧ fIsCategory d = true then 0 else 1
theorem twoErr_f {c d : Cat} (h : ¬ (fIsCategory c = true ∧ fIsCategory d = true)) : twoErr c d = 1 := if_neg h
theorem twoErr_t {c d : Cat} (h : fIsCategory c = true) (h' : fIsCategory d = true) : twoErr c d = 0 := if_pos ⟨h, h'⟩
theorem twoErr_0 {c d : Cat} (h : twoErr c d = 0) : fIsCategory c = true ∧ fIsCategory d = true := by
  by_cases hh : fIsCategory c = true ∧ fIsCategory d = true
  · exact hh
  · rw [twoErr_f hh] at h; omega
theorem twoErr_n {c d : Cat} (h : ¬ twoErr c d = 0) : ¬ (fIsCategory c = true ∧ fIsCategory d = true) ∧ twoErr c d = 1 := by
  by_cases hh : fIsCategory c = true ∧ fIsCategory d = true
  · exact absurd (twoErr_t hh.1 hh.2) h
  · exact ⟨hh, twoErr_f hh⟩
noncomputable def twoD (c d : Cat) : Cat := if fIsCategory c = true then catCat d else cat0
theorem two_n {c d : Cat} (h : ¬ catErr c = 0) : twoErr c d = 1 ∧ catErr c = 1 ∧ catCat c = cat0 ∧ twoD c d = cat0 := by
  have h1 := catErr_n h
  exact ⟨twoErr_f fun hh => by rw [hh.1] at h1; simp at h1, h1.2, if_neg (by rw [h1.1]; decide), if_neg (by rw [h1.1]; decide)⟩
theorem two_t {c d : Cat} (h : catErr c = 0) : twoErr c d = catErr d ∧ twoD c d = catCat d := by
  have h1 := catErr_0 h
  refine ⟨?_, if_pos h1⟩
  unfold twoErr catErr
  by_cases h2 : fIsCategory d = true
  · rw [if_pos ⟨h1, h2⟩, if_pos h2]
  · rw [if_neg (fun hh => h2 hh.2), if_neg h2]
theorem two_c {c d : Cat} (h : twoErr c d = 0) : catCat c = c ∧ twoD c d = d := by
  have h1 := twoErr_0 h
  exact ⟨if_pos h1.1, (if_pos h1.1).trans (if_pos h1.2)⟩

set_option maxHeartbeats 1000000 in
set_option maxRecDepth 100000 in
theorem specTwo_any (w : World) (v : Value) (c : Cat) (h : RdC w v c) (u : Value) (d : Cat) (e : RdC w u d) :
    Calls Try.prog 71 #[v, u] w (RetI w (twoErr c d)) := by
  have h0 := h
  obtain ⟨va, vb, vc, vd, ve, vf, vg, vh, rfl, h1, h2, h3, h4, _⟩ := h.lists
  have e0 := e
  obtain ⟨ua, ub, uc, ud, ue, uf, ug, uh, rfl, e1, e2, e3, e4, _⟩ := e.lists
  go_enter Try.func71, Try.ntmps71
  refine gc_enter (N := 13) rfl (look_cons (k := 0) rfl (look_cons (k := 1) rfl (look_nil _))) ?_
  refine gc_seq fun K1 hK1 => ?_
  refine gc_region ?_
  refine g_op (.free rfl) fun K3 hK3 => ?_
  refine go_box rfl rfl rfl rfl rfl ?_
  intro B2
  refine hK3 _ _ ?_
  refine g_op (.free rfl) fun K5 hK5 => ?_
  refine go_box rfl rfl rfl rfl rfl ?_
  intro B4
  refine hK5 _ _ ?_
  refine g_v (.free rfl) rfl rfl (qt_assign rfl rfl) ?_
  refine g_nil ?_
  refine gk_then (hK1 _ _ ?_)
  refine gc_seq fun K6 hK6 => ?_
  refine gc_seq fun K7 hK7 => ?_
  refine gc_region ?_
  refine g_v (.free rfl) rfl rfl (qt_loadS (n := 0) rfl rfl Try.underlying26 rfl (by kernel_rfl) rfl) ?_
  refine g_q (.free rfl) rfl rfl (qt_call rfl Try.func64 rfl (by decide) rfl (fun w M => specIs_any w _ _ (mem_rdC M h0))) ?_
  refine g_v (.free rfl) rfl rfl (qt_not rfl rfl) ?_
  refine g_splitv (.free rfl) rfl rfl (qt_move rfl rfl) (fun hs1_3 => ?_) (fun hs1_3 => ?_)
  · try simp only [decide_eq_true_eq, decide_eq_false_iff_not, Bool.not_eq_true', Bool.not_eq_false', Bool.not_eq_eq_eq_not, Bool.not_true, Bool.not_false, ne_eq, Decidable.not_not, Classical.not_not] at hs1_3
    refine g_skip (.not _ _ _ _ rfl rfl rfl rfl) rfl rfl ?_
    refine g_skip (.not _ _ _ _ rfl rfl rfl rfl) rfl rfl ?_
    refine g_skip (.not _ _ _ _ rfl rfl rfl rfl) rfl rfl ?_
    refine g_v (.free rfl) rfl rfl (qt_pick_t rfl rfl rfl) ?_
    refine g_nil ?_
    refine gk_then (hK7 _ _ ?_)
    refine gc_cond_t rfl ?_
    refine gc_seq fun K8 hK8 => ?_
    refine gc_region ?_
    refine g_v (.free rfl) rfl rfl (qt_assign rfl rfl) ?_
    refine g_nil ?_
    refine gk_then (hK8 _ _ ?_)
    refine gc_ret ?_
    refine gk_then_ret ?_
    refine ret_1 rfl rfl  (fun w M => ?_)
    rw [twoErr_f (fun hh => by rw [hs1_3] at hh; simp at hh)]; exact ⟨rfl, M.1⟩
  · try simp only [decide_eq_true_eq, decide_eq_false_iff_not, Bool.not_eq_true', Bool.not_eq_false', Bool.not_eq_eq_eq_not, Bool.not_true, Bool.not_false, ne_eq, Decidable.not_not, Classical.not_not] at hs1_3
    refine g_v (.held _ _ _ rfl rfl rfl) rfl rfl (qt_loadS (n := 1) rfl rfl Try.underlying26 rfl (by kernel_rfl) rfl) ?_
    refine g_q (.held _ _ _ rfl rfl rfl) rfl rfl (qt_call rfl Try.func64 rfl (by decide) rfl (fun w M => specIs_any w _ _ (mem_rdC M e0))) ?_
    refine g_v (.held _ _ _ rfl rfl rfl) rfl rfl (qt_not rfl rfl) ?_
    refine g_v (.free rfl) rfl rfl (qt_pick_f rfl rfl rfl) ?_
    refine g_nil ?_
    refine gk_then (hK7 _ _ ?_)
    refine gc_cond rfl (fun hc0 => ?_) (fun hc0 => ?_)
    · try simp only [decide_eq_true_eq, decide_eq_false_iff_not, Bool.not_eq_true', Bool.not_eq_false', Bool.not_eq_eq_eq_not, Bool.not_true, Bool.not_false, ne_eq, Decidable.not_not, Classical.not_not] at hc0
      refine gc_seq fun K9 hK9 => ?_
      refine gc_region ?_
      refine g_v (.free rfl) rfl rfl (qt_assign rfl rfl) ?_
      refine g_nil ?_
      refine gk_then (hK9 _ _ ?_)
      refine gc_ret ?_
      refine gk_then_ret ?_
      refine ret_1 rfl rfl  (fun w M => ?_)
      rw [twoErr_f (fun hh => by rw [hc0] at hh; simp at hh)]; exact ⟨rfl, M.1⟩
    · try simp only [decide_eq_true_eq, decide_eq_false_iff_not, Bool.not_eq_true', Bool.not_eq_false', Bool.not_eq_eq_eq_not, Bool.not_true, Bool.not_false, ne_eq, Decidable.not_not, Classical.not_not] at hc0
      refine gc_skip ?_
      refine gk_then (hK6 _ _ ?_)
      refine gc_seq fun K10 hK10 => ?_
      refine gc_region ?_
      refine g_v (.free rfl) rfl rfl (qt_assign rfl rfl) ?_
      refine g_nil ?_
      refine gk_then (hK10 _ _ ?_)
      refine gc_ret ?_
      refine ret_1 rfl rfl  (fun w M => ?_)
      rw [twoErr_t hs1_3 hc0]; exact ⟨rfl, M.1⟩

set_option maxHeartbeats 1000000 in
set_option maxRecDepth 100000 in
theorem readTwo_any (w : World) (v : Value) (c : Cat) (h : RdC w v c) (u : Value) (d : Cat) (e : RdC w u d) :
    Calls Try.prog 73 #[v, u] w (RetCCI w (catCat c) (twoD c d) (twoErr c d)) := by
  have h0 := h
  obtain ⟨va, vb, vc, vd, ve, vf, vg, vh, rfl, h1, h2, h3, h4, _⟩ := h.lists
  have e0 := e
  obtain ⟨ua, ub, uc, ud, ue, uf, ug, uh, rfl, e1, e2, e3, e4, _⟩ := e.lists
  go_enter Try.func73, Try.ntmps73
  refine gc_enter (N := 28) rfl (look_cons (k := 0) rfl (look_cons (k := 1) rfl (look_nil _))) ?_
  refine gc_seq fun K1 hK1 => ?_
  refine gc_region ?_
  refine g_op (.free rfl) fun K3 hK3 => ?_
  refine go_box rfl rfl rfl rfl rfl ?_
  intro B2
  refine hK3 _ _ ?_
  refine g_op (.free rfl) fun K5 hK5 => ?_
  refine go_box rfl rfl rfl rfl rfl ?_
  intro B4
  refine hK5 _ _ ?_
  refine g_op (.free rfl) fun K7 hK7 => ?_
  refine go_alloc (z := (.agg #[.int .i64 0, .slice none 0 0, .slice none 0 0, .slice none 0 0, .slice none 0 0])) (cs := [.int .i64 0, .slice none 0 0, .slice none 0 0, .slice none 0 0, .slice none 0 0]) rfl rfl rfl (fun w => by kernel_rfl) rfl ?_
  intro B6
  refine hK7 _ _ ?_
  refine g_op (.free rfl) fun K9 hK9 => ?_
  refine go_alloc (z := (.agg #[.int .i64 0, .slice none 0 0, .slice none 0 0, .slice none 0 0, .slice none 0 0])) (cs := [.int .i64 0, .slice none 0 0, .slice none 0 0, .slice none 0 0, .slice none 0 0]) rfl rfl rfl (fun w => by kernel_rfl) rfl ?_
  intro B8
  refine hK9 _ _ ?_
  refine g_v (.free rfl) rfl rfl (qt_assign rfl rfl) ?_
  refine g_nil ?_
  refine gk_then (hK1 _ _ ?_)
  refine gc_seq fun K10 hK10 => ?_
  refine gc_region ?_
  refine g_v (.free rfl) rfl rfl (qt_loadS (n := 0) rfl rfl Try.underlying26 rfl (by kernel_rfl) rfl) ?_
  refine g_op (.free rfl) fun K12 hK12 => ?_
  refine go_callCI rfl rfl rfl Try.func66 rfl (by decide) rfl (fun w M => readCat_any w _ _ (mem_rdC M h0)) ?_
  intro ca11 cb11 cc11 cd11 ce11 cf11 cg11 ch11 cu11
  refine hK12 _ _ ?_
  refine g_v (.free rfl) rfl rfl (qt_move rfl rfl) ?_
  refine g_v (.free rfl) rfl rfl (qt_extract rfl rfl rfl) ?_
  refine g_v (.free rfl) rfl rfl (qt_extract rfl rfl rfl) ?_
  refine g_op (.free rfl) fun K14 hK14 => ?_
  refine go_alloc (z := (.agg #[.int .i64 0, .slice none 0 0, .slice none 0 0, .slice none 0 0, .slice none 0 0])) (cs := [.int .i64 0, .slice none 0 0, .slice none 0 0, .slice none 0 0, .slice none 0 0]) rfl rfl rfl (fun w => by kernel_rfl) rfl ?_
  intro B13
  refine hK14 _ _ ?_
  refine g_op (.free rfl) fun K15 hK15 => ?_
  refine go_storeS (n := 8) rfl rfl rfl rfl (by kernel_rfl) rfl rfl rfl ?_
  refine hK15 _ _ ?_
  refine g_v (.free rfl) rfl rfl (qt_assign rfl rfl) ?_
  refine g_nil ?_
  refine gk_then (hK10 _ _ ?_)
  refine gc_seq fun K16 hK16 => ?_
  refine gc_seq fun K17 hK17 => ?_
  refine gc_region ?_
  refine g_v (.free rfl) rfl rfl (qt_move rfl rfl) ?_
  refine g_v (.free rfl) rfl rfl (qt_neq rfl rfl rfl) ?_
  refine g_nil ?_
  refine gk_then (hK17 _ _ ?_)
  refine gc_cond rfl (fun hc0 => ?_) (fun hc0 => ?_)
  · try simp only [decide_eq_true_eq, decide_eq_false_iff_not, Bool.not_eq_true', Bool.not_eq_false', Bool.not_eq_eq_eq_not, Bool.not_true, Bool.not_false, ne_eq, Decidable.not_not, Classical.not_not] at hc0
    refine gc_seq fun K18 hK18 => ?_
    refine gc_region ?_
    refine g_v (.free rfl) rfl rfl (qt_build rfl rfl bt0_Category) ?_
    refine g_v (.free rfl) rfl rfl (qt_build rfl rfl bt0_Category) ?_
    refine g_v (.free rfl) rfl rfl (qt_move rfl rfl) ?_
    refine g_op (.free rfl) fun K19 hK19 => ?_
    refine go_storeS (n := 2) rfl rfl rfl rfl (by kernel_rfl) rfl rfl rfl ?_
    refine hK19 _ _ ?_
    refine g_op (.free rfl) fun K20 hK20 => ?_
    refine go_storeS (n := 3) rfl rfl rfl rfl (by kernel_rfl) rfl rfl rfl ?_
    refine hK20 _ _ ?_
    refine g_v (.free rfl) rfl rfl (qt_assign rfl rfl) ?_
    refine g_nil ?_
    refine gk_then (hK18 _ _ ?_)
    refine gc_ret ?_
    refine gk_then_ret ?_
    refine ret_SSI (n := 2) (n' := 3) rfl rfl rfl rfl Try.underlying26 rfl (by kernel_rfl) rfl Try.underlying26 rfl (by kernel_rfl) rfl (fun w M => ?_)
    have hn := two_n (d := d) hc0; rw [hn.1, hn.2.1, hn.2.2.1, hn.2.2.2]; exact retCCI_zero M.1
  · try simp only [decide_eq_true_eq, decide_eq_false_iff_not, Bool.not_eq_true', Bool.not_eq_false', Bool.not_eq_eq_eq_not, Bool.not_true, Bool.not_false, ne_eq, Decidable.not_not, Classical.not_not] at hc0
    refine gc_skip ?_
    refine gk_then (hK16 _ _ ?_)
    refine gc_seq fun K21 hK21 => ?_
    refine gc_region ?_
    refine g_v (.free rfl) rfl rfl (qt_loadS (n := 1) rfl rfl Try.underlying26 rfl (by kernel_rfl) rfl) ?_
    refine g_op (.free rfl) fun K23 hK23 => ?_
    refine go_callCI rfl rfl rfl Try.func66 rfl (by decide) rfl (fun w M => readCat_any w _ _ (mem_rdC M e0)) ?_
    intro ca22 cb22 cc22 cd22 ce22 cf22 cg22 ch22 cu22
    refine hK23 _ _ ?_
    refine g_v (.free rfl) rfl rfl (qt_move rfl rfl) ?_
    refine g_v (.free rfl) rfl rfl (qt_extract rfl rfl rfl) ?_
    refine g_v (.free rfl) rfl rfl (qt_extract rfl rfl rfl) ?_
    refine g_op (.free rfl) fun K25 hK25 => ?_
    refine go_alloc (z := (.agg #[.int .i64 0, .slice none 0 0, .slice none 0 0, .slice none 0 0, .slice none 0 0])) (cs := [.int .i64 0, .slice none 0 0, .slice none 0 0, .slice none 0 0, .slice none 0 0]) rfl rfl rfl (fun w => by kernel_rfl) rfl ?_
    intro B24
    refine hK25 _ _ ?_
    refine g_op (.free rfl) fun K26 hK26 => ?_
    refine go_storeS (n := 13) rfl rfl rfl rfl (by kernel_rfl) rfl rfl rfl ?_
    refine hK26 _ _ ?_
    refine g_v (.free rfl) rfl rfl (qt_assign rfl rfl) ?_
    refine g_nil ?_
    refine gk_then (hK21 _ _ ?_)
    refine gc_seq fun K27 hK27 => ?_
    try simp only [List.nil_append, List.cons_append, List.append_assoc, List.set_cons_succ, List.set_cons_zero]
    refine ga_start _ (fun w M => mem_erase 2 (mem_erase 3 (M))) ?_
    refine ga_v 0 rfl (by kernel_rfl) (by kernel_rfl) (by kernel_rfl) (.free rfl) rfl rfl (qt_loadS (n := 6) rfl rfl Try.underlying26 rfl (by kernel_rfl) rfl) (fun _ _ _ h => h) ?_
    refine ga_v 1 rfl (by kernel_rfl) (by kernel_rfl) (by kernel_rfl) (.free rfl) rfl rfl (qt_loadS (n := 11) rfl rfl Try.underlying26 rfl (by kernel_rfl) rfl) (fun _ _ _ h => h) ?_
    refine ga_v 2 rfl (by kernel_rfl) (by kernel_rfl) (by kernel_rfl) (.free rfl) rfl rfl (qt_move rfl rfl) (fun _ _ _ h => h) ?_
    refine ga_op 3 (by kernel_rfl) rfl (.free rfl) fun K28 hK28 => ?_
    refine go_storeS (n := 2) rfl rfl rfl rfl (by kernel_rfl) rfl rfl rfl ?_
    refine hK28 _ _ (fun w M => (mem_erase 2 (mem_erase 3 (mem_take 14 M)) :)) ?_
    refine ga_op 4 (by kernel_rfl) rfl (.free rfl) fun K29 hK29 => ?_
    refine go_storeS (n := 3) rfl rfl rfl rfl (by kernel_rfl) rfl rfl rfl ?_
    refine hK29 _ _ (fun w M => (mem_erase 2 (mem_erase 3 (mem_take 14 M)) :)) ?_
    refine ga_v 5 rfl (by kernel_rfl) (by kernel_rfl) (by kernel_rfl) (.free rfl) rfl rfl (qt_assign rfl rfl) (fun _ _ _ h => h) ?_
    refine ga_done (by kernel_rfl) ?_
    refine gk_then (hK27 _ _ ?_)
    refine gc_ret ?_
    refine ret_SSI (n := 2) (n' := 3) rfl rfl rfl rfl Try.underlying26 rfl (by kernel_rfl) rfl Try.underlying26 rfl (by kernel_rfl) rfl (fun w M => ?_)
    have hn := two_t (d := d) hc0; rw [hn.1, hn.2]; exact retCCI_star (mem_pick (n := 11) (mem_pick (n := 11) (mem_pick (n := 11) (mem_pick (n := 11) (mem_pick (n := 12) (mem_pick (n := 12) (mem_pick (n := 12) (mem_pick (n := 12) (M) rfl) rfl) rfl) rfl) rfl) rfl) rfl) rfl).2 M.1

end Go.Proofs.Ytdgffiilalabeab
