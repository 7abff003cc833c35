import Derived.Test.YtpcabkdkdnchaaaGreatN6
import Derived.Test.YtpcabkdkdnchaaaGreatN7
import Derived.Test.YtpcabkdkdnchaaaGreatN8
import Derived.Test.YtpcabkdkdnchaaaGreatN3
import Derived.Test.YtpcabkdkdnchaaaGreatN2
import Derived.Maps.AppendAt
import Derived.WideKeyRuns
set_option linter.unusedSimpArgs false
set_option linter.unusedVariables false
set_option linter.unusedSectionVars false
namespace Go.Proofs.YtpcabkdkdnchaaaGreat
open Go.RowKit
theorem idFP_of {c : Cat} {k f g h : Int} (hp : FaultP c k f g h) : (k = 1 ∧ g = 0 ∧ h = 0 ∧ IdFP c 1 f) ∨ (IdFP c 0 0 ∧ AsP c k f g h) := by
 cases hp with
 | id m hm => exact .inl ⟨rfl, rfl, rfl, .inl ⟨rfl, m, rfl, hm.1, hm.2.1, hm.2.2⟩⟩
 | asc a b d h0 h1 => exact .inr ⟨.inr ⟨rfl, rfl, h0⟩, .asc a b d h1⟩
 | no h0 h1 => exact .inr ⟨.inr ⟨rfl, rfl, h0⟩, .no h1⟩
theorem shape_iff {c : Cat} : fIsShape c = true ↔ ShapeP c := bP_iff
theorem shape_no {c : Cat} (h : fIsShape c = false) : ¬ ShapeP c := fun h' => by rw [shape_iff.2 h'] at h; cases h
theorem isCat_t {c : Cat} (h : fIsShape c = true) (h' : (faultOf c).1 = 0) : fIsCategory c = true := bP_t (isCat_iff.2 ⟨shape_iff.1 h, h'⟩)
theorem isCat_f {c : Cat} (h : fIsShape c = false ∨ (faultOf c).1 ≠ 0) : fIsCategory c = false := bP_f fun hc => by
 obtain ⟨h1, h2⟩ := isCat_iff.1 hc
 rcases h with h | h
 ·exact shape_no h h1
 ·exact h h2
theorem fault_z {c : Cat} (h : (faultOf c).1 = 0) : (faultOf c).2.1 = 0 ∧ (faultOf c).2.2.1 = 0 ∧ (faultOf c).2.2.2 = 0 := by
 have hz := fault_zero.1 h
 rw [fault_no hz.1 hz.2]
 exact ⟨rfl, rfl, rfl⟩
set_option maxHeartbeats 1000000 in
set_option maxRecDepth 100000 in
theorem implFault_id (w : World) (v : Value) (c : Cat) (f : Int) (h : RdC w v c) (hS : ShapeP c) (hP : IdFP c 1 f) :
  Calls Tryz.prog 165 #[v] w (RetF w 1 f 0 0) := by
 have h0 := h
 obtain ⟨va, vb, vc, vd, ve, vf, vg, vh, rfl, h1, h2, h3, h4, _⟩ := h.lists
 go_enter Tryz.func165, Tryz.ntmps165
 refine gc_enter (N := 12) rfl (look_cons (k := 0) rfl (look_nil _)) ?_
 refine gc_sr fun K1 hK1 => ?_
 refine gop fun K3 hK3 => ?_
 refine go_box rfl rfl rfl rfl rfl ?_
 intro B2
 refine hK3 _ _ ?_
 refine gop fun K5 hK5 => ?_
 refine go_alloc (z := (.agg #[.int .i64 0, .int .i64 0, .int .i64 0, .int .i64 0])) (cs := [.int .i64 0, .int .i64 0, .int .i64 0, .int .i64 0]) rfl rfl rfl (fun w => by kernel_rfl) rfl ?_
 intro B4
 refine hK5 _ _ ?_
 refine gnt (hK1 _ _ ?_)
 refine gc_seq fun K6 hK6 => ?_
 refine gc_sr fun K7 hK7 => ?_
 refine gv (qts Tryz.underlying29 (n := 0)) ?_
 refine g_q (.free rfl) rfl rfl (qt_call rfl Tryz.func174 rfl (by decide) rfl (fun w M => idFault_any w _ _ _ _ (mem_rdC M h0) (hS) (hP))) ?_
 refine gop fun K9 hK9 => ?_
 refine go_alloc (z := (.agg #[.int .i64 0, .int .i64 0, .int .i64 0, .int .i64 0])) (cs := [.int .i64 0, .int .i64 0, .int .i64 0, .int .i64 0]) rfl rfl rfl (fun w => by kernel_rfl) rfl ?_
 intro B8
 refine hK9 _ _ ?_
 refine gop fun K10 hK10 => ?_
 refine go_storeS (n := 2) rfl rfl rfl rfl (by kernel_rfl) rfl rfl rfl ?_
 refine hK10 _ _ ?_
 refine gnt (hK7 _ _ ?_)
 refine gc_sr fun K11 hK11 => ?_
 refine gv (qts Tryz.underlying186 (n := 2)) ?_
 refine gv (qt_build rfl rfl bt0_fault) ?_
 refine gv (qt_neA rfl rfl rfl (fun w => eqA_fault _ _ _ _ _ _ _ _ w) eqG_fault) ?_
 refine gnt (hK11 _ _ ?_)
 refine gc_cond rfl (fun hc0 => ?_) (fun hc0 => ?_)
 ·try simp only [decide_eq_true_eq, decide_eq_false_iff_not, Bool.not_eq_true', Bool.not_eq_false', Bool.not_eq_eq_eq_not, Bool.not_true, Bool.not_false] at hc0
  refine gc_sr fun K12 hK12 => ?_
  refine gv (qts Tryz.underlying186 (n := 2)) ?_
  refine gop fun K13 hK13 => ?_
  refine go_storeS (n := 1) rfl rfl rfl rfl (by kernel_rfl) rfl rfl rfl ?_
  refine hK13 _ _ ?_
  refine gnt (hK12 _ _ ?_)
  refine gc_ret ?_
  refine gk_then_ret ?_
  refine ret_S (n := 1) rfl rfl Tryz.underlying186 rfl (by kernel_rfl) rfl (fun w M => ?_)
  exact ⟨rfl, M.1⟩
 ·try simp only [decide_eq_true_eq, decide_eq_false_iff_not, Bool.not_eq_true', Bool.not_eq_false', Bool.not_eq_eq_eq_not, Bool.not_true, Bool.not_false] at hc0
  exact absurd hc0.1 (by decide)
set_option maxHeartbeats 1000000 in
set_option maxRecDepth 100000 in
theorem implFault_as (w : World) (v : Value) (c : Cat) (k f g q : Int) (h : RdC w v c) (hS : ShapeP c) (hP : IdFP c 0 0) (hA : AsP c k f g q) :
  Calls Tryz.prog 165 #[v] w (RetF w k f g q) := by
 have h0 := h
 obtain ⟨va, vb, vc, vd, ve, vf, vg, vh, rfl, h1, h2, h3, h4, _⟩ := h.lists
 go_enter Tryz.func165, Tryz.ntmps165
 refine gc_enter (N := 12) rfl (look_cons (k := 0) rfl (look_nil _)) ?_
 refine gc_sr fun K1 hK1 => ?_
 refine gop fun K3 hK3 => ?_
 refine go_box rfl rfl rfl rfl rfl ?_
 intro B2
 refine hK3 _ _ ?_
 refine gop fun K5 hK5 => ?_
 refine go_alloc (z := (.agg #[.int .i64 0, .int .i64 0, .int .i64 0, .int .i64 0])) (cs := [.int .i64 0, .int .i64 0, .int .i64 0, .int .i64 0]) rfl rfl rfl (fun w => by kernel_rfl) rfl ?_
 intro B4
 refine hK5 _ _ ?_
 refine gnt (hK1 _ _ ?_)
 refine gc_seq fun K6 hK6 => ?_
 refine gc_sr fun K7 hK7 => ?_
 refine gv (qts Tryz.underlying29 (n := 0)) ?_
 refine g_q (.free rfl) rfl rfl (qt_call rfl Tryz.func174 rfl (by decide) rfl (fun w M => idFault_any w _ _ _ _ (mem_rdC M h0) (hS) (hP))) ?_
 refine gop fun K9 hK9 => ?_
 refine go_alloc (z := (.agg #[.int .i64 0, .int .i64 0, .int .i64 0, .int .i64 0])) (cs := [.int .i64 0, .int .i64 0, .int .i64 0, .int .i64 0]) rfl rfl rfl (fun w => by kernel_rfl) rfl ?_
 intro B8
 refine hK9 _ _ ?_
 refine gop fun K10 hK10 => ?_
 refine go_storeS (n := 2) rfl rfl rfl rfl (by kernel_rfl) rfl rfl rfl ?_
 refine hK10 _ _ ?_
 refine gnt (hK7 _ _ ?_)
 refine gc_sr fun K11 hK11 => ?_
 refine gv (qts Tryz.underlying186 (n := 2)) ?_
 refine gv (qt_build rfl rfl bt0_fault) ?_
 refine gv (qt_neA rfl rfl rfl (fun w => eqA_fault _ _ _ _ _ _ _ _ w) eqG_fault) ?_
 refine gnt (hK11 _ _ ?_)
 refine gc_cond rfl (fun hc0 => ?_) (fun hc0 => ?_)
 ·try simp only [decide_eq_true_eq, decide_eq_false_iff_not, Bool.not_eq_true', Bool.not_eq_false', Bool.not_eq_eq_eq_not, Bool.not_true, Bool.not_false] at hc0
  simp at hc0
 ·try simp only [decide_eq_true_eq, decide_eq_false_iff_not, Bool.not_eq_true', Bool.not_eq_false', Bool.not_eq_eq_eq_not, Bool.not_true, Bool.not_false] at hc0
  refine gc_skip ?_
  refine gk_then (hK6 _ _ ?_)
  refine gc_sr fun K12 hK12 => ?_
  refine gv (qts Tryz.underlying29 (n := 0)) ?_
  refine g_q (.free rfl) rfl rfl (qt_call rfl Tryz.func175 rfl (by decide) rfl (fun w M => asFault_any w _ _ _ _ _ _ (mem_rdC M h0) (hS) (hA))) ?_
  refine gop fun K13 hK13 => ?_
  refine go_storeS (n := 1) rfl rfl rfl rfl (by kernel_rfl) rfl rfl rfl ?_
  refine hK13 _ _ ?_
  refine gnt (hK12 _ _ ?_)
  refine gc_ret ?_
  refine ret_S (n := 1) rfl rfl Tryz.underlying186 rfl (by kernel_rfl) rfl (fun w M => ?_)
  exact ⟨rfl, M.1⟩
theorem implFault_any (w : World) (v : Value) (c : Cat) (h : RdC w v c) (hS : ShapeP c) :
  Calls Tryz.prog 165 #[v] w (RetF w (faultOf c).1 (faultOf c).2.1 (faultOf c).2.2.1 (faultOf c).2.2.2) := by
 have hp := faultP_of c
 generalize (faultOf c).1 = k at hp ⊢
 generalize (faultOf c).2.1 = f at hp ⊢
 generalize (faultOf c).2.2.1 = g at hp ⊢
 generalize (faultOf c).2.2.2 = q at hp ⊢
 rcases idFP_of hp with ⟨rfl, rfl, rfl, hi⟩ | ⟨hi, ha⟩
 ·exact implFault_id w v c f h hS hi
 ·exact implFault_as w v c k f g q h hS hi ha
set_option maxHeartbeats 1000000 in
set_option maxRecDepth 100000 in
theorem specIs_any (w : World) (v : Value) (c : Cat) (h : RdC w v c) :
  Calls Tryz.prog 66 #[v] w (RetB w (fIsCategory c)) := by
 have h0 := h
 obtain ⟨va, vb, vc, vd, ve, vf, vg, vh, rfl, h1, h2, h3, h4, _⟩ := h.lists
 go_enter Tryz.func66, Tryz.ntmps66
 refine gc_enter (N := 19) rfl (look_cons (k := 0) rfl (look_nil _)) ?_
 refine gc_sr fun K1 hK1 => ?_
 refine gop fun K3 hK3 => ?_
 refine go_box rfl rfl rfl rfl rfl ?_
 intro B2
 refine hK3 _ _ ?_
 refine gas ?_
 refine gnt (hK1 _ _ ?_)
 refine gc_seq fun K4 hK4 => ?_
 refine gc_sr fun K5 hK5 => ?_
 refine gv (qts Tryz.underlying29 (n := 0)) ?_
 refine g_q (.free rfl) rfl rfl (qt_call rfl Tryz.func96 rfl (by decide) rfl (fun w M => spec_IsShape w _ _ (mem_rdC M h0))) ?_
 refine gv (qt_not rfl rfl) ?_
 refine gnt (hK5 _ _ ?_)
 refine gc_cond rfl (fun hc0 => ?_) (fun hc0 => ?_)
 ·try simp only [decide_eq_true_eq, decide_eq_false_iff_not, Bool.not_eq_true', Bool.not_eq_false', Bool.not_eq_eq_eq_not, Bool.not_true, Bool.not_false] at hc0
  refine gc_sr fun K6 hK6 => ?_
  refine gas ?_
  refine gnt (hK6 _ _ ?_)
  refine gc_ret ?_
  refine gk_then_ret ?_
  refine ret_1 rfl rfl  (fun w M => ?_)
  rw [isCat_f (.inl hc0)]; exact ⟨rfl, M.1⟩
 ·try simp only [decide_eq_true_eq, decide_eq_false_iff_not, Bool.not_eq_true', Bool.not_eq_false', Bool.not_eq_eq_eq_not, Bool.not_true, Bool.not_false] at hc0
  refine gc_skip ?_
  refine gk_then (hK4 _ _ ?_)
  refine gc_sr fun K7 hK7 => ?_
  refine gv (qts Tryz.underlying29 (n := 0)) ?_
  refine g_q (.free rfl) rfl rfl (qt_call rfl Tryz.func97 rfl (by decide) rfl (fun w M => specFault_any w _ _ _ _ _ _ (mem_rdC M h0) (shape_iff.1 hc0) (faultP_of c))) ?_
  refine gm ?_
  refine gv (qt_extract rfl rfl rfl) ?_
  refine gv (qt_extract rfl rfl rfl) ?_
  refine gv (qt_extract rfl rfl rfl) ?_
  refine gv (qt_extract rfl rfl rfl) ?_
  refine gas ?_
  refine gas ?_
  refine gas ?_
  refine gas ?_
  refine gnt (hK7 _ _ ?_)
  refine gc_sr fun K8 hK8 => ?_
  refine gm ?_
  refine gv (qt_eql rfl rfl rfl) ?_
  refine gas ?_
  refine gnt (hK8 _ _ ?_)
  refine gc_ret ?_
  refine ret_1 rfl rfl  (fun w M => ?_)
  refine ⟨?_, M.1⟩; by_cases hz : (faultOf c).1 = 0
  ·rw [isCat_t hc0 hz, decide_eq_true hz]
  ·rw [isCat_f (.inr hz), decide_eq_false hz]
set_option maxHeartbeats 1000000 in
set_option maxRecDepth 100000 in
theorem impl_IsCategory (w : World) (v : Value) (c : Cat) (h : RdC w v c) :
  Calls Tryz.prog 149 #[v] w (RetB w (fIsCategory c)) := by
 have h0 := h
 obtain ⟨va, vb, vc, vd, ve, vf, vg, vh, rfl, h1, h2, h3, h4, _⟩ := h.lists
 go_enter Tryz.func149, Tryz.ntmps149
 refine gc_enter (N := 11) rfl (look_cons (k := 0) rfl (look_nil _)) ?_
 refine gc_sr fun K1 hK1 => ?_
 refine gop fun K3 hK3 => ?_
 refine go_box rfl rfl rfl rfl rfl ?_
 intro B2
 refine hK3 _ _ ?_
 refine gas ?_
 refine gnt (hK1 _ _ ?_)
 refine gc_sr fun K4 hK4 => ?_
 refine gv (qts Tryz.underlying29 (n := 0)) ?_
 refine g_q (.free rfl) rfl rfl (qt_call rfl Tryz.func164 rfl (by decide) rfl (fun w M => impl_IsShape w _ _ (mem_rdC M h0))) ?_
 refine g_splitv (.free rfl) rfl rfl (qt_move rfl rfl) (fun hs1_2 => ?_) (fun hs1_2 => ?_)
 ·try simp only [decide_eq_true_eq, decide_eq_false_iff_not, Bool.not_eq_true', Bool.not_eq_false', Bool.not_eq_eq_eq_not, Bool.not_true, Bool.not_false] at hs1_2
  refine gvh (qts Tryz.underlying29 (n := 0)) ?_
  refine g_q (.held _ _ _ rfl rfl rfl) rfl rfl (qt_call rfl Tryz.func165 rfl (by decide) rfl (fun w M => implFault_any w _ _ (mem_rdC M h0) (shape_iff.1 hs1_2))) ?_
  refine gvh (qt_build rfl rfl bt0_fault) ?_
  refine gvh (qt_eqA rfl rfl rfl (fun w => eqA_fault _ _ _ _ _ _ _ _ w) eqG_fault) ?_
  refine gv (qt_pick_t rfl rfl rfl) ?_
  refine gas ?_
  refine gnt (hK4 _ _ ?_)
  refine gc_ret ?_
  refine ret_1 rfl rfl  (fun w M => ?_)
  refine ⟨?_, M.1⟩
  by_cases hz : (faultOf c).1 = 0
  ·rw [isCat_t hs1_2 hz, decide_eq_true ⟨hz, (fault_z hz).1, (fault_z hz).2.1, (fault_z hz).2.2⟩]
  ·rw [isCat_f (.inr hz), decide_eq_false (fun h => hz h.1)]
 ·try simp only [decide_eq_true_eq, decide_eq_false_iff_not, Bool.not_eq_true', Bool.not_eq_false', Bool.not_eq_eq_eq_not, Bool.not_true, Bool.not_false] at hs1_2
  refine gsk ?_
  refine gsk ?_
  refine gsk ?_
  refine gsk ?_
  refine gv (qt_pick_f rfl rfl rfl) ?_
  refine gas ?_
  refine gnt (hK4 _ _ ?_)
  refine gc_ret ?_
  refine ret_1 rfl rfl  (fun w M => ?_)
  rw [isCat_f (.inl hs1_2)]; exact ⟨rfl, M.1⟩
end Go.Proofs.YtpcabkdkdnchaaaGreat
set_option linter.unusedSimpArgs false
set_option linter.unusedVariables false
set_option linter.unusedSectionVars false
namespace Go.Proofs.YtpcabkdkdnchaaaGreat
open Go.RowKit
set_option maxHeartbeats 1000000 in
set_option maxRecDepth 100000 in
theorem clone_any (w : World) (v : Value) (xs : List Int) (h : Rd w v xs) :
  Calls Tryz.prog 158 #[v] w (RetL w xs) := by
 obtain ⟨va, vc, rfl⟩ := rd_form h
 have hxl : xs.length ≤ 17592186044415 := by obtain ⟨_, _, _, hl, _⟩ := h; exact hl
 go_enter Tryz.func158, Tryz.ntmps158
 refine gc_enter (N := 8) rfl (look_cons (k := 0) rfl (look_nil _)) ?_
 refine gc_sr fun K1 hK1 => ?_
 refine gas ?_
 refine gnt (hK1 _ _ ?_)
 refine gc_seq fun K2 hK2 => ?_
 refine gc_sr fun K3 hK3 => ?_
 refine gm ?_
 refine gv (qt_eqNil rfl rfl Tryz.underlying22) ?_
 refine gnt (hK3 _ _ ?_)
 refine gc_cond rfl (fun hc0 => ?_) (fun hc0 => ?_)
 ·try simp only [decide_eq_true_eq, decide_eq_false_iff_not, Bool.not_eq_true', Bool.not_eq_false', Bool.not_eq_eq_eq_not, Bool.not_true, Bool.not_false] at hc0
  refine gc_sr fun K4 hK4 => ?_
  refine gas ?_
  refine gnt (hK4 _ _ ?_)
  refine gc_ret ?_
  refine gk_then_ret ?_
  refine ret_1 rfl rfl  (fun w M => ?_)
  have hx : xs = [] := by rcases nil_rd h hc0 with h | h <;> first | exact h.2 | exact h
  subst hx
  exact ⟨_, rfl, Sl.nil _ _, M.1⟩
 ·try simp only [decide_eq_true_eq, decide_eq_false_iff_not, Bool.not_eq_true', Bool.not_eq_false', Bool.not_eq_eq_eq_not, Bool.not_true, Bool.not_false] at hc0
  refine gc_skip ?_
  refine gk_then (hK2 _ _ ?_)
  refine gc_sr fun K5 hK5 => ?_
  refine gop fun K7 hK7 => ?_
  refine go_slice0 rfl rfl rfl Tryz.underlying22 ?_
  intro B6
  refine hK7 _ _ ?_
  refine gm ?_
  refine gop fun K9 hK9 => ?_
  refine go_appendL (n := 0) rfl rfl rfl Tryz.underlying22 rfl rfl rfl (fun w M => mem_rd M h) (by assumption) (by first | simp; omega | omega) ?_
  intro va8 vc8
  refine hK9 _ _ ?_
  refine gas ?_
  refine gnt (hK5 _ _ ?_)
  refine gc_ret ?_
  refine ret_1 rfl rfl  (fun w M => ?_)
  exact ⟨_, rfl, mem_own1 (n := 0) M rfl, M.1⟩
theorem rd2_len {w : World} {v : Value} {rows : List (List Int)} (h : Rd2 w v rows) : rows.length ≤ 5000000000000 := by obtain ⟨_, _, _, hl, _⟩ := h; exact hl
theorem fill_next {rows : List (List Int)} {k : Nat} (hk : k < rows.length) :
  (rows.take k ++ List.replicate (rows.length - k) []).set ((k : Int)).toNat (row2 rows (k : Int)) = rows.take (k + 1) ++ List.replicate (rows.length - (k + 1)) [] := by
 have := rows_fill hk
 simpa [row2] using this
theorem fill_len {rows : List (List Int)} {k : Nat} (hk : k ≤ rows.length) : (rows.take k ++ List.replicate (rows.length - k) ([] : List Int)).length = rows.length := by simp; omega
theorem fill_end {rows : List (List Int)} : rows.take rows.length ++ List.replicate (rows.length - rows.length) ([] : List Int) = rows := by simp
theorem fill_start {rows : List (List Int)} : rows.take 0 ++ List.replicate (rows.length - 0) ([] : List Int) = List.replicate rows.length [] := by simp
set_option maxHeartbeats 1000000 in
set_option maxRecDepth 100000 in
theorem copied_any (w : World) (v : Value) (c : Cat) (h : RdC w v c) :
  Calls Tryz.prog 150 #[v] w (RetC w c) := by
 have h0 := h
 obtain ⟨va, vb, vc, vd, ve, vf, vg, vh, rfl, h1, h2, h3, h4, _⟩ := h.lists
 have hml := rd2_len h4
 go_enter Tryz.func150, Tryz.ntmps150
 refine gc_enter (N := 37) rfl (look_cons (k := 0) rfl (look_nil _)) ?_
 refine gc_sr fun K1 hK1 => ?_
 refine gop fun K3 hK3 => ?_
 refine go_box rfl rfl rfl rfl rfl ?_
 intro B2
 refine hK3 _ _ ?_
 refine gop fun K5 hK5 => ?_
 refine go_alloc (z := (.agg #[.int .i64 0, .slice none 0 0, .slice none 0 0, .slice none 0 0, .slice none 0 0])) (cs := [.int .i64 0, .slice none 0 0, .slice none 0 0, .slice none 0 0, .slice none 0 0]) rfl rfl rfl (fun w => by kernel_rfl) rfl ?_
 intro B4
 refine hK5 _ _ ?_
 refine gnt (hK1 _ _ ?_)
 refine gc_sr fun K6 hK6 => ?_
 refine gv (qt_field (z := 0) rfl rfl Tryz.underlying29 rfl (by kernel_rfl) rfl) ?_
 refine gv (qtl Tryz.underlying23 (n := 0)) ?_
 refine gv (qt_len rfl rfl ulE2 (fun w M => lenV_rd2 h4)) ?_
 refine gop fun K8 hK8 => ?_
 refine go_make2 rfl rfl rfl Tryz.underlying23 rfl rfl (by omega) ?_
 intro B7
 refine hK8 _ _ ?_
 refine gas ?_
 refine gnt (hK6 _ _ ?_)
 refine gc_seq fun K9 hK9 => ?_
 refine gc_sr fun K10 hK10 => ?_
 refine gv (qt_field (z := 0) rfl rfl Tryz.underlying29 rfl (by kernel_rfl) rfl) ?_
 refine gv (qtl Tryz.underlying23 (n := 0)) ?_
 refine gv (qt_len rfl rfl ulE2 (fun w M => lenV_rd2 h4)) ?_
 refine gm ?_
 refine gnt (hK10 _ _ ?_)
 refine gc_block ?_
 rw [← fill_start]
 try simp only [sL]
 refine gc_loopT ([(0, _), (1, _), (2, _), (3, _), (11, _), (12, _)] : Env) (fun s : Nat × (List Value) => (fun (k : Nat) (us : List Value) => (([(13, .int .i64 (k : Int))] : Env), ([(2, own2U (.slice (some ⟨B7, 0, none⟩) c.m.length c.m.length) us (c.m.take k ++ List.replicate (c.m.length - k) []))] : List (Nat × Itm)), k ≤ c.m.length, c.m.length - k)) s.1 s.2) (0, _) (by repeat first | exact sub_nil | refine sub_cons rfl ?_) rfl (Nat.zero_le _) ?_
 rintro ⟨k, us⟩ hinv KL11 hKL11
 simp only [sU, sL] at hinv hKL11 ⊢
 have hk := hinv
 have hfl := fill_len hk
 refine gc_sr fun K12 hK12 => ?_
 refine gv (qt_lss rfl rfl rfl) ?_
 refine gnt (hK12 _ _ ?_)
 refine gc_seq fun K13 hK13 => ?_
 refine gc_cond rfl (fun hc0 => ?_) (fun hc0 => ?_)
 ·try simp only [decide_eq_true_eq, decide_eq_false_iff_not, Bool.not_eq_true', Bool.not_eq_false', Bool.not_eq_eq_eq_not, Bool.not_true, Bool.not_false] at hc0
  refine gc_skip ?_
  refine gk_then (hK13 _ _ ?_)
  refine gc_seq fun K14 hK14 => ?_
  refine gc_block ?_
  refine gc_sr fun K15 hK15 => ?_
  refine gm ?_
  refine gv (qti2 (fun w M => lenA_rd2 h4)) ?_
  refine g_load2 (.free rfl) rfl rfl rfl rfl Tryz.underlying22 rfl h4 (by omega) (by omega) ?_
  intro ra16 rc16 hr16
  refine gas ?_
  refine gas ?_
  refine gnt (hK15 _ _ ?_)
  refine gc_region ?_
  refine gm ?_
  refine gm ?_
  refine gm ?_
  refine gop fun K18 hK18 => ?_
  refine go_callL rfl rfl rfl Tryz.func158 rfl (by decide) rfl (fun w M => clone_any w _ _ (mem_rd M hr16)) ?_
  intro va17 vc17
  refine hK18 _ _ ?_
  refine gv (qti2 (fun w M => lenA_U (n := 2) rfl M)) ?_
  refine gop fun K19 hK19 => ?_
  refine go_storeRow (n := 2) (m := 3) (m' := 2) rfl rfl rfl rfl (by kernel_rfl) rfl rfl rfl (by omega) (by omega) ?_
  refine hK19 _ _ ?_
  refine g_nil ?_
  refine gk_block ?_
  refine gk_then (hK14 _ _ ?_)
  refine gc_region ?_
  refine gv (qt_add rfl rfl rfl (by omega)) ?_
  refine gm ?_
  refine g_nil ?_
  rw [fill_next (by omega)]
  refine gk_then (gk_take 3 ?_)
  refine gk_sub ?hs_20 (hKL11 (k + 1, _) ?hi_20 ?hm_20)
  case hs_20 => repeat first | exact sub_nil | refine sub_cons rfl ?_
  case hi_20 => omega
  case hm_20 => omega
 ·try simp only [decide_eq_true_eq, decide_eq_false_iff_not, Bool.not_eq_true', Bool.not_eq_false', Bool.not_eq_eq_eq_not, Bool.not_true, Bool.not_false] at hc0
  refine gc_exit ?_
  refine gk_then_exit ?_
  refine gk_then_exit ?_
  refine gk_block_hit ?_
  refine gk_then (hK9 _ _ ?_)
  refine gc_seq fun K21 hK21 => ?_
  obtain rfl : k = c.m.length := by omega
  rw [fill_end]
  try simp only [sL]
  refine ga_start _ (fun w M => mem_erase 1 (M)) ?_
  refine gav 0 rfl (qt_field (z := 0) rfl rfl Tryz.underlying29 rfl (by kernel_rfl) rfl) ?_
  refine gav 1 rfl (qtl Tryz.underlying2 (n := 0)) ?_
  refine gav 2 rfl (qt_field (z := 0) rfl rfl Tryz.underlying29 rfl (by kernel_rfl) rfl) ?_
  refine gav 3 rfl (qtl Tryz.underlying22 (n := 0)) ?_
  refine gav 5 rfl (qt_field (z := 0) rfl rfl Tryz.underlying29 rfl (by kernel_rfl) rfl) ?_
  refine gav 6 rfl (qtl Tryz.underlying22 (n := 0)) ?_
  refine gav 8 rfl (qt_field (z := 0) rfl rfl Tryz.underlying29 rfl (by kernel_rfl) rfl) ?_
  refine gav 9 rfl (qtl Tryz.underlying22 (n := 0)) ?_
  refine gav 11 rfl (qt_move rfl rfl) ?_
  refine gao 4 fun K23 hK23 => ?_
  refine go_callL rfl rfl rfl Tryz.func158 rfl (by decide) rfl (fun w M => clone_any w _ _ (mem_rd M h1)) ?_
  intro va22 vc22
  refine hK23 _ _ (fun w M => (mem_erase 1 (mem_take 3 M) :)) ?_
  refine gao 7 fun K25 hK25 => ?_
  refine go_callL rfl rfl rfl Tryz.func158 rfl (by decide) rfl (fun w M => clone_any w _ _ (mem_rd M h2)) ?_
  intro va24 vc24
  refine hK25 _ _ (fun w M => (mem_erase 1 (mem_take 3 M) :)) ?_
  refine gao 10 fun K27 hK27 => ?_
  refine go_callL rfl rfl rfl Tryz.func158 rfl (by decide) rfl (fun w M => clone_any w _ _ (mem_rd M h3)) ?_
  intro va26 vc26
  refine hK27 _ _ (fun w M => (mem_erase 1 (mem_take 3 M) :)) ?_
  refine gav 12 rfl (qt_build rfl rfl bt_Category) ?_
  refine gao 13 fun K28 hK28 => ?_
  refine go_storeS (n := 1) rfl rfl rfl rfl (by kernel_rfl) rfl rfl rfl ?_
  refine hK28 _ _ (fun w M => (mem_erase 1 (mem_take 3 M) :)) ?_
  refine ga_done (by kernel_rfl) ?_
  refine gk_then (hK21 _ _ ?_)
  refine gc_ret ?_
  refine ret_S (n := 1) rfl rfl Tryz.underlying29 rfl (by kernel_rfl) rfl (fun w M => ?_)
  exact ⟨_, rfl, ownC_star (mem_pick (n := 5) (mem_pick (n := 5) (mem_pick (n := 5) (mem_pick (n := 2) (M) rfl) rfl) rfl) rfl).2, M.1⟩
theorem isCat_of {c : Cat} (h : fIsCategory c = true) : IsCat c := bP_iff.1 h
set_option maxHeartbeats 1000000 in
set_option maxRecDepth 100000 in
theorem readCategory_f (w : World) (v : Value) (c : Cat) (h : RdC w v c) (hI : fIsCategory c = false) :
  Calls Tryz.prog 123 #[v] w (RetCI w cat0 1) := by
 have h0 := h
 obtain ⟨va, vb, vc, vd, ve, vf, vg, vh, rfl, h1, h2, h3, h4, _⟩ := h.lists
 go_enter Tryz.func123, Tryz.ntmps123
 refine gc_enter (N := 10) rfl (look_cons (k := 0) rfl (look_nil _)) ?_
 refine gc_sr fun K1 hK1 => ?_
 refine gop fun K3 hK3 => ?_
 refine go_box rfl rfl rfl rfl rfl ?_
 intro B2
 refine hK3 _ _ ?_
 refine gop fun K5 hK5 => ?_
 refine go_alloc (z := (.agg #[.int .i64 0, .slice none 0 0, .slice none 0 0, .slice none 0 0, .slice none 0 0])) (cs := [.int .i64 0, .slice none 0 0, .slice none 0 0, .slice none 0 0, .slice none 0 0]) rfl rfl rfl (fun w => by kernel_rfl) rfl ?_
 intro B4
 refine hK5 _ _ ?_
 refine gas ?_
 refine gnt (hK1 _ _ ?_)
 refine gc_seq fun K6 hK6 => ?_
 refine gc_sr fun K7 hK7 => ?_
 refine gv (qts Tryz.underlying29 (n := 0)) ?_
 refine g_q (.free rfl) rfl rfl (qt_call rfl Tryz.func149 rfl (by decide) rfl (fun w M => impl_IsCategory w _ _ (mem_rdC M h0))) ?_
 refine gv (qt_not rfl rfl) ?_
 refine gnt (hK7 _ _ ?_)
 refine gc_cond rfl (fun hc0 => ?_) (fun hc0 => ?_)
 ·try simp only [decide_eq_true_eq, decide_eq_false_iff_not, Bool.not_eq_true', Bool.not_eq_false', Bool.not_eq_eq_eq_not, Bool.not_true, Bool.not_false] at hc0
  refine gc_sr fun K8 hK8 => ?_
  refine gv (qt_build rfl rfl bt0_Category) ?_
  refine gop fun K9 hK9 => ?_
  refine go_storeS (n := 1) rfl rfl rfl rfl (by kernel_rfl) rfl rfl rfl ?_
  refine hK9 _ _ ?_
  refine gas ?_
  refine gnt (hK8 _ _ ?_)
  refine gc_ret ?_
  refine gk_then_ret ?_
  refine ret_SI (n := 1) rfl rfl rfl Tryz.underlying29 rfl (by kernel_rfl) rfl (fun w M => ?_)
  exact ⟨_, rfl, ownC_zero _ _, M.1⟩
 ·try simp only [decide_eq_true_eq, decide_eq_false_iff_not, Bool.not_eq_true', Bool.not_eq_false', Bool.not_eq_eq_eq_not, Bool.not_true, Bool.not_false] at hc0
  rw [hI] at hc0; cases hc0
set_option maxHeartbeats 1000000 in
set_option maxRecDepth 100000 in
theorem readCategory_t (w : World) (v : Value) (c : Cat) (h : RdC w v c) (hI : fIsCategory c = true) :
  Calls Tryz.prog 123 #[v] w (RetCI w c 0) := by
 have h0 := h
 obtain ⟨va, vb, vc, vd, ve, vf, vg, vh, rfl, h1, h2, h3, h4, _⟩ := h.lists
 go_enter Tryz.func123, Tryz.ntmps123
 refine gc_enter (N := 10) rfl (look_cons (k := 0) rfl (look_nil _)) ?_
 refine gc_sr fun K1 hK1 => ?_
 refine gop fun K3 hK3 => ?_
 refine go_box rfl rfl rfl rfl rfl ?_
 intro B2
 refine hK3 _ _ ?_
 refine gop fun K5 hK5 => ?_
 refine go_alloc (z := (.agg #[.int .i64 0, .slice none 0 0, .slice none 0 0, .slice none 0 0, .slice none 0 0])) (cs := [.int .i64 0, .slice none 0 0, .slice none 0 0, .slice none 0 0, .slice none 0 0]) rfl rfl rfl (fun w => by kernel_rfl) rfl ?_
 intro B4
 refine hK5 _ _ ?_
 refine gas ?_
 refine gnt (hK1 _ _ ?_)
 refine gc_seq fun K6 hK6 => ?_
 refine gc_sr fun K7 hK7 => ?_
 refine gv (qts Tryz.underlying29 (n := 0)) ?_
 refine g_q (.free rfl) rfl rfl (qt_call rfl Tryz.func149 rfl (by decide) rfl (fun w M => impl_IsCategory w _ _ (mem_rdC M h0))) ?_
 refine gv (qt_not rfl rfl) ?_
 refine gnt (hK7 _ _ ?_)
 refine gc_cond rfl (fun hc0 => ?_) (fun hc0 => ?_)
 ·try simp only [decide_eq_true_eq, decide_eq_false_iff_not, Bool.not_eq_true', Bool.not_eq_false', Bool.not_eq_eq_eq_not, Bool.not_true, Bool.not_false] at hc0
  rw [hI] at hc0; cases hc0
 ·try simp only [decide_eq_true_eq, decide_eq_false_iff_not, Bool.not_eq_true', Bool.not_eq_false', Bool.not_eq_eq_eq_not, Bool.not_true, Bool.not_false] at hc0
  refine gc_skip ?_
  refine gk_then (hK6 _ _ ?_)
  refine gc_sr fun K8 hK8 => ?_
  refine gv (qts Tryz.underlying29 (n := 0)) ?_
  refine gop fun K10 hK10 => ?_
  refine go_callC rfl rfl rfl Tryz.func150 rfl (by decide) rfl (fun w M => copied_any w _ _ (mem_rdC M h0)) ?_
  intro ca9 cb9 cc9 cd9 ce9 cf9 cg9 ch9 cu9
  refine hK10 _ _ ?_
  refine gop fun K11 hK11 => ?_
  refine go_storeS (n := 1) rfl rfl rfl rfl (by kernel_rfl) rfl rfl rfl ?_
  refine hK11 _ _ ?_
  refine gas ?_
  refine gnt (hK8 _ _ ?_)
  refine gc_ret ?_
  refine ret_SI (n := 1) rfl rfl rfl Tryz.underlying29 rfl (by kernel_rfl) rfl (fun w M => ?_)
  exact ⟨_, rfl, ownC_star (mem_pick (n := 5) (mem_pick (n := 5) (mem_pick (n := 5) (mem_pick (n := 5) (M) rfl) rfl) rfl) rfl).2, M.1⟩
end Go.Proofs.YtpcabkdkdnchaaaGreat
set_option linter.unusedSimpArgs false
set_option linter.unusedVariables false
set_option linter.unusedSectionVars false
namespace Go.Proofs.YtpcabkdkdnchaaaGreat
open Go.RowKit
def homTo (c : Cat) (x y : Int) (k : Nat) : List Int := ((List.range k).filter fun (j : Nat) => decide (at0 c.s j = x ∧ at0 c.t j = y)).map fun (j : Nat) => (j : Int)
theorem homTo_succ_t {c : Cat} {x y : Int} {k : Nat} (h : at0 c.s k = x) (h' : at0 c.t k = y) : homTo c x y (k + 1) = homTo c x y k ++ [(k : Int)] := by
 simp [homTo, List.range_succ, List.filter_append, h, h']
theorem homTo_succ_f {c : Cat} {x y : Int} {k : Nat} (h : ¬ (at0 c.s k = x ∧ at0 c.t k = y)) : homTo c x y (k + 1) = homTo c x y k := by
 simp [homTo, List.range_succ, List.filter_append, h]
theorem homTo_len (c : Cat) (x y : Int) (k : Nat) : (homTo c x y k).length ≤ k := by
 have := List.length_filter_le (fun (j : Nat) => decide (at0 c.s j = x ∧ at0 c.t j = y)) (List.range k)
 simpa [homTo] using this
set_option maxHeartbeats 1000000 in
set_option maxRecDepth 100000 in
theorem specHom_any (w : World) (v : Value) (c : Cat) (x y : Int) (h : RdC w v c) (hS : ShapeP c) :
  Calls Tryz.prog 110 #[v, .int .i64 x, .int .i64 y] w (RetL w (homTo c x y c.s.length)) := by
 have h0 := h
 obtain ⟨va, vb, vc, vd, ve, vf, vg, vh, rfl, h1, h2, h3, h4, _⟩ := h.lists
 have hn40 := hS.n40; have htl := hS.tl
 go_enter Tryz.func110, Tryz.ntmps110
 refine gc_enter (N := 38) rfl (look_cons (k := 0) rfl (look_cons (k := 1) rfl (look_cons (k := 2) rfl (look_nil _)))) ?_
 refine gc_sr fun K1 hK1 => ?_
 refine gop fun K3 hK3 => ?_
 refine go_box rfl rfl rfl rfl rfl ?_
 intro B2
 refine hK3 _ _ ?_
 refine gas ?_
 refine gnt (hK1 _ _ ?_)
 refine gc_sr fun K4 hK4 => ?_
 refine gop fun K6 hK6 => ?_
 refine go_slice0 rfl rfl rfl Tryz.underlying22 ?_
 intro B5
 refine hK6 _ _ ?_
 refine gas ?_
 refine gnt (hK4 _ _ ?_)
 refine gc_seq fun K7 hK7 => ?_
 refine gc_sr fun K8 hK8 => ?_
 refine gas ?_
 refine gnt (hK8 _ _ ?_)
 refine gc_block ?_
 try simp only [sL]
 refine gc_loopT ([(0, _), (1, _), (2, _), (3, _), (6, _)] : Env) (fun s : Nat × (Option Addr) × Nat => (fun (k : Nat) (a : Option Addr) (q : Nat) => (([(7, .slice a (homTo c x y k).length q), (8, .int .i64 (k : Int))] : Env), ([(1, own1I (.slice a (homTo c x y k).length q) (homTo c x y k))] : List (Nat × Itm)), k ≤ c.s.length, c.s.length - k)) s.1 s.2.1 s.2.2) (0, _, _) (by repeat first | exact sub_nil | refine sub_cons rfl ?_) rfl (Nat.zero_le _) ?_
 rintro ⟨k, a, q⟩ hinv KL9 hKL9
 simp only [sU, sL] at hinv hKL9 ⊢
 obtain hk := hinv
 have hl := homTo_len c x y k
 refine gc_seq fun K10 hK10 => ?_
 refine gc_sr fun K11 hK11 => ?_
 refine gm ?_
 refine gv (qt_field (z := 0) rfl rfl Tryz.underlying29 rfl (by kernel_rfl) rfl) ?_
 refine gv (qtl Tryz.underlying22 (n := 0)) ?_
 refine gv (qln (fun w M => lenV_rd h1)) ?_
 refine gv (qt_lss rfl rfl rfl) ?_
 refine gnt (hK11 _ _ ?_)
 refine gc_cond rfl (fun hc0 => ?_) (fun hc0 => ?_)
 ·try simp only [decide_eq_true_eq, decide_eq_false_iff_not, Bool.not_eq_true', Bool.not_eq_false', Bool.not_eq_eq_eq_not, Bool.not_true, Bool.not_false] at hc0
  refine gc_skip ?_
  refine gk_then (hK10 _ _ ?_)
  refine gc_seq fun K12 hK12 => ?_
  refine gc_block ?_
  refine gc_sr fun K13 hK13 => ?_
  refine gv (qt_field (z := 0) rfl rfl Tryz.underlying29 rfl (by kernel_rfl) rfl) ?_
  refine gv (qtl Tryz.underlying22 (n := 0)) ?_
  refine gm ?_
  refine gv (qti (fun w M => lenA_rd h1)) ?_
  refine gv (qtd (fun w M => mem_rd M h1)) ?_
  refine gm ?_
  refine gv (qt_eql rfl rfl rfl) ?_
  refine g_splitv (.free rfl) rfl rfl (qt_move rfl rfl) (fun hs5_7 => ?_) (fun hs5_7 => ?_)
  ·try simp only [decide_eq_true_eq, decide_eq_false_iff_not, Bool.not_eq_true', Bool.not_eq_false', Bool.not_eq_eq_eq_not, Bool.not_true, Bool.not_false] at hs5_7
   refine gvh (qt_field (z := 0) rfl rfl Tryz.underlying29 rfl (by kernel_rfl) rfl) ?_
   refine gvh (qtl Tryz.underlying22 (n := 0)) ?_
   refine gvh (qt_move rfl rfl) ?_
   refine gvh (qti (fun w M => lenA_rd h2)) ?_
   refine gvh (qtd (fun w M => mem_rd M h2)) ?_
   refine gvh (qt_move rfl rfl) ?_
   refine gvh (qt_eql rfl rfl rfl) ?_
   refine gv (qt_pick_t rfl rfl rfl) ?_
   refine gnt (hK13 _ _ ?_)
   refine gc_cond rfl (fun hc1 => ?_) (fun hc1 => ?_)
   ·try simp only [decide_eq_true_eq, decide_eq_false_iff_not, Bool.not_eq_true', Bool.not_eq_false', Bool.not_eq_eq_eq_not, Bool.not_true, Bool.not_false] at hc1
    refine gc_region ?_
    refine gm ?_
    refine gm ?_
    refine gop fun K15 hK15 => ?_
    refine go_slice1 rfl rfl rfl rfl Tryz.underlying22 ?_
    intro B14
    refine hK15 _ _ ?_
    refine gop fun K17 hK17 => ?_
    refine go_append (n := 1) (m := 2) rfl rfl rfl Tryz.underlying22 rfl rfl rfl rfl (by omega) ?_
    intro va16 vc16
    refine hK17 _ _ ?_
    refine gas ?_
    refine g_nil ?_
    refine gk_block ?_
    refine gk_then (hK12 _ _ ?_)
    refine gc_region ?_
    refine gm ?_
    refine gv (qt_add rfl rfl rfl (by omega)) ?_
    refine gas ?_
    refine g_nil ?_
    rw [← homTo_succ_t hs5_7 hc1]
    refine gk_then (gk_take 2 ?_)
    refine gk_sub ?hs_18 (hKL9 (k + 1, _, _) ?hi_18 ?hm_18)
    case hs_18 => repeat first | exact sub_nil | refine sub_cons rfl ?_
    case hi_18 => omega
    case hm_18 => omega
   ·try simp only [decide_eq_true_eq, decide_eq_false_iff_not, Bool.not_eq_true', Bool.not_eq_false', Bool.not_eq_eq_eq_not, Bool.not_true, Bool.not_false] at hc1
    refine gc_skip ?_
    refine gk_block ?_
    refine gk_then (hK12 _ _ ?_)
    refine gc_region ?_
    refine gm ?_
    refine gv (qt_add rfl rfl rfl (by omega)) ?_
    refine gas ?_
    refine g_nil ?_
    rw [← homTo_succ_f (fun h => hc1 h.2)]
    refine gk_then (gk_take 2 ?_)
    refine gk_sub ?hs_19 (hKL9 (k + 1, _, _) ?hi_19 ?hm_19)
    case hs_19 => repeat first | exact sub_nil | refine sub_cons rfl ?_
    case hi_19 => omega
    case hm_19 => omega
  ·try simp only [decide_eq_true_eq, decide_eq_false_iff_not, Bool.not_eq_true', Bool.not_eq_false', Bool.not_eq_eq_eq_not, Bool.not_true, Bool.not_false] at hs5_7
   refine gsk ?_
   refine gsk ?_
   refine gsk ?_
   refine gsk ?_
   refine gsk ?_
   refine gsk ?_
   refine gsk ?_
   refine gv (qt_pick_f rfl rfl rfl) ?_
   refine gnt (hK13 _ _ ?_)
   refine gc_cond_f rfl ?_
   refine gc_skip ?_
   refine gk_block ?_
   refine gk_then (hK12 _ _ ?_)
   refine gc_region ?_
   refine gm ?_
   refine gv (qt_add rfl rfl rfl (by omega)) ?_
   refine gas ?_
   refine g_nil ?_
   rw [← homTo_succ_f (fun h => hs5_7 h.1)]
   refine gk_then (gk_take 2 ?_)
   refine gk_sub ?hs_20 (hKL9 (k + 1, _, _) ?hi_20 ?hm_20)
   case hs_20 => repeat first | exact sub_nil | refine sub_cons rfl ?_
   case hi_20 => omega
   case hm_20 => omega
 ·try simp only [decide_eq_true_eq, decide_eq_false_iff_not, Bool.not_eq_true', Bool.not_eq_false', Bool.not_eq_eq_eq_not, Bool.not_true, Bool.not_false] at hc0
  refine gc_exit ?_
  refine gk_then_exit ?_
  refine gk_then_exit ?_
  refine gk_block_hit ?_
  refine gk_then (hK7 _ _ ?_)
  refine gc_sr fun K21 hK21 => ?_
  refine gm ?_
  refine gas ?_
  refine gnt (hK21 _ _ ?_)
  refine gc_ret ?_
  refine ret_1 rfl rfl  (fun w M => ?_)
  have hkk : k = c.s.length := by omega
  subst hkk
  exact ⟨_, rfl, mem_own1 (n := 1) M rfl, M.1⟩
end Go.Proofs.YtpcabkdkdnchaaaGreat
set_option linter.unusedSimpArgs false
set_option linter.unusedVariables false
set_option linter.unusedSectionVars false
namespace Go.Proofs.YtpcabkdkdnchaaaGreat
open Go.RowKit
theorem th_none {c : Cat} (hS : ShapeP c) {f g : Int} (f0 : 0 ≤ f) (f1 : f < c.s.length) (g0 : 0 ≤ g) (g1 : g < c.s.length) : c.th f g = -1 ↔ at0 c.t f ≠ at0 c.s g := by
 obtain ⟨a, rfl⟩ := Int.eq_ofNat_of_zero_le f0
 obtain ⟨b, rfl⟩ := Int.eq_ofNat_of_zero_le g0
 have hc := hS.co a b (by omega) (by omega)
 constructor
 ·intro h he
  have := (hc.1 he).1.1
  omega
 ·exact hc.2
set_option maxHeartbeats 1000000 in
set_option maxRecDepth 100000 in
theorem specThen_any (w : World) (v : Value) (c : Cat) (f g : Int) (h : RdC w v c) (f0 : 0 ≤ f) (f1 : f < c.m.length) (g0 : 0 ≤ g) (g1 : g < (row2 c.m f).length) :
  Calls Tryz.prog 129 #[v, .int .i64 f, .int .i64 g] w (RetI w (c.th f g)) := by
 have h0 := h
 obtain ⟨va, vb, vc, vd, ve, vf, vg, vh, rfl, h1, h2, h3, h4, _⟩ := h.lists
 go_enter Tryz.func129, Tryz.ntmps129
 refine gc_enter (N := 15) rfl (look_cons (k := 0) rfl (look_cons (k := 1) rfl (look_cons (k := 2) rfl (look_nil _)))) ?_
 refine gc_sr fun K1 hK1 => ?_
 refine gop fun K3 hK3 => ?_
 refine go_box rfl rfl rfl rfl rfl ?_
 intro B2
 refine hK3 _ _ ?_
 refine gas ?_
 refine gnt (hK1 _ _ ?_)
 refine gc_sr fun K4 hK4 => ?_
 refine gv (qt_field (z := 0) rfl rfl Tryz.underlying29 rfl (by kernel_rfl) rfl) ?_
 refine gv (qtl Tryz.underlying23 (n := 0)) ?_
 refine gm ?_
 refine gv (qti2 (fun w M => lenA_rd2 h4)) ?_
 refine g_load2 (.free rfl) rfl rfl rfl rfl Tryz.underlying22 rfl h4 (by omega) (by omega) ?_
 intro ra5 rc5 hr5
 refine gm ?_
 refine gv (qti (fun w M => lenA_rd hr5)) ?_
 refine gv (qtd (fun w M => mem_rd M hr5)) ?_
 refine gas ?_
 refine gnt (hK4 _ _ ?_)
 refine gc_ret ?_
 refine ret_1 rfl rfl  (fun w M => ?_)
 exact ⟨rfl, M.1⟩
end Go.Proofs.YtpcabkdkdnchaaaGreat
set_option linter.unusedSimpArgs false
set_option linter.unusedVariables false
set_option linter.unusedSectionVars false
namespace Go.Proofs.YtpcabkdkdnchaaaGreat
open Go.RowKit
def pathGo (c : Cat) : Int → List Int → Int × Int
 | h, [] => (h, 0)
 | h, f :: r => if at0 c.t h = at0 c.s f then pathGo c (c.th h f) r else (0, 5)
structure PathI (c : Cat) (e0 : Int) (xs : List Int) (k : Nat) (h : Int) : Prop where
 kl : k ≤ xs.length
 h0 : 0 ≤ h
 h1 : h < c.s.length
 go : pathGo c h (xs.drop k) = pathGo c e0 xs
theorem bP_f' {p : Prop} (h : bP p = false) : ¬ p := fun hp => by rw [bP_t hp] at h; cases h
theorem bP_t' {p : Prop} (h : bP p = true) : p := bP_iff.1 h
set_option maxHeartbeats 1000000 in
set_option maxRecDepth 100000 in
theorem arrowsBetween_any (w : World) (v : Value) (c : Cat) (x y : Int) (h : RdC w v c) (hS : ShapeP c) :
  Calls Tryz.prog 116 #[v, .agg #[.int .i64 x, .int .i64 y]] w (RetL w (homTo c x y c.s.length)) := by
 have h0 := h
 obtain ⟨va, vb, vc, vd, ve, vf, vg, vh, rfl, h1, h2, h3, h4, _⟩ := h.lists
 have hn40 := hS.n40; have htl := hS.tl
 go_enter Tryz.func116, Tryz.ntmps116
 refine gc_enter (N := 23) rfl (look_cons (k := 0) rfl (look_cons (k := 1) rfl (look_nil _))) ?_
 refine gc_sr fun K1 hK1 => ?_
 refine gop fun K3 hK3 => ?_
 refine go_box rfl rfl rfl rfl rfl ?_
 intro B2
 refine hK3 _ _ ?_
 refine gop fun K5 hK5 => ?_
 refine go_box rfl rfl rfl rfl rfl ?_
 intro B4
 refine hK5 _ _ ?_
 refine gas ?_
 refine gnt (hK1 _ _ ?_)
 refine gc_sr fun K6 hK6 => ?_
 refine gas ?_
 refine gnt (hK6 _ _ ?_)
 refine gc_seq fun K7 hK7 => ?_
 refine gc_seq fun K8 hK8 => ?_
 refine gc_nilS ?_
 refine gc_region ?_
 refine gv (qts Tryz.underlying29 (n := 0)) ?_
 refine g_q (.free rfl) rfl rfl (qt_call rfl Tryz.func100 rfl (by decide) rfl (fun w M => arrows_any w _ _ (mem_rdC M h0))) ?_
 refine gm ?_
 refine gnt (hK8 _ _ ?_)
 refine gc_block ?_
 try simp only [sL]
 refine gc_loopT ([(0, _), (1, _), (2, _), (3, _), (4, _), (8, _)] : Env) (fun s : Nat × (Option Addr) × Nat => (fun (k : Nat) (a : Option Addr) (q : Nat) => (([(5, .slice a (homTo c x y k).length q), (9, .int .i64 (k : Int))] : Env), ([(2, own1I (.slice a (homTo c x y k).length q) (homTo c x y k))] : List (Nat × Itm)), k ≤ c.s.length, c.s.length - k)) s.1 s.2.1 s.2.2) (0, _, _) (by repeat first | exact sub_nil | refine sub_cons rfl ?_) rfl (Nat.zero_le _) ?_
 rintro ⟨k, a, q⟩ hinv KL9 hKL9
 simp only [sU, sL] at hinv hKL9 ⊢
 have hk := hinv
 have hl := homTo_len c x y k
 refine gc_sr fun K10 hK10 => ?_
 refine gv (qt_lss rfl rfl rfl) ?_
 refine gnt (hK10 _ _ ?_)
 refine gc_seq fun K11 hK11 => ?_
 refine gc_cond rfl (fun hc0 => ?_) (fun hc0 => ?_)
 ·try simp only [sA] at hc0
  refine gc_skip ?_
  refine gk_then (hK11 _ _ ?_)
  refine gc_seq fun K12 hK12 => ?_
  refine gc_block ?_
  refine gc_sr fun K13 hK13 => ?_
  refine gm ?_
  refine gas ?_
  refine gnt (hK13 _ _ ?_)
  refine gc_seq fun K14 hK14 => ?_
  refine gc_draw (by kernel_rfl) ?_
  refine gdv (qts Tryz.underlying29 (n := 0)) ?_
  refine gdv (qt_move rfl rfl) ?_
  refine gd_q (.free rfl) rfl rfl (qt_call rfl Tryz.func146 rfl (by decide) rfl (fun w M => ends_any w _ _ _ (mem_rdC M h0) (by first | assumption | omega) (by first | assumption | omega) (by first | assumption | omega))) ?_
  refine gdv (qts Tryz.underlying72 (n := 1)) ?_
  refine gdv (qt_eqA rfl rfl rfl (fun w => eqA_arrowEnds _ _ _ _ w) eqG_arrowEnds) ?_
  refine gd_nil ?_
  refine gk_then (hK14 _ _ ?_)
  refine gc_cond rfl (fun hc1 => ?_) (fun hc1 => ?_)
  ·try simp only [sA] at hc1
   refine gc_region ?_
   refine gm ?_
   refine gm ?_
   refine gop fun K16 hK16 => ?_
   refine go_slice1 rfl rfl rfl rfl Tryz.underlying22 ?_
   intro B15
   refine hK16 _ _ ?_
   refine gop fun K18 hK18 => ?_
   refine go_append (n := 2) (m := 3) rfl rfl rfl Tryz.underlying22 rfl rfl rfl rfl (by omega) ?_
   intro va17 vc17
   refine hK18 _ _ ?_
   refine gas ?_
   refine g_nil ?_
   refine gk_block ?_
   refine gk_then (hK12 _ _ ?_)
   refine gc_region ?_
   refine gv (qt_add rfl rfl rfl (by omega)) ?_
   refine gm ?_
   refine g_nil ?_
   rw [← homTo_succ_t hc1.1 hc1.2]
   refine gk_then (gk_take 3 ?_)
   refine gk_sub ?hs_19 (hKL9 (k + 1, _, _) ?hi_19 ?hm_19)
   case hs_19 => repeat first | exact sub_nil | refine sub_cons rfl ?_
   case hi_19 => omega
   case hm_19 => omega
  ·try simp only [sA] at hc1
   refine gc_skip ?_
   refine gk_block ?_
   refine gk_then (hK12 _ _ ?_)
   refine gc_region ?_
   refine gv (qt_add rfl rfl rfl (by omega)) ?_
   refine gm ?_
   refine g_nil ?_
   rw [← homTo_succ_f hc1]
   refine gk_then (gk_take 3 ?_)
   refine gk_sub ?hs_20 (hKL9 (k + 1, _, _) ?hi_20 ?hm_20)
   case hs_20 => repeat first | exact sub_nil | refine sub_cons rfl ?_
   case hi_20 => omega
   case hm_20 => omega
 ·try simp only [sA] at hc0
  refine gc_exit ?_
  refine gk_then_exit ?_
  refine gk_then_exit ?_
  refine gk_block_hit ?_
  refine gk_then (hK7 _ _ ?_)
  refine gc_sr fun K21 hK21 => ?_
  refine gm ?_
  refine gas ?_
  refine gnt (hK21 _ _ ?_)
  refine gc_ret ?_
  refine ret_1 rfl rfl  (fun w M => ?_)
  obtain rfl : k = c.s.length := by omega
  exact ⟨_, rfl, mem_own1 (n := 2) M rfl, M.1⟩
end Go.Proofs.YtpcabkdkdnchaaaGreat
namespace Go.Proofs.YtpcabkdkdnchaaaGreat
open Go.RowKit
def RetBI (W : World) (b : Bool) (n : Int) (e : Ending) (w' : World) : Prop := e = .returned (.tuple #[.bool b, .int .i64 n]) ∧ Below W.heap.size W w'
theorem mem_homTo {c : Cat} {x y z : Int} {n : Nat} : z ∈ homTo c x y n ↔ ∃ j : Nat, j < n ∧ z = j ∧ at0 c.s j = x ∧ at0 c.t j = y := by
 simp only [homTo, List.mem_map, List.mem_filter, List.mem_range, decide_eq_true_eq]
 constructor
 ·rintro ⟨j, ⟨h1, h2, h3⟩, rfl⟩; exact ⟨j, h1, rfl, h2, h3⟩
 ·rintro ⟨j, h1, rfl, h2, h3⟩; exact ⟨j, ⟨h1, h2, h3⟩, rfl⟩
theorem homTo_at {c : Cat} {x y : Int} {n k : Nat} (hk : k < (homTo c x y n).length) : 0 ≤ at0 (homTo c x y n) k ∧ at0 (homTo c x y n) k < n ∧ at0 c.s (at0 (homTo c x y n) k) = x ∧ at0 c.t (at0 (homTo c x y n) k) = y := by
 have hm : at0 (homTo c x y n) k ∈ homTo c x y n := by rw [at0_nat]; exact mem_getD hk
 obtain ⟨j, h1, h2, h3, h4⟩ := mem_homTo.1 hm
 rw [h2]; exact ⟨by omega, by omega, h3, h4⟩
theorem th_ends {c : Cat} (hS : ShapeP c) {f g : Int} (f0 : 0 ≤ f) (f1 : f < c.s.length) (g0 : 0 ≤ g) (g1 : g < c.s.length) (h : at0 c.t f = at0 c.s g) : (0 ≤ c.th f g ∧ c.th f g < c.s.length) ∧ at0 c.s (c.th f g) = at0 c.s f ∧ at0 c.t (c.th f g) = at0 c.t g := by
 obtain ⟨a, rfl⟩ := Int.eq_ofNat_of_zero_le f0
 obtain ⟨b, rfl⟩ := Int.eq_ofNat_of_zero_le g0
 exact (hS.co a b (by omega) (by omega)).1 h
theorem all_next {p : Nat → Prop} {k : Nat} (h : ∀ j, j < k → p j) (hk : p k) : ∀ j, j < k + 1 → p j := fun j hj => by
 rcases Nat.lt_or_ge j k with h1 | h1
 ·exact h j h1
 ·rw [show j = k from by omega]; exact hk
noncomputable def catErr (c : Cat) : Int := if fIsCategory c = true then 0 else 1
noncomputable def catCat (c : Cat) : Cat := if fIsCategory c = true then c else cat0
theorem catErr_0 {c : Cat} (h : catErr c = 0) : fIsCategory c = true := by
 unfold catErr at h
 cases hI : fIsCategory c with
 | true => rfl
 | false => rw [if_neg (by rw [hI]; decide)] at h; simp at h
theorem catErr_n {c : Cat} (h : ¬ catErr c = 0) : fIsCategory c = false ∧ catErr c = 1 := by
 unfold catErr at h ⊢
 cases hI : fIsCategory c with
 | true => exact absurd (if_pos hI) h
 | false => exact ⟨rfl, if_neg (by decide)⟩
theorem catCat_t {c : Cat} (h : catErr c = 0) : catCat c = c := if_pos (catErr_0 h)
theorem readCat_any (w : World) (v : Value) (c : Cat) (h : RdC w v c) : Calls Tryz.prog 123 #[v] w (RetCI w (catCat c) (catErr c)) := by
 cases hI : fIsCategory c with
 | false => rw [show catCat c = cat0 from if_neg (by rw [hI]; decide), show catErr c = 1 from if_neg (by rw [hI]; decide)]; exact readCategory_f w v c h hI
 | true => rw [show catCat c = c from if_pos hI, show catErr c = 0 from if_pos hI]; exact readCategory_t w v c h hI
end Go.Proofs.YtpcabkdkdnchaaaGreat
set_option linter.unusedSimpArgs false
set_option linter.unusedVariables false
set_option linter.unusedSectionVars false
namespace Go.Proofs.YtpcabkdkdnchaaaGreat
open Go.RowKit
theorem star_two' {is : List Itm} {n m m' : Nat} {i j : Itm} {w : World} {S : Nat → Prop} (h : Star is w S) (hi : is[n]? = some i) (hj : (is.eraseIdx n)[m']? = some j) (hE : (is.set m trivI).eraseIdx n = (is.eraseIdx n).set m' trivI) :
    ∃ S1 S2 : Nat → Prop, (∀ k, S1 k → S k) ∧ (∀ k, S2 k → S k) ∧ (∀ k, S1 k → ¬ S2 k) ∧ i.p w S1 ∧ j.p w S2 ∧
      ∀ (w' : World) (i' : Itm), FrS S1 w w' → i'.p w' (fun k => (S1 k ∨ S2 k) ∨ w.heap.size ≤ k) → Star ((is.set m trivI).set n i') w' (fun k => S k ∨ w.heap.size ≤ k) := by
  obtain ⟨S1, R, a1, a2, a3, a4, a5⟩ := star_pick is hi h
  obtain ⟨S2, R', b1, b2, b3, b4, b5⟩ := star_pick _ hj a5
  have hn : n < is.length := (List.getElem?_eq_some_iff.1 hi).1
  have hm : m' < (is.eraseIdx n).length := (List.getElem?_eq_some_iff.1 hj).1
  refine ⟨S1, S2, a1, fun k h => a2 k (b1 k h), fun k h h' => a3 k h (b1 k h'), a4, b4, fun w' i' hf hi' => ?_⟩
  refine star_unpick _ (by simpa using hn) ?_
  rw [hE]
  refine ⟨fun k => (S1 k ∨ S2 k) ∨ w.heap.size ≤ k, fun k => R' k ∧ k < w.heap.size, fun k h => h.elim (fun h => .inl (h.elim (a1 k) fun h => a2 k (b1 k h))) .inr, fun k h => .inl (a2 k (b2 k h.1)), fun k h h' => h.elim (fun h => h.elim (fun h => a3 k h (b2 k h'.1)) (fun h => b3 k h h'.1)) (fun h => by have := h'.2; omega), hi', ?_⟩
  refine star_unpick _ hm ⟨fun _ => False, fun k => R' k ∧ k < w.heap.size, fun k h => h.elim, fun k h => h, fun k h => h.elim, trivial, ?_⟩
  exact star_keep _ (fun k hk h => ⟨h, hk⟩) (fun k hk h => hf.block k hk fun e => a3 k e (b2 k h)) b5
section
variable {w0 : World} {is : List Itm} {ops : Array Oper} {Q : Exit → Act → World → Prop} {o : Oper} {rest : List Oper} {N : Frm} {e : Env} {v : Value} {d : Nat} {K : Act → World → Prop}
theorem go_sliceR0 {t : TypeId} (hd : o.dst = some d) (hN : Nat.blt d N = true) (hop : o.op = .buildSlice t 0 #[]) (ht : Tryz.prog.underlying t = some (.slice 22))
    (hk : ∀ B : Nat, GK w0 (is ++ [own2U (.slice (some ⟨B, 0, none⟩) 0 0) [] []]) N K ((d, .slice (some ⟨B, 0, none⟩) 0 0) :: e)) : GO w0 is N o e Q K := by
  intro w ac M F
  have hU : Own2U (.slice (some ⟨w.heap.size, 0, none⟩) 0 0) [] [] (w.alloc (.cells #[] 22)) (fun k => w.heap.size ≤ k) := by
    refine ⟨rfl, by decide, ⟨by simp, .inr ⟨w.heap.size, 0, #[], rfl, Nat.zero_le _, heap_alloc_new w _, Nat.le_refl _, by unfold maxLen; omega, by simp, by simp⟩⟩, fun i hi => absurd hi (by simp), fun i j hij hj => absurd hj (by simp), fun q hq => ?_⟩
    simp [Value.ownBlock] at hq; omega
  refine go_val (v := .slice (some ⟨w.heap.size, 0, none⟩) 0 0) (w' := w.alloc (.cells #[] 22)) hd hN F ?_ fun ac F => hk _ _ ac (mem_new M (below_alloc w _) hU) F
  intro ρ F
  obtain ⟨i, hi, hz, hs, hb⟩ := info_parts infoS
  simp [execOp, hop, Instr.buildSlice, run_underlying ht, sizeOf, typeInfo, hi, hs, Instr.fill, newRow, zeroValue, hz, Value.cells, Sem.run_bind, range0]
theorem go_sliceR1 {t : TypeId} {x : Operand} {m : Nat} {u : Value} {r : List Int} (hd : o.dst = some d) (hN : Nat.blt d N = true) (hop : o.op = .buildSlice t 1 #[(0, x)]) (hx : evo e x = some u) (ht : Tryz.prog.underlying t = some (.slice 22)) (hi : is[m]? = some (own1I u r))
    (hk : ∀ B : Nat, GK w0 (is.set m (own2U (.slice (some ⟨B, 0, none⟩) 1 1) [u] [r])) N K ((d, .slice (some ⟨B, 0, none⟩) 1 1) :: e)) : GO w0 is N o e Q K := by
  intro w ac M F
  obtain ⟨S, hS, hp, hset⟩ := mem_set M hi
  have hp' : Own1 u r w S := hp
  obtain ⟨ua, uc, rfl⟩ := rd_form hp'.rd
  have hU : Own2U (.slice (some ⟨w.heap.size, 0, none⟩) 1 1) [.slice ua r.length uc] [r] (w.alloc (.cells #[.slice ua r.length uc] 22)) (fun k => S k ∨ w.heap.size ≤ k) := by
    refine ⟨rfl, by simp, ⟨by simp, .inr ⟨w.heap.size, 1, #[.slice ua r.length uc], rfl, Nat.zero_le _, heap_alloc_new w _, Nat.le_refl _, by unfold maxLen; omega, by simp, by simp⟩⟩, fun i hi => ?_, fun i j hij hj => by simp at hj; omega, fun q hq => ?_⟩
    · obtain rfl : i = 0 := by simpa using hi
      refine ⟨sl_alloc hp'.1 _, fun q hq hv => ?_, fun q hq => .inl (hp'.2 q hq)⟩
      have := (hp'.1.1.lt q hq).2
      simp only [Value.ownBlock, Option.some.injEq] at hv
      omega
    · simp only [Value.ownBlock, Option.some.injEq] at hq; exact .inr (by omega)
  refine go_val (v := .slice (some ⟨w.heap.size, 0, none⟩) 1 1) (w' := w.alloc (.cells #[.slice ua r.length uc] 22)) hd hN F ?_ fun ac F => hk _ _ ac (hset _ _ (frS_new (below_alloc w _)) hU) F
  intro ρ F; have hx := F _ _ hx
  obtain ⟨i, hi, hz, hs, hb⟩ := info_parts infoS
  simp [execOp, hop, hx, Instr.buildSlice, run_underlying ht, sizeOf, typeInfo, hi, hs, Instr.fill, newRow, zeroValue, hz, Value.cells, Sem.run_bind, range1]
theorem go_appendRow {s x : Operand} {t : TypeId} {n m m' : Nat} {us : List Value} {rows : List (List Int)} {r : List Int} {u ru : Value} (hd : o.dst = some d) (hN : Nat.blt d N = true) (hop : o.op = .call { callee := .builtin .append, args := #[s, x], argTypes := #[t, t] }) (ht : Tryz.prog.underlying t = some (.slice 22))
    (hs : evo e s = some v) (hx : evo e x = some u) (hi : is[n]? = some (own2U v us rows)) (hj : (is.eraseIdx n)[m']? = some (own2U u [ru] [r])) (hE : (is.set m trivI).eraseIdx n = (is.eraseIdx n).set m' trivI) (hn : rows.length + 1 ≤ 5000000000000)
    (hk : ∀ a cap, GK w0 ((is.set m trivI).set n (own2U (.slice a (rows ++ [r]).length cap) (us ++ [ru]) (rows ++ [r]))) N K ((d, .slice a (rows ++ [r]).length cap) :: e)) : GO w0 is N o e Q K := by
  intro w ac M F
  obtain ⟨S1, S2, k1, k2, kd, hp, hq, hset⟩ := star_two' M.2 hi hj hE
  have hp' : Own2U v us rows w S1 := hp
  have hq' : Own2U u [ru] [r] w S2 := hq
  obtain ⟨i, hi', hz, hs1, hb⟩ := info_parts infoS
  obtain ⟨hul, hl2, hown, hrows, hpair, hvS⟩ := hp'
  have hr2 := hq'.2.2.2.1 0 (by simp)
  simp only [List.getD_cons_zero] at hr2
  have hown2 := hq'.2.2.1
  obtain ⟨ra, rc, hru, _⟩ := sl_form hr2.1
  rcases hown2.2 with ⟨_, h⟩ | ⟨g2, c2, cur2, rfl, _⟩
  · simp at h
  obtain ⟨v', w', hr, hown', hgrow, _, hat⟩ := run_append_own_at (P := Tryz.prog) w 0 t o.type 22 i (.slice none 0 0) 1 24 ht hi' hz hs1 hb rfl (by decide) v rows.length us hown ⟨g2, 0, none⟩ 1 c2 [ru] rfl (fun j z hz => by
    have hj0 : j < [ru].length := by
      rcases Nat.lt_or_ge j [ru].length with h | h
      · exact h
      · rw [List.getElem?_eq_none h] at hz; cases hz
    rw [Addr.add_lit, Nat.zero_add, hown2.cellAt j (by simpa using hj0)]; exact hz) (by rw [hru]; simp [Value.oneCell']) (by unfold maxLen; omega) (by omega) (Nat.zero_le _)
  have hvlt : ∀ q, v.ownBlock = some q → q < w.heap.size := fun q hq => (hown.lt q hq).2
  have hk1 : ∀ q, v'.ownBlock = some q → S1 q ∨ w.heap.size ≤ q := fun q hq => by
    rcases hat with h | h
    · exact .inl (hvS q (by rw [← h]; exact hq))
    · rw [h] at hq; simp only [Option.some.injEq] at hq; exact .inr (by omega)
  have hneR : ru.ownBlock = none ∨ ru.ownBlock ≠ v.ownBlock := by
    cases hb0 : ru.ownBlock with
    | none => exact .inl rfl
    | some q => exact .inr fun e => kd q (hvS q e.symm) (hr2.2.2 q hb0)
  have hfin : Own2U v' (us ++ [ru]) (rows ++ [r]) w' (fun k => (S1 k ∨ S2 k) ∨ w.heap.size ≤ k) := by
    refine ⟨by simp [hul], by simpa using hn, by simpa using hown', fun i hi => ?_, fun i j hij hj => ?_, fun q hq => (hk1 q hq).imp .inl id⟩
    · simp only [List.length_append, List.length_singleton] at hi
      rcases Nat.lt_or_ge i rows.length with h | h
      · rw [show (us ++ [ru]).getD i undef = us.getD i undef from by rw [List.getD_eq_getElem?_getD, List.getD_eq_getElem?_getD, List.getElem?_append_left (by omega)], show (rows ++ [r]).getD i [] = rows.getD i [] from by rw [List.getD_eq_getElem?_getD, List.getD_eq_getElem?_getD, List.getElem?_append_left h]]
        obtain ⟨h1, h2, h3⟩ := hrows i h
        refine ⟨sl_kept h1 hgrow (apart_ne h2), fun q hq hv => ?_, fun q hq => .inl (.inl (h3 q hq))⟩
        rcases hat with ha | ha
        · exact h2 q hq (by rw [← ha]; exact hv)
        · rw [ha] at hv; simp only [Option.some.injEq] at hv; have := (h1.1.lt q hq).2; omega
      · obtain rfl : i = rows.length := by omega
        rw [show (us ++ [ru]).getD rows.length undef = ru from by rw [List.getD_eq_getElem?_getD, List.getElem?_append_right (by omega)]; simp [hul], show (rows ++ [r]).getD rows.length [] = r from by rw [List.getD_eq_getElem?_getD, List.getElem?_append_right (by omega)]; simp]
        refine ⟨sl_kept hr2.1 hgrow hneR, fun q hq hv => ?_, fun q hq => .inl (.inr (hr2.2.2 q hq))⟩
        rcases hk1 q hv with h | h
        · exact kd q h (hr2.2.2 q hq)
        · have := (hr2.1.1.lt q hq).2; omega
    · simp only [List.length_append, List.length_singleton] at hj
      rw [show (us ++ [ru]).getD i undef = us.getD i undef from by rw [List.getD_eq_getElem?_getD, List.getD_eq_getElem?_getD, List.getElem?_append_left (by omega)]]
      rcases Nat.lt_or_ge j rows.length with h | h
      · rw [show (us ++ [ru]).getD j undef = us.getD j undef from by rw [List.getD_eq_getElem?_getD, List.getD_eq_getElem?_getD, List.getElem?_append_left (by omega)]]
        exact hpair i j hij h
      · obtain rfl : j = rows.length := by omega
        rw [show (us ++ [ru]).getD rows.length undef = ru from by rw [List.getD_eq_getElem?_getD, List.getElem?_append_right (by omega)]; simp [hul]]
        exact fun q hq hv => kd q ((hrows i hij).2.2 q hq) (hr2.2.2 q hv)
  obtain ⟨va, vc, rfl⟩ := rd2_form (Own2.rd (S := fun k => (S1 k ∨ S2 k) ∨ w.heap.size ≤ k) ⟨_, hfin⟩)
  have hf : FrS S1 w w' := frS_grown hgrow hvS
  refine go_val (v := .slice va (rows ++ [r]).length vc) (w' := w') hd hN F ?_ fun ac F => hk va vc w' ac ⟨below_frS M.1 hf (Nat.le_refl _) k1, star_keep _ (fun k _ hk => hk.elim id fun h => Nat.le_trans M.1.size h) agree_refl (hset w' (own2U (.slice va (rows ++ [r]).length vc) (us ++ [ru]) (rows ++ [r])) hf hfin)⟩ F
  intro ρ F; have hs := F _ _ hs; have hx := F _ _ hx
  simp only [execOp, hop, resolve, invoke, builtin, Sem.run_bind, Sem.run_pure, Result.andThen_ok, List.map_toArray, List.map_cons, List.map_nil, hs, hx]
  simp only [List.length_singleton] at hr ⊢
  rw [hr]
  rfl
theorem lead_loc (v : Value) (R : List Int) : Loc (fun w S => ∃ l, Own1 v l w S ∧ InvL l ∧ Rts l = R) where
  keep hs ha h := by
    obtain ⟨l, h1, h2⟩ := h
    exact ⟨l, (own1_loc v l).keep hs ha h1, h2⟩
def leadI (v : Value) (R : List Int) : Itm := ⟨_, lead_loc v R⟩
variable {f : FuncId} {fn : Func} {ags : Array Operand} {ts : Array TypeId} {vs : List Value}
theorem go_newLeaders {n : Int} (hd : o.dst = some d) (hN : Nat.blt d N = true) (hop : o.op = .call { callee := .value (.func f), args := ags, argTypes := ts }) (hfn : Tryz.prog.funcs[f]? = some fn) (hb : fn.body.isNone = false) (hn : (fn.name == "runtime.NumGoroutine") = false)
    (hargs : evoL e ags.toList = some [.int .i64 n]) (h0 : 0 ≤ n) (h1 : n ≤ 17592186044415) (hf : f = 138) (hk : ∀ B : Nat, GK w0 (is ++ [leadI (.slice (some ⟨B, 0, none⟩) n.toNat n.toNat) (upTo 0 n.toNat)]) N K ((d, .slice (some ⟨B, 0, none⟩) n.toNat n.toNat) :: e)) : GO w0 is N o e Q K := by
  subst hf
  obtain ⟨k, rfl⟩ := Int.eq_ofNat_of_zero_le h0
  intro w a M F
  refine go_call hd hN F hop hfn hb hn hargs (newLeaders_any w k (by omega)) fun e' w' hR => ?_
  obtain ⟨g, rfl, ⟨l, hl, hl2⟩, hbl⟩ := hR
  exact ⟨_, rfl, fun a F => hk g w' a (mem_new M hbl ⟨l, own1_of hl, hl2⟩) F⟩
theorem go_join {R : List Int} {x y : Int} {n : Nat} (hd : o.dst = some d) (hN : Nat.blt d N = true) (hop : o.op = .call { callee := .value (.func f), args := ags, argTypes := ts }) (hfn : Tryz.prog.funcs[f]? = some fn) (hb : fn.body.isNone = false) (hn : (fn.name == "runtime.NumGoroutine") = false)
    (hargs : evoL e ags.toList = some [v, .int .i64 x, .int .i64 y]) (hf : f = 139) (hi : is[n]? = some (leadI v R)) (x0 : 0 ≤ x) (x1 : x < R.length) (y0 : 0 ≤ y) (y1 : y < R.length)
    (hk : GK w0 (is.set n (leadI v (mergeR R (R.getD x.toNat 0) (R.getD y.toNat 0)))) N K ((d, .tuple #[]) :: e)) : GO w0 is N o e Q K := by
  subst hf
  obtain ⟨x, rfl⟩ := Int.eq_ofNat_of_zero_le x0
  obtain ⟨y, rfl⟩ := Int.eq_ofNat_of_zero_le y0
  intro w a M F
  obtain ⟨S, hS, ⟨l, hl, hl2, hl3⟩, hset⟩ := mem_set M hi
  refine go_call hd hN F hop hfn hb hn hargs (join_any w 0 v R x y ⟨l, hl.1, hl2, hl3⟩ (by omega) (by omega)) fun e' w' hR => ?_
  obtain ⟨rfl, ⟨l', hl', hl2', hl3'⟩, hg⟩ := hR
  exact ⟨_, rfl, fun a F => hk w' a (hset w' (leadI v _) (frS_grown hg hl.2) ⟨l', ⟨hl', fun q hq => .inl (hl.2 q hq)⟩, hl2', hl3'⟩) F⟩
end
end Go.Proofs.YtpcabkdkdnchaaaGreat
namespace Go.Proofs.YtpcabkdkdnchaaaGreat
open Go.RowKit
theorem infoBl : (Tryz.prog.info? 4).map (fun i => (i.zero, i.size, i.bytes)) = some (some (.bool false), 1, 1) := by kernel_rfl
section
variable {w0 : World} {is : List Itm} {ops : Array Oper} {Q : Exit → Act → World → Prop} {o : Oper} {rest : List Oper} {N : Frm} {e : Env} {v : Value} {d : Nat} {K : Act → World → Prop}
end
end Go.Proofs.YtpcabkdkdnchaaaGreat
namespace Go.Proofs.YtpcabkdkdnchaaaGreat
open Go.RowKit
section
variable {w0 : World} {is : List Itm} {ops : Array Oper} {Q : Exit → Act → World → Prop} {o : Oper} {rest : List Oper} {N : Frm} {e : Env} {v : Value} {d : Nat} {K : Act → World → Prop}
end
end Go.Proofs.YtpcabkdkdnchaaaGreat
