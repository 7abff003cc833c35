
/- The program's copies: a list, a category, and the reading of a category with the error of its arrows or objects. -/
import Derived.Test.YtgkfampgofjkfaaShort
import Derived.Test.YtgkfampgofjkfaaRul4
import Derived.Test.YtgkfampgofjkfaaFirst
set_option linter.unusedSimpArgs false
set_option linter.unusedVariables false
set_option linter.unusedSectionVars false
namespace Go.Proofs.Ytgkfampgofjkfaa
open Go.RowKit

set_option maxHeartbeats 1000000 in
set_option maxRecDepth 100000 in
theorem clone_any (w : World) (v : Value) (xs : List Int) (h : Rd w v xs) :
  Calls Try.prog 95 #[v] w (RetL w xs) := by
 obtain ⟨va, vc, rfl⟩ := rd_form h
 have hxl : xs.length ≤ 17592186044415 := by obtain ⟨_, _, _, hl, _⟩ := h; exact hl
 go_enter Try.func95, Try.ntmps95
 refine gc_enter (N := 8) rfl (look_cons (k := 0) rfl (look_nil _)) ?_
 refine gc_sr fun K1 hK1 => ?_
 refine gas ?_
 refine gnt (hK1 _ _ ?_)
 refine gc_seq fun K2 hK2 => ?_
 refine gc_sr fun K3 hK3 => ?_
 refine gm ?_
 refine gv (qt_eqNil rfl rfl Try.underlying22) ?_
 refine gnt (hK3 _ _ ?_)
 refine gc_cond rfl (fun hc0 => ?_) (fun hc0 => ?_)
 ·try simp only [decide_eq_true_eq, decide_eq_false_iff_not, Bool.not_eq_true', Bool.not_eq_false', Bool.not_eq_eq_eq_not, Bool.not_true, Bool.not_false] at hc0
  refine gc_sr fun K4 hK4 => ?_
  refine gas ?_
  refine gnt (hK4 _ _ ?_)
  refine gc_ret ?_
  refine gk_then_ret ?_
  refine ret_1 rfl rfl  (fun w M => ?_)
  have hx : xs = [] := by rcases nil_rd h hc0 with h | h <;> first | exact h.2 | exact h
  subst hx
  exact ⟨_, rfl, Sl.nil _ _, M.1⟩
 ·try simp only [decide_eq_true_eq, decide_eq_false_iff_not, Bool.not_eq_true', Bool.not_eq_false', Bool.not_eq_eq_eq_not, Bool.not_true, Bool.not_false] at hc0
  refine gc_skip ?_
  refine gk_then (hK2 _ _ ?_)
  refine gc_sr fun K5 hK5 => ?_
  refine gop fun K7 hK7 => ?_
  refine go_slice0 rfl rfl rfl Try.underlying22 ?_
  intro B6
  refine hK7 _ _ ?_
  refine gm ?_
  refine gop fun K9 hK9 => ?_
  refine go_appendL (n := 0) rfl rfl rfl Try.underlying22 rfl rfl rfl (fun w M => mem_rd M h) (by assumption) (by first | simp; omega | omega) ?_
  intro va8 vc8
  refine hK9 _ _ ?_
  refine gas ?_
  refine gnt (hK5 _ _ ?_)
  refine gc_ret ?_
  refine ret_1 rfl rfl  (fun w M => ?_)
  exact ⟨_, rfl, mem_own1 (n := 0) M rfl, M.1⟩


theorem rd2_len {w : World} {v : Value} {rows : List (List Int)} (h : Rd2 w v rows) : rows.length ≤ 5000000000000 := by obtain ⟨_, _, _, hl, _⟩ := h; exact hl
theorem fill_next {rows : List (List Int)} {k : Nat} (hk : k < rows.length) :
  (rows.take k ++ List.replicate (rows.length - k) []).set ((k : Int)).toNat (row2 rows (k : Int)) = rows.take (k + 1) ++ List.replicate (rows.length - (k + 1)) [] := by
 have := rows_fill hk
 simpa [row2] using this
theorem fill_len {rows : List (List Int)} {k : Nat} (hk : k ≤ rows.length) : (rows.take k ++ List.replicate (rows.length - k) ([] : List Int)).length = rows.length := by simp; omega
theorem fill_end {rows : List (List Int)} : rows.take rows.length ++ List.replicate (rows.length - rows.length) ([] : List Int) = rows := by simp
theorem fill_start {rows : List (List Int)} : rows.take 0 ++ List.replicate (rows.length - 0) ([] : List Int) = List.replicate rows.length [] := by simp

set_option maxHeartbeats 1000000 in
set_option maxRecDepth 100000 in
theorem copied_any (w : World) (v : Value) (c : Cat) (h : RdC w v c) :
  Calls Try.prog 72 #[v] w (RetC w c) := by
 have h0 := h
 obtain ⟨va, vb, vc, vd, ve, vf, vg, vh, rfl, h1, h2, h3, h4, _⟩ := h.lists
 have hml := rd2_len h4
 go_enter Try.func72, Try.ntmps72
 refine gc_enter (N := 37) rfl (look_cons (k := 0) rfl (look_nil _)) ?_
 refine gc_sr fun K1 hK1 => ?_
 refine gop fun K3 hK3 => ?_
 refine go_box rfl rfl rfl rfl rfl ?_
 intro B2
 refine hK3 _ _ ?_
 refine gop fun K5 hK5 => ?_
 refine go_alloc (z := (.agg #[.int .i64 0, .slice none 0 0, .slice none 0 0, .slice none 0 0, .slice none 0 0])) (cs := [.int .i64 0, .slice none 0 0, .slice none 0 0, .slice none 0 0, .slice none 0 0]) rfl rfl rfl (fun w => by kernel_rfl) rfl ?_
 intro B4
 refine hK5 _ _ ?_
 refine gnt (hK1 _ _ ?_)
 refine gc_sr fun K6 hK6 => ?_
 refine gv (qt_field (z := 0) rfl rfl Try.underlying27 rfl (by kernel_rfl) rfl) ?_
 refine gv (qtl Try.underlying23 (n := 0)) ?_
 refine gv (qt_len rfl rfl ulE2 (fun w M => lenV_rd2 h4)) ?_
 refine gop fun K8 hK8 => ?_
 refine go_make2 rfl rfl rfl Try.underlying23 rfl rfl (by omega) ?_
 intro B7
 refine hK8 _ _ ?_
 refine gas ?_
 refine gnt (hK6 _ _ ?_)
 refine gc_seq fun K9 hK9 => ?_
 refine gc_sr fun K10 hK10 => ?_
 refine gv (qt_field (z := 0) rfl rfl Try.underlying27 rfl (by kernel_rfl) rfl) ?_
 refine gv (qtl Try.underlying23 (n := 0)) ?_
 refine gv (qt_len rfl rfl ulE2 (fun w M => lenV_rd2 h4)) ?_
 refine gm ?_
 refine gnt (hK10 _ _ ?_)
 refine gc_block ?_
 rw [← fill_start]
 try simp only [sL]
 refine gc_loopT ([(0, _), (1, _), (2, _), (3, _), (11, _), (12, _)] : Env) (fun s : Nat × (List Value) => (fun (k : Nat) (us : List Value) => (([(13, .int .i64 (k : Int))] : Env), ([(2, own2U (.slice (some ⟨B7, 0, none⟩) c.m.length c.m.length) us (c.m.take k ++ List.replicate (c.m.length - k) []))] : List (Nat × Itm)), k ≤ c.m.length, c.m.length - k)) s.1 s.2) (0, _) (by repeat first | exact sub_nil | refine sub_cons rfl ?_) rfl (Nat.zero_le _) ?_
 rintro ⟨k, us⟩ hinv KL11 hKL11
 simp only [sU, sL] at hinv hKL11 ⊢
 have hk := hinv
 have hfl := fill_len hk
 refine gc_sr fun K12 hK12 => ?_
 refine gv (qt_lss rfl rfl rfl) ?_
 refine gnt (hK12 _ _ ?_)
 refine gc_seq fun K13 hK13 => ?_
 refine gc_cond rfl (fun hc0 => ?_) (fun hc0 => ?_)
 ·try simp only [decide_eq_true_eq, decide_eq_false_iff_not, Bool.not_eq_true', Bool.not_eq_false', Bool.not_eq_eq_eq_not, Bool.not_true, Bool.not_false] at hc0
  refine gc_skip ?_
  refine gk_then (hK13 _ _ ?_)
  refine gc_seq fun K14 hK14 => ?_
  refine gc_block ?_
  refine gc_sr fun K15 hK15 => ?_
  refine gm ?_
  refine gv (qti2 (fun w M => lenA_rd2 h4)) ?_
  refine g_load2 (.free rfl) rfl rfl rfl rfl Try.underlying22 rfl h4 (by omega) (by omega) ?_
  intro ra16 rc16 hr16
  refine gas ?_
  refine gas ?_
  refine gnt (hK15 _ _ ?_)
  refine gc_region ?_
  refine gm ?_
  refine gm ?_
  refine gm ?_
  refine gop fun K18 hK18 => ?_
  refine go_callL rfl rfl rfl Try.func95 rfl (by decide) rfl (fun w M => clone_any w _ _ (mem_rd M hr16)) ?_
  intro va17 vc17
  refine hK18 _ _ ?_
  refine gv (qti2 (fun w M => lenA_U (n := 2) rfl M)) ?_
  refine gop fun K19 hK19 => ?_
  refine go_storeRow (n := 2) (m := 3) (m' := 2) rfl rfl rfl rfl (by kernel_rfl) rfl rfl rfl (by omega) (by omega) ?_
  refine hK19 _ _ ?_
  refine g_nil ?_
  refine gk_block ?_
  refine gk_then (hK14 _ _ ?_)
  refine gc_region ?_
  refine gv (qt_add rfl rfl rfl (by omega)) ?_
  refine gm ?_
  refine g_nil ?_
  rw [fill_next (by omega)]
  refine gk_then (gk_take 3 ?_)
  refine gk_sub ?hs_20 (hKL11 (k + 1, _) ?hi_20 ?hm_20)
  case hs_20 => repeat first | exact sub_nil | refine sub_cons rfl ?_
  case hi_20 => omega
  case hm_20 => omega
 ·try simp only [decide_eq_true_eq, decide_eq_false_iff_not, Bool.not_eq_true', Bool.not_eq_false', Bool.not_eq_eq_eq_not, Bool.not_true, Bool.not_false] at hc0
  refine gc_exit ?_
  refine gk_then_exit ?_
  refine gk_then_exit ?_
  refine gk_block_hit ?_
  refine gk_then (hK9 _ _ ?_)
  refine gc_seq fun K21 hK21 => ?_
  obtain rfl : k = c.m.length := by omega
  rw [fill_end]
  try simp only [sL]
  refine ga_start _ (fun w M => mem_erase 1 (M)) ?_
  refine gav 0 rfl (qt_field (z := 0) rfl rfl Try.underlying27 rfl (by kernel_rfl) rfl) ?_
  refine gav 1 rfl (qtl Try.underlying2 (n := 0)) ?_
  refine gav 2 rfl (qt_field (z := 0) rfl rfl Try.underlying27 rfl (by kernel_rfl) rfl) ?_
  refine gav 3 rfl (qtl Try.underlying22 (n := 0)) ?_
  refine gav 5 rfl (qt_field (z := 0) rfl rfl Try.underlying27 rfl (by kernel_rfl) rfl) ?_
  refine gav 6 rfl (qtl Try.underlying22 (n := 0)) ?_
  refine gav 8 rfl (qt_field (z := 0) rfl rfl Try.underlying27 rfl (by kernel_rfl) rfl) ?_
  refine gav 9 rfl (qtl Try.underlying22 (n := 0)) ?_
  refine gav 11 rfl (qt_move rfl rfl) ?_
  refine gao 4 fun K23 hK23 => ?_
  refine go_callL rfl rfl rfl Try.func95 rfl (by decide) rfl (fun w M => clone_any w _ _ (mem_rd M h1)) ?_
  intro va22 vc22
  refine hK23 _ _ (fun w M => (mem_erase 1 (mem_take 3 M) :)) ?_
  refine gao 7 fun K25 hK25 => ?_
  refine go_callL rfl rfl rfl Try.func95 rfl (by decide) rfl (fun w M => clone_any w _ _ (mem_rd M h2)) ?_
  intro va24 vc24
  refine hK25 _ _ (fun w M => (mem_erase 1 (mem_take 3 M) :)) ?_
  refine gao 10 fun K27 hK27 => ?_
  refine go_callL rfl rfl rfl Try.func95 rfl (by decide) rfl (fun w M => clone_any w _ _ (mem_rd M h3)) ?_
  intro va26 vc26
  refine hK27 _ _ (fun w M => (mem_erase 1 (mem_take 3 M) :)) ?_
  refine gav 12 rfl (qt_build rfl rfl bt_Category) ?_
  refine gao 13 fun K28 hK28 => ?_
  refine go_storeS (n := 1) rfl rfl rfl rfl (by kernel_rfl) rfl rfl rfl ?_
  refine hK28 _ _ (fun w M => (mem_erase 1 (mem_take 3 M) :)) ?_
  refine ga_done (by kernel_rfl) ?_
  refine gk_then (hK21 _ _ ?_)
  refine gc_ret ?_
  refine ret_S (n := 1) rfl rfl Try.underlying27 rfl (by kernel_rfl) rfl (fun w M => ?_)
  exact ⟨_, rfl, ownC_star (mem_pick (n := 5) (mem_pick (n := 5) (mem_pick (n := 5) (mem_pick (n := 2) (M) rfl) rfl) rfl) rfl).2, M.1⟩


theorem isCat_of {c : Cat} (h : fIsCategory c = true) : IsCat c := bP_iff.1 h

set_option maxHeartbeats 1000000 in
set_option maxRecDepth 100000 in
theorem readCategory_f (w : World) (v : Value) (c : Cat) (h : RdC w v c) (hI : fIsCategory c = false) :
  Calls Try.prog 38 #[v] w (RetCI w cat0 1) := by
 have h0 := h
 obtain ⟨va, vb, vc, vd, ve, vf, vg, vh, rfl, h1, h2, h3, h4, _⟩ := h.lists
 go_enter Try.func38, Try.ntmps38
 refine gc_enter (N := 10) rfl (look_cons (k := 0) rfl (look_nil _)) ?_
 refine gc_sr fun K1 hK1 => ?_
 refine gop fun K3 hK3 => ?_
 refine go_box rfl rfl rfl rfl rfl ?_
 intro B2
 refine hK3 _ _ ?_
 refine gop fun K5 hK5 => ?_
 refine go_alloc (z := (.agg #[.int .i64 0, .slice none 0 0, .slice none 0 0, .slice none 0 0, .slice none 0 0])) (cs := [.int .i64 0, .slice none 0 0, .slice none 0 0, .slice none 0 0, .slice none 0 0]) rfl rfl rfl (fun w => by kernel_rfl) rfl ?_
 intro B4
 refine hK5 _ _ ?_
 refine gas ?_
 refine gnt (hK1 _ _ ?_)
 refine gc_seq fun K6 hK6 => ?_
 refine gc_sr fun K7 hK7 => ?_
 refine gv (qts Try.underlying27 (n := 0)) ?_
 refine g_q (.free rfl) rfl rfl (qt_call rfl Try.func71 rfl (by decide) rfl (fun w M => impl_IsCategory w _ _ (mem_rdC M h0))) ?_
 refine gv (qt_not rfl rfl) ?_
 refine gnt (hK7 _ _ ?_)
 refine gc_cond rfl (fun hc0 => ?_) (fun hc0 => ?_)
 ·try simp only [decide_eq_true_eq, decide_eq_false_iff_not, Bool.not_eq_true', Bool.not_eq_false', Bool.not_eq_eq_eq_not, Bool.not_true, Bool.not_false] at hc0
  refine gc_sr fun K8 hK8 => ?_
  refine gv (qt_build rfl rfl bt0_Category) ?_
  refine gop fun K9 hK9 => ?_
  refine go_storeS (n := 1) rfl rfl rfl rfl (by kernel_rfl) rfl rfl rfl ?_
  refine hK9 _ _ ?_
  refine gas ?_
  refine gnt (hK8 _ _ ?_)
  refine gc_ret ?_
  refine gk_then_ret ?_
  refine ret_SI (n := 1) rfl rfl rfl Try.underlying27 rfl (by kernel_rfl) rfl (fun w M => ?_)
  exact ⟨_, rfl, ownC_zero _ _, M.1⟩
 ·try simp only [decide_eq_true_eq, decide_eq_false_iff_not, Bool.not_eq_true', Bool.not_eq_false', Bool.not_eq_eq_eq_not, Bool.not_true, Bool.not_false] at hc0
  rw [hI] at hc0; cases hc0

set_option maxHeartbeats 1000000 in
set_option maxRecDepth 100000 in
theorem readCategory_t (w : World) (v : Value) (c : Cat) (h : RdC w v c) (hI : fIsCategory c = true) :
  Calls Try.prog 38 #[v] w (RetCI w c 0) := by
 have h0 := h
 obtain ⟨va, vb, vc, vd, ve, vf, vg, vh, rfl, h1, h2, h3, h4, _⟩ := h.lists
 go_enter Try.func38, Try.ntmps38
 refine gc_enter (N := 10) rfl (look_cons (k := 0) rfl (look_nil _)) ?_
 refine gc_sr fun K1 hK1 => ?_
 refine gop fun K3 hK3 => ?_
 refine go_box rfl rfl rfl rfl rfl ?_
 intro B2
 refine hK3 _ _ ?_
 refine gop fun K5 hK5 => ?_
 refine go_alloc (z := (.agg #[.int .i64 0, .slice none 0 0, .slice none 0 0, .slice none 0 0, .slice none 0 0])) (cs := [.int .i64 0, .slice none 0 0, .slice none 0 0, .slice none 0 0, .slice none 0 0]) rfl rfl rfl (fun w => by kernel_rfl) rfl ?_
 intro B4
 refine hK5 _ _ ?_
 refine gas ?_
 refine gnt (hK1 _ _ ?_)
 refine gc_seq fun K6 hK6 => ?_
 refine gc_sr fun K7 hK7 => ?_
 refine gv (qts Try.underlying27 (n := 0)) ?_
 refine g_q (.free rfl) rfl rfl (qt_call rfl Try.func71 rfl (by decide) rfl (fun w M => impl_IsCategory w _ _ (mem_rdC M h0))) ?_
 refine gv (qt_not rfl rfl) ?_
 refine gnt (hK7 _ _ ?_)
 refine gc_cond rfl (fun hc0 => ?_) (fun hc0 => ?_)
 ·try simp only [decide_eq_true_eq, decide_eq_false_iff_not, Bool.not_eq_true', Bool.not_eq_false', Bool.not_eq_eq_eq_not, Bool.not_true, Bool.not_false] at hc0
  rw [hI] at hc0; cases hc0
 ·try simp only [decide_eq_true_eq, decide_eq_false_iff_not, Bool.not_eq_true', Bool.not_eq_false', Bool.not_eq_eq_eq_not, Bool.not_true, Bool.not_false] at hc0
  refine gc_skip ?_
  refine gk_then (hK6 _ _ ?_)
  refine gc_sr fun K8 hK8 => ?_
  refine gv (qts Try.underlying27 (n := 0)) ?_
  refine gop fun K10 hK10 => ?_
  refine go_callC rfl rfl rfl Try.func72 rfl (by decide) rfl (fun w M => copied_any w _ _ (mem_rdC M h0)) ?_
  intro ca9 cb9 cc9 cd9 ce9 cf9 cg9 ch9 cu9
  refine hK10 _ _ ?_
  refine gop fun K11 hK11 => ?_
  refine go_storeS (n := 1) rfl rfl rfl rfl (by kernel_rfl) rfl rfl rfl ?_
  refine hK11 _ _ ?_
  refine gas ?_
  refine gnt (hK8 _ _ ?_)
  refine gc_ret ?_
  refine ret_SI (n := 1) rfl rfl rfl Try.underlying27 rfl (by kernel_rfl) rfl (fun w M => ?_)
  exact ⟨_, rfl, ownC_star (mem_pick (n := 5) (mem_pick (n := 5) (mem_pick (n := 5) (mem_pick (n := 5) (M) rfl) rfl) rfl) rfl).2, M.1⟩

end Go.Proofs.Ytgkfampgofjkfaa
