import Derived.Test.YtpfcfhjpgngneacP4
import Derived.Test.YtpfcfhjpgngneacP9
import Derived.Deep.MidRow
set_option linter.unusedSimpArgs false
set_option linter.unusedVariables false
set_option linter.unusedSectionVars false
namespace Go.Proofs.Ytpfcfhjpgngneac
open Go.RowKit
set_option maxHeartbeats 1000000 in
set_option maxRecDepth 100000 in
theorem clone_any (w : World) (v : Value) (xs : List Int) (h : Rd w v xs) :
  Calls Try.prog 182 #[v] w (RetL w xs) := by
 obtain ⟨va, vc, rfl⟩ := rd_form h
 have hxl : xs.length ≤ 17592186044415 := by obtain ⟨_, _, _, hl, _⟩ := h; exact hl
 go_enter Try.func182, Try.ntmps182
 refine gc_enter (N := 8) rfl (look_cons (k := 0) rfl (look_nil _)) ?_
 refine gc_sr fun K1 hK1 => ?_
 refine gas ?_
 refine gnt (hK1 _ _ ?_)
 refine gc_seq fun K2 hK2 => ?_
 refine gc_sr fun K3 hK3 => ?_
 refine gm ?_
 refine gv (qt_eqNil rfl rfl Try.underlying24) ?_
 refine gnt (hK3 _ _ ?_)
 refine gc_cond rfl (fun hc0 => ?_) (fun hc0 => ?_)
 ·try simp only [decide_eq_true_eq, decide_eq_false_iff_not, Bool.not_eq_true', Bool.not_eq_false', Bool.not_eq_eq_eq_not, Bool.not_true, Bool.not_false] at hc0
  refine gc_sr fun K4 hK4 => ?_
  refine gas ?_
  refine gnt (hK4 _ _ ?_)
  refine gc_ret ?_
  refine gk_then_ret ?_
  refine ret_1 rfl rfl  (fun w M => ?_)
  have hx : xs = [] := by rcases nil_rd h hc0 with h | h <;> first | exact h.2 | exact h
  subst hx
  exact ⟨_, rfl, Sl.nil _ _, M.1⟩
 ·try simp only [decide_eq_true_eq, decide_eq_false_iff_not, Bool.not_eq_true', Bool.not_eq_false', Bool.not_eq_eq_eq_not, Bool.not_true, Bool.not_false] at hc0
  refine gc_skip ?_
  refine gk_then (hK2 _ _ ?_)
  refine gc_sr fun K5 hK5 => ?_
  refine gop fun K7 hK7 => ?_
  refine go_slice0 rfl rfl rfl Try.underlying24 ?_
  intro B6
  refine hK7 _ _ ?_
  refine gm ?_
  refine gop fun K9 hK9 => ?_
  refine go_appendL (n := 0) rfl rfl rfl Try.underlying24 rfl rfl rfl (fun w M => mem_rd M h) (by assumption) (by first | simp; omega | omega) ?_
  intro va8 vc8
  refine hK9 _ _ ?_
  refine gas ?_
  refine gnt (hK5 _ _ ?_)
  refine gc_ret ?_
  refine ret_1 rfl rfl  (fun w M => ?_)
  exact ⟨_, rfl, mem_own1 (n := 0) M rfl, M.1⟩
theorem rd2_len {w : World} {v : Value} {rows : List (List Int)} (h : Rd2 w v rows) : rows.length ≤ 5000000000000 := by obtain ⟨_, _, _, hl, _⟩ := h; exact hl
theorem fill_next {rows : List (List Int)} {k : Nat} (hk : k < rows.length) :
  (rows.take k ++ List.replicate (rows.length - k) []).set ((k : Int)).toNat (row2 rows (k : Int)) = rows.take (k + 1) ++ List.replicate (rows.length - (k + 1)) [] := by
 have := rows_fill hk
 simpa [row2] using this
theorem fill_len {rows : List (List Int)} {k : Nat} (hk : k ≤ rows.length) : (rows.take k ++ List.replicate (rows.length - k) ([] : List Int)).length = rows.length := by simp; omega
theorem fill_end {rows : List (List Int)} : rows.take rows.length ++ List.replicate (rows.length - rows.length) ([] : List Int) = rows := by simp
theorem fill_start {rows : List (List Int)} : rows.take 0 ++ List.replicate (rows.length - 0) ([] : List Int) = List.replicate rows.length [] := by simp
set_option maxHeartbeats 1000000 in
set_option maxRecDepth 100000 in
theorem copied_any (w : World) (v : Value) (c : Cat) (h : RdC w v c) :
  Calls Try.prog 141 #[v] w (RetC w c) := by
 have h0 := h
 obtain ⟨va, vb, vc, vd, ve, vf, vg, vh, rfl, h1, h2, h3, h4, _⟩ := h.lists
 have hml := rd2_len h4
 go_enter Try.func141, Try.ntmps141
 refine gc_enter (N := 37) rfl (look_cons (k := 0) rfl (look_nil _)) ?_
 refine gc_sr fun K1 hK1 => ?_
 refine gop fun K3 hK3 => ?_
 refine go_box rfl rfl rfl rfl rfl ?_
 intro B2
 refine hK3 _ _ ?_
 refine gop fun K5 hK5 => ?_
 refine go_alloc (z := (.agg #[.int .i64 0, .slice none 0 0, .slice none 0 0, .slice none 0 0, .slice none 0 0])) (cs := [.int .i64 0, .slice none 0 0, .slice none 0 0, .slice none 0 0, .slice none 0 0]) rfl rfl rfl (fun w => by kernel_rfl) rfl ?_
 intro B4
 refine hK5 _ _ ?_
 refine gnt (hK1 _ _ ?_)
 refine gc_sr fun K6 hK6 => ?_
 refine gv (qt_field (z := 0) rfl rfl Try.underlying27 rfl (by kernel_rfl) rfl) ?_
 refine gv (qtl Try.underlying25 (n := 0)) ?_
 refine gv (qt_len rfl rfl ulE2 (fun w M => lenV_rd2 h4)) ?_
 refine gop fun K8 hK8 => ?_
 refine go_make2 rfl rfl rfl Try.underlying25 rfl rfl (by omega) ?_
 intro B7
 refine hK8 _ _ ?_
 refine gas ?_
 refine gnt (hK6 _ _ ?_)
 refine gc_seq fun K9 hK9 => ?_
 refine gc_sr fun K10 hK10 => ?_
 refine gv (qt_field (z := 0) rfl rfl Try.underlying27 rfl (by kernel_rfl) rfl) ?_
 refine gv (qtl Try.underlying25 (n := 0)) ?_
 refine gv (qt_len rfl rfl ulE2 (fun w M => lenV_rd2 h4)) ?_
 refine gm ?_
 refine gnt (hK10 _ _ ?_)
 refine gc_block ?_
 rw [← fill_start]
 try simp only [sL]
 refine gc_loopT ([(0, _), (1, _), (2, _), (3, _), (11, _), (12, _)] : Env) (fun s : Nat × (List Value) => (fun (k : Nat) (us : List Value) => (([(13, .int .i64 (k : Int))] : Env), ([(2, own2U (.slice (some ⟨B7, 0, none⟩) c.m.length c.m.length) us (c.m.take k ++ List.replicate (c.m.length - k) []))] : List (Nat × Itm)), k ≤ c.m.length, c.m.length - k)) s.1 s.2) (0, _) (by repeat first | exact sub_nil | refine sub_cons rfl ?_) rfl (Nat.zero_le _) ?_
 rintro ⟨k, us⟩ hinv KL11 hKL11
 simp only [sU, sL] at hinv hKL11 ⊢
 have hk := hinv
 have hfl := fill_len hk
 refine gc_sr fun K12 hK12 => ?_
 refine gv (qt_lss rfl rfl rfl) ?_
 refine gnt (hK12 _ _ ?_)
 refine gc_seq fun K13 hK13 => ?_
 refine gc_cond rfl (fun hc0 => ?_) (fun hc0 => ?_)
 ·try simp only [decide_eq_true_eq, decide_eq_false_iff_not, Bool.not_eq_true', Bool.not_eq_false', Bool.not_eq_eq_eq_not, Bool.not_true, Bool.not_false] at hc0
  refine gc_skip ?_
  refine gk_then (hK13 _ _ ?_)
  refine gc_seq fun K14 hK14 => ?_
  refine gc_block ?_
  refine gc_sr fun K15 hK15 => ?_
  refine gm ?_
  refine gv (qti2 (fun w M => lenA_rd2 h4)) ?_
  refine g_load2 (.free rfl) rfl rfl rfl rfl Try.underlying24 rfl h4 (by omega) (by omega) ?_
  intro ra16 rc16 hr16
  refine gas ?_
  refine gas ?_
  refine gnt (hK15 _ _ ?_)
  refine gc_region ?_
  refine gm ?_
  refine gm ?_
  refine gm ?_
  refine gop fun K18 hK18 => ?_
  refine go_callL rfl rfl rfl Try.func182 rfl (by decide) rfl (fun w M => clone_any w _ _ (mem_rd M hr16)) ?_
  intro va17 vc17
  refine hK18 _ _ ?_
  refine gv (qti2 (fun w M => lenA_U (n := 2) rfl M)) ?_
  refine gop fun K19 hK19 => ?_
  refine go_storeRow (n := 2) (m := 3) (m' := 2) rfl rfl rfl rfl (by kernel_rfl) rfl rfl rfl (by omega) (by omega) ?_
  refine hK19 _ _ ?_
  refine g_nil ?_
  refine gk_block ?_
  refine gk_then (hK14 _ _ ?_)
  refine gc_region ?_
  refine gv (qt_add rfl rfl rfl (by omega)) ?_
  refine gm ?_
  refine g_nil ?_
  rw [fill_next (by omega)]
  refine gk_then (gk_take 3 ?_)
  refine gk_sub ?hs_20 (hKL11 (k + 1, _) ?hi_20 ?hm_20)
  case hs_20 => repeat first | exact sub_nil | refine sub_cons rfl ?_
  case hi_20 => omega
  case hm_20 => omega
 ·try simp only [decide_eq_true_eq, decide_eq_false_iff_not, Bool.not_eq_true', Bool.not_eq_false', Bool.not_eq_eq_eq_not, Bool.not_true, Bool.not_false] at hc0
  refine gc_exit ?_
  refine gk_then_exit ?_
  refine gk_then_exit ?_
  refine gk_block_hit ?_
  refine gk_then (hK9 _ _ ?_)
  refine gc_seq fun K21 hK21 => ?_
  obtain rfl : k = c.m.length := by omega
  rw [fill_end]
  try simp only [sL]
  refine ga_start _ (fun w M => mem_erase 1 (M)) ?_
  refine gav 0 rfl (qt_field (z := 0) rfl rfl Try.underlying27 rfl (by kernel_rfl) rfl) ?_
  refine gav 1 rfl (qtl Try.underlying2 (n := 0)) ?_
  refine gav 2 rfl (qt_field (z := 0) rfl rfl Try.underlying27 rfl (by kernel_rfl) rfl) ?_
  refine gav 3 rfl (qtl Try.underlying24 (n := 0)) ?_
  refine gav 5 rfl (qt_field (z := 0) rfl rfl Try.underlying27 rfl (by kernel_rfl) rfl) ?_
  refine gav 6 rfl (qtl Try.underlying24 (n := 0)) ?_
  refine gav 8 rfl (qt_field (z := 0) rfl rfl Try.underlying27 rfl (by kernel_rfl) rfl) ?_
  refine gav 9 rfl (qtl Try.underlying24 (n := 0)) ?_
  refine gav 11 rfl (qt_move rfl rfl) ?_
  refine gao 4 fun K23 hK23 => ?_
  refine go_callL rfl rfl rfl Try.func182 rfl (by decide) rfl (fun w M => clone_any w _ _ (mem_rd M h1)) ?_
  intro va22 vc22
  refine hK23 _ _ (fun w M => (mem_erase 1 (mem_take 3 M) :)) ?_
  refine gao 7 fun K25 hK25 => ?_
  refine go_callL rfl rfl rfl Try.func182 rfl (by decide) rfl (fun w M => clone_any w _ _ (mem_rd M h2)) ?_
  intro va24 vc24
  refine hK25 _ _ (fun w M => (mem_erase 1 (mem_take 3 M) :)) ?_
  refine gao 10 fun K27 hK27 => ?_
  refine go_callL rfl rfl rfl Try.func182 rfl (by decide) rfl (fun w M => clone_any w _ _ (mem_rd M h3)) ?_
  intro va26 vc26
  refine hK27 _ _ (fun w M => (mem_erase 1 (mem_take 3 M) :)) ?_
  refine gav 12 rfl (qt_build rfl rfl bt_Category) ?_
  refine gao 13 fun K28 hK28 => ?_
  refine go_storeS (n := 1) rfl rfl rfl rfl (by kernel_rfl) rfl rfl rfl ?_
  refine hK28 _ _ (fun w M => (mem_erase 1 (mem_take 3 M) :)) ?_
  refine ga_done (by kernel_rfl) ?_
  refine gk_then (hK21 _ _ ?_)
  refine gc_ret ?_
  refine ret_S (n := 1) rfl rfl Try.underlying27 rfl (by kernel_rfl) rfl (fun w M => ?_)
  exact ⟨_, rfl, ownC_star (mem_pick (n := 5) (mem_pick (n := 5) (mem_pick (n := 5) (mem_pick (n := 2) (M) rfl) rfl) rfl) rfl).2, M.1⟩
theorem isCat_of {c : Cat} (h : fIsCategory c = true) : IsCat c := bP_iff.1 h
set_option maxHeartbeats 1000000 in
set_option maxRecDepth 100000 in
theorem readCategory_f (w : World) (v : Value) (c : Cat) (h : RdC w v c) (hI : fIsCategory c = false) :
  Calls Try.prog 87 #[v] w (RetCI w cat0 1) := by
 have h0 := h
 obtain ⟨va, vb, vc, vd, ve, vf, vg, vh, rfl, h1, h2, h3, h4, _⟩ := h.lists
 go_enter Try.func87, Try.ntmps87
 refine gc_enter (N := 10) rfl (look_cons (k := 0) rfl (look_nil _)) ?_
 refine gc_sr fun K1 hK1 => ?_
 refine gop fun K3 hK3 => ?_
 refine go_box rfl rfl rfl rfl rfl ?_
 intro B2
 refine hK3 _ _ ?_
 refine gop fun K5 hK5 => ?_
 refine go_alloc (z := (.agg #[.int .i64 0, .slice none 0 0, .slice none 0 0, .slice none 0 0, .slice none 0 0])) (cs := [.int .i64 0, .slice none 0 0, .slice none 0 0, .slice none 0 0, .slice none 0 0]) rfl rfl rfl (fun w => by kernel_rfl) rfl ?_
 intro B4
 refine hK5 _ _ ?_
 refine gas ?_
 refine gnt (hK1 _ _ ?_)
 refine gc_seq fun K6 hK6 => ?_
 refine gc_sr fun K7 hK7 => ?_
 refine gv (qts Try.underlying27 (n := 0)) ?_
 refine g_q (.free rfl) rfl rfl (qt_call rfl Try.func42 rfl (by decide) rfl (fun w M => impl_IsCategory w _ _ (mem_rdC M h0))) ?_
 refine gv (qt_not rfl rfl) ?_
 refine gnt (hK7 _ _ ?_)
 refine gc_cond rfl (fun hc0 => ?_) (fun hc0 => ?_)
 ·try simp only [decide_eq_true_eq, decide_eq_false_iff_not, Bool.not_eq_true', Bool.not_eq_false', Bool.not_eq_eq_eq_not, Bool.not_true, Bool.not_false] at hc0
  refine gc_sr fun K8 hK8 => ?_
  refine gv (qt_build rfl rfl bt0_Category) ?_
  refine gop fun K9 hK9 => ?_
  refine go_storeS (n := 1) rfl rfl rfl rfl (by kernel_rfl) rfl rfl rfl ?_
  refine hK9 _ _ ?_
  refine gas ?_
  refine gnt (hK8 _ _ ?_)
  refine gc_ret ?_
  refine gk_then_ret ?_
  refine ret_SI (n := 1) rfl rfl rfl Try.underlying27 rfl (by kernel_rfl) rfl (fun w M => ?_)
  exact ⟨_, rfl, ownC_zero _ _, M.1⟩
 ·try simp only [decide_eq_true_eq, decide_eq_false_iff_not, Bool.not_eq_true', Bool.not_eq_false', Bool.not_eq_eq_eq_not, Bool.not_true, Bool.not_false] at hc0
  rw [hI] at hc0; cases hc0
set_option maxHeartbeats 1000000 in
set_option maxRecDepth 100000 in
theorem readCategory_t (w : World) (v : Value) (c : Cat) (h : RdC w v c) (hI : fIsCategory c = true) :
  Calls Try.prog 87 #[v] w (RetCI w c 0) := by
 have h0 := h
 obtain ⟨va, vb, vc, vd, ve, vf, vg, vh, rfl, h1, h2, h3, h4, _⟩ := h.lists
 go_enter Try.func87, Try.ntmps87
 refine gc_enter (N := 10) rfl (look_cons (k := 0) rfl (look_nil _)) ?_
 refine gc_sr fun K1 hK1 => ?_
 refine gop fun K3 hK3 => ?_
 refine go_box rfl rfl rfl rfl rfl ?_
 intro B2
 refine hK3 _ _ ?_
 refine gop fun K5 hK5 => ?_
 refine go_alloc (z := (.agg #[.int .i64 0, .slice none 0 0, .slice none 0 0, .slice none 0 0, .slice none 0 0])) (cs := [.int .i64 0, .slice none 0 0, .slice none 0 0, .slice none 0 0, .slice none 0 0]) rfl rfl rfl (fun w => by kernel_rfl) rfl ?_
 intro B4
 refine hK5 _ _ ?_
 refine gas ?_
 refine gnt (hK1 _ _ ?_)
 refine gc_seq fun K6 hK6 => ?_
 refine gc_sr fun K7 hK7 => ?_
 refine gv (qts Try.underlying27 (n := 0)) ?_
 refine g_q (.free rfl) rfl rfl (qt_call rfl Try.func42 rfl (by decide) rfl (fun w M => impl_IsCategory w _ _ (mem_rdC M h0))) ?_
 refine gv (qt_not rfl rfl) ?_
 refine gnt (hK7 _ _ ?_)
 refine gc_cond rfl (fun hc0 => ?_) (fun hc0 => ?_)
 ·try simp only [decide_eq_true_eq, decide_eq_false_iff_not, Bool.not_eq_true', Bool.not_eq_false', Bool.not_eq_eq_eq_not, Bool.not_true, Bool.not_false] at hc0
  rw [hI] at hc0; cases hc0
 ·try simp only [decide_eq_true_eq, decide_eq_false_iff_not, Bool.not_eq_true', Bool.not_eq_false', Bool.not_eq_eq_eq_not, Bool.not_true, Bool.not_false] at hc0
  refine gc_skip ?_
  refine gk_then (hK6 _ _ ?_)
  refine gc_sr fun K8 hK8 => ?_
  refine gv (qts Try.underlying27 (n := 0)) ?_
  refine gop fun K10 hK10 => ?_
  refine go_callC rfl rfl rfl Try.func141 rfl (by decide) rfl (fun w M => copied_any w _ _ (mem_rdC M h0)) ?_
  intro ca9 cb9 cc9 cd9 ce9 cf9 cg9 ch9 cu9
  refine hK10 _ _ ?_
  refine gop fun K11 hK11 => ?_
  refine go_storeS (n := 1) rfl rfl rfl rfl (by kernel_rfl) rfl rfl rfl ?_
  refine hK11 _ _ ?_
  refine gas ?_
  refine gnt (hK8 _ _ ?_)
  refine gc_ret ?_
  refine ret_SI (n := 1) rfl rfl rfl Try.underlying27 rfl (by kernel_rfl) rfl (fun w M => ?_)
  exact ⟨_, rfl, ownC_star (mem_pick (n := 5) (mem_pick (n := 5) (mem_pick (n := 5) (mem_pick (n := 5) (M) rfl) rfl) rfl) rfl).2, M.1⟩
set_option maxHeartbeats 1000000 in
set_option maxRecDepth 100000 in
theorem readArrows_f (w : World) (v u : Value) (c : Cat) (xs : List Int) (h : RdC w v c) (hu : Rd w u xs) (hI : fIsCategory c = false) :
  Calls Try.prog 64 #[v, u] w (RetCI w cat0 1) := by
 have h0 := h
 obtain ⟨va, vb, vc, vd, ve, vf, vg, vh, rfl, h1, h2, h3, h4, _⟩ := h.lists
 obtain ⟨ua, uc, rfl⟩ := rd_form hu
 go_enter Try.func64, Try.ntmps64
 refine gc_enter (N := 24) rfl (look_cons (k := 0) rfl (look_cons (k := 1) rfl (look_nil _))) ?_
 refine gc_sr fun K1 hK1 => ?_
 refine gop fun K3 hK3 => ?_
 refine go_box rfl rfl rfl rfl rfl ?_
 intro B2
 refine hK3 _ _ ?_
 refine gop fun K5 hK5 => ?_
 refine go_alloc (z := (.agg #[.int .i64 0, .slice none 0 0, .slice none 0 0, .slice none 0 0, .slice none 0 0])) (cs := [.int .i64 0, .slice none 0 0, .slice none 0 0, .slice none 0 0, .slice none 0 0]) rfl rfl rfl (fun w => by kernel_rfl) rfl ?_
 intro B4
 refine hK5 _ _ ?_
 refine gas ?_
 refine gnt (hK1 _ _ ?_)
 refine gc_sr fun K6 hK6 => ?_
 refine gv (qts Try.underlying27 (n := 0)) ?_
 refine gop fun K8 hK8 => ?_
 refine go_callCI rfl rfl rfl Try.func87 rfl (by decide) rfl (fun w M => readCategory_f w _ _ (mem_rdC M h0) (by first | assumption | omega)) ?_
 intro ca7 cb7 cc7 cd7 ce7 cf7 cg7 ch7 cu7
 refine hK8 _ _ ?_
 refine gm ?_
 refine gv (qt_extract rfl rfl rfl) ?_
 refine gv (qt_extract rfl rfl rfl) ?_
 refine gop fun K10 hK10 => ?_
 refine go_alloc (z := (.agg #[.int .i64 0, .slice none 0 0, .slice none 0 0, .slice none 0 0, .slice none 0 0])) (cs := [.int .i64 0, .slice none 0 0, .slice none 0 0, .slice none 0 0, .slice none 0 0]) rfl rfl rfl (fun w => by kernel_rfl) rfl ?_
 intro B9
 refine hK10 _ _ ?_
 refine gop fun K11 hK11 => ?_
 refine go_storeS (n := 6) rfl rfl rfl rfl (by kernel_rfl) rfl rfl rfl ?_
 refine hK11 _ _ ?_
 refine gas ?_
 refine gnt (hK6 _ _ ?_)
 refine gc_seq fun K12 hK12 => ?_
 refine gc_sr fun K13 hK13 => ?_
 refine gm ?_
 refine gv (qt_eql_f rfl rfl rfl (by decide)) ?_
 refine gm ?_
 refine gsk ?_
 refine gsk ?_
 refine gsk ?_
 refine gsk ?_
 refine gv (qt_pick_f rfl rfl rfl) ?_
 refine gnt (hK13 _ _ ?_)
 refine gc_cond_f rfl ?_
 refine gc_skip ?_
 refine gk_then (hK12 _ _ ?_)
 refine gc_sr fun K14 hK14 => ?_
 refine gv (qts Try.underlying27 (n := 6)) ?_
 refine gm ?_
 refine gop fun K15 hK15 => ?_
 refine go_storeS (n := 1) rfl rfl rfl rfl (by kernel_rfl) rfl rfl rfl ?_
 refine hK15 _ _ ?_
 refine gas ?_
 refine gnt (hK14 _ _ ?_)
 refine gc_ret ?_
 refine ret_SI (n := 1) rfl rfl rfl Try.underlying27 rfl (by kernel_rfl) rfl (fun w M => ?_)
 exact ⟨_, rfl, ownC_star (mem_pick (n := 5) (mem_pick (n := 5) (mem_pick (n := 5) (mem_pick (n := 5) (M) rfl) rfl) rfl) rfl).2, M.1⟩
set_option maxHeartbeats 1000000 in
set_option maxRecDepth 100000 in
theorem readArrows_r (w : World) (v u : Value) (c : Cat) (xs : List Int) (h : RdC w v c) (hu : Rd w u xs) (hI : fIsCategory c = true) (hP : ¬ (AllP c.s.length xs)) :
  Calls Try.prog 64 #[v, u] w (RetCI w cat0 2) := by
 have h0 := h
 obtain ⟨va, vb, vc, vd, ve, vf, vg, vh, rfl, h1, h2, h3, h4, _⟩ := h.lists
 obtain ⟨ua, uc, rfl⟩ := rd_form hu
 go_enter Try.func64, Try.ntmps64
 refine gc_enter (N := 24) rfl (look_cons (k := 0) rfl (look_cons (k := 1) rfl (look_nil _))) ?_
 refine gc_sr fun K1 hK1 => ?_
 refine gop fun K3 hK3 => ?_
 refine go_box rfl rfl rfl rfl rfl ?_
 intro B2
 refine hK3 _ _ ?_
 refine gop fun K5 hK5 => ?_
 refine go_alloc (z := (.agg #[.int .i64 0, .slice none 0 0, .slice none 0 0, .slice none 0 0, .slice none 0 0])) (cs := [.int .i64 0, .slice none 0 0, .slice none 0 0, .slice none 0 0, .slice none 0 0]) rfl rfl rfl (fun w => by kernel_rfl) rfl ?_
 intro B4
 refine hK5 _ _ ?_
 refine gas ?_
 refine gnt (hK1 _ _ ?_)
 refine gc_sr fun K6 hK6 => ?_
 refine gv (qts Try.underlying27 (n := 0)) ?_
 refine gop fun K8 hK8 => ?_
 refine go_callCI rfl rfl rfl Try.func87 rfl (by decide) rfl (fun w M => readCategory_t w _ _ (mem_rdC M h0) (by first | assumption | omega)) ?_
 intro ca7 cb7 cc7 cd7 ce7 cf7 cg7 ch7 cu7
 refine hK8 _ _ ?_
 refine gm ?_
 refine gv (qt_extract rfl rfl rfl) ?_
 refine gv (qt_extract rfl rfl rfl) ?_
 refine gop fun K10 hK10 => ?_
 refine go_alloc (z := (.agg #[.int .i64 0, .slice none 0 0, .slice none 0 0, .slice none 0 0, .slice none 0 0])) (cs := [.int .i64 0, .slice none 0 0, .slice none 0 0, .slice none 0 0, .slice none 0 0]) rfl rfl rfl (fun w => by kernel_rfl) rfl ?_
 intro B9
 refine hK10 _ _ ?_
 refine gop fun K11 hK11 => ?_
 refine go_storeS (n := 6) rfl rfl rfl rfl (by kernel_rfl) rfl rfl rfl ?_
 refine hK11 _ _ ?_
 refine gas ?_
 refine gnt (hK6 _ _ ?_)
 refine gc_seq fun K12 hK12 => ?_
 refine gc_sr fun K13 hK13 => ?_
 refine gm ?_
 refine gv (qt_eql_t rfl rfl rfl (by decide)) ?_
 refine gm ?_
 refine gvh (qts Try.underlying27 (n := 6)) ?_
 refine gvh (qt_move rfl rfl) ?_
 refine g_q (.held _ _ _ rfl rfl rfl) rfl rfl (qt_call rfl Try.func124 rfl (by decide) rfl (fun w M => hasArrows_any w _ _ _ _ _ (rdC_mk ((mem_own1 (n := 2) M rfl).rd) ((mem_own1 (n := 3) M rfl).rd) ((mem_own1 (n := 4) M rfl).rd) (mem_rdU (n := 5) M rfl)) (mem_rd M hu) rfl)) ?_
 refine gvh (qt_not rfl rfl) ?_
 refine gv (qt_pick_t rfl rfl rfl) ?_
 refine gnt (hK13 _ _ ?_)
 refine gc_cond rfl (fun hc0 => ?_) (fun hc0 => ?_)
 ·try simp only [decide_eq_true_eq, decide_eq_false_iff_not, Bool.not_eq_true', Bool.not_eq_false', Bool.not_eq_eq_eq_not, Bool.not_true, Bool.not_false] at hc0
  refine gc_sr fun K14 hK14 => ?_
  refine gv (qt_build rfl rfl bt0_Category) ?_
  refine gop fun K15 hK15 => ?_
  refine go_storeS (n := 1) rfl rfl rfl rfl (by kernel_rfl) rfl rfl rfl ?_
  refine hK15 _ _ ?_
  refine gas ?_
  refine gnt (hK14 _ _ ?_)
  refine gc_ret ?_
  refine gk_then_ret ?_
  refine ret_SI (n := 1) rfl rfl rfl Try.underlying27 rfl (by kernel_rfl) rfl (fun w M => ?_)
  exact ⟨_, rfl, ownC_zero _ _, M.1⟩
 ·try simp only [decide_eq_true_eq, decide_eq_false_iff_not, Bool.not_eq_true', Bool.not_eq_false', Bool.not_eq_eq_eq_not, Bool.not_true, Bool.not_false] at hc0
  exact absurd (bP_iff.1 hc0) hP
set_option maxHeartbeats 1000000 in
set_option maxRecDepth 100000 in
theorem readArrows_t (w : World) (v u : Value) (c : Cat) (xs : List Int) (h : RdC w v c) (hu : Rd w u xs) (hI : fIsCategory c = true) (hP : AllP c.s.length xs) :
  Calls Try.prog 64 #[v, u] w (RetCI w c 0) := by
 have h0 := h
 obtain ⟨va, vb, vc, vd, ve, vf, vg, vh, rfl, h1, h2, h3, h4, _⟩ := h.lists
 obtain ⟨ua, uc, rfl⟩ := rd_form hu
 go_enter Try.func64, Try.ntmps64
 refine gc_enter (N := 24) rfl (look_cons (k := 0) rfl (look_cons (k := 1) rfl (look_nil _))) ?_
 refine gc_sr fun K1 hK1 => ?_
 refine gop fun K3 hK3 => ?_
 refine go_box rfl rfl rfl rfl rfl ?_
 intro B2
 refine hK3 _ _ ?_
 refine gop fun K5 hK5 => ?_
 refine go_alloc (z := (.agg #[.int .i64 0, .slice none 0 0, .slice none 0 0, .slice none 0 0, .slice none 0 0])) (cs := [.int .i64 0, .slice none 0 0, .slice none 0 0, .slice none 0 0, .slice none 0 0]) rfl rfl rfl (fun w => by kernel_rfl) rfl ?_
 intro B4
 refine hK5 _ _ ?_
 refine gas ?_
 refine gnt (hK1 _ _ ?_)
 refine gc_sr fun K6 hK6 => ?_
 refine gv (qts Try.underlying27 (n := 0)) ?_
 refine gop fun K8 hK8 => ?_
 refine go_callCI rfl rfl rfl Try.func87 rfl (by decide) rfl (fun w M => readCategory_t w _ _ (mem_rdC M h0) (by first | assumption | omega)) ?_
 intro ca7 cb7 cc7 cd7 ce7 cf7 cg7 ch7 cu7
 refine hK8 _ _ ?_
 refine gm ?_
 refine gv (qt_extract rfl rfl rfl) ?_
 refine gv (qt_extract rfl rfl rfl) ?_
 refine gop fun K10 hK10 => ?_
 refine go_alloc (z := (.agg #[.int .i64 0, .slice none 0 0, .slice none 0 0, .slice none 0 0, .slice none 0 0])) (cs := [.int .i64 0, .slice none 0 0, .slice none 0 0, .slice none 0 0, .slice none 0 0]) rfl rfl rfl (fun w => by kernel_rfl) rfl ?_
 intro B9
 refine hK10 _ _ ?_
 refine gop fun K11 hK11 => ?_
 refine go_storeS (n := 6) rfl rfl rfl rfl (by kernel_rfl) rfl rfl rfl ?_
 refine hK11 _ _ ?_
 refine gas ?_
 refine gnt (hK6 _ _ ?_)
 refine gc_seq fun K12 hK12 => ?_
 refine gc_sr fun K13 hK13 => ?_
 refine gm ?_
 refine gv (qt_eql_t rfl rfl rfl (by decide)) ?_
 refine gm ?_
 refine gvh (qts Try.underlying27 (n := 6)) ?_
 refine gvh (qt_move rfl rfl) ?_
 refine g_q (.held _ _ _ rfl rfl rfl) rfl rfl (qt_call rfl Try.func124 rfl (by decide) rfl (fun w M => hasArrows_any w _ _ _ _ _ (rdC_mk ((mem_own1 (n := 2) M rfl).rd) ((mem_own1 (n := 3) M rfl).rd) ((mem_own1 (n := 4) M rfl).rd) (mem_rdU (n := 5) M rfl)) (mem_rd M hu) rfl)) ?_
 refine gvh (qt_not rfl rfl) ?_
 refine gv (qt_pick_t rfl rfl rfl) ?_
 refine gnt (hK13 _ _ ?_)
 refine gc_cond rfl (fun hc0 => ?_) (fun hc0 => ?_)
 ·try simp only [decide_eq_true_eq, decide_eq_false_iff_not, Bool.not_eq_true', Bool.not_eq_false', Bool.not_eq_eq_eq_not, Bool.not_true, Bool.not_false] at hc0
  rw [bP_t hP] at hc0; cases hc0
 ·try simp only [decide_eq_true_eq, decide_eq_false_iff_not, Bool.not_eq_true', Bool.not_eq_false', Bool.not_eq_eq_eq_not, Bool.not_true, Bool.not_false] at hc0
  refine gc_skip ?_
  refine gk_then (hK12 _ _ ?_)
  refine gc_sr fun K14 hK14 => ?_
  refine gv (qts Try.underlying27 (n := 6)) ?_
  refine gm ?_
  refine gop fun K15 hK15 => ?_
  refine go_storeS (n := 1) rfl rfl rfl rfl (by kernel_rfl) rfl rfl rfl ?_
  refine hK15 _ _ ?_
  refine gas ?_
  refine gnt (hK14 _ _ ?_)
  refine gc_ret ?_
  refine ret_SI (n := 1) rfl rfl rfl Try.underlying27 rfl (by kernel_rfl) rfl (fun w M => ?_)
  exact ⟨_, rfl, ownC_star (mem_pick (n := 5) (mem_pick (n := 5) (mem_pick (n := 5) (mem_pick (n := 5) (M) rfl) rfl) rfl) rfl).2, M.1⟩
end Go.Proofs.Ytpfcfhjpgngneac
set_option linter.unusedSimpArgs false
set_option linter.unusedVariables false
set_option linter.unusedSectionVars false
namespace Go.Proofs.Ytpfcfhjpgngneac
open Go.RowKit
end Go.Proofs.Ytpfcfhjpgngneac
set_option linter.unusedSimpArgs false
set_option linter.unusedVariables false
set_option linter.unusedSectionVars false
namespace Go.Proofs.Ytpfcfhjpgngneac
open Go.RowKit
noncomputable def arrErr (c : Cat) (xs : List Int) : Int := if fIsCategory c = true then (if AllP c.s.length xs then 0 else 2) else 1
theorem arrErr_f {c : Cat} {xs : List Int} (h : fIsCategory c = false) : arrErr c xs = 1 := by unfold arrErr; rw [if_neg (by rw [h]; decide)]
theorem arrErr_r {c : Cat} {xs : List Int} (h : fIsCategory c = true) (hp : ¬ AllP c.s.length xs) : arrErr c xs = 2 := by unfold arrErr; rw [if_pos h, if_neg hp]
theorem arrErr_t {c : Cat} {xs : List Int} (h : fIsCategory c = true) (hp : AllP c.s.length xs) : arrErr c xs = 0 := by unfold arrErr; rw [if_pos h, if_pos hp]
theorem arrErr_0 {c : Cat} {xs : List Int} (h : arrErr c xs = 0) : IsCat c ∧ AllP c.s.length xs := by
 cases hI : fIsCategory c with
 | false => rw [arrErr_f hI] at h; simp at h
 | true =>
  by_cases hp : AllP c.s.length xs
  ·exact ⟨isCat_of hI, hp⟩
  ·rw [arrErr_r hI hp] at h; simp at h
noncomputable def arrCat (c : Cat) (xs : List Int) : Cat := if arrErr c xs = 0 then c else cat0
theorem arrCat_t {c : Cat} {xs : List Int} (h : arrErr c xs = 0) : arrCat c xs = c := if_pos h
theorem readArrows_any (w : World) (v u : Value) (c : Cat) (xs : List Int) (h : RdC w v c) (hu : Rd w u xs) : Calls Try.prog 64 #[v, u] w (RetCI w (arrCat c xs) (arrErr c xs)) := by
 cases hI : fIsCategory c with
 | false => rw [arrErr_f hI, show arrCat c xs = cat0 from if_neg (by rw [arrErr_f hI]; decide)]; exact readArrows_f w v u c xs h hu hI
 | true =>
  by_cases hp : AllP c.s.length xs
  ·rw [arrErr_t hI hp, arrCat_t (arrErr_t hI hp)]; exact readArrows_t w v u c xs h hu hI hp
  ·rw [arrErr_r hI hp, show arrCat c xs = cat0 from if_neg (by rw [arrErr_r hI hp]; decide)]; exact readArrows_r w v u c xs h hu hI hp
noncomputable def fCompositeOf (c : Cat) (f g : Int) : Int × Int := if arrErr c [f, g] = 0 then (if at0 c.t f = at0 c.s g then (c.th f g, 0) else (0, 5)) else (0, arrErr c [f, g])
theorem comp_err {c : Cat} {f g : Int} (h : arrErr c [f, g] ≠ 0) : fCompositeOf c f g = (0, arrErr c [f, g]) := if_neg h
theorem comp_s {c : Cat} {f g : Int} (h : arrErr c [f, g] = 0) (h' : at0 c.t f ≠ at0 c.s g) : fCompositeOf c f g = (0, 5) := by unfold fCompositeOf; rw [if_pos h, if_neg h']
theorem comp_t {c : Cat} {f g : Int} (h : arrErr c [f, g] = 0) (h' : at0 c.t f = at0 c.s g) : fCompositeOf c f g = (c.th f g, 0) := by unfold fCompositeOf; rw [if_pos h, if_pos h']
theorem th_none {c : Cat} (hS : ShapeP c) {f g : Int} (f0 : 0 ≤ f) (f1 : f < c.s.length) (g0 : 0 ≤ g) (g1 : g < c.s.length) : c.th f g = -1 ↔ at0 c.t f ≠ at0 c.s g := by
 obtain ⟨a, rfl⟩ := Int.eq_ofNat_of_zero_le f0
 obtain ⟨b, rfl⟩ := Int.eq_ofNat_of_zero_le g0
 have hc := hS.co a b (by omega) (by omega)
 constructor
 ·intro h he
  have := (hc.1 he).1.1
  omega
 ·exact hc.2
set_option maxHeartbeats 1000000 in
set_option maxRecDepth 100000 in
theorem impl_CompositeOf (w : World) (v : Value) (c : Cat) (f g : Int) (h : RdC w v c) :
  Calls Try.prog 21 #[v, .int .i64 f, .int .i64 g] w (RetII w (fCompositeOf c f g).1 (fCompositeOf c f g).2) := by
 have h0 := h
 obtain ⟨va, vb, vc, vd, ve, vf, vg, vh, rfl, h1, h2, h3, h4, _⟩ := h.lists
 go_enter Try.func21, Try.ntmps21
 refine gc_enter (N := 29) rfl (look_cons (k := 0) rfl (look_cons (k := 1) rfl (look_cons (k := 2) rfl (look_nil _)))) ?_
 refine gc_sr fun K1 hK1 => ?_
 refine gop fun K3 hK3 => ?_
 refine go_box rfl rfl rfl rfl rfl ?_
 intro B2
 refine hK3 _ _ ?_
 refine gas ?_
 refine gas ?_
 refine gnt (hK1 _ _ ?_)
 refine gc_sr fun K4 hK4 => ?_
 refine gv (qts Try.underlying27 (n := 0)) ?_
 refine gm ?_
 refine gm ?_
 refine gop fun K6 hK6 => ?_
 refine go_slice2 rfl rfl rfl rfl rfl Try.underlying24 ?_
 intro B5
 refine hK6 _ _ ?_
 refine gop fun K8 hK8 => ?_
 refine go_callCI rfl rfl rfl Try.func64 rfl (by decide) rfl (fun w M => readArrows_any w _ _ _ _ (mem_rdC M h0) ((mem_own1 (n := 1) M rfl).rd)) ?_
 intro ca7 cb7 cc7 cd7 ce7 cf7 cg7 ch7 cu7
 refine hK8 _ _ ?_
 refine gm ?_
 refine gv (qt_extract rfl rfl rfl) ?_
 refine gv (qt_extract rfl rfl rfl) ?_
 refine gop fun K10 hK10 => ?_
 refine go_alloc (z := (.agg #[.int .i64 0, .slice none 0 0, .slice none 0 0, .slice none 0 0, .slice none 0 0])) (cs := [.int .i64 0, .slice none 0 0, .slice none 0 0, .slice none 0 0, .slice none 0 0]) rfl rfl rfl (fun w => by kernel_rfl) rfl ?_
 intro B9
 refine hK10 _ _ ?_
 refine gop fun K11 hK11 => ?_
 refine go_storeS (n := 6) rfl rfl rfl rfl (by kernel_rfl) rfl rfl rfl ?_
 refine hK11 _ _ ?_
 refine gas ?_
 refine gnt (hK4 _ _ ?_)
 refine gc_seq fun K12 hK12 => ?_
 refine gc_sr fun K13 hK13 => ?_
 refine gm ?_
 refine gv (qt_neq rfl rfl rfl) ?_
 refine gnt (hK13 _ _ ?_)
 refine gc_cond rfl (fun hc0 => ?_) (fun hc0 => ?_)
 ·try simp only [sA] at hc0
  refine gc_sr fun K14 hK14 => ?_
  refine gm ?_
  refine gas ?_
  refine gas ?_
  refine gnt (hK14 _ _ ?_)
  refine gc_ret ?_
  refine gk_then_ret ?_
  refine ret_2 rfl rfl rfl  (fun w M => ?_)
  rw [comp_err hc0]; exact ⟨rfl, M.1⟩
 ·try simp only [sA] at hc0
  refine gc_skip ?_
  refine gk_then (hK12 _ _ ?_)
  refine gc_seq fun K15 hK15 => ?_
  have hE := arrErr_0 hc0
  have hS := hE.1.toShapeP
  obtain ⟨⟨f0, f1⟩, g0, g1⟩ := allP_two.1 hE.2
  have hf := arrP hS f0 f1
  have hg := arrP hS g0 g1
  have e1 := hf.fm; have e2 := hf.row; have e3 := hf.ft; have e4 := hg.ft
  simp only [arrCat_t hc0]
  refine gc_region ?_
  refine gv (qts Try.underlying27 (n := 6)) ?_
  refine gm ?_
  refine gm ?_
  refine g_q (.free rfl) rfl rfl (qt_call rfl Try.func75 rfl (by decide) rfl (fun w M => then_any w _ _ _ _ (rdC_mk ((mem_own1 (n := 2) M rfl).rd) ((mem_own1 (n := 3) M rfl).rd) ((mem_own1 (n := 4) M rfl).rd) (mem_rdU (n := 5) M rfl)) (by first | assumption | omega) (by first | assumption | omega) (by first | assumption | omega) (by first | assumption | omega))) ?_
  refine gas ?_
  refine gnt (hK15 _ _ ?_)
  refine gc_seq fun K16 hK16 => ?_
  refine gc_sr fun K17 hK17 => ?_
  refine gm ?_
  refine gv (qt_eql rfl rfl rfl) ?_
  refine gnt (hK17 _ _ ?_)
  refine gc_cond rfl (fun hc1 => ?_) (fun hc1 => ?_)
  ·try simp only [sA] at hc1
   refine gc_sr fun K18 hK18 => ?_
   refine gas ?_
   refine gas ?_
   refine gnt (hK18 _ _ ?_)
   refine gc_ret ?_
   refine gk_then_ret ?_
   refine ret_2 rfl rfl rfl  (fun w M => ?_)
   rw [comp_s hc0 ((th_none hS f0 f1 g0 g1).1 hc1)]; exact ⟨rfl, M.1⟩
  ·try simp only [sA] at hc1
   refine gc_skip ?_
   refine gk_then (hK16 _ _ ?_)
   refine gc_sr fun K19 hK19 => ?_
   refine gm ?_
   refine gas ?_
   refine gas ?_
   refine gnt (hK19 _ _ ?_)
   refine gc_ret ?_
   refine ret_2 rfl rfl rfl  (fun w M => ?_)
   rw [comp_t hc0 (Classical.not_not.1 fun h => hc1 ((th_none hS f0 f1 g0 g1).2 h))]; exact ⟨rfl, M.1⟩
end Go.Proofs.Ytpfcfhjpgngneac
set_option linter.unusedSimpArgs false
set_option linter.unusedVariables false
set_option linter.unusedSectionVars false
namespace Go.Proofs.Ytpfcfhjpgngneac
open Go.RowKit
def pathGo (c : Cat) : Int → List Int → Int × Int
 | h, [] => (h, 0)
 | h, f :: r => if at0 c.t h = at0 c.s f then pathGo c (c.th h f) r else (0, 5)
structure PathI (c : Cat) (e0 : Int) (xs : List Int) (k : Nat) (h : Int) : Prop where
 kl : k ≤ xs.length
 h0 : 0 ≤ h
 h1 : h < c.s.length
 go : pathGo c h (xs.drop k) = pathGo c e0 xs
theorem bP_f' {p : Prop} (h : bP p = false) : ¬ p := fun hp => by rw [bP_t hp] at h; cases h
theorem bP_t' {p : Prop} (h : bP p = true) : p := bP_iff.1 h
end Go.Proofs.Ytpfcfhjpgngneac
namespace Go.Proofs.Ytpfcfhjpgngneac
open Go.RowKit
def RetBI (W : World) (b : Bool) (n : Int) (e : Ending) (w' : World) : Prop := e = .returned (.tuple #[.bool b, .int .i64 n]) ∧ Below W.heap.size W w'
theorem th_ends {c : Cat} (hS : ShapeP c) {f g : Int} (f0 : 0 ≤ f) (f1 : f < c.s.length) (g0 : 0 ≤ g) (g1 : g < c.s.length) (h : at0 c.t f = at0 c.s g) : (0 ≤ c.th f g ∧ c.th f g < c.s.length) ∧ at0 c.s (c.th f g) = at0 c.s f ∧ at0 c.t (c.th f g) = at0 c.t g := by
 obtain ⟨a, rfl⟩ := Int.eq_ofNat_of_zero_le f0
 obtain ⟨b, rfl⟩ := Int.eq_ofNat_of_zero_le g0
 exact (hS.co a b (by omega) (by omega)).1 h
theorem all_next {p : Nat → Prop} {k : Nat} (h : ∀ j, j < k → p j) (hk : p k) : ∀ j, j < k + 1 → p j := fun j hj => by
 rcases Nat.lt_or_ge j k with h1 | h1
 ·exact h j h1
 ·rw [show j = k from by omega]; exact hk
end Go.Proofs.Ytpfcfhjpgngneac
set_option linter.unusedSimpArgs false
set_option linter.unusedVariables false
set_option linter.unusedSectionVars false
namespace Go.Proofs.Ytpfcfhjpgngneac
open Go.RowKit
def tabTo (φ : Nat → Int) (k : Nat) : List Int := (List.range k).map φ
theorem tabTo_succ (φ : Nat → Int) (k : Nat) : tabTo φ k ++ [φ k] = tabTo φ (k + 1) := by simp [tabTo, List.range_succ]
theorem tabTo_len (φ : Nat → Int) (k : Nat) : (tabTo φ k).length = k := by simp [tabTo]
theorem tabTo_at (φ : Nat → Int) {k j : Nat} (h : j < k) : at0 (tabTo φ k) j = φ j := by
  rw [at0_nat]; simp [tabTo, List.getD_eq_getElem?_getD, List.getElem?_eq_getElem, h]
theorem tabTo_ext {xs : List Int} {φ : Nat → Int} {n : Nat} (hl : xs.length = n) (h : ∀ j, j < n → at0 xs (j : Int) = φ j) : xs = tabTo φ n := by
  subst hl
  refine List.ext_getElem (by simp [tabTo]) fun j h1 h2 => ?_
  have := h j h1
  rw [at0_nat, List.getD_eq_getElem?_getD, List.getElem?_eq_getElem h1] at this
  simpa [tabTo] using this
def rowsTo (ψ : Nat → List Int) (k : Nat) : List (List Int) := (List.range k).map ψ
theorem rowsTo_succ (ψ : Nat → List Int) (k : Nat) : rowsTo ψ k ++ [ψ k] = rowsTo ψ (k + 1) := by simp [rowsTo, List.range_succ]
theorem rowsTo_len (ψ : Nat → List Int) (k : Nat) : (rowsTo ψ k).length = k := by simp [rowsTo]
theorem rowsTo_at (ψ : Nat → List Int) {k j : Nat} (h : j < k) : row2 (rowsTo ψ k) j = ψ j := by
  simp [row2, rowsTo, List.getD_eq_getElem?_getD, List.getElem?_eq_getElem, h]
theorem rowsTo_ext {xs : List (List Int)} {ψ : Nat → List Int} {n : Nat} (hl : xs.length = n) (h : ∀ j, j < n → row2 xs (j : Int) = ψ j) : xs = rowsTo ψ n := by
  subst hl
  refine List.ext_getElem (by simp [rowsTo]) fun j h1 h2 => ?_
  have := h j h1
  simp only [row2, Int.toNat_natCast, List.getD_eq_getElem?_getD, List.getElem?_eq_getElem h1, Option.getD_some] at this
  simpa [rowsTo] using this
end Go.Proofs.Ytpfcfhjpgngneac
set_option linter.unusedSimpArgs false
set_option linter.unusedVariables false
set_option linter.unusedSectionVars false
namespace Go.Proofs.Ytpfcfhjpgngneac
open Go.RowKit
abbrev Ent (α : Type) := Int × Int × α
structure Lab (α : Type) where
  z : Nat
  lc : α → List Value
  tE : TypeId
  tS : TypeId
  tM : TypeId
  bts : Nat
  zc : Value
  td : TypeDesc
  len : ∀ l, (lc l).length = z
  one : ∀ l, (lc l).all (·.oneCell') = true
  inf : (Try.prog.info? tE).map (fun i => (i.zero, i.size, i.bytes)) = some (some zc, z + 2, bts)
  zl : zc.cells.size = z + 2
  cap : Nat
  hc1 : 1 ≤ cap
  hc2 : cap ≤ 17592186044415
  hcb : cap * bts ≤ 140737488355328
  hz : z ≤ 64
  ud : Try.prog.underlying tE = some td
  row : td.isRow = true
  ul : Try.prog.underlying tS = some (.slice tE)
  el : Try.prog.elem tS = tE
  um : Try.prog.underlying tM = some (.map tE 2)
  chk : ∀ (a b : Int) (l : α) (em : Bool) (w : World), (Instr.checkKey em 10000 tE (.agg (Value.int .i64 a :: Value.int .i64 b :: lc l).toArray)).run Try.prog w = .ok () w
  eqk : ∀ (a b a' b' : Int) (l l' : α) (w : World), (Op.equal tE (.agg (Value.int .i64 a :: Value.int .i64 b :: lc l).toArray) (.agg (Value.int .i64 a' :: Value.int .i64 b' :: lc l').toArray)).run Try.prog w = .ok (bP (a = a' ∧ b = b' ∧ l = l')) w
variable {α : Type}
def enc (L : Lab α) (e : Ent α) : List Value := Value.int .i64 e.1 :: Value.int .i64 e.2.1 :: L.lc e.2.2
theorem fold_set (l : List Value) : ∀ (k : Nat) (cs : Array Value), k + l.length = cs.size → (l.zipIdx k).foldl (fun (cs : Array Value) x => cs.setIfInBounds x.2 x.1) cs = (cs.toList.take k ++ l).toArray := by
  induction l with
  | nil =>
    intro k cs h
    simp only [List.length_nil, Nat.add_zero] at h
    subst h
    rw [List.take_of_length_le (by simp)]; simp
  | cons a l ih =>
    intro k cs h
    simp only [List.length_cons] at h
    rw [List.zipIdx_cons, List.foldl_cons, ih (k + 1) _ (by simp; omega)]
    apply congrArg List.toArray
    have hk : k < cs.toList.length := by simp; omega
    have : (cs.setIfInBounds k a).toList.take (k + 1) = cs.toList.take k ++ [a] := by
      rw [Array.toList_setIfInBounds, List.take_succ_eq_append_getElem (by simpa using hk), List.take_set_of_le (Nat.le_refl k)]
      simp
    rw [this]; simp
@[irreducible] def atE [Inhabited α] (es : List (Ent α)) (i : Int) : Ent α := es.getD i.toNat default
def eltE (z : Nat) (v : Value) (i : Int) : Value := match v with | .slice (some a) _ _ => .pointer (some ⟨a.block, a.off + i.toNat * z, none⟩) | _ => .pointer none
section
variable {w0 : World} {is : List Itm} {ops : Array Oper} {Q : Exit → Act → World → Prop} {o : Oper} {rest : List Oper} {N : Nat} {e : Env} {v : Value} {d : Nat} {K : Act → World → Prop}
end
noncomputable def posE [DecidableEq α] (es : List (Ent α)) (e : Ent α) : Int := if e ∈ es then (es.idxOf e : Int) else 0
section
variable {w0 : World} {is : List Itm} {ops : Array Oper} {Q : Exit → Act → World → Prop} {o : Oper} {rest : List Oper} {N : Nat} {e : Env} {v : Value} {d : Nat} {K : Act → World → Prop}
end
end Go.Proofs.Ytpfcfhjpgngneac
set_option linter.unusedSimpArgs false
set_option linter.unusedVariables false
set_option linter.unusedSectionVars false
namespace Go.Proofs.Ytpfcfhjpgngneac
open Go.RowKit
section
variable {w0 : World} {is is0 : List Itm} {ops : Array Oper} {Q : Exit → Act → World → Prop} {o : Oper} {rest : List Oper} {N : Nat} {e : Env} {v : Value} {d : Nat} {K : Act → World → Prop}
variable {f : FuncId} {fn : Func} {ags : Array Operand} {ts : Array TypeId} {vs caps : List Value}
theorem ga_two {fuel : Nat} {listed : Array Bool} {oi oj : Oper} (i j : Nat) (hr : Region.ready .any ops listed = [i, j]) (hi : ops[i]? = some oi) (hj : ops[j]? = some oj) (wi : Want ops e oi true) (wj : Want ops e oj true)
    (h1 : ∀ K : Act → World → Prop, (∀ is e, (∀ w, Mem w0 w is → Mem w0 w is0) → GA w0 is0 is N ops Q fuel (listed.setIfInBounds i true) e → GK w0 is N K e) → GO w0 is N oi e Q K)
    (h2 : ∀ K : Act → World → Prop, (∀ is e, (∀ w, Mem w0 w is → Mem w0 w is0) → GA w0 is0 is N ops Q fuel (listed.setIfInBounds j true) e → GK w0 is N K e) → GO w0 is N oj e Q K) : GA w0 is0 is N ops Q (fuel + 1) listed e := by
  intro w a h0 M F
  refine wpAnyH_ready hr (by simp) (AllReadyH.cons hi (fun K' hK => ?_) (AllReadyH.cons hj (fun K' hK => ?_) AllReadyH.nil))
  · rw [if_pos (want_eq wi F)]
    exact h1 K' (fun is' e' hS hg w' a' M' F' => hK.out a' w' (hS w' M') fun h0' => hg w' a' h0' M' F') w a M F
  · rw [if_pos (want_eq wj F)]
    exact h2 K' (fun is' e' hS hg w' a' M' F' => hK.out a' w' (hS w' M') fun h0' => hg w' a' h0' M' F') w a M F
theorem ga_three {fuel : Nat} {listed : Array Bool} {oa ob oc : Oper} (ia ib ic : Nat) (hr : Region.ready .any ops listed = [ia, ib, ic]) (ha : ops[ia]? = some oa) (wa : Want ops e oa true) (hb : ops[ib]? = some ob) (wb : Want ops e ob true) (hc : ops[ic]? = some oc) (wc : Want ops e oc true) 
    (ka : ∀ K : Act → World → Prop, (∀ is e, (∀ w, Mem w0 w is → Mem w0 w is0) → GA w0 is0 is N ops Q fuel (listed.setIfInBounds ia true) e → GK w0 is N K e) → GO w0 is N oa e Q K)
    (kb : ∀ K : Act → World → Prop, (∀ is e, (∀ w, Mem w0 w is → Mem w0 w is0) → GA w0 is0 is N ops Q fuel (listed.setIfInBounds ib true) e → GK w0 is N K e) → GO w0 is N ob e Q K)
    (kc : ∀ K : Act → World → Prop, (∀ is e, (∀ w, Mem w0 w is → Mem w0 w is0) → GA w0 is0 is N ops Q fuel (listed.setIfInBounds ic true) e → GK w0 is N K e) → GO w0 is N oc e Q K) : GA w0 is0 is N ops Q (fuel + 1) listed e := by
  intro w a h0 M F
  refine wpAnyH_ready hr (by simp) (AllReadyH.cons ha (fun K' hK => ?_) (AllReadyH.cons hb (fun K' hK => ?_) (AllReadyH.cons hc (fun K' hK => ?_) AllReadyH.nil)))
  · rw [if_pos (want_eq wa F)]
    exact ka K' (fun is' e' hS hg w' a' M' F' => hK.out a' w' (hS w' M') fun h0' => hg w' a' h0' M' F') w a M F
  · rw [if_pos (want_eq wb F)]
    exact kb K' (fun is' e' hS hg w' a' M' F' => hK.out a' w' (hS w' M') fun h0' => hg w' a' h0' M' F') w a M F
  · rw [if_pos (want_eq wc F)]
    exact kc K' (fun is' e' hS hg w' a' M' F' => hK.out a' w' (hS w' M') fun h0' => hg w' a' h0' M' F') w a M F
theorem ga_four {fuel : Nat} {listed : Array Bool} {oa ob oc od : Oper} (ia ib ic id : Nat) (hr : Region.ready .any ops listed = [ia, ib, ic, id]) (ha : ops[ia]? = some oa) (wa : Want ops e oa true) (hb : ops[ib]? = some ob) (wb : Want ops e ob true) (hc : ops[ic]? = some oc) (wc : Want ops e oc true) (hd : ops[id]? = some od) (wd : Want ops e od true) 
    (ka : ∀ K : Act → World → Prop, (∀ is e, (∀ w, Mem w0 w is → Mem w0 w is0) → GA w0 is0 is N ops Q fuel (listed.setIfInBounds ia true) e → GK w0 is N K e) → GO w0 is N oa e Q K)
    (kb : ∀ K : Act → World → Prop, (∀ is e, (∀ w, Mem w0 w is → Mem w0 w is0) → GA w0 is0 is N ops Q fuel (listed.setIfInBounds ib true) e → GK w0 is N K e) → GO w0 is N ob e Q K)
    (kc : ∀ K : Act → World → Prop, (∀ is e, (∀ w, Mem w0 w is → Mem w0 w is0) → GA w0 is0 is N ops Q fuel (listed.setIfInBounds ic true) e → GK w0 is N K e) → GO w0 is N oc e Q K)
    (kd : ∀ K : Act → World → Prop, (∀ is e, (∀ w, Mem w0 w is → Mem w0 w is0) → GA w0 is0 is N ops Q fuel (listed.setIfInBounds id true) e → GK w0 is N K e) → GO w0 is N od e Q K) : GA w0 is0 is N ops Q (fuel + 1) listed e := by
  intro w a h0 M F
  refine wpAnyH_ready hr (by simp) (AllReadyH.cons ha (fun K' hK => ?_) (AllReadyH.cons hb (fun K' hK => ?_) (AllReadyH.cons hc (fun K' hK => ?_) (AllReadyH.cons hd (fun K' hK => ?_) AllReadyH.nil))))
  · rw [if_pos (want_eq wa F)]
    exact ka K' (fun is' e' hS hg w' a' M' F' => hK.out a' w' (hS w' M') fun h0' => hg w' a' h0' M' F') w a M F
  · rw [if_pos (want_eq wb F)]
    exact kb K' (fun is' e' hS hg w' a' M' F' => hK.out a' w' (hS w' M') fun h0' => hg w' a' h0' M' F') w a M F
  · rw [if_pos (want_eq wc F)]
    exact kc K' (fun is' e' hS hg w' a' M' F' => hK.out a' w' (hS w' M') fun h0' => hg w' a' h0' M' F') w a M F
  · rw [if_pos (want_eq wd F)]
    exact kd K' (fun is' e' hS hg w' a' M' F' => hK.out a' w' (hS w' M') fun h0' => hg w' a' h0' M' F') w a M F
theorem gc_cut {σ : Type} {c : Code} (C : Env) (E : σ → Env) (ch : σ → List (Nat × Itm)) (nw : σ → List Itm) (hC : Sub C e) (h1 : ∀ s, GK w0 (updL is (ch s) ++ nw s) N (Q .normal) (E s ++ C)) (h2 : (∀ s, GK w0 (updL is (ch s) ++ nw s) N (Q .normal) (E s ++ C)) → GC w0 is N c Q e) : GC w0 is N c Q e := h2 h1
def pickL : List Itm → List Nat → List Itm
  | _, [] => []
  | is, k :: ks => match is[k]? with
    | some i => i :: pickL (is.eraseIdx k) ks
    | none => pickL is ks
theorem star_pickL : ∀ (ks : List Nat) (is : List Itm) {w : World} {S : Nat → Prop}, Star is w S → Star (pickL is ks) w S
  | [], _, _, _, _ => trivial
  | k :: ks, is, w, S, h => by
    unfold pickL
    cases hi : is[k]? with
    | none => exact star_pickL ks is h
    | some i =>
      obtain ⟨S1, S2, k1, k2, hd, h1, h2⟩ := star_pick is hi h
      exact ⟨S1, S2, k1, k2, hd, h1, star_pickL ks _ h2⟩
theorem gk_pickL (ks : List Nat) (h : GK w0 (pickL is ks) N K e) : GK w0 is N K e := fun w a M F => h w a ⟨M.1, star_pickL ks is M.2⟩ F
theorem gc_enterM {c : Code} {w : World} {l : List Value} (M : Mem w0 w is) (hN : l.length = N) (he : ∀ t v, look e t = some v → l[t]? = some v) (h : GC w0 is N c Q e) : c.wp Try.prog Q ⟨l.toArray, []⟩ w := h w _ M (fit_enter hN he)
end
section
variable {w0 : World} {is : List Itm} {o : Oper} {e : Env}
end
end Go.Proofs.Ytpfcfhjpgngneac
set_option linter.unusedSimpArgs false
set_option linter.unusedVariables false
set_option linter.unusedSectionVars false
namespace Go.Proofs.Ytpfcfhjpgngneac
open Go.RowKit
section
variable {α : Type} [Inhabited α]
theorem atE_mem {es : List (Ent α)} {k : Nat} (h : k < es.length) : atE es (k : Int) ∈ es := by
 simp only [atE, Int.toNat_natCast, List.getD_eq_getElem?_getD, List.getElem?_eq_getElem h, Option.getD_some]; exact List.getElem_mem h
theorem atE_eq {es : List (Ent α)} {k : Nat} (h : k < es.length) : atE es (k : Int) = es[k] := by
 simp [atE, List.getD_eq_getElem?_getD, List.getElem?_eq_getElem h]
variable [DecidableEq α]
noncomputable def cellE (es : List (Ent α)) (th : α → α → α) (f g : Ent α) : Int := if f.2.1 = g.1 then posE es (f.1, g.2.1, th f.2.2 g.2.2) else -1
noncomputable def rowE (es : List (Ent α)) (th : α → α → α) (f : Ent α) : List Int := tabTo (fun j => cellE es th f (atE es (j : Int))) es.length
noncomputable def buildE (n : Int) (es : List (Ent α)) (u : Nat → α) (th : α → α → α) : Cat :=
 ⟨n, tabTo (fun i => (atE es (i : Int)).1) es.length, tabTo (fun i => (atE es (i : Int)).2.1) es.length, tabTo (fun x => posE es ((x : Int), (x : Int), u x)) n.toNat, rowsTo (fun i => rowE es th (atE es (i : Int))) es.length⟩
end
end Go.Proofs.Ytpfcfhjpgngneac
set_option linter.unusedSimpArgs false
set_option linter.unusedVariables false
set_option linter.unusedSectionVars false
namespace Go.Proofs.Ytpfcfhjpgngneac
open Go.RowKit
section
variable {w0 : World} {is : List Itm} {o : Oper} {e : Env} {v : Value}
end
end Go.Proofs.Ytpfcfhjpgngneac
set_option linter.unusedSimpArgs false
set_option linter.unusedVariables false
set_option linter.unusedSectionVars false
namespace Go.Proofs.Ytpfcfhjpgngneac
open Go.RowKit
section
variable {α : Type} [Inhabited α]
def entsTo (φ : Nat → Ent α) (k : Nat) : List (Ent α) := (List.range k).map φ
theorem entsTo_len (φ : Nat → Ent α) (k : Nat) : (entsTo φ k).length = k := by simp [entsTo]
theorem entsTo_at (φ : Nat → Ent α) {k j : Nat} (h : j < k) : atE (entsTo φ k) (j : Int) = φ j := by
  rw [atE_eq (by rw [entsTo_len]; exact h)]; simp [entsTo]
theorem entsTo_nodup {φ : Nat → Ent α} {k : Nat} (h : ∀ i j, i < k → j < k → φ i = φ j → i = j) : (entsTo φ k).Nodup := by
  unfold entsTo List.Nodup
  rw [List.pairwise_map]
  refine List.Pairwise.imp_of_mem (fun {a b} ha hb hab he => hab (h a b (List.mem_range.1 ha) (List.mem_range.1 hb) he)) (List.nodup_range (n := k))
variable [DecidableEq α]
theorem idx_nodup {β : Type} [BEq β] [LawfulBEq β] : ∀ (es : List β) (j : Nat) (h : j < es.length), es.Nodup → es.idxOf es[j] = j
  | [], j, h, _ => by simp at h
  | e :: es, 0, h, _ => by simp
  | e :: es, j + 1, h, hn => by
    have hn' := List.nodup_cons.1 hn
    have hj : j < es.length := by simpa using h
    have hne : (e == es[j]) = false := by
      simp only [beq_eq_false_iff_ne, ne_eq]
      intro he
      exact hn'.1 (by rw [he]; exact List.getElem_mem hj)
    simp only [List.getElem_cons_succ, List.idxOf_cons, hne, idx_nodup es j hj hn'.2]
    rfl
theorem posE_at {es : List (Ent α)} (hn : es.Nodup) {j : Nat} (h : j < es.length) {e : Ent α} (he : atE es (j : Int) = e) : posE es e = j := by
  subst he
  have hm := atE_mem h
  unfold posE
  rw [if_pos hm, atE_eq h]
  rw [idx_nodup es j h hn]
theorem posE_to {φ : Nat → Ent α} {k : Nat} (hi : ∀ i j, i < k → j < k → φ i = φ j → i = j) {j : Nat} (h : j < k) {e : Ent α} (he : φ j = e) : posE (entsTo φ k) e = j :=
  posE_at (entsTo_nodup hi) (by rw [entsTo_len]; exact h) (by rw [entsTo_at φ h, he])
theorem posE_int {φ : Nat → Ent α} {k : Nat} (hi : ∀ i j, i < k → j < k → φ i = φ j → i = j) {j : Int} (h0 : 0 ≤ j) (h1 : j < k) {e : Ent α} (he : φ j.toNat = e) : posE (entsTo φ k) e = j := by
  obtain ⟨n, rfl⟩ := Int.eq_ofNat_of_zero_le h0
  exact posE_to hi (by omega) he
theorem buildE_to {n : Int} {φ : Nat → Ent α} {k : Nat} {u : Nat → α} {th : α → α → α} {c : Cat} (ho : c.ob = n) (hs : c.s.length = k) (ht : c.t.length = k) (he : c.e.length = n.toNat) (hm : c.m.length = k) (hr : ∀ i, i < k → (row2 c.m (i : Int)).length = k)
    (h1 : ∀ i, i < k → at0 c.s (i : Int) = (φ i).1) (h2 : ∀ i, i < k → at0 c.t (i : Int) = (φ i).2.1) (h3 : ∀ x, x < n.toNat → at0 c.e (x : Int) = posE (entsTo φ k) ((x : Int), (x : Int), u x))
    (h4 : ∀ i j, i < k → j < k → at0 (row2 c.m (i : Int)) (j : Int) = cellE (entsTo φ k) th (φ i) (φ j)) : buildE n (entsTo φ k) u th = c := by
  have e1 : c.s = tabTo (fun i => (atE (entsTo φ k) (i : Int)).1) k := tabTo_ext hs fun j hj => by rw [h1 j hj, entsTo_at φ hj]
  have e2 : c.t = tabTo (fun i => (atE (entsTo φ k) (i : Int)).2.1) k := tabTo_ext ht fun j hj => by rw [h2 j hj, entsTo_at φ hj]
  have e3 : c.e = tabTo (fun x => posE (entsTo φ k) ((x : Int), (x : Int), u x)) n.toNat := tabTo_ext he fun j hj => h3 j hj
  have e4 : c.m = rowsTo (fun i => rowE (entsTo φ k) th (atE (entsTo φ k) (i : Int))) k := rowsTo_ext hm fun i hi => by
    unfold rowE
    rw [entsTo_len]
    refine tabTo_ext (hr i hi) fun j hj => ?_
    rw [h4 i j hi hj, entsTo_at φ hi, entsTo_at φ hj]
  obtain ⟨ob, s, t, e, m⟩ := c
  simp only at ho e1 e2 e3 e4
  unfold buildE
  rw [entsTo_len, ← e1, ← e2, ← e3, ← e4, ho]
end
end Go.Proofs.Ytpfcfhjpgngneac
