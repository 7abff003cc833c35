import Derived.Test.YtbiplocgenppoaaC4
import Derived.Test.YtbiplocgenppoaaC8
import Derived.Test.YtbiplocgenppoaaC1
import Derived.Maps.AppendAt
import Derived.WideKeyRuns
set_option maxHeartbeats 1000000
set_option maxRecDepth 100000
set_option linter.unusedSimpArgs false
set_option linter.unusedVariables false
set_option linter.unusedSectionVars false
namespace Go.Proofs.Ytbiplocgenppoaa
open _root_.Go.Proofs.Try
open Go.RowKit
theorem clone_any (w : World) (v : Value) (xs : List Int) (h : Rd w v xs) :
  Calls Try.prog 79 #[v] w (RetL w xs) := by
 obtain ⟨va, vc, rfl⟩ := rd_form h
 have hxl : xs.length ≤ 17592186044415 := by obtain ⟨_, _, _, hl, _⟩ := h; exact hl
 go_enter func79, Try.ntmps79
 refine gc_enter (N := 8) rfl (look_cons (k := 0) rfl (look_nil _)) ?_
 refine gc_sr fun K1 hK1 => ?_
 refine gas ?_
 refine gnt (hK1 _ _ ?_)
 refine gc_seq fun K2 hK2 => ?_
 refine gc_sr fun K3 hK3 => ?_
 refine gm ?_
 refine gv (qt_eqNil rfl rfl underlying24) ?_
 refine gnt (hK3 _ _ ?_)
 refine gc_cond rfl (fun hc0 => ?_) (fun hc0 => ?_)
 ·try simp only [decide_eq_true_eq, decide_eq_false_iff_not, Bool.not_eq_true', Bool.not_eq_false', Bool.not_eq_eq_eq_not, Bool.not_true, Bool.not_false] at hc0
  refine gc_sr fun K4 hK4 => ?_
  refine gas ?_
  refine gnt (hK4 _ _ ?_)
  refine gc_ret ?_
  refine gk_then_ret ?_
  refine ret_1 rfl rfl  (fun w M => ?_)
  have hx : xs = [] := by rcases nil_rd h hc0 with h | h <;> first | exact h.2 | exact h
  subst hx
  exact ⟨_, rfl, Sl.nil _ _, M.1⟩
 try simp only [decide_eq_true_eq, decide_eq_false_iff_not, Bool.not_eq_true', Bool.not_eq_false', Bool.not_eq_eq_eq_not, Bool.not_true, Bool.not_false] at hc0
 refine gc_skip ?_
 refine gk_then (hK2 _ _ ?_)
 refine gc_sr fun K5 hK5 => ?_
 refine gop fun K7 hK7 => ?_
 refine go_slice0 rfl rfl rfl underlying24 ?_
 intro B6
 refine hK7 _ _ ?_
 refine gm ?_
 refine gop fun K9 hK9 => ?_
 refine go_appendL (n := 0) rfl rfl rfl underlying24 rfl rfl rfl (fun w M => mem_rd M h) (by assumption) (by first | simp; omega | omega) ?_
 intro va8 vc8
 refine hK9 _ _ ?_
 refine gas ?_
 refine gnt (hK5 _ _ ?_)
 refine gc_ret ?_
 refine ret_1 rfl rfl  (fun w M => ?_)
 exact ⟨_, rfl, mem_own1 (n := 0) M rfl, M.1⟩
theorem rd2_len {w : World} {v : Value} {rows : List (List Int)} (h : Rd2 w v rows) : rows.length ≤ 5000000000000 := by obtain ⟨_, _, _, hl, _⟩ := h; exact hl
theorem fill_next {rows : List (List Int)} {k : Nat} (hk : k < rows.length) :
  (rows.take k ++ List.replicate (rows.length - k) []).set ((k : Int)).toNat (row2 rows (k : Int)) = rows.take (k + 1) ++ List.replicate (rows.length - (k + 1)) [] := by
 have := rows_fill hk
 simpa [row2] using this
theorem fill_len {rows : List (List Int)} {k : Nat} (hk : k ≤ rows.length) : (rows.take k ++ List.replicate (rows.length - k) ([] : List Int)).length = rows.length := by simp; omega
theorem fill_end {rows : List (List Int)} : rows.take rows.length ++ List.replicate (rows.length - rows.length) ([] : List Int) = rows := by simp
theorem fill_start {rows : List (List Int)} : rows.take 0 ++ List.replicate (rows.length - 0) ([] : List Int) = List.replicate rows.length [] := by simp
theorem copied_any (w : World) (v : Value) (c : Cat) (h : RdC w v c) :
  Calls Try.prog 56 #[v] w (RetC w c) := by
 have h0 := h
 obtain ⟨va, vb, vc, vd, ve, vf, vg, vh, rfl, h1, h2, h3, h4, _⟩ := h.lists
 have hml := rd2_len h4
 go_enter func56, Try.ntmps56
 refine gc_enter (N := 37) rfl (look_cons (k := 0) rfl (look_nil _)) ?_
 refine gc_sr fun K1 hK1 => ?_
 refine gop fun K3 hK3 => ?_
 refine go_box rfl rfl rfl rfl rfl ?_
 intro B2
 refine hK3 _ _ ?_
 refine gop fun K5 hK5 => ?_
 refine go_alloc (z := (.agg #[.int .i64 0, .slice none 0 0, .slice none 0 0, .slice none 0 0, .slice none 0 0])) (cs := [.int .i64 0, .slice none 0 0, .slice none 0 0, .slice none 0 0, .slice none 0 0]) rfl rfl rfl (fun w => by kernel_rfl) rfl ?_
 intro B4
 refine hK5 _ _ ?_
 refine gnt (hK1 _ _ ?_)
 refine gc_sr fun K6 hK6 => ?_
 refine gv (qt_field (z := 0) rfl rfl underlying27 rfl (by kernel_rfl) rfl) ?_
 refine gv (qtl underlying25 (n := 0)) ?_
 refine gv (qt_len rfl rfl ulE2 (fun w M => lenV_rd2 h4)) ?_
 refine gop fun K8 hK8 => ?_
 refine go_make2 rfl rfl rfl underlying25 rfl rfl (by omega) ?_
 intro B7
 refine hK8 _ _ ?_
 refine gas ?_
 refine gnt (hK6 _ _ ?_)
 refine gc_seq fun K9 hK9 => ?_
 refine gc_sr fun K10 hK10 => ?_
 refine gv (qt_field (z := 0) rfl rfl underlying27 rfl (by kernel_rfl) rfl) ?_
 refine gv (qtl underlying25 (n := 0)) ?_
 refine gv (qt_len rfl rfl ulE2 (fun w M => lenV_rd2 h4)) ?_
 refine gm ?_
 refine gnt (hK10 _ _ ?_)
 refine gc_block ?_
 rw [← fill_start]
 try simp only [sL]
 refine gc_loopT ([(0, _), (1, _), (2, _), (3, _), (11, _), (12, _)] : Env) (fun s : Nat × (List Value) => (fun (k : Nat) (us : List Value) => (([(13, .int .i64 (k : Int))] : Env), ([(2, own2U (.slice (some ⟨B7, 0, none⟩) c.m.length c.m.length) us (c.m.take k ++ List.replicate (c.m.length - k) []))] : List (Nat × Itm)), k ≤ c.m.length, c.m.length - k)) s.1 s.2) (0, _) (by repeat first | exact sub_nil | refine sub_cons rfl ?_) rfl (Nat.zero_le _) ?_
 rintro ⟨k, us⟩ hinv KL11 hKL11
 simp only [sU, sL] at hinv hKL11 ⊢
 have hk := hinv
 have hfl := fill_len hk
 refine gc_sr fun K12 hK12 => ?_
 refine gv (qt_lss rfl rfl rfl) ?_
 refine gnt (hK12 _ _ ?_)
 refine gc_seq fun K13 hK13 => ?_
 refine gc_cond rfl (fun hc0 => ?_) (fun hc0 => ?_)
 ·try simp only [decide_eq_true_eq, decide_eq_false_iff_not, Bool.not_eq_true', Bool.not_eq_false', Bool.not_eq_eq_eq_not, Bool.not_true, Bool.not_false] at hc0
  refine gc_skip ?_
  refine gk_then (hK13 _ _ ?_)
  refine gc_seq fun K14 hK14 => ?_
  refine gc_block ?_
  refine gc_sr fun K15 hK15 => ?_
  refine gm ?_
  refine gv (qti2 (fun w M => lenA_rd2 h4)) ?_
  refine g_load2 (.free rfl) rfl rfl rfl rfl underlying24 rfl h4 (by omega) (by omega) ?_
  intro ra16 rc16 hr16
  refine gas ?_
  refine gas ?_
  refine gnt (hK15 _ _ ?_)
  refine gc_region ?_
  refine gm ?_
  refine gm ?_
  refine gm ?_
  refine gop fun K18 hK18 => ?_
  refine go_callL rfl rfl rfl func79 rfl (by decide) rfl (fun w M => clone_any w _ _ (mem_rd M hr16)) ?_
  intro va17 vc17
  refine hK18 _ _ ?_
  refine gv (qti2 (fun w M => lenA_U (n := 2) rfl M)) ?_
  refine gop fun K19 hK19 => ?_
  refine go_storeRow (n := 2) (m := 3) (m' := 2) rfl rfl rfl rfl (by kernel_rfl) rfl rfl rfl (by omega) (by omega) ?_
  refine hK19 _ _ ?_
  refine g_nil ?_
  refine gk_block ?_
  refine gk_then (hK14 _ _ ?_)
  refine gc_region ?_
  refine gv (qt_add rfl rfl rfl (by omega)) ?_
  refine gm ?_
  refine g_nil ?_
  rw [fill_next (by omega)]
  refine gk_then (gk_take 3 ?_)
  refine gk_sub ?hs_20 (hKL11 (k + 1, _) ?hi_20 ?hm_20)
  case hs_20 => repeat first | exact sub_nil | refine sub_cons rfl ?_
  case hi_20 => omega
  case hm_20 => omega
 try simp only [decide_eq_true_eq, decide_eq_false_iff_not, Bool.not_eq_true', Bool.not_eq_false', Bool.not_eq_eq_eq_not, Bool.not_true, Bool.not_false] at hc0
 refine gc_exit ?_
 refine gk_then_exit ?_
 refine gk_then_exit ?_
 refine gk_block_hit ?_
 refine gk_then (hK9 _ _ ?_)
 refine gc_seq fun K21 hK21 => ?_
 obtain rfl : k = c.m.length := by omega
 rw [fill_end]
 try simp only [sL]
 refine ga_start _ (fun w M => mem_erase 1 (M)) ?_
 refine gav 0 rfl (qt_field (z := 0) rfl rfl underlying27 rfl (by kernel_rfl) rfl) ?_
 refine gav 1 rfl (qtl underlying2 (n := 0)) ?_
 refine gav 2 rfl (qt_field (z := 0) rfl rfl underlying27 rfl (by kernel_rfl) rfl) ?_
 refine gav 3 rfl (qtl underlying24 (n := 0)) ?_
 refine gav 5 rfl (qt_field (z := 0) rfl rfl underlying27 rfl (by kernel_rfl) rfl) ?_
 refine gav 6 rfl (qtl underlying24 (n := 0)) ?_
 refine gav 8 rfl (qt_field (z := 0) rfl rfl underlying27 rfl (by kernel_rfl) rfl) ?_
 refine gav 9 rfl (qtl underlying24 (n := 0)) ?_
 refine gav 11 rfl (qt_move rfl rfl) ?_
 refine gao 4 fun K23 hK23 => ?_
 refine go_callL rfl rfl rfl func79 rfl (by decide) rfl (fun w M => clone_any w _ _ (mem_rd M h1)) ?_
 intro va22 vc22
 refine hK23 _ _ (fun w M => (ms1 1 3 M :)) ?_
 refine gao 7 fun K25 hK25 => ?_
 refine go_callL rfl rfl rfl func79 rfl (by decide) rfl (fun w M => clone_any w _ _ (mem_rd M h2)) ?_
 intro va24 vc24
 refine hK25 _ _ (fun w M => (ms1 1 3 M :)) ?_
 refine gao 10 fun K27 hK27 => ?_
 refine go_callL rfl rfl rfl func79 rfl (by decide) rfl (fun w M => clone_any w _ _ (mem_rd M h3)) ?_
 intro va26 vc26
 refine hK27 _ _ (fun w M => (ms1 1 3 M :)) ?_
 refine gav 12 rfl (qt_build rfl rfl bt_Category) ?_
 refine gao 13 fun K28 hK28 => ?_
 refine go_storeS (n := 1) rfl rfl rfl rfl (by kernel_rfl) rfl rfl rfl ?_
 refine hK28 _ _ (fun w M => (ms1 1 3 M :)) ?_
 refine ga_done (by kernel_rfl) ?_
 refine gk_then (hK21 _ _ ?_)
 refine gc_ret ?_
 refine ret_S (n := 1) rfl rfl underlying27 rfl (by kernel_rfl) rfl (fun w M => ?_)
 exact ⟨_, rfl, ownC_star (mem_pick (n := 5) (mem_pick (n := 5) (mem_pick (n := 5) (mem_pick (n := 2) (M) rfl) rfl) rfl) rfl).2, M.1⟩
theorem isCat_of {c : Cat} (h : fIsCategory c = true) : IsCat c := bP_iff.1 h
theorem readCategory_f (w : World) (v : Value) (c : Cat) (h : RdC w v c) (hI : fIsCategory c = false) :
  Calls Try.prog 27 #[v] w (RetCI w cat0 1) := by
 have h0 := h
 obtain ⟨va, vb, vc, vd, ve, vf, vg, vh, rfl, h1, h2, h3, h4, _⟩ := h.lists
 go_enter func27, Try.ntmps27
 refine gc_enter (N := 10) rfl (look_cons (k := 0) rfl (look_nil _)) ?_
 refine gc_sr fun K1 hK1 => ?_
 refine gop fun K3 hK3 => ?_
 refine go_box rfl rfl rfl rfl rfl ?_
 intro B2
 refine hK3 _ _ ?_
 refine gop fun K5 hK5 => ?_
 refine go_alloc (z := (.agg #[.int .i64 0, .slice none 0 0, .slice none 0 0, .slice none 0 0, .slice none 0 0])) (cs := [.int .i64 0, .slice none 0 0, .slice none 0 0, .slice none 0 0, .slice none 0 0]) rfl rfl rfl (fun w => by kernel_rfl) rfl ?_
 intro B4
 refine hK5 _ _ ?_
 refine gas ?_
 refine gnt (hK1 _ _ ?_)
 refine gc_seq fun K6 hK6 => ?_
 refine gc_sr fun K7 hK7 => ?_
 refine gv (qts underlying27 (n := 0)) ?_
 refine g_q (.free rfl) rfl rfl (qt_call rfl func55 rfl (by decide) rfl (fun w M => impl_IsCategory w _ _ (mem_rdC M h0))) ?_
 refine gv (qt_not rfl rfl) ?_
 refine gnt (hK7 _ _ ?_)
 refine gc_cond rfl (fun hc0 => ?_) (fun hc0 => ?_)
 ·try simp only [decide_eq_true_eq, decide_eq_false_iff_not, Bool.not_eq_true', Bool.not_eq_false', Bool.not_eq_eq_eq_not, Bool.not_true, Bool.not_false] at hc0
  refine gc_sr fun K8 hK8 => ?_
  refine gv (qt_build rfl rfl bt0_Category) ?_
  refine gop fun K9 hK9 => ?_
  refine go_storeS (n := 1) rfl rfl rfl rfl (by kernel_rfl) rfl rfl rfl ?_
  refine hK9 _ _ ?_
  refine gas ?_
  refine gnt (hK8 _ _ ?_)
  refine gc_ret ?_
  refine gk_then_ret ?_
  refine ret_SI (n := 1) rfl rfl rfl underlying27 rfl (by kernel_rfl) rfl (fun w M => ?_)
  exact ⟨_, rfl, ownC_zero _ _, M.1⟩
 try simp only [decide_eq_true_eq, decide_eq_false_iff_not, Bool.not_eq_true', Bool.not_eq_false', Bool.not_eq_eq_eq_not, Bool.not_true, Bool.not_false] at hc0
 rw [hI] at hc0; cases hc0
theorem readCategory_t (w : World) (v : Value) (c : Cat) (h : RdC w v c) (hI : fIsCategory c = true) :
  Calls Try.prog 27 #[v] w (RetCI w c 0) := by
 have h0 := h
 obtain ⟨va, vb, vc, vd, ve, vf, vg, vh, rfl, h1, h2, h3, h4, _⟩ := h.lists
 go_enter func27, Try.ntmps27
 refine gc_enter (N := 10) rfl (look_cons (k := 0) rfl (look_nil _)) ?_
 refine gc_sr fun K1 hK1 => ?_
 refine gop fun K3 hK3 => ?_
 refine go_box rfl rfl rfl rfl rfl ?_
 intro B2
 refine hK3 _ _ ?_
 refine gop fun K5 hK5 => ?_
 refine go_alloc (z := (.agg #[.int .i64 0, .slice none 0 0, .slice none 0 0, .slice none 0 0, .slice none 0 0])) (cs := [.int .i64 0, .slice none 0 0, .slice none 0 0, .slice none 0 0, .slice none 0 0]) rfl rfl rfl (fun w => by kernel_rfl) rfl ?_
 intro B4
 refine hK5 _ _ ?_
 refine gas ?_
 refine gnt (hK1 _ _ ?_)
 refine gc_seq fun K6 hK6 => ?_
 refine gc_sr fun K7 hK7 => ?_
 refine gv (qts underlying27 (n := 0)) ?_
 refine g_q (.free rfl) rfl rfl (qt_call rfl func55 rfl (by decide) rfl (fun w M => impl_IsCategory w _ _ (mem_rdC M h0))) ?_
 refine gv (qt_not rfl rfl) ?_
 refine gnt (hK7 _ _ ?_)
 refine gc_cond rfl (fun hc0 => ?_) (fun hc0 => ?_)
 ·try simp only [decide_eq_true_eq, decide_eq_false_iff_not, Bool.not_eq_true', Bool.not_eq_false', Bool.not_eq_eq_eq_not, Bool.not_true, Bool.not_false] at hc0
  rw [hI] at hc0; cases hc0
 try simp only [decide_eq_true_eq, decide_eq_false_iff_not, Bool.not_eq_true', Bool.not_eq_false', Bool.not_eq_eq_eq_not, Bool.not_true, Bool.not_false] at hc0
 refine gc_skip ?_
 refine gk_then (hK6 _ _ ?_)
 refine gc_sr fun K8 hK8 => ?_
 refine gv (qts underlying27 (n := 0)) ?_
 refine gop fun K10 hK10 => ?_
 refine go_callC rfl rfl rfl func56 rfl (by decide) rfl (fun w M => copied_any w _ _ (mem_rdC M h0)) ?_
 intro ca9 cb9 cc9 cd9 ce9 cf9 cg9 ch9 cu9
 refine hK10 _ _ ?_
 refine gop fun K11 hK11 => ?_
 refine go_storeS (n := 1) rfl rfl rfl rfl (by kernel_rfl) rfl rfl rfl ?_
 refine hK11 _ _ ?_
 refine gas ?_
 refine gnt (hK8 _ _ ?_)
 refine gc_ret ?_
 refine ret_SI (n := 1) rfl rfl rfl underlying27 rfl (by kernel_rfl) rfl (fun w M => ?_)
 exact ⟨_, rfl, ownC_star (mem_pick (n := 5) (mem_pick (n := 5) (mem_pick (n := 5) (mem_pick (n := 5) (M) rfl) rfl) rfl) rfl).2, M.1⟩
theorem readArrows_f (w : World) (v u : Value) (c : Cat) (xs : List Int) (h : RdC w v c) (hu : Rd w u xs) (hI : fIsCategory c = false) :
  Calls Try.prog 48 #[v, u] w (RetCI w cat0 1) := by
 have h0 := h
 obtain ⟨va, vb, vc, vd, ve, vf, vg, vh, rfl, h1, h2, h3, h4, _⟩ := h.lists
 obtain ⟨ua, uc, rfl⟩ := rd_form hu
 go_enter func48, Try.ntmps48
 refine gc_enter (N := 24) rfl (look_cons (k := 0) rfl (look_cons (k := 1) rfl (look_nil _))) ?_
 refine gc_sr fun K1 hK1 => ?_
 refine gop fun K3 hK3 => ?_
 refine go_box rfl rfl rfl rfl rfl ?_
 intro B2
 refine hK3 _ _ ?_
 refine gop fun K5 hK5 => ?_
 refine go_alloc (z := (.agg #[.int .i64 0, .slice none 0 0, .slice none 0 0, .slice none 0 0, .slice none 0 0])) (cs := [.int .i64 0, .slice none 0 0, .slice none 0 0, .slice none 0 0, .slice none 0 0]) rfl rfl rfl (fun w => by kernel_rfl) rfl ?_
 intro B4
 refine hK5 _ _ ?_
 refine gas ?_
 refine gnt (hK1 _ _ ?_)
 refine gc_sr fun K6 hK6 => ?_
 refine gv (qts underlying27 (n := 0)) ?_
 refine gop fun K8 hK8 => ?_
 refine go_callCI rfl rfl rfl func27 rfl (by decide) rfl (fun w M => readCategory_f w _ _ (mem_rdC M h0) (by first | assumption | omega)) ?_
 intro ca7 cb7 cc7 cd7 ce7 cf7 cg7 ch7 cu7
 refine hK8 _ _ ?_
 refine gm ?_
 refine gv (qt_extract rfl rfl rfl) ?_
 refine gv (qt_extract rfl rfl rfl) ?_
 refine gop fun K10 hK10 => ?_
 refine go_alloc (z := (.agg #[.int .i64 0, .slice none 0 0, .slice none 0 0, .slice none 0 0, .slice none 0 0])) (cs := [.int .i64 0, .slice none 0 0, .slice none 0 0, .slice none 0 0, .slice none 0 0]) rfl rfl rfl (fun w => by kernel_rfl) rfl ?_
 intro B9
 refine hK10 _ _ ?_
 refine gop fun K11 hK11 => ?_
 refine go_storeS (n := 6) rfl rfl rfl rfl (by kernel_rfl) rfl rfl rfl ?_
 refine hK11 _ _ ?_
 refine gas ?_
 refine gnt (hK6 _ _ ?_)
 refine gc_seq fun K12 hK12 => ?_
 refine gc_sr fun K13 hK13 => ?_
 refine gm ?_
 refine gv (qt_eql_f rfl rfl rfl (by decide)) ?_
 refine gm ?_
 refine gsk ?_
 refine gsk ?_
 refine gsk ?_
 refine gsk ?_
 refine gv (qt_pick_f rfl rfl rfl) ?_
 refine gnt (hK13 _ _ ?_)
 refine gc_cond_f rfl ?_
 refine gc_skip ?_
 refine gk_then (hK12 _ _ ?_)
 refine gc_sr fun K14 hK14 => ?_
 refine gv (qts underlying27 (n := 6)) ?_
 refine gm ?_
 refine gop fun K15 hK15 => ?_
 refine go_storeS (n := 1) rfl rfl rfl rfl (by kernel_rfl) rfl rfl rfl ?_
 refine hK15 _ _ ?_
 refine gas ?_
 refine gnt (hK14 _ _ ?_)
 refine gc_ret ?_
 refine ret_SI (n := 1) rfl rfl rfl underlying27 rfl (by kernel_rfl) rfl (fun w M => ?_)
 exact ⟨_, rfl, ownC_star (mem_pick (n := 5) (mem_pick (n := 5) (mem_pick (n := 5) (mem_pick (n := 5) (M) rfl) rfl) rfl) rfl).2, M.1⟩
theorem readArrows_r (w : World) (v u : Value) (c : Cat) (xs : List Int) (h : RdC w v c) (hu : Rd w u xs) (hI : fIsCategory c = true) (hP : ¬ (AllP c.s.length xs)) :
  Calls Try.prog 48 #[v, u] w (RetCI w cat0 2) := by
 have h0 := h
 obtain ⟨va, vb, vc, vd, ve, vf, vg, vh, rfl, h1, h2, h3, h4, _⟩ := h.lists
 obtain ⟨ua, uc, rfl⟩ := rd_form hu
 go_enter func48, Try.ntmps48
 refine gc_enter (N := 24) rfl (look_cons (k := 0) rfl (look_cons (k := 1) rfl (look_nil _))) ?_
 refine gc_sr fun K1 hK1 => ?_
 refine gop fun K3 hK3 => ?_
 refine go_box rfl rfl rfl rfl rfl ?_
 intro B2
 refine hK3 _ _ ?_
 refine gop fun K5 hK5 => ?_
 refine go_alloc (z := (.agg #[.int .i64 0, .slice none 0 0, .slice none 0 0, .slice none 0 0, .slice none 0 0])) (cs := [.int .i64 0, .slice none 0 0, .slice none 0 0, .slice none 0 0, .slice none 0 0]) rfl rfl rfl (fun w => by kernel_rfl) rfl ?_
 intro B4
 refine hK5 _ _ ?_
 refine gas ?_
 refine gnt (hK1 _ _ ?_)
 refine gc_sr fun K6 hK6 => ?_
 refine gv (qts underlying27 (n := 0)) ?_
 refine gop fun K8 hK8 => ?_
 refine go_callCI rfl rfl rfl func27 rfl (by decide) rfl (fun w M => readCategory_t w _ _ (mem_rdC M h0) (by first | assumption | omega)) ?_
 intro ca7 cb7 cc7 cd7 ce7 cf7 cg7 ch7 cu7
 refine hK8 _ _ ?_
 refine gm ?_
 refine gv (qt_extract rfl rfl rfl) ?_
 refine gv (qt_extract rfl rfl rfl) ?_
 refine gop fun K10 hK10 => ?_
 refine go_alloc (z := (.agg #[.int .i64 0, .slice none 0 0, .slice none 0 0, .slice none 0 0, .slice none 0 0])) (cs := [.int .i64 0, .slice none 0 0, .slice none 0 0, .slice none 0 0, .slice none 0 0]) rfl rfl rfl (fun w => by kernel_rfl) rfl ?_
 intro B9
 refine hK10 _ _ ?_
 refine gop fun K11 hK11 => ?_
 refine go_storeS (n := 6) rfl rfl rfl rfl (by kernel_rfl) rfl rfl rfl ?_
 refine hK11 _ _ ?_
 refine gas ?_
 refine gnt (hK6 _ _ ?_)
 refine gc_seq fun K12 hK12 => ?_
 refine gc_sr fun K13 hK13 => ?_
 refine gm ?_
 refine gv (qt_eql_t rfl rfl rfl (by decide)) ?_
 refine gm ?_
 refine gvh (qts underlying27 (n := 6)) ?_
 refine gvh (qt_move rfl rfl) ?_
 refine g_q (.held _ _ _ rfl rfl rfl) rfl rfl (qt_call rfl func73 rfl (by decide) rfl (fun w M => hasArrows_any w _ _ _ _ _ (rdC_mk ((mem_own1 (n := 2) M rfl).rd) ((mem_own1 (n := 3) M rfl).rd) ((mem_own1 (n := 4) M rfl).rd) (mem_rdU (n := 5) M rfl)) (mem_rd M hu) rfl)) ?_
 refine gvh (qt_not rfl rfl) ?_
 refine gv (qt_pick_t rfl rfl rfl) ?_
 refine gnt (hK13 _ _ ?_)
 refine gc_cond rfl (fun hc0 => ?_) (fun hc0 => ?_)
 ·try simp only [decide_eq_true_eq, decide_eq_false_iff_not, Bool.not_eq_true', Bool.not_eq_false', Bool.not_eq_eq_eq_not, Bool.not_true, Bool.not_false] at hc0
  refine gc_sr fun K14 hK14 => ?_
  refine gv (qt_build rfl rfl bt0_Category) ?_
  refine gop fun K15 hK15 => ?_
  refine go_storeS (n := 1) rfl rfl rfl rfl (by kernel_rfl) rfl rfl rfl ?_
  refine hK15 _ _ ?_
  refine gas ?_
  refine gnt (hK14 _ _ ?_)
  refine gc_ret ?_
  refine gk_then_ret ?_
  refine ret_SI (n := 1) rfl rfl rfl underlying27 rfl (by kernel_rfl) rfl (fun w M => ?_)
  exact ⟨_, rfl, ownC_zero _ _, M.1⟩
 try simp only [decide_eq_true_eq, decide_eq_false_iff_not, Bool.not_eq_true', Bool.not_eq_false', Bool.not_eq_eq_eq_not, Bool.not_true, Bool.not_false] at hc0
 exact absurd (bP_iff.1 hc0) hP
theorem readArrows_t (w : World) (v u : Value) (c : Cat) (xs : List Int) (h : RdC w v c) (hu : Rd w u xs) (hI : fIsCategory c = true) (hP : AllP c.s.length xs) :
  Calls Try.prog 48 #[v, u] w (RetCI w c 0) := by
 have h0 := h
 obtain ⟨va, vb, vc, vd, ve, vf, vg, vh, rfl, h1, h2, h3, h4, _⟩ := h.lists
 obtain ⟨ua, uc, rfl⟩ := rd_form hu
 go_enter func48, Try.ntmps48
 refine gc_enter (N := 24) rfl (look_cons (k := 0) rfl (look_cons (k := 1) rfl (look_nil _))) ?_
 refine gc_sr fun K1 hK1 => ?_
 refine gop fun K3 hK3 => ?_
 refine go_box rfl rfl rfl rfl rfl ?_
 intro B2
 refine hK3 _ _ ?_
 refine gop fun K5 hK5 => ?_
 refine go_alloc (z := (.agg #[.int .i64 0, .slice none 0 0, .slice none 0 0, .slice none 0 0, .slice none 0 0])) (cs := [.int .i64 0, .slice none 0 0, .slice none 0 0, .slice none 0 0, .slice none 0 0]) rfl rfl rfl (fun w => by kernel_rfl) rfl ?_
 intro B4
 refine hK5 _ _ ?_
 refine gas ?_
 refine gnt (hK1 _ _ ?_)
 refine gc_sr fun K6 hK6 => ?_
 refine gv (qts underlying27 (n := 0)) ?_
 refine gop fun K8 hK8 => ?_
 refine go_callCI rfl rfl rfl func27 rfl (by decide) rfl (fun w M => readCategory_t w _ _ (mem_rdC M h0) (by first | assumption | omega)) ?_
 intro ca7 cb7 cc7 cd7 ce7 cf7 cg7 ch7 cu7
 refine hK8 _ _ ?_
 refine gm ?_
 refine gv (qt_extract rfl rfl rfl) ?_
 refine gv (qt_extract rfl rfl rfl) ?_
 refine gop fun K10 hK10 => ?_
 refine go_alloc (z := (.agg #[.int .i64 0, .slice none 0 0, .slice none 0 0, .slice none 0 0, .slice none 0 0])) (cs := [.int .i64 0, .slice none 0 0, .slice none 0 0, .slice none 0 0, .slice none 0 0]) rfl rfl rfl (fun w => by kernel_rfl) rfl ?_
 intro B9
 refine hK10 _ _ ?_
 refine gop fun K11 hK11 => ?_
 refine go_storeS (n := 6) rfl rfl rfl rfl (by kernel_rfl) rfl rfl rfl ?_
 refine hK11 _ _ ?_
 refine gas ?_
 refine gnt (hK6 _ _ ?_)
 refine gc_seq fun K12 hK12 => ?_
 refine gc_sr fun K13 hK13 => ?_
 refine gm ?_
 refine gv (qt_eql_t rfl rfl rfl (by decide)) ?_
 refine gm ?_
 refine gvh (qts underlying27 (n := 6)) ?_
 refine gvh (qt_move rfl rfl) ?_
 refine g_q (.held _ _ _ rfl rfl rfl) rfl rfl (qt_call rfl func73 rfl (by decide) rfl (fun w M => hasArrows_any w _ _ _ _ _ (rdC_mk ((mem_own1 (n := 2) M rfl).rd) ((mem_own1 (n := 3) M rfl).rd) ((mem_own1 (n := 4) M rfl).rd) (mem_rdU (n := 5) M rfl)) (mem_rd M hu) rfl)) ?_
 refine gvh (qt_not rfl rfl) ?_
 refine gv (qt_pick_t rfl rfl rfl) ?_
 refine gnt (hK13 _ _ ?_)
 refine gc_cond rfl (fun hc0 => ?_) (fun hc0 => ?_)
 ·try simp only [decide_eq_true_eq, decide_eq_false_iff_not, Bool.not_eq_true', Bool.not_eq_false', Bool.not_eq_eq_eq_not, Bool.not_true, Bool.not_false] at hc0
  rw [bP_t hP] at hc0; cases hc0
 try simp only [decide_eq_true_eq, decide_eq_false_iff_not, Bool.not_eq_true', Bool.not_eq_false', Bool.not_eq_eq_eq_not, Bool.not_true, Bool.not_false] at hc0
 refine gc_skip ?_
 refine gk_then (hK12 _ _ ?_)
 refine gc_sr fun K14 hK14 => ?_
 refine gv (qts underlying27 (n := 6)) ?_
 refine gm ?_
 refine gop fun K15 hK15 => ?_
 refine go_storeS (n := 1) rfl rfl rfl rfl (by kernel_rfl) rfl rfl rfl ?_
 refine hK15 _ _ ?_
 refine gas ?_
 refine gnt (hK14 _ _ ?_)
 refine gc_ret ?_
 refine ret_SI (n := 1) rfl rfl rfl underlying27 rfl (by kernel_rfl) rfl (fun w M => ?_)
 exact ⟨_, rfl, ownC_star (mem_pick (n := 5) (mem_pick (n := 5) (mem_pick (n := 5) (mem_pick (n := 5) (M) rfl) rfl) rfl) rfl).2, M.1⟩
end Go.Proofs.Ytbiplocgenppoaa
namespace Go.Proofs.Ytbiplocgenppoaa
open _root_.Go.Proofs.Try
open Go.RowKit
end Go.Proofs.Ytbiplocgenppoaa
namespace Go.Proofs.Ytbiplocgenppoaa
open _root_.Go.Proofs.Try
open Go.RowKit
noncomputable def arrErr (c : Cat) (xs : List Int) : Int := if fIsCategory c = true then (if AllP c.s.length xs then 0 else 2) else 1
theorem arrErr_f {c : Cat} {xs : List Int} (h : fIsCategory c = false) : arrErr c xs = 1 := by unfold arrErr; rw [if_neg (by rw [h]; decide)]
theorem arrErr_r {c : Cat} {xs : List Int} (h : fIsCategory c = true) (hp : ¬ AllP c.s.length xs) : arrErr c xs = 2 := by unfold arrErr; rw [if_pos h, if_neg hp]
theorem arrErr_t {c : Cat} {xs : List Int} (h : fIsCategory c = true) (hp : AllP c.s.length xs) : arrErr c xs = 0 := by unfold arrErr; rw [if_pos h, if_pos hp]
theorem arrErr_0 {c : Cat} {xs : List Int} (h : arrErr c xs = 0) : IsCat c ∧ AllP c.s.length xs := by
 cases hI : fIsCategory c with
 | false => rw [arrErr_f hI] at h; simp at h
 | true =>
  by_cases hp : AllP c.s.length xs
  ·exact ⟨isCat_of hI, hp⟩
  rw [arrErr_r hI hp] at h; simp at h
noncomputable def arrCat (c : Cat) (xs : List Int) : Cat := if arrErr c xs = 0 then c else cat0
theorem arrCat_t {c : Cat} {xs : List Int} (h : arrErr c xs = 0) : arrCat c xs = c := if_pos h
theorem readArrows_any (w : World) (v u : Value) (c : Cat) (xs : List Int) (h : RdC w v c) (hu : Rd w u xs) : Calls Try.prog 48 #[v, u] w (RetCI w (arrCat c xs) (arrErr c xs)) := by
 cases hI : fIsCategory c with
 | false => rw [arrErr_f hI, show arrCat c xs = cat0 from if_neg (by rw [arrErr_f hI]; decide)]; exact readArrows_f w v u c xs h hu hI
 | true =>
  by_cases hp : AllP c.s.length xs
  ·rw [arrErr_t hI hp, arrCat_t (arrErr_t hI hp)]; exact readArrows_t w v u c xs h hu hI hp
  rw [arrErr_r hI hp, show arrCat c xs = cat0 from if_neg (by rw [arrErr_r hI hp]; decide)]; exact readArrows_r w v u c xs h hu hI hp
theorem th_none {c : Cat} (hS : ShapeP c) {f g : Int} (f0 : 0 ≤ f) (f1 : f < c.s.length) (g0 : 0 ≤ g) (g1 : g < c.s.length) : c.th f g = -1 ↔ at0 c.t f ≠ at0 c.s g := by
 obtain ⟨a, rfl⟩ := Int.eq_ofNat_of_zero_le f0
 obtain ⟨b, rfl⟩ := Int.eq_ofNat_of_zero_le g0
 have hc := hS.co a b (by omega) (by omega)
 constructor
 ·intro h he
  have := (hc.1 he).1.1
  omega
 exact hc.2
end Go.Proofs.Ytbiplocgenppoaa
namespace Go.Proofs.Ytbiplocgenppoaa
open _root_.Go.Proofs.Try
open Go.RowKit
def pathGo (c : Cat) : Int → List Int → Int × Int
 | h, [] => (h, 0)
 | h, f :: r => if at0 c.t h = at0 c.s f then pathGo c (c.th h f) r else (0, 5)
structure PathI (c : Cat) (e0 : Int) (xs : List Int) (k : Nat) (h : Int) : Prop where
 kl : k ≤ xs.length
 h0 : 0 ≤ h
 h1 : h < c.s.length
 go : pathGo c h (xs.drop k) = pathGo c e0 xs
theorem bP_f' {p : Prop} (h : bP p = false) : ¬ p := fun hp => by rw [bP_t hp] at h; cases h
theorem bP_t' {p : Prop} (h : bP p = true) : p := bP_iff.1 h
end Go.Proofs.Ytbiplocgenppoaa
namespace Go.Proofs.Ytbiplocgenppoaa
open _root_.Go.Proofs.Try
open Go.RowKit
def RetBI (W : World) (b : Bool) (n : Int) (e : Ending) (w' : World) : Prop := e = .returned (.tuple #[.bool b, .int .i64 n]) ∧ Below W.heap.size W w'
theorem th_ends {c : Cat} (hS : ShapeP c) {f g : Int} (f0 : 0 ≤ f) (f1 : f < c.s.length) (g0 : 0 ≤ g) (g1 : g < c.s.length) (h : at0 c.t f = at0 c.s g) : (0 ≤ c.th f g ∧ c.th f g < c.s.length) ∧ at0 c.s (c.th f g) = at0 c.s f ∧ at0 c.t (c.th f g) = at0 c.t g := by
 obtain ⟨a, rfl⟩ := Int.eq_ofNat_of_zero_le f0
 obtain ⟨b, rfl⟩ := Int.eq_ofNat_of_zero_le g0
 exact (hS.co a b (by omega) (by omega)).1 h
theorem all_next {p : Nat → Prop} {k : Nat} (h : ∀ j, j < k → p j) (hk : p k) : ∀ j, j < k + 1 → p j := fun j hj => by
 rcases Nat.lt_or_ge j k with h1 | h1
 ·exact h j h1
 rw [show j = k from by omega]; exact hk
noncomputable def catErr (c : Cat) : Int := if fIsCategory c = true then 0 else 1
noncomputable def catCat (c : Cat) : Cat := if fIsCategory c = true then c else cat0
theorem catErr_0 {c : Cat} (h : catErr c = 0) : fIsCategory c = true := by
 unfold catErr at h
 cases hI : fIsCategory c with
 | true => rfl
 | false => rw [if_neg (by rw [hI]; decide)] at h; simp at h
theorem catErr_n {c : Cat} (h : ¬ catErr c = 0) : fIsCategory c = false ∧ catErr c = 1 := by
 unfold catErr at h ⊢
 cases hI : fIsCategory c with
 | true => exact absurd (if_pos hI) h
 | false => exact ⟨rfl, if_neg (by decide)⟩
theorem catCat_t {c : Cat} (h : catErr c = 0) : catCat c = c := if_pos (catErr_0 h)
theorem readCat_any (w : World) (v : Value) (c : Cat) (h : RdC w v c) : Calls Try.prog 27 #[v] w (RetCI w (catCat c) (catErr c)) := by
 cases hI : fIsCategory c with
 | false => rw [show catCat c = cat0 from if_neg (by rw [hI]; decide), show catErr c = 1 from if_neg (by rw [hI]; decide)]; exact readCategory_f w v c h hI
 | true => rw [show catCat c = c from if_pos hI, show catErr c = 0 from if_pos hI]; exact readCategory_t w v c h hI
end Go.Proofs.Ytbiplocgenppoaa
namespace Go.Proofs.Ytbiplocgenppoaa
open _root_.Go.Proofs.Try
open Go.RowKit
end Go.Proofs.Ytbiplocgenppoaa
namespace Go.Proofs.Ytbiplocgenppoaa
open _root_.Go.Proofs.Try
open Go.RowKit
theorem star_two' {is : List Itm} {n m m' : Nat} {i j : Itm} {w : World} {S : Nat → Prop} (h : Star is w S) (hi : is[n]? = some i) (hj : (is.eraseIdx n)[m']? = some j) (hE : (is.set m trivI).eraseIdx n = (is.eraseIdx n).set m' trivI) :
    ∃ S1 S2 : Nat → Prop, (∀ k, S1 k → S k) ∧ (∀ k, S2 k → S k) ∧ (∀ k, S1 k → ¬ S2 k) ∧ i.p w S1 ∧ j.p w S2 ∧
      ∀ (w' : World) (i' : Itm), FrS S1 w w' → i'.p w' (fun k => (S1 k ∨ S2 k) ∨ w.heap.size ≤ k) → Star ((is.set m trivI).set n i') w' (fun k => S k ∨ w.heap.size ≤ k) := by
  obtain ⟨S1, R, a1, a2, a3, a4, a5⟩ := star_pick is hi h
  obtain ⟨S2, R', b1, b2, b3, b4, b5⟩ := star_pick _ hj a5
  have hn : n < is.length := (List.getElem?_eq_some_iff.1 hi).1
  have hm : m' < (is.eraseIdx n).length := (List.getElem?_eq_some_iff.1 hj).1
  refine ⟨S1, S2, a1, fun k h => a2 k (b1 k h), fun k h h' => a3 k h (b1 k h'), a4, b4, fun w' i' hf hi' => ?_⟩
  refine star_unpick _ (by simpa using hn) ?_
  rw [hE]
  refine ⟨fun k => (S1 k ∨ S2 k) ∨ w.heap.size ≤ k, fun k => R' k ∧ k < w.heap.size, fun k h => h.elim (fun h => .inl (h.elim (a1 k) fun h => a2 k (b1 k h))) .inr, fun k h => .inl (a2 k (b2 k h.1)), fun k h h' => h.elim (fun h => h.elim (fun h => a3 k h (b2 k h'.1)) (fun h => b3 k h h'.1)) (fun h => by have := h'.2; omega), hi', ?_⟩
  refine star_unpick _ hm ⟨fun _ => False, fun k => R' k ∧ k < w.heap.size, fun k h => h.elim, fun k h => h, fun k h => h.elim, trivial, ?_⟩
  exact star_keep _ (fun k hk h => ⟨h, hk⟩) (fun k hk h => hf.block k hk fun e => a3 k e (b2 k h)) b5
section
variable {w0 : World} {is : List Itm} {ops : Array Oper} {Q : Exit → Act → World → Prop} {o : Oper} {rest : List Oper} {N : Frm} {e : Env} {v : Value} {d : Nat} {K : Act → World → Prop}
theorem go_sliceR0 {t : TypeId} (hd : o.dst = some d) (hN : Nat.blt d N = true) (hop : o.op = .buildSlice t 0 #[]) (ht : Try.prog.underlying t = some (.slice 24))
    (hk : ∀ B : Nat, GK w0 (is ++ [own2U (.slice (some ⟨B, 0, none⟩) 0 0) [] []]) N K ((d, .slice (some ⟨B, 0, none⟩) 0 0) :: e)) : GO w0 is N o e Q K := by
  intro w ac M F
  have hU : Own2U (.slice (some ⟨w.heap.size, 0, none⟩) 0 0) [] [] (w.alloc (.cells #[] 24)) (fun k => w.heap.size ≤ k) := by
    refine ⟨rfl, by decide, ⟨by simp, .inr ⟨w.heap.size, 0, #[], rfl, Nat.zero_le _, heap_alloc_new w _, Nat.le_refl _, by unfold maxLen; omega, by simp, by simp⟩⟩, fun i hi => absurd hi (by simp), fun i j hij hj => absurd hj (by simp), fun q hq => ?_⟩
    simp [Value.ownBlock] at hq; omega
  refine go_val (v := .slice (some ⟨w.heap.size, 0, none⟩) 0 0) (w' := w.alloc (.cells #[] 24)) hd hN F ?_ fun ac F => hk _ _ ac (mem_new M (below_alloc w _) hU) F
  intro ρ F
  obtain ⟨i, hi, hz, hs, hb⟩ := info_parts infoS
  simp [execOp, hop, Instr.buildSlice, run_underlying ht, sizeOf, typeInfo, hi, hs, Instr.fill, newRow, zeroValue, hz, Value.cells, Sem.run_bind, range0]
theorem go_sliceR1 {t : TypeId} {x : Operand} {m : Nat} {u : Value} {r : List Int} (hd : o.dst = some d) (hN : Nat.blt d N = true) (hop : o.op = .buildSlice t 1 #[(0, x)]) (hx : evo e x = some u) (ht : Try.prog.underlying t = some (.slice 24)) (hi : is[m]? = some (own1I u r))
    (hk : ∀ B : Nat, GK w0 (is.set m (own2U (.slice (some ⟨B, 0, none⟩) 1 1) [u] [r])) N K ((d, .slice (some ⟨B, 0, none⟩) 1 1) :: e)) : GO w0 is N o e Q K := by
  intro w ac M F
  obtain ⟨S, hS, hp, hset⟩ := mem_set M hi
  have hp' : Own1 u r w S := hp
  obtain ⟨ua, uc, rfl⟩ := rd_form hp'.rd
  have hU : Own2U (.slice (some ⟨w.heap.size, 0, none⟩) 1 1) [.slice ua r.length uc] [r] (w.alloc (.cells #[.slice ua r.length uc] 24)) (fun k => S k ∨ w.heap.size ≤ k) := by
    refine ⟨rfl, by simp, ⟨by simp, .inr ⟨w.heap.size, 1, #[.slice ua r.length uc], rfl, Nat.zero_le _, heap_alloc_new w _, Nat.le_refl _, by unfold maxLen; omega, by simp, by simp⟩⟩, fun i hi => ?_, fun i j hij hj => by simp at hj; omega, fun q hq => ?_⟩
    · obtain rfl : i = 0 := by simpa using hi
      refine ⟨sl_alloc hp'.1 _, fun q hq hv => ?_, fun q hq => .inl (hp'.2 q hq)⟩
      have := (hp'.1.1.lt q hq).2
      simp only [Value.ownBlock, Option.some.injEq] at hv
      omega
    simp only [Value.ownBlock, Option.some.injEq] at hq; exact .inr (by omega)
  refine go_val (v := .slice (some ⟨w.heap.size, 0, none⟩) 1 1) (w' := w.alloc (.cells #[.slice ua r.length uc] 24)) hd hN F ?_ fun ac F => hk _ _ ac (hset _ _ (frS_new (below_alloc w _)) hU) F
  intro ρ F; have hx := F _ _ hx
  obtain ⟨i, hi, hz, hs, hb⟩ := info_parts infoS
  simp [execOp, hop, hx, Instr.buildSlice, run_underlying ht, sizeOf, typeInfo, hi, hs, Instr.fill, newRow, zeroValue, hz, Value.cells, Sem.run_bind, range1]
theorem go_appendRow {s x : Operand} {t : TypeId} {n m m' : Nat} {us : List Value} {rows : List (List Int)} {r : List Int} {u ru : Value} (hd : o.dst = some d) (hN : Nat.blt d N = true) (hop : o.op = .call { callee := .builtin .append, args := #[s, x], argTypes := #[t, t] }) (ht : Try.prog.underlying t = some (.slice 24))
    (hs : evo e s = some v) (hx : evo e x = some u) (hi : is[n]? = some (own2U v us rows)) (hj : (is.eraseIdx n)[m']? = some (own2U u [ru] [r])) (hE : (is.set m trivI).eraseIdx n = (is.eraseIdx n).set m' trivI) (hn : rows.length + 1 ≤ 5000000000000)
    (hk : ∀ a cap, GK w0 ((is.set m trivI).set n (own2U (.slice a (rows ++ [r]).length cap) (us ++ [ru]) (rows ++ [r]))) N K ((d, .slice a (rows ++ [r]).length cap) :: e)) : GO w0 is N o e Q K := by
  intro w ac M F
  obtain ⟨S1, S2, k1, k2, kd, hp, hq, hset⟩ := star_two' M.2 hi hj hE
  have hp' : Own2U v us rows w S1 := hp
  have hq' : Own2U u [ru] [r] w S2 := hq
  obtain ⟨i, hi', hz, hs1, hb⟩ := info_parts infoS
  obtain ⟨hul, hl2, hown, hrows, hpair, hvS⟩ := hp'
  have hr2 := hq'.2.2.2.1 0 (by simp)
  simp only [List.getD_cons_zero] at hr2
  have hown2 := hq'.2.2.1
  obtain ⟨ra, rc, hru, _⟩ := sl_form hr2.1
  rcases hown2.2 with ⟨_, h⟩ | ⟨g2, c2, cur2, rfl, _⟩
  · simp at h
  obtain ⟨v', w', hr, hown', hgrow, _, hat⟩ := run_append_own_at (P := Try.prog) w 0 t o.type 24 i (.slice none 0 0) 1 24 ht hi' hz hs1 hb rfl (by decide) v rows.length us hown ⟨g2, 0, none⟩ 1 c2 [ru] rfl (fun j z hz => by
    have hj0 : j < [ru].length := by
      rcases Nat.lt_or_ge j [ru].length with h | h
      · exact h
      · rw [List.getElem?_eq_none h] at hz; cases hz
    rw [Addr.add_lit, Nat.zero_add, hown2.cellAt j (by simpa using hj0)]; exact hz) (by rw [hru]; simp [Value.oneCell']) (by unfold maxLen; omega) (by omega) (Nat.zero_le _)
  have hvlt : ∀ q, v.ownBlock = some q → q < w.heap.size := fun q hq => (hown.lt q hq).2
  have hk1 : ∀ q, v'.ownBlock = some q → S1 q ∨ w.heap.size ≤ q := fun q hq => by
    rcases hat with h | h
    · exact .inl (hvS q (by rw [← h]; exact hq))
    rw [h] at hq; simp only [Option.some.injEq] at hq; exact .inr (by omega)
  have hneR : ru.ownBlock = none ∨ ru.ownBlock ≠ v.ownBlock := by
    cases hb0 : ru.ownBlock with
    | none => exact .inl rfl
    | some q => exact .inr fun e => kd q (hvS q e.symm) (hr2.2.2 q hb0)
  have hfin : Own2U v' (us ++ [ru]) (rows ++ [r]) w' (fun k => (S1 k ∨ S2 k) ∨ w.heap.size ≤ k) := by
    refine ⟨by simp [hul], by simpa using hn, by simpa using hown', fun i hi => ?_, fun i j hij hj => ?_, fun q hq => (hk1 q hq).imp .inl id⟩
    · simp only [List.length_append, List.length_singleton] at hi
      rcases Nat.lt_or_ge i rows.length with h | h
      · rw [show (us ++ [ru]).getD i undef = us.getD i undef from by rw [List.getD_eq_getElem?_getD, List.getD_eq_getElem?_getD, List.getElem?_append_left (by omega)], show (rows ++ [r]).getD i [] = rows.getD i [] from by rw [List.getD_eq_getElem?_getD, List.getD_eq_getElem?_getD, List.getElem?_append_left h]]
        obtain ⟨h1, h2, h3⟩ := hrows i h
        refine ⟨sl_kept h1 hgrow (apart_ne h2), fun q hq hv => ?_, fun q hq => .inl (.inl (h3 q hq))⟩
        rcases hat with ha | ha
        · exact h2 q hq (by rw [← ha]; exact hv)
        rw [ha] at hv; simp only [Option.some.injEq] at hv; have := (h1.1.lt q hq).2; omega
      obtain rfl : i = rows.length := by omega
      rw [show (us ++ [ru]).getD rows.length undef = ru from by rw [List.getD_eq_getElem?_getD, List.getElem?_append_right (by omega)]; simp [hul], show (rows ++ [r]).getD rows.length [] = r from by rw [List.getD_eq_getElem?_getD, List.getElem?_append_right (by omega)]; simp]
      refine ⟨sl_kept hr2.1 hgrow hneR, fun q hq hv => ?_, fun q hq => .inl (.inr (hr2.2.2 q hq))⟩
      rcases hk1 q hv with h | h
      · exact kd q h (hr2.2.2 q hq)
      have := (hr2.1.1.lt q hq).2; omega
    simp only [List.length_append, List.length_singleton] at hj
    rw [show (us ++ [ru]).getD i undef = us.getD i undef from by rw [List.getD_eq_getElem?_getD, List.getD_eq_getElem?_getD, List.getElem?_append_left (by omega)]]
    rcases Nat.lt_or_ge j rows.length with h | h
    · rw [show (us ++ [ru]).getD j undef = us.getD j undef from by rw [List.getD_eq_getElem?_getD, List.getD_eq_getElem?_getD, List.getElem?_append_left (by omega)]]
      exact hpair i j hij h
    obtain rfl : j = rows.length := by omega
    rw [show (us ++ [ru]).getD rows.length undef = ru from by rw [List.getD_eq_getElem?_getD, List.getElem?_append_right (by omega)]; simp [hul]]
    exact fun q hq hv => kd q ((hrows i hij).2.2 q hq) (hr2.2.2 q hv)
  obtain ⟨va, vc, rfl⟩ := rd2_form (Own2.rd (S := fun k => (S1 k ∨ S2 k) ∨ w.heap.size ≤ k) ⟨_, hfin⟩)
  have hf : FrS S1 w w' := frS_grown hgrow hvS
  refine go_val (v := .slice va (rows ++ [r]).length vc) (w' := w') hd hN F ?_ fun ac F => hk va vc w' ac ⟨below_frS M.1 hf (Nat.le_refl _) k1, star_keep _ (fun k _ hk => hk.elim id fun h => Nat.le_trans M.1.size h) agree_refl (hset w' (own2U (.slice va (rows ++ [r]).length vc) (us ++ [ru]) (rows ++ [r])) hf hfin)⟩ F
  intro ρ F; have hs := F _ _ hs; have hx := F _ _ hx
  simp only [execOp, hop, resolve, invoke, builtin, Sem.run_bind, Sem.run_pure, Result.andThen_ok, List.map_toArray, List.map_cons, List.map_nil, hs, hx]
  simp only [List.length_singleton] at hr ⊢
  rw [hr]
  rfl
variable {f : FuncId} {fn : Func} {ags : Array Operand} {ts : Array TypeId} {vs : List Value}
end
end Go.Proofs.Ytbiplocgenppoaa
namespace Go.Proofs.Ytbiplocgenppoaa
open _root_.Go.Proofs.Try
open Go.RowKit
section
variable {w0 : World} {is : List Itm} {ops : Array Oper} {Q : Exit → Act → World → Prop} {o : Oper} {rest : List Oper} {N : Frm} {e : Env} {v : Value} {d : Nat} {K : Act → World → Prop}
end
end Go.Proofs.Ytbiplocgenppoaa
namespace Go.Proofs.Ytbiplocgenppoaa
open _root_.Go.Proofs.Try
open Go.RowKit
section
variable {w0 : World} {is : List Itm} {ops : Array Oper} {Q : Exit → Act → World → Prop} {o : Oper} {rest : List Oper} {N : Frm} {e : Env} {v : Value} {d : Nat} {K : Act → World → Prop}
end
end Go.Proofs.Ytbiplocgenppoaa
namespace Go.Proofs.Ytbiplocgenppoaa
open _root_.Go.Proofs.Try
open Go.RowKit
def tabTo (φ : Nat → Int) (k : Nat) : List Int := (List.range k).map φ
theorem tabTo_succ (φ : Nat → Int) (k : Nat) : tabTo φ k ++ [φ k] = tabTo φ (k + 1) := by simp [tabTo, List.range_succ]
theorem tabTo_len (φ : Nat → Int) (k : Nat) : (tabTo φ k).length = k := by simp [tabTo]
theorem tabTo_at (φ : Nat → Int) {k j : Nat} (h : j < k) : at0 (tabTo φ k) j = φ j := by
  rw [at0_nat]; simp [tabTo, List.getD_eq_getElem?_getD, List.getElem?_eq_getElem, h]
theorem tabTo_ext {xs : List Int} {φ : Nat → Int} {n : Nat} (hl : xs.length = n) (h : ∀ j, j < n → at0 xs (j : Int) = φ j) : xs = tabTo φ n := by
  subst hl
  refine List.ext_getElem (by simp [tabTo]) fun j h1 h2 => ?_
  have := h j h1
  rw [at0_nat, List.getD_eq_getElem?_getD, List.getElem?_eq_getElem h1] at this
  simpa [tabTo] using this
def rowsTo (ψ : Nat → List Int) (k : Nat) : List (List Int) := (List.range k).map ψ
theorem rowsTo_succ (ψ : Nat → List Int) (k : Nat) : rowsTo ψ k ++ [ψ k] = rowsTo ψ (k + 1) := by simp [rowsTo, List.range_succ]
theorem rowsTo_len (ψ : Nat → List Int) (k : Nat) : (rowsTo ψ k).length = k := by simp [rowsTo]
theorem rowsTo_at (ψ : Nat → List Int) {k j : Nat} (h : j < k) : row2 (rowsTo ψ k) j = ψ j := by
  simp [row2, rowsTo, List.getD_eq_getElem?_getD, List.getElem?_eq_getElem, h]
theorem rowsTo_ext {xs : List (List Int)} {ψ : Nat → List Int} {n : Nat} (hl : xs.length = n) (h : ∀ j, j < n → row2 xs (j : Int) = ψ j) : xs = rowsTo ψ n := by
  subst hl
  refine List.ext_getElem (by simp [rowsTo]) fun j h1 h2 => ?_
  have := h j h1
  simp only [row2, Int.toNat_natCast, List.getD_eq_getElem?_getD, List.getElem?_eq_getElem h1, Option.getD_some] at this
  simpa [rowsTo] using this
def fillTo (φ : Nat → Int) (n k : Nat) : List Int := (List.range n).map fun j => if j < k then φ j else 0
theorem fillTo_len (φ : Nat → Int) (n k : Nat) : (fillTo φ n k).length = n := by simp [fillTo]
theorem fillTo_zero (φ : Nat → Int) (n : Nat) : List.replicate n 0 = fillTo φ n 0 := by
  refine List.ext_getElem (by simp [fillTo]) fun j h1 h2 => by simp [fillTo]
theorem fillTo_end (φ : Nat → Int) (n : Nat) : fillTo φ n n = tabTo φ n := List.map_congr_left fun j hj => if_pos (List.mem_range.1 hj)
theorem fillTo_set (φ : Nat → Int) {n k : Nat} (h : k < n) : (fillTo φ n k).set ((k : Int)).toNat (φ k) = fillTo φ n (k + 1) := by
  refine List.ext_getElem (by simp [fillTo]) fun j h1 h2 => ?_
  simp only [fillTo, List.length_set, List.length_map, List.length_range] at h1
  simp only [fillTo, List.getElem_set, List.getElem_map, List.getElem_range, Int.toNat_natCast]
  by_cases e : k = j
  · subst e; rw [if_pos rfl, if_pos (by omega)]
  rw [if_neg e]
  by_cases hj : j < k
  · rw [if_pos hj, if_pos (by omega)]
  rw [if_neg hj, if_neg (by omega)]
noncomputable def filTo (p : Nat → Prop) (φ : Nat → Int) (k : Nat) : List Int := ((List.range k).filter fun j => bP (p j)).map φ
theorem filTo_t {p : Nat → Prop} {φ : Nat → Int} {k : Nat} (h : p k) : filTo p φ k ++ [φ k] = filTo p φ (k + 1) := by simp [filTo, List.range_succ, bP_t h]
theorem filTo_f {p : Nat → Prop} {φ : Nat → Int} {k : Nat} (h : ¬ p k) : filTo p φ k = filTo p φ (k + 1) := by simp [filTo, List.range_succ, bP_f h]
theorem filTo_len (p : Nat → Prop) (φ : Nat → Int) (k : Nat) : (filTo p φ k).length ≤ k := by
  simp only [filTo, List.length_map]; exact Nat.le_trans (List.length_filter_le _ _) (by simp)
theorem filTo_mem {p : Nat → Prop} {φ : Nat → Int} {k : Nat} {x : Int} : x ∈ filTo p φ k ↔ ∃ j, j < k ∧ p j ∧ φ j = x := by
  simp only [filTo, List.mem_map, List.mem_filter, List.mem_range]
  exact ⟨fun ⟨j, ⟨h1, h2⟩, h3⟩ => ⟨j, h1, bP_iff.1 h2, h3⟩, fun ⟨j, h1, h2, h3⟩ => ⟨j, ⟨h1, bP_t h2⟩, h3⟩⟩
end Go.Proofs.Ytbiplocgenppoaa
