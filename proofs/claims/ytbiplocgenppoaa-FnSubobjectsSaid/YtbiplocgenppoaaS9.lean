import Derived.Test.YtbiplocgenppoaaS4
import Derived.Test.YtbiplocgenppoaaS8
set_option maxHeartbeats 1000000
set_option maxRecDepth 100000
set_option linter.unusedSimpArgs false
set_option linter.unusedVariables false
set_option linter.unusedSectionVars false
namespace Go.Proofs.Ytbiplocgenppoaa
open _root_.Go.Proofs.Try
open Go.RowKit
theorem clone_any (w : World) (v : Value) (xs : List Int) (h : Rd w v xs) :
  Calls Try.prog 79 #[v] w (RetL w xs) := by
 obtain ⟨va, vc, rfl⟩ := rd_form h
 have hxl : xs.length ≤ 17592186044415 := by obtain ⟨_, _, _, hl, _⟩ := h; exact hl
 go_enter func79, Try.ntmps79
 refine gc_enter (N := 8) rfl (look_cons (k := 0) rfl (look_nil _)) ?_
 refine gc_sr fun K1 hK1 => ?_
 refine gas ?_
 refine gnt (hK1 _ _ ?_)
 refine gc_seq fun K2 hK2 => ?_
 refine gc_sr fun K3 hK3 => ?_
 refine gm ?_
 refine gv (qt_eqNil rfl rfl underlying24) ?_
 refine gnt (hK3 _ _ ?_)
 refine gc_cond rfl (fun hc0 => ?_) (fun hc0 => ?_)
 ·try simp only [decide_eq_true_eq, decide_eq_false_iff_not, Bool.not_eq_true', Bool.not_eq_false', Bool.not_eq_eq_eq_not, Bool.not_true, Bool.not_false] at hc0
  refine gc_sr fun K4 hK4 => ?_
  refine gas ?_
  refine gnt (hK4 _ _ ?_)
  refine gc_ret ?_
  refine gk_then_ret ?_
  refine ret_1 rfl rfl  (fun w M => ?_)
  have hx : xs = [] := by rcases nil_rd h hc0 with h | h <;> first | exact h.2 | exact h
  subst hx
  exact ⟨_, rfl, Sl.nil _ _, M.1⟩
 try simp only [decide_eq_true_eq, decide_eq_false_iff_not, Bool.not_eq_true', Bool.not_eq_false', Bool.not_eq_eq_eq_not, Bool.not_true, Bool.not_false] at hc0
 refine gc_skip ?_
 refine gk_then (hK2 _ _ ?_)
 refine gc_sr fun K5 hK5 => ?_
 refine gop fun K7 hK7 => ?_
 refine go_slice0 rfl rfl rfl underlying24 ?_
 intro B6
 refine hK7 _ _ ?_
 refine gm ?_
 refine gop fun K9 hK9 => ?_
 refine go_appendL (n := 0) rfl rfl rfl underlying24 rfl rfl rfl (fun w M => mem_rd M h) (by assumption) (by first | simp; omega | omega) ?_
 intro va8 vc8
 refine hK9 _ _ ?_
 refine gas ?_
 refine gnt (hK5 _ _ ?_)
 refine gc_ret ?_
 refine ret_1 rfl rfl  (fun w M => ?_)
 exact ⟨_, rfl, mem_own1 (n := 0) M rfl, M.1⟩
theorem rd2_len {w : World} {v : Value} {rows : List (List Int)} (h : Rd2 w v rows) : rows.length ≤ 5000000000000 := by obtain ⟨_, _, _, hl, _⟩ := h; exact hl
theorem fill_next {rows : List (List Int)} {k : Nat} (hk : k < rows.length) :
  (rows.take k ++ List.replicate (rows.length - k) []).set ((k : Int)).toNat (row2 rows (k : Int)) = rows.take (k + 1) ++ List.replicate (rows.length - (k + 1)) [] := by
 have := rows_fill hk
 simpa [row2] using this
theorem fill_len {rows : List (List Int)} {k : Nat} (hk : k ≤ rows.length) : (rows.take k ++ List.replicate (rows.length - k) ([] : List Int)).length = rows.length := by simp; omega
theorem fill_end {rows : List (List Int)} : rows.take rows.length ++ List.replicate (rows.length - rows.length) ([] : List Int) = rows := by simp
theorem fill_start {rows : List (List Int)} : rows.take 0 ++ List.replicate (rows.length - 0) ([] : List Int) = List.replicate rows.length [] := by simp
theorem copied_any (w : World) (v : Value) (c : Cat) (h : RdC w v c) :
  Calls Try.prog 56 #[v] w (RetC w c) := by
 have h0 := h
 obtain ⟨va, vb, vc, vd, ve, vf, vg, vh, rfl, h1, h2, h3, h4, _⟩ := h.lists
 have hml := rd2_len h4
 go_enter func56, Try.ntmps56
 refine gc_enter (N := 37) rfl (look_cons (k := 0) rfl (look_nil _)) ?_
 refine gc_sr fun K1 hK1 => ?_
 refine gop fun K3 hK3 => ?_
 refine go_box rfl rfl rfl rfl rfl ?_
 intro B2
 refine hK3 _ _ ?_
 refine gop fun K5 hK5 => ?_
 refine galC ?_
 intro B4
 refine hK5 _ _ ?_
 refine gnt (hK1 _ _ ?_)
 refine gc_sr fun K6 hK6 => ?_
 refine gv (qt_field (z := 0) rfl rfl underlying27 rfl (by kernel_rfl) rfl) ?_
 refine gv (qtl underlying25 (n := 0)) ?_
 refine gv (qt_len rfl rfl ulE2 (fun w M => lenV_rd2 h4)) ?_
 refine gop fun K8 hK8 => ?_
 refine go_make2 rfl rfl rfl underlying25 rfl rfl (by omega) ?_
 intro B7
 refine hK8 _ _ ?_
 refine gas ?_
 refine gnt (hK6 _ _ ?_)
 refine gc_seq fun K9 hK9 => ?_
 refine gc_sr fun K10 hK10 => ?_
 refine gv (qt_field (z := 0) rfl rfl underlying27 rfl (by kernel_rfl) rfl) ?_
 refine gv (qtl underlying25 (n := 0)) ?_
 refine gv (qt_len rfl rfl ulE2 (fun w M => lenV_rd2 h4)) ?_
 refine gm ?_
 refine gnt (hK10 _ _ ?_)
 refine gc_block ?_
 rw [← fill_start]
 try simp only [sL]
 refine gc_loopT ([(0, _), (1, _), (2, _), (3, _), (11, _), (12, _)] : Env) (fun s : Nat × (List Value) => (fun (k : Nat) (us : List Value) => (([(13, .int .i64 (k : Int))] : Env), ([(2, own2U (.slice (some ⟨B7, 0, none⟩) c.m.length c.m.length) us (c.m.take k ++ List.replicate (c.m.length - k) []))] : List (Nat × Itm)), k ≤ c.m.length, c.m.length - k)) s.1 s.2) (0, _) (by repeat first | exact sub_nil | refine sub_cons rfl ?_) rfl (Nat.zero_le _) ?_
 rintro ⟨k, us⟩ hinv KL11 hKL11
 simp only [sU, sL] at hinv hKL11 ⊢
 have hk := hinv
 have hfl := fill_len hk
 refine gc_sr fun K12 hK12 => ?_
 refine gv (qt_lss rfl rfl rfl) ?_
 refine gnt (hK12 _ _ ?_)
 refine gc_seq fun K13 hK13 => ?_
 refine gc_cond rfl (fun hc0 => ?_) (fun hc0 => ?_)
 ·try simp only [decide_eq_true_eq, decide_eq_false_iff_not, Bool.not_eq_true', Bool.not_eq_false', Bool.not_eq_eq_eq_not, Bool.not_true, Bool.not_false] at hc0
  refine gc_skip ?_
  refine gk_then (hK13 _ _ ?_)
  refine gc_seq fun K14 hK14 => ?_
  refine gc_block ?_
  refine gc_sr fun K15 hK15 => ?_
  refine gm ?_
  refine gv (qti2 (fun w M => lenA_rd2 h4)) ?_
  refine g_load2 (.free rfl) rfl rfl rfl rfl underlying24 rfl h4 (by omega) (by omega) ?_
  intro ra16 rc16 hr16
  refine gas ?_
  refine gas ?_
  refine gnt (hK15 _ _ ?_)
  refine gc_region ?_
  refine gm ?_
  refine gm ?_
  refine gm ?_
  refine gop fun K18 hK18 => ?_
  refine go_callL rfl rfl rfl func79 rfl (by decide) rfl (fun w M => clone_any w _ _ (mem_rd M hr16)) ?_
  intro va17 vc17
  refine hK18 _ _ ?_
  refine gv (qti2 (fun w M => lenA_U (n := 2) rfl M)) ?_
  refine gop fun K19 hK19 => ?_
  refine go_storeRow (n := 2) (m := 3) (m' := 2) rfl rfl rfl rfl (by kernel_rfl) rfl rfl rfl (by omega) (by omega) ?_
  refine hK19 _ _ ?_
  refine g_nil ?_
  refine gk_block ?_
  refine gk_then (hK14 _ _ ?_)
  refine gc_region ?_
  refine gv (qt_add rfl rfl rfl (by omega)) ?_
  refine gm ?_
  refine g_nil ?_
  rw [fill_next (by omega)]
  refine gk_then (gk_take 3 ?_)
  refine gk_sub ?hs_20 (hKL11 (k + 1, _) ?hi_20 ?hm_20)
  case hs_20 => repeat first | exact sub_nil | refine sub_cons rfl ?_
  case hi_20 => omega
  case hm_20 => omega
 try simp only [decide_eq_true_eq, decide_eq_false_iff_not, Bool.not_eq_true', Bool.not_eq_false', Bool.not_eq_eq_eq_not, Bool.not_true, Bool.not_false] at hc0
 refine gc_exit ?_
 refine gk_then_exit ?_
 refine gk_then_exit ?_
 refine gk_block_hit ?_
 refine gk_then (hK9 _ _ ?_)
 refine gc_seq fun K21 hK21 => ?_
 obtain rfl : k = c.m.length := by omega
 rw [fill_end]
 try simp only [sL]
 refine ga_start _ (fun w M => mem_erase 1 (M)) ?_
 refine gav 0 rfl (qt_field (z := 0) rfl rfl underlying27 rfl (by kernel_rfl) rfl) ?_
 refine gav 1 rfl (qtl underlying2 (n := 0)) ?_
 refine gav 2 rfl (qt_field (z := 0) rfl rfl underlying27 rfl (by kernel_rfl) rfl) ?_
 refine gav 3 rfl (qtl underlying24 (n := 0)) ?_
 refine gav 5 rfl (qt_field (z := 0) rfl rfl underlying27 rfl (by kernel_rfl) rfl) ?_
 refine gav 6 rfl (qtl underlying24 (n := 0)) ?_
 refine gav 8 rfl (qt_field (z := 0) rfl rfl underlying27 rfl (by kernel_rfl) rfl) ?_
 refine gav 9 rfl (qtl underlying24 (n := 0)) ?_
 refine gav 11 rfl (qt_move rfl rfl) ?_
 refine gao 4 fun K23 hK23 => ?_
 refine go_callL rfl rfl rfl func79 rfl (by decide) rfl (fun w M => clone_any w _ _ (mem_rd M h1)) ?_
 intro va22 vc22
 refine hK23 _ _ (fun w M => (ms1 1 3 M :)) ?_
 refine gao 7 fun K25 hK25 => ?_
 refine go_callL rfl rfl rfl func79 rfl (by decide) rfl (fun w M => clone_any w _ _ (mem_rd M h2)) ?_
 intro va24 vc24
 refine hK25 _ _ (fun w M => (ms1 1 3 M :)) ?_
 refine gao 10 fun K27 hK27 => ?_
 refine go_callL rfl rfl rfl func79 rfl (by decide) rfl (fun w M => clone_any w _ _ (mem_rd M h3)) ?_
 intro va26 vc26
 refine hK27 _ _ (fun w M => (ms1 1 3 M :)) ?_
 refine gav 12 rfl (qt_build rfl rfl bt_Category) ?_
 refine gao 13 fun K28 hK28 => ?_
 refine gss 1 ?_
 refine hK28 _ _ (fun w M => (ms1 1 3 M :)) ?_
 refine ga_done (by kernel_rfl) ?_
 refine gk_then (hK21 _ _ ?_)
 refine gc_ret ?_
 refine ret_S (n := 1) rfl rfl underlying27 rfl (by kernel_rfl) rfl (fun w M => ?_)
 exact ⟨_, rfl, ownC_star (mem_pick (n := 5) (mem_pick (n := 5) (mem_pick (n := 5) (mem_pick (n := 2) (M) rfl) rfl) rfl) rfl).2, M.1⟩
theorem isCat_of {c : Cat} (h : fIsCategory c = true) : IsCat c := bP_iff.1 h
theorem readCategory_f (w : World) (v : Value) (c : Cat) (h : RdC w v c) (hI : fIsCategory c = false) :
  Calls Try.prog 27 #[v] w (RetCI w cat0 1) := by
 have h0 := h
 obtain ⟨va, vb, vc, vd, ve, vf, vg, vh, rfl, h1, h2, h3, h4, _⟩ := h.lists
 go_enter func27, Try.ntmps27
 refine gc_enter (N := 10) rfl (look_cons (k := 0) rfl (look_nil _)) ?_
 refine gc_sr fun K1 hK1 => ?_
 refine gop fun K3 hK3 => ?_
 refine go_box rfl rfl rfl rfl rfl ?_
 intro B2
 refine hK3 _ _ ?_
 refine gop fun K5 hK5 => ?_
 refine galC ?_
 intro B4
 refine hK5 _ _ ?_
 refine gas ?_
 refine gnt (hK1 _ _ ?_)
 refine gc_seq fun K6 hK6 => ?_
 refine gc_sr fun K7 hK7 => ?_
 refine gv (qts underlying27 (n := 0)) ?_
 refine g_q (.free rfl) rfl rfl (qt_call rfl func55 rfl (by decide) rfl (fun w M => impl_IsCategory w _ _ (mem_rdC M h0))) ?_
 refine gv (qt_not rfl rfl) ?_
 refine gnt (hK7 _ _ ?_)
 refine gc_cond rfl (fun hc0 => ?_) (fun hc0 => ?_)
 ·try simp only [decide_eq_true_eq, decide_eq_false_iff_not, Bool.not_eq_true', Bool.not_eq_false', Bool.not_eq_eq_eq_not, Bool.not_true, Bool.not_false] at hc0
  refine gc_sr fun K8 hK8 => ?_
  refine gv (qt_build rfl rfl bt0_Category) ?_
  refine gop fun K9 hK9 => ?_
  refine gss 1 ?_
  refine hK9 _ _ ?_
  refine gas ?_
  refine gnt (hK8 _ _ ?_)
  refine gc_ret ?_
  refine gk_then_ret ?_
  refine ret_SI (n := 1) rfl rfl rfl underlying27 rfl (by kernel_rfl) rfl (fun w M => ?_)
  exact ⟨_, rfl, ownC_zero _ _, M.1⟩
 try simp only [decide_eq_true_eq, decide_eq_false_iff_not, Bool.not_eq_true', Bool.not_eq_false', Bool.not_eq_eq_eq_not, Bool.not_true, Bool.not_false] at hc0
 rw [hI] at hc0; cases hc0
theorem readCategory_t (w : World) (v : Value) (c : Cat) (h : RdC w v c) (hI : fIsCategory c = true) :
  Calls Try.prog 27 #[v] w (RetCI w c 0) := by
 have h0 := h
 obtain ⟨va, vb, vc, vd, ve, vf, vg, vh, rfl, h1, h2, h3, h4, _⟩ := h.lists
 go_enter func27, Try.ntmps27
 refine gc_enter (N := 10) rfl (look_cons (k := 0) rfl (look_nil _)) ?_
 refine gc_sr fun K1 hK1 => ?_
 refine gop fun K3 hK3 => ?_
 refine go_box rfl rfl rfl rfl rfl ?_
 intro B2
 refine hK3 _ _ ?_
 refine gop fun K5 hK5 => ?_
 refine galC ?_
 intro B4
 refine hK5 _ _ ?_
 refine gas ?_
 refine gnt (hK1 _ _ ?_)
 refine gc_seq fun K6 hK6 => ?_
 refine gc_sr fun K7 hK7 => ?_
 refine gv (qts underlying27 (n := 0)) ?_
 refine g_q (.free rfl) rfl rfl (qt_call rfl func55 rfl (by decide) rfl (fun w M => impl_IsCategory w _ _ (mem_rdC M h0))) ?_
 refine gv (qt_not rfl rfl) ?_
 refine gnt (hK7 _ _ ?_)
 refine gc_cond rfl (fun hc0 => ?_) (fun hc0 => ?_)
 ·try simp only [decide_eq_true_eq, decide_eq_false_iff_not, Bool.not_eq_true', Bool.not_eq_false', Bool.not_eq_eq_eq_not, Bool.not_true, Bool.not_false] at hc0
  rw [hI] at hc0; cases hc0
 try simp only [decide_eq_true_eq, decide_eq_false_iff_not, Bool.not_eq_true', Bool.not_eq_false', Bool.not_eq_eq_eq_not, Bool.not_true, Bool.not_false] at hc0
 refine gc_skip ?_
 refine gk_then (hK6 _ _ ?_)
 refine gc_sr fun K8 hK8 => ?_
 refine gv (qts underlying27 (n := 0)) ?_
 refine gop fun K10 hK10 => ?_
 refine go_callC rfl rfl rfl func56 rfl (by decide) rfl (fun w M => copied_any w _ _ (mem_rdC M h0)) ?_
 intro ca9 cb9 cc9 cd9 ce9 cf9 cg9 ch9 cu9
 refine hK10 _ _ ?_
 refine gop fun K11 hK11 => ?_
 refine gss 1 ?_
 refine hK11 _ _ ?_
 refine gas ?_
 refine gnt (hK8 _ _ ?_)
 refine gc_ret ?_
 refine ret_SI (n := 1) rfl rfl rfl underlying27 rfl (by kernel_rfl) rfl (fun w M => ?_)
 exact ⟨_, rfl, ownC_star (mem_pick (n := 5) (mem_pick (n := 5) (mem_pick (n := 5) (mem_pick (n := 5) (M) rfl) rfl) rfl) rfl).2, M.1⟩
theorem readObjects_f (w : World) (v u : Value) (c : Cat) (xs : List Int) (h : RdC w v c) (hu : Rd w u xs) (hI : fIsCategory c = false) :
  Calls Try.prog 39 #[v, u] w (RetCI w cat0 1) := by
 have h0 := h
 obtain ⟨va, vb, vc, vd, ve, vf, vg, vh, rfl, h1, h2, h3, h4, _⟩ := h.lists
 obtain ⟨ua, uc, rfl⟩ := rd_form hu
 go_enter func39, Try.ntmps39
 refine gc_enter (N := 24) rfl (look_cons (k := 0) rfl (look_cons (k := 1) rfl (look_nil _))) ?_
 refine gc_sr fun K1 hK1 => ?_
 refine gop fun K3 hK3 => ?_
 refine go_box rfl rfl rfl rfl rfl ?_
 intro B2
 refine hK3 _ _ ?_
 refine gop fun K5 hK5 => ?_
 refine galC ?_
 intro B4
 refine hK5 _ _ ?_
 refine gas ?_
 refine gnt (hK1 _ _ ?_)
 refine gc_sr fun K6 hK6 => ?_
 refine gv (qts underlying27 (n := 0)) ?_
 refine gop fun K8 hK8 => ?_
 refine go_callCI rfl rfl rfl func27 rfl (by decide) rfl (fun w M => readCategory_f w _ _ (mem_rdC M h0) (by first | assumption | omega)) ?_
 intro ca7 cb7 cc7 cd7 ce7 cf7 cg7 ch7 cu7
 refine hK8 _ _ ?_
 refine gm ?_
 refine gv (qt_extract rfl rfl rfl) ?_
 refine gv (qt_extract rfl rfl rfl) ?_
 refine gop fun K10 hK10 => ?_
 refine galC ?_
 intro B9
 refine hK10 _ _ ?_
 refine gop fun K11 hK11 => ?_
 refine gss 6 ?_
 refine hK11 _ _ ?_
 refine gas ?_
 refine gnt (hK6 _ _ ?_)
 refine gc_seq fun K12 hK12 => ?_
 refine gc_sr fun K13 hK13 => ?_
 refine gm ?_
 refine gv (qt_eql_f rfl rfl rfl (by decide)) ?_
 refine gm ?_
 refine gsk ?_
 refine gsk ?_
 refine gsk ?_
 refine gsk ?_
 refine gv (qt_pick_f rfl rfl rfl) ?_
 refine gnt (hK13 _ _ ?_)
 refine gc_cond_f rfl ?_
 refine gc_skip ?_
 refine gk_then (hK12 _ _ ?_)
 refine gc_sr fun K14 hK14 => ?_
 refine gv (qts underlying27 (n := 6)) ?_
 refine gm ?_
 refine gop fun K15 hK15 => ?_
 refine gss 1 ?_
 refine hK15 _ _ ?_
 refine gas ?_
 refine gnt (hK14 _ _ ?_)
 refine gc_ret ?_
 refine ret_SI (n := 1) rfl rfl rfl underlying27 rfl (by kernel_rfl) rfl (fun w M => ?_)
 exact ⟨_, rfl, ownC_star (mem_pick (n := 5) (mem_pick (n := 5) (mem_pick (n := 5) (mem_pick (n := 5) (M) rfl) rfl) rfl) rfl).2, M.1⟩
theorem readObjects_r (w : World) (v u : Value) (c : Cat) (xs : List Int) (h : RdC w v c) (hu : Rd w u xs) (hI : fIsCategory c = true) (hP : ¬ (AllP c.ob xs)) :
  Calls Try.prog 39 #[v, u] w (RetCI w cat0 2) := by
 have h0 := h
 obtain ⟨va, vb, vc, vd, ve, vf, vg, vh, rfl, h1, h2, h3, h4, _⟩ := h.lists
 obtain ⟨ua, uc, rfl⟩ := rd_form hu
 go_enter func39, Try.ntmps39
 refine gc_enter (N := 24) rfl (look_cons (k := 0) rfl (look_cons (k := 1) rfl (look_nil _))) ?_
 refine gc_sr fun K1 hK1 => ?_
 refine gop fun K3 hK3 => ?_
 refine go_box rfl rfl rfl rfl rfl ?_
 intro B2
 refine hK3 _ _ ?_
 refine gop fun K5 hK5 => ?_
 refine galC ?_
 intro B4
 refine hK5 _ _ ?_
 refine gas ?_
 refine gnt (hK1 _ _ ?_)
 refine gc_sr fun K6 hK6 => ?_
 refine gv (qts underlying27 (n := 0)) ?_
 refine gop fun K8 hK8 => ?_
 refine go_callCI rfl rfl rfl func27 rfl (by decide) rfl (fun w M => readCategory_t w _ _ (mem_rdC M h0) (by first | assumption | omega)) ?_
 intro ca7 cb7 cc7 cd7 ce7 cf7 cg7 ch7 cu7
 refine hK8 _ _ ?_
 refine gm ?_
 refine gv (qt_extract rfl rfl rfl) ?_
 refine gv (qt_extract rfl rfl rfl) ?_
 refine gop fun K10 hK10 => ?_
 refine galC ?_
 intro B9
 refine hK10 _ _ ?_
 refine gop fun K11 hK11 => ?_
 refine gss 6 ?_
 refine hK11 _ _ ?_
 refine gas ?_
 refine gnt (hK6 _ _ ?_)
 refine gc_seq fun K12 hK12 => ?_
 refine gc_sr fun K13 hK13 => ?_
 refine gm ?_
 refine gv (qt_eql_t rfl rfl rfl (by decide)) ?_
 refine gm ?_
 refine gvh (qts underlying27 (n := 6)) ?_
 refine gvh (qt_move rfl rfl) ?_
 refine g_q (.held _ _ _ rfl rfl rfl) rfl rfl (qt_call rfl func63 rfl (by decide) rfl (fun w M => hasObjects_any w _ _ _ _ _ (rdC_mk ((mem_own1 (n := 2) M rfl).rd) ((mem_own1 (n := 3) M rfl).rd) ((mem_own1 (n := 4) M rfl).rd) (mem_rdU (n := 5) M rfl)) (mem_rd M hu) rfl)) ?_
 refine gvh (qt_not rfl rfl) ?_
 refine gv (qt_pick_t rfl rfl rfl) ?_
 refine gnt (hK13 _ _ ?_)
 refine gc_cond rfl (fun hc0 => ?_) (fun hc0 => ?_)
 ·try simp only [decide_eq_true_eq, decide_eq_false_iff_not, Bool.not_eq_true', Bool.not_eq_false', Bool.not_eq_eq_eq_not, Bool.not_true, Bool.not_false] at hc0
  refine gc_sr fun K14 hK14 => ?_
  refine gv (qt_build rfl rfl bt0_Category) ?_
  refine gop fun K15 hK15 => ?_
  refine gss 1 ?_
  refine hK15 _ _ ?_
  refine gas ?_
  refine gnt (hK14 _ _ ?_)
  refine gc_ret ?_
  refine gk_then_ret ?_
  refine ret_SI (n := 1) rfl rfl rfl underlying27 rfl (by kernel_rfl) rfl (fun w M => ?_)
  exact ⟨_, rfl, ownC_zero _ _, M.1⟩
 try simp only [decide_eq_true_eq, decide_eq_false_iff_not, Bool.not_eq_true', Bool.not_eq_false', Bool.not_eq_eq_eq_not, Bool.not_true, Bool.not_false] at hc0
 exact absurd (bP_iff.1 hc0) hP
theorem readObjects_t (w : World) (v u : Value) (c : Cat) (xs : List Int) (h : RdC w v c) (hu : Rd w u xs) (hI : fIsCategory c = true) (hP : AllP c.ob xs) :
  Calls Try.prog 39 #[v, u] w (RetCI w c 0) := by
 have h0 := h
 obtain ⟨va, vb, vc, vd, ve, vf, vg, vh, rfl, h1, h2, h3, h4, _⟩ := h.lists
 obtain ⟨ua, uc, rfl⟩ := rd_form hu
 go_enter func39, Try.ntmps39
 refine gc_enter (N := 24) rfl (look_cons (k := 0) rfl (look_cons (k := 1) rfl (look_nil _))) ?_
 refine gc_sr fun K1 hK1 => ?_
 refine gop fun K3 hK3 => ?_
 refine go_box rfl rfl rfl rfl rfl ?_
 intro B2
 refine hK3 _ _ ?_
 refine gop fun K5 hK5 => ?_
 refine galC ?_
 intro B4
 refine hK5 _ _ ?_
 refine gas ?_
 refine gnt (hK1 _ _ ?_)
 refine gc_sr fun K6 hK6 => ?_
 refine gv (qts underlying27 (n := 0)) ?_
 refine gop fun K8 hK8 => ?_
 refine go_callCI rfl rfl rfl func27 rfl (by decide) rfl (fun w M => readCategory_t w _ _ (mem_rdC M h0) (by first | assumption | omega)) ?_
 intro ca7 cb7 cc7 cd7 ce7 cf7 cg7 ch7 cu7
 refine hK8 _ _ ?_
 refine gm ?_
 refine gv (qt_extract rfl rfl rfl) ?_
 refine gv (qt_extract rfl rfl rfl) ?_
 refine gop fun K10 hK10 => ?_
 refine galC ?_
 intro B9
 refine hK10 _ _ ?_
 refine gop fun K11 hK11 => ?_
 refine gss 6 ?_
 refine hK11 _ _ ?_
 refine gas ?_
 refine gnt (hK6 _ _ ?_)
 refine gc_seq fun K12 hK12 => ?_
 refine gc_sr fun K13 hK13 => ?_
 refine gm ?_
 refine gv (qt_eql_t rfl rfl rfl (by decide)) ?_
 refine gm ?_
 refine gvh (qts underlying27 (n := 6)) ?_
 refine gvh (qt_move rfl rfl) ?_
 refine g_q (.held _ _ _ rfl rfl rfl) rfl rfl (qt_call rfl func63 rfl (by decide) rfl (fun w M => hasObjects_any w _ _ _ _ _ (rdC_mk ((mem_own1 (n := 2) M rfl).rd) ((mem_own1 (n := 3) M rfl).rd) ((mem_own1 (n := 4) M rfl).rd) (mem_rdU (n := 5) M rfl)) (mem_rd M hu) rfl)) ?_
 refine gvh (qt_not rfl rfl) ?_
 refine gv (qt_pick_t rfl rfl rfl) ?_
 refine gnt (hK13 _ _ ?_)
 refine gc_cond rfl (fun hc0 => ?_) (fun hc0 => ?_)
 ·try simp only [decide_eq_true_eq, decide_eq_false_iff_not, Bool.not_eq_true', Bool.not_eq_false', Bool.not_eq_eq_eq_not, Bool.not_true, Bool.not_false] at hc0
  rw [bP_t hP] at hc0; cases hc0
 try simp only [decide_eq_true_eq, decide_eq_false_iff_not, Bool.not_eq_true', Bool.not_eq_false', Bool.not_eq_eq_eq_not, Bool.not_true, Bool.not_false] at hc0
 refine gc_skip ?_
 refine gk_then (hK12 _ _ ?_)
 refine gc_sr fun K14 hK14 => ?_
 refine gv (qts underlying27 (n := 6)) ?_
 refine gm ?_
 refine gop fun K15 hK15 => ?_
 refine gss 1 ?_
 refine hK15 _ _ ?_
 refine gas ?_
 refine gnt (hK14 _ _ ?_)
 refine gc_ret ?_
 refine ret_SI (n := 1) rfl rfl rfl underlying27 rfl (by kernel_rfl) rfl (fun w M => ?_)
 exact ⟨_, rfl, ownC_star (mem_pick (n := 5) (mem_pick (n := 5) (mem_pick (n := 5) (mem_pick (n := 5) (M) rfl) rfl) rfl) rfl).2, M.1⟩
theorem readArrows_f (w : World) (v u : Value) (c : Cat) (xs : List Int) (h : RdC w v c) (hu : Rd w u xs) (hI : fIsCategory c = false) :
  Calls Try.prog 48 #[v, u] w (RetCI w cat0 1) := by
 have h0 := h
 obtain ⟨va, vb, vc, vd, ve, vf, vg, vh, rfl, h1, h2, h3, h4, _⟩ := h.lists
 obtain ⟨ua, uc, rfl⟩ := rd_form hu
 go_enter func48, Try.ntmps48
 refine gc_enter (N := 24) rfl (look_cons (k := 0) rfl (look_cons (k := 1) rfl (look_nil _))) ?_
 refine gc_sr fun K1 hK1 => ?_
 refine gop fun K3 hK3 => ?_
 refine go_box rfl rfl rfl rfl rfl ?_
 intro B2
 refine hK3 _ _ ?_
 refine gop fun K5 hK5 => ?_
 refine galC ?_
 intro B4
 refine hK5 _ _ ?_
 refine gas ?_
 refine gnt (hK1 _ _ ?_)
 refine gc_sr fun K6 hK6 => ?_
 refine gv (qts underlying27 (n := 0)) ?_
 refine gop fun K8 hK8 => ?_
 refine go_callCI rfl rfl rfl func27 rfl (by decide) rfl (fun w M => readCategory_f w _ _ (mem_rdC M h0) (by first | assumption | omega)) ?_
 intro ca7 cb7 cc7 cd7 ce7 cf7 cg7 ch7 cu7
 refine hK8 _ _ ?_
 refine gm ?_
 refine gv (qt_extract rfl rfl rfl) ?_
 refine gv (qt_extract rfl rfl rfl) ?_
 refine gop fun K10 hK10 => ?_
 refine galC ?_
 intro B9
 refine hK10 _ _ ?_
 refine gop fun K11 hK11 => ?_
 refine gss 6 ?_
 refine hK11 _ _ ?_
 refine gas ?_
 refine gnt (hK6 _ _ ?_)
 refine gc_seq fun K12 hK12 => ?_
 refine gc_sr fun K13 hK13 => ?_
 refine gm ?_
 refine gv (qt_eql_f rfl rfl rfl (by decide)) ?_
 refine gm ?_
 refine gsk ?_
 refine gsk ?_
 refine gsk ?_
 refine gsk ?_
 refine gv (qt_pick_f rfl rfl rfl) ?_
 refine gnt (hK13 _ _ ?_)
 refine gc_cond_f rfl ?_
 refine gc_skip ?_
 refine gk_then (hK12 _ _ ?_)
 refine gc_sr fun K14 hK14 => ?_
 refine gv (qts underlying27 (n := 6)) ?_
 refine gm ?_
 refine gop fun K15 hK15 => ?_
 refine gss 1 ?_
 refine hK15 _ _ ?_
 refine gas ?_
 refine gnt (hK14 _ _ ?_)
 refine gc_ret ?_
 refine ret_SI (n := 1) rfl rfl rfl underlying27 rfl (by kernel_rfl) rfl (fun w M => ?_)
 exact ⟨_, rfl, ownC_star (mem_pick (n := 5) (mem_pick (n := 5) (mem_pick (n := 5) (mem_pick (n := 5) (M) rfl) rfl) rfl) rfl).2, M.1⟩
theorem readArrows_r (w : World) (v u : Value) (c : Cat) (xs : List Int) (h : RdC w v c) (hu : Rd w u xs) (hI : fIsCategory c = true) (hP : ¬ (AllP c.s.length xs)) :
  Calls Try.prog 48 #[v, u] w (RetCI w cat0 2) := by
 have h0 := h
 obtain ⟨va, vb, vc, vd, ve, vf, vg, vh, rfl, h1, h2, h3, h4, _⟩ := h.lists
 obtain ⟨ua, uc, rfl⟩ := rd_form hu
 go_enter func48, Try.ntmps48
 refine gc_enter (N := 24) rfl (look_cons (k := 0) rfl (look_cons (k := 1) rfl (look_nil _))) ?_
 refine gc_sr fun K1 hK1 => ?_
 refine gop fun K3 hK3 => ?_
 refine go_box rfl rfl rfl rfl rfl ?_
 intro B2
 refine hK3 _ _ ?_
 refine gop fun K5 hK5 => ?_
 refine galC ?_
 intro B4
 refine hK5 _ _ ?_
 refine gas ?_
 refine gnt (hK1 _ _ ?_)
 refine gc_sr fun K6 hK6 => ?_
 refine gv (qts underlying27 (n := 0)) ?_
 refine gop fun K8 hK8 => ?_
 refine go_callCI rfl rfl rfl func27 rfl (by decide) rfl (fun w M => readCategory_t w _ _ (mem_rdC M h0) (by first | assumption | omega)) ?_
 intro ca7 cb7 cc7 cd7 ce7 cf7 cg7 ch7 cu7
 refine hK8 _ _ ?_
 refine gm ?_
 refine gv (qt_extract rfl rfl rfl) ?_
 refine gv (qt_extract rfl rfl rfl) ?_
 refine gop fun K10 hK10 => ?_
 refine galC ?_
 intro B9
 refine hK10 _ _ ?_
 refine gop fun K11 hK11 => ?_
 refine gss 6 ?_
 refine hK11 _ _ ?_
 refine gas ?_
 refine gnt (hK6 _ _ ?_)
 refine gc_seq fun K12 hK12 => ?_
 refine gc_sr fun K13 hK13 => ?_
 refine gm ?_
 refine gv (qt_eql_t rfl rfl rfl (by decide)) ?_
 refine gm ?_
 refine gvh (qts underlying27 (n := 6)) ?_
 refine gvh (qt_move rfl rfl) ?_
 refine g_q (.held _ _ _ rfl rfl rfl) rfl rfl (qt_call rfl func73 rfl (by decide) rfl (fun w M => hasArrows_any w _ _ _ _ _ (rdC_mk ((mem_own1 (n := 2) M rfl).rd) ((mem_own1 (n := 3) M rfl).rd) ((mem_own1 (n := 4) M rfl).rd) (mem_rdU (n := 5) M rfl)) (mem_rd M hu) rfl)) ?_
 refine gvh (qt_not rfl rfl) ?_
 refine gv (qt_pick_t rfl rfl rfl) ?_
 refine gnt (hK13 _ _ ?_)
 refine gc_cond rfl (fun hc0 => ?_) (fun hc0 => ?_)
 ·try simp only [decide_eq_true_eq, decide_eq_false_iff_not, Bool.not_eq_true', Bool.not_eq_false', Bool.not_eq_eq_eq_not, Bool.not_true, Bool.not_false] at hc0
  refine gc_sr fun K14 hK14 => ?_
  refine gv (qt_build rfl rfl bt0_Category) ?_
  refine gop fun K15 hK15 => ?_
  refine gss 1 ?_
  refine hK15 _ _ ?_
  refine gas ?_
  refine gnt (hK14 _ _ ?_)
  refine gc_ret ?_
  refine gk_then_ret ?_
  refine ret_SI (n := 1) rfl rfl rfl underlying27 rfl (by kernel_rfl) rfl (fun w M => ?_)
  exact ⟨_, rfl, ownC_zero _ _, M.1⟩
 try simp only [decide_eq_true_eq, decide_eq_false_iff_not, Bool.not_eq_true', Bool.not_eq_false', Bool.not_eq_eq_eq_not, Bool.not_true, Bool.not_false] at hc0
 exact absurd (bP_iff.1 hc0) hP
theorem readArrows_t (w : World) (v u : Value) (c : Cat) (xs : List Int) (h : RdC w v c) (hu : Rd w u xs) (hI : fIsCategory c = true) (hP : AllP c.s.length xs) :
  Calls Try.prog 48 #[v, u] w (RetCI w c 0) := by
 have h0 := h
 obtain ⟨va, vb, vc, vd, ve, vf, vg, vh, rfl, h1, h2, h3, h4, _⟩ := h.lists
 obtain ⟨ua, uc, rfl⟩ := rd_form hu
 go_enter func48, Try.ntmps48
 refine gc_enter (N := 24) rfl (look_cons (k := 0) rfl (look_cons (k := 1) rfl (look_nil _))) ?_
 refine gc_sr fun K1 hK1 => ?_
 refine gop fun K3 hK3 => ?_
 refine go_box rfl rfl rfl rfl rfl ?_
 intro B2
 refine hK3 _ _ ?_
 refine gop fun K5 hK5 => ?_
 refine galC ?_
 intro B4
 refine hK5 _ _ ?_
 refine gas ?_
 refine gnt (hK1 _ _ ?_)
 refine gc_sr fun K6 hK6 => ?_
 refine gv (qts underlying27 (n := 0)) ?_
 refine gop fun K8 hK8 => ?_
 refine go_callCI rfl rfl rfl func27 rfl (by decide) rfl (fun w M => readCategory_t w _ _ (mem_rdC M h0) (by first | assumption | omega)) ?_
 intro ca7 cb7 cc7 cd7 ce7 cf7 cg7 ch7 cu7
 refine hK8 _ _ ?_
 refine gm ?_
 refine gv (qt_extract rfl rfl rfl) ?_
 refine gv (qt_extract rfl rfl rfl) ?_
 refine gop fun K10 hK10 => ?_
 refine galC ?_
 intro B9
 refine hK10 _ _ ?_
 refine gop fun K11 hK11 => ?_
 refine gss 6 ?_
 refine hK11 _ _ ?_
 refine gas ?_
 refine gnt (hK6 _ _ ?_)
 refine gc_seq fun K12 hK12 => ?_
 refine gc_sr fun K13 hK13 => ?_
 refine gm ?_
 refine gv (qt_eql_t rfl rfl rfl (by decide)) ?_
 refine gm ?_
 refine gvh (qts underlying27 (n := 6)) ?_
 refine gvh (qt_move rfl rfl) ?_
 refine g_q (.held _ _ _ rfl rfl rfl) rfl rfl (qt_call rfl func73 rfl (by decide) rfl (fun w M => hasArrows_any w _ _ _ _ _ (rdC_mk ((mem_own1 (n := 2) M rfl).rd) ((mem_own1 (n := 3) M rfl).rd) ((mem_own1 (n := 4) M rfl).rd) (mem_rdU (n := 5) M rfl)) (mem_rd M hu) rfl)) ?_
 refine gvh (qt_not rfl rfl) ?_
 refine gv (qt_pick_t rfl rfl rfl) ?_
 refine gnt (hK13 _ _ ?_)
 refine gc_cond rfl (fun hc0 => ?_) (fun hc0 => ?_)
 ·try simp only [decide_eq_true_eq, decide_eq_false_iff_not, Bool.not_eq_true', Bool.not_eq_false', Bool.not_eq_eq_eq_not, Bool.not_true, Bool.not_false] at hc0
  rw [bP_t hP] at hc0; cases hc0
 try simp only [decide_eq_true_eq, decide_eq_false_iff_not, Bool.not_eq_true', Bool.not_eq_false', Bool.not_eq_eq_eq_not, Bool.not_true, Bool.not_false] at hc0
 refine gc_skip ?_
 refine gk_then (hK12 _ _ ?_)
 refine gc_sr fun K14 hK14 => ?_
 refine gv (qts underlying27 (n := 6)) ?_
 refine gm ?_
 refine gop fun K15 hK15 => ?_
 refine gss 1 ?_
 refine hK15 _ _ ?_
 refine gas ?_
 refine gnt (hK14 _ _ ?_)
 refine gc_ret ?_
 refine ret_SI (n := 1) rfl rfl rfl underlying27 rfl (by kernel_rfl) rfl (fun w M => ?_)
 exact ⟨_, rfl, ownC_star (mem_pick (n := 5) (mem_pick (n := 5) (mem_pick (n := 5) (mem_pick (n := 5) (M) rfl) rfl) rfl) rfl).2, M.1⟩
end Go.Proofs.Ytbiplocgenppoaa
namespace Go.Proofs.Ytbiplocgenppoaa
open _root_.Go.Proofs.Try
open Go.RowKit
def homTo (c : Cat) (x y : Int) (k : Nat) : List Int := ((List.range k).filter fun (j : Nat) => decide (at0 c.s j = x ∧ at0 c.t j = y)).map fun (j : Nat) => (j : Int)
theorem homTo_succ_t {c : Cat} {x y : Int} {k : Nat} (h : at0 c.s k = x) (h' : at0 c.t k = y) : homTo c x y (k + 1) = homTo c x y k ++ [(k : Int)] := by
 simp [homTo, List.range_succ, List.filter_append, h, h']
theorem homTo_succ_f {c : Cat} {x y : Int} {k : Nat} (h : ¬ (at0 c.s k = x ∧ at0 c.t k = y)) : homTo c x y (k + 1) = homTo c x y k := by
 simp [homTo, List.range_succ, List.filter_append, h]
theorem homTo_len (c : Cat) (x y : Int) (k : Nat) : (homTo c x y k).length ≤ k := by
 have := List.length_filter_le (fun (j : Nat) => decide (at0 c.s j = x ∧ at0 c.t j = y)) (List.range k)
 simpa [homTo] using this
end Go.Proofs.Ytbiplocgenppoaa
namespace Go.Proofs.Ytbiplocgenppoaa
open _root_.Go.Proofs.Try
open Go.RowKit
noncomputable def arrErr (c : Cat) (xs : List Int) : Int := if fIsCategory c = true then (if AllP c.s.length xs then 0 else 2) else 1
noncomputable def objErr (c : Cat) (xs : List Int) : Int := if fIsCategory c = true then (if AllP c.ob xs then 0 else 2) else 1
theorem arrErr_f {c : Cat} {xs : List Int} (h : fIsCategory c = false) : arrErr c xs = 1 := by unfold arrErr; rw [if_neg (by rw [h]; decide)]
theorem arrErr_r {c : Cat} {xs : List Int} (h : fIsCategory c = true) (hp : ¬ AllP c.s.length xs) : arrErr c xs = 2 := by unfold arrErr; rw [if_pos h, if_neg hp]
theorem arrErr_t {c : Cat} {xs : List Int} (h : fIsCategory c = true) (hp : AllP c.s.length xs) : arrErr c xs = 0 := by unfold arrErr; rw [if_pos h, if_pos hp]
theorem objErr_f {c : Cat} {xs : List Int} (h : fIsCategory c = false) : objErr c xs = 1 := by unfold objErr; rw [if_neg (by rw [h]; decide)]
theorem objErr_r {c : Cat} {xs : List Int} (h : fIsCategory c = true) (hp : ¬ AllP c.ob xs) : objErr c xs = 2 := by unfold objErr; rw [if_pos h, if_neg hp]
theorem objErr_t {c : Cat} {xs : List Int} (h : fIsCategory c = true) (hp : AllP c.ob xs) : objErr c xs = 0 := by unfold objErr; rw [if_pos h, if_pos hp]
theorem arrErr_0 {c : Cat} {xs : List Int} (h : arrErr c xs = 0) : IsCat c ∧ AllP c.s.length xs := by
 cases hI : fIsCategory c with
 | false => rw [arrErr_f hI] at h; simp at h
 | true =>
  by_cases hp : AllP c.s.length xs
  ·exact ⟨isCat_of hI, hp⟩
  rw [arrErr_r hI hp] at h; simp at h
theorem objErr_0 {c : Cat} {xs : List Int} (h : objErr c xs = 0) : IsCat c ∧ AllP c.ob xs := by
 cases hI : fIsCategory c with
 | false => rw [objErr_f hI] at h; simp at h
 | true =>
  by_cases hp : AllP c.ob xs
  ·exact ⟨isCat_of hI, hp⟩
  rw [objErr_r hI hp] at h; simp at h
noncomputable def arrCat (c : Cat) (xs : List Int) : Cat := if arrErr c xs = 0 then c else cat0
noncomputable def objCat (c : Cat) (xs : List Int) : Cat := if objErr c xs = 0 then c else cat0
theorem arrCat_t {c : Cat} {xs : List Int} (h : arrErr c xs = 0) : arrCat c xs = c := if_pos h
theorem objCat_t {c : Cat} {xs : List Int} (h : objErr c xs = 0) : objCat c xs = c := if_pos h
theorem readArrows_any (w : World) (v u : Value) (c : Cat) (xs : List Int) (h : RdC w v c) (hu : Rd w u xs) : Calls Try.prog 48 #[v, u] w (RetCI w (arrCat c xs) (arrErr c xs)) := by
 cases hI : fIsCategory c with
 | false => rw [arrErr_f hI, show arrCat c xs = cat0 from if_neg (by rw [arrErr_f hI]; decide)]; exact readArrows_f w v u c xs h hu hI
 | true =>
  by_cases hp : AllP c.s.length xs
  ·rw [arrErr_t hI hp, arrCat_t (arrErr_t hI hp)]; exact readArrows_t w v u c xs h hu hI hp
  rw [arrErr_r hI hp, show arrCat c xs = cat0 from if_neg (by rw [arrErr_r hI hp]; decide)]; exact readArrows_r w v u c xs h hu hI hp
theorem readObjects_any (w : World) (v u : Value) (c : Cat) (xs : List Int) (h : RdC w v c) (hu : Rd w u xs) : Calls Try.prog 39 #[v, u] w (RetCI w (objCat c xs) (objErr c xs)) := by
 cases hI : fIsCategory c with
 | false => rw [objErr_f hI, show objCat c xs = cat0 from if_neg (by rw [objErr_f hI]; decide)]; exact readObjects_f w v u c xs h hu hI
 | true =>
  by_cases hp : AllP c.ob xs
  ·rw [objErr_t hI hp, objCat_t (objErr_t hI hp)]; exact readObjects_t w v u c xs h hu hI hp
  rw [objErr_r hI hp, show objCat c xs = cat0 from if_neg (by rw [objErr_r hI hp]; decide)]; exact readObjects_r w v u c xs h hu hI hp
theorem th_none {c : Cat} (hS : ShapeP c) {f g : Int} (f0 : 0 ≤ f) (f1 : f < c.s.length) (g0 : 0 ≤ g) (g1 : g < c.s.length) : c.th f g = -1 ↔ at0 c.t f ≠ at0 c.s g := by
 obtain ⟨a, rfl⟩ := Int.eq_ofNat_of_zero_le f0
 obtain ⟨b, rfl⟩ := Int.eq_ofNat_of_zero_le g0
 have hc := hS.co a b (by omega) (by omega)
 constructor
 ·intro h he
  have := (hc.1 he).1.1
  omega
 exact hc.2
end Go.Proofs.Ytbiplocgenppoaa
namespace Go.Proofs.Ytbiplocgenppoaa
open _root_.Go.Proofs.Try
open Go.RowKit
def pathGo (c : Cat) : Int → List Int → Int × Int
 | h, [] => (h, 0)
 | h, f :: r => if at0 c.t h = at0 c.s f then pathGo c (c.th h f) r else (0, 5)
theorem drop_at {xs : List Int} {k : Nat} (h : k < xs.length) : xs.drop k = at0 xs (k : Int) :: xs.drop (k + 1) := by
 rw [at0_nat, List.drop_eq_getElem_cons h]; simp [List.getD_eq_getElem?_getD, List.getElem?_eq_getElem h]
structure PathI (c : Cat) (e0 : Int) (xs : List Int) (k : Nat) (h : Int) : Prop where
 kl : k ≤ xs.length
 h0 : 0 ≤ h
 h1 : h < c.s.length
 go : pathGo c h (xs.drop k) = pathGo c e0 xs
theorem bP_f' {p : Prop} (h : bP p = false) : ¬ p := fun hp => by rw [bP_t hp] at h; cases h
theorem bP_t' {p : Prop} (h : bP p = true) : p := bP_iff.1 h
theorem arrowsBetween_any (w : World) (v : Value) (c : Cat) (x y : Int) (h : RdC w v c) (hS : ShapeP c) :
  Calls Try.prog 104 #[v, .agg #[.int .i64 x, .int .i64 y]] w (RetL w (homTo c x y c.s.length)) := by
 have h0 := h
 obtain ⟨va, vb, vc, vd, ve, vf, vg, vh, rfl, h1, h2, h3, h4, _⟩ := h.lists
 have hn40 := hS.n40; have htl := hS.tl
 go_enter func104, Try.ntmps104
 refine gc_enter (N := 23) rfl (look_cons (k := 0) rfl (look_cons (k := 1) rfl (look_nil _))) ?_
 refine gc_sr fun K1 hK1 => ?_
 refine gop fun K3 hK3 => ?_
 refine go_box rfl rfl rfl rfl rfl ?_
 intro B2
 refine hK3 _ _ ?_
 refine gop fun K5 hK5 => ?_
 refine go_box rfl rfl rfl rfl rfl ?_
 intro B4
 refine hK5 _ _ ?_
 refine gas ?_
 refine gnt (hK1 _ _ ?_)
 refine gc_sr fun K6 hK6 => ?_
 refine gas ?_
 refine gnt (hK6 _ _ ?_)
 refine gc_seq fun K7 hK7 => ?_
 refine gc_seq fun K8 hK8 => ?_
 refine gc_nilS ?_
 refine gc_region ?_
 refine gv (qts underlying27 (n := 0)) ?_
 refine g_q (.free rfl) rfl rfl (qt_call rfl func31 rfl (by decide) rfl (fun w M => arrows_any w _ _ (mem_rdC M h0))) ?_
 refine gm ?_
 refine gnt (hK8 _ _ ?_)
 refine gc_block ?_
 try simp only [sL]
 refine gc_loopT ([(0, _), (1, _), (2, _), (3, _), (4, _), (8, _)] : Env) (fun s : Nat × (Option Addr) × Nat => (fun (k : Nat) (a : Option Addr) (q : Nat) => (([(5, .slice a (homTo c x y k).length q), (9, .int .i64 (k : Int))] : Env), ([(2, own1I (.slice a (homTo c x y k).length q) (homTo c x y k))] : List (Nat × Itm)), k ≤ c.s.length, c.s.length - k)) s.1 s.2.1 s.2.2) (0, _, _) (by repeat first | exact sub_nil | refine sub_cons rfl ?_) rfl (Nat.zero_le _) ?_
 rintro ⟨k, a, q⟩ hinv KL9 hKL9
 simp only [sU, sL] at hinv hKL9 ⊢
 have hk := hinv
 have hl := homTo_len c x y k
 refine gc_sr fun K10 hK10 => ?_
 refine gv (qt_lss rfl rfl rfl) ?_
 refine gnt (hK10 _ _ ?_)
 refine gc_seq fun K11 hK11 => ?_
 refine gc_cond rfl (fun hc0 => ?_) (fun hc0 => ?_)
 ·try simp only [sA] at hc0
  refine gc_skip ?_
  refine gk_then (hK11 _ _ ?_)
  refine gc_seq fun K12 hK12 => ?_
  refine gc_block ?_
  refine gc_sr fun K13 hK13 => ?_
  refine gm ?_
  refine gas ?_
  refine gnt (hK13 _ _ ?_)
  refine gc_seq fun K14 hK14 => ?_
  refine gc_draw (by kernel_rfl) ?_
  refine gdv (qts underlying27 (n := 0)) ?_
  refine gdv (qt_move rfl rfl) ?_
  refine gd_q (.free rfl) rfl rfl (qt_call rfl func110 rfl (by decide) rfl (fun w M => ends_any w _ _ _ (mem_rdC M h0) (by first | assumption | omega) (by first | assumption | omega) (by first | assumption | omega))) ?_
  refine gdv (qts underlying59 (n := 1)) ?_
  refine gdv (qt_eqA rfl rfl rfl (fun w => eqA_arrowEnds _ _ _ _ w) eqG_arrowEnds) ?_
  refine gd_nil ?_
  refine gk_then (hK14 _ _ ?_)
  refine gc_cond rfl (fun hc1 => ?_) (fun hc1 => ?_)
  ·try simp only [sA] at hc1
   refine gc_region ?_
   refine gm ?_
   refine gm ?_
   refine gop fun K16 hK16 => ?_
   refine go_slice1 rfl rfl rfl rfl underlying24 ?_
   intro B15
   refine hK16 _ _ ?_
   refine gop fun K18 hK18 => ?_
   refine go_append (n := 2) (m := 3) rfl rfl rfl underlying24 rfl rfl rfl rfl (by omega) ?_
   intro va17 vc17
   refine hK18 _ _ ?_
   refine gas ?_
   refine g_nil ?_
   refine gk_block ?_
   refine gk_then (hK12 _ _ ?_)
   refine gc_region ?_
   refine gv (qt_add rfl rfl rfl (by omega)) ?_
   refine gm ?_
   refine g_nil ?_
   rw [← homTo_succ_t hc1.1 hc1.2]
   refine gk_then (gk_take 3 ?_)
   refine gk_sub ?hs_19 (hKL9 (k + 1, _, _) ?hi_19 ?hm_19)
   case hs_19 => repeat first | exact sub_nil | refine sub_cons rfl ?_
   case hi_19 => omega
   case hm_19 => omega
  try simp only [sA] at hc1
  refine gc_skip ?_
  refine gk_block ?_
  refine gk_then (hK12 _ _ ?_)
  refine gc_region ?_
  refine gv (qt_add rfl rfl rfl (by omega)) ?_
  refine gm ?_
  refine g_nil ?_
  rw [← homTo_succ_f hc1]
  refine gk_then (gk_take 3 ?_)
  refine gk_sub ?hs_20 (hKL9 (k + 1, _, _) ?hi_20 ?hm_20)
  case hs_20 => repeat first | exact sub_nil | refine sub_cons rfl ?_
  case hi_20 => omega
  case hm_20 => omega
 try simp only [sA] at hc0
 refine gc_exit ?_
 refine gk_then_exit ?_
 refine gk_then_exit ?_
 refine gk_block_hit ?_
 refine gk_then (hK7 _ _ ?_)
 refine gc_sr fun K21 hK21 => ?_
 refine gm ?_
 refine gas ?_
 refine gnt (hK21 _ _ ?_)
 refine gc_ret ?_
 refine ret_1 rfl rfl  (fun w M => ?_)
 obtain rfl : k = c.s.length := by omega
 exact ⟨_, rfl, mem_own1 (n := 2) M rfl, M.1⟩
end Go.Proofs.Ytbiplocgenppoaa
namespace Go.Proofs.Ytbiplocgenppoaa
open _root_.Go.Proofs.Try
open Go.RowKit
theorem mem_homTo {c : Cat} {x y z : Int} {n : Nat} : z ∈ homTo c x y n ↔ ∃ j : Nat, j < n ∧ z = j ∧ at0 c.s j = x ∧ at0 c.t j = y := by
 simp only [homTo, List.mem_map, List.mem_filter, List.mem_range, decide_eq_true_eq]
 constructor
 ·rintro ⟨j, ⟨h1, h2, h3⟩, rfl⟩; exact ⟨j, h1, rfl, h2, h3⟩
 rintro ⟨j, h1, rfl, h2, h3⟩; exact ⟨j, ⟨h1, h2, h3⟩, rfl⟩
theorem homTo_at {c : Cat} {x y : Int} {n k : Nat} (hk : k < (homTo c x y n).length) : 0 ≤ at0 (homTo c x y n) k ∧ at0 (homTo c x y n) k < n ∧ at0 c.s (at0 (homTo c x y n) k) = x ∧ at0 c.t (at0 (homTo c x y n) k) = y := by
 have hm : at0 (homTo c x y n) k ∈ homTo c x y n := by rw [at0_nat]; exact mem_getD hk
 obtain ⟨j, h1, h2, h3, h4⟩ := mem_homTo.1 hm
 rw [h2]; exact ⟨by omega, by omega, h3, h4⟩
def invAt (c : Cat) (f g : Int) : Prop := c.th f g = at0 c.e (at0 c.s f) ∧ c.th g f = at0 c.e (at0 c.t f)
noncomputable def findGo (c : Cat) (f : Int) : List Int → Int
 | [] => -1
 | g :: r => @ite _ (invAt c f g) (Classical.propDecidable _) g (findGo c f r)
theorem findGo_t {c : Cat} {f : Int} {xs : List Int} {k : Nat} (hk : k < xs.length) (h : invAt c f (at0 xs k)) : findGo c f (xs.drop k) = at0 xs k := by
 rw [drop_at hk]; exact if_pos h
theorem findGo_f {c : Cat} {f : Int} {xs : List Int} {k : Nat} (hk : k < xs.length) (h : ¬ invAt c f (at0 xs k)) : findGo c f (xs.drop k) = findGo c f (xs.drop (k + 1)) := by
 rw [drop_at hk]; exact if_neg h
theorem findGo_end {c : Cat} {f : Int} {xs : List Int} : findGo c f (xs.drop xs.length) = -1 := by simp [findGo]
noncomputable def hasInv (c : Cat) (f : Int) : Prop := ∃ g ∈ homTo c (at0 c.t f) (at0 c.s f) c.s.length, invAt c f g
theorem findGo_neg {c : Cat} {f : Int} : ∀ {xs : List Int}, (∀ x ∈ xs, 0 ≤ x) → (findGo c f xs < 0 ↔ ¬ ∃ g ∈ xs, invAt c f g)
 | [], _ => by simp [findGo]
 | g :: r, h => by
  have ih := findGo_neg (c := c) (f := f) (xs := r) fun x hx => h x (List.mem_cons_of_mem _ hx)
  by_cases hi : invAt c f g
  ·have : findGo c f (g :: r) = g := if_pos hi
   rw [this]
   have := h g (List.mem_cons_self ..)
   constructor
   ·intro h2; omega
   intro h2; exact absurd ⟨g, List.mem_cons_self .., hi⟩ h2
  have : findGo c f (g :: r) = findGo c f r := if_neg hi
  rw [this, ih]
  constructor
  ·rintro h2 ⟨x, hx, hx2⟩
   rcases List.mem_cons.1 hx with rfl | hx
   ·exact hi hx2
   exact h2 ⟨x, hx, hx2⟩
  rintro h2 ⟨x, hx, hx2⟩
  exact h2 ⟨x, List.mem_cons_of_mem _ hx, hx2⟩
theorem inv_neg {c : Cat} {f : Int} : findGo c f (homTo c (at0 c.t f) (at0 c.s f) c.s.length) < 0 ↔ ¬ hasInv c f :=
 findGo_neg fun x hx => by obtain ⟨j, _, h, _⟩ := mem_homTo.1 hx; omega
theorem th_ends {c : Cat} (hS : ShapeP c) {f g : Int} (f0 : 0 ≤ f) (f1 : f < c.s.length) (g0 : 0 ≤ g) (g1 : g < c.s.length) (h : at0 c.t f = at0 c.s g) : (0 ≤ c.th f g ∧ c.th f g < c.s.length) ∧ at0 c.s (c.th f g) = at0 c.s f ∧ at0 c.t (c.th f g) = at0 c.t g := by
 obtain ⟨a, rfl⟩ := Int.eq_ofNat_of_zero_le f0
 obtain ⟨b, rfl⟩ := Int.eq_ofNat_of_zero_le g0
 exact (hS.co a b (by omega) (by omega)).1 h
theorem all_next {p : Nat → Prop} {k : Nat} (h : ∀ j, j < k → p j) (hk : p k) : ∀ j, j < k + 1 → p j := fun j hj => by
 rcases Nat.lt_or_ge j k with h1 | h1
 ·exact h j h1
 rw [show j = k from by omega]; exact hk
noncomputable def catErr (c : Cat) : Int := if fIsCategory c = true then 0 else 1
noncomputable def catCat (c : Cat) : Cat := if fIsCategory c = true then c else cat0
theorem catErr_0 {c : Cat} (h : catErr c = 0) : fIsCategory c = true := by
 unfold catErr at h
 cases hI : fIsCategory c with
 | true => rfl
 | false => rw [if_neg (by rw [hI]; decide)] at h; simp at h
theorem catErr_n {c : Cat} (h : ¬ catErr c = 0) : fIsCategory c = false ∧ catErr c = 1 := by
 unfold catErr at h ⊢
 cases hI : fIsCategory c with
 | true => exact absurd (if_pos hI) h
 | false => exact ⟨rfl, if_neg (by decide)⟩
theorem catCat_t {c : Cat} (h : catErr c = 0) : catCat c = c := if_pos (catErr_0 h)
theorem readCat_any (w : World) (v : Value) (c : Cat) (h : RdC w v c) : Calls Try.prog 27 #[v] w (RetCI w (catCat c) (catErr c)) := by
 cases hI : fIsCategory c with
 | false => rw [show catCat c = cat0 from if_neg (by rw [hI]; decide), show catErr c = 1 from if_neg (by rw [hI]; decide)]; exact readCategory_f w v c h hI
 | true => rw [show catCat c = c from if_pos hI, show catErr c = 0 from if_pos hI]; exact readCategory_t w v c h hI
end Go.Proofs.Ytbiplocgenppoaa
