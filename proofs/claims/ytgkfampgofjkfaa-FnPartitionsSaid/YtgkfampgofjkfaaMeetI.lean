
/- MeetPartitions: the program's. -/
import Derived.Test.YtgkfampgofjkfaaPartU
import Derived.Test.YtgkfampgofjkfaaMeet
import Derived.Test.YtgkfampgofjkfaaCong2
set_option linter.unusedSimpArgs false
set_option linter.unusedVariables false
set_option linter.unusedSectionVars false
namespace Go.Proofs.Ytgkfampgofjkfaa
open Go.RowKit


theorem part_le {p : List Int} (h : PartP p) {k : Nat} (hk : k < p.length) : 0 ≤ p.getD k 0 ∧ p.getD k 0 ≤ k := by
  obtain ⟨h1, h2⟩ := h
  have h3 := clsOf_getD hk
  rw [← h2] at h3
  rw [h3]
  have h4 := idx_lt (s := seenOf (p.take k)) (x := p.getD k 0)
  have h5 := seenOf_len (p.take k)
  simp at h5
  omega
def prsU (p q : List Int) (j : Nat) : Ent Unit := (at0 p (j : Int), at0 q (j : Int), ())
def prsL (p q : List Int) : List (Ent Unit) := fillU (prsU p q) p.length p.length
theorem prsL_len (p q : List Int) : (prsL p q).length = p.length := fillU_len _ _ _
theorem prsL_at {p q : List Int} {k : Nat} (hk : k < p.length) : atE (prsL p q) (k : Int) = prsU p q k := by
  simp [atE, prsL, fillU, List.getD_eq_getElem?_getD, List.getElem?_eq_getElem, hk]
theorem prsL_cls {p q : List Int} (h : BothP p q) : clsEU (prsL p q) = clsOf (meetL p q p.length) := by
  rw [clsE_properU]
  refine cls_ker ⟨by rw [clsE_lenU, prsL_len, meetL_len], fun i j hi hj => ?_⟩
  rw [clsE_lenU, prsL_len] at hi hj
  rw [clsE_eqU (by rw [prsL_len]; exact hi) (by rw [prsL_len]; exact hj), prsL_at hi, prsL_at hj]
  have e : ∀ k, k < p.length → (meetL p q p.length).getD k 0 = p.getD k 0 * 256 + q.getD k 0 := fun k hk => by
    simp [meetL, List.getD_eq_getElem?_getD, hk]
  have hq := h.2.2; have hl := h.1.1
  have b1 := part_le h.2.1 (k := i) (by omega)
  have b2 := part_le h.2.1 (k := j) (by omega)
  rw [e i hi, e j hj]
  simp only [prsU, Prod.mk.injEq, and_true, at0_nat]
  omega

set_option maxHeartbeats 1000000 in
set_option maxRecDepth 100000 in
theorem impl_MeetPartitions (w : World) (v : Value) (p : List Int) (u : Value) (q : List Int) (hp : Rd w v p) (hq : Rd w u q) :
    Calls Try.prog 23 #[v, u] w (RetLI w (fMeetPartitions p q).1 (fMeetPartitions p q).2) := by
  obtain ⟨va, vc, rfl⟩ := rd_form hp
  obtain ⟨ua, uc, rfl⟩ := rd_form hq
  go_enter Try.func23, Try.ntmps23
  refine gc_enter (N := 35) rfl (look_cons (k := 0) rfl (look_cons (k := 1) rfl (look_nil _))) ?_
  refine gc_seq fun K1 hK1 => ?_
  refine gc_region ?_
  refine g_v (.free rfl) rfl rfl (qt_assign rfl rfl) ?_
  refine g_v (.free rfl) rfl rfl (qt_assign rfl rfl) ?_
  refine g_nil ?_
  refine gk_then (hK1 _ _ ?_)
  refine gc_seq fun K2 hK2 => ?_
  refine gc_seq fun K3 hK3 => ?_
  refine gc_region ?_
  refine g_v (.free rfl) rfl rfl (qt_move rfl rfl) ?_
  refine g_v (.free rfl) rfl rfl (qt_move rfl rfl) ?_
  refine g_q (.free rfl) rfl rfl (qt_call rfl Try.func54 rfl (by decide) rfl (fun w M => implBoth_any w _ _ _ _ (decide (BothP p q)) (mem_rd M hp) (mem_rd M hq) (rfl))) ?_
  refine g_v (.free rfl) rfl rfl (qt_not rfl rfl) ?_
  refine g_nil ?_
  refine gk_then (hK3 _ _ ?_)
  refine gc_cond rfl (fun hc0 => ?_) (fun hc0 => ?_)
  · try simp only [decide_eq_true_eq, decide_eq_false_iff_not, Bool.not_eq_true', Bool.not_eq_false', Bool.not_eq_eq_eq_not, Bool.not_true, Bool.not_false, ne_eq, Decidable.not_not, Classical.not_not] at hc0
    refine gc_seq fun K4 hK4 => ?_
    refine gc_region ?_
    refine g_v (.free rfl) rfl rfl (qt_assign rfl rfl) ?_
    refine g_v (.free rfl) rfl rfl (qt_assign rfl rfl) ?_
    refine g_nil ?_
    refine gk_then (hK4 _ _ ?_)
    refine gc_ret ?_
    refine gk_then_ret ?_
    refine ret_2 rfl rfl rfl  (fun w M => ?_)
    rw [show fMeetPartitions p q = ([], 1) from if_neg hc0]; exact ⟨_, rfl, Sl.nil _ _, M.1⟩
  · try simp only [decide_eq_true_eq, decide_eq_false_iff_not, Bool.not_eq_true', Bool.not_eq_false', Bool.not_eq_eq_eq_not, Bool.not_true, Bool.not_false, ne_eq, Decidable.not_not, Classical.not_not] at hc0
    refine gc_skip ?_
    refine gk_then (hK2 _ _ ?_)
    refine gc_seq fun K5 hK5 => ?_
    have hl := hc0.1.1
    have hpq := hc0.2.2
    refine gc_region ?_
    refine g_v (.free rfl) rfl rfl (qt_move rfl rfl) ?_
    refine g_v (.free rfl) rfl rfl (qt_len rfl rfl ulE1 (fun w M => lenV_rd hp)) ?_
    refine g_op (.free rfl) fun K7 hK7 => ?_
    refine go_makeU rfl rfl rfl rfl rfl rfl (by omega) ?_
    intro B6
    refine hK7 _ _ ?_
    refine g_v (.free rfl) rfl rfl (qt_assign rfl rfl) ?_
    refine g_nil ?_
    refine gk_then (hK5 _ _ ?_)
    refine gc_seq fun K8 hK8 => ?_
    refine gc_seq fun K9 hK9 => ?_
    refine gc_region ?_
    refine g_v (.free rfl) rfl rfl (qt_move rfl rfl) ?_
    refine g_v (.free rfl) rfl rfl (qt_len rfl rfl ulE1 (fun w M => lenV_rd hp)) ?_
    refine g_v (.free rfl) rfl rfl (qt_move rfl rfl) ?_
    refine g_nil ?_
    refine gk_then (hK9 _ _ ?_)
    refine gc_block ?_
    rw [fillU_zero (prsU p q) p.length]
    try simp only [List.nil_append, List.cons_append, List.append_assoc, List.set_cons_succ, List.set_cons_zero]
    refine gc_loop ([(0, _), (1, _), (4, _), (5, _), (6, _), (11, _), (16, _)] : Env) (fun s : Nat => (fun (k : Nat) => ([(17, .int .i64 (k : Int))] : Env)) s) (fun s : Nat => (fun (k : Nat) => ([(0, ownEI lab_un (.slice (some ⟨B6, 0, none⟩) p.length p.length) (fillU (prsU p q) p.length k))] : List (Nat × Itm))) s) (fun s : Nat => (fun (k : Nat) => k ≤ p.length) s) (fun s : Nat => (fun (k : Nat) => p.length - k) s) (0) (sub_cons rfl (sub_cons rfl (sub_cons rfl (sub_cons rfl (sub_cons rfl (sub_cons rfl (sub_cons rfl (sub_cons rfl sub_nil)))))))) rfl (Nat.zero_le _) ?_
    rintro k hinv KL10 hKL10
    simp only [updL, List.foldl_cons, List.foldl_nil, List.set_cons_succ, List.set_cons_zero, List.cons_append, List.nil_append] at hinv hKL10 ⊢
    have hk := hinv
    have hfl := fillU_len (prsU p q) p.length k
    refine gc_seq fun K11 hK11 => ?_
    refine gc_region ?_
    refine g_v (.free rfl) rfl rfl (qt_lss rfl rfl rfl) ?_
    refine g_nil ?_
    refine gk_then (hK11 _ _ ?_)
    refine gc_seq fun K12 hK12 => ?_
    refine gc_cond rfl (fun hc1 => ?_) (fun hc1 => ?_)
    · try simp only [decide_eq_true_eq, decide_eq_false_iff_not, Bool.not_eq_true', Bool.not_eq_false', Bool.not_eq_eq_eq_not, Bool.not_true, Bool.not_false, ne_eq, Decidable.not_not, Classical.not_not] at hc1
      refine gc_skip ?_
      refine gk_then (hK12 _ _ ?_)
      refine gc_seq fun K13 hK13 => ?_
      refine gc_block ?_
      refine gc_seq fun K14 hK14 => ?_
      refine gc_region ?_
      refine g_v (.free rfl) rfl rfl (qt_move rfl rfl) ?_
      refine g_v (.free rfl) rfl rfl (qt_assign rfl rfl) ?_
      refine g_nil ?_
      refine gk_then (hK14 _ _ ?_)
      try simp only [List.nil_append, List.cons_append, List.append_assoc, List.set_cons_succ, List.set_cons_zero]
      refine ga_start _ (fun w M => mem_erase 0 (M)) ?_
      refine ga_v 0 rfl (by kernel_rfl) (by kernel_rfl) (by kernel_rfl) (.free rfl) rfl rfl (qt_move rfl rfl) (fun _ _ _ h => h) ?_
      refine ga_v 1 rfl (by kernel_rfl) (by kernel_rfl) (by kernel_rfl) (.free rfl) rfl rfl (qt_move rfl rfl) (fun _ _ _ h => h) ?_
      refine ga_v 2 rfl (by kernel_rfl) (by kernel_rfl) (by kernel_rfl) (.free rfl) rfl rfl (qt_move rfl rfl) (fun _ _ _ h => h) ?_
      refine ga_v 3 rfl (by kernel_rfl) (by kernel_rfl) (by kernel_rfl) (.free rfl) rfl rfl (qt_move rfl rfl) (fun _ _ _ h => h) ?_
      refine ga_v 4 rfl (by kernel_rfl) (by kernel_rfl) (by kernel_rfl) (.free rfl) rfl rfl (qt_index rfl rfl rfl ulE1 szE1 (fun w M => lenA_rd hp) (by omega) (by omega)) (fun _ _ _ h => h) ?_
      refine ga_v 5 rfl (by kernel_rfl) (by kernel_rfl) (by kernel_rfl) (.free rfl) rfl rfl (qt_load1 rfl rfl Try.underlying2 rfl (fun w M => mem_rd M hp) (by omega) (by omega)) (fun _ _ _ h => h) ?_
      refine ga_v 6 rfl (by kernel_rfl) (by kernel_rfl) (by kernel_rfl) (.free rfl) rfl rfl (qt_move rfl rfl) (fun _ _ _ h => h) ?_
      refine ga_v 7 rfl (by kernel_rfl) (by kernel_rfl) (by kernel_rfl) (.free rfl) rfl rfl (qt_move rfl rfl) (fun _ _ _ h => h) ?_
      refine ga_v 8 rfl (by kernel_rfl) (by kernel_rfl) (by kernel_rfl) (.free rfl) rfl rfl (qt_index rfl rfl rfl ulE1 szE1 (fun w M => lenA_rd hq) (by omega) (by omega)) (fun _ _ _ h => h) ?_
      refine ga_v 9 rfl (by kernel_rfl) (by kernel_rfl) (by kernel_rfl) (.free rfl) rfl rfl (qt_load1 rfl rfl Try.underlying2 rfl (fun w M => mem_rd M hq) (by omega) (by omega)) (fun _ _ _ h => h) ?_
      refine ga_v 10 rfl (by kernel_rfl) (by kernel_rfl) (by kernel_rfl) (.free rfl) rfl rfl (qt_build rfl rfl bt_arrowPair) (fun _ _ _ h => h) ?_
      refine ga_op 11 (by kernel_rfl) rfl (.free rfl) fun K15 hK15 => ?_
      refine go_v rfl rfl (qt_indexE lab_un rfl rfl rfl rfl (fun w M => lenA_E (mem_ownE (n := 0) M rfl)) (by omega) (by omega)) ?_
      refine hK15 _ _ (fun w M => (mem_erase 0 (mem_take 1 M) :)) ?_
      refine ga_op 12 (by kernel_rfl) rfl (.free rfl) fun K16 hK16 => ?_
      refine go_storeEU (n := 0) rfl rfl rfl rfl rfl rfl (by omega) (by omega) ?_
      refine hK16 _ _ (fun w M => (mem_erase 0 (mem_take 1 M) :)) ?_
      refine ga_done (by kernel_rfl) ?_
      refine gk_block ?_
      refine gk_then (hK13 _ _ ?_)
      refine gc_region ?_
      refine g_v (.free rfl) rfl rfl (qt_add rfl rfl rfl (by omega)) ?_
      refine g_v (.free rfl) rfl rfl (qt_move rfl rfl) ?_
      refine g_nil ?_
      rw [show (at0 p (k : Int), at0 q (k : Int), ()) = prsU p q k from rfl, fillU_set (prsU p q) (by omega)]
      refine gk_then (gk_take 1 ?_)
      refine gk_sub ?hs_17 (hKL10 (k + 1) ?hi_17 ?hm_17)
      case hs_17 => exact (sub_cons rfl (sub_cons rfl (sub_cons rfl (sub_cons rfl (sub_cons rfl (sub_cons rfl (sub_cons rfl (sub_cons rfl sub_nil))))))))
      case hi_17 => omega
      case hm_17 => omega
    · try simp only [decide_eq_true_eq, decide_eq_false_iff_not, Bool.not_eq_true', Bool.not_eq_false', Bool.not_eq_eq_eq_not, Bool.not_true, Bool.not_false, ne_eq, Decidable.not_not, Classical.not_not] at hc1
      refine gc_exit ?_
      refine gk_then_exit ?_
      refine gk_then_exit ?_
      refine gk_block_hit ?_
      refine gk_then (hK8 _ _ ?_)
      refine gc_seq fun K18 hK18 => ?_
      obtain rfl : k = p.length := by omega
      have hle := prsL_len p q
      refine gc_region ?_
      refine g_v (.free rfl) rfl rfl (qt_move rfl rfl) ?_
      refine g_op (.free rfl) fun K20 hK20 => ?_
      refine go_callL rfl rfl rfl Try.func55 rfl (by decide) rfl (fun w M => partByU_any w _ (prsL p q) (mem_ownE (n := 0) M rfl) (by first | assumption | omega)) ?_
      intro va19 vc19
      refine hK20 _ _ ?_
      refine g_v (.free rfl) rfl rfl (qt_assign rfl rfl) ?_
      refine g_v (.free rfl) rfl rfl (qt_assign rfl rfl) ?_
      refine g_nil ?_
      refine gk_then (hK18 _ _ ?_)
      refine gc_ret ?_
      refine ret_2 rfl rfl rfl  (fun w M => ?_)
      rw [show fMeetPartitions p q = (clsOf (meetL p q p.length), 0) from if_pos hc0, ← prsL_cls hc0]
      exact ⟨_, rfl, mem_own1 (n := 1) M rfl, M.1⟩

end Go.Proofs.Ytgkfampgofjkfaa
