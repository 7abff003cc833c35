
/- The text of a category: both sides. -/
import Derived.Test.YtelbjdbefaffpaaDoorStrL
set_option linter.unusedSimpArgs false
set_option linter.unusedVariables false
set_option linter.unusedSectionVars false
namespace Go.Proofs.YtelbjdbefaffpaaDoor
open Go.RowKit


def tabT (φ : Nat → List UInt8) (k : Nat) : List (List UInt8) := (List.range k).map φ
theorem tabT_succ (φ : Nat → List UInt8) (k : Nat) : tabT φ k ++ [φ k] = tabT φ (k + 1) := by simp [tabT, List.range_succ]
theorem tabT_len (φ : Nat → List UInt8) (k : Nat) : (tabT φ k).length = k := by simp [tabT]
theorem tabT_mem {φ : Nat → List UInt8} {k : Nat} {l : List UInt8} (h : l ∈ tabT φ k) : ∃ j, j < k ∧ φ j = l := by
  simp only [tabT, List.mem_map, List.mem_range] at h; exact h
/-- One part of a text. -/
def partT (ls : List (List UInt8)) : List UInt8 := if ls.length = 0 then [45] else Lib.join ls [32]
def joinT (lss : List (List (List UInt8))) : List UInt8 := Lib.join (tabT (fun j => partT (atT lss (j : Int))) lss.length) [32, 124, 32]
theorem partT_nil {ls : List (List UInt8)} (h : (ls.length : Int) = 0) : partT ls = [45] := if_pos (by omega)
theorem partT_cons {ls : List (List UInt8)} (h : ¬ (ls.length : Int) = 0) : partT ls = Lib.join ls [32] := if_neg (by omega)
/-- Each text behind a blank. -/
def spT (ls : List (List UInt8)) : List UInt8 := ls.flatMap fun l => 32 :: l
theorem spT_snoc (ls : List (List UInt8)) (l : List UInt8) : spT (ls ++ [l]) = spT ls ++ 32 :: l := by simp [spT]
theorem spT_join : ∀ ls : List (List UInt8), ls.length ≠ 0 → spT ls = 32 :: Lib.join ls [32]
  | [], h => absurd rfl h
  | x :: r, _ => by rw [Lib.join_cons]; simp [spT, Lib.joinTail, List.flatMap]
theorem spT_nil {ls : List (List UInt8)} (h : spT ls = []) : ls.length = 0 := by
  cases ls with
  | nil => rfl
  | cons x r => simp [spT] at h
theorem spT_part (ls : List (List UInt8)) : (if spT ls = [] then [32, 45] else spT ls) = 32 :: partT ls := by
  by_cases h : ls.length = 0
  · obtain rfl : ls = [] := List.eq_nil_of_length_eq_zero h
    rfl
  · rw [if_neg fun h2 => h (spT_nil h2), spT_join ls h, partT, if_neg h]
theorem spT_len (ls : List (List UInt8)) (b : Nat) (h : ∀ l ∈ ls, l.length ≤ b) : (spT ls).length ≤ (b + 1) * ls.length := by
  induction ls with
  | nil => simp [spT]
  | cons x r ih =>
    have h1 := h x (List.mem_cons_self ..)
    have h2 := ih fun l hl => h l (List.mem_cons_of_mem _ hl)
    have e : spT (x :: r) = 32 :: x ++ spT r := by simp [spT]
    rw [e, List.length_append, List.length_cons, List.length_cons, Nat.mul_succ]; omega
theorem join_len (ls : List (List UInt8)) (b : Nat) (h : ∀ l ∈ ls, l.length ≤ b) : (Lib.join ls [32]).length ≤ (b + 1) * ls.length := by
  by_cases h0 : ls.length = 0
  · obtain rfl : ls = [] := List.eq_nil_of_length_eq_zero h0
    simp [Lib.join_nil]
  · have h1 := spT_len ls b h
    rw [spT_join ls h0, List.length_cons] at h1; omega
theorem partT_len (ls : List (List UInt8)) (b : Nat) (h : ∀ l ∈ ls, l.length ≤ b) : (partT ls).length ≤ (b + 1) * ls.length + 1 := by
  by_cases h0 : ls.length = 0
  · rw [partT, if_pos h0]; simp
  · have := join_len ls b h; rw [partT, if_neg h0]; omega

set_option maxHeartbeats 1000000 in
set_option maxRecDepth 100000 in
theorem joinParts_any (w : World) (v : Value) (lss : List (List (List UInt8))) (h : RdTT w v lss) (hn : lss.length ≤ 1000) (hp : ∀ j : Nat, j < lss.length → (partT (atT lss (j : Int))).length ≤ 1000000) (hb : (joinT lss).length ≤ 1000000) :
    Calls Tryd.prog 31 #[v] w (RetS w (joinT lss)) := by
  obtain ⟨va, vc, rfl⟩ := rdTT_form h
  go_enter Tryd.func31, Tryd.ntmps31
  refine gc_enter (N := 24) rfl (look_cons (k := 0) rfl (look_nil _)) ?_
  refine gc_seq fun K1 hK1 => ?_
  refine gc_region ?_
  refine g_v (.free rfl) rfl rfl (qt_assign rfl rfl) ?_
  refine g_nil ?_
  refine gk_then (hK1 _ _ ?_)
  refine gc_seq fun K2 hK2 => ?_
  refine gc_region ?_
  refine g_v (.free rfl) rfl rfl (qt_assign rfl rfl) ?_
  refine g_nil ?_
  refine gk_then (hK2 _ _ ?_)
  refine gc_seq fun K3 hK3 => ?_
  refine gc_seq fun K4 hK4 => ?_
  refine gc_region ?_
  refine g_v (.free rfl) rfl rfl (qt_move rfl rfl) ?_
  refine g_v (.free rfl) rfl rfl (qt_len rfl rfl ulETT (fun w M => lenV_TT (mem_rdTT M h))) ?_
  refine g_v (.free rfl) rfl rfl (qt_move rfl rfl) ?_
  refine g_nil ?_
  refine gk_then (hK4 _ _ ?_)
  refine gc_block ?_
  refine gc_nilTx ?_
  try simp only [List.nil_append, List.cons_append, List.append_assoc, List.set_cons_succ, List.set_cons_zero]
  refine gc_loop ([(0, _), (2, _), (6, _), (7, _)] : Env) (fun s : Nat × (Option Addr) × Nat => (fun (i : Nat) (a : Option Addr) (q : Nat) => ([(3, .slice a (tabT (fun j => partT (atT lss (j : Int))) i).length q), (8, .int .i64 (i : Int))] : Env)) s.1 s.2.1 s.2.2) (fun s : Nat × (Option Addr) × Nat => (fun (i : Nat) (a : Option Addr) (q : Nat) => ([(0, ownTxI (.slice a (tabT (fun j => partT (atT lss (j : Int))) i).length q) (tabT (fun j => partT (atT lss (j : Int))) i))] : List (Nat × Itm))) s.1 s.2.1 s.2.2) (fun s : Nat × (Option Addr) × Nat => (fun (i : Nat) (a : Option Addr) (q : Nat) => i ≤ lss.length) s.1 s.2.1 s.2.2) (fun s : Nat × (Option Addr) × Nat => (fun (i : Nat) (a : Option Addr) (q : Nat) => lss.length - i) s.1 s.2.1 s.2.2) (0, _, _) (sub_cons rfl (sub_cons rfl (sub_cons rfl (sub_cons rfl (sub_cons rfl (sub_cons rfl sub_nil)))))) rfl (Nat.zero_le _) ?_
  rintro ⟨i, a, q⟩ hinv KL5 hKL5
  simp only [updL, List.foldl_cons, List.foldl_nil, List.set_cons_succ, List.set_cons_zero, List.cons_append, List.nil_append] at hinv hKL5 ⊢
  have hi := hinv
  have htl := tabT_len (fun j => partT (atT lss (j : Int))) i
  refine gc_seq fun K6 hK6 => ?_
  refine gc_region ?_
  refine g_v (.free rfl) rfl rfl (qt_lss rfl rfl rfl) ?_
  refine g_nil ?_
  refine gk_then (hK6 _ _ ?_)
  refine gc_seq fun K7 hK7 => ?_
  refine gc_cond rfl (fun hc0 => ?_) (fun hc0 => ?_)
  · try simp only [decide_eq_true_eq, decide_eq_false_iff_not, Bool.not_eq_true', Bool.not_eq_false', Bool.not_eq_eq_eq_not, Bool.not_true, Bool.not_false, ne_eq, Decidable.not_not, Classical.not_not] at hc0
    refine gc_skip ?_
    refine gk_then (hK7 _ _ ?_)
    refine gc_seq fun K8 hK8 => ?_
    refine gc_block ?_
    refine gc_seq fun K9 hK9 => ?_
    refine gc_region ?_
    refine g_v (.free rfl) rfl rfl (qt_index rfl rfl rfl ulETT szETT (fun w M => lenA_TT (mem_rdTT M h)) (by omega) (by omega)) ?_
    refine g_loadTT (.free rfl) rfl rfl rfl rfl Tryd.underlying58 rfl h (by omega) (by omega) ?_
    intro ra10 rc10 hr10
    refine g_v (.free rfl) rfl rfl (qt_assign rfl rfl) ?_
    refine g_nil ?_
    refine gk_then (hK9 _ _ ?_)
    refine gc_seq fun K11 hK11 => ?_
    refine gc_seq fun K12 hK12 => ?_
    refine gc_region ?_
    refine g_v (.free rfl) rfl rfl (qt_move rfl rfl) ?_
    refine g_v (.free rfl) rfl rfl (qt_len rfl rfl ulETx (fun w M => lenV_Tx (mem_rdTx M hr10))) ?_
    refine g_v (.free rfl) rfl rfl (qt_eql rfl rfl rfl) ?_
    refine g_nil ?_
    refine gk_then (hK12 _ _ ?_)
    refine gc_cond rfl (fun hc1 => ?_) (fun hc1 => ?_)
    · try simp only [decide_eq_true_eq, decide_eq_false_iff_not, Bool.not_eq_true', Bool.not_eq_false', Bool.not_eq_eq_eq_not, Bool.not_true, Bool.not_false, ne_eq, Decidable.not_not, Classical.not_not] at hc1
      have hq : partT (atT lss (i : Int)) = Lib.join [[45]] [32] := by rw [partT_nil hc1, Lib.join_one]
      refine gc_region ?_
      refine g_op (.free rfl) fun K14 hK14 => ?_
      refine go_sliceTx1 rfl rfl rfl rfl rfl ?_
      intro B13
      refine hK14 _ _ ?_
      refine g_v (.free rfl) rfl rfl (qt_assign rfl rfl) ?_
      refine g_nil ?_
      refine gk_then (hK11 _ _ ?_)
      refine gc_region ?_
      refine g_v (.free rfl) rfl rfl (qt_move rfl rfl) ?_
      refine g_v (.free rfl) rfl rfl (qt_move rfl rfl) ?_
      refine g_q (.free rfl) rfl rfl (qt_call rfl Tryd.func53 rfl (by decide) rfl (fun w M => join_any w _ _ _ (mem_ownTx (n := 1) M rfl) (by first | exact hpl | exact hb | decide))) ?_
      refine g_op (.free rfl) fun K16 hK16 => ?_
      refine go_sliceTx1 rfl rfl rfl rfl rfl ?_
      intro B15
      refine hK16 _ _ ?_
      refine g_op (.free rfl) fun K18 hK18 => ?_
      refine go_appendTx (n := 0) (m := 2) rfl rfl rfl rfl rfl rfl rfl rfl (by omega) ?_
      intro va17 vc17
      refine hK18 _ _ ?_
      refine g_v (.free rfl) rfl rfl (qt_assign rfl rfl) ?_
      refine g_nil ?_
      refine gk_block ?_
      refine gk_then (hK8 _ _ ?_)
      refine gc_region ?_
      refine g_v (.free rfl) rfl rfl (qt_add rfl rfl rfl (by omega)) ?_
      refine g_v (.free rfl) rfl rfl (qt_move rfl rfl) ?_
      refine g_nil ?_
      rw [← hq]
      simp only [tabT_succ]
      refine gk_then (gk_take 1 ?_)
      refine gk_sub ?hs_19 (hKL5 (i + 1, _, _) ?hi_19 ?hm_19)
      case hs_19 => exact (sub_cons rfl (sub_cons rfl (sub_cons rfl (sub_cons rfl (sub_cons rfl (sub_cons rfl sub_nil))))))
      case hi_19 => omega
      case hm_19 => omega
    · try simp only [decide_eq_true_eq, decide_eq_false_iff_not, Bool.not_eq_true', Bool.not_eq_false', Bool.not_eq_eq_eq_not, Bool.not_true, Bool.not_false, ne_eq, Decidable.not_not, Classical.not_not] at hc1
      have hq : partT (atT lss (i : Int)) = Lib.join (atT lss (i : Int)) [32] := partT_cons hc1
      have hpl : (Lib.join (atT lss (i : Int)) [32]).length ≤ 1000000 := by rw [← hq]; exact hp i (by omega)
      refine gc_skip ?_
      refine gk_then (hK11 _ _ ?_)
      refine gc_region ?_
      refine g_v (.free rfl) rfl rfl (qt_move rfl rfl) ?_
      refine g_v (.free rfl) rfl rfl (qt_move rfl rfl) ?_
      refine g_q (.free rfl) rfl rfl (qt_call rfl Tryd.func53 rfl (by decide) rfl (fun w M => join_any w _ _ _ (mem_rdTx M hr10) (by first | exact hpl | exact hb | decide))) ?_
      refine g_op (.free rfl) fun K21 hK21 => ?_
      refine go_sliceTx1 rfl rfl rfl rfl rfl ?_
      intro B20
      refine hK21 _ _ ?_
      refine g_op (.free rfl) fun K23 hK23 => ?_
      refine go_appendTx (n := 0) (m := 1) rfl rfl rfl rfl rfl rfl rfl rfl (by omega) ?_
      intro va22 vc22
      refine hK23 _ _ ?_
      refine g_v (.free rfl) rfl rfl (qt_assign rfl rfl) ?_
      refine g_nil ?_
      refine gk_block ?_
      refine gk_then (hK8 _ _ ?_)
      refine gc_region ?_
      refine g_v (.free rfl) rfl rfl (qt_add rfl rfl rfl (by omega)) ?_
      refine g_v (.free rfl) rfl rfl (qt_move rfl rfl) ?_
      refine g_nil ?_
      rw [← hq]
      simp only [tabT_succ]
      refine gk_then (gk_take 1 ?_)
      refine gk_sub ?hs_24 (hKL5 (i + 1, _, _) ?hi_24 ?hm_24)
      case hs_24 => exact (sub_cons rfl (sub_cons rfl (sub_cons rfl (sub_cons rfl (sub_cons rfl (sub_cons rfl sub_nil))))))
      case hi_24 => omega
      case hm_24 => omega
  · try simp only [decide_eq_true_eq, decide_eq_false_iff_not, Bool.not_eq_true', Bool.not_eq_false', Bool.not_eq_eq_eq_not, Bool.not_true, Bool.not_false, ne_eq, Decidable.not_not, Classical.not_not] at hc0
    refine gc_exit ?_
    refine gk_then_exit ?_
    refine gk_then_exit ?_
    refine gk_block_hit ?_
    refine gk_then (hK3 _ _ ?_)
    refine gc_seq fun K25 hK25 => ?_
    obtain rfl : i = lss.length := by omega
    refine gc_region ?_
    refine g_v (.free rfl) rfl rfl (qt_move rfl rfl) ?_
    refine g_q (.free rfl) rfl rfl (qt_call rfl Tryd.func53 rfl (by decide) rfl (fun w M => join_any w _ _ _ (mem_ownTx (n := 0) M rfl) (by first | exact hpl | exact hb | decide))) ?_
    refine g_v (.free rfl) rfl rfl (qt_assign rfl rfl) ?_
    refine g_nil ?_
    refine gk_then (hK25 _ _ ?_)
    refine gc_ret ?_
    refine ret_1 rfl rfl  (fun w M => ?_)
    exact ⟨rfl, M.1⟩

set_option maxHeartbeats 1000000 in
set_option maxRecDepth 100000 in
theorem numberTexts_any (w : World) (u : Value) (xs : List Int) (hu : Rd w u xs) (hx : AllP 100 xs) (hl : xs.length ≤ 100000) :
    Calls Tryd.prog 32 #[u] w (RetTx w (tabT (fun j => dec (at0 xs (j : Int))) xs.length)) := by
  obtain ⟨ua, uc, rfl⟩ := rd_form hu
  go_enter Tryd.func32, Tryd.ntmps32
  refine gc_enter (N := 19) rfl (look_cons (k := 0) rfl (look_nil _)) ?_
  refine gc_seq fun K1 hK1 => ?_
  refine gc_region ?_
  refine g_v (.free rfl) rfl rfl (qt_assign rfl rfl) ?_
  refine g_nil ?_
  refine gk_then (hK1 _ _ ?_)
  refine gc_seq fun K2 hK2 => ?_
  refine gc_region ?_
  refine g_v (.free rfl) rfl rfl (qt_assign rfl rfl) ?_
  refine g_nil ?_
  refine gk_then (hK2 _ _ ?_)
  refine gc_seq fun K3 hK3 => ?_
  refine gc_seq fun K4 hK4 => ?_
  refine gc_region ?_
  refine g_v (.free rfl) rfl rfl (qt_move rfl rfl) ?_
  refine g_v (.free rfl) rfl rfl (qt_len rfl rfl ulE1 (fun w M => lenV_rd hu)) ?_
  refine g_v (.free rfl) rfl rfl (qt_move rfl rfl) ?_
  refine g_nil ?_
  refine gk_then (hK4 _ _ ?_)
  refine gc_block ?_
  refine gc_nilTx ?_
  try simp only [List.nil_append, List.cons_append, List.append_assoc, List.set_cons_succ, List.set_cons_zero]
  refine gc_loop ([(0, _), (2, _), (6, _), (7, _)] : Env) (fun s : Nat × (Option Addr) × Nat => (fun (k : Nat) (a : Option Addr) (q : Nat) => ([(3, .slice a (tabT (fun j => dec (at0 xs (j : Int))) k).length q), (8, .int .i64 (k : Int))] : Env)) s.1 s.2.1 s.2.2) (fun s : Nat × (Option Addr) × Nat => (fun (k : Nat) (a : Option Addr) (q : Nat) => ([(0, ownTxI (.slice a (tabT (fun j => dec (at0 xs (j : Int))) k).length q) (tabT (fun j => dec (at0 xs (j : Int))) k))] : List (Nat × Itm))) s.1 s.2.1 s.2.2) (fun s : Nat × (Option Addr) × Nat => (fun (k : Nat) (a : Option Addr) (q : Nat) => k ≤ xs.length) s.1 s.2.1 s.2.2) (fun s : Nat × (Option Addr) × Nat => (fun (k : Nat) (a : Option Addr) (q : Nat) => xs.length - k) s.1 s.2.1 s.2.2) (0, _, _) (sub_cons rfl (sub_cons rfl (sub_cons rfl (sub_cons rfl (sub_cons rfl (sub_cons rfl sub_nil)))))) rfl (Nat.zero_le _) ?_
  rintro ⟨k, a, q⟩ hinv KL5 hKL5
  simp only [updL, List.foldl_cons, List.foldl_nil, List.set_cons_succ, List.set_cons_zero, List.cons_append, List.nil_append] at hinv hKL5 ⊢
  have hk := hinv
  have htl := tabT_len (fun j => dec (at0 xs (j : Int))) k
  refine gc_seq fun K6 hK6 => ?_
  refine gc_region ?_
  refine g_v (.free rfl) rfl rfl (qt_lss rfl rfl rfl) ?_
  refine g_nil ?_
  refine gk_then (hK6 _ _ ?_)
  refine gc_seq fun K7 hK7 => ?_
  refine gc_cond rfl (fun hc0 => ?_) (fun hc0 => ?_)
  · try simp only [decide_eq_true_eq, decide_eq_false_iff_not, Bool.not_eq_true', Bool.not_eq_false', Bool.not_eq_eq_eq_not, Bool.not_true, Bool.not_false, ne_eq, Decidable.not_not, Classical.not_not] at hc0
    refine gc_skip ?_
    refine gk_then (hK7 _ _ ?_)
    refine gc_seq fun K8 hK8 => ?_
    refine gc_block ?_
    refine gc_seq fun K9 hK9 => ?_
    refine gc_region ?_
    refine g_v (.free rfl) rfl rfl (qt_index rfl rfl rfl ulE1 szE1 (fun w M => lenA_rd hu) (by omega) (by omega)) ?_
    refine g_v (.free rfl) rfl rfl (qt_load1 rfl rfl Tryd.underlying2 rfl (fun w M => mem_rd M hu) (by omega) (by omega)) ?_
    refine g_v (.free rfl) rfl rfl (qt_assign rfl rfl) ?_
    refine g_nil ?_
    refine gk_then (hK9 _ _ ?_)
    have hr := allP_at hx (k := k) (by omega)
    have r0 := hr.1; have r1 := hr.2
    refine gc_region ?_
    refine g_v (.free rfl) rfl rfl (qt_move rfl rfl) ?_
    refine g_v (.free rfl) rfl rfl (qt_move rfl rfl) ?_
    refine g_q (.free rfl) rfl rfl (qt_call rfl Tryd.func47 rfl (by decide) rfl (fun w M => numberText_any w _ (by first | assumption | omega) (by first | assumption | omega))) ?_
    refine g_op (.free rfl) fun K11 hK11 => ?_
    refine go_sliceTx1 rfl rfl rfl rfl rfl ?_
    intro B10
    refine hK11 _ _ ?_
    refine g_op (.free rfl) fun K13 hK13 => ?_
    refine go_appendTx (n := 0) (m := 1) rfl rfl rfl rfl rfl rfl rfl rfl (by omega) ?_
    intro va12 vc12
    refine hK13 _ _ ?_
    refine g_v (.free rfl) rfl rfl (qt_assign rfl rfl) ?_
    refine g_nil ?_
    refine gk_block ?_
    refine gk_then (hK8 _ _ ?_)
    refine gc_region ?_
    refine g_v (.free rfl) rfl rfl (qt_add rfl rfl rfl (by omega)) ?_
    refine g_v (.free rfl) rfl rfl (qt_move rfl rfl) ?_
    refine g_nil ?_
    simp only [tabT_succ (fun j => dec (at0 xs (j : Int)))]
    refine gk_then (gk_take 1 ?_)
    refine gk_sub ?hs_14 (hKL5 (k + 1, _, _) ?hi_14 ?hm_14)
    case hs_14 => exact (sub_cons rfl (sub_cons rfl (sub_cons rfl (sub_cons rfl (sub_cons rfl (sub_cons rfl sub_nil))))))
    case hi_14 => omega
    case hm_14 => omega
  · try simp only [decide_eq_true_eq, decide_eq_false_iff_not, Bool.not_eq_true', Bool.not_eq_false', Bool.not_eq_eq_eq_not, Bool.not_true, Bool.not_false, ne_eq, Decidable.not_not, Classical.not_not] at hc0
    refine gc_exit ?_
    refine gk_then_exit ?_
    refine gk_then_exit ?_
    refine gk_block_hit ?_
    refine gk_then (hK3 _ _ ?_)
    refine gc_seq fun K15 hK15 => ?_
    refine gc_region ?_
    refine g_v (.free rfl) rfl rfl (qt_move rfl rfl) ?_
    refine g_v (.free rfl) rfl rfl (qt_assign rfl rfl) ?_
    refine g_nil ?_
    refine gk_then (hK15 _ _ ?_)
    refine gc_ret ?_
    refine ret_1 rfl rfl  (fun w M => ?_)
    obtain rfl : k = xs.length := by omega
    refine ⟨_, rfl, ?_, M.1⟩
    obtain ⟨S, hS, h1⟩ := mem_get (n := 0) M rfl
    exact ⟨h1.1, h1.2.1, fun q hq => hS q (h1.2.2 q hq)⟩


theorem atT_nat (lss : List (List (List UInt8))) (j : Nat) : atT lss (j : Int) = lss.getD j [] := by simp [atT]
theorem dec_len2 {x : Int} (h0 : 0 ≤ x) (h : x < 100) : (dec x).length ≤ 2 := dec_len h0 h
/-- A composite, with its first arrow. -/
def itemT (c : Cat) (f g : Int) : List UInt8 := cat (cat (dec f) [46]) (compT c f g)
theorem itemT_len {c : Cat} {f g : Int} (hS : ShapeP c) (f0 : 0 ≤ f) (f1 : f < c.s.length) (g0 : 0 ≤ g) (g1 : g < c.s.length) (hfg : at0 c.t f = at0 c.s g) : (itemT c f g).length ≤ 8 := by
  have h1 := compT_len hS f0 f1 g0 g1 hfg
  have hn := hS.n40
  have h2 := dec_len (x := f) f0 (by omega)
  simp only [itemT, cat_len, List.length_cons, List.length_nil]; omega
def isUnit (c : Cat) (f : Int) : Prop := at0 c.e (at0 c.s f) = f
def rowIn (c : Cat) (f : Int) (L : List Int) (acc : List (List UInt8)) : Nat → List (List UInt8)
  | 0 => acc
  | j + 1 => rowIn c f L acc j ++ [itemT c f (at0 L (j : Int))]
theorem rowIn_eq (c : Cat) (f : Int) (L : List Int) (acc : List (List UInt8)) : ∀ j, j ≤ L.length → rowIn c f L acc j = acc ++ (L.take j).map (itemT c f)
  | 0, _ => by simp [rowIn]
  | j + 1, h => by rw [rowIn, rowIn_eq c f L acc j (by omega), List.take_add_one, List.getElem?_eq_getElem (by omega), Option.toList_some, at0_getD L j (by omega), List.map_append, List.append_assoc]; rfl
theorem rowIn_len (c : Cat) (f : Int) (L : List Int) (acc : List (List UInt8)) : ∀ j, (rowIn c f L acc j).length = acc.length + j
  | 0 => rfl
  | j + 1 => by rw [rowIn, List.length_append, rowIn_len c f L acc j]; simp; omega
noncomputable def compsL (c : Cat) : Nat → List (List UInt8)
  | 0 => []
  | f + 1 => if bP (isUnit c (f : Int)) = true then compsL c f else rowIn c (f : Int) (folL c (f : Int) c.s.length) (compsL c f) (folL c (f : Int) c.s.length).length
theorem compsL_u {c : Cat} {f : Nat} (h : at0 c.e (at0 c.s (f : Int)) = (f : Int)) : compsL c f = compsL c (f + 1) := by rw [compsL, if_pos (bP_t (p := isUnit c (f : Int)) h)]
theorem compsL_n {c : Cat} {f : Nat} (h : ¬ at0 c.e (at0 c.s (f : Int)) = (f : Int)) : rowIn c (f : Int) (folL c (f : Int) c.s.length) (compsL c f) (folL c (f : Int) c.s.length).length = compsL c (f + 1) := by
  rw [compsL, if_neg (by rw [bP_f (p := isUnit c (f : Int)) h]; decide)]
theorem compsL_len {c : Cat} (hS : ShapeP c) : ∀ f, (compsL c f).length ≤ 40 * f
  | 0 => by simp [compsL]
  | f + 1 => by
    have ih := compsL_len hS f
    by_cases h : at0 c.e (at0 c.s (f : Int)) = (f : Int)
    · rw [← compsL_u h]; omega
    · rw [← compsL_n h, rowIn_len]
      have := fol_len c (f : Int) c.s.length; have := hS.n40; omega
theorem compsL_each {c : Cat} (hS : ShapeP c) : ∀ f, f ≤ c.s.length → ∀ l ∈ compsL c f, l.length ≤ 8
  | 0, _, l, hl => by simp [compsL] at hl
  | f + 1, hf, l, hl => by
    have ih := compsL_each hS f (by omega)
    by_cases h : at0 c.e (at0 c.s (f : Int)) = (f : Int)
    · rw [← compsL_u h] at hl; exact ih l hl
    · rw [← compsL_n h, rowIn_eq _ _ _ _ _ (Nat.le_refl _), List.take_length, List.mem_append] at hl
      rcases hl with hl | hl
      · exact ih l hl
      · simp only [List.mem_map] at hl
        obtain ⟨g, hg, rfl⟩ := hl
        have hm := fol_mem hg
        exact itemT_len hS (by omega) (by omega) hm.1 hm.2.1 hm.2.2
noncomputable def partsL (c : Cat) : List (List (List UInt8)) := [[dec c.ob], tabT (fun f => endT c (f : Int)) c.s.length, tabT (fun j => dec (at0 c.e (j : Int))) c.e.length, compsL c c.s.length]
noncomputable def textT (c : Cat) : List UInt8 := joinT (partsL c)
theorem textT_eq (c : Cat) : textT c = partT [dec c.ob] ++ [32, 124, 32] ++ partT (tabT (fun f => endT c (f : Int)) c.s.length) ++ [32, 124, 32] ++ partT (tabT (fun j => dec (at0 c.e (j : Int))) c.e.length) ++ [32, 124, 32] ++ partT (compsL c c.s.length) := by
  have e : tabT (fun j => partT (atT (partsL c) (j : Int))) (partsL c).length = [partT [dec c.ob], partT (tabT (fun f => endT c (f : Int)) c.s.length), partT (tabT (fun j => dec (at0 c.e (j : Int))) c.e.length), partT (compsL c c.s.length)] := rfl
  unfold textT joinT
  rw [e, Lib.join_cons]
  simp [Lib.joinTail]
theorem idsP {c : Cat} (hS : ShapeP c) : AllP 100 c.e := fun x hx => by
  obtain ⟨j, hj, rfl⟩ := List.getElem_of_mem hx
  have h := hS.id j (by omega)
  have hn := hS.n40
  simp only [okIdent, Cat.arr, at0_nat, List.getD_eq_getElem?_getD, List.getElem?_eq_getElem hj, Option.getD_some] at h
  have h1 := h.1
  omega
theorem part1_len {c : Cat} (hS : ShapeP c) : (partT [dec c.ob]).length ≤ 10 := by
  have h1 := hS.ob0; have h2 := hS.ob8
  have := partT_len [dec c.ob] 2 (fun l hl => by rw [List.mem_singleton.1 hl]; exact dec_len (by omega) (by omega))
  simp at this; omega
theorem part2_len {c : Cat} (hS : ShapeP c) : (partT (tabT (fun f => endT c (f : Int)) c.s.length)).length ≤ 300 := by
  have hn := hS.n40
  have := partT_len (tabT (fun f => endT c (f : Int)) c.s.length) 5 (fun l hl => by obtain ⟨j, hj, rfl⟩ := tabT_mem hl; exact endT_len hS (by omega) (by omega))
  rw [tabT_len] at this; omega
theorem part3_len {c : Cat} (hS : ShapeP c) : (partT (tabT (fun j => dec (at0 c.e (j : Int))) c.e.length)).length ≤ 300 := by
  have hn := hS.n40; have hel := hS.el; have h8 := hS.ob8
  have := partT_len (tabT (fun j => dec (at0 c.e (j : Int))) c.e.length) 2 (fun l hl => by
    obtain ⟨j, hj, rfl⟩ := tabT_mem hl
    have h := allP_at (idsP hS) (k := j) (by omega)
    exact dec_len h.1 h.2)
  rw [tabT_len] at this; omega
theorem part4_len {c : Cat} (hS : ShapeP c) : (partT (compsL c c.s.length)).length ≤ 20000 := by
  have hn := hS.n40
  have h1 := compsL_len hS c.s.length
  have := partT_len (compsL c c.s.length) 8 (compsL_each hS _ (Nat.le_refl _))
  omega
theorem textT_len {c : Cat} (hS : ShapeP c) : (joinT (partsL c)).length ≤ 1000000 := by
  have h1 := part1_len hS; have h2 := part2_len hS; have h3 := part3_len hS; have h4 := part4_len hS
  have e := textT_eq c
  unfold textT at e
  rw [e]; simp only [List.length_append, List.length_cons, List.length_nil]; omega
theorem parts_len {c : Cat} (hS : ShapeP c) : ∀ j : Nat, j < (partsL c).length → (partT (atT (partsL c) (j : Int))).length ≤ 1000000 := by
  intro j hj
  have h1 := part1_len hS; have h2 := part2_len hS; have h3 := part3_len hS; have h4 := part4_len hS
  match j, hj with
  | 0, _ => show (partT [dec c.ob]).length ≤ _; omega
  | 1, _ => show (partT (tabT (fun f => endT c (f : Int)) c.s.length)).length ≤ _; omega
  | 2, _ => show (partT (tabT (fun j => dec (at0 c.e (j : Int))) c.e.length)).length ≤ _; omega
  | 3, _ => show (partT (compsL c c.s.length)).length ≤ _; omega
  | n + 4, hj => simp [partsL] at hj; omega
noncomputable def fCategoryText (c : Cat) : List UInt8 × Int := if fIsCategory c = true then (textT c, 0) else ([], 1)
theorem text_t {c : Cat} (h : fIsCategory c = true) : fCategoryText c = (textT c, 0) := if_pos h
theorem text_f {c : Cat} (h : fIsCategory c = false) : fCategoryText c = ([], 1) := if_neg (by rw [h]; decide)

set_option maxHeartbeats 1000000 in
set_option maxRecDepth 100000 in
theorem text_any (w : World) (v : Value) (c : Cat) (h : RdC w v c) (hS : ShapeP c) :
    Calls Tryd.prog 25 #[v] w (RetS w (textT c)) := by
  have h0 := h
  obtain ⟨va, vb, vc, vd, ve, vf, vg, vh, rfl, h1, h2, h3, h4, _⟩ := h.lists
  have hn40 := hS.n40; have htl := hS.tl; have hel := hS.el; have hob0 := hS.ob0; have hob8 := hS.ob8; have hml := hS.ml
  go_enter Tryd.func25, Tryd.ntmps25
  refine gc_enter (N := 54) rfl (look_cons (k := 0) rfl (look_nil _)) ?_
  refine gc_seq fun K1 hK1 => ?_
  refine gc_region ?_
  refine g_op (.free rfl) fun K3 hK3 => ?_
  refine go_box rfl rfl rfl rfl rfl ?_
  intro B2
  refine hK3 _ _ ?_
  refine g_v (.free rfl) rfl rfl (qt_assign rfl rfl) ?_
  refine g_nil ?_
  refine gk_then (hK1 _ _ ?_)
  refine gc_seq fun K4 hK4 => ?_
  refine gc_region ?_
  refine g_v (.free rfl) rfl rfl (qt_assign rfl rfl) ?_
  refine g_v (.free rfl) rfl rfl (qt_assign rfl rfl) ?_
  refine g_nil ?_
  refine gk_then (hK4 _ _ ?_)
  refine gc_seq fun K5 hK5 => ?_
  refine gc_seq fun K6 hK6 => ?_
  refine gc_region ?_
  refine g_v (.free rfl) rfl rfl (qt_loadS (n := 0) rfl rfl Tryd.underlying29 rfl (by kernel_rfl) rfl) ?_
  refine g_q (.free rfl) rfl rfl (qt_call rfl Tryd.func45 rfl (by decide) rfl (fun w M => arrows_any w _ _ (mem_rdC M h0))) ?_
  refine g_v (.free rfl) rfl rfl (qt_move rfl rfl) ?_
  refine g_nil ?_
  refine gk_then (hK6 _ _ ?_)
  refine gc_block ?_
  refine gc_nilTx ?_
  refine gc_nilTx ?_
  try simp only [List.nil_append, List.cons_append, List.append_assoc, List.set_cons_succ, List.set_cons_zero]
  refine gc_loop ([(0, _), (1, _), (2, _), (9, _)] : Env) (fun s : Nat × (Option Addr) × Nat × (Option Addr) × Nat => (fun (f : Nat) (a : Option Addr) (q : Nat) (b : Option Addr) (r : Nat) => ([(3, .slice a (tabT (fun f => endT c (f : Int)) f).length q), (4, .slice b (compsL c f).length r), (10, .int .i64 (f : Int))] : Env)) s.1 s.2.1 s.2.2.1 s.2.2.2.1 s.2.2.2.2) (fun s : Nat × (Option Addr) × Nat × (Option Addr) × Nat => (fun (f : Nat) (a : Option Addr) (q : Nat) (b : Option Addr) (r : Nat) => ([(1, ownTxI (.slice a (tabT (fun f => endT c (f : Int)) f).length q) (tabT (fun f => endT c (f : Int)) f)), (2, ownTxI (.slice b (compsL c f).length r) (compsL c f))] : List (Nat × Itm))) s.1 s.2.1 s.2.2.1 s.2.2.2.1 s.2.2.2.2) (fun s : Nat × (Option Addr) × Nat × (Option Addr) × Nat => (fun (f : Nat) (a : Option Addr) (q : Nat) (b : Option Addr) (r : Nat) => f ≤ c.s.length) s.1 s.2.1 s.2.2.1 s.2.2.2.1 s.2.2.2.2) (fun s : Nat × (Option Addr) × Nat × (Option Addr) × Nat => (fun (f : Nat) (a : Option Addr) (q : Nat) (b : Option Addr) (r : Nat) => c.s.length - f) s.1 s.2.1 s.2.2.1 s.2.2.2.1 s.2.2.2.2) (0, _, _, _, _) (sub_cons rfl (sub_cons rfl (sub_cons rfl (sub_cons rfl (sub_cons rfl (sub_cons rfl (sub_cons rfl sub_nil))))))) rfl (Nat.zero_le _) ?_
  rintro ⟨f, a, q, b, r⟩ hinv KL7 hKL7
  simp only [updL, List.foldl_cons, List.foldl_nil, List.set_cons_succ, List.set_cons_zero, List.cons_append, List.nil_append] at hinv hKL7 ⊢
  have hf := hinv
  have hal := tabT_len (fun f => endT c (f : Int)) f
  have hcl := compsL_len hS f
  refine gc_seq fun K8 hK8 => ?_
  refine gc_region ?_
  refine g_v (.free rfl) rfl rfl (qt_lss rfl rfl rfl) ?_
  refine g_nil ?_
  refine gk_then (hK8 _ _ ?_)
  refine gc_seq fun K9 hK9 => ?_
  refine gc_cond rfl (fun hc0 => ?_) (fun hc0 => ?_)
  · try simp only [decide_eq_true_eq, decide_eq_false_iff_not, Bool.not_eq_true', Bool.not_eq_false', Bool.not_eq_eq_eq_not, Bool.not_true, Bool.not_false, ne_eq, Decidable.not_not, Classical.not_not] at hc0
    refine gc_skip ?_
    refine gk_then (hK9 _ _ ?_)
    refine gc_seq fun K10 hK10 => ?_
    refine gc_block ?_
    refine gc_seq fun K11 hK11 => ?_
    refine gc_region ?_
    refine g_v (.free rfl) rfl rfl (qt_move rfl rfl) ?_
    refine g_v (.free rfl) rfl rfl (qt_assign rfl rfl) ?_
    refine g_nil ?_
    refine gk_then (hK11 _ _ ?_)
    refine gc_seq fun K12 hK12 => ?_
    refine gc_region ?_
    refine g_v (.free rfl) rfl rfl (qt_move rfl rfl) ?_
    refine g_v (.free rfl) rfl rfl (qt_loadS (n := 0) rfl rfl Tryd.underlying29 rfl (by kernel_rfl) rfl) ?_
    refine g_v (.free rfl) rfl rfl (qt_move rfl rfl) ?_
    refine g_q (.free rfl) rfl rfl (qt_call rfl Tryd.func37 rfl (by decide) rfl (fun w M => arrowText_any w _ _ _ (mem_rdC M h0) (by first | assumption | omega) (by first | assumption | omega) (by first | assumption | omega))) ?_
    refine g_op (.free rfl) fun K14 hK14 => ?_
    refine go_sliceTx1 rfl rfl rfl rfl rfl ?_
    intro B13
    refine hK14 _ _ ?_
    refine g_op (.free rfl) fun K16 hK16 => ?_
    refine go_appendTx (n := 1) (m := 3) rfl rfl rfl rfl rfl rfl rfl rfl (by omega) ?_
    intro va15 vc15
    refine hK16 _ _ ?_
    refine g_v (.free rfl) rfl rfl (qt_assign rfl rfl) ?_
    refine g_nil ?_
    refine gk_then (hK12 _ _ ?_)
    refine gc_seq fun K17 hK17 => ?_
    refine gc_seq fun K18 hK18 => ?_
    refine gc_region ?_
    refine g_v (.free rfl) rfl rfl (qt_loadS (n := 0) rfl rfl Tryd.underlying29 rfl (by kernel_rfl) rfl) ?_
    refine g_v (.free rfl) rfl rfl (qt_move rfl rfl) ?_
    refine g_q (.free rfl) rfl rfl (qt_call rfl Tryd.func46 rfl (by decide) rfl (fun w M => isIdentity_any w _ _ _ (mem_rdC M h0) (by first | assumption | omega) (by first | assumption | omega) (by first | assumption | omega))) ?_
    refine g_nil ?_
    refine gk_then (hK18 _ _ ?_)
    refine gc_cond rfl (fun hc1 => ?_) (fun hc1 => ?_)
    · try simp only [decide_eq_true_eq, decide_eq_false_iff_not, Bool.not_eq_true', Bool.not_eq_false', Bool.not_eq_eq_eq_not, Bool.not_true, Bool.not_false, ne_eq, Decidable.not_not, Classical.not_not] at hc1
      refine gc_exit ?_
      refine gk_then_exit ?_
      refine gk_block_hit ?_
      refine gk_then (hK10 _ _ ?_)
      refine gc_region ?_
      refine g_v (.free rfl) rfl rfl (qt_add rfl rfl rfl (by omega)) ?_
      refine g_v (.free rfl) rfl rfl (qt_move rfl rfl) ?_
      refine g_nil ?_
      simp only [tabT_succ (fun f => endT c (f : Int)), compsL_u hc1]
      refine gk_then (gk_take 3 ?_)
      refine gk_sub ?hs_19 (hKL7 (f + 1, _, _, _, _) ?hi_19 ?hm_19)
      case hs_19 => exact (sub_cons rfl (sub_cons rfl (sub_cons rfl (sub_cons rfl (sub_cons rfl (sub_cons rfl (sub_cons rfl sub_nil)))))))
      case hi_19 => omega
      case hm_19 => omega
    · try simp only [decide_eq_true_eq, decide_eq_false_iff_not, Bool.not_eq_true', Bool.not_eq_false', Bool.not_eq_eq_eq_not, Bool.not_true, Bool.not_false, ne_eq, Decidable.not_not, Classical.not_not] at hc1
      refine gc_skip ?_
      refine gk_then (hK17 _ _ ?_)
      refine gc_seq fun K20 hK20 => ?_
      refine gc_region ?_
      refine g_v (.free rfl) rfl rfl (qt_loadS (n := 0) rfl rfl Tryd.underlying29 rfl (by kernel_rfl) rfl) ?_
      refine g_v (.free rfl) rfl rfl (qt_move rfl rfl) ?_
      refine g_op (.free rfl) fun K22 hK22 => ?_
      refine go_callL rfl rfl rfl Tryd.func38 rfl (by decide) rfl (fun w M => followers_any w _ _ _ (mem_rdC M h0) (by first | assumption | omega) (by first | assumption | omega) (by first | assumption | omega)) ?_
      intro va21 vc21
      refine hK22 _ _ ?_
      refine g_v (.free rfl) rfl rfl (qt_len rfl rfl ulE1 (fun w M => lenV_own1 (n := 4) rfl M)) ?_
      refine g_v (.free rfl) rfl rfl (qt_move rfl rfl) ?_
      refine g_nil ?_
      refine gk_then (hK20 _ _ ?_)
      refine gc_block ?_
      try simp only [List.nil_append, List.cons_append, List.append_assoc, List.set_cons_succ, List.set_cons_zero]
      refine gc_loop ([(0, _), (1, _), (2, _), (3, _), (5, _), (9, _), (10, _), (11, _), (21, _), (24, _), (25, _)] : Env) (fun s : Nat × (Option Addr) × Nat => (fun (j : Nat) (b1 : Option Addr) (r1 : Nat) => ([(4, .slice b1 (rowIn c (f : Int) (folL c (f : Int) c.s.length) (compsL c f) j).length r1), (26, .int .i64 (j : Int))] : Env)) s.1 s.2.1 s.2.2) (fun s : Nat × (Option Addr) × Nat => (fun (j : Nat) (b1 : Option Addr) (r1 : Nat) => ([(2, ownTxI (.slice b1 (rowIn c (f : Int) (folL c (f : Int) c.s.length) (compsL c f) j).length r1) (rowIn c (f : Int) (folL c (f : Int) c.s.length) (compsL c f) j))] : List (Nat × Itm))) s.1 s.2.1 s.2.2) (fun s : Nat × (Option Addr) × Nat => (fun (j : Nat) (b1 : Option Addr) (r1 : Nat) => j ≤ (folL c (f : Int) c.s.length).length) s.1 s.2.1 s.2.2) (fun s : Nat × (Option Addr) × Nat => (fun (j : Nat) (b1 : Option Addr) (r1 : Nat) => (folL c (f : Int) c.s.length).length - j) s.1 s.2.1 s.2.2) (0, _, _) (sub_cons rfl (sub_cons rfl (sub_cons rfl (sub_cons rfl (sub_cons rfl (sub_cons rfl (sub_cons rfl (sub_cons rfl (sub_cons rfl (sub_cons rfl (sub_cons rfl (sub_cons rfl (sub_cons rfl sub_nil))))))))))))) rfl (Nat.zero_le _) ?_
      rintro ⟨j, b1, r1⟩ hinv KL23 hKL23
      simp only [updL, List.foldl_cons, List.foldl_nil, List.set_cons_succ, List.set_cons_zero, List.cons_append, List.nil_append] at hinv hKL23 ⊢
      have hj := hinv
      have hfl := fol_len c (f : Int) c.s.length
      refine gc_seq fun K24 hK24 => ?_
      refine gc_region ?_
      refine g_v (.free rfl) rfl rfl (qt_lss rfl rfl rfl) ?_
      refine g_nil ?_
      refine gk_then (hK24 _ _ ?_)
      refine gc_seq fun K25 hK25 => ?_
      refine gc_cond rfl (fun hc2 => ?_) (fun hc2 => ?_)
      · try simp only [decide_eq_true_eq, decide_eq_false_iff_not, Bool.not_eq_true', Bool.not_eq_false', Bool.not_eq_eq_eq_not, Bool.not_true, Bool.not_false, ne_eq, Decidable.not_not, Classical.not_not] at hc2
        refine gc_skip ?_
        refine gk_then (hK25 _ _ ?_)
        refine gc_seq fun K26 hK26 => ?_
        refine gc_block ?_
        refine gc_seq fun K27 hK27 => ?_
        refine gc_region ?_
        refine g_v (.free rfl) rfl rfl (qt_index rfl rfl rfl ulE1 szE1 (fun w M => lenA_own1 (n := 4) rfl M) (by omega) (by omega)) ?_
        refine g_v (.free rfl) rfl rfl (qt_load1 rfl rfl Tryd.underlying2 rfl (fun w M => (mem_own1 (n := 4) M rfl).rd) (by omega) (by omega)) ?_
        refine g_v (.free rfl) rfl rfl (qt_assign rfl rfl) ?_
        refine g_nil ?_
        refine gk_then (hK27 _ _ ?_)
        have hm := fol_mem (at0_mem1 (show j < (folL c (f : Int) c.s.length).length by omega))
        have g0 := hm.1; have g1 := hm.2.1; have g2 := hm.2.2
        have hc5 := compT_len hS (f := (f : Int)) (by omega) (by omega) g0 (by omega) g2
        have d1 := dec_len (x := (f : Int)) (by omega) (by omega)
        have hrl := rowIn_len c (f : Int) (folL c (f : Int) c.s.length) (compsL c f) j
        try simp only [List.nil_append, List.cons_append, List.append_assoc, List.set_cons_succ, List.set_cons_zero]
        refine ga_start _ (fun w M => mem_erase 2 (M)) ?_
        refine ga_v 0 rfl (by kernel_rfl) (by kernel_rfl) (by kernel_rfl) (.free rfl) rfl rfl (qt_move rfl rfl) (fun _ _ _ h => h) ?_
        refine ga_v 1 rfl (by kernel_rfl) (by kernel_rfl) (by kernel_rfl) (.free rfl) rfl rfl (qt_move rfl rfl) (fun _ _ _ h => h) ?_
        refine ga_v 4 rfl (by kernel_rfl) (by kernel_rfl) (by kernel_rfl) (.free rfl) rfl rfl (qt_loadS (n := 0) rfl rfl Tryd.underlying29 rfl (by kernel_rfl) rfl) (fun _ _ _ h => h) ?_
        refine ga_v 5 rfl (by kernel_rfl) (by kernel_rfl) (by kernel_rfl) (.free rfl) rfl rfl (qt_move rfl rfl) (fun _ _ _ h => h) ?_
        refine ga_v 6 rfl (by kernel_rfl) (by kernel_rfl) (by kernel_rfl) (.free rfl) rfl rfl (qt_move rfl rfl) (fun _ _ _ h => h) ?_
        refine ga_op 2 (by kernel_rfl) rfl (.free rfl) fun K28 hK28 => ?_
        refine go_q rfl rfl (qt_call rfl Tryd.func47 rfl (by decide) rfl (fun w M => numberText_any w _ (by first | assumption | omega) (by first | assumption | omega))) ?_
        refine hK28 _ _ (fun w M => (mem_erase 2 (mem_take 5 M) :)) ?_
        refine ga_v 3 rfl (by kernel_rfl) (by kernel_rfl) (by kernel_rfl) (.free rfl) rfl rfl (qt_addS rfl rfl rfl (by simp only [cat_len, List.length_cons, List.length_nil]; omega)) (fun _ _ _ h => h) ?_
        refine ga_op 7 (by kernel_rfl) rfl (.free rfl) fun K29 hK29 => ?_
        refine go_q rfl rfl (qt_call rfl Tryd.func39 rfl (by decide) rfl (fun w M => compText_any w _ _ _ _ (mem_rdC M h0) (by first | assumption | omega) (by first | assumption | omega) (by first | assumption | omega) (by first | assumption | omega) (by first | assumption | omega) (by first | assumption | omega))) ?_
        refine hK29 _ _ (fun w M => (mem_erase 2 (mem_take 5 M) :)) ?_
        refine ga_v 8 rfl (by kernel_rfl) (by kernel_rfl) (by kernel_rfl) (.free rfl) rfl rfl (qt_addS rfl rfl rfl (by simp only [cat_len, List.length_cons, List.length_nil]; omega)) (fun _ _ _ h => h) ?_
        refine ga_op 9 (by kernel_rfl) rfl (.free rfl) fun K31 hK31 => ?_
        refine go_sliceTx1 rfl rfl rfl rfl rfl ?_
        intro B30
        refine hK31 _ _ (fun w M => (mem_erase 2 (mem_take 5 M) :)) ?_
        refine ga_op 10 (by kernel_rfl) rfl (.free rfl) fun K33 hK33 => ?_
        refine go_appendTx (n := 2) (m := 5) rfl rfl rfl rfl rfl rfl rfl rfl (by omega) ?_
        intro va32 vc32
        refine hK33 _ _ (fun w M => (mem_erase 2 (mem_take 5 M) :)) ?_
        refine ga_v 11 rfl (by kernel_rfl) (by kernel_rfl) (by kernel_rfl) (.free rfl) rfl rfl (qt_assign rfl rfl) (fun _ _ _ h => h) ?_
        refine ga_done (by kernel_rfl) ?_
        refine gk_block ?_
        refine gk_then (hK26 _ _ ?_)
        refine gc_region ?_
        refine g_v (.free rfl) rfl rfl (qt_add rfl rfl rfl (by omega)) ?_
        refine g_v (.free rfl) rfl rfl (qt_move rfl rfl) ?_
        refine g_nil ?_
        refine gk_then (gk_take 5 ?_)
        refine gk_sub ?hs_34 (hKL23 (j + 1, _, _) ?hi_34 ?hm_34)
        case hs_34 => exact (sub_cons rfl (sub_cons rfl (sub_cons rfl (sub_cons rfl (sub_cons rfl (sub_cons rfl (sub_cons rfl (sub_cons rfl (sub_cons rfl (sub_cons rfl (sub_cons rfl (sub_cons rfl (sub_cons rfl sub_nil)))))))))))))
        case hi_34 => omega
        case hm_34 => omega
      · try simp only [decide_eq_true_eq, decide_eq_false_iff_not, Bool.not_eq_true', Bool.not_eq_false', Bool.not_eq_eq_eq_not, Bool.not_true, Bool.not_false, ne_eq, Decidable.not_not, Classical.not_not] at hc2
        refine gc_exit ?_
        refine gk_then_exit ?_
        refine gk_then_exit ?_
        refine gk_block_hit ?_
        refine gk_block ?_
        refine gk_then (hK10 _ _ ?_)
        refine gc_region ?_
        refine g_v (.free rfl) rfl rfl (qt_add rfl rfl rfl (by omega)) ?_
        refine g_v (.free rfl) rfl rfl (qt_move rfl rfl) ?_
        refine g_nil ?_
        obtain rfl : j = (folL c (f : Int) c.s.length).length := by omega
        simp only [tabT_succ (fun f => endT c (f : Int)), compsL_n hc1]
        refine gk_then (gk_take 3 ?_)
        refine gk_sub ?hs_35 (hKL7 (f + 1, _, _, _, _) ?hi_35 ?hm_35)
        case hs_35 => exact (sub_cons rfl (sub_cons rfl (sub_cons rfl (sub_cons rfl (sub_cons rfl (sub_cons rfl (sub_cons rfl sub_nil)))))))
        case hi_35 => omega
        case hm_35 => omega
  · try simp only [decide_eq_true_eq, decide_eq_false_iff_not, Bool.not_eq_true', Bool.not_eq_false', Bool.not_eq_eq_eq_not, Bool.not_true, Bool.not_false, ne_eq, Decidable.not_not, Classical.not_not] at hc0
    refine gc_exit ?_
    refine gk_then_exit ?_
    refine gk_then_exit ?_
    refine gk_block_hit ?_
    refine gk_then (hK5 _ _ ?_)
    refine gc_seq fun K36 hK36 => ?_
    obtain rfl : f = c.s.length := by omega
    try simp only [List.nil_append, List.cons_append, List.append_assoc, List.set_cons_succ, List.set_cons_zero]
    refine ga_start _ (fun w M => M) ?_
    refine ga_v 0 rfl (by kernel_rfl) (by kernel_rfl) (by kernel_rfl) (.free rfl) rfl rfl (qt_field (z := 0) (off := 0) rfl rfl Tryd.underlying29 rfl (by kernel_rfl) rfl) (fun _ _ _ h => h) ?_
    refine ga_v 1 rfl (by kernel_rfl) (by kernel_rfl) (by kernel_rfl) (.free rfl) rfl rfl (qt_loadB (n := 0) rfl rfl Tryd.underlying2 rfl rfl rfl) (fun _ _ _ h => h) ?_
    refine ga_v 4 rfl (by kernel_rfl) (by kernel_rfl) (by kernel_rfl) (.free rfl) rfl rfl (qt_move rfl rfl) (fun _ _ _ h => h) ?_
    refine ga_v 5 rfl (by kernel_rfl) (by kernel_rfl) (by kernel_rfl) (.free rfl) rfl rfl (qt_field (z := 0) (off := 3) rfl rfl Tryd.underlying29 rfl (by kernel_rfl) rfl) (fun _ _ _ h => h) ?_
    refine ga_v 6 rfl (by kernel_rfl) (by kernel_rfl) (by kernel_rfl) (.free rfl) rfl rfl (qt_loadB (n := 0) rfl rfl Tryd.underlying22 rfl rfl rfl) (fun _ _ _ h => h) ?_
    refine ga_v 8 rfl (by kernel_rfl) (by kernel_rfl) (by kernel_rfl) (.free rfl) rfl rfl (qt_move rfl rfl) (fun _ _ _ h => h) ?_
    refine ga_op 2 (by kernel_rfl) rfl (.free rfl) fun K37 hK37 => ?_
    refine go_q rfl rfl (qt_call rfl Tryd.func47 rfl (by decide) rfl (fun w M => numberText_any w _ (by first | assumption | omega) (by first | assumption | omega))) ?_
    refine hK37 _ _ (fun w M => (mem_take 3 M :)) ?_
    refine ga_two 3 7 (by kernel_rfl) rfl rfl (.free rfl) (.free rfl) (fun K38 hK38 => ?_) (fun K38 hK38 => ?_)
    · refine go_sliceTx1 rfl rfl rfl rfl rfl ?_
      intro B39
      refine hK38 _ _ (fun w M => (mem_take 3 M :)) ?_
      refine ga_op 7 (by kernel_rfl) rfl (.free rfl) fun K42 hK42 => ?_
      refine go_callTx rfl rfl rfl Tryd.func32 rfl (by decide) rfl (fun w M => numberTexts_any w _ _ (mem_rd M h3) (idsP hS) (by first | assumption | omega)) ?_
      intro va41 vc41
      refine hK42 _ _ (fun w M => (mem_take 3 M :)) ?_
      refine ga_op 9 (by kernel_rfl) rfl (.free rfl) fun K44 hK44 => ?_
      refine go_sliceTT4 rfl rfl rfl rfl rfl rfl rfl rfl ?_
      intro B43
      refine hK44 _ _ (fun w M => (mem_take 3 M :)) ?_
      refine ga_op 10 (by kernel_rfl) rfl (.free rfl) fun K45 hK45 => ?_
      refine go_q rfl rfl (qt_call rfl Tryd.func31 rfl (by decide) rfl (fun w M => joinParts_any w _ _ (rdTT_4 (mem_bx (n := 5) M rfl) (mem_ownTx (n := 3) M rfl) (mem_ownTx (n := 1) M rfl) (mem_ownTx (n := 4) M rfl) (mem_ownTx (n := 2) M rfl)) (by simp) (parts_len hS) (textT_len hS))) ?_
      refine hK45 _ _ (fun w M => (mem_take 3 M :)) ?_
      refine ga_v 11 rfl (by kernel_rfl) (by kernel_rfl) (by kernel_rfl) (.free rfl) rfl rfl (qt_assign rfl rfl) (fun _ _ _ h => h) ?_
      refine ga_done (by kernel_rfl) ?_
      refine gk_then (hK36 _ _ ?_)
      refine gc_ret ?_
      refine ret_1 rfl rfl  (fun w M => ?_)
      exact ⟨rfl, M.1⟩
    · refine go_callTx rfl rfl rfl Tryd.func32 rfl (by decide) rfl (fun w M => numberTexts_any w _ _ (mem_rd M h3) (idsP hS) (by first | assumption | omega)) ?_
      intro va46 vc46
      refine hK38 _ _ (fun w M => (mem_take 3 M :)) ?_
      refine ga_op 3 (by kernel_rfl) rfl (.free rfl) fun K49 hK49 => ?_
      refine go_sliceTx1 rfl rfl rfl rfl rfl ?_
      intro B48
      refine hK49 _ _ (fun w M => (mem_take 3 M :)) ?_
      refine ga_op 9 (by kernel_rfl) rfl (.free rfl) fun K51 hK51 => ?_
      refine go_sliceTT4 rfl rfl rfl rfl rfl rfl rfl rfl ?_
      intro B50
      refine hK51 _ _ (fun w M => (mem_take 3 M :)) ?_
      refine ga_op 10 (by kernel_rfl) rfl (.free rfl) fun K52 hK52 => ?_
      refine go_q rfl rfl (qt_call rfl Tryd.func31 rfl (by decide) rfl (fun w M => joinParts_any w _ _ (rdTT_4 (mem_bx (n := 5) M rfl) (mem_ownTx (n := 4) M rfl) (mem_ownTx (n := 1) M rfl) (mem_ownTx (n := 3) M rfl) (mem_ownTx (n := 2) M rfl)) (by simp) (parts_len hS) (textT_len hS))) ?_
      refine hK52 _ _ (fun w M => (mem_take 3 M :)) ?_
      refine ga_v 11 rfl (by kernel_rfl) (by kernel_rfl) (by kernel_rfl) (.free rfl) rfl rfl (qt_assign rfl rfl) (fun _ _ _ h => h) ?_
      refine ga_done (by kernel_rfl) ?_
      refine gk_then (hK36 _ _ ?_)
      refine gc_ret ?_
      refine ret_1 rfl rfl  (fun w M => ?_)
      exact ⟨rfl, M.1⟩


/-! ### The model's text -/
def spD (xs : List Int) : Nat → List UInt8
  | 0 => []
  | k + 1 => cat (cat (spD xs k) [32]) (dec (at0 xs (k : Int)))
theorem spD_eq (xs : List Int) : ∀ k, spD xs k = spT (tabT (fun j => dec (at0 xs (j : Int))) k)
  | 0 => rfl
  | k + 1 => by rw [spD, spD_eq xs k, ← tabT_succ, spT_snoc]; simp [cat]
def spE (c : Cat) : Nat → List UInt8
  | 0 => []
  | k + 1 => cat (cat (cat (cat (spE c k) [32]) (dec (at0 c.s (k : Int)))) [62]) (dec (at0 c.t (k : Int)))
theorem spE_eq (c : Cat) : ∀ k, spE c k = spT (tabT (fun f => endT c (f : Int)) k)
  | 0 => rfl
  | k + 1 => by rw [spE, spE_eq c k, ← tabT_succ, spT_snoc]; simp [cat, endT]
def okItem (c : Cat) (f : Int) (g : Nat) : Prop := (at0 c.t f = at0 c.s (g : Int) ∧ ¬ isUnit c f) ∧ ¬ isUnit c (g : Int)
noncomputable def spCi (c : Cat) (f : Int) (acc : List UInt8) : Nat → List UInt8
  | 0 => acc
  | g + 1 => if bP (okItem c f g) = true then cat (cat (cat (cat (cat (cat (spCi c f acc g) [32]) (dec f)) [46]) (dec (g : Int))) [61]) (dec (c.th f (g : Int))) else spCi c f acc g
theorem spCi_t {c : Cat} {f : Int} {acc : List UInt8} {g : Nat} (h : okItem c f g) : cat (cat (cat (cat (cat (cat (spCi c f acc g) [32]) (dec f)) [46]) (dec (g : Int))) [61]) (dec (at0 (row2 c.m f) (g : Int))) = spCi c f acc (g + 1) := by rw [spCi, if_pos (bP_t h)]; rfl
theorem spCi_f {c : Cat} {f : Int} {acc : List UInt8} {g : Nat} (h : ¬ okItem c f g) : spCi c f acc g = spCi c f acc (g + 1) := by rw [spCi, if_neg (by rw [bP_f h]; decide)]
noncomputable def spC (c : Cat) : Nat → List UInt8
  | 0 => []
  | f + 1 => spCi c (f : Int) (spC c f) c.s.length
theorem spCi_u {c : Cat} {f : Int} (acc : List UInt8) (h : isUnit c f) : ∀ g, spCi c f acc g = acc
  | 0 => rfl
  | g + 1 => by rw [← spCi_f fun hb : okItem c f g => hb.1.2 h]; exact spCi_u acc h g
theorem spCi_n {c : Cat} {f : Int} (ls : List (List UInt8)) (h : ¬ isUnit c f) : ∀ g, spCi c f (spT ls) g = spT (ls ++ (folL c f g).map (itemT c f))
  | 0 => by simp [spCi, folL, filTo]
  | g + 1 => by
    by_cases hb : okFol c f g
    · rw [← fol_t hb, List.map_append, ← List.append_assoc, List.map_cons, List.map_nil, spT_snoc, ← spCi_n ls h g, ← spCi_t (c := c) (f := f) (acc := spT ls) (g := g) ⟨⟨hb.1, h⟩, hb.2⟩]
      simp [cat, itemT, compT, Cat.th]
    · rw [← fol_f hb, ← spCi_f (c := c) (f := f) (acc := spT ls) (g := g) fun h2 => hb ⟨h2.1.1, h2.2⟩]; exact spCi_n ls h g
theorem spC_eq (c : Cat) : ∀ f, spC c f = spT (compsL c f)
  | 0 => rfl
  | f + 1 => by
    rw [spC, spC_eq c f]
    by_cases h : isUnit c (f : Int)
    · rw [spCi_u _ h, ← compsL_u (f := f) h]
    · rw [spCi_n _ h, ← compsL_n (f := f) h, rowIn_eq _ _ _ _ _ (Nat.le_refl _), List.take_length]
theorem list_part (xs : List Int) (n : Nat) : (if spD xs n = [] then [45] else (spD xs n).drop 1) = partT (tabT (fun j => dec (at0 xs (j : Int))) n) := by
  have h := spT_part (tabT (fun j => dec (at0 xs (j : Int))) n)
  rw [← spD_eq] at h
  by_cases h0 : spD xs n = []
  · rw [if_pos h0] at h ⊢
    injection h with _ h2
  · rw [if_neg h0] at h ⊢
    rw [h]; rfl
noncomputable def arrS (c : Cat) : List UInt8 := if spE c c.s.length = [] then [32, 45] else spE c c.s.length
noncomputable def comS (c : Cat) : List UInt8 := if spC c c.s.length = [] then [32, 45] else spC c c.s.length
theorem textT_S (c : Cat) : cat (cat (cat (cat (cat (cat (dec c.ob) [32, 124]) (arrS c)) [32, 124, 32]) (partT (tabT (fun j => dec (at0 c.e (j : Int))) c.e.length))) [32, 124]) (comS c) = textT c := by
  have h1 : arrS c = 32 :: partT (tabT (fun f => endT c (f : Int)) c.s.length) := by unfold arrS; rw [spE_eq]; exact spT_part _
  have h2 : comS c = 32 :: partT (compsL c c.s.length) := by unfold comS; rw [spC_eq]; exact spT_part _
  have h3 : partT [dec c.ob] = dec c.ob := by rw [partT, if_neg (by simp), Lib.join_one]
  rw [textT_eq, h1, h2, h3]
  simp [cat]

set_option maxHeartbeats 1000000 in
set_option maxRecDepth 100000 in
theorem specList_any (w : World) (u : Value) (xs : List Int) (hu : Rd w u xs) (hx : AllP 100 xs) (hl : xs.length ≤ 100000) :
    Calls Tryd.prog 42 #[u] w (RetS w (partT (tabT (fun j => dec (at0 xs (j : Int))) xs.length))) := by
  obtain ⟨ua, uc, rfl⟩ := rd_form hu
  go_enter Tryd.func42, Tryd.ntmps42
  refine gc_enter (N := 23) rfl (look_cons (k := 0) rfl (look_nil _)) ?_
  refine gc_seq fun K1 hK1 => ?_
  refine gc_region ?_
  refine g_v (.free rfl) rfl rfl (qt_assign rfl rfl) ?_
  refine g_nil ?_
  refine gk_then (hK1 _ _ ?_)
  refine gc_seq fun K2 hK2 => ?_
  refine gc_region ?_
  refine g_v (.free rfl) rfl rfl (qt_assign rfl rfl) ?_
  refine g_nil ?_
  refine gk_then (hK2 _ _ ?_)
  refine gc_seq fun K3 hK3 => ?_
  refine gc_seq fun K4 hK4 => ?_
  refine gc_region ?_
  refine g_v (.free rfl) rfl rfl (qt_assign rfl rfl) ?_
  refine g_nil ?_
  refine gk_then (hK4 _ _ ?_)
  refine gc_block ?_
  try simp only [List.nil_append, List.cons_append, List.append_assoc, List.set_cons_succ, List.set_cons_zero]
  refine gc_loop ([(0, _), (2, _)] : Env) (fun s : Nat => (fun (k : Nat) => ([(3, sT (spD xs k)), (4, .int .i64 (k : Int))] : Env)) s) (fun s : Nat => (fun (k : Nat) => ([] : List (Nat × Itm))) s) (fun s : Nat => (fun (k : Nat) => k ≤ xs.length ∧ (spD xs k).length ≤ 3 * k) s) (fun s : Nat => (fun (k : Nat) => xs.length - k) s) (0) (sub_cons rfl (sub_cons rfl (sub_cons rfl (sub_cons rfl sub_nil)))) rfl ⟨Nat.zero_le _, Nat.le_refl _⟩ ?_
  rintro k hinv KL5 hKL5
  simp only [updL, List.foldl_cons, List.foldl_nil, List.set_cons_succ, List.set_cons_zero, List.cons_append, List.nil_append] at hinv hKL5 ⊢
  obtain ⟨hk, hlk⟩ := hinv
  refine gc_seq fun K6 hK6 => ?_
  refine gc_seq fun K7 hK7 => ?_
  refine gc_region ?_
  refine g_v (.free rfl) rfl rfl (qt_move rfl rfl) ?_
  refine g_v (.free rfl) rfl rfl (qt_move rfl rfl) ?_
  refine g_v (.free rfl) rfl rfl (qt_len rfl rfl ulE1 (fun w M => lenV_rd hu)) ?_
  refine g_v (.free rfl) rfl rfl (qt_lss rfl rfl rfl) ?_
  refine g_nil ?_
  refine gk_then (hK7 _ _ ?_)
  refine gc_cond rfl (fun hc0 => ?_) (fun hc0 => ?_)
  · try simp only [decide_eq_true_eq, decide_eq_false_iff_not, Bool.not_eq_true', Bool.not_eq_false', Bool.not_eq_eq_eq_not, Bool.not_true, Bool.not_false, ne_eq, Decidable.not_not, Classical.not_not] at hc0
    refine gc_skip ?_
    refine gk_then (hK6 _ _ ?_)
    refine gc_seq fun K8 hK8 => ?_
    refine gc_block ?_
    have hr := allP_at hx (k := k) (by omega)
    have r0 := hr.1; have r1 := hr.2
    have hd := dec_len r0 r1
    refine gc_region ?_
    refine g_v (.free rfl) rfl rfl (qt_move rfl rfl) ?_
    refine g_v (.free rfl) rfl rfl (qt_addS rfl rfl rfl (by simp only [cat_len, List.length_cons, List.length_nil]; omega)) ?_
    refine g_v (.free rfl) rfl rfl (qt_move rfl rfl) ?_
    refine g_v (.free rfl) rfl rfl (qt_move rfl rfl) ?_
    refine g_v (.free rfl) rfl rfl (qt_index rfl rfl rfl ulE1 szE1 (fun w M => lenA_rd hu) (by omega) (by omega)) ?_
    refine g_v (.free rfl) rfl rfl (qt_load1 rfl rfl Tryd.underlying2 rfl (fun w M => mem_rd M hu) (by omega) (by omega)) ?_
    refine g_q (.free rfl) rfl rfl (qt_call rfl Tryd.func34 rfl (by decide) rfl (fun w M => specDec_any w _ (by first | assumption | omega) (by first | assumption | omega))) ?_
    refine g_v (.free rfl) rfl rfl (qt_addS rfl rfl rfl (by simp only [cat_len, List.length_cons, List.length_nil]; omega)) ?_
    refine g_v (.free rfl) rfl rfl (qt_assign rfl rfl) ?_
    refine g_nil ?_
    refine gk_block ?_
    refine gk_then (hK8 _ _ ?_)
    refine gc_region ?_
    refine g_v (.free rfl) rfl rfl (qt_move rfl rfl) ?_
    refine g_v (.free rfl) rfl rfl (qt_add rfl rfl rfl (by omega)) ?_
    refine g_v (.free rfl) rfl rfl (qt_assign rfl rfl) ?_
    refine g_nil ?_
    refine gk_then (gk_take 0 ?_)
    refine gk_sub ?hs_9 (hKL5 (k + 1) ?hi_9 ?hm_9)
    case hs_9 => exact (sub_cons rfl (sub_cons rfl (sub_cons rfl (sub_cons rfl sub_nil))))
    case hi_9 => exact ⟨by omega, (by show (cat (cat (spD xs k) [32]) (dec (at0 xs (k : Int)))).length ≤ _; simp only [cat_len, List.length_cons, List.length_nil]; omega)⟩
    case hm_9 => omega
  · try simp only [decide_eq_true_eq, decide_eq_false_iff_not, Bool.not_eq_true', Bool.not_eq_false', Bool.not_eq_eq_eq_not, Bool.not_true, Bool.not_false, ne_eq, Decidable.not_not, Classical.not_not] at hc0
    refine gc_exit ?_
    refine gk_then_exit ?_
    refine gk_then_exit ?_
    refine gk_block_hit ?_
    refine gk_then (hK3 _ _ ?_)
    refine gc_seq fun K10 hK10 => ?_
    refine gc_seq fun K11 hK11 => ?_
    obtain rfl : k = xs.length := by omega
    refine gc_region ?_
    refine g_v (.free rfl) rfl rfl (qt_move rfl rfl) ?_
    refine g_v (.free rfl) rfl rfl (qt_eqS rfl rfl rfl) ?_
    refine g_nil ?_
    refine gk_then (hK11 _ _ ?_)
    refine gc_cond rfl (fun hc1 => ?_) (fun hc1 => ?_)
    · try simp only [decide_eq_true_eq, decide_eq_false_iff_not, Bool.not_eq_true', Bool.not_eq_false', Bool.not_eq_eq_eq_not, Bool.not_true, Bool.not_false, ne_eq, Decidable.not_not, Classical.not_not] at hc1
      refine gc_seq fun K12 hK12 => ?_
      refine gc_region ?_
      refine g_v (.free rfl) rfl rfl (qt_assign rfl rfl) ?_
      refine g_nil ?_
      refine gk_then (hK12 _ _ ?_)
      refine gc_ret ?_
      refine gk_then_ret ?_
      refine ret_1 rfl rfl  (fun w M => ?_)
      rw [← list_part, if_pos hc1]; exact ⟨rfl, M.1⟩
    · try simp only [decide_eq_true_eq, decide_eq_false_iff_not, Bool.not_eq_true', Bool.not_eq_false', Bool.not_eq_eq_eq_not, Bool.not_true, Bool.not_false, ne_eq, Decidable.not_not, Classical.not_not] at hc1
      refine gc_skip ?_
      refine gk_then (hK10 _ _ ?_)
      refine gc_seq fun K13 hK13 => ?_
      refine gc_region ?_
      refine g_v (.free rfl) rfl rfl (qt_move rfl rfl) ?_
      refine g_v (.free rfl) rfl rfl (qt_sliceS1 rfl rfl Tryd.underlying9 (by have := List.length_pos_iff.2 hc1; omega)) ?_
      refine g_v (.free rfl) rfl rfl (qt_assign rfl rfl) ?_
      refine g_nil ?_
      refine gk_then (hK13 _ _ ?_)
      refine gc_ret ?_
      refine ret_1 rfl rfl  (fun w M => ?_)
      rw [← list_part, if_neg hc1]; exact ⟨rfl, M.1⟩

set_option maxHeartbeats 4000000 in
set_option maxRecDepth 100000 in
theorem specText_any (w : World) (v : Value) (c : Cat) (h : RdC w v c) (hS : ShapeP c) :
    Calls Tryd.prog 21 #[v] w (RetS w (textT c)) := by
  have h0 := h
  obtain ⟨va, vb, vc, vd, ve, vf, vg, vh, rfl, h1, h2, h3, h4, _⟩ := h.lists
  have hn40 := hS.n40; have htl := hS.tl; have hel := hS.el; have hob0 := hS.ob0; have hob8 := hS.ob8; have hml := hS.ml
  go_enter Tryd.func21, Tryd.ntmps21
  refine gc_enter (N := 99) rfl (look_cons (k := 0) rfl (look_nil _)) ?_
  refine gc_seq fun K1 hK1 => ?_
  refine gc_region ?_
  refine g_op (.free rfl) fun K3 hK3 => ?_
  refine go_box rfl rfl rfl rfl rfl ?_
  intro B2
  refine hK3 _ _ ?_
  refine g_v (.free rfl) rfl rfl (qt_assign rfl rfl) ?_
  refine g_nil ?_
  refine gk_then (hK1 _ _ ?_)
  refine gc_seq fun K4 hK4 => ?_
  refine gc_region ?_
  refine g_v (.free rfl) rfl rfl (qt_assign rfl rfl) ?_
  refine g_v (.free rfl) rfl rfl (qt_assign rfl rfl) ?_
  refine g_nil ?_
  refine gk_then (hK4 _ _ ?_)
  refine gc_seq fun K5 hK5 => ?_
  refine gc_seq fun K6 hK6 => ?_
  refine gc_region ?_
  refine g_v (.free rfl) rfl rfl (qt_assign rfl rfl) ?_
  refine g_nil ?_
  refine gk_then (hK6 _ _ ?_)
  refine gc_block ?_
  try simp only [List.nil_append, List.cons_append, List.append_assoc, List.set_cons_succ, List.set_cons_zero]
  refine gc_loop ([(0, _), (1, _), (2, _)] : Env) (fun s : Nat => (fun (f : Nat) => ([(3, sT (spE c f)), (4, sT (spC c f)), (5, .int .i64 (f : Int))] : Env)) s) (fun s : Nat => (fun (f : Nat) => ([] : List (Nat × Itm))) s) (fun s : Nat => (fun (f : Nat) => f ≤ c.s.length ∧ (spE c f).length ≤ 6 * f ∧ (spC c f).length ≤ 400 * f) s) (fun s : Nat => (fun (f : Nat) => c.s.length - f) s) (0) (sub_cons rfl (sub_cons rfl (sub_cons rfl (sub_cons rfl (sub_cons rfl (sub_cons rfl sub_nil)))))) rfl ⟨Nat.zero_le _, Nat.le_refl _, Nat.le_refl _⟩ ?_
  rintro f hinv KL7 hKL7
  simp only [updL, List.foldl_cons, List.foldl_nil, List.set_cons_succ, List.set_cons_zero, List.cons_append, List.nil_append] at hinv hKL7 ⊢
  obtain ⟨hf, hle, hlc⟩ := hinv
  refine gc_seq fun K8 hK8 => ?_
  refine gc_seq fun K9 hK9 => ?_
  refine gc_region ?_
  refine g_v (.free rfl) rfl rfl (qt_move rfl rfl) ?_
  refine g_v (.free rfl) rfl rfl (qt_field (z := 0) (off := 1) rfl rfl Tryd.underlying29 rfl (by kernel_rfl) rfl) ?_
  refine g_v (.free rfl) rfl rfl (qt_loadB (n := 0) rfl rfl Tryd.underlying22 rfl rfl rfl) ?_
  refine g_v (.free rfl) rfl rfl (qt_len rfl rfl ulE1 (fun w M => lenV_rd h1)) ?_
  refine g_v (.free rfl) rfl rfl (qt_lss rfl rfl rfl) ?_
  refine g_nil ?_
  refine gk_then (hK9 _ _ ?_)
  refine gc_cond rfl (fun hc0 => ?_) (fun hc0 => ?_)
  · try simp only [decide_eq_true_eq, decide_eq_false_iff_not, Bool.not_eq_true', Bool.not_eq_false', Bool.not_eq_eq_eq_not, Bool.not_true, Bool.not_false, ne_eq, Decidable.not_not, Classical.not_not] at hc0
    refine gc_skip ?_
    refine gk_then (hK8 _ _ ?_)
    refine gc_seq fun K10 hK10 => ?_
    refine gc_block ?_
    refine gc_seq fun K11 hK11 => ?_
    have hA := arrP hS (f := (f : Int)) (by omega) (by omega)
    have a1 := hA.fs; have a2 := hA.ft; have a3 := hA.s0; have a4 := hA.s1; have a5 := hA.t0; have a6 := hA.t1; have a7 := hA.row; have a8 := hA.fm
    have d1 := dec_len (x := at0 c.s (f : Int)) (by omega) (by omega)
    have d2 := dec_len (x := at0 c.t (f : Int)) (by omega) (by omega)
    have d0 := dec_len (x := (f : Int)) (by omega) (by omega)
    refine gc_draw (by kernel_rfl) ?_
    refine gd_v (.free rfl) rfl rfl (qt_move rfl rfl) ?_
    refine gd_v (.free rfl) rfl rfl (qt_addS rfl rfl rfl (by simp only [cat_len, List.length_cons, List.length_nil]; omega)) ?_
    refine gd_v (.free rfl) rfl rfl (qt_field (z := 0) (off := 1) rfl rfl Tryd.underlying29 rfl (by kernel_rfl) rfl) ?_
    refine gd_v (.free rfl) rfl rfl (qt_loadB (n := 0) rfl rfl Tryd.underlying22 rfl rfl rfl) ?_
    refine gd_v (.free rfl) rfl rfl (qt_move rfl rfl) ?_
    refine gd_v (.free rfl) rfl rfl (qt_index rfl rfl rfl ulE1 szE1 (fun w M => lenA_rd h1) (by omega) (by omega)) ?_
    refine gd_v (.free rfl) rfl rfl (qt_load1 rfl rfl Tryd.underlying2 rfl (fun w M => mem_rd M h1) (by omega) (by omega)) ?_
    refine gd_q (.free rfl) rfl rfl (qt_call rfl Tryd.func34 rfl (by decide) rfl (fun w M => specDec_any w _ (by first | assumption | omega) (by first | assumption | omega))) ?_
    refine gd_v (.free rfl) rfl rfl (qt_addS rfl rfl rfl (by simp only [cat_len, List.length_cons, List.length_nil]; omega)) ?_
    refine gd_v (.free rfl) rfl rfl (qt_addS rfl rfl rfl (by simp only [cat_len, List.length_cons, List.length_nil]; omega)) ?_
    refine gd_v (.free rfl) rfl rfl (qt_field (z := 0) (off := 2) rfl rfl Tryd.underlying29 rfl (by kernel_rfl) rfl) ?_
    refine gd_v (.free rfl) rfl rfl (qt_loadB (n := 0) rfl rfl Tryd.underlying22 rfl rfl rfl) ?_
    refine gd_v (.free rfl) rfl rfl (qt_move rfl rfl) ?_
    refine gd_v (.free rfl) rfl rfl (qt_index rfl rfl rfl ulE1 szE1 (fun w M => lenA_rd h2) (by omega) (by omega)) ?_
    refine gd_v (.free rfl) rfl rfl (qt_load1 rfl rfl Tryd.underlying2 rfl (fun w M => mem_rd M h2) (by omega) (by omega)) ?_
    refine gd_q (.free rfl) rfl rfl (qt_call rfl Tryd.func34 rfl (by decide) rfl (fun w M => specDec_any w _ (by first | assumption | omega) (by first | assumption | omega))) ?_
    refine gd_v (.free rfl) rfl rfl (qt_addS rfl rfl rfl (by simp only [cat_len, List.length_cons, List.length_nil]; omega)) ?_
    refine gd_v (.free rfl) rfl rfl (qt_assign rfl rfl) ?_
    refine gd_nil ?_
    refine gk_then (hK11 _ _ ?_)
    refine gc_seq fun K12 hK12 => ?_
    refine gc_region ?_
    refine g_v (.free rfl) rfl rfl (qt_assign rfl rfl) ?_
    refine g_nil ?_
    refine gk_then (hK12 _ _ ?_)
    refine gc_block ?_
    try simp only [List.nil_append, List.cons_append, List.append_assoc, List.set_cons_succ, List.set_cons_zero]
    refine gc_loop ([(0, _), (1, _), (2, _), (3, _), (5, _), (11, _)] : Env) (fun s : Nat => (fun (g : Nat) => ([(4, sT (spCi c (f : Int) (spC c f) g)), (6, .int .i64 (g : Int))] : Env)) s) (fun s : Nat => (fun (g : Nat) => ([] : List (Nat × Itm))) s) (fun s : Nat => (fun (g : Nat) => g ≤ c.s.length ∧ (spCi c (f : Int) (spC c f) g).length ≤ 400 * f + 10 * g) s) (fun s : Nat => (fun (g : Nat) => c.s.length - g) s) (0) (sub_cons rfl (sub_cons rfl (sub_cons rfl (sub_cons rfl (sub_cons rfl (sub_cons rfl (sub_cons rfl (sub_cons rfl sub_nil)))))))) rfl ⟨Nat.zero_le _, hlc⟩ ?_
    rintro g hinv KL13 hKL13
    simp only [updL, List.foldl_cons, List.foldl_nil, List.set_cons_succ, List.set_cons_zero, List.cons_append, List.nil_append] at hinv hKL13 ⊢
    obtain ⟨hg, hlg⟩ := hinv
    refine gc_seq fun K14 hK14 => ?_
    refine gc_seq fun K15 hK15 => ?_
    refine gc_region ?_
    refine g_v (.free rfl) rfl rfl (qt_move rfl rfl) ?_
    refine g_v (.free rfl) rfl rfl (qt_field (z := 0) (off := 1) rfl rfl Tryd.underlying29 rfl (by kernel_rfl) rfl) ?_
    refine g_v (.free rfl) rfl rfl (qt_loadB (n := 0) rfl rfl Tryd.underlying22 rfl rfl rfl) ?_
    refine g_v (.free rfl) rfl rfl (qt_len rfl rfl ulE1 (fun w M => lenV_rd h1)) ?_
    refine g_v (.free rfl) rfl rfl (qt_lss rfl rfl rfl) ?_
    refine g_nil ?_
    refine gk_then (hK15 _ _ ?_)
    refine gc_cond rfl (fun hc1 => ?_) (fun hc1 => ?_)
    · try simp only [decide_eq_true_eq, decide_eq_false_iff_not, Bool.not_eq_true', Bool.not_eq_false', Bool.not_eq_eq_eq_not, Bool.not_true, Bool.not_false, ne_eq, Decidable.not_not, Classical.not_not] at hc1
      refine gc_skip ?_
      refine gk_then (hK14 _ _ ?_)
      refine gc_seq fun K16 hK16 => ?_
      refine gc_block ?_
      refine gc_seq fun K17 hK17 => ?_
      have hB := arrP hS (f := (g : Int)) (by omega) (by omega)
      have b1 := hB.fs; have b2 := hB.ft
      refine gc_draw (by kernel_rfl) ?_
      refine gd_v (.free rfl) rfl rfl (qt_field (z := 0) (off := 2) rfl rfl Tryd.underlying29 rfl (by kernel_rfl) rfl) ?_
      refine gd_v (.free rfl) rfl rfl (qt_loadB (n := 0) rfl rfl Tryd.underlying22 rfl rfl rfl) ?_
      refine gd_v (.free rfl) rfl rfl (qt_move rfl rfl) ?_
      refine gd_v (.free rfl) rfl rfl (qt_index rfl rfl rfl ulE1 szE1 (fun w M => lenA_rd h2) (by omega) (by omega)) ?_
      refine gd_v (.free rfl) rfl rfl (qt_load1 rfl rfl Tryd.underlying2 rfl (fun w M => mem_rd M h2) (by omega) (by omega)) ?_
      refine gd_v (.free rfl) rfl rfl (qt_field (z := 0) (off := 1) rfl rfl Tryd.underlying29 rfl (by kernel_rfl) rfl) ?_
      refine gd_v (.free rfl) rfl rfl (qt_loadB (n := 0) rfl rfl Tryd.underlying22 rfl rfl rfl) ?_
      refine gd_v (.free rfl) rfl rfl (qt_move rfl rfl) ?_
      refine gd_v (.free rfl) rfl rfl (qt_index rfl rfl rfl ulE1 szE1 (fun w M => lenA_rd h1) (by omega) (by omega)) ?_
      refine gd_v (.free rfl) rfl rfl (qt_load1 rfl rfl Tryd.underlying2 rfl (fun w M => mem_rd M h1) (by omega) (by omega)) ?_
      refine gd_v (.free rfl) rfl rfl (qt_eql rfl rfl rfl) ?_
      refine gd_splitv (.free rfl) rfl rfl (qt_move rfl rfl) (fun hs9_11 => ?_) (fun hs9_11 => ?_)
      · try simp only [decide_eq_true_eq, decide_eq_false_iff_not, Bool.not_eq_true', Bool.not_eq_false', Bool.not_eq_eq_eq_not, Bool.not_true, Bool.not_false, ne_eq, Decidable.not_not, Classical.not_not] at hs9_11
        refine gd_v (.held _ _ _ rfl rfl rfl) rfl rfl (qt_loadS (n := 0) rfl rfl Tryd.underlying29 rfl (by kernel_rfl) rfl) ?_
        refine gd_v (.held _ _ _ rfl rfl rfl) rfl rfl (qt_move rfl rfl) ?_
        refine gd_q (.held _ _ _ rfl rfl rfl) rfl rfl (qt_call rfl Tryd.func35 rfl (by decide) rfl (fun w M => specUnit_any w _ _ _ (mem_rdC M h0) (by first | assumption | omega) (by first | assumption | omega) (by first | assumption | omega))) ?_
        refine gd_v (.held _ _ _ rfl rfl rfl) rfl rfl (qt_not rfl rfl) ?_
        refine gd_v (.free rfl) rfl rfl (qt_pick_t rfl rfl rfl) ?_
        refine gd_splitv (.free rfl) rfl rfl (qt_move rfl rfl) (fun hs9_17 => ?_) (fun hs9_17 => ?_)
        · try simp only [decide_eq_true_eq, decide_eq_false_iff_not, Bool.not_eq_true', Bool.not_eq_false', Bool.not_eq_eq_eq_not, Bool.not_true, Bool.not_false, ne_eq, Decidable.not_not, Classical.not_not] at hs9_17
          refine gd_v (.held _ _ _ rfl rfl rfl) rfl rfl (qt_loadS (n := 0) rfl rfl Tryd.underlying29 rfl (by kernel_rfl) rfl) ?_
          refine gd_v (.held _ _ _ rfl rfl rfl) rfl rfl (qt_move rfl rfl) ?_
          refine gd_q (.held _ _ _ rfl rfl rfl) rfl rfl (qt_call rfl Tryd.func35 rfl (by decide) rfl (fun w M => specUnit_any w _ _ _ (mem_rdC M h0) (by first | assumption | omega) (by first | assumption | omega) (by first | assumption | omega))) ?_
          refine gd_v (.held _ _ _ rfl rfl rfl) rfl rfl (qt_not rfl rfl) ?_
          refine gd_v (.free rfl) rfl rfl (qt_pick_t rfl rfl rfl) ?_
          refine gd_nil ?_
          refine gk_then (hK17 _ _ ?_)
          refine gc_cond rfl (fun hc2 => ?_) (fun hc2 => ?_)
          · try simp only [decide_eq_true_eq, decide_eq_false_iff_not, Bool.not_eq_true', Bool.not_eq_false', Bool.not_eq_eq_eq_not, Bool.not_true, Bool.not_false, ne_eq, Decidable.not_not, Classical.not_not] at hc2
            have hb : okItem c (f : Int) g := ⟨⟨hs9_11, hs9_17⟩, hc2⟩
            have hT := th_ends hS (f := (f : Int)) (g := (g : Int)) (by omega) (by omega) (by omega) (by omega) hs9_11
            have t0 : 0 ≤ at0 (row2 c.m (f : Int)) (g : Int) := hT.1.1; have t1 : at0 (row2 c.m (f : Int)) (g : Int) < c.s.length := hT.1.2
            have d3 := dec_len (x := (g : Int)) (by omega) (by omega)
            have d4 := dec_len (x := at0 (row2 c.m (f : Int)) (g : Int)) (by omega) (by omega)
            refine gc_draw (by kernel_rfl) ?_
            refine gd_v (.free rfl) rfl rfl (qt_move rfl rfl) ?_
            refine gd_v (.free rfl) rfl rfl (qt_addS rfl rfl rfl (by simp only [cat_len, List.length_cons, List.length_nil]; omega)) ?_
            refine gd_v (.free rfl) rfl rfl (qt_move rfl rfl) ?_
            refine gd_q (.free rfl) rfl rfl (qt_call rfl Tryd.func34 rfl (by decide) rfl (fun w M => specDec_any w _ (by first | assumption | omega) (by first | assumption | omega))) ?_
            refine gd_v (.free rfl) rfl rfl (qt_addS rfl rfl rfl (by simp only [cat_len, List.length_cons, List.length_nil]; omega)) ?_
            refine gd_v (.free rfl) rfl rfl (qt_addS rfl rfl rfl (by simp only [cat_len, List.length_cons, List.length_nil]; omega)) ?_
            refine gd_v (.free rfl) rfl rfl (qt_move rfl rfl) ?_
            refine gd_q (.free rfl) rfl rfl (qt_call rfl Tryd.func34 rfl (by decide) rfl (fun w M => specDec_any w _ (by first | assumption | omega) (by first | assumption | omega))) ?_
            refine gd_v (.free rfl) rfl rfl (qt_addS rfl rfl rfl (by simp only [cat_len, List.length_cons, List.length_nil]; omega)) ?_
            refine gd_v (.free rfl) rfl rfl (qt_addS rfl rfl rfl (by simp only [cat_len, List.length_cons, List.length_nil]; omega)) ?_
            refine gd_v (.free rfl) rfl rfl (qt_field (z := 0) (off := 4) rfl rfl Tryd.underlying29 rfl (by kernel_rfl) rfl) ?_
            refine gd_v (.free rfl) rfl rfl (qt_loadB (n := 0) rfl rfl Tryd.underlying23 rfl rfl rfl) ?_
            refine gd_v (.free rfl) rfl rfl (qt_move rfl rfl) ?_
            refine gd_v (.free rfl) rfl rfl (qt_index rfl rfl rfl ulE2 szE2 (fun w M => lenA_rd2 h4) (by omega) (by omega)) ?_
            refine gd_load2 (.free rfl) rfl rfl rfl rfl Tryd.underlying22 rfl h4 (by omega) (by omega) ?_
            intro ra18 rc18 hr18
            refine gd_v (.free rfl) rfl rfl (qt_move rfl rfl) ?_
            refine gd_v (.free rfl) rfl rfl (qt_index rfl rfl rfl ulE1 szE1 (fun w M => lenA_rd hr18) (by omega) (by omega)) ?_
            refine gd_v (.free rfl) rfl rfl (qt_load1 rfl rfl Tryd.underlying2 rfl (fun w M => mem_rd M hr18) (by omega) (by omega)) ?_
            refine gd_q (.free rfl) rfl rfl (qt_call rfl Tryd.func34 rfl (by decide) rfl (fun w M => specDec_any w _ (by first | assumption | omega) (by first | assumption | omega))) ?_
            refine gd_v (.free rfl) rfl rfl (qt_addS rfl rfl rfl (by simp only [cat_len, List.length_cons, List.length_nil]; omega)) ?_
            refine gd_v (.free rfl) rfl rfl (qt_assign rfl rfl) ?_
            refine gd_nil ?_
            refine gk_block ?_
            refine gk_then (hK16 _ _ ?_)
            refine gc_region ?_
            refine g_v (.free rfl) rfl rfl (qt_move rfl rfl) ?_
            refine g_v (.free rfl) rfl rfl (qt_add rfl rfl rfl (by omega)) ?_
            refine g_v (.free rfl) rfl rfl (qt_assign rfl rfl) ?_
            refine g_nil ?_
            rw [spCi_t hb]
            refine gk_then (gk_take 1 ?_)
            refine gk_sub ?hs_19 (hKL13 (g + 1) ?hi_19 ?hm_19)
            case hs_19 => exact (sub_cons rfl (sub_cons rfl (sub_cons rfl (sub_cons rfl (sub_cons rfl (sub_cons rfl (sub_cons rfl (sub_cons rfl sub_nil))))))))
            case hi_19 => exact ⟨by omega, (by rw [← spCi_t hb]; simp only [cat_len, List.length_cons, List.length_nil]; omega)⟩
            case hm_19 => omega
          · try simp only [decide_eq_true_eq, decide_eq_false_iff_not, Bool.not_eq_true', Bool.not_eq_false', Bool.not_eq_eq_eq_not, Bool.not_true, Bool.not_false, ne_eq, Decidable.not_not, Classical.not_not] at hc2
            refine gc_skip ?_
            refine gk_block ?_
            refine gk_then (hK16 _ _ ?_)
            refine gc_region ?_
            refine g_v (.free rfl) rfl rfl (qt_move rfl rfl) ?_
            refine g_v (.free rfl) rfl rfl (qt_add rfl rfl rfl (by omega)) ?_
            refine g_v (.free rfl) rfl rfl (qt_assign rfl rfl) ?_
            refine g_nil ?_
            have hb : ¬ okItem c (f : Int) g := fun h => h.2 hc2
            rw [spCi_f hb]
            refine gk_then (gk_take 1 ?_)
            refine gk_sub ?hs_20 (hKL13 (g + 1) ?hi_20 ?hm_20)
            case hs_20 => exact (sub_cons rfl (sub_cons rfl (sub_cons rfl (sub_cons rfl (sub_cons rfl (sub_cons rfl (sub_cons rfl (sub_cons rfl sub_nil))))))))
            case hi_20 => exact ⟨by omega, (by rw [← spCi_f hb]; omega)⟩
            case hm_20 => omega
        · try simp only [decide_eq_true_eq, decide_eq_false_iff_not, Bool.not_eq_true', Bool.not_eq_false', Bool.not_eq_eq_eq_not, Bool.not_true, Bool.not_false, ne_eq, Decidable.not_not, Classical.not_not] at hs9_17
          refine gd_skip (.not _ _ _ _ rfl rfl rfl rfl) rfl rfl ?_
          refine gd_skip (.not _ _ _ _ rfl rfl rfl rfl) rfl rfl ?_
          refine gd_skip (.not _ _ _ _ rfl rfl rfl rfl) rfl rfl ?_
          refine gd_skip (.not _ _ _ _ rfl rfl rfl rfl) rfl rfl ?_
          refine gd_v (.free rfl) rfl rfl (qt_pick_f rfl rfl rfl) ?_
          refine gd_nil ?_
          refine gk_then (hK17 _ _ ?_)
          refine gc_cond_f rfl ?_
          refine gc_skip ?_
          refine gk_block ?_
          refine gk_then (hK16 _ _ ?_)
          refine gc_region ?_
          refine g_v (.free rfl) rfl rfl (qt_move rfl rfl) ?_
          refine g_v (.free rfl) rfl rfl (qt_add rfl rfl rfl (by omega)) ?_
          refine g_v (.free rfl) rfl rfl (qt_assign rfl rfl) ?_
          refine g_nil ?_
          have hb : ¬ okItem c (f : Int) g := fun h => h.1.2 hs9_17
          rw [spCi_f hb]
          refine gk_then (gk_take 1 ?_)
          refine gk_sub ?hs_21 (hKL13 (g + 1) ?hi_21 ?hm_21)
          case hs_21 => exact (sub_cons rfl (sub_cons rfl (sub_cons rfl (sub_cons rfl (sub_cons rfl (sub_cons rfl (sub_cons rfl (sub_cons rfl sub_nil))))))))
          case hi_21 => exact ⟨by omega, (by rw [← spCi_f hb]; omega)⟩
          case hm_21 => omega
      · try simp only [decide_eq_true_eq, decide_eq_false_iff_not, Bool.not_eq_true', Bool.not_eq_false', Bool.not_eq_eq_eq_not, Bool.not_true, Bool.not_false, ne_eq, Decidable.not_not, Classical.not_not] at hs9_11
        refine gd_skip (.not _ _ _ _ rfl rfl rfl rfl) rfl rfl ?_
        refine gd_skip (.not _ _ _ _ rfl rfl rfl rfl) rfl rfl ?_
        refine gd_skip (.not _ _ _ _ rfl rfl rfl rfl) rfl rfl ?_
        refine gd_skip (.not _ _ _ _ rfl rfl rfl rfl) rfl rfl ?_
        refine gd_v (.free rfl) rfl rfl (qt_pick_f rfl rfl rfl) ?_
        refine gd_v (.free rfl) rfl rfl (qt_move rfl rfl) ?_
        refine gd_skip (.not _ _ _ _ rfl rfl rfl rfl) rfl rfl ?_
        refine gd_skip (.not _ _ _ _ rfl rfl rfl rfl) rfl rfl ?_
        refine gd_skip (.not _ _ _ _ rfl rfl rfl rfl) rfl rfl ?_
        refine gd_skip (.not _ _ _ _ rfl rfl rfl rfl) rfl rfl ?_
        refine gd_v (.free rfl) rfl rfl (qt_pick_f rfl rfl rfl) ?_
        refine gd_nil ?_
        refine gk_then (hK17 _ _ ?_)
        refine gc_cond_f rfl ?_
        refine gc_skip ?_
        refine gk_block ?_
        refine gk_then (hK16 _ _ ?_)
        refine gc_region ?_
        refine g_v (.free rfl) rfl rfl (qt_move rfl rfl) ?_
        refine g_v (.free rfl) rfl rfl (qt_add rfl rfl rfl (by omega)) ?_
        refine g_v (.free rfl) rfl rfl (qt_assign rfl rfl) ?_
        refine g_nil ?_
        have hb : ¬ okItem c (f : Int) g := fun h => hs9_11 h.1.1
        rw [spCi_f hb]
        refine gk_then (gk_take 1 ?_)
        refine gk_sub ?hs_22 (hKL13 (g + 1) ?hi_22 ?hm_22)
        case hs_22 => exact (sub_cons rfl (sub_cons rfl (sub_cons rfl (sub_cons rfl (sub_cons rfl (sub_cons rfl (sub_cons rfl (sub_cons rfl sub_nil))))))))
        case hi_22 => exact ⟨by omega, (by rw [← spCi_f hb]; omega)⟩
        case hm_22 => omega
    · try simp only [decide_eq_true_eq, decide_eq_false_iff_not, Bool.not_eq_true', Bool.not_eq_false', Bool.not_eq_eq_eq_not, Bool.not_true, Bool.not_false, ne_eq, Decidable.not_not, Classical.not_not] at hc1
      refine gc_exit ?_
      refine gk_then_exit ?_
      refine gk_then_exit ?_
      refine gk_block_hit ?_
      refine gk_block ?_
      refine gk_then (hK10 _ _ ?_)
      refine gc_region ?_
      refine g_v (.free rfl) rfl rfl (qt_move rfl rfl) ?_
      refine g_v (.free rfl) rfl rfl (qt_add rfl rfl rfl (by omega)) ?_
      refine g_v (.free rfl) rfl rfl (qt_assign rfl rfl) ?_
      refine g_nil ?_
      obtain rfl : g = c.s.length := by omega
      refine gk_then (gk_take 1 ?_)
      refine gk_sub ?hs_23 (hKL7 (f + 1) ?hi_23 ?hm_23)
      case hs_23 => exact (sub_cons rfl (sub_cons rfl (sub_cons rfl (sub_cons rfl (sub_cons rfl (sub_cons rfl sub_nil))))))
      case hi_23 => exact ⟨by omega, (by show (cat (cat (cat (cat (spE c f) [32]) (dec (at0 c.s (f : Int)))) [62]) (dec (at0 c.t (f : Int)))).length ≤ _; simp only [cat_len, List.length_cons, List.length_nil]; omega), (by show (spCi c (f : Int) (spC c f) c.s.length).length ≤ _; omega)⟩
      case hm_23 => omega
  · try simp only [decide_eq_true_eq, decide_eq_false_iff_not, Bool.not_eq_true', Bool.not_eq_false', Bool.not_eq_eq_eq_not, Bool.not_true, Bool.not_false, ne_eq, Decidable.not_not, Classical.not_not] at hc0
    refine gc_exit ?_
    refine gk_then_exit ?_
    refine gk_then_exit ?_
    refine gk_block_hit ?_
    refine gk_then (hK5 _ _ ?_)
    refine gc_seq fun K24 hK24 => ?_
    refine gc_seq fun K25 hK25 => ?_
    obtain rfl : f = c.s.length := by omega
    have d5 := dec_len (x := c.ob) (by omega) (by omega)
    have p3 := part3_len hS
    refine gc_region ?_
    refine g_v (.free rfl) rfl rfl (qt_move rfl rfl) ?_
    refine g_v (.free rfl) rfl rfl (qt_eqS rfl rfl rfl) ?_
    refine g_nil ?_
    refine gk_then (hK25 _ _ ?_)
    refine gc_cond rfl (fun hc3 => ?_) (fun hc3 => ?_)
    · try simp only [decide_eq_true_eq, decide_eq_false_iff_not, Bool.not_eq_true', Bool.not_eq_false', Bool.not_eq_eq_eq_not, Bool.not_true, Bool.not_false, ne_eq, Decidable.not_not, Classical.not_not] at hc3
      refine gc_region ?_
      refine g_v (.free rfl) rfl rfl (qt_assign rfl rfl) ?_
      refine g_nil ?_
      refine gk_then (hK24 _ _ ?_)
      refine gc_seq fun K26 hK26 => ?_
      refine gc_seq fun K27 hK27 => ?_
      refine gc_region ?_
      refine g_v (.free rfl) rfl rfl (qt_move rfl rfl) ?_
      refine g_v (.free rfl) rfl rfl (qt_eqS rfl rfl rfl) ?_
      refine g_nil ?_
      refine gk_then (hK27 _ _ ?_)
      refine gc_cond rfl (fun hc4 => ?_) (fun hc4 => ?_)
      · try simp only [decide_eq_true_eq, decide_eq_false_iff_not, Bool.not_eq_true', Bool.not_eq_false', Bool.not_eq_eq_eq_not, Bool.not_true, Bool.not_false, ne_eq, Decidable.not_not, Classical.not_not] at hc4
        refine gc_region ?_
        refine g_v (.free rfl) rfl rfl (qt_assign rfl rfl) ?_
        refine g_nil ?_
        refine gk_then (hK26 _ _ ?_)
        refine gc_seq fun K28 hK28 => ?_
        refine gc_draw (by kernel_rfl) ?_
        refine gd_v (.free rfl) rfl rfl (qt_field (z := 0) (off := 0) rfl rfl Tryd.underlying29 rfl (by kernel_rfl) rfl) ?_
        refine gd_v (.free rfl) rfl rfl (qt_loadB (n := 0) rfl rfl Tryd.underlying2 rfl rfl rfl) ?_
        refine gd_q (.free rfl) rfl rfl (qt_call rfl Tryd.func34 rfl (by decide) rfl (fun w M => specDec_any w _ (by first | assumption | omega) (by first | assumption | omega))) ?_
        refine gd_v (.free rfl) rfl rfl (qt_addS rfl rfl rfl (by simp only [cat_len, List.length_cons, List.length_nil]; omega)) ?_
        refine gd_v (.free rfl) rfl rfl (qt_move rfl rfl) ?_
        refine gd_v (.free rfl) rfl rfl (qt_addS rfl rfl rfl (by simp only [cat_len, List.length_cons, List.length_nil]; omega)) ?_
        refine gd_v (.free rfl) rfl rfl (qt_addS rfl rfl rfl (by simp only [cat_len, List.length_cons, List.length_nil]; omega)) ?_
        refine gd_v (.free rfl) rfl rfl (qt_field (z := 0) (off := 3) rfl rfl Tryd.underlying29 rfl (by kernel_rfl) rfl) ?_
        refine gd_v (.free rfl) rfl rfl (qt_loadB (n := 0) rfl rfl Tryd.underlying22 rfl rfl rfl) ?_
        refine gd_q (.free rfl) rfl rfl (qt_call rfl Tryd.func42 rfl (by decide) rfl (fun w M => specList_any w _ _ (mem_rd M h3) (idsP hS) (by first | assumption | omega))) ?_
        refine gd_v (.free rfl) rfl rfl (qt_addS rfl rfl rfl (by simp only [cat_len, List.length_cons, List.length_nil]; omega)) ?_
        refine gd_v (.free rfl) rfl rfl (qt_addS rfl rfl rfl (by simp only [cat_len, List.length_cons, List.length_nil]; omega)) ?_
        refine gd_v (.free rfl) rfl rfl (qt_move rfl rfl) ?_
        refine gd_v (.free rfl) rfl rfl (qt_addS rfl rfl rfl (by simp only [cat_len, List.length_cons, List.length_nil]; omega)) ?_
        refine gd_v (.free rfl) rfl rfl (qt_assign rfl rfl) ?_
        refine gd_nil ?_
        refine gk_then (hK28 _ _ ?_)
        refine gc_ret ?_
        refine ret_1 rfl rfl  (fun w M => ?_)
        have e1 : arrS c = [32, 45] := if_pos hc3; have e2 : comS c = [32, 45] := if_pos hc4; rw [← textT_S, e1, e2]; exact ⟨rfl, M.1⟩
      · try simp only [decide_eq_true_eq, decide_eq_false_iff_not, Bool.not_eq_true', Bool.not_eq_false', Bool.not_eq_eq_eq_not, Bool.not_true, Bool.not_false, ne_eq, Decidable.not_not, Classical.not_not] at hc4
        refine gc_skip ?_
        refine gk_then (hK26 _ _ ?_)
        refine gc_seq fun K29 hK29 => ?_
        refine gc_draw (by kernel_rfl) ?_
        refine gd_v (.free rfl) rfl rfl (qt_field (z := 0) (off := 0) rfl rfl Tryd.underlying29 rfl (by kernel_rfl) rfl) ?_
        refine gd_v (.free rfl) rfl rfl (qt_loadB (n := 0) rfl rfl Tryd.underlying2 rfl rfl rfl) ?_
        refine gd_q (.free rfl) rfl rfl (qt_call rfl Tryd.func34 rfl (by decide) rfl (fun w M => specDec_any w _ (by first | assumption | omega) (by first | assumption | omega))) ?_
        refine gd_v (.free rfl) rfl rfl (qt_addS rfl rfl rfl (by simp only [cat_len, List.length_cons, List.length_nil]; omega)) ?_
        refine gd_v (.free rfl) rfl rfl (qt_move rfl rfl) ?_
        refine gd_v (.free rfl) rfl rfl (qt_addS rfl rfl rfl (by simp only [cat_len, List.length_cons, List.length_nil]; omega)) ?_
        refine gd_v (.free rfl) rfl rfl (qt_addS rfl rfl rfl (by simp only [cat_len, List.length_cons, List.length_nil]; omega)) ?_
        refine gd_v (.free rfl) rfl rfl (qt_field (z := 0) (off := 3) rfl rfl Tryd.underlying29 rfl (by kernel_rfl) rfl) ?_
        refine gd_v (.free rfl) rfl rfl (qt_loadB (n := 0) rfl rfl Tryd.underlying22 rfl rfl rfl) ?_
        refine gd_q (.free rfl) rfl rfl (qt_call rfl Tryd.func42 rfl (by decide) rfl (fun w M => specList_any w _ _ (mem_rd M h3) (idsP hS) (by first | assumption | omega))) ?_
        refine gd_v (.free rfl) rfl rfl (qt_addS rfl rfl rfl (by simp only [cat_len, List.length_cons, List.length_nil]; omega)) ?_
        refine gd_v (.free rfl) rfl rfl (qt_addS rfl rfl rfl (by simp only [cat_len, List.length_cons, List.length_nil]; omega)) ?_
        refine gd_v (.free rfl) rfl rfl (qt_move rfl rfl) ?_
        refine gd_v (.free rfl) rfl rfl (qt_addS rfl rfl rfl (by simp only [cat_len, List.length_cons, List.length_nil]; omega)) ?_
        refine gd_v (.free rfl) rfl rfl (qt_assign rfl rfl) ?_
        refine gd_nil ?_
        refine gk_then (hK29 _ _ ?_)
        refine gc_ret ?_
        refine ret_1 rfl rfl  (fun w M => ?_)
        have e1 : arrS c = [32, 45] := if_pos hc3; have e2 : comS c = spC c c.s.length := if_neg hc4; rw [← textT_S, e1, e2]; exact ⟨rfl, M.1⟩
    · try simp only [decide_eq_true_eq, decide_eq_false_iff_not, Bool.not_eq_true', Bool.not_eq_false', Bool.not_eq_eq_eq_not, Bool.not_true, Bool.not_false, ne_eq, Decidable.not_not, Classical.not_not] at hc3
      refine gc_skip ?_
      refine gk_then (hK24 _ _ ?_)
      refine gc_seq fun K30 hK30 => ?_
      refine gc_seq fun K31 hK31 => ?_
      refine gc_region ?_
      refine g_v (.free rfl) rfl rfl (qt_move rfl rfl) ?_
      refine g_v (.free rfl) rfl rfl (qt_eqS rfl rfl rfl) ?_
      refine g_nil ?_
      refine gk_then (hK31 _ _ ?_)
      refine gc_cond rfl (fun hc5 => ?_) (fun hc5 => ?_)
      · try simp only [decide_eq_true_eq, decide_eq_false_iff_not, Bool.not_eq_true', Bool.not_eq_false', Bool.not_eq_eq_eq_not, Bool.not_true, Bool.not_false, ne_eq, Decidable.not_not, Classical.not_not] at hc5
        refine gc_region ?_
        refine g_v (.free rfl) rfl rfl (qt_assign rfl rfl) ?_
        refine g_nil ?_
        refine gk_then (hK30 _ _ ?_)
        refine gc_seq fun K32 hK32 => ?_
        refine gc_draw (by kernel_rfl) ?_
        refine gd_v (.free rfl) rfl rfl (qt_field (z := 0) (off := 0) rfl rfl Tryd.underlying29 rfl (by kernel_rfl) rfl) ?_
        refine gd_v (.free rfl) rfl rfl (qt_loadB (n := 0) rfl rfl Tryd.underlying2 rfl rfl rfl) ?_
        refine gd_q (.free rfl) rfl rfl (qt_call rfl Tryd.func34 rfl (by decide) rfl (fun w M => specDec_any w _ (by first | assumption | omega) (by first | assumption | omega))) ?_
        refine gd_v (.free rfl) rfl rfl (qt_addS rfl rfl rfl (by simp only [cat_len, List.length_cons, List.length_nil]; omega)) ?_
        refine gd_v (.free rfl) rfl rfl (qt_move rfl rfl) ?_
        refine gd_v (.free rfl) rfl rfl (qt_addS rfl rfl rfl (by simp only [cat_len, List.length_cons, List.length_nil]; omega)) ?_
        refine gd_v (.free rfl) rfl rfl (qt_addS rfl rfl rfl (by simp only [cat_len, List.length_cons, List.length_nil]; omega)) ?_
        refine gd_v (.free rfl) rfl rfl (qt_field (z := 0) (off := 3) rfl rfl Tryd.underlying29 rfl (by kernel_rfl) rfl) ?_
        refine gd_v (.free rfl) rfl rfl (qt_loadB (n := 0) rfl rfl Tryd.underlying22 rfl rfl rfl) ?_
        refine gd_q (.free rfl) rfl rfl (qt_call rfl Tryd.func42 rfl (by decide) rfl (fun w M => specList_any w _ _ (mem_rd M h3) (idsP hS) (by first | assumption | omega))) ?_
        refine gd_v (.free rfl) rfl rfl (qt_addS rfl rfl rfl (by simp only [cat_len, List.length_cons, List.length_nil]; omega)) ?_
        refine gd_v (.free rfl) rfl rfl (qt_addS rfl rfl rfl (by simp only [cat_len, List.length_cons, List.length_nil]; omega)) ?_
        refine gd_v (.free rfl) rfl rfl (qt_move rfl rfl) ?_
        refine gd_v (.free rfl) rfl rfl (qt_addS rfl rfl rfl (by simp only [cat_len, List.length_cons, List.length_nil]; omega)) ?_
        refine gd_v (.free rfl) rfl rfl (qt_assign rfl rfl) ?_
        refine gd_nil ?_
        refine gk_then (hK32 _ _ ?_)
        refine gc_ret ?_
        refine ret_1 rfl rfl  (fun w M => ?_)
        have e1 : arrS c = spE c c.s.length := if_neg hc3; have e2 : comS c = [32, 45] := if_pos hc5; rw [← textT_S, e1, e2]; exact ⟨rfl, M.1⟩
      · try simp only [decide_eq_true_eq, decide_eq_false_iff_not, Bool.not_eq_true', Bool.not_eq_false', Bool.not_eq_eq_eq_not, Bool.not_true, Bool.not_false, ne_eq, Decidable.not_not, Classical.not_not] at hc5
        refine gc_skip ?_
        refine gk_then (hK30 _ _ ?_)
        refine gc_seq fun K33 hK33 => ?_
        refine gc_draw (by kernel_rfl) ?_
        refine gd_v (.free rfl) rfl rfl (qt_field (z := 0) (off := 0) rfl rfl Tryd.underlying29 rfl (by kernel_rfl) rfl) ?_
        refine gd_v (.free rfl) rfl rfl (qt_loadB (n := 0) rfl rfl Tryd.underlying2 rfl rfl rfl) ?_
        refine gd_q (.free rfl) rfl rfl (qt_call rfl Tryd.func34 rfl (by decide) rfl (fun w M => specDec_any w _ (by first | assumption | omega) (by first | assumption | omega))) ?_
        refine gd_v (.free rfl) rfl rfl (qt_addS rfl rfl rfl (by simp only [cat_len, List.length_cons, List.length_nil]; omega)) ?_
        refine gd_v (.free rfl) rfl rfl (qt_move rfl rfl) ?_
        refine gd_v (.free rfl) rfl rfl (qt_addS rfl rfl rfl (by simp only [cat_len, List.length_cons, List.length_nil]; omega)) ?_
        refine gd_v (.free rfl) rfl rfl (qt_addS rfl rfl rfl (by simp only [cat_len, List.length_cons, List.length_nil]; omega)) ?_
        refine gd_v (.free rfl) rfl rfl (qt_field (z := 0) (off := 3) rfl rfl Tryd.underlying29 rfl (by kernel_rfl) rfl) ?_
        refine gd_v (.free rfl) rfl rfl (qt_loadB (n := 0) rfl rfl Tryd.underlying22 rfl rfl rfl) ?_
        refine gd_q (.free rfl) rfl rfl (qt_call rfl Tryd.func42 rfl (by decide) rfl (fun w M => specList_any w _ _ (mem_rd M h3) (idsP hS) (by first | assumption | omega))) ?_
        refine gd_v (.free rfl) rfl rfl (qt_addS rfl rfl rfl (by simp only [cat_len, List.length_cons, List.length_nil]; omega)) ?_
        refine gd_v (.free rfl) rfl rfl (qt_addS rfl rfl rfl (by simp only [cat_len, List.length_cons, List.length_nil]; omega)) ?_
        refine gd_v (.free rfl) rfl rfl (qt_move rfl rfl) ?_
        refine gd_v (.free rfl) rfl rfl (qt_addS rfl rfl rfl (by simp only [cat_len, List.length_cons, List.length_nil]; omega)) ?_
        refine gd_v (.free rfl) rfl rfl (qt_assign rfl rfl) ?_
        refine gd_nil ?_
        refine gk_then (hK33 _ _ ?_)
        refine gc_ret ?_
        refine ret_1 rfl rfl  (fun w M => ?_)
        have e1 : arrS c = spE c c.s.length := if_neg hc3; have e2 : comS c = spC c c.s.length := if_neg hc5; rw [← textT_S, e1, e2]; exact ⟨rfl, M.1⟩

set_option maxHeartbeats 1000000 in
set_option maxRecDepth 100000 in
theorem spec_CategoryText (w : World) (v : Value) (c : Cat) (h : RdC w v c) :
    Calls Tryd.prog 7 #[v] w (RetSI w (fCategoryText c).1 (fCategoryText c).2) := by
  have h0 := h
  obtain ⟨va, vb, vc, vd, ve, vf, vg, vh, rfl, h1, h2, h3, h4, _⟩ := h.lists
  go_enter Tryd.func7, Tryd.ntmps7
  refine gc_enter (N := 9) rfl (look_cons (k := 0) rfl (look_nil _)) ?_
  refine gc_seq fun K1 hK1 => ?_
  refine gc_region ?_
  refine g_op (.free rfl) fun K3 hK3 => ?_
  refine go_box rfl rfl rfl rfl rfl ?_
  intro B2
  refine hK3 _ _ ?_
  refine g_v (.free rfl) rfl rfl (qt_assign rfl rfl) ?_
  refine g_v (.free rfl) rfl rfl (qt_assign rfl rfl) ?_
  refine g_nil ?_
  refine gk_then (hK1 _ _ ?_)
  refine gc_seq fun K4 hK4 => ?_
  refine gc_seq fun K5 hK5 => ?_
  refine gc_region ?_
  refine g_v (.free rfl) rfl rfl (qt_loadS (n := 0) rfl rfl Tryd.underlying29 rfl (by kernel_rfl) rfl) ?_
  refine g_q (.free rfl) rfl rfl (qt_call rfl Tryd.func20 rfl (by decide) rfl (fun w M => specIs_any w _ _ (mem_rdC M h0))) ?_
  refine g_v (.free rfl) rfl rfl (qt_not rfl rfl) ?_
  refine g_nil ?_
  refine gk_then (hK5 _ _ ?_)
  refine gc_cond rfl (fun hc0 => ?_) (fun hc0 => ?_)
  · try simp only [decide_eq_true_eq, decide_eq_false_iff_not, Bool.not_eq_true', Bool.not_eq_false', Bool.not_eq_eq_eq_not, Bool.not_true, Bool.not_false, ne_eq, Decidable.not_not, Classical.not_not] at hc0
    refine gc_seq fun K6 hK6 => ?_
    refine gc_region ?_
    refine g_v (.free rfl) rfl rfl (qt_assign rfl rfl) ?_
    refine g_v (.free rfl) rfl rfl (qt_assign rfl rfl) ?_
    refine g_nil ?_
    refine gk_then (hK6 _ _ ?_)
    refine gc_ret ?_
    refine gk_then_ret ?_
    refine ret_2 rfl rfl rfl  (fun w M => ?_)
    rw [text_f hc0]; exact ⟨rfl, M.1⟩
  · try simp only [decide_eq_true_eq, decide_eq_false_iff_not, Bool.not_eq_true', Bool.not_eq_false', Bool.not_eq_eq_eq_not, Bool.not_true, Bool.not_false, ne_eq, Decidable.not_not, Classical.not_not] at hc0
    refine gc_skip ?_
    refine gk_then (hK4 _ _ ?_)
    refine gc_seq fun K7 hK7 => ?_
    refine gc_region ?_
    refine g_v (.free rfl) rfl rfl (qt_loadS (n := 0) rfl rfl Tryd.underlying29 rfl (by kernel_rfl) rfl) ?_
    refine g_q (.free rfl) rfl rfl (qt_call rfl Tryd.func21 rfl (by decide) rfl (fun w M => specText_any w _ _ (mem_rdC M h0) (isCat_of hc0).toShapeP)) ?_
    refine g_v (.free rfl) rfl rfl (qt_assign rfl rfl) ?_
    refine g_v (.free rfl) rfl rfl (qt_assign rfl rfl) ?_
    refine g_nil ?_
    refine gk_then (hK7 _ _ ?_)
    refine gc_ret ?_
    refine ret_2 rfl rfl rfl  (fun w M => ?_)
    rw [text_t hc0]; exact ⟨rfl, M.1⟩

set_option maxHeartbeats 1000000 in
set_option maxRecDepth 100000 in
theorem impl_CategoryText (w : World) (v : Value) (c : Cat) (h : RdC w v c) :
    Calls Tryd.prog 9 #[v] w (RetSI w (fCategoryText c).1 (fCategoryText c).2) := by
  have h0 := h
  obtain ⟨va, vb, vc, vd, ve, vf, vg, vh, rfl, h1, h2, h3, h4, _⟩ := h.lists
  go_enter Tryd.func9, Tryd.ntmps9
  refine gc_enter (N := 16) rfl (look_cons (k := 0) rfl (look_nil _)) ?_
  refine gc_seq fun K1 hK1 => ?_
  refine gc_region ?_
  refine g_op (.free rfl) fun K3 hK3 => ?_
  refine go_box rfl rfl rfl rfl rfl ?_
  intro B2
  refine hK3 _ _ ?_
  refine g_v (.free rfl) rfl rfl (qt_assign rfl rfl) ?_
  refine g_v (.free rfl) rfl rfl (qt_assign rfl rfl) ?_
  refine g_nil ?_
  refine gk_then (hK1 _ _ ?_)
  refine gc_seq fun K4 hK4 => ?_
  refine gc_region ?_
  refine g_v (.free rfl) rfl rfl (qt_loadS (n := 0) rfl rfl Tryd.underlying29 rfl (by kernel_rfl) rfl) ?_
  refine g_op (.free rfl) fun K6 hK6 => ?_
  refine go_callCI rfl rfl rfl Tryd.func24 rfl (by decide) rfl (fun w M => readCat_any w _ _ (mem_rdC M h0)) ?_
  intro ca5 cb5 cc5 cd5 ce5 cf5 cg5 ch5 cu5
  refine hK6 _ _ ?_
  refine g_v (.free rfl) rfl rfl (qt_move rfl rfl) ?_
  refine g_v (.free rfl) rfl rfl (qt_extract rfl rfl rfl) ?_
  refine g_v (.free rfl) rfl rfl (qt_extract rfl rfl rfl) ?_
  refine g_op (.free rfl) fun K8 hK8 => ?_
  refine go_alloc (z := (.agg #[.int .i64 0, .slice none 0 0, .slice none 0 0, .slice none 0 0, .slice none 0 0])) (cs := [.int .i64 0, .slice none 0 0, .slice none 0 0, .slice none 0 0, .slice none 0 0]) rfl rfl rfl (fun w => by kernel_rfl) rfl ?_
  intro B7
  refine hK8 _ _ ?_
  refine g_op (.free rfl) fun K9 hK9 => ?_
  refine go_storeS (n := 5) rfl rfl rfl rfl (by kernel_rfl) rfl rfl rfl ?_
  refine hK9 _ _ ?_
  refine g_v (.free rfl) rfl rfl (qt_assign rfl rfl) ?_
  refine g_nil ?_
  refine gk_then (hK4 _ _ ?_)
  refine gc_seq fun K10 hK10 => ?_
  refine gc_seq fun K11 hK11 => ?_
  refine gc_region ?_
  refine g_v (.free rfl) rfl rfl (qt_move rfl rfl) ?_
  refine g_v (.free rfl) rfl rfl (qt_neq rfl rfl rfl) ?_
  refine g_nil ?_
  refine gk_then (hK11 _ _ ?_)
  refine gc_cond rfl (fun hc0 => ?_) (fun hc0 => ?_)
  · try simp only [decide_eq_true_eq, decide_eq_false_iff_not, Bool.not_eq_true', Bool.not_eq_false', Bool.not_eq_eq_eq_not, Bool.not_true, Bool.not_false, ne_eq, Decidable.not_not, Classical.not_not] at hc0
    refine gc_seq fun K12 hK12 => ?_
    refine gc_region ?_
    refine g_v (.free rfl) rfl rfl (qt_move rfl rfl) ?_
    refine g_v (.free rfl) rfl rfl (qt_assign rfl rfl) ?_
    refine g_v (.free rfl) rfl rfl (qt_assign rfl rfl) ?_
    refine g_nil ?_
    refine gk_then (hK12 _ _ ?_)
    refine gc_ret ?_
    refine gk_then_ret ?_
    refine ret_2 rfl rfl rfl  (fun w M => ?_)
    rw [(catErr_n hc0).2, text_f (catErr_n hc0).1]; exact ⟨rfl, M.1⟩
  · try simp only [decide_eq_true_eq, decide_eq_false_iff_not, Bool.not_eq_true', Bool.not_eq_false', Bool.not_eq_eq_eq_not, Bool.not_true, Bool.not_false, ne_eq, Decidable.not_not, Classical.not_not] at hc0
    refine gc_skip ?_
    refine gk_then (hK10 _ _ ?_)
    refine gc_seq fun K13 hK13 => ?_
    have hI := catErr_0 hc0
    simp only [catCat_t hc0]
    refine gc_region ?_
    refine g_v (.free rfl) rfl rfl (qt_loadS (n := 5) rfl rfl Tryd.underlying29 rfl (by kernel_rfl) rfl) ?_
    refine g_q (.free rfl) rfl rfl (qt_call rfl Tryd.func25 rfl (by decide) rfl (fun w M => text_any w _ _ (rdC_mk ((mem_own1 (n := 1) M rfl).rd) ((mem_own1 (n := 2) M rfl).rd) ((mem_own1 (n := 3) M rfl).rd) (mem_rdU (n := 4) M rfl)) (isCat_of hI).toShapeP)) ?_
    refine g_v (.free rfl) rfl rfl (qt_assign rfl rfl) ?_
    refine g_v (.free rfl) rfl rfl (qt_assign rfl rfl) ?_
    refine g_nil ?_
    refine gk_then (hK13 _ _ ?_)
    refine gc_ret ?_
    refine ret_2 rfl rfl rfl  (fun w M => ?_)
    rw [text_t hI]; exact ⟨rfl, M.1⟩

end Go.Proofs.YtelbjdbefaffpaaDoor
