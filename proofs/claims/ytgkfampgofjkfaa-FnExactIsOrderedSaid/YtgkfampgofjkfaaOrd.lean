
/- Ordered categories: both sides. -/
import Derived.Test.YtgkfampgofjkfaaEli
import Derived.Test.YtgkfampgofjkfaaIrr
import Derived.Test.YtgkfampgofjkfaaPathB
set_option linter.unusedSimpArgs false
set_option linter.unusedVariables false
set_option linter.unusedSectionVars false
namespace Go.Proofs.Ytgkfampgofjkfaa
open Go.RowKit


def cmpI (x y : Int) : Int := if x < y then -1 else if y < x then 1 else 0
def orL : List Int → Int
  | [] => 0
  | x :: l => if x = 0 then orL l else x
theorem orL_t {xs : List Int} {k : Nat} (hk : k < xs.length) (h : ¬ xs.getD k 0 = 0) : orL (xs.drop k) = xs.getD k 0 := by
  have e : xs.getD k 0 = xs[k] := by simp [List.getD_eq_getElem?_getD, List.getElem?_eq_getElem hk]
  rw [e] at h ⊢
  rw [List.drop_eq_getElem_cons hk]
  exact if_neg h
theorem orL_f {xs : List Int} {k : Nat} (hk : k < xs.length) (h : xs.getD k 0 = 0) : orL (xs.drop k) = orL (xs.drop (k + 1)) := by
  have e : xs.getD k 0 = xs[k] := by simp [List.getD_eq_getElem?_getD, List.getElem?_eq_getElem hk]
  rw [e] at h
  rw [List.drop_eq_getElem_cons hk]
  exact if_pos h
theorem cmpI_cases (x y : Int) : (x < y ∧ cmpI x y = -1) ∨ (y < x ∧ cmpI x y = 1) ∨ (x = y ∧ cmpI x y = 0) := by
  unfold cmpI
  by_cases h1 : x < y
  · exact .inl ⟨h1, if_pos h1⟩
  · by_cases h2 : y < x
    · exact .inr (.inl ⟨h2, by rw [if_neg h1, if_pos h2]⟩)
    · exact .inr (.inr ⟨by omega, by rw [if_neg h1, if_neg h2]⟩)
theorem cmp_less (a b c d : Int) : 0 < orL [cmpI a c, cmpI b d] ↔ lessL [c, d] [a, b] = true := by
  rw [show orL [cmpI a c, cmpI b d] = if cmpI a c = 0 then (if cmpI b d = 0 then 0 else cmpI b d) else cmpI a c from rfl, show lessL [c, d] [a, b] = if c = a then (if d = b then lessL [] [] else decide (d < b)) else decide (c < a) from rfl]
  rcases cmpI_cases a c with ⟨h, e⟩ | ⟨h, e⟩ | ⟨h, e⟩
  · rw [e, if_neg (by decide), if_neg (by omega), decide_eq_true_eq]; omega
  · rw [e, if_neg (by decide), if_neg (by omega), decide_eq_true_eq]; omega
  · rw [e, if_pos rfl, if_pos h.symm]
    rcases cmpI_cases b d with ⟨h', e'⟩ | ⟨h', e'⟩ | ⟨h', e'⟩
    · rw [e', if_neg (by decide), if_neg (by omega), decide_eq_true_eq]; omega
    · rw [e', if_neg (by decide), if_neg (by omega), decide_eq_true_eq]; omega
    · rw [e', if_pos rfl, if_pos h'.symm]
      exact ⟨fun h => absurd h (by decide), fun h => absurd h (by decide)⟩
def backP (c : Cat) (f : Nat) : Prop := lessL [at0 c.s (f : Int), at0 c.t (f : Int)] [at0 c.s ((f : Int) - 1), at0 c.t ((f : Int) - 1)] = true
def fwdTo (c : Cat) (k : Nat) : Prop := ∀ f : Nat, 1 ≤ f → f < k → ¬ backP c f
def topTo (c : Cat) (k : Nat) : Prop := ∀ x : Nat, x < k → at0 (homTo c (x : Int) (x : Int) c.s.length) 0 = at0 c.e (x : Int)
def ordP (c : Cat) : Prop := fwdTo c c.s.length ∧ topTo c c.e.length
theorem fwd_one (c : Cat) : fwdTo c 1 := fun f h1 h2 => absurd h2 (by omega)
theorem fwd_next {c : Cat} {k : Nat} (h : fwdTo c k) (hn : ¬ backP c k) : fwdTo c (k + 1) := fun f h1 h2 => by
  rcases Nat.lt_or_ge f k with h3 | h3
  · exact h f h1 h3
  · obtain rfl : f = k := by omega
    exact hn
theorem top_zero (c : Cat) : topTo c 0 := fun x h => absurd h (by omega)
theorem top_next {c : Cat} {k : Nat} (h : topTo c k) (hn : at0 (homTo c (k : Int) (k : Int) c.s.length) 0 = at0 c.e (k : Int)) : topTo c (k + 1) := fun x h2 => by
  rcases Nat.lt_or_ge x k with h3 | h3
  · exact h x h3
  · obtain rfl : x = k := by omega
    exact hn
theorem fwd_end {c : Cat} {k : Nat} (h : fwdTo c k) (hk : c.s.length ≤ k) : fwdTo c c.s.length := fun f h1 h2 => h f h1 (by omega)
theorem ord_n1 {c : Cat} {k : Nat} (h1 : 1 ≤ k) (h2 : k < c.s.length) (hb : backP c k) : ¬ ordP c := fun h => h.1 k h1 h2 hb
theorem ord_n2 {c : Cat} {k : Nat} (h2 : k < c.e.length) (hb : ¬ at0 (homTo c (k : Int) (k : Int) c.s.length) 0 = at0 c.e (k : Int)) : ¬ ordP c := fun h => hb (h.2 k h2)
theorem hom_pos {c : Cat} (hS : ShapeP c) {x : Nat} (hx : x < c.e.length) : 0 < (homTo c (x : Int) (x : Int) c.s.length).length := by
  have h := hS.id x hx
  have ha := h.1
  obtain ⟨j, hj⟩ := Int.eq_ofNat_of_zero_le ha.1
  have hm : at0 c.e (x : Int) ∈ homTo c (x : Int) (x : Int) c.s.length := mem_homTo.2 ⟨j, by have := ha.2; omega, hj, by rw [← hj]; exact h.2.1, by rw [← hj]; exact h.2.2⟩
  exact List.length_pos_of_mem hm
noncomputable def fIsOrdered (c : Cat) : Bool × Int := if fIsCategory c = true then (bP (ordP c), 0) else (false, 1)
theorem ordd_f {c : Cat} (h : fIsCategory c = false) : fIsOrdered c = (false, 1) := if_neg (by rw [h]; decide)
theorem ordd_t {c : Cat} (h : fIsCategory c = true) : fIsOrdered c = (bP (ordP c), 0) := if_pos h

set_option maxHeartbeats 1000000 in
set_option maxRecDepth 100000 in
theorem isNaN_any (w : World) (x : Int) :
    Calls Try.prog 107 #[.int .i64 x] w (RetB w false) := by
  go_enter Try.func107, Try.ntmps107
  refine gc_enter (N := 6) rfl (look_cons (k := 0) rfl (look_nil _)) ?_
  refine gc_seq fun K1 hK1 => ?_
  refine gc_region ?_
  refine g_v (.free rfl) rfl rfl (qt_assign rfl rfl) ?_
  refine g_nil ?_
  refine gk_then (hK1 _ _ ?_)
  refine gc_seq fun K2 hK2 => ?_
  refine gc_region ?_
  refine g_v (.free rfl) rfl rfl (qt_move rfl rfl) ?_
  refine g_v (.free rfl) rfl rfl (qt_move rfl rfl) ?_
  refine g_v (.free rfl) rfl rfl (qt_neq rfl rfl rfl) ?_
  refine g_v (.free rfl) rfl rfl (qt_assign rfl rfl) ?_
  refine g_nil ?_
  refine gk_then (hK2 _ _ ?_)
  refine gc_ret ?_
  refine ret_1 rfl rfl  (fun w M => ?_)
  rw [show decide (¬ x = x) = false from by simp]; exact ⟨rfl, M.1⟩

set_option maxHeartbeats 1000000 in
set_option maxRecDepth 100000 in
theorem cmpI_any (w : World) (x y : Int) :
    Calls Try.prog 97 #[.int .i64 x, .int .i64 y] w (RetI w (cmpI x y)) := by
  go_enter Try.func97, Try.ntmps97
  refine gc_enter (N := 20) rfl (look_cons (k := 0) rfl (look_cons (k := 1) rfl (look_nil _))) ?_
  refine gc_seq fun K1 hK1 => ?_
  refine gc_region ?_
  refine g_v (.free rfl) rfl rfl (qt_assign rfl rfl) ?_
  refine g_nil ?_
  refine gk_then (hK1 _ _ ?_)
  refine gc_seq fun K2 hK2 => ?_
  refine gc_region ?_
  refine g_v (.free rfl) rfl rfl (qt_move rfl rfl) ?_
  refine g_q (.free rfl) rfl rfl (qt_call rfl Try.func107 rfl (by decide) rfl (fun w M => isNaN_any w _)) ?_
  refine g_v (.free rfl) rfl rfl (qt_assign rfl rfl) ?_
  refine g_nil ?_
  refine gk_then (hK2 _ _ ?_)
  refine gc_seq fun K3 hK3 => ?_
  refine gc_region ?_
  refine g_v (.free rfl) rfl rfl (qt_move rfl rfl) ?_
  refine g_q (.free rfl) rfl rfl (qt_call rfl Try.func107 rfl (by decide) rfl (fun w M => isNaN_any w _)) ?_
  refine g_v (.free rfl) rfl rfl (qt_assign rfl rfl) ?_
  refine g_nil ?_
  refine gk_then (hK3 _ _ ?_)
  refine gc_seq fun K4 hK4 => ?_
  refine gc_seq fun K5 hK5 => ?_
  refine gc_region ?_
  refine g_v (.free rfl) rfl rfl (qt_move rfl rfl) ?_
  refine g_nil ?_
  refine gk_then (hK5 _ _ ?_)
  refine gc_cond_f rfl ?_
  refine gc_skip ?_
  refine gk_then (hK4 _ _ ?_)
  refine gc_seq fun K6 hK6 => ?_
  refine gc_seq fun K7 hK7 => ?_
  refine gc_region ?_
  refine g_v (.free rfl) rfl rfl (qt_move rfl rfl) ?_
  refine g_nil ?_
  refine gk_then (hK7 _ _ ?_)
  refine gc_cond_f rfl ?_
  refine gc_skip ?_
  refine gk_then (hK6 _ _ ?_)
  refine gc_seq fun K8 hK8 => ?_
  refine gc_seq fun K9 hK9 => ?_
  refine gc_region ?_
  refine g_v (.free rfl) rfl rfl (qt_move rfl rfl) ?_
  refine g_v (.free rfl) rfl rfl (qt_move rfl rfl) ?_
  refine g_v (.free rfl) rfl rfl (qt_lss rfl rfl rfl) ?_
  refine g_nil ?_
  refine gk_then (hK9 _ _ ?_)
  refine gc_cond rfl (fun hc0 => ?_) (fun hc0 => ?_)
  · try simp only [decide_eq_true_eq, decide_eq_false_iff_not, Bool.not_eq_true', Bool.not_eq_false', Bool.not_eq_eq_eq_not, Bool.not_true, Bool.not_false, ne_eq, Decidable.not_not, Classical.not_not] at hc0
    refine gc_seq fun K10 hK10 => ?_
    refine gc_region ?_
    refine g_v (.free rfl) rfl rfl (qt_assign rfl rfl) ?_
    refine g_nil ?_
    refine gk_then (hK10 _ _ ?_)
    refine gc_ret ?_
    refine gk_then_ret ?_
    refine ret_1 rfl rfl  (fun w M => ?_)
    unfold cmpI; rw [if_pos hc0]; exact ⟨rfl, M.1⟩
  · try simp only [decide_eq_true_eq, decide_eq_false_iff_not, Bool.not_eq_true', Bool.not_eq_false', Bool.not_eq_eq_eq_not, Bool.not_true, Bool.not_false, ne_eq, Decidable.not_not, Classical.not_not] at hc0
    refine gc_skip ?_
    refine gk_then (hK8 _ _ ?_)
    refine gc_seq fun K11 hK11 => ?_
    refine gc_seq fun K12 hK12 => ?_
    refine gc_region ?_
    refine g_v (.free rfl) rfl rfl (qt_move rfl rfl) ?_
    refine g_v (.free rfl) rfl rfl (qt_move rfl rfl) ?_
    refine g_v (.free rfl) rfl rfl (qt_gtr rfl rfl rfl) ?_
    refine g_nil ?_
    refine gk_then (hK12 _ _ ?_)
    refine gc_cond rfl (fun hc1 => ?_) (fun hc1 => ?_)
    · try simp only [decide_eq_true_eq, decide_eq_false_iff_not, Bool.not_eq_true', Bool.not_eq_false', Bool.not_eq_eq_eq_not, Bool.not_true, Bool.not_false, ne_eq, Decidable.not_not, Classical.not_not] at hc1
      refine gc_seq fun K13 hK13 => ?_
      refine gc_region ?_
      refine g_v (.free rfl) rfl rfl (qt_assign rfl rfl) ?_
      refine g_nil ?_
      refine gk_then (hK13 _ _ ?_)
      refine gc_ret ?_
      refine gk_then_ret ?_
      refine ret_1 rfl rfl  (fun w M => ?_)
      unfold cmpI; rw [if_neg hc0, if_pos hc1]; exact ⟨rfl, M.1⟩
    · try simp only [decide_eq_true_eq, decide_eq_false_iff_not, Bool.not_eq_true', Bool.not_eq_false', Bool.not_eq_eq_eq_not, Bool.not_true, Bool.not_false, ne_eq, Decidable.not_not, Classical.not_not] at hc1
      refine gc_skip ?_
      refine gk_then (hK11 _ _ ?_)
      refine gc_seq fun K14 hK14 => ?_
      refine gc_region ?_
      refine g_v (.free rfl) rfl rfl (qt_assign rfl rfl) ?_
      refine g_nil ?_
      refine gk_then (hK14 _ _ ?_)
      refine gc_ret ?_
      refine ret_1 rfl rfl  (fun w M => ?_)
      unfold cmpI; rw [if_neg hc0, if_neg hc1]; exact ⟨rfl, M.1⟩

set_option maxHeartbeats 1000000 in
set_option maxRecDepth 100000 in
theorem orL_any (w : World) (v : Value) (xs : List Int) (h : RdG elN w v xs) :
    Calls Try.prog 96 #[v] w (RetI w (orL xs)) := by
  have hxl := rdG_len h
  obtain ⟨va, vc, rfl⟩ := rdG_form h
  go_enter Try.func96, Try.ntmps96
  refine gc_enter (N := 18) rfl (look_cons (k := 0) rfl (look_nil _)) ?_
  refine gc_seq fun K1 hK1 => ?_
  refine gc_region ?_
  refine g_v (.free rfl) rfl rfl (qt_assign rfl rfl) ?_
  refine g_nil ?_
  refine gk_then (hK1 _ _ ?_)
  refine gc_seq fun K2 hK2 => ?_
  refine gc_region ?_
  refine g_v (.free rfl) rfl rfl (qt_assign rfl rfl) ?_
  refine g_nil ?_
  refine gk_then (hK2 _ _ ?_)
  refine gc_seq fun K3 hK3 => ?_
  refine gc_seq fun K4 hK4 => ?_
  refine gc_region ?_
  refine g_v (.free rfl) rfl rfl (qt_move rfl rfl) ?_
  refine g_v (.free rfl) rfl rfl (qt_len rfl rfl ul_elN (fun w M => lenV_G (mem_rdG M h))) ?_
  refine g_v (.free rfl) rfl rfl (qt_move rfl rfl) ?_
  refine g_nil ?_
  refine gk_then (hK4 _ _ ?_)
  refine gc_block ?_
  try simp only [List.nil_append, List.cons_append, List.append_assoc, List.set_cons_succ, List.set_cons_zero]
  refine gc_loop ([(0, _), (3, _), (6, _), (7, _)] : Env) (fun s : Nat => (fun (k : Nat) => ([(8, .int .i64 (k : Int))] : Env)) s) (fun s : Nat => (fun (k : Nat) => ([] : List (Nat × Itm))) s) (fun s : Nat => (fun (k : Nat) => k ≤ xs.length ∧ orL xs = orL (xs.drop k)) s) (fun s : Nat => (fun (k : Nat) => xs.length - k) s) (0) (sub_cons rfl (sub_cons rfl (sub_cons rfl (sub_cons rfl (sub_cons rfl sub_nil))))) rfl ⟨Nat.zero_le _, rfl⟩ ?_
  rintro k hinv KL5 hKL5
  simp only [updL, List.foldl_cons, List.foldl_nil, List.set_cons_succ, List.set_cons_zero, List.cons_append, List.nil_append] at hinv hKL5 ⊢
  obtain ⟨hk, ho⟩ := hinv
  refine gc_seq fun K6 hK6 => ?_
  refine gc_region ?_
  refine g_v (.free rfl) rfl rfl (qt_lss rfl rfl rfl) ?_
  refine g_nil ?_
  refine gk_then (hK6 _ _ ?_)
  refine gc_seq fun K7 hK7 => ?_
  refine gc_cond rfl (fun hc0 => ?_) (fun hc0 => ?_)
  · try simp only [decide_eq_true_eq, decide_eq_false_iff_not, Bool.not_eq_true', Bool.not_eq_false', Bool.not_eq_eq_eq_not, Bool.not_true, Bool.not_false, ne_eq, Decidable.not_not, Classical.not_not] at hc0
    refine gc_skip ?_
    refine gk_then (hK7 _ _ ?_)
    refine gc_seq fun K8 hK8 => ?_
    refine gc_block ?_
    refine gc_seq fun K9 hK9 => ?_
    refine gc_region ?_
    refine g_v (.free rfl) rfl rfl (qt_index rfl rfl rfl ul_elN sz_elN (fun w M => lenA_G (mem_rdG M h)) (by omega) (by omega)) ?_
    refine g_v (.free rfl) rfl rfl (qt_loadG elN rfl rfl Try.underlying3 rfl (fun w M => mem_rdG M h) (by omega) (by omega)) ?_
    refine g_v (.free rfl) rfl rfl (qt_assign rfl rfl) ?_
    refine g_nil ?_
    refine gk_then (hK9 _ _ ?_)
    refine gc_seq fun K10 hK10 => ?_
    refine gc_region ?_
    refine g_v (.free rfl) rfl rfl (qt_move rfl rfl) ?_
    refine g_v (.free rfl) rfl rfl (qt_move rfl rfl) ?_
    refine g_v (.free rfl) rfl rfl (qt_neq rfl rfl rfl) ?_
    refine g_nil ?_
    refine gk_then (hK10 _ _ ?_)
    refine gc_cond rfl (fun hc1 => ?_) (fun hc1 => ?_)
    · try simp only [decide_eq_true_eq, decide_eq_false_iff_not, Bool.not_eq_true', Bool.not_eq_false', Bool.not_eq_eq_eq_not, Bool.not_true, Bool.not_false, ne_eq, Decidable.not_not, Classical.not_not] at hc1
      refine gc_seq fun K11 hK11 => ?_
      refine gc_region ?_
      refine g_v (.free rfl) rfl rfl (qt_move rfl rfl) ?_
      refine g_v (.free rfl) rfl rfl (qt_assign rfl rfl) ?_
      refine g_nil ?_
      refine gk_then (hK11 _ _ ?_)
      refine gc_ret ?_
      refine gk_block_ret ?_
      refine gk_then_ret ?_
      refine gk_then_ret ?_
      refine gk_block_ret ?_
      refine gk_then_ret ?_
      refine ret_1 rfl rfl  (fun w M => ?_)
      rw [ho, show orL (xs.drop k) = getE elN xs (k : Int) from orL_t (by omega) hc1]; exact ⟨rfl, M.1⟩
    · try simp only [decide_eq_true_eq, decide_eq_false_iff_not, Bool.not_eq_true', Bool.not_eq_false', Bool.not_eq_eq_eq_not, Bool.not_true, Bool.not_false, ne_eq, Decidable.not_not, Classical.not_not] at hc1
      refine gc_skip ?_
      refine gk_block ?_
      refine gk_then (hK8 _ _ ?_)
      refine gc_region ?_
      refine g_v (.free rfl) rfl rfl (qt_add rfl rfl rfl (by omega)) ?_
      refine g_v (.free rfl) rfl rfl (qt_move rfl rfl) ?_
      refine g_nil ?_
      refine gk_then (gk_take 0 ?_)
      refine gk_sub ?hs_12 (hKL5 (k + 1) ?hi_12 ?hm_12)
      case hs_12 => exact (sub_cons rfl (sub_cons rfl (sub_cons rfl (sub_cons rfl (sub_cons rfl sub_nil)))))
      case hi_12 => exact ⟨by omega, by rw [ho]; exact orL_f (by omega) hc1⟩
      case hm_12 => omega
  · try simp only [decide_eq_true_eq, decide_eq_false_iff_not, Bool.not_eq_true', Bool.not_eq_false', Bool.not_eq_eq_eq_not, Bool.not_true, Bool.not_false, ne_eq, Decidable.not_not, Classical.not_not] at hc0
    refine gc_exit ?_
    refine gk_then_exit ?_
    refine gk_then_exit ?_
    refine gk_block_hit ?_
    refine gk_then (hK3 _ _ ?_)
    refine gc_seq fun K13 hK13 => ?_
    refine gc_region ?_
    refine g_v (.free rfl) rfl rfl (qt_move rfl rfl) ?_
    refine g_v (.free rfl) rfl rfl (qt_assign rfl rfl) ?_
    refine g_nil ?_
    refine gk_then (hK13 _ _ ?_)
    refine gc_ret ?_
    refine ret_1 rfl rfl  (fun w M => ?_)
    obtain rfl : k = xs.length := by omega
    rw [ho, List.drop_length]; exact ⟨rfl, M.1⟩

set_option maxHeartbeats 1000000 in
set_option maxRecDepth 100000 in
theorem compEnds_any (w : World) (a b x y : Int) :
    Calls Try.prog 77 #[.agg #[.int .i64 a, .int .i64 b], .agg #[.int .i64 x, .int .i64 y]] w (RetI w (orL [cmpI a x, cmpI b y])) := by
  go_enter Try.func77, Try.ntmps77
  refine gc_enter (N := 17) rfl (look_cons (k := 0) rfl (look_cons (k := 1) rfl (look_nil _))) ?_
  refine gc_seq fun K1 hK1 => ?_
  refine gc_region ?_
  refine g_op (.free rfl) fun K3 hK3 => ?_
  refine go_box rfl rfl rfl rfl rfl ?_
  intro B2
  refine hK3 _ _ ?_
  refine g_op (.free rfl) fun K5 hK5 => ?_
  refine go_box rfl rfl rfl rfl rfl ?_
  intro B4
  refine hK5 _ _ ?_
  refine g_v (.free rfl) rfl rfl (qt_assign rfl rfl) ?_
  refine g_nil ?_
  refine gk_then (hK1 _ _ ?_)
  refine gc_seq fun K6 hK6 => ?_
  try simp only [List.nil_append, List.cons_append, List.append_assoc, List.set_cons_succ, List.set_cons_zero]
  refine ga_start _ (fun w M => M) ?_
  refine ga_v 0 rfl (by kernel_rfl) (by kernel_rfl) (by kernel_rfl) (.free rfl) rfl rfl (qt_field (z := 0) (off := 0) rfl rfl Try.underlying84 rfl (by kernel_rfl) rfl) (fun _ _ _ h => h) ?_
  refine ga_v 1 rfl (by kernel_rfl) (by kernel_rfl) (by kernel_rfl) (.free rfl) rfl rfl (qt_loadB (n := 0) rfl rfl Try.underlying2 rfl rfl rfl) (fun _ _ _ h => h) ?_
  refine ga_v 2 rfl (by kernel_rfl) (by kernel_rfl) (by kernel_rfl) (.free rfl) rfl rfl (qt_field (z := 0) (off := 0) rfl rfl Try.underlying84 rfl (by kernel_rfl) rfl) (fun _ _ _ h => h) ?_
  refine ga_v 3 rfl (by kernel_rfl) (by kernel_rfl) (by kernel_rfl) (.free rfl) rfl rfl (qt_loadB (n := 1) rfl rfl Try.underlying2 rfl rfl rfl) (fun _ _ _ h => h) ?_
  refine ga_v 5 rfl (by kernel_rfl) (by kernel_rfl) (by kernel_rfl) (.free rfl) rfl rfl (qt_field (z := 0) (off := 1) rfl rfl Try.underlying84 rfl (by kernel_rfl) rfl) (fun _ _ _ h => h) ?_
  refine ga_v 6 rfl (by kernel_rfl) (by kernel_rfl) (by kernel_rfl) (.free rfl) rfl rfl (qt_loadB (n := 0) rfl rfl Try.underlying2 rfl rfl rfl) (fun _ _ _ h => h) ?_
  refine ga_v 7 rfl (by kernel_rfl) (by kernel_rfl) (by kernel_rfl) (.free rfl) rfl rfl (qt_field (z := 0) (off := 1) rfl rfl Try.underlying84 rfl (by kernel_rfl) rfl) (fun _ _ _ h => h) ?_
  refine ga_v 8 rfl (by kernel_rfl) (by kernel_rfl) (by kernel_rfl) (.free rfl) rfl rfl (qt_loadB (n := 1) rfl rfl Try.underlying2 rfl rfl rfl) (fun _ _ _ h => h) ?_
  refine ga_op 4 (by kernel_rfl) rfl (.free rfl) fun K7 hK7 => ?_
  refine go_q rfl rfl (qt_call rfl Try.func97 rfl (by decide) rfl (fun w M => cmpI_any w _ _)) ?_
  refine hK7 _ _ (fun w M => (mem_take 2 M :)) ?_
  refine ga_op 9 (by kernel_rfl) rfl (.free rfl) fun K8 hK8 => ?_
  refine go_q rfl rfl (qt_call rfl Try.func97 rfl (by decide) rfl (fun w M => cmpI_any w _ _)) ?_
  refine hK8 _ _ (fun w M => (mem_take 2 M :)) ?_
  refine ga_op 10 (by kernel_rfl) rfl (.free rfl) fun K10 hK10 => ?_
  refine go_sliceN2 rfl rfl rfl rfl rfl Try.underlying88 ?_
  intro B9
  refine hK10 _ _ (fun w M => (mem_take 2 M :)) ?_
  refine ga_op 11 (by kernel_rfl) rfl (.free rfl) fun K11 hK11 => ?_
  refine go_q rfl rfl (qt_call rfl Try.func96 rfl (by decide) rfl (fun w M => orL_any w _ _ (mem_ownG (n := 2) rfl M))) ?_
  refine hK11 _ _ (fun w M => (mem_take 2 M :)) ?_
  refine ga_v 12 rfl (by kernel_rfl) (by kernel_rfl) (by kernel_rfl) (.free rfl) rfl rfl (qt_assign rfl rfl) (fun _ _ _ h => h) ?_
  refine ga_done (by kernel_rfl) ?_
  refine gk_then (hK6 _ _ ?_)
  refine gc_ret ?_
  refine ret_1 rfl rfl  (fun w M => ?_)
  exact ⟨rfl, M.1⟩

set_option maxHeartbeats 1000000 in
set_option maxRecDepth 100000 in
theorem isOrd_any (w : World) (v : Value) (c : Cat) (h : RdC w v c) (hS : ShapeP c) :
    Calls Try.prog 48 #[v] w (RetB w (bP (ordP c))) := by
  have h0 := h
  obtain ⟨va, vb, vc, vd, ve, vf, vg, vh, rfl, h1, h2, h3, h4, _⟩ := h.lists
  have hn40 := hS.n40; have htl := hS.tl; have hel := hS.el; have hob0 := hS.ob0; have hob8 := hS.ob8; have hml := hS.ml
  go_enter Try.func48, Try.ntmps48
  refine gc_enter (N := 39) rfl (look_cons (k := 0) rfl (look_nil _)) ?_
  refine gc_seq fun K1 hK1 => ?_
  refine gc_region ?_
  refine g_op (.free rfl) fun K3 hK3 => ?_
  refine go_box rfl rfl rfl rfl rfl ?_
  intro B2
  refine hK3 _ _ ?_
  refine g_v (.free rfl) rfl rfl (qt_assign rfl rfl) ?_
  refine g_nil ?_
  refine gk_then (hK1 _ _ ?_)
  refine gc_seq fun K4 hK4 => ?_
  refine gc_seq fun K5 hK5 => ?_
  refine gc_region ?_
  refine g_v (.free rfl) rfl rfl (qt_assign rfl rfl) ?_
  refine g_nil ?_
  refine gk_then (hK5 _ _ ?_)
  refine gc_block ?_
  try simp only [List.nil_append, List.cons_append, List.append_assoc, List.set_cons_succ, List.set_cons_zero]
  refine gc_loop ([(0, _), (1, _)] : Env) (fun s : Nat => (fun (k : Nat) => ([(3, .int .i64 (k : Int))] : Env)) s) (fun s : Nat => (fun (k : Nat) => ([] : List (Nat × Itm))) s) (fun s : Nat => (fun (k : Nat) => 1 ≤ k ∧ fwdTo c k) s) (fun s : Nat => (fun (k : Nat) => c.s.length - k) s) (1) (sub_cons rfl (sub_cons rfl (sub_cons rfl sub_nil))) rfl ⟨Nat.le_refl _, fwd_one c⟩ ?_
  rintro k hinv KL6 hKL6
  simp only [updL, List.foldl_cons, List.foldl_nil, List.set_cons_succ, List.set_cons_zero, List.cons_append, List.nil_append] at hinv hKL6 ⊢
  obtain ⟨hk, hfw⟩ := hinv
  refine gc_seq fun K7 hK7 => ?_
  refine gc_seq fun K8 hK8 => ?_
  refine gc_region ?_
  refine g_v (.free rfl) rfl rfl (qt_move rfl rfl) ?_
  refine g_v (.free rfl) rfl rfl (qt_loadS (n := 0) rfl rfl Try.underlying27 rfl (by kernel_rfl) rfl) ?_
  refine g_q (.free rfl) rfl rfl (qt_call rfl Try.func42 rfl (by decide) rfl (fun w M => arrows_any w _ _ (mem_rdC M h0))) ?_
  refine g_v (.free rfl) rfl rfl (qt_lss rfl rfl rfl) ?_
  refine g_nil ?_
  refine gk_then (hK8 _ _ ?_)
  refine gc_cond rfl (fun hc0 => ?_) (fun hc0 => ?_)
  · try simp only [decide_eq_true_eq, decide_eq_false_iff_not, Bool.not_eq_true', Bool.not_eq_false', Bool.not_eq_eq_eq_not, Bool.not_true, Bool.not_false, ne_eq, Decidable.not_not, Classical.not_not] at hc0
    refine gc_skip ?_
    refine gk_then (hK7 _ _ ?_)
    refine gc_seq fun K9 hK9 => ?_
    refine gc_block ?_
    refine gc_seq fun K10 hK10 => ?_
    have hA := arrP hS (f := (k : Int)) (by omega) (by omega)
    have hB := arrP hS (f := (k : Int) - 1) (by omega) (by omega)
    have a0 := hA.fs; have a1 := hA.ft; have b0 := hB.fs; have b1 := hB.ft
    refine gc_draw (by kernel_rfl) ?_
    refine gd_v (.free rfl) rfl rfl (qt_loadS (n := 0) rfl rfl Try.underlying27 rfl (by kernel_rfl) rfl) ?_
    refine gd_v (.free rfl) rfl rfl (qt_move rfl rfl) ?_
    refine gd_v (.free rfl) rfl rfl (qt_sub rfl rfl rfl (by omega)) ?_
    refine gd_q (.free rfl) rfl rfl (qt_call rfl Try.func78 rfl (by decide) rfl (fun w M => ends_any w _ _ _ (mem_rdC M h0) (by first | assumption | omega) (by first | assumption | omega) (by first | assumption | omega))) ?_
    refine gd_v (.free rfl) rfl rfl (qt_loadS (n := 0) rfl rfl Try.underlying27 rfl (by kernel_rfl) rfl) ?_
    refine gd_v (.free rfl) rfl rfl (qt_move rfl rfl) ?_
    refine gd_q (.free rfl) rfl rfl (qt_call rfl Try.func78 rfl (by decide) rfl (fun w M => ends_any w _ _ _ (mem_rdC M h0) (by first | assumption | omega) (by first | assumption | omega) (by first | assumption | omega))) ?_
    refine gd_q (.free rfl) rfl rfl (qt_call rfl Try.func77 rfl (by decide) rfl (fun w M => compEnds_any w _ _ _ _)) ?_
    refine gd_v (.free rfl) rfl rfl (qt_gtr rfl rfl rfl) ?_
    refine gd_nil ?_
    refine gk_then (hK10 _ _ ?_)
    refine gc_cond rfl (fun hc1 => ?_) (fun hc1 => ?_)
    · try simp only [decide_eq_true_eq, decide_eq_false_iff_not, Bool.not_eq_true', Bool.not_eq_false', Bool.not_eq_eq_eq_not, Bool.not_true, Bool.not_false, ne_eq, Decidable.not_not, Classical.not_not] at hc1
      refine gc_seq fun K11 hK11 => ?_
      refine gc_region ?_
      refine g_v (.free rfl) rfl rfl (qt_assign rfl rfl) ?_
      refine g_nil ?_
      refine gk_then (hK11 _ _ ?_)
      refine gc_ret ?_
      refine gk_block_ret ?_
      refine gk_then_ret ?_
      refine gk_then_ret ?_
      refine gk_block_ret ?_
      refine gk_then_ret ?_
      refine ret_1 rfl rfl  (fun w M => ?_)
      rw [bP_f (ord_n1 (c := c) (k := k) (by omega) (by omega) ((cmp_less _ _ _ _).1 hc1))]; exact ⟨rfl, M.1⟩
    · try simp only [decide_eq_true_eq, decide_eq_false_iff_not, Bool.not_eq_true', Bool.not_eq_false', Bool.not_eq_eq_eq_not, Bool.not_true, Bool.not_false, ne_eq, Decidable.not_not, Classical.not_not] at hc1
      refine gc_skip ?_
      refine gk_block ?_
      refine gk_then (hK9 _ _ ?_)
      refine gc_region ?_
      refine g_v (.free rfl) rfl rfl (qt_move rfl rfl) ?_
      refine g_v (.free rfl) rfl rfl (qt_add rfl rfl rfl (by omega)) ?_
      refine g_v (.free rfl) rfl rfl (qt_assign rfl rfl) ?_
      refine g_nil ?_
      refine gk_then (gk_take 1 ?_)
      refine gk_sub ?hs_12 (hKL6 (k + 1) ?hi_12 ?hm_12)
      case hs_12 => exact (sub_cons rfl (sub_cons rfl (sub_cons rfl sub_nil)))
      case hi_12 => exact ⟨by omega, fwd_next hfw fun hq => absurd ((cmp_less _ _ _ _).2 hq) (by omega)⟩
      case hm_12 => omega
  · try simp only [decide_eq_true_eq, decide_eq_false_iff_not, Bool.not_eq_true', Bool.not_eq_false', Bool.not_eq_eq_eq_not, Bool.not_true, Bool.not_false, ne_eq, Decidable.not_not, Classical.not_not] at hc0
    refine gc_exit ?_
    refine gk_then_exit ?_
    refine gk_then_exit ?_
    refine gk_block_hit ?_
    refine gk_then (hK4 _ _ ?_)
    refine gc_seq fun K13 hK13 => ?_
    refine gc_seq fun K14 hK14 => ?_
    refine gc_region ?_
    refine g_v (.free rfl) rfl rfl (qt_field (z := 0) (off := 3) rfl rfl Try.underlying27 rfl (by kernel_rfl) rfl) ?_
    refine g_v (.free rfl) rfl rfl (qt_loadB (n := 0) rfl rfl Try.underlying22 rfl rfl rfl) ?_
    refine g_v (.free rfl) rfl rfl (qt_len rfl rfl ulE1 (fun w M => lenV_rd h3)) ?_
    refine g_v (.free rfl) rfl rfl (qt_move rfl rfl) ?_
    refine g_nil ?_
    refine gk_then (hK14 _ _ ?_)
    refine gc_block ?_
    try simp only [List.nil_append, List.cons_append, List.append_assoc, List.set_cons_succ, List.set_cons_zero]
    refine gc_loop ([(0, _), (1, _), (3, _), (9, _), (22, _), (23, _)] : Env) (fun s : Nat => (fun (k : Nat) => ([(24, .int .i64 (k : Int))] : Env)) s) (fun s : Nat => (fun (k : Nat) => ([] : List (Nat × Itm))) s) (fun s : Nat => (fun (k : Nat) => k ≤ c.e.length ∧ topTo c k) s) (fun s : Nat => (fun (k : Nat) => c.e.length - k) s) (0) (sub_cons rfl (sub_cons rfl (sub_cons rfl (sub_cons rfl (sub_cons rfl (sub_cons rfl (sub_cons rfl sub_nil))))))) rfl ⟨Nat.zero_le _, top_zero c⟩ ?_
    rintro k hinv KL15 hKL15
    simp only [updL, List.foldl_cons, List.foldl_nil, List.set_cons_succ, List.set_cons_zero, List.cons_append, List.nil_append] at hinv hKL15 ⊢
    obtain ⟨hk, htp⟩ := hinv
    refine gc_seq fun K16 hK16 => ?_
    refine gc_region ?_
    refine g_v (.free rfl) rfl rfl (qt_lss rfl rfl rfl) ?_
    refine g_nil ?_
    refine gk_then (hK16 _ _ ?_)
    refine gc_seq fun K17 hK17 => ?_
    refine gc_cond rfl (fun hc2 => ?_) (fun hc2 => ?_)
    · try simp only [decide_eq_true_eq, decide_eq_false_iff_not, Bool.not_eq_true', Bool.not_eq_false', Bool.not_eq_eq_eq_not, Bool.not_true, Bool.not_false, ne_eq, Decidable.not_not, Classical.not_not] at hc2
      refine gc_skip ?_
      refine gk_then (hK17 _ _ ?_)
      refine gc_seq fun K18 hK18 => ?_
      refine gc_block ?_
      refine gc_seq fun K19 hK19 => ?_
      refine gc_region ?_
      refine g_v (.free rfl) rfl rfl (qt_move rfl rfl) ?_
      refine g_v (.free rfl) rfl rfl (qt_index rfl rfl rfl ulE1 szE1 (fun w M => lenA_rd h3) (by omega) (by omega)) ?_
      refine g_v (.free rfl) rfl rfl (qt_load1 rfl rfl Try.underlying2 rfl (fun w M => mem_rd M h3) (by omega) (by omega)) ?_
      refine g_v (.free rfl) rfl rfl (qt_assign rfl rfl) ?_
      refine g_v (.free rfl) rfl rfl (qt_assign rfl rfl) ?_
      refine g_nil ?_
      refine gk_then (hK19 _ _ ?_)
      refine gc_seq fun K20 hK20 => ?_
      have hp := hom_pos hS (x := k) (by omega)
      refine gc_region ?_
      refine g_v (.free rfl) rfl rfl (qt_move rfl rfl) ?_
      refine g_v (.free rfl) rfl rfl (qt_loadS (n := 0) rfl rfl Try.underlying27 rfl (by kernel_rfl) rfl) ?_
      refine g_v (.free rfl) rfl rfl (qt_move rfl rfl) ?_
      refine g_v (.free rfl) rfl rfl (qt_move rfl rfl) ?_
      refine g_v (.free rfl) rfl rfl (qt_build rfl rfl bt_arrowEnds) ?_
      refine g_op (.free rfl) fun K22 hK22 => ?_
      refine go_callL rfl rfl rfl Try.func79 rfl (by decide) rfl (fun w M => arrowsBetween_any w _ _ _ _ (mem_rdC M h0) (by first | assumption | omega)) ?_
      intro va21 vc21
      refine hK22 _ _ ?_
      refine g_v (.free rfl) rfl rfl (qt_index rfl rfl rfl ulE1 szE1 (fun w M => lenA_own1 (n := 1) rfl M) (by omega) (by omega)) ?_
      refine g_v (.free rfl) rfl rfl (qt_load1 rfl rfl Try.underlying2 rfl (fun w M => (mem_own1 (n := 1) M rfl).rd) (by omega) (by omega)) ?_
      refine g_v (.free rfl) rfl rfl (qt_neq rfl rfl rfl) ?_
      refine g_nil ?_
      refine gk_then (hK20 _ _ ?_)
      refine gc_cond rfl (fun hc3 => ?_) (fun hc3 => ?_)
      · try simp only [decide_eq_true_eq, decide_eq_false_iff_not, Bool.not_eq_true', Bool.not_eq_false', Bool.not_eq_eq_eq_not, Bool.not_true, Bool.not_false, ne_eq, Decidable.not_not, Classical.not_not] at hc3
        refine gc_seq fun K23 hK23 => ?_
        refine gc_region ?_
        refine g_v (.free rfl) rfl rfl (qt_assign rfl rfl) ?_
        refine g_nil ?_
        refine gk_then (hK23 _ _ ?_)
        refine gc_ret ?_
        refine gk_block_ret ?_
        refine gk_then_ret ?_
        refine gk_then_ret ?_
        refine gk_block_ret ?_
        refine gk_then_ret ?_
        refine ret_1 rfl rfl  (fun w M => ?_)
        rw [bP_f (ord_n2 (c := c) (k := k) (by omega) (fun e => hc3 e.symm))]; exact ⟨rfl, M.1⟩
      · try simp only [decide_eq_true_eq, decide_eq_false_iff_not, Bool.not_eq_true', Bool.not_eq_false', Bool.not_eq_eq_eq_not, Bool.not_true, Bool.not_false, ne_eq, Decidable.not_not, Classical.not_not] at hc3
        refine gc_skip ?_
        refine gk_block ?_
        refine gk_then (hK18 _ _ ?_)
        refine gc_region ?_
        refine g_v (.free rfl) rfl rfl (qt_add rfl rfl rfl (by omega)) ?_
        refine g_v (.free rfl) rfl rfl (qt_move rfl rfl) ?_
        refine g_nil ?_
        refine gk_then (gk_take 1 ?_)
        refine gk_sub ?hs_24 (hKL15 (k + 1) ?hi_24 ?hm_24)
        case hs_24 => exact (sub_cons rfl (sub_cons rfl (sub_cons rfl (sub_cons rfl (sub_cons rfl (sub_cons rfl (sub_cons rfl sub_nil)))))))
        case hi_24 => exact ⟨by omega, top_next htp hc3.symm⟩
        case hm_24 => omega
    · try simp only [decide_eq_true_eq, decide_eq_false_iff_not, Bool.not_eq_true', Bool.not_eq_false', Bool.not_eq_eq_eq_not, Bool.not_true, Bool.not_false, ne_eq, Decidable.not_not, Classical.not_not] at hc2
      refine gc_exit ?_
      refine gk_then_exit ?_
      refine gk_then_exit ?_
      refine gk_block_hit ?_
      refine gk_then (hK13 _ _ ?_)
      refine gc_seq fun K25 hK25 => ?_
      refine gc_region ?_
      refine g_v (.free rfl) rfl rfl (qt_assign rfl rfl) ?_
      refine g_nil ?_
      refine gk_then (hK25 _ _ ?_)
      refine gc_ret ?_
      refine ret_1 rfl rfl  (fun w M => ?_)
      rw [bP_t (show ordP c from ⟨fwd_end hfw (by omega), (show k = c.e.length by omega) ▸ htp⟩)]; exact ⟨rfl, M.1⟩

set_option maxHeartbeats 1000000 in
set_option maxRecDepth 100000 in
theorem specOrd_any (w : World) (v : Value) (c : Cat) (h : RdC w v c) (hS : ShapeP c) :
    Calls Try.prog 47 #[v] w (RetB w (bP (ordP c))) := by
  have h0 := h
  obtain ⟨va, vb, vc, vd, ve, vf, vg, vh, rfl, h1, h2, h3, h4, _⟩ := h.lists
  have hn40 := hS.n40; have htl := hS.tl; have hel := hS.el; have hob0 := hS.ob0; have hob8 := hS.ob8; have hml := hS.ml
  go_enter Try.func47, Try.ntmps47
  refine gc_enter (N := 55) rfl (look_cons (k := 0) rfl (look_nil _)) ?_
  refine gc_seq fun K1 hK1 => ?_
  refine gc_region ?_
  refine g_op (.free rfl) fun K3 hK3 => ?_
  refine go_box rfl rfl rfl rfl rfl ?_
  intro B2
  refine hK3 _ _ ?_
  refine g_v (.free rfl) rfl rfl (qt_assign rfl rfl) ?_
  refine g_nil ?_
  refine gk_then (hK1 _ _ ?_)
  refine gc_seq fun K4 hK4 => ?_
  refine gc_seq fun K5 hK5 => ?_
  refine gc_region ?_
  refine g_v (.free rfl) rfl rfl (qt_assign rfl rfl) ?_
  refine g_nil ?_
  refine gk_then (hK5 _ _ ?_)
  refine gc_block ?_
  try simp only [List.nil_append, List.cons_append, List.append_assoc, List.set_cons_succ, List.set_cons_zero]
  refine gc_loop ([(0, _), (1, _)] : Env) (fun s : Nat => (fun (k : Nat) => ([(3, .int .i64 (k : Int))] : Env)) s) (fun s : Nat => (fun (k : Nat) => ([] : List (Nat × Itm))) s) (fun s : Nat => (fun (k : Nat) => 1 ≤ k ∧ fwdTo c k) s) (fun s : Nat => (fun (k : Nat) => c.s.length - k) s) (1) (sub_cons rfl (sub_cons rfl (sub_cons rfl sub_nil))) rfl ⟨Nat.le_refl _, fwd_one c⟩ ?_
  rintro k hinv KL6 hKL6
  simp only [updL, List.foldl_cons, List.foldl_nil, List.set_cons_succ, List.set_cons_zero, List.cons_append, List.nil_append] at hinv hKL6 ⊢
  obtain ⟨hk, hfw⟩ := hinv
  refine gc_seq fun K7 hK7 => ?_
  refine gc_seq fun K8 hK8 => ?_
  refine gc_region ?_
  refine g_v (.free rfl) rfl rfl (qt_move rfl rfl) ?_
  refine g_v (.free rfl) rfl rfl (qt_field (z := 0) (off := 1) rfl rfl Try.underlying27 rfl (by kernel_rfl) rfl) ?_
  refine g_v (.free rfl) rfl rfl (qt_loadB (n := 0) rfl rfl Try.underlying22 rfl rfl rfl) ?_
  refine g_v (.free rfl) rfl rfl (qt_len rfl rfl ulE1 (fun w M => lenV_rd h1)) ?_
  refine g_v (.free rfl) rfl rfl (qt_lss rfl rfl rfl) ?_
  refine g_nil ?_
  refine gk_then (hK8 _ _ ?_)
  refine gc_cond rfl (fun hc0 => ?_) (fun hc0 => ?_)
  · try simp only [decide_eq_true_eq, decide_eq_false_iff_not, Bool.not_eq_true', Bool.not_eq_false', Bool.not_eq_eq_eq_not, Bool.not_true, Bool.not_false, ne_eq, Decidable.not_not, Classical.not_not] at hc0
    refine gc_skip ?_
    refine gk_then (hK7 _ _ ?_)
    refine gc_seq fun K9 hK9 => ?_
    refine gc_block ?_
    refine gc_seq fun K10 hK10 => ?_
    have hA := arrP hS (f := (k : Int)) (by omega) (by omega)
    have hB := arrP hS (f := (k : Int) - 1) (by omega) (by omega)
    have a0 := hA.fs; have a1 := hA.ft; have b0 := hB.fs; have b1 := hB.ft
    try simp only [List.nil_append, List.cons_append, List.append_assoc, List.set_cons_succ, List.set_cons_zero]
    refine ga_start _ (fun w M => M) ?_
    refine ga_v 0 rfl (by kernel_rfl) (by kernel_rfl) (by kernel_rfl) (.free rfl) rfl rfl (qt_field (z := 0) (off := 1) rfl rfl Try.underlying27 rfl (by kernel_rfl) rfl) (fun _ _ _ h => h) ?_
    refine ga_v 1 rfl (by kernel_rfl) (by kernel_rfl) (by kernel_rfl) (.free rfl) rfl rfl (qt_loadB (n := 0) rfl rfl Try.underlying22 rfl rfl rfl) (fun _ _ _ h => h) ?_
    refine ga_v 2 rfl (by kernel_rfl) (by kernel_rfl) (by kernel_rfl) (.free rfl) rfl rfl (qt_move rfl rfl) (fun _ _ _ h => h) ?_
    refine ga_v 3 rfl (by kernel_rfl) (by kernel_rfl) (by kernel_rfl) (.free rfl) rfl rfl (qt_index rfl rfl rfl ulE1 szE1 (fun w M => lenA_rd h1) (by omega) (by omega)) (fun _ _ _ h => h) ?_
    refine ga_v 4 rfl (by kernel_rfl) (by kernel_rfl) (by kernel_rfl) (.free rfl) rfl rfl (qt_load1 rfl rfl Try.underlying2 rfl (fun w M => mem_rd M h1) (by omega) (by omega)) (fun _ _ _ h => h) ?_
    refine ga_v 5 rfl (by kernel_rfl) (by kernel_rfl) (by kernel_rfl) (.free rfl) rfl rfl (qt_field (z := 0) (off := 2) rfl rfl Try.underlying27 rfl (by kernel_rfl) rfl) (fun _ _ _ h => h) ?_
    refine ga_v 6 rfl (by kernel_rfl) (by kernel_rfl) (by kernel_rfl) (.free rfl) rfl rfl (qt_loadB (n := 0) rfl rfl Try.underlying22 rfl rfl rfl) (fun _ _ _ h => h) ?_
    refine ga_v 7 rfl (by kernel_rfl) (by kernel_rfl) (by kernel_rfl) (.free rfl) rfl rfl (qt_move rfl rfl) (fun _ _ _ h => h) ?_
    refine ga_v 8 rfl (by kernel_rfl) (by kernel_rfl) (by kernel_rfl) (.free rfl) rfl rfl (qt_index rfl rfl rfl ulE1 szE1 (fun w M => lenA_rd h2) (by omega) (by omega)) (fun _ _ _ h => h) ?_
    refine ga_v 9 rfl (by kernel_rfl) (by kernel_rfl) (by kernel_rfl) (.free rfl) rfl rfl (qt_load1 rfl rfl Try.underlying2 rfl (fun w M => mem_rd M h2) (by omega) (by omega)) (fun _ _ _ h => h) ?_
    refine ga_v 11 rfl (by kernel_rfl) (by kernel_rfl) (by kernel_rfl) (.free rfl) rfl rfl (qt_field (z := 0) (off := 1) rfl rfl Try.underlying27 rfl (by kernel_rfl) rfl) (fun _ _ _ h => h) ?_
    refine ga_v 12 rfl (by kernel_rfl) (by kernel_rfl) (by kernel_rfl) (.free rfl) rfl rfl (qt_loadB (n := 0) rfl rfl Try.underlying22 rfl rfl rfl) (fun _ _ _ h => h) ?_
    refine ga_v 13 rfl (by kernel_rfl) (by kernel_rfl) (by kernel_rfl) (.free rfl) rfl rfl (qt_move rfl rfl) (fun _ _ _ h => h) ?_
    refine ga_v 14 rfl (by kernel_rfl) (by kernel_rfl) (by kernel_rfl) (.free rfl) rfl rfl (qt_sub rfl rfl rfl (by omega)) (fun _ _ _ h => h) ?_
    refine ga_v 15 rfl (by kernel_rfl) (by kernel_rfl) (by kernel_rfl) (.free rfl) rfl rfl (qt_index rfl rfl rfl ulE1 szE1 (fun w M => lenA_rd h1) (by omega) (by omega)) (fun _ _ _ h => h) ?_
    refine ga_v 16 rfl (by kernel_rfl) (by kernel_rfl) (by kernel_rfl) (.free rfl) rfl rfl (qt_load1 rfl rfl Try.underlying2 rfl (fun w M => mem_rd M h1) (by omega) (by omega)) (fun _ _ _ h => h) ?_
    refine ga_v 17 rfl (by kernel_rfl) (by kernel_rfl) (by kernel_rfl) (.free rfl) rfl rfl (qt_field (z := 0) (off := 2) rfl rfl Try.underlying27 rfl (by kernel_rfl) rfl) (fun _ _ _ h => h) ?_
    refine ga_v 18 rfl (by kernel_rfl) (by kernel_rfl) (by kernel_rfl) (.free rfl) rfl rfl (qt_loadB (n := 0) rfl rfl Try.underlying22 rfl rfl rfl) (fun _ _ _ h => h) ?_
    refine ga_v 19 rfl (by kernel_rfl) (by kernel_rfl) (by kernel_rfl) (.free rfl) rfl rfl (qt_move rfl rfl) (fun _ _ _ h => h) ?_
    refine ga_v 20 rfl (by kernel_rfl) (by kernel_rfl) (by kernel_rfl) (.free rfl) rfl rfl (qt_sub rfl rfl rfl (by omega)) (fun _ _ _ h => h) ?_
    refine ga_v 21 rfl (by kernel_rfl) (by kernel_rfl) (by kernel_rfl) (.free rfl) rfl rfl (qt_index rfl rfl rfl ulE1 szE1 (fun w M => lenA_rd h2) (by omega) (by omega)) (fun _ _ _ h => h) ?_
    refine ga_v 22 rfl (by kernel_rfl) (by kernel_rfl) (by kernel_rfl) (.free rfl) rfl rfl (qt_load1 rfl rfl Try.underlying2 rfl (fun w M => mem_rd M h2) (by omega) (by omega)) (fun _ _ _ h => h) ?_
    refine ga_two 10 23 (by kernel_rfl) rfl rfl (.free rfl) (.free rfl) (fun K11 hK11 => ?_) (fun K11 hK11 => ?_)
    · refine go_slice2 rfl rfl rfl rfl rfl Try.underlying22 ?_
      intro B12
      refine hK11 _ _ (fun w M => (mem_take 1 M :)) ?_
      refine ga_op 23 (by kernel_rfl) rfl (.free rfl) fun K15 hK15 => ?_
      refine go_slice2 rfl rfl rfl rfl rfl Try.underlying22 ?_
      intro B14
      refine hK15 _ _ (fun w M => (mem_take 1 M :)) ?_
      refine ga_op 24 (by kernel_rfl) rfl (.free rfl) fun K16 hK16 => ?_
      refine go_q rfl rfl (qt_call rfl Try.func75 rfl (by decide) rfl (fun w M => specLess_any w _ _ _ _ ((mem_own1 (n := 1) M rfl).rd) ((mem_own1 (n := 2) M rfl).rd) (by simp))) ?_
      refine hK16 _ _ (fun w M => (mem_take 1 M :)) ?_
      refine ga_done (by kernel_rfl) ?_
      refine gk_then (hK10 _ _ ?_)
      refine gc_cond rfl (fun hc1 => ?_) (fun hc1 => ?_)
      · try simp only [decide_eq_true_eq, decide_eq_false_iff_not, Bool.not_eq_true', Bool.not_eq_false', Bool.not_eq_eq_eq_not, Bool.not_true, Bool.not_false, ne_eq, Decidable.not_not, Classical.not_not] at hc1
        refine gc_seq fun K17 hK17 => ?_
        refine gc_region ?_
        refine g_v (.free rfl) rfl rfl (qt_assign rfl rfl) ?_
        refine g_nil ?_
        refine gk_then (hK17 _ _ ?_)
        refine gc_ret ?_
        refine gk_block_ret ?_
        refine gk_then_ret ?_
        refine gk_then_ret ?_
        refine gk_block_ret ?_
        refine gk_then_ret ?_
        refine ret_1 rfl rfl  (fun w M => ?_)
        rw [bP_f (ord_n1 (c := c) (k := k) (by omega) (by omega) hc1)]; exact ⟨rfl, M.1⟩
      · try simp only [decide_eq_true_eq, decide_eq_false_iff_not, Bool.not_eq_true', Bool.not_eq_false', Bool.not_eq_eq_eq_not, Bool.not_true, Bool.not_false, ne_eq, Decidable.not_not, Classical.not_not] at hc1
        refine gc_skip ?_
        refine gk_block ?_
        refine gk_then (hK9 _ _ ?_)
        refine gc_region ?_
        refine g_v (.free rfl) rfl rfl (qt_move rfl rfl) ?_
        refine g_v (.free rfl) rfl rfl (qt_add rfl rfl rfl (by omega)) ?_
        refine g_v (.free rfl) rfl rfl (qt_assign rfl rfl) ?_
        refine g_nil ?_
        refine gk_then (gk_take 1 ?_)
        refine gk_sub ?hs_18 (hKL6 (k + 1) ?hi_18 ?hm_18)
        case hs_18 => exact (sub_cons rfl (sub_cons rfl (sub_cons rfl sub_nil)))
        case hi_18 => exact ⟨by omega, fwd_next hfw fun hq => absurd hq (by unfold backP; rw [hc1]; decide)⟩
        case hm_18 => omega
    · refine go_slice2 rfl rfl rfl rfl rfl Try.underlying22 ?_
      intro B19
      refine hK11 _ _ (fun w M => (mem_take 1 M :)) ?_
      refine ga_op 10 (by kernel_rfl) rfl (.free rfl) fun K22 hK22 => ?_
      refine go_slice2 rfl rfl rfl rfl rfl Try.underlying22 ?_
      intro B21
      refine hK22 _ _ (fun w M => (mem_take 1 M :)) ?_
      refine ga_op 24 (by kernel_rfl) rfl (.free rfl) fun K23 hK23 => ?_
      refine go_q rfl rfl (qt_call rfl Try.func75 rfl (by decide) rfl (fun w M => specLess_any w _ _ _ _ ((mem_own1 (n := 2) M rfl).rd) ((mem_own1 (n := 1) M rfl).rd) (by simp))) ?_
      refine hK23 _ _ (fun w M => (mem_take 1 M :)) ?_
      refine ga_done (by kernel_rfl) ?_
      refine gk_then (hK10 _ _ ?_)
      refine gc_cond rfl (fun hc2 => ?_) (fun hc2 => ?_)
      · try simp only [decide_eq_true_eq, decide_eq_false_iff_not, Bool.not_eq_true', Bool.not_eq_false', Bool.not_eq_eq_eq_not, Bool.not_true, Bool.not_false, ne_eq, Decidable.not_not, Classical.not_not] at hc2
        refine gc_seq fun K24 hK24 => ?_
        refine gc_region ?_
        refine g_v (.free rfl) rfl rfl (qt_assign rfl rfl) ?_
        refine g_nil ?_
        refine gk_then (hK24 _ _ ?_)
        refine gc_ret ?_
        refine gk_block_ret ?_
        refine gk_then_ret ?_
        refine gk_then_ret ?_
        refine gk_block_ret ?_
        refine gk_then_ret ?_
        refine ret_1 rfl rfl  (fun w M => ?_)
        rw [bP_f (ord_n1 (c := c) (k := k) (by omega) (by omega) hc2)]; exact ⟨rfl, M.1⟩
      · try simp only [decide_eq_true_eq, decide_eq_false_iff_not, Bool.not_eq_true', Bool.not_eq_false', Bool.not_eq_eq_eq_not, Bool.not_true, Bool.not_false, ne_eq, Decidable.not_not, Classical.not_not] at hc2
        refine gc_skip ?_
        refine gk_block ?_
        refine gk_then (hK9 _ _ ?_)
        refine gc_region ?_
        refine g_v (.free rfl) rfl rfl (qt_move rfl rfl) ?_
        refine g_v (.free rfl) rfl rfl (qt_add rfl rfl rfl (by omega)) ?_
        refine g_v (.free rfl) rfl rfl (qt_assign rfl rfl) ?_
        refine g_nil ?_
        refine gk_then (gk_take 1 ?_)
        refine gk_sub ?hs_25 (hKL6 (k + 1) ?hi_25 ?hm_25)
        case hs_25 => exact (sub_cons rfl (sub_cons rfl (sub_cons rfl sub_nil)))
        case hi_25 => exact ⟨by omega, fwd_next hfw fun hq => absurd hq (by unfold backP; rw [hc2]; decide)⟩
        case hm_25 => omega
  · try simp only [decide_eq_true_eq, decide_eq_false_iff_not, Bool.not_eq_true', Bool.not_eq_false', Bool.not_eq_eq_eq_not, Bool.not_true, Bool.not_false, ne_eq, Decidable.not_not, Classical.not_not] at hc0
    refine gc_exit ?_
    refine gk_then_exit ?_
    refine gk_then_exit ?_
    refine gk_block_hit ?_
    refine gk_then (hK4 _ _ ?_)
    refine gc_seq fun K26 hK26 => ?_
    refine gc_seq fun K27 hK27 => ?_
    refine gc_region ?_
    refine g_v (.free rfl) rfl rfl (qt_assign rfl rfl) ?_
    refine g_nil ?_
    refine gk_then (hK27 _ _ ?_)
    refine gc_block ?_
    try simp only [List.nil_append, List.cons_append, List.append_assoc, List.set_cons_succ, List.set_cons_zero]
    refine gc_loop ([(0, _), (1, _), (3, _), (9, _)] : Env) (fun s : Nat => (fun (k : Nat) => ([(4, .int .i64 (k : Int))] : Env)) s) (fun s : Nat => (fun (k : Nat) => ([] : List (Nat × Itm))) s) (fun s : Nat => (fun (k : Nat) => k ≤ c.e.length ∧ topTo c k) s) (fun s : Nat => (fun (k : Nat) => c.e.length - k) s) (0) (sub_cons rfl (sub_cons rfl (sub_cons rfl (sub_cons rfl (sub_cons rfl sub_nil))))) rfl ⟨Nat.zero_le _, top_zero c⟩ ?_
    rintro k hinv KL28 hKL28
    simp only [updL, List.foldl_cons, List.foldl_nil, List.set_cons_succ, List.set_cons_zero, List.cons_append, List.nil_append] at hinv hKL28 ⊢
    obtain ⟨hk, htp⟩ := hinv
    refine gc_seq fun K29 hK29 => ?_
    refine gc_seq fun K30 hK30 => ?_
    refine gc_region ?_
    refine g_v (.free rfl) rfl rfl (qt_move rfl rfl) ?_
    refine g_v (.free rfl) rfl rfl (qt_field (z := 0) (off := 0) rfl rfl Try.underlying27 rfl (by kernel_rfl) rfl) ?_
    refine g_v (.free rfl) rfl rfl (qt_loadB (n := 0) rfl rfl Try.underlying2 rfl rfl rfl) ?_
    refine g_v (.free rfl) rfl rfl (qt_lss rfl rfl rfl) ?_
    refine g_nil ?_
    refine gk_then (hK30 _ _ ?_)
    refine gc_cond rfl (fun hc3 => ?_) (fun hc3 => ?_)
    · try simp only [decide_eq_true_eq, decide_eq_false_iff_not, Bool.not_eq_true', Bool.not_eq_false', Bool.not_eq_eq_eq_not, Bool.not_true, Bool.not_false, ne_eq, Decidable.not_not, Classical.not_not] at hc3
      refine gc_skip ?_
      refine gk_then (hK29 _ _ ?_)
      refine gc_seq fun K31 hK31 => ?_
      refine gc_block ?_
      refine gc_seq fun K32 hK32 => ?_
      have hp := hom_pos hS (x := k) (by omega)
      try simp only [List.nil_append, List.cons_append, List.append_assoc, List.set_cons_succ, List.set_cons_zero]
      refine ga_start _ (fun w M => M) ?_
      refine ga_v 0 rfl (by kernel_rfl) (by kernel_rfl) (by kernel_rfl) (.free rfl) rfl rfl (qt_loadS (n := 0) rfl rfl Try.underlying27 rfl (by kernel_rfl) rfl) (fun _ _ _ h => h) ?_
      refine ga_v 1 rfl (by kernel_rfl) (by kernel_rfl) (by kernel_rfl) (.free rfl) rfl rfl (qt_move rfl rfl) (fun _ _ _ h => h) ?_
      refine ga_v 2 rfl (by kernel_rfl) (by kernel_rfl) (by kernel_rfl) (.free rfl) rfl rfl (qt_move rfl rfl) (fun _ _ _ h => h) ?_
      refine ga_v 6 rfl (by kernel_rfl) (by kernel_rfl) (by kernel_rfl) (.free rfl) rfl rfl (qt_field (z := 0) (off := 3) rfl rfl Try.underlying27 rfl (by kernel_rfl) rfl) (fun _ _ _ h => h) ?_
      refine ga_v 7 rfl (by kernel_rfl) (by kernel_rfl) (by kernel_rfl) (.free rfl) rfl rfl (qt_loadB (n := 0) rfl rfl Try.underlying22 rfl rfl rfl) (fun _ _ _ h => h) ?_
      refine ga_v 8 rfl (by kernel_rfl) (by kernel_rfl) (by kernel_rfl) (.free rfl) rfl rfl (qt_move rfl rfl) (fun _ _ _ h => h) ?_
      refine ga_v 9 rfl (by kernel_rfl) (by kernel_rfl) (by kernel_rfl) (.free rfl) rfl rfl (qt_index rfl rfl rfl ulE1 szE1 (fun w M => lenA_rd h3) (by omega) (by omega)) (fun _ _ _ h => h) ?_
      refine ga_v 10 rfl (by kernel_rfl) (by kernel_rfl) (by kernel_rfl) (.free rfl) rfl rfl (qt_load1 rfl rfl Try.underlying2 rfl (fun w M => mem_rd M h3) (by omega) (by omega)) (fun _ _ _ h => h) ?_
      refine ga_op 3 (by kernel_rfl) rfl (.free rfl) fun K34 hK34 => ?_
      refine go_callL rfl rfl rfl Try.func76 rfl (by decide) rfl (fun w M => specHom_any w _ _ _ _ (mem_rdC M h0) (by first | assumption | omega)) ?_
      intro va33 vc33
      refine hK34 _ _ (fun w M => (mem_take 1 M :)) ?_
      refine ga_op 4 (by kernel_rfl) rfl (.free rfl) fun K35 hK35 => ?_
      refine go_v rfl rfl (qt_index rfl rfl rfl ulE1 szE1 (fun w M => lenA_own1 (n := 1) rfl M) (by omega) (by omega)) ?_
      refine hK35 _ _ (fun w M => (mem_take 1 M :)) ?_
      refine ga_op 5 (by kernel_rfl) rfl (.free rfl) fun K36 hK36 => ?_
      refine go_v rfl rfl (qt_load1 rfl rfl Try.underlying2 rfl (fun w M => (mem_own1 (n := 1) M rfl).rd) (by omega) (by omega)) ?_
      refine hK36 _ _ (fun w M => (mem_take 1 M :)) ?_
      refine ga_v 11 rfl (by kernel_rfl) (by kernel_rfl) (by kernel_rfl) (.free rfl) rfl rfl (qt_neq rfl rfl rfl) (fun _ _ _ h => h) ?_
      refine ga_done (by kernel_rfl) ?_
      refine gk_then (hK32 _ _ ?_)
      refine gc_cond rfl (fun hc4 => ?_) (fun hc4 => ?_)
      · try simp only [decide_eq_true_eq, decide_eq_false_iff_not, Bool.not_eq_true', Bool.not_eq_false', Bool.not_eq_eq_eq_not, Bool.not_true, Bool.not_false, ne_eq, Decidable.not_not, Classical.not_not] at hc4
        refine gc_seq fun K37 hK37 => ?_
        refine gc_region ?_
        refine g_v (.free rfl) rfl rfl (qt_assign rfl rfl) ?_
        refine g_nil ?_
        refine gk_then (hK37 _ _ ?_)
        refine gc_ret ?_
        refine gk_block_ret ?_
        refine gk_then_ret ?_
        refine gk_then_ret ?_
        refine gk_block_ret ?_
        refine gk_then_ret ?_
        refine ret_1 rfl rfl  (fun w M => ?_)
        rw [bP_f (ord_n2 (c := c) (k := k) (by omega) hc4)]; exact ⟨rfl, M.1⟩
      · try simp only [decide_eq_true_eq, decide_eq_false_iff_not, Bool.not_eq_true', Bool.not_eq_false', Bool.not_eq_eq_eq_not, Bool.not_true, Bool.not_false, ne_eq, Decidable.not_not, Classical.not_not] at hc4
        refine gc_skip ?_
        refine gk_block ?_
        refine gk_then (hK31 _ _ ?_)
        refine gc_region ?_
        refine g_v (.free rfl) rfl rfl (qt_move rfl rfl) ?_
        refine g_v (.free rfl) rfl rfl (qt_add rfl rfl rfl (by omega)) ?_
        refine g_v (.free rfl) rfl rfl (qt_assign rfl rfl) ?_
        refine g_nil ?_
        refine gk_then (gk_take 1 ?_)
        refine gk_sub ?hs_38 (hKL28 (k + 1) ?hi_38 ?hm_38)
        case hs_38 => exact (sub_cons rfl (sub_cons rfl (sub_cons rfl (sub_cons rfl (sub_cons rfl sub_nil)))))
        case hi_38 => exact ⟨by omega, top_next htp hc4⟩
        case hm_38 => omega
    · try simp only [decide_eq_true_eq, decide_eq_false_iff_not, Bool.not_eq_true', Bool.not_eq_false', Bool.not_eq_eq_eq_not, Bool.not_true, Bool.not_false, ne_eq, Decidable.not_not, Classical.not_not] at hc3
      refine gc_exit ?_
      refine gk_then_exit ?_
      refine gk_then_exit ?_
      refine gk_block_hit ?_
      refine gk_then (hK26 _ _ ?_)
      refine gc_seq fun K39 hK39 => ?_
      refine gc_region ?_
      refine g_v (.free rfl) rfl rfl (qt_assign rfl rfl) ?_
      refine g_nil ?_
      refine gk_then (hK39 _ _ ?_)
      refine gc_ret ?_
      refine ret_1 rfl rfl  (fun w M => ?_)
      rw [bP_t (show ordP c from ⟨fwd_end hfw (by omega), (show k = c.e.length by omega) ▸ htp⟩)]; exact ⟨rfl, M.1⟩

set_option maxHeartbeats 1000000 in
set_option maxRecDepth 100000 in
theorem spec_IsOrdered (w : World) (v : Value) (c : Cat) (h : RdC w v c) :
    Calls Try.prog 18 #[v] w (RetBI w (fIsOrdered c).1 (fIsOrdered c).2) := by
  have h0 := h
  obtain ⟨va, vb, vc, vd, ve, vf, vg, vh, rfl, h1, h2, h3, h4, _⟩ := h.lists
  go_enter Try.func18, Try.ntmps18
  refine gc_enter (N := 9) rfl (look_cons (k := 0) rfl (look_nil _)) ?_
  refine gc_seq fun K1 hK1 => ?_
  refine gc_region ?_
  refine g_op (.free rfl) fun K3 hK3 => ?_
  refine go_box rfl rfl rfl rfl rfl ?_
  intro B2
  refine hK3 _ _ ?_
  refine g_v (.free rfl) rfl rfl (qt_assign rfl rfl) ?_
  refine g_v (.free rfl) rfl rfl (qt_assign rfl rfl) ?_
  refine g_nil ?_
  refine gk_then (hK1 _ _ ?_)
  refine gc_seq fun K4 hK4 => ?_
  refine gc_seq fun K5 hK5 => ?_
  refine gc_region ?_
  refine g_v (.free rfl) rfl rfl (qt_loadS (n := 0) rfl rfl Try.underlying27 rfl (by kernel_rfl) rfl) ?_
  refine g_q (.free rfl) rfl rfl (qt_call rfl Try.func34 rfl (by decide) rfl (fun w M => specIs_any w _ _ (mem_rdC M h0))) ?_
  refine g_v (.free rfl) rfl rfl (qt_not rfl rfl) ?_
  refine g_nil ?_
  refine gk_then (hK5 _ _ ?_)
  refine gc_cond rfl (fun hc0 => ?_) (fun hc0 => ?_)
  · try simp only [decide_eq_true_eq, decide_eq_false_iff_not, Bool.not_eq_true', Bool.not_eq_false', Bool.not_eq_eq_eq_not, Bool.not_true, Bool.not_false, ne_eq, Decidable.not_not, Classical.not_not] at hc0
    refine gc_seq fun K6 hK6 => ?_
    refine gc_region ?_
    refine g_v (.free rfl) rfl rfl (qt_assign rfl rfl) ?_
    refine g_v (.free rfl) rfl rfl (qt_assign rfl rfl) ?_
    refine g_nil ?_
    refine gk_then (hK6 _ _ ?_)
    refine gc_ret ?_
    refine gk_then_ret ?_
    refine ret_2 rfl rfl rfl  (fun w M => ?_)
    rw [ordd_f hc0]; exact ⟨rfl, M.1⟩
  · try simp only [decide_eq_true_eq, decide_eq_false_iff_not, Bool.not_eq_true', Bool.not_eq_false', Bool.not_eq_eq_eq_not, Bool.not_true, Bool.not_false, ne_eq, Decidable.not_not, Classical.not_not] at hc0
    refine gc_skip ?_
    refine gk_then (hK4 _ _ ?_)
    refine gc_seq fun K7 hK7 => ?_
    refine gc_region ?_
    refine g_v (.free rfl) rfl rfl (qt_loadS (n := 0) rfl rfl Try.underlying27 rfl (by kernel_rfl) rfl) ?_
    refine g_q (.free rfl) rfl rfl (qt_call rfl Try.func47 rfl (by decide) rfl (fun w M => specOrd_any w _ _ (mem_rdC M h0) (isCat_of hc0).toShapeP)) ?_
    refine g_v (.free rfl) rfl rfl (qt_assign rfl rfl) ?_
    refine g_v (.free rfl) rfl rfl (qt_assign rfl rfl) ?_
    refine g_nil ?_
    refine gk_then (hK7 _ _ ?_)
    refine gc_ret ?_
    refine ret_2 rfl rfl rfl  (fun w M => ?_)
    rw [ordd_t hc0]; exact ⟨rfl, M.1⟩

set_option maxHeartbeats 1000000 in
set_option maxRecDepth 100000 in
theorem impl_IsOrdered (w : World) (v : Value) (c : Cat) (h : RdC w v c) :
    Calls Try.prog 19 #[v] w (RetBI w (fIsOrdered c).1 (fIsOrdered c).2) := by
  have h0 := h
  obtain ⟨va, vb, vc, vd, ve, vf, vg, vh, rfl, h1, h2, h3, h4, _⟩ := h.lists
  go_enter Try.func19, Try.ntmps19
  refine gc_enter (N := 16) rfl (look_cons (k := 0) rfl (look_nil _)) ?_
  refine gc_seq fun K1 hK1 => ?_
  refine gc_region ?_
  refine g_op (.free rfl) fun K3 hK3 => ?_
  refine go_box rfl rfl rfl rfl rfl ?_
  intro B2
  refine hK3 _ _ ?_
  refine g_v (.free rfl) rfl rfl (qt_assign rfl rfl) ?_
  refine g_v (.free rfl) rfl rfl (qt_assign rfl rfl) ?_
  refine g_nil ?_
  refine gk_then (hK1 _ _ ?_)
  refine gc_seq fun K4 hK4 => ?_
  refine gc_region ?_
  refine g_v (.free rfl) rfl rfl (qt_loadS (n := 0) rfl rfl Try.underlying27 rfl (by kernel_rfl) rfl) ?_
  refine g_op (.free rfl) fun K6 hK6 => ?_
  refine go_callCI rfl rfl rfl Try.func38 rfl (by decide) rfl (fun w M => readCat_any w _ _ (mem_rdC M h0)) ?_
  intro ca5 cb5 cc5 cd5 ce5 cf5 cg5 ch5 cu5
  refine hK6 _ _ ?_
  refine g_v (.free rfl) rfl rfl (qt_move rfl rfl) ?_
  refine g_v (.free rfl) rfl rfl (qt_extract rfl rfl rfl) ?_
  refine g_v (.free rfl) rfl rfl (qt_extract rfl rfl rfl) ?_
  refine g_op (.free rfl) fun K8 hK8 => ?_
  refine go_alloc (z := (.agg #[.int .i64 0, .slice none 0 0, .slice none 0 0, .slice none 0 0, .slice none 0 0])) (cs := [.int .i64 0, .slice none 0 0, .slice none 0 0, .slice none 0 0, .slice none 0 0]) rfl rfl rfl (fun w => by kernel_rfl) rfl ?_
  intro B7
  refine hK8 _ _ ?_
  refine g_op (.free rfl) fun K9 hK9 => ?_
  refine go_storeS (n := 5) rfl rfl rfl rfl (by kernel_rfl) rfl rfl rfl ?_
  refine hK9 _ _ ?_
  refine g_v (.free rfl) rfl rfl (qt_assign rfl rfl) ?_
  refine g_nil ?_
  refine gk_then (hK4 _ _ ?_)
  refine gc_seq fun K10 hK10 => ?_
  refine gc_seq fun K11 hK11 => ?_
  refine gc_region ?_
  refine g_v (.free rfl) rfl rfl (qt_move rfl rfl) ?_
  refine g_v (.free rfl) rfl rfl (qt_neq rfl rfl rfl) ?_
  refine g_nil ?_
  refine gk_then (hK11 _ _ ?_)
  refine gc_cond rfl (fun hc0 => ?_) (fun hc0 => ?_)
  · try simp only [decide_eq_true_eq, decide_eq_false_iff_not, Bool.not_eq_true', Bool.not_eq_false', Bool.not_eq_eq_eq_not, Bool.not_true, Bool.not_false, ne_eq, Decidable.not_not, Classical.not_not] at hc0
    refine gc_seq fun K12 hK12 => ?_
    refine gc_region ?_
    refine g_v (.free rfl) rfl rfl (qt_move rfl rfl) ?_
    refine g_v (.free rfl) rfl rfl (qt_assign rfl rfl) ?_
    refine g_v (.free rfl) rfl rfl (qt_assign rfl rfl) ?_
    refine g_nil ?_
    refine gk_then (hK12 _ _ ?_)
    refine gc_ret ?_
    refine gk_then_ret ?_
    refine ret_2 rfl rfl rfl  (fun w M => ?_)
    rw [(catErr_n hc0).2, ordd_f (catErr_n hc0).1]; exact ⟨rfl, M.1⟩
  · try simp only [decide_eq_true_eq, decide_eq_false_iff_not, Bool.not_eq_true', Bool.not_eq_false', Bool.not_eq_eq_eq_not, Bool.not_true, Bool.not_false, ne_eq, Decidable.not_not, Classical.not_not] at hc0
    refine gc_skip ?_
    refine gk_then (hK10 _ _ ?_)
    refine gc_seq fun K13 hK13 => ?_
    have hI := catErr_0 hc0
    simp only [catCat_t hc0]
    refine gc_region ?_
    refine g_v (.free rfl) rfl rfl (qt_loadS (n := 5) rfl rfl Try.underlying27 rfl (by kernel_rfl) rfl) ?_
    refine g_q (.free rfl) rfl rfl (qt_call rfl Try.func48 rfl (by decide) rfl (fun w M => isOrd_any w _ _ (rdC_mk ((mem_own1 (n := 1) M rfl).rd) ((mem_own1 (n := 2) M rfl).rd) ((mem_own1 (n := 3) M rfl).rd) (mem_rdU (n := 4) M rfl)) (isCat_of (catErr_0 hc0)).toShapeP)) ?_
    refine g_v (.free rfl) rfl rfl (qt_assign rfl rfl) ?_
    refine g_v (.free rfl) rfl rfl (qt_assign rfl rfl) ?_
    refine g_nil ?_
    refine gk_then (hK13 _ _ ?_)
    refine gc_ret ?_
    refine ret_2 rfl rfl rfl  (fun w M => ?_)
    rw [ordd_t hI]; exact ⟨rfl, M.1⟩

end Go.Proofs.Ytgkfampgofjkfaa
