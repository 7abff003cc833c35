
/- Congruences: the walks of the model's and of the program's test. -/
import Derived.Test.YtgkfampgofjkfaaCong
import Derived.Test.YtgkfampgofjkfaaOwnL
set_option linter.unusedSimpArgs false
set_option linter.unusedVariables false
set_option linter.unusedSectionVars false
namespace Go.Proofs.Ytgkfampgofjkfaa
open Go.RowKit


theorem ulEP : Try.prog.underlying 66 = some (.slice (Try.prog.elem 66)) := by kernel_rfl
theorem szEP : (Try.prog.info? (Try.prog.elem 66)).map (fun i => i.size) = some 1 := by kernel_rfl
theorem specPairsR_any (w : World) (v : Value) (p : List Int) (h : Rd w v p) (hp : p.length ≤ 256) : Calls Try.prog 61 #[v] w (RetR w (plist p p.length)) :=
  (specPairs_any w v p h hp).mono fun e w' ⟨g, cap, h1, h2, h3⟩ => ⟨_, h1, h2, h3⟩
theorem compS_def (c : Cat) (q : List Int) (f g : Nat) : [c.th (c.th (f : Int) (at0 q 0)) (g : Int), c.th (c.th (f : Int) (at0 q 1)) (g : Int)] = compS c q f g := rfl
/-- What a pair of arrows has, all as inequalities. -/
theorem parL_at {c : Cat} {ps : List (List Int)} (h : ParL c ps) {k : Nat} (hk : k < ps.length) : (row2 ps (k : Int)).length = 2 ∧ (0 ≤ at0 (row2 ps (k : Int)) 0 ∧ at0 (row2 ps (k : Int)) 0 < c.s.length) ∧ (0 ≤ at0 (row2 ps (k : Int)) 1 ∧ at0 (row2 ps (k : Int)) 1 < c.s.length) ∧ at0 c.s (at0 (row2 ps (k : Int)) 0) = at0 c.s (at0 (row2 ps (k : Int)) 1) ∧ at0 c.t (at0 (row2 ps (k : Int)) 0) = at0 c.t (at0 (row2 ps (k : Int)) 1) := by
  have hq := h _ (row2_memL hk)
  obtain ⟨e0, e1, l0, l1⟩ := pair_at hq.1
  rw [e0, e1]
  exact ⟨hq.1.1, by omega, by omega, hq.2⟩
noncomputable def fIsCongruence (c : Cat) (p : List Int) : Bool × Int := if fIsCategory c = true then (bP (congM c p), 0) else (false, 1)
theorem cg_f {c : Cat} {p : List Int} (h : fIsCategory c = false) : fIsCongruence c p = (false, 1) := if_neg (by rw [h]; decide)
theorem cg_t {c : Cat} {p : List Int} (h : fIsCategory c = true) : fIsCongruence c p = (bP (congM c p), 0) := if_pos h

theorem plist_at {p : List Int} {k : Nat} (hk : k < p.length) : (row2 (plist p p.length) (k : Int)).length = 2 ∧ at0 (row2 (plist p p.length) (k : Int)) 0 = (lfN p k : Int) ∧ at0 (row2 (plist p p.length) (k : Int)) 1 = (k : Int) := by
  have h : row2 (plist p p.length) (k : Int) = [(lfN p k : Int), (k : Int)] := by simp [row2, plist, List.getD_eq_getElem?_getD, List.getElem?_eq_getElem, hk, lfN, at0_nat]
  rw [h]; exact ⟨rfl, rfl, rfl⟩

set_option maxHeartbeats 1000000 in
set_option maxRecDepth 100000 in
theorem leastsP_any (w : World) (v : Value) (p : List Int) (h : Rd w v p) (hp : p = clsOf p) :
    Calls Try.prog 74 #[v] w (RetL w (lstL p (nC p p.length))) := by
  obtain ⟨va, vc, rfl⟩ := rd_form h
  have hxl : p.length ≤ 17592186044415 := by obtain ⟨_, _, _, hl, _⟩ := h; exact hl
  go_enter Try.func74, Try.ntmps74
  refine gc_enter (N := 23) rfl (look_cons (k := 0) rfl (look_nil _)) ?_
  refine gc_seq fun K1 hK1 => ?_
  refine gc_region ?_
  refine g_v (.free rfl) rfl rfl (qt_assign rfl rfl) ?_
  refine g_nil ?_
  refine gk_then (hK1 _ _ ?_)
  refine gc_seq fun K2 hK2 => ?_
  refine gc_region ?_
  refine g_v (.free rfl) rfl rfl (qt_assign rfl rfl) ?_
  refine g_nil ?_
  refine gk_then (hK2 _ _ ?_)
  refine gc_seq fun K3 hK3 => ?_
  refine gc_seq fun K4 hK4 => ?_
  refine gc_region ?_
  refine g_v (.free rfl) rfl rfl (qt_move rfl rfl) ?_
  refine g_v (.free rfl) rfl rfl (qt_len rfl rfl ulEP (fun w M => lenV_rd h)) ?_
  refine g_v (.free rfl) rfl rfl (qt_move rfl rfl) ?_
  refine g_nil ?_
  refine gk_then (hK4 _ _ ?_)
  refine gc_block ?_
  refine gc_nilS ?_
  try simp only [List.nil_append, List.cons_append, List.append_assoc, List.set_cons_succ, List.set_cons_zero]
  refine gc_loop ([(0, _), (2, _), (6, _), (7, _)] : Env) (fun s : Nat × (Option Addr) × Nat => (fun (k : Nat) (a : Option Addr) (q : Nat) => ([(3, .slice a (lstL p (nC p k)).length q), (8, .int .i64 (k : Int))] : Env)) s.1 s.2.1 s.2.2) (fun s : Nat × (Option Addr) × Nat => (fun (k : Nat) (a : Option Addr) (q : Nat) => ([(0, own1I (.slice a (lstL p (nC p k)).length q) (lstL p (nC p k)))] : List (Nat × Itm))) s.1 s.2.1 s.2.2) (fun s : Nat × (Option Addr) × Nat => (fun (k : Nat) (a : Option Addr) (q : Nat) => k ≤ p.length) s.1 s.2.1 s.2.2) (fun s : Nat × (Option Addr) × Nat => (fun (k : Nat) (a : Option Addr) (q : Nat) => p.length - k) s.1 s.2.1 s.2.2) (0, _, _) (sub_cons rfl (sub_cons rfl (sub_cons rfl (sub_cons rfl (sub_cons rfl (sub_cons rfl sub_nil)))))) rfl (Nat.zero_le _) ?_
  rintro ⟨k, a, q⟩ hinv KL5 hKL5
  simp only [updL, List.foldl_cons, List.foldl_nil, List.set_cons_succ, List.set_cons_zero, List.cons_append, List.nil_append] at hinv hKL5 ⊢
  have hk := hinv
  have hl := lstL_len p (nC p k)
  have hn := nC_le p k
  refine gc_seq fun K6 hK6 => ?_
  refine gc_region ?_
  refine g_v (.free rfl) rfl rfl (qt_lss rfl rfl rfl) ?_
  refine g_nil ?_
  refine gk_then (hK6 _ _ ?_)
  refine gc_seq fun K7 hK7 => ?_
  refine gc_cond rfl (fun hc0 => ?_) (fun hc0 => ?_)
  · try simp only [decide_eq_true_eq, decide_eq_false_iff_not, Bool.not_eq_true', Bool.not_eq_false', Bool.not_eq_eq_eq_not, Bool.not_true, Bool.not_false, ne_eq, Decidable.not_not, Classical.not_not] at hc0
    refine gc_skip ?_
    refine gk_then (hK7 _ _ ?_)
    refine gc_seq fun K8 hK8 => ?_
    refine gc_block ?_
    refine gc_seq fun K9 hK9 => ?_
    refine gc_region ?_
    refine g_v (.free rfl) rfl rfl (qt_move rfl rfl) ?_
    refine g_v (.free rfl) rfl rfl (qt_index rfl rfl rfl ulEP szEP (fun w M => lenA_rd h) (by omega) (by omega)) ?_
    refine g_v (.free rfl) rfl rfl (qt_load1 rfl rfl Try.underlying2 rfl (fun w M => mem_rd M h) (by omega) (by omega)) ?_
    refine g_v (.free rfl) rfl rfl (qt_assign rfl rfl) ?_
    refine g_v (.free rfl) rfl rfl (qt_assign rfl rfl) ?_
    refine g_nil ?_
    refine gk_then (hK9 _ _ ?_)
    refine gc_seq fun K10 hK10 => ?_
    refine gc_region ?_
    refine g_v (.free rfl) rfl rfl (qt_move rfl rfl) ?_
    refine g_v (.free rfl) rfl rfl (qt_move rfl rfl) ?_
    refine g_v (.free rfl) rfl rfl (qt_len rfl rfl ulE1 (fun w M => lenV_own1 (n := 0) rfl M)) ?_
    refine g_v (.free rfl) rfl rfl (qt_eql rfl rfl rfl) ?_
    refine g_nil ?_
    refine gk_then (hK10 _ _ ?_)
    refine gc_cond rfl (fun hc1 => ?_) (fun hc1 => ?_)
    · try simp only [decide_eq_true_eq, decide_eq_false_iff_not, Bool.not_eq_true', Bool.not_eq_false', Bool.not_eq_eq_eq_not, Bool.not_true, Bool.not_false, ne_eq, Decidable.not_not, Classical.not_not] at hc1
      refine gc_region ?_
      refine g_v (.free rfl) rfl rfl (qt_move rfl rfl) ?_
      refine g_v (.free rfl) rfl rfl (qt_move rfl rfl) ?_
      refine g_op (.free rfl) fun K12 hK12 => ?_
      refine go_slice1 rfl rfl rfl rfl Try.underlying22 ?_
      intro B11
      refine hK12 _ _ ?_
      refine g_op (.free rfl) fun K14 hK14 => ?_
      refine go_append (n := 0) (m := 1) rfl rfl rfl Try.underlying22 rfl rfl rfl rfl (by omega) ?_
      intro va13 vc13
      refine hK14 _ _ ?_
      refine g_v (.free rfl) rfl rfl (qt_assign rfl rfl) ?_
      refine g_nil ?_
      refine gk_block ?_
      refine gk_then (hK8 _ _ ?_)
      refine gc_region ?_
      refine g_v (.free rfl) rfl rfl (qt_add rfl rfl rfl (by omega)) ?_
      refine g_v (.free rfl) rfl rfl (qt_move rfl rfl) ?_
      refine g_nil ?_
      simp only [lst_t hp (k := k) (by omega) (by assumption)]
      refine gk_then (gk_take 1 ?_)
      refine gk_sub ?hs_15 (hKL5 (k + 1, _, _) ?hi_15 ?hm_15)
      case hs_15 => exact (sub_cons rfl (sub_cons rfl (sub_cons rfl (sub_cons rfl (sub_cons rfl (sub_cons rfl sub_nil))))))
      case hi_15 => omega
      case hm_15 => omega
    · try simp only [decide_eq_true_eq, decide_eq_false_iff_not, Bool.not_eq_true', Bool.not_eq_false', Bool.not_eq_eq_eq_not, Bool.not_true, Bool.not_false, ne_eq, Decidable.not_not, Classical.not_not] at hc1
      refine gc_skip ?_
      refine gk_block ?_
      refine gk_then (hK8 _ _ ?_)
      refine gc_region ?_
      refine g_v (.free rfl) rfl rfl (qt_add rfl rfl rfl (by omega)) ?_
      refine g_v (.free rfl) rfl rfl (qt_move rfl rfl) ?_
      refine g_nil ?_
      rw [lst_f hp (k := k) (by omega) (by assumption)]
      refine gk_then (gk_take 1 ?_)
      refine gk_sub ?hs_16 (hKL5 (k + 1, _, _) ?hi_16 ?hm_16)
      case hs_16 => exact (sub_cons rfl (sub_cons rfl (sub_cons rfl (sub_cons rfl (sub_cons rfl (sub_cons rfl sub_nil))))))
      case hi_16 => omega
      case hm_16 => omega
  · try simp only [decide_eq_true_eq, decide_eq_false_iff_not, Bool.not_eq_true', Bool.not_eq_false', Bool.not_eq_eq_eq_not, Bool.not_true, Bool.not_false, ne_eq, Decidable.not_not, Classical.not_not] at hc0
    refine gc_exit ?_
    refine gk_then_exit ?_
    refine gk_then_exit ?_
    refine gk_block_hit ?_
    refine gk_then (hK3 _ _ ?_)
    refine gc_seq fun K17 hK17 => ?_
    refine gc_region ?_
    refine g_v (.free rfl) rfl rfl (qt_move rfl rfl) ?_
    refine g_v (.free rfl) rfl rfl (qt_assign rfl rfl) ?_
    refine g_nil ?_
    refine gk_then (hK17 _ _ ?_)
    refine gc_ret ?_
    refine ret_1 rfl rfl  (fun w M => ?_)
    obtain rfl : k = p.length := by omega
    exact ⟨_, rfl, mem_own1 (n := 0) M rfl, M.1⟩

end Go.Proofs.Ytgkfampgofjkfaa
