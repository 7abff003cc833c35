
/- One functor behind another: both sides. -/
import Derived.Test.YtfnneogadciimabFunM
import Derived.Test.YtfnneogadciimabFunL
import Derived.Test.YtfnneogadciimabThE
import Derived.Test.YtfnneogadciimabThen
set_option linter.unusedSimpArgs false
set_option linter.unusedVariables false
set_option linter.unusedSectionVars false
namespace Go.Proofs.Ytfnneogadciimab
open Go.RowKit


def thenF (F G : Fct) : Fct := ⟨F.S, G.T, thenL F.o G.o, thenL F.a G.a⟩
noncomputable def fThenFunctors (F G : Fct) : Fct × Int := if twoFE F G = 0 then (if bP (F.T = G.S) = true then (thenF F G, 0) else (fct0, 5)) else (fct0, 1)
theorem thf_t {F G : Fct} (h : twoFE F G = 0) (h' : F.T = G.S) : fThenFunctors F G = (thenF F G, 0) := by unfold fThenFunctors; rw [if_pos h, if_pos (bP_t h')]
theorem thf_s {F G : Fct} (h : twoFE F G = 0) (h' : ¬ F.T = G.S) : fThenFunctors F G = (fct0, 5) := by unfold fThenFunctors; rw [if_pos h, if_neg (by rw [bP_f h']; decide)]
theorem thf_f {F G : Fct} (h : ¬ twoFE F G = 0) : fThenFunctors F G = (fct0, 1) := if_neg h
theorem thenL_len (f g : List Int) : (thenL f g).length = f.length := by simp [thenL]
theorem thenL_tab (f g : List Int) : tabTo (fun j => at0 g (at0 f (j : Int))) f.length = thenL f g := tab_map (fun y => at0 g y) f
theorem isf_lens {F : Fct} (h : fIsFunctor F = true) : F.o.length ≤ 8 ∧ F.a.length ≤ 40 ∧ mzC F.S ≤ 1720 ∧ mzC F.T ≤ 1720 := by
  have hF := isf_of h
  have hS := (isCat_of hF.cs).toShapeP
  have h1 := hS.ob8; have h2 := hS.n40; have h3 := hF.lo; have h4 := hF.la
  exact ⟨by omega, by omega, mz_cat hF.cs, mz_cat hF.ct⟩
theorem bound_ThenFunctors (F G : Fct) : mzF (fThenFunctors F G).1 ≤ 3500000000000000 := by
  by_cases h : twoFE F G = 0
  · by_cases h' : F.T = G.S
    · have h1 := isf_lens (twoFE_0 h).1; have h2 := isf_lens (twoFE_0 h).2
      rw [thf_t h h']
      show mzC F.S + mzC G.T + (thenL F.o G.o).length + (thenL F.a G.a).length ≤ _
      rw [thenL_len, thenL_len]; omega
    · rw [thf_s h h']; decide
  · rw [thf_f h]; decide

set_option maxHeartbeats 1000000 in
set_option maxRecDepth 100000 in
theorem imagesOf_any (w : World) (v : Value) (f : List Int) (u : Value) (g : List Int) (hf : Rd w v f) (hg : Rd w u g) (ha : AllP g.length f) :
    Calls Try.prog 81 #[v, u] w (RetL w (thenL f g)) := by
  obtain ⟨va, vc, rfl⟩ := rd_form hf
  obtain ⟨ua, uc, rfl⟩ := rd_form hg
  have hfl : f.length ≤ 17592186044415 := by obtain ⟨_, _, _, hl, _⟩ := hf; exact hl
  go_enter Try.func81, Try.ntmps81
  refine gc_enter (N := 27) rfl (look_cons (k := 0) rfl (look_cons (k := 1) rfl (look_nil _))) ?_
  refine gc_seq fun K1 hK1 => ?_
  refine gc_region ?_
  refine g_v (.free rfl) rfl rfl (qt_assign rfl rfl) ?_
  refine g_nil ?_
  refine gk_then (hK1 _ _ ?_)
  refine gc_seq fun K2 hK2 => ?_
  refine gc_region ?_
  refine g_v (.free rfl) rfl rfl (qt_move rfl rfl) ?_
  refine g_v (.free rfl) rfl rfl (qt_len rfl rfl ulE1 (fun w M => lenV_rd hf)) ?_
  refine g_op (.free rfl) fun K4 hK4 => ?_
  refine go_make1 rfl rfl rfl Try.underlying22 rfl rfl (by omega) ?_
  intro B3
  refine hK4 _ _ ?_
  refine g_v (.free rfl) rfl rfl (qt_assign rfl rfl) ?_
  refine g_nil ?_
  refine gk_then (hK2 _ _ ?_)
  refine gc_seq fun K5 hK5 => ?_
  refine gc_seq fun K6 hK6 => ?_
  refine gc_region ?_
  refine g_v (.free rfl) rfl rfl (qt_move rfl rfl) ?_
  refine g_v (.free rfl) rfl rfl (qt_len rfl rfl ulE1 (fun w M => lenV_rd hf)) ?_
  refine g_v (.free rfl) rfl rfl (qt_move rfl rfl) ?_
  refine g_nil ?_
  refine gk_then (hK6 _ _ ?_)
  refine gc_block ?_
  rw [fillTo_zero (fun j => at0 g (at0 f (j : Int))) f.length]
  try simp only [List.nil_append, List.cons_append, List.append_assoc, List.set_cons_succ, List.set_cons_zero]
  refine gc_loop ([(0, _), (1, _), (4, _), (5, _), (11, _), (12, _)] : Env) (fun s : Nat => (fun (k : Nat) => ([(13, .int .i64 (k : Int))] : Env)) s) (fun s : Nat => (fun (k : Nat) => ([(0, own1I (.slice (some ⟨B3, 0, none⟩) f.length f.length) (fillTo (fun j => at0 g (at0 f (j : Int))) f.length k))] : List (Nat × Itm))) s) (fun s : Nat => (fun (k : Nat) => k ≤ f.length) s) (fun s : Nat => (fun (k : Nat) => f.length - k) s) (0) (sub_cons rfl (sub_cons rfl (sub_cons rfl (sub_cons rfl (sub_cons rfl (sub_cons rfl (sub_cons rfl sub_nil))))))) rfl (Nat.zero_le _) ?_
  rintro k hinv KL7 hKL7
  simp only [updL, List.foldl_cons, List.foldl_nil, List.set_cons_succ, List.set_cons_zero, List.cons_append, List.nil_append] at hinv hKL7 ⊢
  have hk := hinv
  have hfl2 := fillTo_len (fun j => at0 g (at0 f (j : Int))) f.length k
  refine gc_seq fun K8 hK8 => ?_
  refine gc_region ?_
  refine g_v (.free rfl) rfl rfl (qt_lss rfl rfl rfl) ?_
  refine g_nil ?_
  refine gk_then (hK8 _ _ ?_)
  refine gc_seq fun K9 hK9 => ?_
  refine gc_cond rfl (fun hc0 => ?_) (fun hc0 => ?_)
  · try simp only [decide_eq_true_eq, decide_eq_false_iff_not, Bool.not_eq_true', Bool.not_eq_false', Bool.not_eq_eq_eq_not, Bool.not_true, Bool.not_false, ne_eq, Decidable.not_not, Classical.not_not] at hc0
    refine gc_skip ?_
    refine gk_then (hK9 _ _ ?_)
    refine gc_seq fun K10 hK10 => ?_
    refine gc_block ?_
    refine gc_seq fun K11 hK11 => ?_
    refine gc_region ?_
    refine g_v (.free rfl) rfl rfl (qt_move rfl rfl) ?_
    refine g_v (.free rfl) rfl rfl (qt_index rfl rfl rfl ulE1 szE1 (fun w M => lenA_rd hf) (by omega) (by omega)) ?_
    refine g_v (.free rfl) rfl rfl (qt_load1 rfl rfl Try.underlying2 rfl (fun w M => mem_rd M hf) (by omega) (by omega)) ?_
    refine g_v (.free rfl) rfl rfl (qt_assign rfl rfl) ?_
    refine g_v (.free rfl) rfl rfl (qt_assign rfl rfl) ?_
    refine g_nil ?_
    refine gk_then (hK11 _ _ ?_)
    have hk1 := allP_at ha (k := k) (by omega)
    refine gc_region ?_
    refine g_v (.free rfl) rfl rfl (qt_move rfl rfl) ?_
    refine g_v (.free rfl) rfl rfl (qt_move rfl rfl) ?_
    refine g_v (.free rfl) rfl rfl (qt_move rfl rfl) ?_
    refine g_v (.free rfl) rfl rfl (qt_move rfl rfl) ?_
    refine g_v (.free rfl) rfl rfl (qt_index rfl rfl rfl ulE1 szE1 (fun w M => lenA_rd hg) (by omega) (by omega)) ?_
    refine g_v (.free rfl) rfl rfl (qt_load1 rfl rfl Try.underlying2 rfl (fun w M => mem_rd M hg) (by omega) (by omega)) ?_
    refine g_v (.free rfl) rfl rfl (qt_index rfl rfl rfl ulE1 szE1 (fun w M => lenA_own1 (n := 0) rfl M) (by omega) (by omega)) ?_
    refine g_op (.free rfl) fun K12 hK12 => ?_
    refine go_store1 (n := 0) rfl rfl rfl rfl (by kernel_rfl) rfl (by omega) (by omega) ?_
    refine hK12 _ _ ?_
    refine g_nil ?_
    refine gk_block ?_
    refine gk_then (hK10 _ _ ?_)
    refine gc_region ?_
    refine g_v (.free rfl) rfl rfl (qt_add rfl rfl rfl (by omega)) ?_
    refine g_v (.free rfl) rfl rfl (qt_move rfl rfl) ?_
    refine g_nil ?_
    rw [fillTo_set (φ := fun j => at0 g (at0 f (j : Int))) (by omega)]
    refine gk_then (gk_take 1 ?_)
    refine gk_sub ?hs_13 (hKL7 (k + 1) ?hi_13 ?hm_13)
    case hs_13 => exact (sub_cons rfl (sub_cons rfl (sub_cons rfl (sub_cons rfl (sub_cons rfl (sub_cons rfl (sub_cons rfl sub_nil)))))))
    case hi_13 => omega
    case hm_13 => omega
  · try simp only [decide_eq_true_eq, decide_eq_false_iff_not, Bool.not_eq_true', Bool.not_eq_false', Bool.not_eq_eq_eq_not, Bool.not_true, Bool.not_false, ne_eq, Decidable.not_not, Classical.not_not] at hc0
    refine gc_exit ?_
    refine gk_then_exit ?_
    refine gk_then_exit ?_
    refine gk_block_hit ?_
    refine gk_then (hK5 _ _ ?_)
    refine gc_seq fun K14 hK14 => ?_
    refine gc_region ?_
    refine g_v (.free rfl) rfl rfl (qt_move rfl rfl) ?_
    refine g_v (.free rfl) rfl rfl (qt_assign rfl rfl) ?_
    refine g_nil ?_
    refine gk_then (hK14 _ _ ?_)
    refine gc_ret ?_
    refine ret_1 rfl rfl  (fun w M => ?_)
    obtain rfl : k = f.length := by omega
    rw [fillTo_end, thenL_tab] at M
    exact ⟨_, rfl, mem_own1 (n := 0) M rfl, M.1⟩

end Go.Proofs.Ytfnneogadciimab
