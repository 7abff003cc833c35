
/- Composites of arrows: the model's and the program's. -/
import Derived.Test.YtpfcfhjpgngneabCopy
import Derived.Test.YtpfcfhjpgngneabHom
set_option linter.unusedSimpArgs false
set_option linter.unusedVariables false
set_option linter.unusedSectionVars false
namespace Go.Proofs.Ytpfcfhjpgngneab
open Go.RowKit


noncomputable def arrErr (c : Cat) (xs : List Int) : Int := if fIsCategory c = true then (if AllP c.s.length xs then 0 else 2) else 1
noncomputable def objErr (c : Cat) (xs : List Int) : Int := if fIsCategory c = true then (if AllP c.ob xs then 0 else 2) else 1
theorem arrErr_f {c : Cat} {xs : List Int} (h : fIsCategory c = false) : arrErr c xs = 1 := by unfold arrErr; rw [if_neg (by rw [h]; decide)]
theorem arrErr_r {c : Cat} {xs : List Int} (h : fIsCategory c = true) (hp : ¬ AllP c.s.length xs) : arrErr c xs = 2 := by unfold arrErr; rw [if_pos h, if_neg hp]
theorem arrErr_t {c : Cat} {xs : List Int} (h : fIsCategory c = true) (hp : AllP c.s.length xs) : arrErr c xs = 0 := by unfold arrErr; rw [if_pos h, if_pos hp]
theorem objErr_f {c : Cat} {xs : List Int} (h : fIsCategory c = false) : objErr c xs = 1 := by unfold objErr; rw [if_neg (by rw [h]; decide)]
theorem objErr_r {c : Cat} {xs : List Int} (h : fIsCategory c = true) (hp : ¬ AllP c.ob xs) : objErr c xs = 2 := by unfold objErr; rw [if_pos h, if_neg hp]
theorem objErr_t {c : Cat} {xs : List Int} (h : fIsCategory c = true) (hp : AllP c.ob xs) : objErr c xs = 0 := by unfold objErr; rw [if_pos h, if_pos hp]
theorem arrErr_0 {c : Cat} {xs : List Int} (h : arrErr c xs = 0) : IsCat c ∧ AllP c.s.length xs := by
  cases hI : fIsCategory c with
  | false => rw [arrErr_f hI] at h; simp at h
  | true =>
    by_cases hp : AllP c.s.length xs
    · exact ⟨isCat_of hI, hp⟩
    · rw [arrErr_r hI hp] at h; simp at h
theorem objErr_0 {c : Cat} {xs : List Int} (h : objErr c xs = 0) : IsCat c ∧ AllP c.ob xs := by
  cases hI : fIsCategory c with
  | false => rw [objErr_f hI] at h; simp at h
  | true =>
    by_cases hp : AllP c.ob xs
    · exact ⟨isCat_of hI, hp⟩
    · rw [objErr_r hI hp] at h; simp at h
noncomputable def arrCat (c : Cat) (xs : List Int) : Cat := if arrErr c xs = 0 then c else cat0
noncomputable def objCat (c : Cat) (xs : List Int) : Cat := if objErr c xs = 0 then c else cat0
theorem arrCat_t {c : Cat} {xs : List Int} (h : arrErr c xs = 0) : arrCat c xs = c := if_pos h
theorem objCat_t {c : Cat} {xs : List Int} (h : objErr c xs = 0) : objCat c xs = c := if_pos h
theorem readArrows_any (w : World) (v u : Value) (c : Cat) (xs : List Int) (h : RdC w v c) (hu : Rd w u xs) : Calls Try.prog 88 #[v, u] w (RetCI w (arrCat c xs) (arrErr c xs)) := by
  cases hI : fIsCategory c with
  | false => rw [arrErr_f hI, show arrCat c xs = cat0 from if_neg (by rw [arrErr_f hI]; decide)]; exact readArrows_f w v u c xs h hu hI
  | true =>
    by_cases hp : AllP c.s.length xs
    · rw [arrErr_t hI hp, arrCat_t (arrErr_t hI hp)]; exact readArrows_t w v u c xs h hu hI hp
    · rw [arrErr_r hI hp, show arrCat c xs = cat0 from if_neg (by rw [arrErr_r hI hp]; decide)]; exact readArrows_r w v u c xs h hu hI hp
noncomputable def fCompositeOf (c : Cat) (f g : Int) : Int × Int := if arrErr c [f, g] = 0 then (if at0 c.t f = at0 c.s g then (c.th f g, 0) else (0, 5)) else (0, arrErr c [f, g])
theorem comp_err {c : Cat} {f g : Int} (h : arrErr c [f, g] ≠ 0) : fCompositeOf c f g = (0, arrErr c [f, g]) := if_neg h
theorem comp_s {c : Cat} {f g : Int} (h : arrErr c [f, g] = 0) (h' : at0 c.t f ≠ at0 c.s g) : fCompositeOf c f g = (0, 5) := by unfold fCompositeOf; rw [if_pos h, if_neg h']
theorem comp_t {c : Cat} {f g : Int} (h : arrErr c [f, g] = 0) (h' : at0 c.t f = at0 c.s g) : fCompositeOf c f g = (c.th f g, 0) := by unfold fCompositeOf; rw [if_pos h, if_pos h']
theorem th_none {c : Cat} (hS : ShapeP c) {f g : Int} (f0 : 0 ≤ f) (f1 : f < c.s.length) (g0 : 0 ≤ g) (g1 : g < c.s.length) : c.th f g = -1 ↔ at0 c.t f ≠ at0 c.s g := by
  obtain ⟨a, rfl⟩ := Int.eq_ofNat_of_zero_le f0
  obtain ⟨b, rfl⟩ := Int.eq_ofNat_of_zero_le g0
  have hc := hS.co a b (by omega) (by omega)
  constructor
  · intro h he
    have := (hc.1 he).1.1
    omega
  · exact hc.2

set_option maxHeartbeats 1000000 in
set_option maxRecDepth 100000 in
theorem specarr_any (w : World) (v u : Value) (c : Cat) (xs : List Int) (h : RdC w v c) (hu : Rd w u xs) :
    Calls Try.prog 84 #[v, u] w (RetI w (arrErr c xs)) := by
  have h0 := h
  obtain ⟨va, vb, vc, vd, ve, vf, vg, vh, rfl, h1, h2, h3, h4, _⟩ := h.lists
  obtain ⟨ua, uc, rfl⟩ := rd_form hu
  go_enter Try.func84, Try.ntmps84
  refine gc_enter (N := 14) rfl (look_cons (k := 0) rfl (look_cons (k := 1) rfl (look_nil _))) ?_
  refine gc_seq fun K1 hK1 => ?_
  refine gc_region ?_
  refine g_op (.free rfl) fun K3 hK3 => ?_
  refine go_box rfl rfl rfl rfl rfl ?_
  intro B2
  refine hK3 _ _ ?_
  refine g_v (.free rfl) rfl rfl (qt_assign rfl rfl) ?_
  refine g_nil ?_
  refine gk_then (hK1 _ _ ?_)
  refine gc_seq fun K4 hK4 => ?_
  refine gc_seq fun K5 hK5 => ?_
  refine gc_region ?_
  refine g_v (.free rfl) rfl rfl (qt_loadS (n := 0) rfl rfl Try.underlying29 rfl (by kernel_rfl) rfl) ?_
  refine g_q (.free rfl) rfl rfl (qt_call rfl Try.func104 rfl (by decide) rfl (fun w M => specIs_any w _ _ (mem_rdC M h0))) ?_
  refine g_v (.free rfl) rfl rfl (qt_not rfl rfl) ?_
  refine g_nil ?_
  refine gk_then (hK5 _ _ ?_)
  refine gc_cond rfl (fun hc0 => ?_) (fun hc0 => ?_)
  · try simp only [decide_eq_true_eq, decide_eq_false_iff_not, Bool.not_eq_true', Bool.not_eq_false', Bool.not_eq_eq_eq_not, Bool.not_true, Bool.not_false, ne_eq, Decidable.not_not, Classical.not_not] at hc0
    refine gc_seq fun K6 hK6 => ?_
    refine gc_region ?_
    refine g_v (.free rfl) rfl rfl (qt_assign rfl rfl) ?_
    refine g_nil ?_
    refine gk_then (hK6 _ _ ?_)
    refine gc_ret ?_
    refine gk_then_ret ?_
    refine ret_1 rfl rfl  (fun w M => ?_)
    rw [arrErr_f hc0]; exact ⟨rfl, M.1⟩
  · try simp only [decide_eq_true_eq, decide_eq_false_iff_not, Bool.not_eq_true', Bool.not_eq_false', Bool.not_eq_eq_eq_not, Bool.not_true, Bool.not_false, ne_eq, Decidable.not_not, Classical.not_not] at hc0
    refine gc_skip ?_
    refine gk_then (hK4 _ _ ?_)
    refine gc_seq fun K7 hK7 => ?_
    refine gc_seq fun K8 hK8 => ?_
    refine gc_region ?_
    refine g_v (.free rfl) rfl rfl (qt_field (z := 0) rfl rfl Try.underlying29 rfl (by kernel_rfl) rfl) ?_
    refine g_v (.free rfl) rfl rfl (qt_loadB (n := 0) rfl rfl Try.underlying22 rfl rfl rfl) ?_
    refine g_v (.free rfl) rfl rfl (qt_len rfl rfl ulE1 (fun w M => lenV_rd h1)) ?_
    refine g_v (.free rfl) rfl rfl (qt_move rfl rfl) ?_
    refine g_q (.free rfl) rfl rfl (qt_call rfl Try.func128 rfl (by decide) rfl (fun w M => specMap_any w _ _ _ _ (mem_rd M hu) rfl)) ?_
    refine g_v (.free rfl) rfl rfl (qt_not rfl rfl) ?_
    refine g_nil ?_
    refine gk_then (hK8 _ _ ?_)
    refine gc_cond rfl (fun hc1 => ?_) (fun hc1 => ?_)
    · try simp only [decide_eq_true_eq, decide_eq_false_iff_not, Bool.not_eq_true', Bool.not_eq_false', Bool.not_eq_eq_eq_not, Bool.not_true, Bool.not_false, ne_eq, Decidable.not_not, Classical.not_not] at hc1
      refine gc_seq fun K9 hK9 => ?_
      refine gc_region ?_
      refine g_v (.free rfl) rfl rfl (qt_assign rfl rfl) ?_
      refine g_nil ?_
      refine gk_then (hK9 _ _ ?_)
      refine gc_ret ?_
      refine gk_then_ret ?_
      refine ret_1 rfl rfl  (fun w M => ?_)
      rw [arrErr_r hc0 hc1]; exact ⟨rfl, M.1⟩
    · try simp only [decide_eq_true_eq, decide_eq_false_iff_not, Bool.not_eq_true', Bool.not_eq_false', Bool.not_eq_eq_eq_not, Bool.not_true, Bool.not_false, ne_eq, Decidable.not_not, Classical.not_not] at hc1
      refine gc_skip ?_
      refine gk_then (hK7 _ _ ?_)
      refine gc_seq fun K10 hK10 => ?_
      refine gc_region ?_
      refine g_v (.free rfl) rfl rfl (qt_assign rfl rfl) ?_
      refine g_nil ?_
      refine gk_then (hK10 _ _ ?_)
      refine gc_ret ?_
      refine ret_1 rfl rfl  (fun w M => ?_)
      rw [arrErr_t hc0 hc1]; exact ⟨rfl, M.1⟩

set_option maxHeartbeats 1000000 in
set_option maxRecDepth 100000 in
theorem specThen_any (w : World) (v : Value) (c : Cat) (f g : Int) (h : RdC w v c) (f0 : 0 ≤ f) (f1 : f < c.m.length) (g0 : 0 ≤ g) (g1 : g < (row2 c.m f).length) :
    Calls Try.prog 158 #[v, .int .i64 f, .int .i64 g] w (RetI w (c.th f g)) := by
  have h0 := h
  obtain ⟨va, vb, vc, vd, ve, vf, vg, vh, rfl, h1, h2, h3, h4, _⟩ := h.lists
  go_enter Try.func158, Try.ntmps158
  refine gc_enter (N := 15) rfl (look_cons (k := 0) rfl (look_cons (k := 1) rfl (look_cons (k := 2) rfl (look_nil _)))) ?_
  refine gc_seq fun K1 hK1 => ?_
  refine gc_region ?_
  refine g_op (.free rfl) fun K3 hK3 => ?_
  refine go_box rfl rfl rfl rfl rfl ?_
  intro B2
  refine hK3 _ _ ?_
  refine g_v (.free rfl) rfl rfl (qt_assign rfl rfl) ?_
  refine g_nil ?_
  refine gk_then (hK1 _ _ ?_)
  refine gc_seq fun K4 hK4 => ?_
  refine gc_region ?_
  refine g_v (.free rfl) rfl rfl (qt_field (z := 0) rfl rfl Try.underlying29 rfl (by kernel_rfl) rfl) ?_
  refine g_v (.free rfl) rfl rfl (qt_loadB (n := 0) rfl rfl Try.underlying23 rfl rfl rfl) ?_
  refine g_v (.free rfl) rfl rfl (qt_move rfl rfl) ?_
  refine g_v (.free rfl) rfl rfl (qt_index rfl rfl rfl ulE2 szE2 (fun w M => lenA_rd2 h4) (by omega) (by omega)) ?_
  refine g_load2 (.free rfl) rfl rfl rfl rfl Try.underlying22 rfl h4 (by omega) (by omega) ?_
  intro ra5 rc5 hr5
  refine g_v (.free rfl) rfl rfl (qt_move rfl rfl) ?_
  refine g_v (.free rfl) rfl rfl (qt_index rfl rfl rfl ulE1 szE1 (fun w M => lenA_rd hr5) (by omega) (by omega)) ?_
  refine g_v (.free rfl) rfl rfl (qt_load1 rfl rfl Try.underlying2 rfl (fun w M => mem_rd M hr5) (by omega) (by omega)) ?_
  refine g_v (.free rfl) rfl rfl (qt_assign rfl rfl) ?_
  refine g_nil ?_
  refine gk_then (hK4 _ _ ?_)
  refine gc_ret ?_
  refine ret_1 rfl rfl  (fun w M => ?_)
  exact ⟨rfl, M.1⟩

end Go.Proofs.Ytpfcfhjpgngneab
