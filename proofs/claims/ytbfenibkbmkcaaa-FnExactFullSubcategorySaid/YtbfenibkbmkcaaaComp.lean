
/- Composites of arrows: the model's and the program's. -/
import Derived.Test.YtbfenibkbmkcaaaShort
import Derived.Test.YtbfenibkbmkcaaaCopy
import Derived.Test.YtbfenibkbmkcaaaHom
set_option linter.unusedSimpArgs false
set_option linter.unusedVariables false
set_option linter.unusedSectionVars false
namespace Go.Proofs.Ytbfenibkbmkcaaa
open Go.RowKit


noncomputable def arrErr (c : Cat) (xs : List Int) : Int := if fIsCategory c = true then (if AllP c.s.length xs then 0 else 2) else 1
noncomputable def objErr (c : Cat) (xs : List Int) : Int := if fIsCategory c = true then (if AllP c.ob xs then 0 else 2) else 1
theorem arrErr_f {c : Cat} {xs : List Int} (h : fIsCategory c = false) : arrErr c xs = 1 := by unfold arrErr; rw [if_neg (by rw [h]; decide)]
theorem arrErr_r {c : Cat} {xs : List Int} (h : fIsCategory c = true) (hp : ¬ AllP c.s.length xs) : arrErr c xs = 2 := by unfold arrErr; rw [if_pos h, if_neg hp]
theorem arrErr_t {c : Cat} {xs : List Int} (h : fIsCategory c = true) (hp : AllP c.s.length xs) : arrErr c xs = 0 := by unfold arrErr; rw [if_pos h, if_pos hp]
theorem objErr_f {c : Cat} {xs : List Int} (h : fIsCategory c = false) : objErr c xs = 1 := by unfold objErr; rw [if_neg (by rw [h]; decide)]
theorem objErr_r {c : Cat} {xs : List Int} (h : fIsCategory c = true) (hp : ¬ AllP c.ob xs) : objErr c xs = 2 := by unfold objErr; rw [if_pos h, if_neg hp]
theorem objErr_t {c : Cat} {xs : List Int} (h : fIsCategory c = true) (hp : AllP c.ob xs) : objErr c xs = 0 := by unfold objErr; rw [if_pos h, if_pos hp]
theorem arrErr_0 {c : Cat} {xs : List Int} (h : arrErr c xs = 0) : IsCat c ∧ AllP c.s.length xs := by
 cases hI : fIsCategory c with
 | false => rw [arrErr_f hI] at h; simp at h
 | true =>
  by_cases hp : AllP c.s.length xs
  ·exact ⟨isCat_of hI, hp⟩
  ·rw [arrErr_r hI hp] at h; simp at h
theorem objErr_0 {c : Cat} {xs : List Int} (h : objErr c xs = 0) : IsCat c ∧ AllP c.ob xs := by
 cases hI : fIsCategory c with
 | false => rw [objErr_f hI] at h; simp at h
 | true =>
  by_cases hp : AllP c.ob xs
  ·exact ⟨isCat_of hI, hp⟩
  ·rw [objErr_r hI hp] at h; simp at h
noncomputable def arrCat (c : Cat) (xs : List Int) : Cat := if arrErr c xs = 0 then c else cat0
noncomputable def objCat (c : Cat) (xs : List Int) : Cat := if objErr c xs = 0 then c else cat0
theorem arrCat_t {c : Cat} {xs : List Int} (h : arrErr c xs = 0) : arrCat c xs = c := if_pos h
theorem objCat_t {c : Cat} {xs : List Int} (h : objErr c xs = 0) : objCat c xs = c := if_pos h
theorem readObjects_any (w : World) (v u : Value) (c : Cat) (xs : List Int) (h : RdC w v c) (hu : Rd w u xs) : Calls Try.prog 81 #[v, u] w (RetCI w (objCat c xs) (objErr c xs)) := by
 cases hI : fIsCategory c with
 | false => rw [objErr_f hI, show objCat c xs = cat0 from if_neg (by rw [objErr_f hI]; decide)]; exact readObjects_f w v u c xs h hu hI
 | true =>
  by_cases hp : AllP c.ob xs
  ·rw [objErr_t hI hp, objCat_t (objErr_t hI hp)]; exact readObjects_t w v u c xs h hu hI hp
  ·rw [objErr_r hI hp, show objCat c xs = cat0 from if_neg (by rw [objErr_r hI hp]; decide)]; exact readObjects_r w v u c xs h hu hI hp
noncomputable def fCompositeOf (c : Cat) (f g : Int) : Int × Int := if arrErr c [f, g] = 0 then (if at0 c.t f = at0 c.s g then (c.th f g, 0) else (0, 5)) else (0, arrErr c [f, g])
theorem comp_err {c : Cat} {f g : Int} (h : arrErr c [f, g] ≠ 0) : fCompositeOf c f g = (0, arrErr c [f, g]) := if_neg h
theorem comp_s {c : Cat} {f g : Int} (h : arrErr c [f, g] = 0) (h' : at0 c.t f ≠ at0 c.s g) : fCompositeOf c f g = (0, 5) := by unfold fCompositeOf; rw [if_pos h, if_neg h']
theorem comp_t {c : Cat} {f g : Int} (h : arrErr c [f, g] = 0) (h' : at0 c.t f = at0 c.s g) : fCompositeOf c f g = (c.th f g, 0) := by unfold fCompositeOf; rw [if_pos h, if_pos h']
theorem th_none {c : Cat} (hS : ShapeP c) {f g : Int} (f0 : 0 ≤ f) (f1 : f < c.s.length) (g0 : 0 ≤ g) (g1 : g < c.s.length) : c.th f g = -1 ↔ at0 c.t f ≠ at0 c.s g := by
 obtain ⟨a, rfl⟩ := Int.eq_ofNat_of_zero_le f0
 obtain ⟨b, rfl⟩ := Int.eq_ofNat_of_zero_le g0
 have hc := hS.co a b (by omega) (by omega)
 constructor
 ·intro h he
  have := (hc.1 he).1.1
  omega
 ·exact hc.2

set_option maxHeartbeats 1000000 in
set_option maxRecDepth 100000 in
theorem specobj_any (w : World) (v u : Value) (c : Cat) (xs : List Int) (h : RdC w v c) (hu : Rd w u xs) :
  Calls Try.prog 77 #[v, u] w (RetI w (objErr c xs)) := by
 have h0 := h
 obtain ⟨va, vb, vc, vd, ve, vf, vg, vh, rfl, h1, h2, h3, h4, _⟩ := h.lists
 obtain ⟨ua, uc, rfl⟩ := rd_form hu
 go_enter Try.func77, Try.ntmps77
 refine gc_enter (N := 13) rfl (look_cons (k := 0) rfl (look_cons (k := 1) rfl (look_nil _))) ?_
 refine gc_sr fun K1 hK1 => ?_
 refine gop fun K3 hK3 => ?_
 refine go_box rfl rfl rfl rfl rfl ?_
 intro B2
 refine hK3 _ _ ?_
 refine gas ?_
 refine gnt (hK1 _ _ ?_)
 refine gc_seq fun K4 hK4 => ?_
 refine gc_sr fun K5 hK5 => ?_
 refine gv (qts Try.underlying44 (n := 0)) ?_
 refine g_q (.free rfl) rfl rfl (qt_call rfl Try.func87 rfl (by decide) rfl (fun w M => specIs_any w _ _ (mem_rdC M h0))) ?_
 refine gv (qt_not rfl rfl) ?_
 refine gnt (hK5 _ _ ?_)
 refine gc_cond rfl (fun hc0 => ?_) (fun hc0 => ?_)
 ·try simp only [sA] at hc0
  refine gc_sr fun K6 hK6 => ?_
  refine gas ?_
  refine gnt (hK6 _ _ ?_)
  refine gc_ret ?_
  refine gk_then_ret ?_
  refine ret_1 rfl rfl  (fun w M => ?_)
  rw [objErr_f hc0]; exact ⟨rfl, M.1⟩
 ·try simp only [sA] at hc0
  refine gc_skip ?_
  refine gk_then (hK4 _ _ ?_)
  refine gc_seq fun K7 hK7 => ?_
  refine gc_sr fun K8 hK8 => ?_
  refine gv (qt_field (z := 0) rfl rfl Try.underlying44 rfl (by kernel_rfl) rfl) ?_
  refine gv (qtl Try.underlying2 (n := 0)) ?_
  refine gm ?_
  refine g_q (.free rfl) rfl rfl (qt_call rfl Try.func65 rfl (by decide) rfl (fun w M => specMap_any w _ _ _ _ (mem_rd M hu) rfl)) ?_
  refine gv (qt_not rfl rfl) ?_
  refine gnt (hK8 _ _ ?_)
  refine gc_cond rfl (fun hc1 => ?_) (fun hc1 => ?_)
  ·try simp only [sA] at hc1
   refine gc_sr fun K9 hK9 => ?_
   refine gas ?_
   refine gnt (hK9 _ _ ?_)
   refine gc_ret ?_
   refine gk_then_ret ?_
   refine ret_1 rfl rfl  (fun w M => ?_)
   rw [objErr_r hc0 hc1]; exact ⟨rfl, M.1⟩
  ·try simp only [sA] at hc1
   refine gc_skip ?_
   refine gk_then (hK7 _ _ ?_)
   refine gc_sr fun K10 hK10 => ?_
   refine gas ?_
   refine gnt (hK10 _ _ ?_)
   refine gc_ret ?_
   refine ret_1 rfl rfl  (fun w M => ?_)
   rw [objErr_t hc0 hc1]; exact ⟨rfl, M.1⟩

set_option maxHeartbeats 1000000 in
set_option maxRecDepth 100000 in
theorem specThen_any (w : World) (v : Value) (c : Cat) (f g : Int) (h : RdC w v c) (f0 : 0 ≤ f) (f1 : f < c.m.length) (g0 : 0 ≤ g) (g1 : g < (row2 c.m f).length) :
  Calls Try.prog 115 #[v, .int .i64 f, .int .i64 g] w (RetI w (c.th f g)) := by
 have h0 := h
 obtain ⟨va, vb, vc, vd, ve, vf, vg, vh, rfl, h1, h2, h3, h4, _⟩ := h.lists
 go_enter Try.func115, Try.ntmps115
 refine gc_enter (N := 15) rfl (look_cons (k := 0) rfl (look_cons (k := 1) rfl (look_cons (k := 2) rfl (look_nil _)))) ?_
 refine gc_sr fun K1 hK1 => ?_
 refine gop fun K3 hK3 => ?_
 refine go_box rfl rfl rfl rfl rfl ?_
 intro B2
 refine hK3 _ _ ?_
 refine gas ?_
 refine gnt (hK1 _ _ ?_)
 refine gc_sr fun K4 hK4 => ?_
 refine gv (qt_field (z := 0) rfl rfl Try.underlying44 rfl (by kernel_rfl) rfl) ?_
 refine gv (qtl Try.underlying32 (n := 0)) ?_
 refine gm ?_
 refine gv (qti2 (fun w M => lenA_rd2 h4)) ?_
 refine g_load2 (.free rfl) rfl rfl rfl rfl Try.underlying22 rfl h4 (by omega) (by omega) ?_
 intro ra5 rc5 hr5
 refine gm ?_
 refine gv (qti (fun w M => lenA_rd hr5)) ?_
 refine gv (qtd (fun w M => mem_rd M hr5)) ?_
 refine gas ?_
 refine gnt (hK4 _ _ ?_)
 refine gc_ret ?_
 refine ret_1 rfl rfl  (fun w M => ?_)
 exact ⟨rfl, M.1⟩

end Go.Proofs.Ytbfenibkbmkcaaa
