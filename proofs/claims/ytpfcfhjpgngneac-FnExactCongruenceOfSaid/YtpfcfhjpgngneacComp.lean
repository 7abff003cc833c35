
/- Composites of arrows: the model's and the program's. -/
import Derived.Test.YtpfcfhjpgngneacShort
import Derived.Test.YtpfcfhjpgngneacCopy
import Derived.Test.YtpfcfhjpgngneacHom
set_option linter.unusedSimpArgs false
set_option linter.unusedVariables false
set_option linter.unusedSectionVars false
namespace Go.Proofs.Ytpfcfhjpgngneac
open Go.RowKit


noncomputable def arrErr (c : Cat) (xs : List Int) : Int := if fIsCategory c = true then (if AllP c.s.length xs then 0 else 2) else 1
noncomputable def objErr (c : Cat) (xs : List Int) : Int := if fIsCategory c = true then (if AllP c.ob xs then 0 else 2) else 1
theorem arrErr_f {c : Cat} {xs : List Int} (h : fIsCategory c = false) : arrErr c xs = 1 := by unfold arrErr; rw [if_neg (by rw [h]; decide)]
theorem arrErr_r {c : Cat} {xs : List Int} (h : fIsCategory c = true) (hp : ¬ AllP c.s.length xs) : arrErr c xs = 2 := by unfold arrErr; rw [if_pos h, if_neg hp]
theorem arrErr_t {c : Cat} {xs : List Int} (h : fIsCategory c = true) (hp : AllP c.s.length xs) : arrErr c xs = 0 := by unfold arrErr; rw [if_pos h, if_pos hp]
theorem objErr_f {c : Cat} {xs : List Int} (h : fIsCategory c = false) : objErr c xs = 1 := by unfold objErr; rw [if_neg (by rw [h]; decide)]
theorem objErr_r {c : Cat} {xs : List Int} (h : fIsCategory c = true) (hp : ¬ AllP c.ob xs) : objErr c xs = 2 := by unfold objErr; rw [if_pos h, if_neg hp]
theorem objErr_t {c : Cat} {xs : List Int} (h : fIsCategory c = true) (hp : AllP c.ob xs) : objErr c xs = 0 := by unfold objErr; rw [if_pos h, if_pos hp]
theorem arrErr_0 {c : Cat} {xs : List Int} (h : arrErr c xs = 0) : IsCat c ∧ AllP c.s.length xs := by
 cases hI : fIsCategory c with
 | false => rw [arrErr_f hI] at h; simp at h
 | true =>
  by_cases hp : AllP c.s.length xs
  ·exact ⟨isCat_of hI, hp⟩
  ·rw [arrErr_r hI hp] at h; simp at h
theorem objErr_0 {c : Cat} {xs : List Int} (h : objErr c xs = 0) : IsCat c ∧ AllP c.ob xs := by
 cases hI : fIsCategory c with
 | false => rw [objErr_f hI] at h; simp at h
 | true =>
  by_cases hp : AllP c.ob xs
  ·exact ⟨isCat_of hI, hp⟩
  ·rw [objErr_r hI hp] at h; simp at h
noncomputable def arrCat (c : Cat) (xs : List Int) : Cat := if arrErr c xs = 0 then c else cat0
noncomputable def objCat (c : Cat) (xs : List Int) : Cat := if objErr c xs = 0 then c else cat0
theorem arrCat_t {c : Cat} {xs : List Int} (h : arrErr c xs = 0) : arrCat c xs = c := if_pos h
theorem objCat_t {c : Cat} {xs : List Int} (h : objErr c xs = 0) : objCat c xs = c := if_pos h
theorem readArrows_any (w : World) (v u : Value) (c : Cat) (xs : List Int) (h : RdC w v c) (hu : Rd w u xs) : Calls Try.prog 64 #[v, u] w (RetCI w (arrCat c xs) (arrErr c xs)) := by
 cases hI : fIsCategory c with
 | false => rw [arrErr_f hI, show arrCat c xs = cat0 from if_neg (by rw [arrErr_f hI]; decide)]; exact readArrows_f w v u c xs h hu hI
 | true =>
  by_cases hp : AllP c.s.length xs
  ·rw [arrErr_t hI hp, arrCat_t (arrErr_t hI hp)]; exact readArrows_t w v u c xs h hu hI hp
  ·rw [arrErr_r hI hp, show arrCat c xs = cat0 from if_neg (by rw [arrErr_r hI hp]; decide)]; exact readArrows_r w v u c xs h hu hI hp
theorem readObjects_any (w : World) (v u : Value) (c : Cat) (xs : List Int) (h : RdC w v c) (hu : Rd w u xs) : Calls Try.prog 79 #[v, u] w (RetCI w (objCat c xs) (objErr c xs)) := by
 cases hI : fIsCategory c with
 | false => rw [objErr_f hI, show objCat c xs = cat0 from if_neg (by rw [objErr_f hI]; decide)]; exact readObjects_f w v u c xs h hu hI
 | true =>
  by_cases hp : AllP c.ob xs
  ·rw [objErr_t hI hp, objCat_t (objErr_t hI hp)]; exact readObjects_t w v u c xs h hu hI hp
  ·rw [objErr_r hI hp, show objCat c xs = cat0 from if_neg (by rw [objErr_r hI hp]; decide)]; exact readObjects_r w v u c xs h hu hI hp
noncomputable def fCompositeOf (c : Cat) (f g : Int) : Int × Int := if arrErr c [f, g] = 0 then (if at0 c.t f = at0 c.s g then (c.th f g, 0) else (0, 5)) else (0, arrErr c [f, g])
theorem comp_err {c : Cat} {f g : Int} (h : arrErr c [f, g] ≠ 0) : fCompositeOf c f g = (0, arrErr c [f, g]) := if_neg h
theorem comp_s {c : Cat} {f g : Int} (h : arrErr c [f, g] = 0) (h' : at0 c.t f ≠ at0 c.s g) : fCompositeOf c f g = (0, 5) := by unfold fCompositeOf; rw [if_pos h, if_neg h']
theorem comp_t {c : Cat} {f g : Int} (h : arrErr c [f, g] = 0) (h' : at0 c.t f = at0 c.s g) : fCompositeOf c f g = (c.th f g, 0) := by unfold fCompositeOf; rw [if_pos h, if_pos h']
theorem th_none {c : Cat} (hS : ShapeP c) {f g : Int} (f0 : 0 ≤ f) (f1 : f < c.s.length) (g0 : 0 ≤ g) (g1 : g < c.s.length) : c.th f g = -1 ↔ at0 c.t f ≠ at0 c.s g := by
 obtain ⟨a, rfl⟩ := Int.eq_ofNat_of_zero_le f0
 obtain ⟨b, rfl⟩ := Int.eq_ofNat_of_zero_le g0
 have hc := hS.co a b (by omega) (by omega)
 constructor
 ·intro h he
  have := (hc.1 he).1.1
  omega
 ·exact hc.2

set_option maxHeartbeats 1000000 in
set_option maxRecDepth 100000 in
theorem specarr_any (w : World) (v u : Value) (c : Cat) (xs : List Int) (h : RdC w v c) (hu : Rd w u xs) :
  Calls Try.prog 115 #[v, u] w (RetI w (arrErr c xs)) := by
 have h0 := h
 obtain ⟨va, vb, vc, vd, ve, vf, vg, vh, rfl, h1, h2, h3, h4, _⟩ := h.lists
 obtain ⟨ua, uc, rfl⟩ := rd_form hu
 go_enter Try.func115, Try.ntmps115
 refine gc_enter (N := 14) rfl (look_cons (k := 0) rfl (look_cons (k := 1) rfl (look_nil _))) ?_
 refine gc_sr fun K1 hK1 => ?_
 refine gop fun K3 hK3 => ?_
 refine go_box rfl rfl rfl rfl rfl ?_
 intro B2
 refine hK3 _ _ ?_
 refine gas ?_
 refine gnt (hK1 _ _ ?_)
 refine gc_seq fun K4 hK4 => ?_
 refine gc_sr fun K5 hK5 => ?_
 refine gv (qts Try.underlying27 (n := 0)) ?_
 refine g_q (.free rfl) rfl rfl (qt_call rfl Try.func84 rfl (by decide) rfl (fun w M => specIs_any w _ _ (mem_rdC M h0))) ?_
 refine gv (qt_not rfl rfl) ?_
 refine gnt (hK5 _ _ ?_)
 refine gc_cond rfl (fun hc0 => ?_) (fun hc0 => ?_)
 ·try simp only [sA] at hc0
  refine gc_sr fun K6 hK6 => ?_
  refine gas ?_
  refine gnt (hK6 _ _ ?_)
  refine gc_ret ?_
  refine gk_then_ret ?_
  refine ret_1 rfl rfl  (fun w M => ?_)
  rw [arrErr_f hc0]; exact ⟨rfl, M.1⟩
 ·try simp only [sA] at hc0
  refine gc_skip ?_
  refine gk_then (hK4 _ _ ?_)
  refine gc_seq fun K7 hK7 => ?_
  refine gc_sr fun K8 hK8 => ?_
  refine gv (qt_field (z := 0) rfl rfl Try.underlying27 rfl (by kernel_rfl) rfl) ?_
  refine gv (qtl Try.underlying24 (n := 0)) ?_
  refine gv (qln (fun w M => lenV_rd h1)) ?_
  refine gm ?_
  refine g_q (.free rfl) rfl rfl (qt_call rfl Try.func153 rfl (by decide) rfl (fun w M => specMap_any w _ _ _ _ (mem_rd M hu) rfl)) ?_
  refine gv (qt_not rfl rfl) ?_
  refine gnt (hK8 _ _ ?_)
  refine gc_cond rfl (fun hc1 => ?_) (fun hc1 => ?_)
  ·try simp only [sA] at hc1
   refine gc_sr fun K9 hK9 => ?_
   refine gas ?_
   refine gnt (hK9 _ _ ?_)
   refine gc_ret ?_
   refine gk_then_ret ?_
   refine ret_1 rfl rfl  (fun w M => ?_)
   rw [arrErr_r hc0 hc1]; exact ⟨rfl, M.1⟩
  ·try simp only [sA] at hc1
   refine gc_skip ?_
   refine gk_then (hK7 _ _ ?_)
   refine gc_sr fun K10 hK10 => ?_
   refine gas ?_
   refine gnt (hK10 _ _ ?_)
   refine gc_ret ?_
   refine ret_1 rfl rfl  (fun w M => ?_)
   rw [arrErr_t hc0 hc1]; exact ⟨rfl, M.1⟩

set_option maxHeartbeats 1000000 in
set_option maxRecDepth 100000 in
theorem specThen_any (w : World) (v : Value) (c : Cat) (f g : Int) (h : RdC w v c) (f0 : 0 ≤ f) (f1 : f < c.m.length) (g0 : 0 ≤ g) (g1 : g < (row2 c.m f).length) :
  Calls Try.prog 170 #[v, .int .i64 f, .int .i64 g] w (RetI w (c.th f g)) := by
 have h0 := h
 obtain ⟨va, vb, vc, vd, ve, vf, vg, vh, rfl, h1, h2, h3, h4, _⟩ := h.lists
 go_enter Try.func170, Try.ntmps170
 refine gc_enter (N := 15) rfl (look_cons (k := 0) rfl (look_cons (k := 1) rfl (look_cons (k := 2) rfl (look_nil _)))) ?_
 refine gc_sr fun K1 hK1 => ?_
 refine gop fun K3 hK3 => ?_
 refine go_box rfl rfl rfl rfl rfl ?_
 intro B2
 refine hK3 _ _ ?_
 refine gas ?_
 refine gnt (hK1 _ _ ?_)
 refine gc_sr fun K4 hK4 => ?_
 refine gv (qt_field (z := 0) rfl rfl Try.underlying27 rfl (by kernel_rfl) rfl) ?_
 refine gv (qtl Try.underlying25 (n := 0)) ?_
 refine gm ?_
 refine gv (qti2 (fun w M => lenA_rd2 h4)) ?_
 refine g_load2 (.free rfl) rfl rfl rfl rfl Try.underlying24 rfl h4 (by omega) (by omega) ?_
 intro ra5 rc5 hr5
 refine gm ?_
 refine gv (qti (fun w M => lenA_rd hr5)) ?_
 refine gv (qtd (fun w M => mem_rd M hr5)) ?_
 refine gas ?_
 refine gnt (hK4 _ _ ?_)
 refine gc_ret ?_
 refine ret_1 rfl rfl  (fun w M => ?_)
 exact ⟨rfl, M.1⟩

set_option maxHeartbeats 1000000 in
set_option maxRecDepth 100000 in
theorem impl_CompositeOf (w : World) (v : Value) (c : Cat) (f g : Int) (h : RdC w v c) :
  Calls Try.prog 21 #[v, .int .i64 f, .int .i64 g] w (RetII w (fCompositeOf c f g).1 (fCompositeOf c f g).2) := by
 have h0 := h
 obtain ⟨va, vb, vc, vd, ve, vf, vg, vh, rfl, h1, h2, h3, h4, _⟩ := h.lists
 go_enter Try.func21, Try.ntmps21
 refine gc_enter (N := 29) rfl (look_cons (k := 0) rfl (look_cons (k := 1) rfl (look_cons (k := 2) rfl (look_nil _)))) ?_
 refine gc_sr fun K1 hK1 => ?_
 refine gop fun K3 hK3 => ?_
 refine go_box rfl rfl rfl rfl rfl ?_
 intro B2
 refine hK3 _ _ ?_
 refine gas ?_
 refine gas ?_
 refine gnt (hK1 _ _ ?_)
 refine gc_sr fun K4 hK4 => ?_
 refine gv (qts Try.underlying27 (n := 0)) ?_
 refine gm ?_
 refine gm ?_
 refine gop fun K6 hK6 => ?_
 refine go_slice2 rfl rfl rfl rfl rfl Try.underlying24 ?_
 intro B5
 refine hK6 _ _ ?_
 refine gop fun K8 hK8 => ?_
 refine go_callCI rfl rfl rfl Try.func64 rfl (by decide) rfl (fun w M => readArrows_any w _ _ _ _ (mem_rdC M h0) ((mem_own1 (n := 1) M rfl).rd)) ?_
 intro ca7 cb7 cc7 cd7 ce7 cf7 cg7 ch7 cu7
 refine hK8 _ _ ?_
 refine gm ?_
 refine gv (qt_extract rfl rfl rfl) ?_
 refine gv (qt_extract rfl rfl rfl) ?_
 refine gop fun K10 hK10 => ?_
 refine go_alloc (z := (.agg #[.int .i64 0, .slice none 0 0, .slice none 0 0, .slice none 0 0, .slice none 0 0])) (cs := [.int .i64 0, .slice none 0 0, .slice none 0 0, .slice none 0 0, .slice none 0 0]) rfl rfl rfl (fun w => by kernel_rfl) rfl ?_
 intro B9
 refine hK10 _ _ ?_
 refine gop fun K11 hK11 => ?_
 refine go_storeS (n := 6) rfl rfl rfl rfl (by kernel_rfl) rfl rfl rfl ?_
 refine hK11 _ _ ?_
 refine gas ?_
 refine gnt (hK4 _ _ ?_)
 refine gc_seq fun K12 hK12 => ?_
 refine gc_sr fun K13 hK13 => ?_
 refine gm ?_
 refine gv (qt_neq rfl rfl rfl) ?_
 refine gnt (hK13 _ _ ?_)
 refine gc_cond rfl (fun hc0 => ?_) (fun hc0 => ?_)
 ·try simp only [sA] at hc0
  refine gc_sr fun K14 hK14 => ?_
  refine gm ?_
  refine gas ?_
  refine gas ?_
  refine gnt (hK14 _ _ ?_)
  refine gc_ret ?_
  refine gk_then_ret ?_
  refine ret_2 rfl rfl rfl  (fun w M => ?_)
  rw [comp_err hc0]; exact ⟨rfl, M.1⟩
 ·try simp only [sA] at hc0
  refine gc_skip ?_
  refine gk_then (hK12 _ _ ?_)
  refine gc_seq fun K15 hK15 => ?_
  have hE := arrErr_0 hc0
  have hS := hE.1.toShapeP
  obtain ⟨⟨f0, f1⟩, g0, g1⟩ := allP_two.1 hE.2
  have hf := arrP hS f0 f1
  have hg := arrP hS g0 g1
  have e1 := hf.fm; have e2 := hf.row; have e3 := hf.ft; have e4 := hg.ft
  simp only [arrCat_t hc0]
  refine gc_region ?_
  refine gv (qts Try.underlying27 (n := 6)) ?_
  refine gm ?_
  refine gm ?_
  refine g_q (.free rfl) rfl rfl (qt_call rfl Try.func75 rfl (by decide) rfl (fun w M => then_any w _ _ _ _ (rdC_mk ((mem_own1 (n := 2) M rfl).rd) ((mem_own1 (n := 3) M rfl).rd) ((mem_own1 (n := 4) M rfl).rd) (mem_rdU (n := 5) M rfl)) (by first | assumption | omega) (by first | assumption | omega) (by first | assumption | omega) (by first | assumption | omega))) ?_
  refine gas ?_
  refine gnt (hK15 _ _ ?_)
  refine gc_seq fun K16 hK16 => ?_
  refine gc_sr fun K17 hK17 => ?_
  refine gm ?_
  refine gv (qt_eql rfl rfl rfl) ?_
  refine gnt (hK17 _ _ ?_)
  refine gc_cond rfl (fun hc1 => ?_) (fun hc1 => ?_)
  ·try simp only [sA] at hc1
   refine gc_sr fun K18 hK18 => ?_
   refine gas ?_
   refine gas ?_
   refine gnt (hK18 _ _ ?_)
   refine gc_ret ?_
   refine gk_then_ret ?_
   refine ret_2 rfl rfl rfl  (fun w M => ?_)
   rw [comp_s hc0 ((th_none hS f0 f1 g0 g1).1 hc1)]; exact ⟨rfl, M.1⟩
  ·try simp only [sA] at hc1
   refine gc_skip ?_
   refine gk_then (hK16 _ _ ?_)
   refine gc_sr fun K19 hK19 => ?_
   refine gm ?_
   refine gas ?_
   refine gas ?_
   refine gnt (hK19 _ _ ?_)
   refine gc_ret ?_
   refine ret_2 rfl rfl rfl  (fun w M => ?_)
   rw [comp_t hc0 (Classical.not_not.1 fun h => hc1 ((th_none hS f0 f1 g0 g1).2 h))]; exact ⟨rfl, M.1⟩

end Go.Proofs.Ytpfcfhjpgngneac
