import Derived.Test.YtpfcfhjpgngneacQ30
set_option linter.unusedSimpArgs false
set_option linter.unusedVariables false
set_option linter.unusedSectionVars false
namespace Go.Proofs.Ytpfcfhjpgngneac
open Go.RowKit
set_option maxHeartbeats 1000000 in
set_option maxRecDepth 100000 in
theorem retractions_any (w : World) (v : Value) (c : Cat) (f : Int) (h : RdC w v c) (hS : ShapeP c) (f0 : 0 ≤ f) (f1 : f < c.s.length) :
  Calls Try.prog 69 #[v, .int .i64 f] w (RetL w (retL c f)) := by
 have h0 := h
 obtain ⟨va, vb, vc, vd, ve, vf, vg, vh, rfl, h1, h2, h3, h4, _⟩ := h.lists
 have hn40 := hS.n40
 have hA := arrP hS f0 f1
 have a1 := hA.fs; have a2 := hA.ft; have a3 := hA.fm; have a4 := hA.row
 go_enter Try.func69, Try.ntmps69
 refine gc_enter (N := 14) rfl (look_cons (k := 0) rfl (look_cons (k := 1) rfl (look_nil _))) ?_
 refine gc_sr fun K1 hK1 => ?_
 refine gop fun K3 hK3 => ?_
 refine go_box rfl rfl rfl rfl rfl ?_
 intro B2
 refine hK3 _ _ ?_
 refine gas ?_
 refine gnt (hK1 _ _ ?_)
 refine gc_seq fun K4 hK4 => ?_
 try simp only [sL]
 refine ga_start _ (fun w M => M) ?_
 refine gav 0 rfl (qts Try.underlying27 (n := 0)) ?_
 refine gav 1 rfl (qts Try.underlying27 (n := 0)) ?_
 refine gav 2 rfl (qt_move rfl rfl) ?_
 refine gav 4 rfl (qts Try.underlying27 (n := 0)) ?_
 refine gav 5 rfl (qt_move rfl rfl) ?_
 refine gao 3 fun K6 hK6 => ?_
 refine go_callFv rfl rfl rfl Try.func131 rfl (by decide) rfl (fun w M => behind_any w (_) _ _ _ (h0) (M.1) (by first | assumption | omega) (by first | assumption | omega) (by first | assumption | omega)) ?_
 intro fv5
 refine hK6 _ _ (fun w M => (mem_take 1 M :)) ?_
 refine gao 6 fun K7 hK7 => ?_
 refine go_q rfl rfl (qt_call rfl Try.func126 rfl (by decide) rfl (fun w M => units_any w _ _ _ (mem_rdC M h0) (hA))) ?_
 refine hK7 _ _ (fun w M => (mem_take 1 M :)) ?_
 refine gav 7 rfl (qt_fieldPair rfl rfl) ?_
 refine gao 8 fun K9 hK9 => ?_
 refine go_callL rfl rfl rfl Try.func90 rfl (by decide) rfl (fun w M => solutions_any w _ _ (_) (beh c f) (_) (mem_rdC M h0) (by first | assumption | omega) (fun w' hb => mem_fv (n := 1) M rfl hb)) ?_
 intro va8 vc8
 refine hK9 _ _ (fun w M => (mem_take 1 M :)) ?_
 refine gav 9 rfl (qt_assign rfl rfl) ?_
 refine ga_done (by kernel_rfl) ?_
 refine gk_then (hK4 _ _ ?_)
 refine gc_ret ?_
 refine ret_1 rfl rfl  (fun w M => ?_)
 exact ⟨_, rfl, mem_own1 (n := 2) M rfl, M.1⟩
set_option maxHeartbeats 1000000 in
set_option maxRecDepth 100000 in
theorem sections_any (w : World) (v : Value) (c : Cat) (f : Int) (h : RdC w v c) (hS : ShapeP c) (f0 : 0 ≤ f) (f1 : f < c.s.length) :
  Calls Try.prog 70 #[v, .int .i64 f] w (RetL w (secL c f)) := by
 have h0 := h
 obtain ⟨va, vb, vc, vd, ve, vf, vg, vh, rfl, h1, h2, h3, h4, _⟩ := h.lists
 have hn40 := hS.n40
 have hA := arrP hS f0 f1
 have a1 := hA.fs; have a2 := hA.ft; have a3 := hA.fm; have a4 := hA.row
 go_enter Try.func70, Try.ntmps70
 refine gc_enter (N := 14) rfl (look_cons (k := 0) rfl (look_cons (k := 1) rfl (look_nil _))) ?_
 refine gc_sr fun K1 hK1 => ?_
 refine gop fun K3 hK3 => ?_
 refine go_box rfl rfl rfl rfl rfl ?_
 intro B2
 refine hK3 _ _ ?_
 refine gas ?_
 refine gnt (hK1 _ _ ?_)
 refine gc_seq fun K4 hK4 => ?_
 try simp only [sL]
 refine ga_start _ (fun w M => M) ?_
 refine gav 0 rfl (qts Try.underlying27 (n := 0)) ?_
 refine gav 1 rfl (qts Try.underlying27 (n := 0)) ?_
 refine gav 2 rfl (qt_move rfl rfl) ?_
 refine gav 4 rfl (qts Try.underlying27 (n := 0)) ?_
 refine gav 5 rfl (qt_move rfl rfl) ?_
 refine gao 3 fun K6 hK6 => ?_
 refine go_callFv rfl rfl rfl Try.func91 rfl (by decide) rfl (fun w M => before_any w (_) _ _ _ (h0) (M.1) (by first | assumption | omega) (by first | assumption | omega) (by first | assumption | omega)) ?_
 intro fv5
 refine hK6 _ _ (fun w M => (mem_take 1 M :)) ?_
 refine gao 6 fun K7 hK7 => ?_
 refine go_q rfl rfl (qt_call rfl Try.func126 rfl (by decide) rfl (fun w M => units_any w _ _ _ (mem_rdC M h0) (hA))) ?_
 refine hK7 _ _ (fun w M => (mem_take 1 M :)) ?_
 refine gav 7 rfl (qt_fieldPair2 rfl rfl) ?_
 refine gao 8 fun K9 hK9 => ?_
 refine go_callL rfl rfl rfl Try.func90 rfl (by decide) rfl (fun w M => solutions_any w _ _ (_) (bef c f) (_) (mem_rdC M h0) (by first | assumption | omega) (fun w' hb => mem_fv (n := 1) M rfl hb)) ?_
 intro va8 vc8
 refine hK9 _ _ (fun w M => (mem_take 1 M :)) ?_
 refine gav 9 rfl (qt_assign rfl rfl) ?_
 refine ga_done (by kernel_rfl) ?_
 refine gk_then (hK4 _ _ ?_)
 refine gc_ret ?_
 refine ret_1 rfl rfl  (fun w M => ?_)
 exact ⟨_, rfl, mem_own1 (n := 2) M rfl, M.1⟩
def ArrL (c : Cat) (f : Int) (g : Value) (xs : List Int) : Prop := ∀ (w : World) (v : Value), RdC w v c → IsCat c → 0 ≤ f → f < c.s.length → CallsV g [v, .int .i64 f] w (RetL w xs)
set_option maxHeartbeats 1000000 in
set_option maxRecDepth 100000 in
theorem askL_any (w : World) (v : Value) (c : Cat) (f : Int) (h : RdC w v c) (g : Value) (xs : List Int) (hg : ArrL c f g xs) :
  Calls Try.prog 68 #[v, .int .i64 f, g] w (RetLI w (bif decide (arrErr c [f] = 0) then xs else []) (arrErr c [f])) := by
 have h0 := h
 obtain ⟨va, vb, vc, vd, ve, vf, vg, vh, rfl, h1, h2, h3, h4, _⟩ := h.lists
 go_enter Try.func68, Try.ntmps68
 refine gc_enter (N := 26) rfl (look_cons (k := 0) rfl (look_cons (k := 1) rfl (look_cons (k := 2) rfl (look_nil _)))) ?_
 refine gc_sr fun K1 hK1 => ?_
 refine gop fun K3 hK3 => ?_
 refine go_box rfl rfl rfl rfl rfl ?_
 intro B2
 refine hK3 _ _ ?_
 refine gas ?_
 refine gas ?_
 refine gnt (hK1 _ _ ?_)
 refine gc_sr fun K4 hK4 => ?_
 refine gv (qts Try.underlying27 (n := 0)) ?_
 refine gm ?_
 refine gop fun K6 hK6 => ?_
 refine go_slice1 rfl rfl rfl rfl Try.underlying24 ?_
 intro B5
 refine hK6 _ _ ?_
 refine gop fun K8 hK8 => ?_
 refine go_callCI rfl rfl rfl Try.func64 rfl (by decide) rfl (fun w M => readArrows_any w _ _ _ _ (mem_rdC M h0) ((mem_own1 (n := 1) M rfl).rd)) ?_
 intro ca7 cb7 cc7 cd7 ce7 cf7 cg7 ch7 cu7
 refine hK8 _ _ ?_
 refine gm ?_
 refine gv (qt_extract rfl rfl rfl) ?_
 refine gv (qt_extract rfl rfl rfl) ?_
 refine gop fun K10 hK10 => ?_
 refine go_alloc (z := (.agg #[.int .i64 0, .slice none 0 0, .slice none 0 0, .slice none 0 0, .slice none 0 0])) (cs := [.int .i64 0, .slice none 0 0, .slice none 0 0, .slice none 0 0, .slice none 0 0]) rfl rfl rfl (fun w => by kernel_rfl) rfl ?_
 intro B9
 refine hK10 _ _ ?_
 refine gop fun K11 hK11 => ?_
 refine go_storeS (n := 6) rfl rfl rfl rfl (by kernel_rfl) rfl rfl rfl ?_
 refine hK11 _ _ ?_
 refine gas ?_
 refine gnt (hK4 _ _ ?_)
 refine gc_seq fun K12 hK12 => ?_
 refine gc_sr fun K13 hK13 => ?_
 refine gm ?_
 refine gv (qt_neq rfl rfl rfl) ?_
 refine gnt (hK13 _ _ ?_)
 refine gc_cond rfl (fun hc0 => ?_) (fun hc0 => ?_)
 ·try simp only [sA] at hc0
  refine gc_sr fun K14 hK14 => ?_
  refine gas ?_
  refine gnt (hK14 _ _ ?_)
  refine gc_sr fun K15 hK15 => ?_
  refine gm ?_
  refine gm ?_
  refine gas ?_
  refine gas ?_
  refine gnt (hK15 _ _ ?_)
  refine gc_ret ?_
  refine gk_then_ret ?_
  refine ret_2 rfl rfl rfl  (fun w M => ?_)
  rw [decide_eq_false hc0]; exact ⟨_, rfl, Sl.nil _ _, M.1⟩
 ·try simp only [sA] at hc0
  refine gc_skip ?_
  refine gk_then (hK12 _ _ ?_)
  refine gc_seq fun K16 hK16 => ?_
  have hE := arrErr_0 hc0
  have hC := hE.1
  have hS := hC.toShapeP
  have hf := allP_one.1 hE.2
  have f0 := hf.1; have f1 := hf.2
  simp only [arrCat_t hc0]
  refine gc_region ?_
  refine gm ?_
  refine gv (qts Try.underlying27 (n := 6)) ?_
  refine gm ?_
  refine gop fun K18 hK18 => ?_
  refine go_callVL rfl rfl rfl rfl rfl (fun w M => hg w _ (rdC_mk ((mem_own1 (n := 2) M rfl).rd) ((mem_own1 (n := 3) M rfl).rd) ((mem_own1 (n := 4) M rfl).rd) (mem_rdU (n := 5) M rfl)) hC f0 f1) ?_
  intro va17 vc17
  refine hK18 _ _ ?_
  refine gas ?_
  refine gas ?_
  refine gnt (hK16 _ _ ?_)
  refine gc_ret ?_
  refine ret_2 rfl rfl rfl  (fun w M => ?_)
  rw [decide_eq_true hc0, hc0]
  exact ⟨_, rfl, mem_own1 (n := 7) M rfl, M.1⟩
theorem RetractionsOf_v (c : Cat) (f : Int) : (bif decide (arrErr c [f] = 0) then retL c f else []) = (fRetractionsOf c f).1 ∧ arrErr c [f] = (fRetractionsOf c f).2 := by
 by_cases h : arrErr c [f] = 0
 ·rw [RetractionsOf_t h, decide_eq_true h]; exact ⟨rfl, h⟩
 ·rw [RetractionsOf_e h, decide_eq_false h]; exact ⟨rfl, rfl⟩
set_option maxHeartbeats 1000000 in
set_option maxRecDepth 100000 in
theorem impl_RetractionsOf (w : World) (v : Value) (c : Cat) (f : Int) (h : RdC w v c) :
  Calls Try.prog 15 #[v, .int .i64 f] w (RetLI w (fRetractionsOf c f).1 (fRetractionsOf c f).2) := by
 have h0 := h
 obtain ⟨va, vb, vc, vd, ve, vf, vg, vh, rfl, h1, h2, h3, h4, _⟩ := h.lists
 go_enter Try.func15, Try.ntmps15
 refine gc_enter (N := 11) rfl (look_cons (k := 0) rfl (look_cons (k := 1) rfl (look_nil _))) ?_
 refine gc_sr fun K1 hK1 => ?_
 refine gop fun K3 hK3 => ?_
 refine go_box rfl rfl rfl rfl rfl ?_
 intro B2
 refine hK3 _ _ ?_
 refine gas ?_
 refine gas ?_
 refine gnt (hK1 _ _ ?_)
 refine gc_sr fun K4 hK4 => ?_
 refine gv (qts Try.underlying27 (n := 0)) ?_
 refine gm ?_
 refine gop fun K6 hK6 => ?_
 refine go_callLI rfl rfl rfl Try.func68 rfl (by decide) rfl (fun w M => askL_any w _ _ _ (mem_rdC M h0) (_) (retL c f) (fun w v h hC f0 f1 => callsV_f (bnd := []) (vs := [_, _]) (caps := []) Try.func69 rfl (by decide) (retractions_any w v c f h hC.toShapeP f0 f1))) ?_
 intro va5 vc5
 refine hK6 _ _ ?_
 refine gv (qt_extract rfl rfl rfl) ?_
 refine gv (qt_extract rfl rfl rfl) ?_
 refine gas ?_
 refine gas ?_
 refine gnt (hK4 _ _ ?_)
 refine gc_ret ?_
 refine ret_2 rfl rfl rfl  (fun w M => ?_)
 rw [← (RetractionsOf_v c f).1, ← (RetractionsOf_v c f).2]
 exact ⟨_, rfl, mem_own1 (n := 1) M rfl, M.1⟩
theorem SectionsOf_v (c : Cat) (f : Int) : (bif decide (arrErr c [f] = 0) then secL c f else []) = (fSectionsOf c f).1 ∧ arrErr c [f] = (fSectionsOf c f).2 := by
 by_cases h : arrErr c [f] = 0
 ·rw [SectionsOf_t h, decide_eq_true h]; exact ⟨rfl, h⟩
 ·rw [SectionsOf_e h, decide_eq_false h]; exact ⟨rfl, rfl⟩
set_option maxHeartbeats 1000000 in
set_option maxRecDepth 100000 in
theorem impl_SectionsOf (w : World) (v : Value) (c : Cat) (f : Int) (h : RdC w v c) :
  Calls Try.prog 16 #[v, .int .i64 f] w (RetLI w (fSectionsOf c f).1 (fSectionsOf c f).2) := by
 have h0 := h
 obtain ⟨va, vb, vc, vd, ve, vf, vg, vh, rfl, h1, h2, h3, h4, _⟩ := h.lists
 go_enter Try.func16, Try.ntmps16
 refine gc_enter (N := 11) rfl (look_cons (k := 0) rfl (look_cons (k := 1) rfl (look_nil _))) ?_
 refine gc_sr fun K1 hK1 => ?_
 refine gop fun K3 hK3 => ?_
 refine go_box rfl rfl rfl rfl rfl ?_
 intro B2
 refine hK3 _ _ ?_
 refine gas ?_
 refine gas ?_
 refine gnt (hK1 _ _ ?_)
 refine gc_sr fun K4 hK4 => ?_
 refine gv (qts Try.underlying27 (n := 0)) ?_
 refine gm ?_
 refine gop fun K6 hK6 => ?_
 refine go_callLI rfl rfl rfl Try.func68 rfl (by decide) rfl (fun w M => askL_any w _ _ _ (mem_rdC M h0) (_) (secL c f) (fun w v h hC f0 f1 => callsV_f (bnd := []) (vs := [_, _]) (caps := []) Try.func70 rfl (by decide) (sections_any w v c f h hC.toShapeP f0 f1))) ?_
 intro va5 vc5
 refine hK6 _ _ ?_
 refine gv (qt_extract rfl rfl rfl) ?_
 refine gv (qt_extract rfl rfl rfl) ?_
 refine gas ?_
 refine gas ?_
 refine gnt (hK4 _ _ ?_)
 refine gc_ret ?_
 refine ret_2 rfl rfl rfl  (fun w M => ?_)
 rw [← (SectionsOf_v c f).1, ← (SectionsOf_v c f).2]
 exact ⟨_, rfl, mem_own1 (n := 1) M rfl, M.1⟩
theorem invZ_N {c : Cat} {f : Int} (h : bP (hasInv c f) = true) : invZ c f = invN c f := invZ_t (bP_t' h)
set_option maxHeartbeats 1000000 in
set_option maxRecDepth 100000 in
theorem impl_InverseArrow (w : World) (v : Value) (c : Cat) (f : Int) (h : RdC w v c) :
  Calls Try.prog 13 #[v, .int .i64 f] w (RetII w (fInverseArrow c f).1 (fInverseArrow c f).2) := by
 have h0 := h
 obtain ⟨va, vb, vc, vd, ve, vf, vg, vh, rfl, h1, h2, h3, h4, _⟩ := h.lists
 go_enter Try.func13, Try.ntmps13
 refine gc_enter (N := 29) rfl (look_cons (k := 0) rfl (look_cons (k := 1) rfl (look_nil _))) ?_
 refine gc_sr fun K1 hK1 => ?_
 refine gop fun K3 hK3 => ?_
 refine go_box rfl rfl rfl rfl rfl ?_
 intro B2
 refine hK3 _ _ ?_
 refine gas ?_
 refine gas ?_
 refine gnt (hK1 _ _ ?_)
 refine gc_sr fun K4 hK4 => ?_
 refine gv (qts Try.underlying27 (n := 0)) ?_
 refine gm ?_
 refine gop fun K6 hK6 => ?_
 refine go_slice1 rfl rfl rfl rfl Try.underlying24 ?_
 intro B5
 refine hK6 _ _ ?_
 refine gop fun K8 hK8 => ?_
 refine go_callCI rfl rfl rfl Try.func64 rfl (by decide) rfl (fun w M => readArrows_any w _ _ _ _ (mem_rdC M h0) ((mem_own1 (n := 1) M rfl).rd)) ?_
 intro ca7 cb7 cc7 cd7 ce7 cf7 cg7 ch7 cu7
 refine hK8 _ _ ?_
 refine gm ?_
 refine gv (qt_extract rfl rfl rfl) ?_
 refine gv (qt_extract rfl rfl rfl) ?_
 refine gop fun K10 hK10 => ?_
 refine go_alloc (z := (.agg #[.int .i64 0, .slice none 0 0, .slice none 0 0, .slice none 0 0, .slice none 0 0])) (cs := [.int .i64 0, .slice none 0 0, .slice none 0 0, .slice none 0 0, .slice none 0 0]) rfl rfl rfl (fun w => by kernel_rfl) rfl ?_
 intro B9
 refine hK10 _ _ ?_
 refine gop fun K11 hK11 => ?_
 refine go_storeS (n := 6) rfl rfl rfl rfl (by kernel_rfl) rfl rfl rfl ?_
 refine hK11 _ _ ?_
 refine gas ?_
 refine gnt (hK4 _ _ ?_)
 refine gc_seq fun K12 hK12 => ?_
 refine gc_sr fun K13 hK13 => ?_
 refine gm ?_
 refine gv (qt_neq rfl rfl rfl) ?_
 refine gnt (hK13 _ _ ?_)
 refine gc_cond rfl (fun hc0 => ?_) (fun hc0 => ?_)
 ·try simp only [sA] at hc0
  refine gc_sr fun K14 hK14 => ?_
  refine gm ?_
  refine gas ?_
  refine gas ?_
  refine gnt (hK14 _ _ ?_)
  refine gc_ret ?_
  refine gk_then_ret ?_
  refine ret_2 rfl rfl rfl  (fun w M => ?_)
  rw [InverseArrow_e hc0]; exact ⟨rfl, M.1⟩
 ·try simp only [sA] at hc0
  refine gc_skip ?_
  refine gk_then (hK12 _ _ ?_)
  refine gc_seq fun K15 hK15 => ?_
  have hE := arrErr_0 hc0
  have hC := hE.1
  have hS := hC.toShapeP
  have hf := allP_one.1 hE.2
  have f0 := hf.1; have f1 := hf.2
  simp only [arrCat_t hc0]
  refine gc_region ?_
  refine gv (qts Try.underlying27 (n := 6)) ?_
  refine gm ?_
  refine g_q (.free rfl) rfl rfl (qt_call rfl Try.func65 rfl (by decide) rfl (fun w M => inverse_any w _ _ _ (rdC_mk ((mem_own1 (n := 2) M rfl).rd) ((mem_own1 (n := 3) M rfl).rd) ((mem_own1 (n := 4) M rfl).rd) (mem_rdU (n := 5) M rfl)) (by first | assumption | omega) (by first | assumption | omega) (by first | assumption | omega))) ?_
  refine gm ?_
  refine gv (qt_extract rfl rfl rfl) ?_
  refine gv (qt_extract rfl rfl rfl) ?_
  refine gas ?_
  refine gas ?_
  refine gnt (hK15 _ _ ?_)
  refine gc_seq fun K16 hK16 => ?_
  refine gc_sr fun K17 hK17 => ?_
  refine gm ?_
  refine gv (qt_not rfl rfl) ?_
  refine gnt (hK17 _ _ ?_)
  refine gc_cond rfl (fun hc1 => ?_) (fun hc1 => ?_)
  ·try simp only [sA] at hc1
   refine gc_sr fun K18 hK18 => ?_
   refine gas ?_
   refine gas ?_
   refine gnt (hK18 _ _ ?_)
   refine gc_ret ?_
   refine gk_then_ret ?_
   refine ret_2 rfl rfl rfl  (fun w M => ?_)
   rw [InverseArrow_n hc0 hc1]; exact ⟨rfl, M.1⟩
  ·try simp only [sA] at hc1
   refine gc_skip ?_
   refine gk_then (hK16 _ _ ?_)
   refine gc_sr fun K19 hK19 => ?_
   refine gm ?_
   refine gas ?_
   refine gas ?_
   refine gnt (hK19 _ _ ?_)
   refine gc_ret ?_
   refine ret_2 rfl rfl rfl  (fun w M => ?_)
   rw [InverseArrow_t hc0 hc1, ← invZ_N hc1]; exact ⟨rfl, M.1⟩
end Go.Proofs.Ytpfcfhjpgngneac
set_option linter.unusedSimpArgs false
set_option linter.unusedVariables false
set_option linter.unusedSectionVars false
namespace Go.Proofs.Ytpfcfhjpgngneac
open Go.RowKit
open Go.ChangeShapes Go.WideShapes Go.ChangeAt
set_option maxHeartbeats 400000 in
theorem like_any (w : World) (v1 v2 : Value) (xs ys : List Int) (h1 : Rd w v1 xs) (h2 : Rd w v2 ys) :
    Calls Try.prog 17 #[v1, v2] w (RetB w (decide (xs = ys))) := by
  obtain ⟨a, cap, rfl, hl, hc⟩ := h1
  obtain ⟨a2, cap2, rfl, hl2, hc2⟩ := h2
  by_cases hne : xs.length = ys.length
  · have hcmp : ((ys.length : Int) != (ys.length : Int)) = false := by simp
    rw [hne] at hl
    have HNE := Lib.hid hne; clear hne
    have HC := Lib.hid hc; clear hc
    have HC2 := Lib.hid hc2; clear hc2
    rw [HNE.out]
    go_enter Try.func17, Try.ntmps17
    go_wp2
    go_loopw [5] (fun i wr => ∃ k : Nat, k ≤ ys.length ∧ i = .int .i64 k ∧ Hid (∀ j, j < k → xs.getD j 0 = ys.getD j 0) ∧ Below w.heap.size w wr) (fun i _ => ys.length - (intOf i).toNat)
    case atStart => exact ⟨0, Nat.zero_le _, rfl, fun j hj => absurd hj (by omega), Below.refl _ _⟩
    case round =>
      obtain ⟨k, hk, rfl, hall, hbel⟩ := hrel
      by_cases hlt : k < ys.length
      · obtain ⟨b, off, rfl, hb, hcell⟩ := HC.out k (by rw [HNE.out]; exact hlt)
        obtain ⟨b2, off2, rfl, hb2, hcell2⟩ := HC2.out k hlt
        have c1 : wr.cell? ⟨b, off + k, none⟩ = some (.int .i64 (xs.getD k 0)) := (hbel.cell (p := ⟨b, off + k, none⟩) hb).trans (hcell k (by rw [HNE.out]; exact hlt))
        have c2 : wr.cell? ⟨b2, off2 + k, none⟩ = some (.int .i64 (ys.getD k 0)) := (hbel.cell (p := ⟨b2, off2 + k, none⟩) hb2).trans (hcell2 k hlt)
        clear hcell hcell2 hb hb2
        obtain ⟨x, hx⟩ : ∃ x, x = xs.getD k 0 := ⟨_, rfl⟩
        obtain ⟨y, hy⟩ : ∃ y, y = ys.getD k 0 := ⟨_, rfl⟩
        rw [← hx] at c1
        rw [← hy] at c2
        have HX := Lib.hid hx; clear hx
        have HY := Lib.hid hy; clear hy
        by_cases hxy : x = y
        · subst hxy
          go_wp2
          go_quiet (fail)
          go_wp2
          go_roundw
          case rel =>
            refine ⟨k + 1, by omega, by go_num, fun j hj => ?_, below_quiet hbel⟩
            by_cases hjk : j = k
            · rw [hjk, ← HX.out, ← HY.out]
            · exact hall.out j (by omega)
          case measure => simp [intOf]; omega
        · have hb1 : (x != y) = true := by simpa using hxy
          have hfin : decide (xs = ys) = false := by
            rw [decide_eq_false_iff_not]
            exact list_ne_at (k := k) (by rw [HNE.out]; exact hlt) (by rw [← HX.out, ← HY.out]; exact hxy)
          have HF := Lib.hid hfin; clear hfin hxy
          go_wp2
          go_quiet (fail)
          go_wp2
          go_ret
          rw [HF.out]
          exact ⟨rfl, below_quiet hbel⟩
      · have hfin : decide (xs = ys) = true := by
          rw [decide_eq_true_iff]
          exact list_eq_all HNE.out (fun j hj => hall.out j (by have := HNE.out; omega))
        have HF := Lib.hid hfin; clear hfin
        go_wp2
        go_ret
        rw [HF.out]
        exact ⟨rfl, hbel⟩
  · have hfin : decide (xs = ys) = false := by
      rw [decide_eq_false_iff_not]
      exact fun e => hne (by rw [e])
    have hb1 : ((xs.length : Int) != (ys.length : Int)) = true := by
      rw [bne_iff_ne]; omega
    have HF := Lib.hid hfin; clear hfin hne hc hc2
    go_enter Try.func17, Try.ntmps17
    go_wp2
    go_ret
    rw [HF.out]
    exact ⟨rfl, Below.refl _ _⟩
theorem like_refl_any (w : World) (v1 v2 : Value) (xs : List Int) (h1 : Rd w v1 xs) (h2 : Rd w v2 xs) :
    Calls Try.prog 17 #[v1, v2] w (RetB w true) := by
  have := like_any w v1 v2 xs xs h1 h2
  simpa using this
set_option maxRecDepth 100000 in
theorem cells8 : Try.prog.cellsOf 5 = 1 := by kernel_rfl
set_option maxRecDepth 100000 in
theorem open_inb {H : Type} {enc : TypeId × Value → H} {w : World} {v : Value} {d : DataW H} {ps : List MemPlace} {base : Nat}
    (hv : Value.okWide Try.prog w .any base 22 v) (h : DataW.Trod enc Try.prog w 0 (fun _ => true) true 22 v d ps) : InB w v := by
  obtain ⟨a0, len, cap, rfl⟩ := okWide_slice Try.underlying22 hv
  obtain ⟨fuel, hf⟩ := h
  rcases open_ints Try.underlying22 Try.underlying5 cells8 hf with ⟨hcs, _⟩ | ⟨a, len', cap', zs, hcs, _, hl, hm, hz, _, hcell, hwz⟩
  · simp [Value.cells] at hcs
    obtain ⟨rfl, rfl, rfl⟩ := hcs
    exact ⟨none, 0, 0, rfl, by omega, fun j hj => absurd hj (Nat.not_lt_zero _)⟩
  · simp [Value.cells] at hcs
    obtain ⟨rfl, rfl, rfl⟩ := hcs
    simp only [if_true] at hz
    refine ⟨some a, len, cap, rfl, by unfold maxLen at hm; omega, fun j hj => ?_⟩
    obtain ⟨b, off, spot⟩ := a
    have hspot : spot = none := by simpa [Addr.add] using World.cell?_spot (hcell 0 (by omega))
    subst hspot
    refine ⟨b, off, rfl, World.block_lt_of_cell? w _ (by simpa using hcell 0 (by omega)), fun i hi => ?_⟩
    have hh := hcell i (by omega)
    rw [Addr.add_lit] at hh
    have hw := hwz (zs.getD i 0) (by rw [List.getD_eq_getElem?_getD, List.getElem?_eq_getElem (by omega)]; exact List.getElem_mem _)
    refine ⟨_, hh, ?_⟩
    have hw2 : IntKind.u8.min ≤ zs.getD i 0 ∧ zs.getD i 0 ≤ IntKind.u8.max := by simpa [Lit.wf] using hw
    have m1 : IntKind.u8.min = 0 := by decide
    have m2 : IntKind.u8.max = 255 := by decide
    omega
end Go.Proofs.Ytpfcfhjpgngneac
set_option linter.unusedSimpArgs false
set_option linter.unusedVariables false
set_option linter.unusedSectionVars false
namespace Go.Proofs.Ytpfcfhjpgngneac
open Go.RowKit
theorem sol_one {φ : Int → Int} {v : Int} {m j : Nat} (hj : j < m) (h : ∀ i : Nat, i < m → (φ (i : Int) = v ↔ i = j)) : solL φ v m = [(j : Int)] := by
 have key : ∀ k, k ≤ m → solL φ v k = if j < k then [(j : Int)] else [] := by
  intro k
  induction k with
  | zero => intro _; rw [sol_zero, if_neg (by omega)]
  | succ k ih =>
   intro hk
   have ih := ih (by omega)
   by_cases hp : φ (k : Int) = v
   ·have hkj := (h k (by omega)).1 hp
    subst hkj
    rw [← sol_t hp, ih, if_neg (by omega), if_pos (by omega)]; rfl
   ·have hkj : ¬ k = j := fun e => hp ((h k (by omega)).2 e)
    rw [← sol_f hp, ih]
    by_cases hjk : j < k
    ·rw [if_pos hjk, if_pos (by omega)]
    ·rw [if_neg hjk, if_neg (by omega)]
 rw [key m (Nat.le_refl _), if_pos hj]
theorem arrErr_rng (c : Cat) (fs : List Int) : arrErr c fs = 0 ∨ arrErr c fs = 1 ∨ arrErr c fs = 2 := by
 unfold arrErr; split <;> (try split) <;> simp
theorem inv_law {c : Cat} (hC : IsCat c) {f : Int} (f0 : 0 ≤ f) (f1 : f < c.s.length) (h : hasInv c f) : retL c f = [invN c f] ∧ secL c f = [invN c f] ∧ hasInv c (invN c f) ∧ invN c (invN c f) = f ∧ 0 ≤ invN c f ∧ invN c f < c.s.length := by
 have hS := hC.toShapeP
 have hi := invN_in h
 obtain ⟨j, hj⟩ := Int.eq_ofNat_of_zero_le hi.1
 rw [hj] at hi ⊢
 obtain ⟨h0, h1, h2, h3, h4, h5⟩ := hi
 have hr : retL c f = [(j : Int)] := sol_one (by omega) fun i hi => ⟨fun e => by
  have r := (ret_iff hS f0 f1 (g := (i : Int)) (by omega) (by omega)).2 e
  have := inv_uniq hC f0 f1 h0 h1 (by omega) (by omega) h2 h3 r.1 r.2.1 h5 r.2.2
  omega, fun e => by rw [e]; exact h4⟩
 have hs : secL c f = [(j : Int)] := sol_one (by omega) fun i hi => ⟨fun e => by
  have r := (sec_iff hS f0 f1 (g := (i : Int)) (by omega) (by omega)).2 e
  have := inv_uniq hC f0 f1 (g := (i : Int)) (h := (j : Int)) (by omega) (by omega) h0 h1 r.1 r.2.1 h2 h3 r.2.2 h4
  omega, fun e => by rw [e]; exact h5⟩
 have hb : invAt c (j : Int) f := ⟨by rw [h2]; exact h5, by rw [h3]; exact h4⟩
 exact ⟨hr, hs, hasInv_of f0 f1 h3.symm h2.symm hb, invN_eq hC h0 h1 f0 f1 h3.symm h2.symm hb, h0, h1⟩
theorem inv_iff {c : Cat} (hC : IsCat c) {f : Int} (f0 : 0 ≤ f) (f1 : f < c.s.length) : hasInv c f ↔ 0 < (retL c f).length ∧ 0 < (secL c f).length := by
 refine ⟨fun h => by rw [(inv_law hC f0 f1 h).1, (inv_law hC f0 f1 h).2.1]; exact ⟨by simp, by simp⟩, fun h => ?_⟩
 have hS := hC.toShapeP
 obtain ⟨g, hg⟩ := List.exists_mem_of_length_pos h.1
 obtain ⟨g', hg'⟩ := List.exists_mem_of_length_pos h.2
 obtain ⟨a, ha, ha2, rfl⟩ := sol_mem.1 hg
 obtain ⟨b, hb, hb2, rfl⟩ := sol_mem.1 hg'
 have ra := (ret_iff hS f0 f1 (g := (a : Int)) (by omega) (by omega)).2 ha2
 have rb := (sec_iff hS f0 f1 (g := (b : Int)) (by omega) (by omega)).2 hb2
 have := inv_uniq hC f0 f1 (g := (b : Int)) (h := (a : Int)) (by omega) (by omega) (by omega) (by omega) rb.1 rb.2.1 ra.1 ra.2.1 rb.2.2 ra.2.2
 rw [this] at hg'
 have hv := both_inv hS f0 f1 hg hg'
 exact hasInv_of hv.1 hv.2.1 hv.2.2.1 hv.2.2.2.1 hv.2.2.2.2
theorem inv_facts {c : Cat} {f g r : Int} (h : fInverseArrow c f = (g, r)) (hr : r = 0 ∨ r = 4) : fRetractionsOf c f = (retL c f, 0) ∧ fSectionsOf c f = (secL c f, 0) ∧ (r = 0 ↔ 0 < (retL c f).length ∧ 0 < (secL c f).length) ∧ (r = 0 → retL c f = [g] ∧ secL c f = [g] ∧ fInverseArrow c g = (f, 0)) := by
 by_cases hE : arrErr c [f] = 0
 ·have h1 := arrErr_0 hE
  have hC := h1.1
  have hf := allP_one.1 h1.2
  have hi := inv_iff hC hf.1 hf.2
  refine ⟨RetractionsOf_t hE, SectionsOf_t hE, ?_⟩
  by_cases hv : hasInv c f
  ·rw [InverseArrow_t hE (bP_t hv)] at h
   obtain ⟨rfl, rfl⟩ := Prod.mk.inj h
   have hl := inv_law hC hf.1 hf.2 hv
   refine ⟨⟨fun _ => hi.1 hv, fun _ => rfl⟩, fun _ => ⟨hl.1, hl.2.1, ?_⟩⟩
   rw [InverseArrow_t (arrErr_t (bP_t hC) (allP_one.2 ⟨hl.2.2.2.2.1, hl.2.2.2.2.2⟩)) (bP_t hl.2.2.1), hl.2.2.2.1]
  ·rw [InverseArrow_n hE (bP_f hv)] at h
   obtain ⟨rfl, rfl⟩ := Prod.mk.inj h
   exact ⟨⟨fun h => absurd h (by decide), fun h => absurd (hi.2 h) hv⟩, fun h => absurd h (by decide)⟩
 ·rw [InverseArrow_e hE] at h
  obtain ⟨rfl, rfl⟩ := Prod.mk.inj h
  have := arrErr_rng c [f]
  omega
theorem run_equalIn_bool (w : World) (d : Nat) (t : TypeId) (a b : Bool) (h : Try.prog.underlying t = some .bool) : (Op.equalIn (d + 1) t (.bool a) (.bool b)).run Try.prog w = .ok (a == b) w := by simp [Op.equalIn, run_underlying h, Sem.run_bind, Sem.run_pure]
theorem run_equal_bool (w : World) (t : TypeId) (a b : Bool) (h : Try.prog.underlying t = some .bool) : (Op.equal t (.bool a) (.bool b)).run Try.prog w = .ok (a == b) w := run_equalIn_bool w 9999 t a b h
theorem bigL_any (w : World) (a : Option Addr) (len cap : Nat) (hl : len ≤ 9223372036854775807) : Calls Try.prog 11 #[.slice a len cap] w (RetB w (decide (4096 < (len : Int)))) := by
 go_enter Try.func11, Try.ntmps11
 go_wp2
 go_ret
 exact ⟨by simp, (Below.refl _ _)⟩
section
variable {w0 : World} {is : List Itm} {o : Oper} {e : Env}
theorem qt_neqBB_f {x y : Operand} {t u : TypeId} {a b : Bool} (hop : o.op = .binOp .neq t x y u) (hx : evo e x = some (.bool a)) (hy : evo e y = some (.bool b)) (ht : Try.prog.underlying t = some .bool) (h : a = b) : QV w0 is o e (.bool false) :=
 fun w ac M F => by
  have hx := F _ _ hx; have hy := F _ _ hy
  subst h
  simp [execOp, hop, hx, hy, eqGuard, binOp, Sem.run_bind, Sem.run_pure, run_equal_bool w t a a ht]
end
set_option maxHeartbeats 8000000 in
set_option maxRecDepth 100000 in
theorem invWalk (w : World) (ca : Option Addr) (clen ccap : Nat) (h : InB w (.slice ca clen ccap)) (hcl : clen ≤ 9223372036854775807) :
  Calls Try.prog 3 #[.slice ca clen ccap] w (RetB w true) := by
 go_enter Try.func3, Try.ntmps3
 refine gc_enter (N := 104) rfl (look_cons (k := 0) rfl (look_nil _)) ?_
 refine gc_sr fun K1 hK1 => ?_
 refine gas ?_
 refine gnt (hK1 _ _ ?_)
 refine gc_seq fun K2 hK2 => ?_
 refine gc_sr fun K3 hK3 => ?_
 refine gm ?_
 refine g_q (.free rfl) rfl rfl (qt_call rfl Try.func11 rfl (by decide) rfl (fun w M => bigL_any w _ _ _ (by first | assumption | omega))) ?_
 refine gnt (hK3 _ _ ?_)
 refine gc_cond rfl (fun hc0 => ?_) (fun hc0 => ?_)
 ·try simp only [sA] at hc0
  refine gc_sr fun K4 hK4 => ?_
  refine gas ?_
  refine gnt (hK4 _ _ ?_)
  refine gc_ret ?_
  refine gk_then_ret ?_
  refine ret_1 rfl rfl  (fun w M => ?_)
  exact ⟨rfl, M.1⟩
 ·try simp only [sA] at hc0
  refine gc_skip ?_
  refine gk_then (hK2 _ _ ?_)
  refine gc_sr fun K5 hK5 => ?_
  refine gm ?_
  refine gop fun K7 hK7 => ?_
  refine go_callHV (α := Int) (P := fun c x => DrawP c ∧ NumP x) (V := fun x v => .tuple #[v, .int .i64 x]) rfl rfl rfl Try.func12 rfl (by decide) rfl (fun w M => drawInverseArrow_any w ca clen ccap (inb_below M.1 h)) ?_
  intro c f ca1 cb1 cc1 cd1 ce1 cf1 cg1 ch1 hdraw
  refine hK7 _ _ ?_
  refine gm ?_
  refine gv (qt_extract rfl rfl rfl) ?_
  refine gv (qt_extract rfl rfl rfl) ?_
  refine gop fun K9 hK9 => ?_
  refine go_alloc (z := (.agg #[.int .i64 0, .slice none 0 0, .slice none 0 0, .slice none 0 0, .slice none 0 0])) (cs := [.int .i64 0, .slice none 0 0, .slice none 0 0, .slice none 0 0, .slice none 0 0]) rfl rfl rfl (fun w => by kernel_rfl) rfl ?_
  intro B8
  refine hK9 _ _ ?_
  refine gop fun K10 hK10 => ?_
  refine go_storeS (n := 1) rfl rfl rfl rfl (by kernel_rfl) rfl rfl rfl ?_
  refine hK10 _ _ ?_
  refine gas ?_
  refine gnt (hK5 _ _ ?_)
  refine gc_seq fun K11 hK11 => ?_
  obtain ⟨g, r1, hP⟩ : ∃ g r1, fInverseArrow c f = (g, r1) := ⟨_, _, rfl⟩
  have hpf := inv_facts hP
  have HPi := fun (w : World) (v : Value) (h1 : RdC w v c) => impl_InverseArrow w v c f h1
  simp only [hP] at HPi
  have HPs := fun (w : World) (v : Value) (h1 : RdC w v c) => spec_InverseArrow w v c f h1
  simp only [hP] at HPs
  refine gc_region ?_
  refine gv (qts Try.underlying27 (n := 1)) ?_
  refine gm ?_
  refine g_q (.free rfl) rfl rfl (qt_call rfl Try.func13 rfl (by decide) rfl (fun w M => HPi w _ (mem_held (n := 0) M rfl))) ?_
  refine gm ?_
  refine gv (qt_extract rfl rfl rfl) ?_
  refine gv (qt_extract rfl rfl rfl) ?_
  refine gas ?_
  refine gas ?_
  refine gnt (hK11 _ _ ?_)
  refine gc_sr fun K12 hK12 => ?_
  refine gv (qts Try.underlying27 (n := 1)) ?_
  refine gm ?_
  refine g_q (.free rfl) rfl rfl (qt_call rfl Try.func14 rfl (by decide) rfl (fun w M => HPs w _ (mem_held (n := 0) M rfl))) ?_
  refine gm ?_
  refine gv (qt_extract rfl rfl rfl) ?_
  refine gv (qt_extract rfl rfl rfl) ?_
  refine gas ?_
  refine gas ?_
  refine gnt (hK12 _ _ ?_)
  refine gc_seq fun K13 hK13 => ?_
  refine gc_sr fun K14 hK14 => ?_
  refine gm ?_
  refine gm ?_
  refine gv (qt_neq_f rfl rfl rfl (fun h => h rfl)) ?_
  refine gm ?_
  refine gvh (qt_move rfl rfl) ?_
  refine gvh (qt_move rfl rfl) ?_
  refine gvh (qt_neq_f rfl rfl rfl (fun h => h rfl)) ?_
  refine gv (qt_pick_f rfl rfl rfl) ?_
  refine gnt (hK14 _ _ ?_)
  refine gc_cond_f rfl ?_
  refine gc_skip ?_
  refine gk_then (hK13 _ _ ?_)
  refine gc_seq fun K15 hK15 => ?_
  refine gc_sr fun K16 hK16 => ?_
  refine gm ?_
  refine gv (qt_neq rfl rfl rfl) ?_
  refine g_splitv (.free rfl) rfl rfl (qt_move rfl rfl) (fun hs8_2 => ?_) (fun hs8_2 => ?_)
  ·try simp only [sA] at hs8_2
   refine gvh (qt_move rfl rfl) ?_
   refine gvh (qt_neq rfl rfl rfl) ?_
   refine gv (qt_pick_t rfl rfl rfl) ?_
   refine gnt (hK16 _ _ ?_)
   refine gc_cond rfl (fun hc1 => ?_) (fun hc1 => ?_)
   ·try simp only [sA] at hc1
    refine gc_sr fun K17 hK17 => ?_
    refine gas ?_
    refine gnt (hK17 _ _ ?_)
    refine gc_ret ?_
    refine gk_then_ret ?_
    refine ret_1 rfl rfl  (fun w M => ?_)
    exact ⟨rfl, M.1⟩
   ·try simp only [sA] at hc1
    refine gc_skip ?_
    refine gk_then (hK15 _ _ ?_)
    refine gc_seq fun K18 hK18 => ?_
    obtain ⟨hRe, hSe, hif, hth⟩ := hpf (by omega)
    have HR := fun (w : World) (v : Value) (h1 : RdC w v c) => impl_RetractionsOf w v c f h1
    simp only [hRe] at HR
    have HS := fun (w : World) (v : Value) (h1 : RdC w v c) => impl_SectionsOf w v c f h1
    simp only [hSe] at HS
    refine gc_region ?_
    refine gv (qts Try.underlying27 (n := 1)) ?_
    refine gm ?_
    refine gop fun K20 hK20 => ?_
    refine go_callLI rfl rfl rfl Try.func15 rfl (by decide) rfl (fun w M => HR w _ (mem_held (n := 0) M rfl)) ?_
    intro va19 vc19
    refine hK20 _ _ ?_
    refine gm ?_
    refine gv (qt_extract rfl rfl rfl) ?_
    refine gv (qt_extract rfl rfl rfl) ?_
    refine gas ?_
    refine gas ?_
    refine gnt (hK18 _ _ ?_)
    refine gc_sr fun K21 hK21 => ?_
    refine gv (qts Try.underlying27 (n := 1)) ?_
    refine gm ?_
    refine gop fun K23 hK23 => ?_
    refine go_callLI rfl rfl rfl Try.func16 rfl (by decide) rfl (fun w M => HS w _ (mem_held (n := 0) M rfl)) ?_
    intro va22 vc22
    refine hK23 _ _ ?_
    refine gm ?_
    refine gv (qt_extract rfl rfl rfl) ?_
    refine gv (qt_extract rfl rfl rfl) ?_
    refine gas ?_
    refine gas ?_
    refine gnt (hK21 _ _ ?_)
    refine gc_seq fun K24 hK24 => ?_
    refine gc_sr fun K25 hK25 => ?_
    refine gm ?_
    refine gm ?_
    refine gv (qt_add rfl rfl rfl (by omega)) ?_
    refine gv (qt_neq_f rfl rfl rfl (fun h => h rfl)) ?_
    refine gm ?_
    refine gvh (qt_move rfl rfl) ?_
    refine gvh (qln (fun w M => lenV_own1 (n := 2) rfl M)) ?_
    refine gvh (qt_gtr rfl rfl rfl) ?_
    refine g_splitv (.held _ _ _ rfl rfl rfl) rfl rfl (qt_move rfl rfl) (fun hs12_8 => ?_) (fun hs12_8 => ?_)
    ·try simp only [sA] at hs12_8
     refine gvh (qt_move rfl rfl) ?_
     refine gvh (qln (fun w M => lenV_own1 (n := 3) rfl M)) ?_
     refine gvh (qt_gtr rfl rfl rfl) ?_
     refine gvh (qt_pick_t rfl rfl rfl) ?_
     refine gvh (qt_move rfl rfl) ?_
     refine gvh (qt_eql rfl rfl rfl) ?_
     refine gvh (qt_neqBB_f rfl rfl rfl Try.underlying4 (by first | rfl | (simp only [decide_eq_decide]; omega) | (simp; omega))) ?_
     refine gv (qt_pick_f rfl rfl rfl) ?_
     refine gnt (hK25 _ _ ?_)
     refine gc_cond_f rfl ?_
     refine gc_skip ?_
     refine gk_then (hK24 _ _ ?_)
     refine gc_seq fun K26 hK26 => ?_
     refine gc_sr fun K27 hK27 => ?_
     refine gm ?_
     refine gv (qt_neq rfl rfl rfl) ?_
     refine gnt (hK27 _ _ ?_)
     refine gc_cond rfl (fun hc2 => ?_) (fun hc2 => ?_)
     ·try simp only [sA] at hc2
      refine gc_sr fun K28 hK28 => ?_
      refine gas ?_
      refine gnt (hK28 _ _ ?_)
      refine gc_ret ?_
      refine gk_then_ret ?_
      refine ret_1 rfl rfl  (fun w M => ?_)
      exact ⟨rfl, M.1⟩
     ·try simp only [sA] at hc2
      refine gc_skip ?_
      refine gk_then (hK26 _ _ ?_)
      refine gc_seq fun K29 hK29 => ?_
      obtain ⟨e1, e2, e3⟩ := hth (by omega)
      have HA := fun (w : World) (v : Value) (h1 : RdC w v c) => impl_InverseArrow w v c g h1
      simp only [e3] at HA
      simp only [e1, e2]
      refine gc_region ?_
      refine gv (qts Try.underlying27 (n := 1)) ?_
      refine gm ?_
      refine g_q (.free rfl) rfl rfl (qt_call rfl Try.func13 rfl (by decide) rfl (fun w M => HA w _ (mem_held (n := 0) M rfl))) ?_
      refine gm ?_
      refine gv (qt_extract rfl rfl rfl) ?_
      refine gv (qt_extract rfl rfl rfl) ?_
      refine gas ?_
      refine gas ?_
      refine gnt (hK29 _ _ ?_)
      refine gc_sr fun K30 hK30 => ?_
      refine gm ?_
      refine gv (qt_eql_t rfl rfl rfl rfl) ?_
      refine gm ?_
      refine gvh (qt_move rfl rfl) ?_
      refine gvh (qt_move rfl rfl) ?_
      refine gvh (qt_eql_t rfl rfl rfl rfl) ?_
      refine gv (qt_pick_t rfl rfl rfl) ?_
      refine gm ?_
      refine gvh (qt_move rfl rfl) ?_
      refine gvh (qt_move rfl rfl) ?_
      refine g_op (.held _ _ _ rfl rfl rfl) fun K32 hK32 => ?_
      refine go_slice1 rfl rfl rfl rfl Try.underlying24 ?_
      intro B31
      refine hK32 _ _ ?_
      refine g_q (.held _ _ _ rfl rfl rfl) rfl rfl (qt_call rfl Try.func17 rfl (by decide) rfl (fun w M => like_refl_any w _ _ _ ((mem_own1 (n := 2) M rfl).rd) ((mem_own1 (n := 4) M rfl).rd))) ?_
      refine gv (qt_pick_t rfl rfl rfl) ?_
      refine gm ?_
      refine gvh (qt_move rfl rfl) ?_
      refine gvh (qt_move rfl rfl) ?_
      refine g_op (.held _ _ _ rfl rfl rfl) fun K34 hK34 => ?_
      refine go_slice1 rfl rfl rfl rfl Try.underlying24 ?_
      intro B33
      refine hK34 _ _ ?_
      refine g_q (.held _ _ _ rfl rfl rfl) rfl rfl (qt_call rfl Try.func17 rfl (by decide) rfl (fun w M => like_refl_any w _ _ _ ((mem_own1 (n := 3) M rfl).rd) ((mem_own1 (n := 5) M rfl).rd))) ?_
      refine gv (qt_pick_t rfl rfl rfl) ?_
      refine gas ?_
      refine gnt (hK30 _ _ ?_)
      refine gc_ret ?_
      refine ret_1 rfl rfl  (fun w M => ?_)
      exact ⟨rfl, M.1⟩
    ·try simp only [sA] at hs12_8
     refine gsk ?_
     refine gsk ?_
     refine gsk ?_
     refine gvh (qt_pick_f rfl rfl rfl) ?_
     refine gvh (qt_move rfl rfl) ?_
     refine gvh (qt_eql rfl rfl rfl) ?_
     refine gvh (qt_neqBB_f rfl rfl rfl Try.underlying4 (by first | rfl | (simp only [decide_eq_decide]; omega) | (simp; omega))) ?_
     refine gv (qt_pick_f rfl rfl rfl) ?_
     refine gnt (hK25 _ _ ?_)
     refine gc_cond_f rfl ?_
     refine gc_skip ?_
     refine gk_then (hK24 _ _ ?_)
     refine gc_seq fun K35 hK35 => ?_
     refine gc_sr fun K36 hK36 => ?_
     refine gm ?_
     refine gv (qt_neq rfl rfl rfl) ?_
     refine gnt (hK36 _ _ ?_)
     refine gc_cond rfl (fun hc3 => ?_) (fun hc3 => ?_)
     ·try simp only [sA] at hc3
      refine gc_sr fun K37 hK37 => ?_
      refine gas ?_
      refine gnt (hK37 _ _ ?_)
      refine gc_ret ?_
      refine gk_then_ret ?_
      refine ret_1 rfl rfl  (fun w M => ?_)
      exact ⟨rfl, M.1⟩
     ·try simp only [sA] at hc3
      refine gc_skip ?_
      refine gk_then (hK35 _ _ ?_)
      refine gc_seq fun K38 hK38 => ?_
      obtain ⟨e1, e2, e3⟩ := hth (by omega)
      have HA := fun (w : World) (v : Value) (h1 : RdC w v c) => impl_InverseArrow w v c g h1
      simp only [e3] at HA
      simp only [e1, e2]
      refine gc_region ?_
      refine gv (qts Try.underlying27 (n := 1)) ?_
      refine gm ?_
      refine g_q (.free rfl) rfl rfl (qt_call rfl Try.func13 rfl (by decide) rfl (fun w M => HA w _ (mem_held (n := 0) M rfl))) ?_
      refine gm ?_
      refine gv (qt_extract rfl rfl rfl) ?_
      refine gv (qt_extract rfl rfl rfl) ?_
      refine gas ?_
      refine gas ?_
      refine gnt (hK38 _ _ ?_)
      refine gc_sr fun K39 hK39 => ?_
      refine gm ?_
      refine gv (qt_eql_t rfl rfl rfl rfl) ?_
      refine gm ?_
      refine gvh (qt_move rfl rfl) ?_
      refine gvh (qt_move rfl rfl) ?_
      refine gvh (qt_eql_t rfl rfl rfl rfl) ?_
      refine gv (qt_pick_t rfl rfl rfl) ?_
      refine gm ?_
      refine gvh (qt_move rfl rfl) ?_
      refine gvh (qt_move rfl rfl) ?_
      refine g_op (.held _ _ _ rfl rfl rfl) fun K41 hK41 => ?_
      refine go_slice1 rfl rfl rfl rfl Try.underlying24 ?_
      intro B40
      refine hK41 _ _ ?_
      refine g_q (.held _ _ _ rfl rfl rfl) rfl rfl (qt_call rfl Try.func17 rfl (by decide) rfl (fun w M => like_refl_any w _ _ _ ((mem_own1 (n := 2) M rfl).rd) ((mem_own1 (n := 4) M rfl).rd))) ?_
      refine gv (qt_pick_t rfl rfl rfl) ?_
      refine gm ?_
      refine gvh (qt_move rfl rfl) ?_
      refine gvh (qt_move rfl rfl) ?_
      refine g_op (.held _ _ _ rfl rfl rfl) fun K43 hK43 => ?_
      refine go_slice1 rfl rfl rfl rfl Try.underlying24 ?_
      intro B42
      refine hK43 _ _ ?_
      refine g_q (.held _ _ _ rfl rfl rfl) rfl rfl (qt_call rfl Try.func17 rfl (by decide) rfl (fun w M => like_refl_any w _ _ _ ((mem_own1 (n := 3) M rfl).rd) ((mem_own1 (n := 5) M rfl).rd))) ?_
      refine gv (qt_pick_t rfl rfl rfl) ?_
      refine gas ?_
      refine gnt (hK39 _ _ ?_)
      refine gc_ret ?_
      refine ret_1 rfl rfl  (fun w M => ?_)
      exact ⟨rfl, M.1⟩
  ·try simp only [sA] at hs8_2
   refine gsk ?_
   refine gsk ?_
   refine gv (qt_pick_f rfl rfl rfl) ?_
   refine gnt (hK16 _ _ ?_)
   refine gc_cond_f rfl ?_
   refine gc_skip ?_
   refine gk_then (hK15 _ _ ?_)
   refine gc_seq fun K44 hK44 => ?_
   obtain ⟨hRe, hSe, hif, hth⟩ := hpf (by omega)
   have HR := fun (w : World) (v : Value) (h1 : RdC w v c) => impl_RetractionsOf w v c f h1
   simp only [hRe] at HR
   have HS := fun (w : World) (v : Value) (h1 : RdC w v c) => impl_SectionsOf w v c f h1
   simp only [hSe] at HS
   refine gc_region ?_
   refine gv (qts Try.underlying27 (n := 1)) ?_
   refine gm ?_
   refine gop fun K46 hK46 => ?_
   refine go_callLI rfl rfl rfl Try.func15 rfl (by decide) rfl (fun w M => HR w _ (mem_held (n := 0) M rfl)) ?_
   intro va45 vc45
   refine hK46 _ _ ?_
   refine gm ?_
   refine gv (qt_extract rfl rfl rfl) ?_
   refine gv (qt_extract rfl rfl rfl) ?_
   refine gas ?_
   refine gas ?_
   refine gnt (hK44 _ _ ?_)
   refine gc_sr fun K47 hK47 => ?_
   refine gv (qts Try.underlying27 (n := 1)) ?_
   refine gm ?_
   refine gop fun K49 hK49 => ?_
   refine go_callLI rfl rfl rfl Try.func16 rfl (by decide) rfl (fun w M => HS w _ (mem_held (n := 0) M rfl)) ?_
   intro va48 vc48
   refine hK49 _ _ ?_
   refine gm ?_
   refine gv (qt_extract rfl rfl rfl) ?_
   refine gv (qt_extract rfl rfl rfl) ?_
   refine gas ?_
   refine gas ?_
   refine gnt (hK47 _ _ ?_)
   refine gc_seq fun K50 hK50 => ?_
   refine gc_sr fun K51 hK51 => ?_
   refine gm ?_
   refine gm ?_
   refine gv (qt_add rfl rfl rfl (by omega)) ?_
   refine gv (qt_neq_f rfl rfl rfl (fun h => h rfl)) ?_
   refine gm ?_
   refine gvh (qt_move rfl rfl) ?_
   refine gvh (qln (fun w M => lenV_own1 (n := 2) rfl M)) ?_
   refine gvh (qt_gtr rfl rfl rfl) ?_
   refine g_splitv (.held _ _ _ rfl rfl rfl) rfl rfl (qt_move rfl rfl) (fun hs12_8 => ?_) (fun hs12_8 => ?_)
   ·try simp only [sA] at hs12_8
    refine gvh (qt_move rfl rfl) ?_
    refine gvh (qln (fun w M => lenV_own1 (n := 3) rfl M)) ?_
    refine gvh (qt_gtr rfl rfl rfl) ?_
    refine gvh (qt_pick_t rfl rfl rfl) ?_
    refine gvh (qt_move rfl rfl) ?_
    refine gvh (qt_eql rfl rfl rfl) ?_
    refine gvh (qt_neqBB_f rfl rfl rfl Try.underlying4 (by first | rfl | (simp only [decide_eq_decide]; omega) | (simp; omega))) ?_
    refine gv (qt_pick_f rfl rfl rfl) ?_
    refine gnt (hK51 _ _ ?_)
    refine gc_cond_f rfl ?_
    refine gc_skip ?_
    refine gk_then (hK50 _ _ ?_)
    refine gc_seq fun K52 hK52 => ?_
    refine gc_sr fun K53 hK53 => ?_
    refine gm ?_
    refine gv (qt_neq rfl rfl rfl) ?_
    refine gnt (hK53 _ _ ?_)
    refine gc_cond rfl (fun hc4 => ?_) (fun hc4 => ?_)
    ·try simp only [sA] at hc4
     refine gc_sr fun K54 hK54 => ?_
     refine gas ?_
     refine gnt (hK54 _ _ ?_)
     refine gc_ret ?_
     refine gk_then_ret ?_
     refine ret_1 rfl rfl  (fun w M => ?_)
     exact ⟨rfl, M.1⟩
    ·try simp only [sA] at hc4
     refine gc_skip ?_
     refine gk_then (hK52 _ _ ?_)
     refine gc_seq fun K55 hK55 => ?_
     obtain ⟨e1, e2, e3⟩ := hth (by omega)
     have HA := fun (w : World) (v : Value) (h1 : RdC w v c) => impl_InverseArrow w v c g h1
     simp only [e3] at HA
     simp only [e1, e2]
     refine gc_region ?_
     refine gv (qts Try.underlying27 (n := 1)) ?_
     refine gm ?_
     refine g_q (.free rfl) rfl rfl (qt_call rfl Try.func13 rfl (by decide) rfl (fun w M => HA w _ (mem_held (n := 0) M rfl))) ?_
     refine gm ?_
     refine gv (qt_extract rfl rfl rfl) ?_
     refine gv (qt_extract rfl rfl rfl) ?_
     refine gas ?_
     refine gas ?_
     refine gnt (hK55 _ _ ?_)
     refine gc_sr fun K56 hK56 => ?_
     refine gm ?_
     refine gv (qt_eql_t rfl rfl rfl rfl) ?_
     refine gm ?_
     refine gvh (qt_move rfl rfl) ?_
     refine gvh (qt_move rfl rfl) ?_
     refine gvh (qt_eql_t rfl rfl rfl rfl) ?_
     refine gv (qt_pick_t rfl rfl rfl) ?_
     refine gm ?_
     refine gvh (qt_move rfl rfl) ?_
     refine gvh (qt_move rfl rfl) ?_
     refine g_op (.held _ _ _ rfl rfl rfl) fun K58 hK58 => ?_
     refine go_slice1 rfl rfl rfl rfl Try.underlying24 ?_
     intro B57
     refine hK58 _ _ ?_
     refine g_q (.held _ _ _ rfl rfl rfl) rfl rfl (qt_call rfl Try.func17 rfl (by decide) rfl (fun w M => like_refl_any w _ _ _ ((mem_own1 (n := 2) M rfl).rd) ((mem_own1 (n := 4) M rfl).rd))) ?_
     refine gv (qt_pick_t rfl rfl rfl) ?_
     refine gm ?_
     refine gvh (qt_move rfl rfl) ?_
     refine gvh (qt_move rfl rfl) ?_
     refine g_op (.held _ _ _ rfl rfl rfl) fun K60 hK60 => ?_
     refine go_slice1 rfl rfl rfl rfl Try.underlying24 ?_
     intro B59
     refine hK60 _ _ ?_
     refine g_q (.held _ _ _ rfl rfl rfl) rfl rfl (qt_call rfl Try.func17 rfl (by decide) rfl (fun w M => like_refl_any w _ _ _ ((mem_own1 (n := 3) M rfl).rd) ((mem_own1 (n := 5) M rfl).rd))) ?_
     refine gv (qt_pick_t rfl rfl rfl) ?_
     refine gas ?_
     refine gnt (hK56 _ _ ?_)
     refine gc_ret ?_
     refine ret_1 rfl rfl  (fun w M => ?_)
     exact ⟨rfl, M.1⟩
   ·try simp only [sA] at hs12_8
    refine gsk ?_
    refine gsk ?_
    refine gsk ?_
    refine gvh (qt_pick_f rfl rfl rfl) ?_
    refine gvh (qt_move rfl rfl) ?_
    refine gvh (qt_eql rfl rfl rfl) ?_
    refine gvh (qt_neqBB_f rfl rfl rfl Try.underlying4 (by first | rfl | (simp only [decide_eq_decide]; omega) | (simp; omega))) ?_
    refine gv (qt_pick_f rfl rfl rfl) ?_
    refine gnt (hK51 _ _ ?_)
    refine gc_cond_f rfl ?_
    refine gc_skip ?_
    refine gk_then (hK50 _ _ ?_)
    refine gc_seq fun K61 hK61 => ?_
    refine gc_sr fun K62 hK62 => ?_
    refine gm ?_
    refine gv (qt_neq rfl rfl rfl) ?_
    refine gnt (hK62 _ _ ?_)
    refine gc_cond rfl (fun hc5 => ?_) (fun hc5 => ?_)
    ·try simp only [sA] at hc5
     refine gc_sr fun K63 hK63 => ?_
     refine gas ?_
     refine gnt (hK63 _ _ ?_)
     refine gc_ret ?_
     refine gk_then_ret ?_
     refine ret_1 rfl rfl  (fun w M => ?_)
     exact ⟨rfl, M.1⟩
    ·try simp only [sA] at hc5
     refine gc_skip ?_
     refine gk_then (hK61 _ _ ?_)
     refine gc_seq fun K64 hK64 => ?_
     obtain ⟨e1, e2, e3⟩ := hth (by omega)
     have HA := fun (w : World) (v : Value) (h1 : RdC w v c) => impl_InverseArrow w v c g h1
     simp only [e3] at HA
     simp only [e1, e2]
     refine gc_region ?_
     refine gv (qts Try.underlying27 (n := 1)) ?_
     refine gm ?_
     refine g_q (.free rfl) rfl rfl (qt_call rfl Try.func13 rfl (by decide) rfl (fun w M => HA w _ (mem_held (n := 0) M rfl))) ?_
     refine gm ?_
     refine gv (qt_extract rfl rfl rfl) ?_
     refine gv (qt_extract rfl rfl rfl) ?_
     refine gas ?_
     refine gas ?_
     refine gnt (hK64 _ _ ?_)
     refine gc_sr fun K65 hK65 => ?_
     refine gm ?_
     refine gv (qt_eql_t rfl rfl rfl rfl) ?_
     refine gm ?_
     refine gvh (qt_move rfl rfl) ?_
     refine gvh (qt_move rfl rfl) ?_
     refine gvh (qt_eql_t rfl rfl rfl rfl) ?_
     refine gv (qt_pick_t rfl rfl rfl) ?_
     refine gm ?_
     refine gvh (qt_move rfl rfl) ?_
     refine gvh (qt_move rfl rfl) ?_
     refine g_op (.held _ _ _ rfl rfl rfl) fun K67 hK67 => ?_
     refine go_slice1 rfl rfl rfl rfl Try.underlying24 ?_
     intro B66
     refine hK67 _ _ ?_
     refine g_q (.held _ _ _ rfl rfl rfl) rfl rfl (qt_call rfl Try.func17 rfl (by decide) rfl (fun w M => like_refl_any w _ _ _ ((mem_own1 (n := 2) M rfl).rd) ((mem_own1 (n := 4) M rfl).rd))) ?_
     refine gv (qt_pick_t rfl rfl rfl) ?_
     refine gm ?_
     refine gvh (qt_move rfl rfl) ?_
     refine gvh (qt_move rfl rfl) ?_
     refine g_op (.held _ _ _ rfl rfl rfl) fun K69 hK69 => ?_
     refine go_slice1 rfl rfl rfl rfl Try.underlying24 ?_
     intro B68
     refine hK69 _ _ ?_
     refine g_q (.held _ _ _ rfl rfl rfl) rfl rfl (qt_call rfl Try.func17 rfl (by decide) rfl (fun w M => like_refl_any w _ _ _ ((mem_own1 (n := 3) M rfl).rd) ((mem_own1 (n := 5) M rfl).rd))) ?_
     refine gv (qt_pick_t rfl rfl rfl) ?_
     refine gas ?_
     refine gnt (hK65 _ _ ?_)
     refine gc_ret ?_
     refine ret_1 rfl rfl  (fun w M => ?_)
     exact ⟨rfl, M.1⟩
end Go.Proofs.Ytpfcfhjpgngneac
