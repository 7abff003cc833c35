
/- Functors to and from products: both sides of the product of two functors and of the pair. -/
import Derived.Test.YtpfcfhjpgngneabShort
import Derived.Test.YtpfcfhjpgngneabPrL
import Derived.Test.YtpfcfhjpgngneabFunL
import Derived.Test.YtpfcfhjpgngneabProdI
import Derived.Test.YtpfcfhjpgngneabThE
set_option linter.unusedSimpArgs false
set_option linter.unusedVariables false
set_option linter.unusedSectionVars false
namespace Go.Proofs.Ytpfcfhjpgngneab
open Go.RowKit


def numP (n : Int) (a b : Int) : Int := a * n + b
noncomputable def prodFct (F G : Fct) : Fct := ⟨prodM F.S G.S, prodM F.T G.T, prL (fun a b => a * G.T.ob + b) F.o G.o, prL (fun a b => a * (G.T.s.length : Int) + b) F.a G.a⟩
noncomputable def pairFct (F G : Fct) : Fct := ⟨F.S, prodM F.T G.T, zpL (fun a b => a * G.T.ob + b) F.o G.o, zpL (fun a b => a * (G.T.s.length : Int) + b) F.a G.a⟩
noncomputable def fProductFunctor (F G : Fct) : Fct × Int := if twoFE F G = 0 then (if bP (FitP (prodM F.S G.S) ∧ FitP (prodM F.T G.T)) = true then (prodFct F G, 0) else (fct0, 3)) else (fct0, 1)
theorem pdf_t {F G : Fct} (h : twoFE F G = 0) (h' : FitP (prodM F.S G.S) ∧ FitP (prodM F.T G.T)) : fProductFunctor F G = (prodFct F G, 0) := by unfold fProductFunctor; rw [if_pos h, if_pos (bP_t h')]
theorem pdf_l {F G : Fct} (h : twoFE F G = 0) (h' : ¬ (FitP (prodM F.S G.S) ∧ FitP (prodM F.T G.T))) : fProductFunctor F G = (fct0, 3) := by unfold fProductFunctor; rw [if_pos h, if_neg (by rw [bP_f h']; decide)]
theorem pdf_f {F G : Fct} (h : ¬ twoFE F G = 0) : fProductFunctor F G = (fct0, 1) := if_neg h
noncomputable def fPairFunctors (F G : Fct) : Fct × Int := if twoFE F G = 0 then (if bP (F.S = G.S) = true then (if bP (FitP (prodM F.T G.T)) = true then (pairFct F G, 0) else (fct0, 3)) else (fct0, 5)) else (fct0, 1)
theorem prf_t {F G : Fct} (h : twoFE F G = 0) (hs : F.S = G.S) (h' : FitP (prodM F.T G.T)) : fPairFunctors F G = (pairFct F G, 0) := by unfold fPairFunctors; rw [if_pos h, if_pos (bP_t hs), if_pos (bP_t h')]
theorem prf_l {F G : Fct} (h : twoFE F G = 0) (hs : F.S = G.S) (h' : ¬ FitP (prodM F.T G.T)) : fPairFunctors F G = (fct0, 3) := by unfold fPairFunctors; rw [if_pos h, if_pos (bP_t hs), if_neg (by rw [bP_f h']; decide)]
theorem prf_s {F G : Fct} (h : twoFE F G = 0) (hs : ¬ F.S = G.S) : fPairFunctors F G = (fct0, 5) := by unfold fPairFunctors; rw [if_pos h, if_neg (by rw [bP_f hs]; decide)]
theorem prf_f {F G : Fct} (h : ¬ twoFE F G = 0) : fPairFunctors F G = (fct0, 1) := if_neg h
theorem mz_prod {c d : Cat} (h : fIsCategory c = true) (h' : fIsCategory d = true) (hf : FitP (prodM c d)) : mzC (prodM c d) ≤ 1152921504606846 := by have := bound_ProductCategory c d; rwa [prd_t h h' hf] at this
theorem allP_b {xs : List Int} (h : AllP 100 xs) {i : Nat} (hi : i < xs.length) : 0 ≤ at0 xs (i : Int) ∧ at0 xs (i : Int) ≤ 100 := ⟨(allP_at h hi).1, by have := (allP_at h hi).2; omega⟩
structure LnF (F : Fct) : Prop where
 o8 : F.o.length ≤ 8
 a40 : F.a.length ≤ 40
 po : AllP 100 F.o
 pa : AllP 100 F.a
 t8 : F.T.ob ≤ 8
 t0 : 0 ≤ F.T.ob
 n40 : F.T.s.length ≤ 40
 sS : ShapeP F.S
 sT : ShapeP F.T
theorem lnF {F : Fct} (h : fIsFunctor F = true) : LnF F := by
 have hF := isf_of h
 have hS := (isCat_of hF.cs).toShapeP; have hT := (isCat_of hF.ct).toShapeP
 have h1 := hS.ob8; have h2 := hS.n40; have h3 := hF.lo; have h4 := hF.la; have h5 := hT.ob8; have h6 := hT.n40
 exact ⟨by omega, by omega, allP_100 hF.io (by omega), allP_100 hF.ia (by omega), h5, hT.ob0, h6, hS, hT⟩
theorem bound_ProductFunctor (F G : Fct) : mzF (fProductFunctor F G).1 ≤ 3500000000000000 := by
 by_cases h : twoFE F G = 0
 ·by_cases h' : FitP (prodM F.S G.S) ∧ FitP (prodM F.T G.T)
  ·have hh := twoFE_0 h
   have hF := isf_of hh.1; have hG := isf_of hh.2
   have h1 := mz_prod hF.cs hG.cs h'.1; have h2 := mz_prod hF.ct hG.ct h'.2
   have l1 := lnF hh.1; have l2 := lnF hh.2
   have o1 := l1.o8; have o2 := l2.o8; have a1 := l1.a40; have a2 := l2.a40
   have m1 := mul_40 (m := G.o.length) (k := F.o.length) (by omega) (by omega); have m2 := mul_40 (m := G.a.length) (k := F.a.length) (by omega) (by omega)
   rw [pdf_t h h']
   have e1 : (prodFct F G).o.length = G.o.length * F.o.length := prL_len (fun a b => a * G.T.ob + b) F.o G.o
   have e2 : (prodFct F G).a.length = G.a.length * F.a.length := prL_len (fun a b => a * (G.T.s.length : Int) + b) F.a G.a
   show mzC (prodM F.S G.S) + mzC (prodM F.T G.T) + (prodFct F G).o.length + (prodFct F G).a.length ≤ _
   rw [e1, e2]; omega
  ·rw [pdf_l h h']; decide
 ·rw [pdf_f h]; decide
theorem bound_PairFunctors (F G : Fct) : mzF (fPairFunctors F G).1 ≤ 3500000000000000 := by
 by_cases h : twoFE F G = 0
 ·by_cases hs : F.S = G.S
  ·by_cases h' : FitP (prodM F.T G.T)
   ·have hh := twoFE_0 h
    have hF := isf_of hh.1; have hG := isf_of hh.2
    have h1 := mz_cat hF.cs; have h2 := mz_prod hF.ct hG.ct h'
    have l1 := lnF hh.1
    have o1 := l1.o8; have a1 := l1.a40
    rw [prf_t h hs h']
    have e1 : (pairFct F G).o.length = F.o.length := zpL_len (fun a b => a * G.T.ob + b) F.o G.o
    have e2 : (pairFct F G).a.length = F.a.length := zpL_len (fun a b => a * (G.T.s.length : Int) + b) F.a G.a
    show mzC F.S + mzC (prodM F.T G.T) + (pairFct F G).o.length + (pairFct F G).a.length ≤ _
    rw [e1, e2]; omega
   ·rw [prf_l h hs h']; decide
  ·rw [prf_s h hs]; decide
 ·rw [prf_f h]; decide
theorem prd_0 {c d : Cat} (h : fIsCategory c = true) (h' : fIsCategory d = true) (h2 : (fProductCategory c d).2 = 0) : FitP (prodM c d) := by
 refine Classical.byContradiction fun hn => ?_
 rw [prd_l h h' hn] at h2; exact absurd h2 (by decide)
theorem prd_3 {c d : Cat} (h : fIsCategory c = true) (h' : fIsCategory d = true) (h2 : ¬ (fProductCategory c d).2 = 0) : ¬ FitP (prodM c d) ∧ (fProductCategory c d).2 = 3 := by
 have hn : ¬ FitP (prodM c d) := fun hf => h2 (by rw [prd_t h h' hf])
 exact ⟨hn, by rw [prd_l h h' hn]⟩

set_option maxHeartbeats 4000000 in
set_option maxRecDepth 100000 in
theorem spec_PairFunctors (w : World) (v : Value) (F : Fct) (u : Value) (G : Fct) (h : RdF w v F) (e : RdF w u G) :
  Calls Try.prog 30 #[v, u] w (RetFI w (fPairFunctors F G).1 (fPairFunctors F G).2) := by
 have h0 := h
 obtain ⟨vx1, vx2, vx3, vx4, vx5, vx6, vx7, vx8, vx9, vx10, vk1, vk2, vk3, vk4, vk5, vk6, vk7, vk8, vk9, vk10, rfl, h1, h2, h3, h4, h5, h6, h7, h8, h9, h10⟩ := h.lists
 have e0 := e
 obtain ⟨ux1, ux2, ux3, ux4, ux5, ux6, ux7, ux8, ux9, ux10, uk1, uk2, uk3, uk4, uk5, uk6, uk7, uk8, uk9, uk10, rfl, e1, e2, e3, e4, e5, e6, e7, e8, e9, e10⟩ := e.lists
 go_enter Try.func30, Try.ntmps30
 refine gc_enter (N := 52) rfl (look_cons (k := 0) rfl (look_cons (k := 1) rfl (look_nil _))) ?_
 refine gc_sr fun K1 hK1 => ?_
 refine gop fun K3 hK3 => ?_
 refine go_box rfl rfl rfl rfl rfl ?_
 intro B2
 refine hK3 _ _ ?_
 refine gop fun K5 hK5 => ?_
 refine go_box rfl rfl rfl rfl rfl ?_
 intro B4
 refine hK5 _ _ ?_
 refine gop fun K7 hK7 => ?_
 refine go_alloc (z := (.agg #[.int .i64 0, .slice none 0 0, .slice none 0 0, .slice none 0 0, .slice none 0 0, .int .i64 0, .slice none 0 0, .slice none 0 0, .slice none 0 0, .slice none 0 0, .slice none 0 0, .slice none 0 0])) (cs := [.int .i64 0, .slice none 0 0, .slice none 0 0, .slice none 0 0, .slice none 0 0, .int .i64 0, .slice none 0 0, .slice none 0 0, .slice none 0 0, .slice none 0 0, .slice none 0 0, .slice none 0 0]) rfl rfl rfl (fun w => by kernel_rfl) rfl ?_
 intro B6
 refine hK7 _ _ ?_
 refine gas ?_
 refine gnt (hK1 _ _ ?_)
 refine gc_seq fun K8 hK8 => ?_
 refine gc_sr fun K9 hK9 => ?_
 refine gv (qts Try.underlying31 (n := 0)) ?_
 refine gv (qts Try.underlying31 (n := 1)) ?_
 refine g_q (.free rfl) rfl rfl (qt_call rfl Try.func53 rfl (by decide) rfl (fun w M => specTwoF_any w _ _ (mem_rdF M h0) _ _ (mem_rdF M e0))) ?_
 refine gas ?_
 refine gnt (hK9 _ _ ?_)
 refine gc_sr fun K10 hK10 => ?_
 refine gm ?_
 refine gv (qt_neq rfl rfl rfl) ?_
 refine gnt (hK10 _ _ ?_)
 refine gc_cond rfl (fun hc0 => ?_) (fun hc0 => ?_)
 ·try simp only [sA] at hc0
  refine gc_sr fun K11 hK11 => ?_
  refine gv (qt_build rfl rfl bt0_Functor) ?_
  refine gm ?_
  refine gop fun K12 hK12 => ?_
  refine go_storeS (n := 2) rfl rfl rfl rfl (by kernel_rfl) rfl rfl rfl ?_
  refine hK12 _ _ ?_
  refine gas ?_
  refine gnt (hK11 _ _ ?_)
  refine gc_ret ?_
  refine gk_then_ret ?_
  refine ret_SI (n := 2) rfl rfl rfl Try.underlying31 rfl (by kernel_rfl) rfl (fun w M => ?_)
  rw [(twoFE_n hc0).2, prf_f hc0]; exact retFI_zero M.1
 ·try simp only [sA] at hc0
  refine gc_skip ?_
  refine gk_then (hK8 _ _ ?_)
  refine gc_seq fun K13 hK13 => ?_
  refine gc_seq fun K14 hK14 => ?_
  have hh := twoFE_0 hc0
  have hF := isf_of hh.1; have hG := isf_of hh.2
  have l1 := lnF hh.1; have l2 := lnF hh.2
  have o1 := l1.o8; have o2 := l2.o8; have a1 := l1.a40; have a2 := l2.a40; have t1 := l2.t8; have t2 := l2.t0; have t3 := l2.n40
  refine gc_region ?_
  refine gv (qtf Try.underlying31 (z := 4) (off := 0)) ?_
  refine gv (qt_loadP (n := 0) (z := 5) rfl rfl Try.underlying29 rfl (by kernel_rfl) rfl (by first | decide | exact Nat.le_refl _ | simp)) ?_
  refine gv (qtf Try.underlying31 (z := 4) (off := 0)) ?_
  refine gv (qt_loadP (n := 1) (z := 5) rfl rfl Try.underlying29 rfl (by kernel_rfl) rfl (by first | decide | exact Nat.le_refl _ | simp)) ?_
  refine g_q (.free rfl) rfl rfl (qt_call rfl Try.func71 rfl (by decide) rfl (fun w M => specSameC_any w _ _ (rdC_mk (mem_rd M h1) (mem_rd M h2) (mem_rd M h3) (mem_rd2 M h4)) _ _ (rdC_mk (mem_rd M e1) (mem_rd M e2) (mem_rd M e3) (mem_rd2 M e4)))) ?_
  refine gv (qt_not rfl rfl) ?_
  refine gnt (hK14 _ _ ?_)
  refine gc_cond rfl (fun hc1 => ?_) (fun hc1 => ?_)
  ·try simp only [sA] at hc1
   refine gc_sr fun K15 hK15 => ?_
   refine gv (qt_build rfl rfl bt0_Functor) ?_
   refine gop fun K16 hK16 => ?_
   refine go_storeS (n := 2) rfl rfl rfl rfl (by kernel_rfl) rfl rfl rfl ?_
   refine hK16 _ _ ?_
   refine gas ?_
   refine gnt (hK15 _ _ ?_)
   refine gc_ret ?_
   refine gk_then_ret ?_
   refine ret_SI (n := 2) rfl rfl rfl Try.underlying31 rfl (by kernel_rfl) rfl (fun w M => ?_)
   rw [prf_s hc0 (bP_f' hc1)]; exact retFI_zero M.1
  ·try simp only [sA] at hc1
   refine gc_skip ?_
   refine gk_then (hK13 _ _ ?_)
   refine gc_seq fun K17 hK17 => ?_
   have hE : F.S = G.S := bP_t' hc1
   have lo : F.o.length = G.o.length := by have h1 := hF.lo; have h2 := hG.lo; rw [hE] at h1; omega
   have la : F.a.length = G.a.length := by have h1 := hF.la; have h2 := hG.la; rw [hE] at h1; omega
   refine gc_region ?_
   refine gv (qtf Try.underlying31 (z := 4) (off := 5)) ?_
   refine gv (qt_loadP (n := 0) (z := 5) rfl rfl Try.underlying29 rfl (by kernel_rfl) rfl (by first | decide | exact Nat.le_refl _ | simp)) ?_
   refine gv (qtf Try.underlying31 (z := 4) (off := 5)) ?_
   refine gv (qt_loadP (n := 1) (z := 5) rfl rfl Try.underlying29 rfl (by kernel_rfl) rfl (by first | decide | exact Nat.le_refl _ | simp)) ?_
   refine gop fun K19 hK19 => ?_
   refine go_callC rfl rfl rfl Try.func54 rfl (by decide) rfl (fun w M => specProduct_any w _ _ (rdC_mk (mem_rd M h5) (mem_rd M h6) (mem_rd M h7) (mem_rd2 M h8)) _ _ (rdC_mk (mem_rd M e5) (mem_rd M e6) (mem_rd M e7) (mem_rd2 M e8)) (by first | exact l1.sS | exact l1.sT) (by first | exact l2.sS | exact l2.sT)) ?_
   intro ca18 cb18 cc18 cd18 ce18 cf18 cg18 ch18 cu18
   refine hK19 _ _ ?_
   refine gop fun K21 hK21 => ?_
   refine go_alloc (z := (.agg #[.int .i64 0, .slice none 0 0, .slice none 0 0, .slice none 0 0, .slice none 0 0])) (cs := [.int .i64 0, .slice none 0 0, .slice none 0 0, .slice none 0 0, .slice none 0 0]) rfl rfl rfl (fun w => by kernel_rfl) rfl ?_
   intro B20
   refine hK21 _ _ ?_
   refine gop fun K22 hK22 => ?_
   refine go_storeS (n := 7) rfl rfl rfl rfl (by kernel_rfl) rfl rfl rfl ?_
   refine hK22 _ _ ?_
   refine gnt (hK17 _ _ ?_)
   refine gc_seq fun K23 hK23 => ?_
   refine gc_sr fun K24 hK24 => ?_
   refine gv (qts Try.underlying29 (n := 7)) ?_
   refine g_q (.free rfl) rfl rfl (qt_call rfl Try.func55 rfl (by decide) rfl (fun w M => specFits_any w _ _ (rdC_mk ((mem_own1 (n := 3) M rfl).rd) ((mem_own1 (n := 4) M rfl).rd) ((mem_own1 (n := 5) M rfl).rd) (mem_rdU (n := 6) M rfl)))) ?_
   refine gv (qt_not rfl rfl) ?_
   refine gnt (hK24 _ _ ?_)
   refine gc_cond rfl (fun hc2 => ?_) (fun hc2 => ?_)
   ·try simp only [sA] at hc2
    refine gc_sr fun K25 hK25 => ?_
    refine gv (qt_build rfl rfl bt0_Functor) ?_
    refine gop fun K26 hK26 => ?_
    refine go_storeS (n := 2) rfl rfl rfl rfl (by kernel_rfl) rfl rfl rfl ?_
    refine hK26 _ _ ?_
    refine gas ?_
    refine gnt (hK25 _ _ ?_)
    refine gc_ret ?_
    refine gk_then_ret ?_
    refine ret_SI (n := 2) rfl rfl rfl Try.underlying31 rfl (by kernel_rfl) rfl (fun w M => ?_)
    rw [prf_l hc0 hE (bP_f' hc2)]; exact retFI_zero M.1
   ·try simp only [sA] at hc2
    refine gc_skip ?_
    refine gk_then (hK23 _ _ ?_)
    refine gc_seq fun K27 hK27 => ?_
    try simp only [sL]
    refine ga_start _ (fun w M => mem_erase 2 (M)) ?_
    refine gav 0 rfl (qtf Try.underlying31 (z := 4) (off := 0)) ?_
    refine gav 1 rfl (qt_loadP (n := 0) (z := 5) rfl rfl Try.underlying29 rfl (by kernel_rfl) rfl (by first | decide | exact Nat.le_refl _ | simp)) ?_
    refine gav 2 rfl (qts Try.underlying29 (n := 6)) ?_
    refine gav 3 rfl (qtf Try.underlying31 (z := 0) (off := 10)) ?_
    refine gav 4 rfl (qtl Try.underlying22 (n := 0)) ?_
    refine gav 5 rfl (qtf Try.underlying31 (z := 0) (off := 10)) ?_
    refine gav 6 rfl (qtl Try.underlying22 (n := 1)) ?_
    refine gav 7 rfl (qtf Try.underlying31 (z := 4) (off := 5)) ?_
    refine gav 8 rfl (qtf Try.underlying29 (z := 0) (off := 0)) ?_
    refine gav 9 rfl (qtl Try.underlying2 (n := 1)) ?_
    refine gav 11 rfl (qtf Try.underlying31 (z := 0) (off := 11)) ?_
    refine gav 12 rfl (qtl Try.underlying22 (n := 0)) ?_
    refine gav 13 rfl (qtf Try.underlying31 (z := 0) (off := 11)) ?_
    refine gav 14 rfl (qtl Try.underlying22 (n := 1)) ?_
    refine gav 15 rfl (qtf Try.underlying31 (z := 4) (off := 5)) ?_
    refine gav 16 rfl (qtf Try.underlying29 (z := 0) (off := 1)) ?_
    refine gav 17 rfl (qtl Try.underlying22 (n := 1)) ?_
    refine gav 18 rfl (qln (fun w M => lenV_rd e5)) ?_
    refine gao 10 fun K29 hK29 => ?_
    refine go_callL rfl rfl rfl Try.func72 rfl (by decide) rfl (fun w M => specZip_any w _ _ _ _ (mem_rd M h9) (mem_rd M e9) (by omega) (by omega) (by first | exact lo | exact la) _ (by first | exact l1.po | exact l1.pa) (by first | exact l2.po | exact l2.pa) (by omega) (by omega)) ?_
    intro va28 vc28
    refine hK29 _ _ (fun w M => (mem_erase 2 (mem_take 8 M) :)) ?_
    refine gao 19 fun K31 hK31 => ?_
    refine go_callL rfl rfl rfl Try.func72 rfl (by decide) rfl (fun w M => specZip_any w _ _ _ _ (mem_rd M h10) (mem_rd M e10) (by omega) (by omega) (by first | exact lo | exact la) _ (by first | exact l1.po | exact l1.pa) (by first | exact l2.po | exact l2.pa) (by omega) (by omega)) ?_
    intro va30 vc30
    refine hK31 _ _ (fun w M => (mem_erase 2 (mem_take 8 M) :)) ?_
    refine gao 20 fun K33 hK33 => ?_
    refine go_callFn rfl rfl rfl Try.func56 rfl (by decide) rfl (fun w M => specMakeF_any w _ _ (rdC_mk (mem_rd M h1) (mem_rd M h2) (mem_rd M h3) (mem_rd2 M h4)) _ _ (rdC_mk ((mem_own1 (n := 3) M rfl).rd) ((mem_own1 (n := 4) M rfl).rd) ((mem_own1 (n := 5) M rfl).rd) (mem_rdU (n := 6) M rfl)) _ _ _ _ ((mem_own1 (n := 8) M rfl).rd) ((mem_own1 (n := 9) M rfl).rd)) ?_
    intro fx1_32 fk1_32 fx2_32 fk2_32 fx3_32 fk3_32 fx4_32 fk4_32 fx5_32 fk5_32 fx6_32 fk6_32 fx7_32 fk7_32 fx8_32 fk8_32 fx9_32 fk9_32 fx10_32 fk10_32 us32 ut32
    refine hK33 _ _ (fun w M => (mem_erase 2 (mem_take 8 M) :)) ?_
    refine gao 21 fun K34 hK34 => ?_
    refine go_storeS (n := 2) rfl rfl rfl rfl (by kernel_rfl) rfl rfl rfl ?_
    refine hK34 _ _ (fun w M => (mem_erase 2 (mem_take 8 M) :)) ?_
    refine gav 22 rfl (qt_assign rfl rfl) ?_
    refine ga_done (by kernel_rfl) ?_
    refine gk_then (hK27 _ _ ?_)
    refine gc_ret ?_
    refine ret_SI (n := 2) rfl rfl rfl Try.underlying31 rfl (by kernel_rfl) rfl (fun w M => ?_)
    rw [prf_t hc0 hE (bP_t' hc2)]; exact retFI_star (F := pairFct F G) (mem_block 10 10 (M))

set_option maxHeartbeats 4000000 in
set_option maxRecDepth 100000 in
theorem impl_PairFunctors (w : World) (v : Value) (F : Fct) (u : Value) (G : Fct) (h : RdF w v F) (e : RdF w u G) :
  Calls Try.prog 31 #[v, u] w (RetFI w (fPairFunctors F G).1 (fPairFunctors F G).2) := by
 have h0 := h
 obtain ⟨vx1, vx2, vx3, vx4, vx5, vx6, vx7, vx8, vx9, vx10, vk1, vk2, vk3, vk4, vk5, vk6, vk7, vk8, vk9, vk10, rfl, h1, h2, h3, h4, h5, h6, h7, h8, h9, h10⟩ := h.lists
 have e0 := e
 obtain ⟨ux1, ux2, ux3, ux4, ux5, ux6, ux7, ux8, ux9, ux10, uk1, uk2, uk3, uk4, uk5, uk6, uk7, uk8, uk9, uk10, rfl, e1, e2, e3, e4, e5, e6, e7, e8, e9, e10⟩ := e.lists
 go_enter Try.func31, Try.ntmps31
 refine gc_enter (N := 66) rfl (look_cons (k := 0) rfl (look_cons (k := 1) rfl (look_nil _))) ?_
 refine gc_sr fun K1 hK1 => ?_
 refine gop fun K3 hK3 => ?_
 refine go_box rfl rfl rfl rfl rfl ?_
 intro B2
 refine hK3 _ _ ?_
 refine gop fun K5 hK5 => ?_
 refine go_box rfl rfl rfl rfl rfl ?_
 intro B4
 refine hK5 _ _ ?_
 refine gop fun K7 hK7 => ?_
 refine go_alloc (z := (.agg #[.int .i64 0, .slice none 0 0, .slice none 0 0, .slice none 0 0, .slice none 0 0, .int .i64 0, .slice none 0 0, .slice none 0 0, .slice none 0 0, .slice none 0 0, .slice none 0 0, .slice none 0 0])) (cs := [.int .i64 0, .slice none 0 0, .slice none 0 0, .slice none 0 0, .slice none 0 0, .int .i64 0, .slice none 0 0, .slice none 0 0, .slice none 0 0, .slice none 0 0, .slice none 0 0, .slice none 0 0]) rfl rfl rfl (fun w => by kernel_rfl) rfl ?_
 intro B6
 refine hK7 _ _ ?_
 refine gas ?_
 refine gnt (hK1 _ _ ?_)
 refine gc_sr fun K8 hK8 => ?_
 refine gv (qts Try.underlying31 (n := 0)) ?_
 refine gv (qts Try.underlying31 (n := 1)) ?_
 refine gop fun K10 hK10 => ?_
 refine go_callFFI rfl rfl rfl Try.func58 rfl (by decide) rfl (fun w M => readFunctors_any w _ _ (mem_rdF M h0) _ _ (mem_rdF M e0)) ?_
 intro fx1_9 fk1_9 fx2_9 fk2_9 fx3_9 fk3_9 fx4_9 fk4_9 fx5_9 fk5_9 fx6_9 fk6_9 fx7_9 fk7_9 fx8_9 fk8_9 fx9_9 fk9_9 fx10_9 fk10_9 us9 ut9 gy1_9 gj1_9 gy2_9 gj2_9 gy3_9 gj3_9 gy4_9 gj4_9 gy5_9 gj5_9 gy6_9 gj6_9 gy7_9 gj7_9 gy8_9 gj8_9 gy9_9 gj9_9 gy10_9 gj10_9 vs9 vt9
 refine hK10 _ _ ?_
 refine gm ?_
 refine gv (qt_extract rfl rfl rfl) ?_
 refine gv (qt_extract rfl rfl rfl) ?_
 refine gv (qt_extract rfl rfl rfl) ?_
 refine gop fun K12 hK12 => ?_
 refine go_alloc (z := (.agg #[.int .i64 0, .slice none 0 0, .slice none 0 0, .slice none 0 0, .slice none 0 0, .int .i64 0, .slice none 0 0, .slice none 0 0, .slice none 0 0, .slice none 0 0, .slice none 0 0, .slice none 0 0])) (cs := [.int .i64 0, .slice none 0 0, .slice none 0 0, .slice none 0 0, .slice none 0 0, .int .i64 0, .slice none 0 0, .slice none 0 0, .slice none 0 0, .slice none 0 0, .slice none 0 0, .slice none 0 0]) rfl rfl rfl (fun w => by kernel_rfl) rfl ?_
 intro B11
 refine hK12 _ _ ?_
 refine gop fun K14 hK14 => ?_
 refine go_alloc (z := (.agg #[.int .i64 0, .slice none 0 0, .slice none 0 0, .slice none 0 0, .slice none 0 0, .int .i64 0, .slice none 0 0, .slice none 0 0, .slice none 0 0, .slice none 0 0, .slice none 0 0, .slice none 0 0])) (cs := [.int .i64 0, .slice none 0 0, .slice none 0 0, .slice none 0 0, .slice none 0 0, .int .i64 0, .slice none 0 0, .slice none 0 0, .slice none 0 0, .slice none 0 0, .slice none 0 0, .slice none 0 0]) rfl rfl rfl (fun w => by kernel_rfl) rfl ?_
 intro B13
 refine hK14 _ _ ?_
 refine gop fun K15 hK15 => ?_
 refine go_storeS (n := 23) rfl rfl rfl rfl (by kernel_rfl) rfl rfl rfl ?_
 refine hK15 _ _ ?_
 refine gop fun K16 hK16 => ?_
 refine go_storeS (n := 24) rfl rfl rfl rfl (by kernel_rfl) rfl rfl rfl ?_
 refine hK16 _ _ ?_
 refine gas ?_
 refine gnt (hK8 _ _ ?_)
 refine gc_seq fun K17 hK17 => ?_
 refine gc_sr fun K18 hK18 => ?_
 refine gm ?_
 refine gv (qt_neq rfl rfl rfl) ?_
 refine gnt (hK18 _ _ ?_)
 refine gc_cond rfl (fun hc0 => ?_) (fun hc0 => ?_)
 ·try simp only [sA] at hc0
  refine gc_sr fun K19 hK19 => ?_
  refine gv (qt_build rfl rfl bt0_Functor) ?_
  refine gm ?_
  refine gop fun K20 hK20 => ?_
  refine go_storeS (n := 2) rfl rfl rfl rfl (by kernel_rfl) rfl rfl rfl ?_
  refine hK20 _ _ ?_
  refine gas ?_
  refine gnt (hK19 _ _ ?_)
  refine gc_ret ?_
  refine gk_then_ret ?_
  refine ret_SI (n := 2) rfl rfl rfl Try.underlying31 rfl (by kernel_rfl) rfl (fun w M => ?_)
  rw [(twoFE_n hc0).2, prf_f hc0]; exact retFI_zero M.1
 ·try simp only [sA] at hc0
  refine gc_skip ?_
  refine gk_then (hK17 _ _ ?_)
  refine gc_seq fun K21 hK21 => ?_
  refine gc_seq fun K22 hK22 => ?_
  have hh := twoFE_0 hc0
  have hF := isf_of hh.1; have hG := isf_of hh.2
  have l1 := lnF hh.1; have l2 := lnF hh.2
  have o1 := l1.o8; have o2 := l2.o8; have a1 := l1.a40; have a2 := l2.a40; have t1 := l2.t8; have t2 := l2.t0; have t3 := l2.n40
  have hQ := twoF_c hc0
  simp only [hQ.1, hQ.2]
  refine gc_region ?_
  refine gv (qtf Try.underlying31 (z := 4) (off := 0)) ?_
  refine gv (qt_loadP (n := 23) (z := 5) rfl rfl Try.underlying29 rfl (by kernel_rfl) rfl (by first | decide | exact Nat.le_refl _ | simp)) ?_
  refine gv (qtf Try.underlying31 (z := 4) (off := 0)) ?_
  refine gv (qt_loadP (n := 24) (z := 5) rfl rfl Try.underlying29 rfl (by kernel_rfl) rfl (by first | decide | exact Nat.le_refl _ | simp)) ?_
  refine g_q (.free rfl) rfl rfl (qt_call rfl Try.func73 rfl (by decide) rfl (fun w M => equals_any w _ _ (rdC_mk ((mem_own1 (n := 3) M rfl).rd) ((mem_own1 (n := 4) M rfl).rd) ((mem_own1 (n := 5) M rfl).rd) (mem_rdU (n := 6) M rfl)) _ _ (rdC_mk ((mem_own1 (n := 13) M rfl).rd) ((mem_own1 (n := 14) M rfl).rd) ((mem_own1 (n := 15) M rfl).rd) (mem_rdU (n := 16) M rfl)))) ?_
  refine gv (qt_not rfl rfl) ?_
  refine gnt (hK22 _ _ ?_)
  refine gc_cond rfl (fun hc1 => ?_) (fun hc1 => ?_)
  ·try simp only [sA] at hc1
   refine gc_sr fun K23 hK23 => ?_
   refine gv (qt_build rfl rfl bt0_Functor) ?_
   refine gop fun K24 hK24 => ?_
   refine go_storeS (n := 2) rfl rfl rfl rfl (by kernel_rfl) rfl rfl rfl ?_
   refine hK24 _ _ ?_
   refine gas ?_
   refine gnt (hK23 _ _ ?_)
   refine gc_ret ?_
   refine gk_then_ret ?_
   refine ret_SI (n := 2) rfl rfl rfl Try.underlying31 rfl (by kernel_rfl) rfl (fun w M => ?_)
   rw [prf_s hc0 (bP_f' hc1)]; exact retFI_zero M.1
  ·try simp only [sA] at hc1
   refine gc_skip ?_
   refine gk_then (hK21 _ _ ?_)
   refine gc_seq fun K25 hK25 => ?_
   have hE : F.S = G.S := bP_t' hc1
   have lo : F.o.length = G.o.length := by have h1 := hF.lo; have h2 := hG.lo; rw [hE] at h1; omega
   have la : F.a.length = G.a.length := by have h1 := hF.la; have h2 := hG.la; rw [hE] at h1; omega
   refine gc_region ?_
   refine gv (qtf Try.underlying31 (z := 4) (off := 5)) ?_
   refine gv (qt_loadP (n := 23) (z := 5) rfl rfl Try.underlying29 rfl (by kernel_rfl) rfl (by first | decide | exact Nat.le_refl _ | simp)) ?_
   refine gv (qtf Try.underlying31 (z := 4) (off := 5)) ?_
   refine gv (qt_loadP (n := 24) (z := 5) rfl rfl Try.underlying29 rfl (by kernel_rfl) rfl (by first | decide | exact Nat.le_refl _ | simp)) ?_
   refine gop fun K27 hK27 => ?_
   refine go_callCI rfl rfl rfl Try.func45 rfl (by decide) rfl (fun w M => impl_ProductCategory w _ _ _ _ (rdC_mk ((mem_own1 (n := 7) M rfl).rd) ((mem_own1 (n := 8) M rfl).rd) ((mem_own1 (n := 9) M rfl).rd) (mem_rdU (n := 10) M rfl)) (rdC_mk ((mem_own1 (n := 17) M rfl).rd) ((mem_own1 (n := 18) M rfl).rd) ((mem_own1 (n := 19) M rfl).rd) (mem_rdU (n := 20) M rfl))) ?_
   intro ca26 cb26 cc26 cd26 ce26 cf26 cg26 ch26 cu26
   refine hK27 _ _ ?_
   refine gm ?_
   refine gv (qt_extract rfl rfl rfl) ?_
   refine gv (qt_extract rfl rfl rfl) ?_
   refine gop fun K29 hK29 => ?_
   refine go_alloc (z := (.agg #[.int .i64 0, .slice none 0 0, .slice none 0 0, .slice none 0 0, .slice none 0 0])) (cs := [.int .i64 0, .slice none 0 0, .slice none 0 0, .slice none 0 0, .slice none 0 0]) rfl rfl rfl (fun w => by kernel_rfl) rfl ?_
   intro B28
   refine hK29 _ _ ?_
   refine gop fun K30 hK30 => ?_
   refine go_storeS (n := 29) rfl rfl rfl rfl (by kernel_rfl) rfl rfl rfl ?_
   refine hK30 _ _ ?_
   refine gas ?_
   refine gnt (hK25 _ _ ?_)
   refine gc_seq fun K31 hK31 => ?_
   refine gc_sr fun K32 hK32 => ?_
   refine gm ?_
   refine gv (qt_neq rfl rfl rfl) ?_
   refine gnt (hK32 _ _ ?_)
   refine gc_cond rfl (fun hc2 => ?_) (fun hc2 => ?_)
   ·try simp only [sA] at hc2
    refine gc_sr fun K33 hK33 => ?_
    refine gv (qt_build rfl rfl bt0_Functor) ?_
    refine gm ?_
    refine gop fun K34 hK34 => ?_
    refine go_storeS (n := 2) rfl rfl rfl rfl (by kernel_rfl) rfl rfl rfl ?_
    refine hK34 _ _ ?_
    refine gas ?_
    refine gnt (hK33 _ _ ?_)
    refine gc_ret ?_
    refine gk_then_ret ?_
    refine ret_SI (n := 2) rfl rfl rfl Try.underlying31 rfl (by kernel_rfl) rfl (fun w M => ?_)
    have f3 := prd_3 hF.ct hG.ct hc2; rw [f3.2, prf_l hc0 hE f3.1]; exact retFI_zero M.1
   ·try simp only [sA] at hc2
    refine gc_skip ?_
    refine gk_then (hK31 _ _ ?_)
    refine gc_seq fun K35 hK35 => ?_
    have f2 := prd_0 hF.ct hG.ct hc2
    simp only [prd_t hF.ct hG.ct f2]
    try simp only [sL]
    refine ga_start _ (fun w M => M) ?_
    refine gav 0 rfl (qtf Try.underlying31 (z := 0) (off := 10)) ?_
    refine gav 1 rfl (qtl Try.underlying22 (n := 23)) ?_
    refine gav 2 rfl (qtf Try.underlying31 (z := 0) (off := 10)) ?_
    refine gav 3 rfl (qtl Try.underlying22 (n := 24)) ?_
    refine gav 4 rfl (qtf Try.underlying31 (z := 4) (off := 5)) ?_
    refine gav 5 rfl (qtf Try.underlying29 (z := 0) (off := 0)) ?_
    refine gav 6 rfl (qtl Try.underlying2 (n := 24)) ?_
    refine gao 7 fun K37 hK37 => ?_
    refine go_callPn rfl rfl rfl Try.func60 rfl (by decide) rfl (fun w M => pairNumber_any w _) ?_
    intro B36
    refine hK37 _ _ (fun w M => (mem_take 30 M :)) ?_
    refine gao 8 fun K39 hK39 => ?_
    refine go_callL rfl rfl rfl Try.func74 rfl (by decide) rfl (fun w M => zipped_any w _ _ _ _ ((mem_own1 (n := 11) M rfl).rd) ((mem_own1 (n := 21) M rfl).rd) (by omega) (by omega) (by first | exact lo | exact la) _ (fun a b => a * _ + b) (fun w' hb i hi => callsV_f (bnd := []) (vs := [_, _]) (caps := [_]) Try.func122 rfl (by decide) (pairN1_any w' _ _ _ _ (bxV_below hb (bxV_of (n := 30) M rfl)) (allP_b (by first | exact l1.po | exact l1.pa) hi).1 (allP_b (by first | exact l1.po | exact l1.pa) hi).2 (allP_b (by first | exact l2.po | exact l2.pa) (show i < _ by omega)).1 (allP_b (by first | exact l2.po | exact l2.pa) (show i < _ by omega)).2 (by omega) (by omega)))) ?_
    intro va38 vc38
    refine hK39 _ _ (fun w M => (mem_take 30 M :)) ?_
    refine gav 9 rfl (qt_assign rfl rfl) ?_
    refine ga_done (by kernel_rfl) ?_
    refine gk_then (hK35 _ _ ?_)
    refine gc_seq fun K40 hK40 => ?_
    try simp only [sL]
    refine ga_start _ (fun w M => M) ?_
    refine gav 0 rfl (qtf Try.underlying31 (z := 0) (off := 11)) ?_
    refine gav 1 rfl (qtl Try.underlying22 (n := 23)) ?_
    refine gav 2 rfl (qtf Try.underlying31 (z := 0) (off := 11)) ?_
    refine gav 3 rfl (qtl Try.underlying22 (n := 24)) ?_
    refine gav 4 rfl (qtf Try.underlying31 (z := 4) (off := 5)) ?_
    refine gav 5 rfl (qt_loadP (n := 24) (z := 5) rfl rfl Try.underlying29 rfl (by kernel_rfl) rfl (by first | decide | exact Nat.le_refl _ | simp)) ?_
    refine gao 6 fun K41 hK41 => ?_
    refine go_q rfl rfl (qt_call rfl Try.func61 rfl (by decide) rfl (fun w M => arrows_any w _ _ (rdC_mk ((mem_own1 (n := 17) M rfl).rd) ((mem_own1 (n := 18) M rfl).rd) ((mem_own1 (n := 19) M rfl).rd) (mem_rdU (n := 20) M rfl)))) ?_
    refine hK41 _ _ (fun w M => (mem_take 32 M :)) ?_
    refine gao 7 fun K43 hK43 => ?_
    refine go_callPn rfl rfl rfl Try.func60 rfl (by decide) rfl (fun w M => pairNumber_any w _) ?_
    intro B42
    refine hK43 _ _ (fun w M => (mem_take 32 M :)) ?_
    refine gao 8 fun K45 hK45 => ?_
    refine go_callL rfl rfl rfl Try.func74 rfl (by decide) rfl (fun w M => zipped_any w _ _ _ _ ((mem_own1 (n := 12) M rfl).rd) ((mem_own1 (n := 22) M rfl).rd) (by omega) (by omega) (by first | exact lo | exact la) _ (fun a b => a * _ + b) (fun w' hb i hi => callsV_f (bnd := []) (vs := [_, _]) (caps := [_]) Try.func122 rfl (by decide) (pairN1_any w' _ _ _ _ (bxV_below hb (bxV_of (n := 32) M rfl)) (allP_b (by first | exact l1.po | exact l1.pa) hi).1 (allP_b (by first | exact l1.po | exact l1.pa) hi).2 (allP_b (by first | exact l2.po | exact l2.pa) (show i < _ by omega)).1 (allP_b (by first | exact l2.po | exact l2.pa) (show i < _ by omega)).2 (by omega) (by omega)))) ?_
    intro va44 vc44
    refine hK45 _ _ (fun w M => (mem_take 32 M :)) ?_
    refine gav 9 rfl (qt_assign rfl rfl) ?_
    refine ga_done (by kernel_rfl) ?_
    refine gk_then (hK40 _ _ ?_)
    refine gc_sr fun K46 hK46 => ?_
    refine gv (qtf Try.underlying31 (z := 4) (off := 0)) ?_
    refine gv (qt_loadP (n := 23) (z := 5) rfl rfl Try.underlying29 rfl (by kernel_rfl) rfl (by first | decide | exact Nat.le_refl _ | simp)) ?_
    refine gv (qts Try.underlying29 (n := 29)) ?_
    refine gm ?_
    refine gm ?_
    refine gv (qt_build rfl rfl bt_Functor) ?_
    refine gop fun K47 hK47 => ?_
    refine go_storeS (n := 2) rfl rfl rfl rfl (by kernel_rfl) rfl rfl rfl ?_
    refine hK47 _ _ ?_
    refine gas ?_
    refine gnt (hK46 _ _ ?_)
    refine gc_ret ?_
    refine ret_SI (n := 2) rfl rfl rfl Try.underlying31 rfl (by kernel_rfl) rfl (fun w M => ?_)
    rw [prf_t hc0 hE f2]; exact retFI_star (F := pairFct F G) (mem_block 9 4 (mem_block 27 4 (mem_block 32 1 (mem_block 33 1 (M)))))

end Go.Proofs.Ytpfcfhjpgngneab
