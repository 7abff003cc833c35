
/- The inclusion of a subcategory: both sides. -/
import Derived.Test.YtpfcfhjpgngneabFunM
import Derived.Test.YtpfcfhjpgngneabFunL
import Derived.Test.YtpfcfhjpgngneabGenI
set_option linter.unusedSimpArgs false
set_option linter.unusedVariables false
set_option linter.unusedSectionVars false
namespace Go.Proofs.Ytpfcfhjpgngneab
open Go.RowKit


noncomputable def fInclusionFunctor (c : Cat) (xs : List Int) : Fct × Int := if (fSubcategoryOf c xs).2 = 0 then (⟨(fSubcategoryOf c xs).1, c, pOb c xs, xs⟩, 0) else (fct0, (fSubcategoryOf c xs).2)
theorem icf_t {c : Cat} {xs : List Int} (h : (fSubcategoryOf c xs).2 = 0) : fInclusionFunctor c xs = (⟨(fSubcategoryOf c xs).1, c, pOb c xs, xs⟩, 0) := if_pos h
theorem icf_f {c : Cat} {xs : List Int} (h : ¬ (fSubcategoryOf c xs).2 = 0) : fInclusionFunctor c xs = (fct0, (fSubcategoryOf c xs).2) := if_neg h
theorem icf_0 {c : Cat} {xs : List Int} (h : (fSubcategoryOf c xs).2 = 0) : fIsCategory c = true ∧ xs.length ≤ 40 := by
 by_cases h0 : arrErr c xs = 0
 ·have hE := arrErr_0 h0
  by_cases h1 : xs = genL c xs c.s.length
  ·exact ⟨by have := hE.1; exact bP_t this, gen_len40 hE.1.toShapeP h1⟩
  ·rw [sub_n h0 h1] at h; exact absurd h (by decide)
 ·rw [sub_e h0] at h; exact absurd h h0
theorem bound_InclusionFunctor (c : Cat) (xs : List Int) : mzF (fInclusionFunctor c xs).1 ≤ 3500000000000000 := by
 by_cases h : (fSubcategoryOf c xs).2 = 0
 ·have hh := icf_0 h
  have h1 := mz_cat hh.1; have h2 := bound_SubcategoryOf c xs
  have hS := (isCat_of hh.1).toShapeP
  have hob8 := hS.ob8; have hel := hS.el
  have h3 : (pOb c xs).length ≤ c.e.length := pO_len c xs c.e.length
  have h4 := hh.2
  rw [icf_t h]
  show mzC (fSubcategoryOf c xs).1 + mzC c + (pOb c xs).length + xs.length ≤ _
  omega
 ·rw [icf_f h]; show mzF fct0 ≤ _; decide

set_option maxHeartbeats 1000000 in
set_option maxRecDepth 100000 in
theorem spec_InclusionFunctor (w : World) (v : Value) (c : Cat) (u : Value) (xs : List Int) (h : RdC w v c) (hu : Rd w u xs) :
  Calls Try.prog 34 #[v, u] w (RetFI w (fInclusionFunctor c xs).1 (fInclusionFunctor c xs).2) := by
 have h0 := h
 obtain ⟨va, vb, vc, vd, ve, vf, vg, vh, rfl, h1, h2, h3, h4, _⟩ := h.lists
 obtain ⟨ua, uc, rfl⟩ := rd_form hu
 go_enter Try.func34, Try.ntmps34
 refine gc_enter (N := 43) rfl (look_cons (k := 0) rfl (look_cons (k := 1) rfl (look_nil _))) ?_
 refine gc_sr fun K1 hK1 => ?_
 refine gop fun K3 hK3 => ?_
 refine go_box rfl rfl rfl rfl rfl ?_
 intro B2
 refine hK3 _ _ ?_
 refine gop fun K5 hK5 => ?_
 refine go_alloc (z := (.agg #[.int .i64 0, .slice none 0 0, .slice none 0 0, .slice none 0 0, .slice none 0 0, .int .i64 0, .slice none 0 0, .slice none 0 0, .slice none 0 0, .slice none 0 0, .slice none 0 0, .slice none 0 0])) (cs := [.int .i64 0, .slice none 0 0, .slice none 0 0, .slice none 0 0, .slice none 0 0, .int .i64 0, .slice none 0 0, .slice none 0 0, .slice none 0 0, .slice none 0 0, .slice none 0 0, .slice none 0 0]) rfl rfl rfl (fun w => by kernel_rfl) rfl ?_
 intro B4
 refine hK5 _ _ ?_
 refine gas ?_
 refine gnt (hK1 _ _ ?_)
 refine gc_sr fun K6 hK6 => ?_
 refine gv (qts Try.underlying29 (n := 0)) ?_
 refine gm ?_
 refine gop fun K8 hK8 => ?_
 refine go_callCI rfl rfl rfl Try.func41 rfl (by decide) rfl (fun w M => spec_SubcategoryOf w _ _ _ _ (mem_rdC M h0) (mem_rd M hu)) ?_
 intro ca7 cb7 cc7 cd7 ce7 cf7 cg7 ch7 cu7
 refine hK8 _ _ ?_
 refine gm ?_
 refine gv (qt_extract rfl rfl rfl) ?_
 refine gv (qt_extract rfl rfl rfl) ?_
 refine gop fun K10 hK10 => ?_
 refine go_alloc (z := (.agg #[.int .i64 0, .slice none 0 0, .slice none 0 0, .slice none 0 0, .slice none 0 0])) (cs := [.int .i64 0, .slice none 0 0, .slice none 0 0, .slice none 0 0, .slice none 0 0]) rfl rfl rfl (fun w => by kernel_rfl) rfl ?_
 intro B9
 refine hK10 _ _ ?_
 refine gop fun K11 hK11 => ?_
 refine go_storeS (n := 6) rfl rfl rfl rfl (by kernel_rfl) rfl rfl rfl ?_
 refine hK11 _ _ ?_
 refine gas ?_
 refine gnt (hK6 _ _ ?_)
 refine gc_seq fun K12 hK12 => ?_
 refine gc_sr fun K13 hK13 => ?_
 refine gm ?_
 refine gv (qt_neq rfl rfl rfl) ?_
 refine gnt (hK13 _ _ ?_)
 refine gc_cond rfl (fun hc0 => ?_) (fun hc0 => ?_)
 ·try simp only [sA] at hc0
  refine gc_sr fun K14 hK14 => ?_
  refine gv (qt_build rfl rfl bt0_Functor) ?_
  refine gm ?_
  refine gop fun K15 hK15 => ?_
  refine go_storeS (n := 1) rfl rfl rfl rfl (by kernel_rfl) rfl rfl rfl ?_
  refine hK15 _ _ ?_
  refine gas ?_
  refine gnt (hK14 _ _ ?_)
  refine gc_ret ?_
  refine gk_then_ret ?_
  refine ret_SI (n := 1) rfl rfl rfl Try.underlying31 rfl (by kernel_rfl) rfl (fun w M => ?_)
  rw [icf_f hc0]; exact retFI_zero M.1
 ·try simp only [sA] at hc0
  refine gc_skip ?_
  refine gk_then (hK12 _ _ ?_)
  refine gc_seq fun K16 hK16 => ?_
  have hh := icf_0 hc0
  have hS := (isCat_of hh.1).toShapeP
  have hob0 := hS.ob0; have hob8 := hS.ob8; have hn40 := hS.n40; have hel := hS.el
  refine gc_region ?_
  refine gop fun K18 hK18 => ?_
  refine go_slice0 rfl rfl rfl Try.underlying22 ?_
  intro B17
  refine hK18 _ _ ?_
  refine gas ?_
  refine gnt (hK16 _ _ ?_)
  refine gc_seq fun K19 hK19 => ?_
  refine gc_sr fun K20 hK20 => ?_
  refine gas ?_
  refine gnt (hK20 _ _ ?_)
  refine gc_block ?_
  try simp only [sL]
  refine gc_loopT ([(0, _), (1, _), (2, _), (4, _), (5, _), (6, _), (7, _), (17, _)] : Env) (fun s : Nat × (Option Addr) × Nat => (fun (k : Nat) (a : Option Addr) (q : Nat) => (([(8, .slice a (pO c xs k).length q), (9, .int .i64 (k : Int))] : Env), ([(7, own1I (.slice a (pO c xs k).length q) (pO c xs k))] : List (Nat × Itm)), k ≤ c.e.length, c.e.length - k)) s.1 s.2.1 s.2.2) (0, _, _) (by repeat first | exact sub_nil | refine sub_cons rfl ?_) rfl (Nat.zero_le _) ?_
  rintro ⟨k, a, q⟩ hinv KL21 hKL21
  simp only [sU, sL] at hinv hKL21 ⊢
  have hk := hinv
  have hl1 := pO_len c xs k
  refine gc_seq fun K22 hK22 => ?_
  refine gc_sr fun K23 hK23 => ?_
  refine gm ?_
  refine gv (qtf Try.underlying29 (z := 0) (off := 0)) ?_
  refine gv (qtl Try.underlying2 (n := 0)) ?_
  refine gv (qt_lss rfl rfl rfl) ?_
  refine gnt (hK23 _ _ ?_)
  refine gc_cond rfl (fun hc1 => ?_) (fun hc1 => ?_)
  ·try simp only [sA] at hc1
   refine gc_skip ?_
   refine gk_then (hK22 _ _ ?_)
   refine gc_seq fun K24 hK24 => ?_
   refine gc_block ?_
   refine gc_sr fun K25 hK25 => ?_
   refine gm ?_
   refine gv (qtf Try.underlying29 (z := 0) (off := 3)) ?_
   refine gv (qtl Try.underlying22 (n := 0)) ?_
   refine gm ?_
   refine gv (qti (fun w M => lenA_rd h3)) ?_
   refine gv (qtd (fun w M => mem_rd M h3)) ?_
   refine g_q (.free rfl) rfl rfl (qt_call rfl Try.func78 rfl (by decide) rfl (fun w M => specHas2_any w _ _ _ (mem_rd M hu))) ?_
   refine gnt (hK25 _ _ ?_)
   refine gc_cond rfl (fun hc2 => ?_) (fun hc2 => ?_)
   ·try simp only [sA] at hc2
    refine gc_region ?_
    refine gm ?_
    refine gm ?_
    refine gop fun K27 hK27 => ?_
    refine go_slice1 rfl rfl rfl rfl Try.underlying22 ?_
    intro B26
    refine hK27 _ _ ?_
    refine gop fun K29 hK29 => ?_
    refine go_append (n := 7) (m := 8) rfl rfl rfl Try.underlying22 rfl rfl rfl rfl (by omega) ?_
    intro va28 vc28
    refine hK29 _ _ ?_
    refine gas ?_
    refine g_nil ?_
    refine gk_block ?_
    refine gk_then (hK24 _ _ ?_)
    refine gc_region ?_
    refine gm ?_
    refine gv (qt_add rfl rfl rfl (by omega)) ?_
    refine gas ?_
    refine g_nil ?_
    simp only [pO_t (bP_t' hc2)]
    refine gk_then (gk_take 8 ?_)
    refine gk_sub ?hs_30 (hKL21 (k + 1, _, _) ?hi_30 ?hm_30)
    case hs_30 => repeat first | exact sub_nil | refine sub_cons rfl ?_
    case hi_30 => omega
    case hm_30 => omega
   ·try simp only [sA] at hc2
    refine gc_skip ?_
    refine gk_block ?_
    refine gk_then (hK24 _ _ ?_)
    refine gc_region ?_
    refine gm ?_
    refine gv (qt_add rfl rfl rfl (by omega)) ?_
    refine gas ?_
    refine g_nil ?_
    rw [pO_f (bP_f' hc2)]
    refine gk_then (gk_take 8 ?_)
    refine gk_sub ?hs_31 (hKL21 (k + 1, _, _) ?hi_31 ?hm_31)
    case hs_31 => repeat first | exact sub_nil | refine sub_cons rfl ?_
    case hi_31 => omega
    case hm_31 => omega
  ·try simp only [sA] at hc1
   refine gc_exit ?_
   refine gk_then_exit ?_
   refine gk_then_exit ?_
   refine gk_block_hit ?_
   refine gk_then (hK19 _ _ ?_)
   refine gc_seq fun K32 hK32 => ?_
   obtain rfl : k = c.e.length := by omega
   simp only [show pO c xs c.e.length = pOb c xs from rfl]
   refine gc_region ?_
   refine gv (qts Try.underlying29 (n := 6)) ?_
   refine gv (qts Try.underlying29 (n := 0)) ?_
   refine gm ?_
   refine gm ?_
   refine gop fun K34 hK34 => ?_
   refine go_callFn rfl rfl rfl Try.func56 rfl (by decide) rfl (fun w M => specMakeF_any w _ _ (rdC_mk ((mem_own1 (n := 2) M rfl).rd) ((mem_own1 (n := 3) M rfl).rd) ((mem_own1 (n := 4) M rfl).rd) (mem_rdU (n := 5) M rfl)) _ (c) (mem_rdC M h0) _ _ _ _ ((mem_own1 (n := 7) M rfl).rd) (mem_rd M hu)) ?_
   intro fx1_33 fk1_33 fx2_33 fk2_33 fx3_33 fk3_33 fx4_33 fk4_33 fx5_33 fk5_33 fx6_33 fk6_33 fx7_33 fk7_33 fx8_33 fk8_33 fx9_33 fk9_33 fx10_33 fk10_33 us33 ut33
   refine hK34 _ _ ?_
   refine gop fun K35 hK35 => ?_
   refine go_storeS (n := 1) rfl rfl rfl rfl (by kernel_rfl) rfl rfl rfl ?_
   refine hK35 _ _ ?_
   refine gas ?_
   refine gnt (hK32 _ _ ?_)
   refine gc_ret ?_
   refine ret_SI (n := 1) rfl rfl rfl Try.underlying31 rfl (by kernel_rfl) rfl (fun w M => ?_)
   rw [icf_t hc0]; exact retFI_star (F := ⟨(fSubcategoryOf c xs).1, c, pOb c xs, xs⟩) (mem_block 8 10 (M))

set_option maxHeartbeats 1000000 in
set_option maxRecDepth 100000 in
theorem impl_InclusionFunctor (w : World) (v : Value) (c : Cat) (u : Value) (xs : List Int) (h : RdC w v c) (hu : Rd w u xs) :
  Calls Try.prog 36 #[v, u] w (RetFI w (fInclusionFunctor c xs).1 (fInclusionFunctor c xs).2) := by
 have h0 := h
 obtain ⟨va, vb, vc, vd, ve, vf, vg, vh, rfl, h1, h2, h3, h4, _⟩ := h.lists
 obtain ⟨ua, uc, rfl⟩ := rd_form hu
 go_enter Try.func36, Try.ntmps36
 refine gc_enter (N := 27) rfl (look_cons (k := 0) rfl (look_cons (k := 1) rfl (look_nil _))) ?_
 refine gc_sr fun K1 hK1 => ?_
 refine gop fun K3 hK3 => ?_
 refine go_box rfl rfl rfl rfl rfl ?_
 intro B2
 refine hK3 _ _ ?_
 refine gop fun K5 hK5 => ?_
 refine go_alloc (z := (.agg #[.int .i64 0, .slice none 0 0, .slice none 0 0, .slice none 0 0, .slice none 0 0, .int .i64 0, .slice none 0 0, .slice none 0 0, .slice none 0 0, .slice none 0 0, .slice none 0 0, .slice none 0 0])) (cs := [.int .i64 0, .slice none 0 0, .slice none 0 0, .slice none 0 0, .slice none 0 0, .int .i64 0, .slice none 0 0, .slice none 0 0, .slice none 0 0, .slice none 0 0, .slice none 0 0, .slice none 0 0]) rfl rfl rfl (fun w => by kernel_rfl) rfl ?_
 intro B4
 refine hK5 _ _ ?_
 refine gas ?_
 refine gnt (hK1 _ _ ?_)
 refine gc_sr fun K6 hK6 => ?_
 refine gv (qts Try.underlying29 (n := 0)) ?_
 refine gm ?_
 refine gop fun K8 hK8 => ?_
 refine go_callCI rfl rfl rfl Try.func42 rfl (by decide) rfl (fun w M => impl_SubcategoryOf w _ _ _ _ (mem_rdC M h0) (mem_rd M hu)) ?_
 intro ca7 cb7 cc7 cd7 ce7 cf7 cg7 ch7 cu7
 refine hK8 _ _ ?_
 refine gm ?_
 refine gv (qt_extract rfl rfl rfl) ?_
 refine gv (qt_extract rfl rfl rfl) ?_
 refine gop fun K10 hK10 => ?_
 refine go_alloc (z := (.agg #[.int .i64 0, .slice none 0 0, .slice none 0 0, .slice none 0 0, .slice none 0 0])) (cs := [.int .i64 0, .slice none 0 0, .slice none 0 0, .slice none 0 0, .slice none 0 0]) rfl rfl rfl (fun w => by kernel_rfl) rfl ?_
 intro B9
 refine hK10 _ _ ?_
 refine gop fun K11 hK11 => ?_
 refine go_storeS (n := 6) rfl rfl rfl rfl (by kernel_rfl) rfl rfl rfl ?_
 refine hK11 _ _ ?_
 refine gas ?_
 refine gnt (hK6 _ _ ?_)
 refine gc_seq fun K12 hK12 => ?_
 refine gc_sr fun K13 hK13 => ?_
 refine gm ?_
 refine gv (qt_neq rfl rfl rfl) ?_
 refine gnt (hK13 _ _ ?_)
 refine gc_cond rfl (fun hc0 => ?_) (fun hc0 => ?_)
 ·try simp only [sA] at hc0
  refine gc_sr fun K14 hK14 => ?_
  refine gv (qt_build rfl rfl bt0_Functor) ?_
  refine gm ?_
  refine gop fun K15 hK15 => ?_
  refine go_storeS (n := 1) rfl rfl rfl rfl (by kernel_rfl) rfl rfl rfl ?_
  refine hK15 _ _ ?_
  refine gas ?_
  refine gnt (hK14 _ _ ?_)
  refine gc_ret ?_
  refine gk_then_ret ?_
  refine ret_SI (n := 1) rfl rfl rfl Try.underlying31 rfl (by kernel_rfl) rfl (fun w M => ?_)
  rw [icf_f hc0]; exact retFI_zero M.1
 ·try simp only [sA] at hc0
  refine gc_skip ?_
  refine gk_then (hK12 _ _ ?_)
  refine gc_seq fun K16 hK16 => ?_
  have hh := icf_0 hc0
  have hS := (isCat_of hh.1).toShapeP
  have hob0 := hS.ob0; have hob8 := hS.ob8; have hn40 := hS.n40; have hel := hS.el
  try simp only [sL]
  refine ga_start _ (fun w M => mem_erase 1 (M)) ?_
  refine gav 0 rfl (qts Try.underlying29 (n := 5)) ?_
  refine gav 1 rfl (qts Try.underlying29 (n := 0)) ?_
  refine gav 3 rfl (qts Try.underlying29 (n := 0)) ?_
  refine gav 4 rfl (qt_move rfl rfl) ?_
  refine gav 6 rfl (qt_move rfl rfl) ?_
  refine gao 2 fun K18 hK18 => ?_
  refine go_callC rfl rfl rfl Try.func79 rfl (by decide) rfl (fun w M => copied_any w _ _ (mem_rdC M h0)) ?_
  intro ca17 cb17 cc17 cd17 ce17 cf17 cg17 ch17 cu17
  refine hK18 _ _ (fun w M => (mem_erase 1 (mem_take 7 M) :)) ?_
  refine gao 5 fun K20 hK20 => ?_
  refine go_callL rfl rfl rfl Try.func80 rfl (by decide) rfl (fun w M => objectsOf_any w _ _ _ _ (mem_rdC M h0) (hS) (mem_rd M hu)) ?_
  intro va19 vc19
  refine hK20 _ _ (fun w M => (mem_erase 1 (mem_take 7 M) :)) ?_
  refine gao 7 fun K22 hK22 => ?_
  refine go_callL rfl rfl rfl Try.func81 rfl (by decide) rfl (fun w M => clone_any w _ _ (mem_rd M hu)) ?_
  intro va21 vc21
  refine hK22 _ _ (fun w M => (mem_erase 1 (mem_take 7 M) :)) ?_
  refine gav 8 rfl (qt_build rfl rfl bt_Functor) ?_
  refine gao 9 fun K23 hK23 => ?_
  refine go_storeS (n := 1) rfl rfl rfl rfl (by kernel_rfl) rfl rfl rfl ?_
  refine hK23 _ _ (fun w M => (mem_erase 1 (mem_take 7 M) :)) ?_
  refine gav 10 rfl (qt_assign rfl rfl) ?_
  refine ga_done (by kernel_rfl) ?_
  refine gk_then (hK16 _ _ ?_)
  refine gc_ret ?_
  refine ret_SI (n := 1) rfl rfl rfl Try.underlying31 rfl (by kernel_rfl) rfl (fun w M => ?_)
  rw [icf_t hc0]; exact retFI_star (F := ⟨(fSubcategoryOf c xs).1, c, pOb c xs, xs⟩) (mem_block 8 4 (mem_block 7 6 (M)))

end Go.Proofs.Ytpfcfhjpgngneab
