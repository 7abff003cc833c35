
/- The walks of the exact law of OppositeCategory: its model and its program do the same, in memory of their own. Written by wip/tools/genlaw.py. -/
import Derived.Test.YtpfcfhjpgngneabShort
import Derived.Test.YtpfcfhjpgngneabBase
import Derived.Test.YtpfcfhjpgngneabLawC
import Derived.Test.YtpfcfhjpgngneabRul4
import Derived.Test.YtpfcfhjpgngneabOpp
set_option linter.unusedSimpArgs false
set_option linter.unusedVariables false
set_option linter.unusedSectionVars false
namespace Go.Proofs.Ytpfcfhjpgngneab.exactOppositeCategory
open Go.ChangeShapes Go.WideShapes Go.ChangeAt Go.RowKit
set_option maxHeartbeats 4000000 in
set_option maxRecDepth 100000 in
theorem main (w : World) (v0 : Value) (a0 : Cat) (r0 : Cat) (r1 : Int) (h0 : InC w v0 a0) (l0 : szM a0 ≤ 1048576) (hr0 : mzC r0 ≤ 1152921504606846) (hspec : (∀ (w : World) (v0 : Value), RdC w v0 a0 → Calls Try.prog 50 #[v0] w (RetCI w r0 r1))) (himpl : (∀ (w : World) (v0 : Value), RdC w v0 a0 → Calls Try.prog 51 #[v0] w (RetCI w r0 r1))) :
  Calls Try.prog 14 #[v0] w (RetB w true) := by
 have R0 := h0.rd (by omega)
 have I0 := h0
 obtain ⟨pa0, pb0, pc0, pd0, pe0, pf0, pg0, ph0, rfl⟩ := h0.form
 have mz0 := mz_le a0
 go_enter Try.func14, Try.ntmps14
 refine gc_enter (N := 96) rfl (look_cons (k := 0) rfl (look_nil _)) ?_
 refine gc_sr fun K1 hK1 => ?_
 refine gop fun K3 hK3 => ?_
 refine go_box rfl rfl rfl rfl rfl ?_
 intro B2
 refine hK3 _ _ ?_
 refine gas ?_
 refine gnt (hK1 _ _ ?_)
 refine gc_sr fun K4 hK4 => ?_
 refine gas ?_
 refine gnt (hK4 _ _ ?_)
 refine gc_sr fun K5 hK5 => ?_
 refine gv (qts Try.underlying25 (n := 0)) ?_
 refine gm ?_
 refine g_q (.free rfl) rfl rfl (qt_call rfl Try.func22 rfl (by decide) rfl (fun w M => szC_le w _ _ _ (inC_below M.1 I0) (by first | assumption | omega) (by first | assumption | omega) (by first | assumption | omega))) ?_
 refine gas ?_
 refine gnt (hK5 _ _ ?_)
 refine gc_seq fun K6 hK6 => ?_
 refine gc_sr fun K7 hK7 => ?_
 refine gm ?_
 refine gv (qt_lss rfl rfl rfl) ?_
 refine gnt (hK7 _ _ ?_)
 refine gc_cond rfl (fun hc0 => ?_) (fun hc0 => ?_)
 ·try simp only [sA] at hc0
  first | (exfalso; omega) | exact absurd rfl hc0 | (simp at hc0)
 ·try simp only [sA] at hc0
  refine gc_skip ?_
  refine gk_then (hK6 _ _ ?_)
  refine gc_sr fun K8 hK8 => ?_
  refine gv (qts Try.underlying25 (n := 0)) ?_
  refine gop fun K10 hK10 => ?_
  refine go_callC1 rfl rfl rfl Try.func24 rfl (by decide) rfl (fun w M => toC_any w _ _ (mem_rdC M R0)) ?_
  intro ca9 cb9 cc9 cd9 ce9 cf9 cg9 ch9
  refine hK10 _ _ ?_
  refine gop fun K12 hK12 => ?_
  refine go_callCI1 rfl rfl rfl Try.func50 rfl (by decide) rfl (fun w M => hspec w _ ((mem_ownC (n := 1) M rfl).rd)) ?_
  intro ca11 cb11 cc11 cd11 ce11 cf11 cg11 ch11
  refine hK12 _ _ ?_
  refine gm ?_
  refine gv (qt_extract rfl rfl rfl) ?_
  refine gv (qt_extract rfl rfl rfl) ?_
  refine gop fun K14 hK14 => ?_
  refine go_alloc (z := (.agg #[.int .i64 0, .slice none 0 0, .slice none 0 0, .slice none 0 0, .slice none 0 0])) (cs := [.int .i64 0, .slice none 0 0, .slice none 0 0, .slice none 0 0, .slice none 0 0]) rfl rfl rfl (fun w => by kernel_rfl) rfl ?_
  intro B13
  refine hK14 _ _ ?_
  refine gop fun K15 hK15 => ?_
  refine go_storeS (n := 3) rfl rfl rfl rfl (by kernel_rfl) rfl rfl rfl ?_
  refine hK15 _ _ ?_
  refine gas ?_
  refine gnt (hK8 _ _ ?_)
  refine gc_sr fun K16 hK16 => ?_
  refine gv (qts Try.underlying25 (n := 0)) ?_
  refine gop fun K18 hK18 => ?_
  refine go_callC1 rfl rfl rfl Try.func24 rfl (by decide) rfl (fun w M => toC_any w _ _ (mem_rdC M R0)) ?_
  intro ca17 cb17 cc17 cd17 ce17 cf17 cg17 ch17
  refine hK18 _ _ ?_
  refine gop fun K20 hK20 => ?_
  refine go_alloc (z := (.agg #[.int .i64 0, .slice none 0 0, .slice none 0 0, .slice none 0 0, .slice none 0 0])) (cs := [.int .i64 0, .slice none 0 0, .slice none 0 0, .slice none 0 0, .slice none 0 0]) rfl rfl rfl (fun w => by kernel_rfl) rfl ?_
  intro B19
  refine hK20 _ _ ?_
  refine gop fun K21 hK21 => ?_
  refine go_storeS (n := 5) rfl rfl rfl rfl (by kernel_rfl) rfl rfl rfl ?_
  refine hK21 _ _ ?_
  refine gnt (hK16 _ _ ?_)
  refine gc_sr fun K22 hK22 => ?_
  refine gv (qts Try.underlying29 (n := 5)) ?_
  refine gop fun K24 hK24 => ?_
  refine go_callCI1 rfl rfl rfl Try.func51 rfl (by decide) rfl (fun w M => himpl w _ ((mem_ownC (n := 4) M rfl).rd)) ?_
  intro ca23 cb23 cc23 cd23 ce23 cf23 cg23 ch23
  refine hK24 _ _ ?_
  refine gm ?_
  refine gv (qt_extract rfl rfl rfl) ?_
  refine gv (qt_extract rfl rfl rfl) ?_
  refine gop fun K26 hK26 => ?_
  refine go_alloc (z := (.agg #[.int .i64 0, .slice none 0 0, .slice none 0 0, .slice none 0 0, .slice none 0 0])) (cs := [.int .i64 0, .slice none 0 0, .slice none 0 0, .slice none 0 0, .slice none 0 0]) rfl rfl rfl (fun w => by kernel_rfl) rfl ?_
  intro B25
  refine hK26 _ _ ?_
  refine gop fun K27 hK27 => ?_
  refine go_storeS (n := 7) rfl rfl rfl rfl (by kernel_rfl) rfl rfl rfl ?_
  refine hK27 _ _ ?_
  refine gas ?_
  refine gnt (hK22 _ _ ?_)
  refine gc_seq fun K28 hK28 => ?_
  refine gc_sr fun K29 hK29 => ?_
  refine gv (qts Try.underlying29 (n := 7)) ?_
  refine gv (qts Try.underlying29 (n := 3)) ?_
  refine g_q (.free rfl) rfl rfl (qt_call rfl Try.func26 rfl (by decide) rfl (fun w M => eqC_refl_any w _ _ _ ((mem_ownC (n := 6) M rfl).rd) ((mem_ownC (n := 2) M rfl).rd))) ?_
  refine gv (qt_not rfl rfl) ?_
  refine gm ?_
  refine gvh (qt_move rfl rfl) ?_
  refine gvh (qt_move rfl rfl) ?_
  refine gvh (qt_neq_f rfl rfl rfl (fun h => h rfl)) ?_
  refine gv (qt_pick_f rfl rfl rfl) ?_
  refine gnt (hK29 _ _ ?_)
  refine gc_cond_f rfl ?_
  refine gc_skip ?_
  refine gk_then (hK28 _ _ ?_)
  refine gc_seq fun K30 hK30 => ?_
  refine gc_seq fun K31 hK31 => ?_
  try simp only [sL]
  refine ga_start _ (fun w M => M) ?_
  refine gav 0 rfl (qts Try.underlying29 (n := 5)) ?_
  refine gav 1 rfl (qts Try.underlying25 (n := 0)) ?_
  refine gao 2 fun K33 hK33 => ?_
  refine go_callC1 rfl rfl rfl Try.func24 rfl (by decide) rfl (fun w M => toC_any w _ _ (mem_rdC M R0)) ?_
  intro ca32 cb32 cc32 cd32 ce32 cf32 cg32 ch32
  refine hK33 _ _ (fun w M => (mem_take 8 M :)) ?_
  refine gao 3 fun K34 hK34 => ?_
  refine go_q rfl rfl (qt_call rfl Try.func26 rfl (by decide) rfl (fun w M => eqC_refl_any w _ _ _ ((mem_ownC (n := 4) M rfl).rd) ((mem_ownC (n := 8) M rfl).rd))) ?_
  refine hK34 _ _ (fun w M => (mem_take 8 M :)) ?_
  refine gav 4 rfl (qt_not rfl rfl) ?_
  refine ga_done (by kernel_rfl) ?_
  refine gk_then (hK31 _ _ ?_)
  refine gc_cond_f rfl ?_
  refine gc_skip ?_
  refine gk_then (hK30 _ _ ?_)
  refine gc_sr fun K35 hK35 => ?_
  refine gas ?_
  refine gnt (hK35 _ _ ?_)
  refine gc_sr fun K36 hK36 => ?_
  refine gv (qts Try.underlying29 (n := 5)) ?_
  refine gm ?_
  refine gop fun K37 hK37 => ?_
  refine go_mark (ownCI _ (mkC _ _)) (n := 4) rfl rfl rfl Try.func27 rfl (by decide) rfl rfl (fun w S hS => markC_any w S _ _ _ hS (by omega) (by omega)) ?_
  refine hK37 _ _ ?_
  refine gas ?_
  refine gnt (hK36 _ _ ?_)
  refine gc_seq fun K38 hK38 => ?_
  refine gc_sr fun K39 hK39 => ?_
  refine gm ?_
  refine gv (qt_lss rfl rfl rfl) ?_
  refine g_splitv (.free rfl) rfl rfl (qt_move rfl rfl) (fun hs14_2 => ?_) (fun hs14_2 => ?_)
  ·try simp only [sA] at hs14_2
   first | (exfalso; omega) | exact absurd rfl hs14_2 | (simp at hs14_2)
  ·try simp only [sA] at hs14_2
   refine gvh (qts Try.underlying29 (n := 7)) ?_
   refine gvh (qts Try.underlying29 (n := 3)) ?_
   refine g_q (.held _ _ _ rfl rfl rfl) rfl rfl (qt_call rfl Try.func26 rfl (by decide) rfl (fun w M => eqC_refl_any w _ _ _ ((mem_ownC (n := 6) M rfl).rd) ((mem_ownC (n := 2) M rfl).rd))) ?_
   refine gvh (qt_not rfl rfl) ?_
   refine gv (qt_pick_f rfl rfl rfl) ?_
   refine gm ?_
   refine gvh (qt_move rfl rfl) ?_
   refine gvh (qt_move rfl rfl) ?_
   refine gvh (qt_neq_f rfl rfl rfl (fun h => h rfl)) ?_
   refine gv (qt_pick_f rfl rfl rfl) ?_
   refine gnt (hK39 _ _ ?_)
   refine gc_cond_f rfl ?_
   refine gc_skip ?_
   refine gk_then (hK38 _ _ ?_)
   refine gc_sr fun K40 hK40 => ?_
   refine gas ?_
   refine gnt (hK40 _ _ ?_)
   refine gc_sr fun K41 hK41 => ?_
   refine gv (qts Try.underlying29 (n := 7)) ?_
   refine gm ?_
   refine gop fun K42 hK42 => ?_
   refine go_mark (ownCI _ (mkC _ _)) (n := 6) rfl rfl rfl Try.func27 rfl (by decide) rfl rfl (fun w S hS => markC_any w S _ _ _ hS (by omega) (by omega)) ?_
   refine hK42 _ _ ?_
   refine gas ?_
   refine gnt (hK41 _ _ ?_)
   refine gc_sr fun K43 hK43 => ?_
   refine gas ?_
   refine gnt (hK43 _ _ ?_)
   refine gc_sr fun K44 hK44 => ?_
   refine gv (qts Try.underlying29 (n := 7)) ?_
   refine gm ?_
   refine g_q (.free rfl) rfl rfl (qt_call rfl Try.func43 rfl (by decide) rfl (fun w M => heldC_any w _ _ _ ((mem_ownC (n := 6) M rfl).rd) (by first | assumption | omega) (by first | assumption | omega))) ?_
   refine gas ?_
   refine gnt (hK44 _ _ ?_)
   refine gc_seq fun K45 hK45 => ?_
   refine gc_sr fun K46 hK46 => ?_
   refine gm ?_
   refine gv (qt_lss rfl rfl rfl) ?_
   refine gnt (hK46 _ _ ?_)
   refine gc_cond rfl (fun hc1 => ?_) (fun hc1 => ?_)
   ·try simp only [sA] at hc1
    first | (exfalso; omega) | exact absurd rfl hc1 | (simp at hc1)
   ·try simp only [sA] at hc1
    refine gc_skip ?_
    refine gk_then (hK45 _ _ ?_)
    refine gc_seq fun K47 hK47 => ?_
    refine gc_sr fun K48 hK48 => ?_
    refine gm ?_
    refine gm ?_
    refine gv (qt_neq rfl rfl rfl) ?_
    refine gnt (hK48 _ _ ?_)
    refine gc_cond rfl (fun hc2 => ?_) (fun hc2 => ?_)
    ·try simp only [sA] at hc2
     first | (exfalso; omega) | exact absurd rfl hc2 | (simp at hc2)
    ·try simp only [sA] at hc2
     refine gc_skip ?_
     refine gk_then (hK47 _ _ ?_)
     refine gc_sr fun K49 hK49 => ?_
     refine gv (qts Try.underlying25 (n := 0)) ?_
     refine gop fun K51 hK51 => ?_
     refine go_callC1 rfl rfl rfl Try.func24 rfl (by decide) rfl (fun w M => toC_any w _ _ (mem_rdC M R0)) ?_
     intro ca50 cb50 cc50 cd50 ce50 cf50 cg50 ch50
     refine hK51 _ _ ?_
     refine gop fun K53 hK53 => ?_
     refine go_callCI1 rfl rfl rfl Try.func51 rfl (by decide) rfl (fun w M => himpl w _ ((mem_ownC (n := 9) M rfl).rd)) ?_
     intro ca52 cb52 cc52 cd52 ce52 cf52 cg52 ch52
     refine hK53 _ _ ?_
     refine gm ?_
     refine gv (qt_extract rfl rfl rfl) ?_
     refine gv (qt_extract rfl rfl rfl) ?_
     refine gop fun K55 hK55 => ?_
     refine go_alloc (z := (.agg #[.int .i64 0, .slice none 0 0, .slice none 0 0, .slice none 0 0, .slice none 0 0])) (cs := [.int .i64 0, .slice none 0 0, .slice none 0 0, .slice none 0 0, .slice none 0 0]) rfl rfl rfl (fun w => by kernel_rfl) rfl ?_
     intro B54
     refine hK55 _ _ ?_
     refine gop fun K56 hK56 => ?_
     refine go_storeS (n := 11) rfl rfl rfl rfl (by kernel_rfl) rfl rfl rfl ?_
     refine hK56 _ _ ?_
     refine gas ?_
     refine gnt (hK49 _ _ ?_)
     refine gc_seq fun K57 hK57 => ?_
     refine gc_sr fun K58 hK58 => ?_
     refine gv (qts Try.underlying29 (n := 11)) ?_
     refine gv (qts Try.underlying29 (n := 3)) ?_
     refine g_q (.free rfl) rfl rfl (qt_call rfl Try.func26 rfl (by decide) rfl (fun w M => eqC_refl_any w _ _ _ ((mem_ownC (n := 10) M rfl).rd) ((mem_ownC (n := 2) M rfl).rd))) ?_
     refine gv (qt_not rfl rfl) ?_
     refine gm ?_
     refine gvh (qt_move rfl rfl) ?_
     refine gvh (qt_move rfl rfl) ?_
     refine gvh (qt_neq_f rfl rfl rfl (fun h => h rfl)) ?_
     refine gv (qt_pick_f rfl rfl rfl) ?_
     refine gnt (hK58 _ _ ?_)
     refine gc_cond_f rfl ?_
     refine gc_skip ?_
     refine gk_then (hK57 _ _ ?_)
     refine gc_sr fun K59 hK59 => ?_
     refine gas ?_
     refine gnt (hK59 _ _ ?_)
     refine gc_sr fun K60 hK60 => ?_
     refine gv (qts Try.underlying29 (n := 7)) ?_
     refine gm ?_
     refine g_q (.free rfl) rfl rfl (qt_call rfl Try.func43 rfl (by decide) rfl (fun w M => heldC_any w _ _ _ ((mem_ownC (n := 6) M rfl).rd) (by first | assumption | omega) (by first | assumption | omega))) ?_
     refine gas ?_
     refine gnt (hK60 _ _ ?_)
     refine gc_seq fun K61 hK61 => ?_
     refine gc_sr fun K62 hK62 => ?_
     refine gm ?_
     refine gv (qt_lss rfl rfl rfl) ?_
     refine gnt (hK62 _ _ ?_)
     refine gc_cond rfl (fun hc3 => ?_) (fun hc3 => ?_)
     ·try simp only [sA] at hc3
      first | (exfalso; omega) | exact absurd rfl hc3 | (simp at hc3)
     ·try simp only [sA] at hc3
      refine gc_skip ?_
      refine gk_then (hK61 _ _ ?_)
      refine gc_seq fun K63 hK63 => ?_
      refine gc_sr fun K64 hK64 => ?_
      refine gm ?_
      refine gm ?_
      refine gv (qt_neq rfl rfl rfl) ?_
      refine gnt (hK64 _ _ ?_)
      refine gc_cond rfl (fun hc4 => ?_) (fun hc4 => ?_)
      ·try simp only [sA] at hc4
       first | (exfalso; omega) | exact absurd rfl hc4 | (simp at hc4)
      ·try simp only [sA] at hc4
       refine gc_skip ?_
       refine gk_then (hK63 _ _ ?_)
       refine gc_sr fun K65 hK65 => ?_
       refine gas ?_
       refine gnt (hK65 _ _ ?_)
       refine gc_ret ?_
       refine ret_1 rfl rfl  (fun w M => ?_)
       exact ⟨rfl, M.1⟩

set_option maxHeartbeats 1000000 in
set_option maxRecDepth 100000 in
theorem big0 (w : World) (v0 : Value) (a0 : Cat) (r0 : Cat) (r1 : Int) (h0 : InC w v0 a0) (nl : ¬ (szM a0 ≤ 1048576)) :
  Calls Try.prog 14 #[v0] w (RetB w true) := by
 have I0 := h0
 obtain ⟨pa0, pb0, pc0, pd0, pe0, pf0, pg0, ph0, rfl⟩ := h0.form
 have mz0 := mz_le a0
 go_enter Try.func14, Try.ntmps14
 refine gc_enter (N := 96) rfl (look_cons (k := 0) rfl (look_nil _)) ?_
 refine gc_sr fun K1 hK1 => ?_
 refine gop fun K3 hK3 => ?_
 refine go_box rfl rfl rfl rfl rfl ?_
 intro B2
 refine hK3 _ _ ?_
 refine gas ?_
 refine gnt (hK1 _ _ ?_)
 refine gc_sr fun K4 hK4 => ?_
 refine gas ?_
 refine gnt (hK4 _ _ ?_)
 refine gc_sr fun K5 hK5 => ?_
 refine gv (qts Try.underlying25 (n := 0)) ?_
 refine gm ?_
 refine g_q (.free rfl) rfl rfl (qt_call rfl Try.func22 rfl (by decide) rfl (fun w M => szC_gt w _ _ _ (inC_below M.1 I0) (by first | assumption | omega) (by first | assumption | omega) (by first | assumption | omega))) ?_
 refine gas ?_
 refine gnt (hK5 _ _ ?_)
 refine gc_seq fun K6 hK6 => ?_
 refine gc_sr fun K7 hK7 => ?_
 refine gm ?_
 refine gv (qt_lss_t rfl rfl rfl (by decide)) ?_
 refine gnt (hK7 _ _ ?_)
 refine gc_cond_t rfl ?_
 refine gc_sr fun K8 hK8 => ?_
 refine gas ?_
 refine gnt (hK8 _ _ ?_)
 refine gc_ret ?_
 refine gk_then_ret ?_
 refine ret_1 rfl rfl  (fun w M => ?_)
 exact ⟨rfl, M.1⟩
end Go.Proofs.Ytpfcfhjpgngneab.exactOppositeCategory
