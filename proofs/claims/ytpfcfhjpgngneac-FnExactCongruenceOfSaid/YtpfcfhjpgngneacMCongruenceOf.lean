
/- The walks of the exact law of CongruenceOf: its model and its program do the same, in memory of their own. Written by wip/tools/genlaw.py. -/
import Derived.Test.YtpfcfhjpgngneacShort
import Derived.Test.YtpfcfhjpgngneacBase
import Derived.Test.YtpfcfhjpgngneacLawC
import Derived.Test.YtpfcfhjpgngneacRul4
import Derived.Test.YtpfcfhjpgngneacCong3
set_option linter.unusedSimpArgs false
set_option linter.unusedVariables false
set_option linter.unusedSectionVars false
namespace Go.Proofs.Ytpfcfhjpgngneac.exactCongruenceOf
open Go.ChangeShapes Go.WideShapes Go.ChangeAt Go.RowKit
set_option maxHeartbeats 4000000 in
set_option maxRecDepth 100000 in
theorem main (w : World) (v0 : Value) (a0 : Cat) (v1 : Value) (a1 : List (List Int)) (r0 : List Int) (r1 : Int) (h0 : InC w v0 a0) (l0 : szM a0 ≤ 1048576) (h1 : In2 w v1 a1) (l1 : szM a0 + (a1.length + offR a1 a1.length) ≤ 1048576) (hspec : (∀ (w : World) (v0 : Value) (v1 : Value), RdC w v0 a0 → Rd2 w v1 a1 → Calls Try.prog 55 #[v0, v1] w (RetLI w r0 r1))) (himpl : (∀ (w : World) (v0 : Value) (v1 : Value), RdC w v0 a0 → Rd2 w v1 a1 → Calls Try.prog 57 #[v0, v1] w (RetLI w r0 r1))) :
  Calls Try.prog 10 #[v0, v1] w (RetB w true) := by
 have R0 := h0.rd (by omega)
 have I0 := h0
 obtain ⟨pa0, pb0, pc0, pd0, pe0, pf0, pg0, ph0, rfl⟩ := h0.form
 have mz0 := mz_le a0
 have R1 := h1.rd (by omega)
 have I1 := h1
 obtain ⟨pa1, pb1, rfl⟩ := h1.form
 go_enter Try.func10, Try.ntmps10
 refine gc_enter (N := 119) rfl (look_cons (k := 0) rfl (look_cons (k := 1) rfl (look_nil _))) ?_
 refine gc_sr fun K1 hK1 => ?_
 refine gop fun K3 hK3 => ?_
 refine go_box rfl rfl rfl rfl rfl ?_
 intro B2
 refine hK3 _ _ ?_
 refine gas ?_
 refine gnt (hK1 _ _ ?_)
 refine gc_sr fun K4 hK4 => ?_
 refine gas ?_
 refine gnt (hK4 _ _ ?_)
 refine gc_sr fun K5 hK5 => ?_
 refine gv (qts Try.underlying56 (n := 0)) ?_
 refine gm ?_
 refine g_q (.free rfl) rfl rfl (qt_call rfl Try.func43 rfl (by decide) rfl (fun w M => szC_le w _ _ _ (inC_below M.1 I0) (by first | assumption | omega) (by first | assumption | omega) (by first | assumption | omega))) ?_
 refine gas ?_
 refine gnt (hK5 _ _ ?_)
 refine gc_seq fun K6 hK6 => ?_
 refine gc_sr fun K7 hK7 => ?_
 refine gm ?_
 refine gv (qt_lss rfl rfl rfl) ?_
 refine gnt (hK7 _ _ ?_)
 refine gc_cond rfl (fun hc0 => ?_) (fun hc0 => ?_)
 ·try simp only [sA] at hc0
  first | (exfalso; omega) | exact absurd rfl hc0 | (simp at hc0)
 ·try simp only [sA] at hc0
  refine gc_skip ?_
  refine gk_then (hK6 _ _ ?_)
  refine gc_sr fun K8 hK8 => ?_
  refine gm ?_
  refine gm ?_
  refine g_q (.free rfl) rfl rfl (qt_call rfl Try.func54 rfl (by decide) rfl (fun w M => sz2_le w _ _ _ (in2_below M.1 I1) (by first | assumption | omega) (by first | assumption | omega) (by first | assumption | omega))) ?_
  refine gas ?_
  refine gnt (hK8 _ _ ?_)
  refine gc_seq fun K9 hK9 => ?_
  refine gc_sr fun K10 hK10 => ?_
  refine gm ?_
  refine gv (qt_lss rfl rfl rfl) ?_
  refine gnt (hK10 _ _ ?_)
  refine gc_cond rfl (fun hc1 => ?_) (fun hc1 => ?_)
  ·try simp only [sA] at hc1
   first | (exfalso; omega) | exact absurd rfl hc1 | (simp at hc1)
  ·try simp only [sA] at hc1
   refine gc_skip ?_
   refine gk_then (hK9 _ _ ?_)
   refine gc_sr fun K11 hK11 => ?_
   refine gv (qts Try.underlying56 (n := 0)) ?_
   refine gop fun K13 hK13 => ?_
   refine go_callC1 rfl rfl rfl Try.func45 rfl (by decide) rfl (fun w M => toC_any w _ _ (mem_rdC M R0)) ?_
   intro ca12 cb12 cc12 cd12 ce12 cf12 cg12 ch12
   refine hK13 _ _ ?_
   refine gm ?_
   refine gop fun K15 hK15 => ?_
   refine go_callR1 rfl rfl rfl Try.func56 rfl (by decide) rfl (fun w M => to2_any w _ _ (mem_rd2 M R1)) ?_
   intro ca14 cb14
   refine hK15 _ _ ?_
   refine gop fun K17 hK17 => ?_
   refine go_callLI1 rfl rfl rfl Try.func55 rfl (by decide) rfl (fun w M => hspec w _ _ ((mem_ownC (n := 1) M rfl).rd) (sl2_rd (mem_own2 (n := 2) M rfl))) ?_
   intro ca16 cb16 cc16
   refine hK17 _ _ ?_
   refine gm ?_
   refine gv (qt_extract rfl rfl rfl) ?_
   refine gv (qt_extract rfl rfl rfl) ?_
   refine gas ?_
   refine gas ?_
   refine gnt (hK11 _ _ ?_)
   refine gc_sr fun K18 hK18 => ?_
   refine gv (qts Try.underlying56 (n := 0)) ?_
   refine gop fun K20 hK20 => ?_
   refine go_callC1 rfl rfl rfl Try.func45 rfl (by decide) rfl (fun w M => toC_any w _ _ (mem_rdC M R0)) ?_
   intro ca19 cb19 cc19 cd19 ce19 cf19 cg19 ch19
   refine hK20 _ _ ?_
   refine gop fun K22 hK22 => ?_
   refine go_alloc (z := (.agg #[.int .i64 0, .slice none 0 0, .slice none 0 0, .slice none 0 0, .slice none 0 0])) (cs := [.int .i64 0, .slice none 0 0, .slice none 0 0, .slice none 0 0, .slice none 0 0]) rfl rfl rfl (fun w => by kernel_rfl) rfl ?_
   intro B21
   refine hK22 _ _ ?_
   refine gop fun K23 hK23 => ?_
   refine go_storeS (n := 5) rfl rfl rfl rfl (by kernel_rfl) rfl rfl rfl ?_
   refine hK23 _ _ ?_
   refine gnt (hK18 _ _ ?_)
   refine gc_sr fun K24 hK24 => ?_
   refine gm ?_
   refine gop fun K26 hK26 => ?_
   refine go_callR1 rfl rfl rfl Try.func56 rfl (by decide) rfl (fun w M => to2_any w _ _ (mem_rd2 M R1)) ?_
   intro ca25 cb25
   refine hK26 _ _ ?_
   refine gas ?_
   refine gnt (hK24 _ _ ?_)
   refine gc_sr fun K27 hK27 => ?_
   refine gv (qts Try.underlying27 (n := 5)) ?_
   refine gm ?_
   refine gop fun K29 hK29 => ?_
   refine go_callLI1 rfl rfl rfl Try.func57 rfl (by decide) rfl (fun w M => himpl w _ _ ((mem_ownC (n := 4) M rfl).rd) (sl2_rd (mem_own2 (n := 6) M rfl))) ?_
   intro ca28 cb28 cc28
   refine hK29 _ _ ?_
   refine gm ?_
   refine gv (qt_extract rfl rfl rfl) ?_
   refine gv (qt_extract rfl rfl rfl) ?_
   refine gas ?_
   refine gas ?_
   refine gnt (hK27 _ _ ?_)
   refine gc_seq fun K30 hK30 => ?_
   refine gc_sr fun K31 hK31 => ?_
   refine gm ?_
   refine gm ?_
   refine g_q (.free rfl) rfl rfl (qt_call rfl Try.func53 rfl (by decide) rfl (fun w M => eq_refl_any w _ _ _ ((mem_own1 (n := 7) M rfl).rd) ((mem_own1 (n := 3) M rfl).rd))) ?_
   refine gv (qt_not rfl rfl) ?_
   refine gm ?_
   refine gvh (qt_move rfl rfl) ?_
   refine gvh (qt_move rfl rfl) ?_
   refine gvh (qt_neq_f rfl rfl rfl (fun h => h rfl)) ?_
   refine gv (qt_pick_f rfl rfl rfl) ?_
   refine gnt (hK31 _ _ ?_)
   refine gc_cond_f rfl ?_
   refine gc_skip ?_
   refine gk_then (hK30 _ _ ?_)
   refine gc_seq fun K32 hK32 => ?_
   refine gc_seq fun K33 hK33 => ?_
   try simp only [sL]
   refine ga_start _ (fun w M => M) ?_
   refine gav 0 rfl (qts Try.underlying27 (n := 5)) ?_
   refine gav 1 rfl (qts Try.underlying56 (n := 0)) ?_
   refine gao 2 fun K35 hK35 => ?_
   refine go_callC1 rfl rfl rfl Try.func45 rfl (by decide) rfl (fun w M => toC_any w _ _ (mem_rdC M R0)) ?_
   intro ca34 cb34 cc34 cd34 ce34 cf34 cg34 ch34
   refine hK35 _ _ (fun w M => (mem_take 8 M :)) ?_
   refine gao 3 fun K36 hK36 => ?_
   refine go_q rfl rfl (qt_call rfl Try.func47 rfl (by decide) rfl (fun w M => eqC_refl_any w _ _ _ ((mem_ownC (n := 4) M rfl).rd) ((mem_ownC (n := 8) M rfl).rd))) ?_
   refine hK36 _ _ (fun w M => (mem_take 8 M :)) ?_
   refine gav 4 rfl (qt_not rfl rfl) ?_
   refine ga_done (by kernel_rfl) ?_
   refine gk_then (hK33 _ _ ?_)
   refine gc_cond_f rfl ?_
   refine gc_skip ?_
   refine gk_then (hK32 _ _ ?_)
   refine gc_seq fun K37 hK37 => ?_
   refine gc_sr fun K38 hK38 => ?_
   refine gm ?_
   refine gm ?_
   refine gop fun K40 hK40 => ?_
   refine go_callR1 rfl rfl rfl Try.func56 rfl (by decide) rfl (fun w M => to2_any w _ _ (mem_rd2 M R1)) ?_
   intro ca39 cb39
   refine hK40 _ _ ?_
   refine g_q (.free rfl) rfl rfl (qt_call rfl Try.func58 rfl (by decide) rfl (fun w M => eq2_refl_any w _ _ _ (sl2_rd (mem_own2 (n := 6) M rfl)) (sl2_rd (mem_own2 (n := 9) M rfl)))) ?_
   refine gv (qt_not rfl rfl) ?_
   refine gnt (hK38 _ _ ?_)
   refine gc_cond_f rfl ?_
   refine gc_skip ?_
   refine gk_then (hK37 _ _ ?_)
   refine gc_sr fun K41 hK41 => ?_
   refine gas ?_
   refine gnt (hK41 _ _ ?_)
   refine gc_sr fun K42 hK42 => ?_
   refine gv (qts Try.underlying27 (n := 5)) ?_
   refine gm ?_
   refine gop fun K43 hK43 => ?_
   refine go_mark (ownCI _ (mkC _ _)) (n := 4) rfl rfl rfl Try.func48 rfl (by decide) rfl rfl (fun w S hS => markC_any w S _ _ _ hS (by omega) (by omega)) ?_
   refine hK43 _ _ ?_
   refine gas ?_
   refine gnt (hK42 _ _ ?_)
   refine gc_sr fun K44 hK44 => ?_
   refine gm ?_
   refine gm ?_
   refine gop fun K45 hK45 => ?_
   refine go_mark (own2I _ (mk2 _ _ _)) (n := 6) rfl rfl rfl Try.func59 rfl (by decide) rfl rfl (fun w S hS => markS2_any w S _ _ _ hS (by omega) (by omega)) ?_
   refine hK45 _ _ ?_
   refine gas ?_
   refine gnt (hK44 _ _ ?_)
   refine gc_seq fun K46 hK46 => ?_
   refine gc_sr fun K47 hK47 => ?_
   refine gm ?_
   refine gv (qt_lss rfl rfl rfl) ?_
   refine g_splitv (.free rfl) rfl rfl (qt_move rfl rfl) (fun hs21_2 => ?_) (fun hs21_2 => ?_)
   ·try simp only [sA] at hs21_2
    first | (exfalso; omega) | exact absurd rfl hs21_2 | (simp at hs21_2)
   ·try simp only [sA] at hs21_2
    refine gvh (qt_move rfl rfl) ?_
    refine gvh (qt_move rfl rfl) ?_
    refine g_q (.held _ _ _ rfl rfl rfl) rfl rfl (qt_call rfl Try.func53 rfl (by decide) rfl (fun w M => eq_refl_any w _ _ _ ((mem_own1 (n := 7) M rfl).rd) ((mem_own1 (n := 3) M rfl).rd))) ?_
    refine gvh (qt_not rfl rfl) ?_
    refine gv (qt_pick_f rfl rfl rfl) ?_
    refine gm ?_
    refine gvh (qt_move rfl rfl) ?_
    refine gvh (qt_move rfl rfl) ?_
    refine gvh (qt_neq_f rfl rfl rfl (fun h => h rfl)) ?_
    refine gv (qt_pick_f rfl rfl rfl) ?_
    refine gnt (hK47 _ _ ?_)
    refine gc_cond_f rfl ?_
    refine gc_skip ?_
    refine gk_then (hK46 _ _ ?_)
    refine gc_sr fun K48 hK48 => ?_
    refine gas ?_
    refine gnt (hK48 _ _ ?_)
    refine gc_sr fun K49 hK49 => ?_
    refine gm ?_
    refine gm ?_
    refine gop fun K50 hK50 => ?_
    refine go_mark (own1I _ (upTo _ _)) (n := 7) rfl rfl rfl Try.func60 rfl (by decide) rfl rfl (fun w S hS => markS_any w S _ _ _ hS (by omega) (by omega)) ?_
    refine hK50 _ _ ?_
    refine gas ?_
    refine gnt (hK49 _ _ ?_)
    refine gc_sr fun K51 hK51 => ?_
    refine gas ?_
    refine gnt (hK51 _ _ ?_)
    refine gc_sr fun K52 hK52 => ?_
    refine gm ?_
    refine gm ?_
    refine g_q (.free rfl) rfl rfl (qt_call rfl Try.func61 rfl (by decide) rfl (fun w M => held_any w _ _ _ ((mem_own1 (n := 7) M rfl).rd) (by first | assumption | omega) (by first | assumption | omega))) ?_
    refine gas ?_
    refine gnt (hK52 _ _ ?_)
    refine gc_seq fun K53 hK53 => ?_
    refine gc_sr fun K54 hK54 => ?_
    refine gm ?_
    refine gv (qt_lss rfl rfl rfl) ?_
    refine gnt (hK54 _ _ ?_)
    refine gc_cond rfl (fun hc2 => ?_) (fun hc2 => ?_)
    ·try simp only [sA] at hc2
     first | (exfalso; omega) | exact absurd rfl hc2 | (simp at hc2)
    ·try simp only [sA] at hc2
     refine gc_skip ?_
     refine gk_then (hK53 _ _ ?_)
     refine gc_seq fun K55 hK55 => ?_
     refine gc_sr fun K56 hK56 => ?_
     refine gm ?_
     refine gm ?_
     refine gv (qt_neq rfl rfl rfl) ?_
     refine gnt (hK56 _ _ ?_)
     refine gc_cond rfl (fun hc3 => ?_) (fun hc3 => ?_)
     ·try simp only [sA] at hc3
      first | (exfalso; omega) | exact absurd rfl hc3 | (simp at hc3)
     ·try simp only [sA] at hc3
      refine gc_skip ?_
      refine gk_then (hK55 _ _ ?_)
      refine gc_sr fun K57 hK57 => ?_
      refine gv (qts Try.underlying56 (n := 0)) ?_
      refine gop fun K59 hK59 => ?_
      refine go_callC1 rfl rfl rfl Try.func45 rfl (by decide) rfl (fun w M => toC_any w _ _ (mem_rdC M R0)) ?_
      intro ca58 cb58 cc58 cd58 ce58 cf58 cg58 ch58
      refine hK59 _ _ ?_
      refine gm ?_
      refine gop fun K61 hK61 => ?_
      refine go_callR1 rfl rfl rfl Try.func56 rfl (by decide) rfl (fun w M => to2_any w _ _ (mem_rd2 M R1)) ?_
      intro ca60 cb60
      refine hK61 _ _ ?_
      refine gop fun K63 hK63 => ?_
      refine go_callLI1 rfl rfl rfl Try.func57 rfl (by decide) rfl (fun w M => himpl w _ _ ((mem_ownC (n := 10) M rfl).rd) (sl2_rd (mem_own2 (n := 11) M rfl))) ?_
      intro ca62 cb62 cc62
      refine hK63 _ _ ?_
      refine gm ?_
      refine gv (qt_extract rfl rfl rfl) ?_
      refine gv (qt_extract rfl rfl rfl) ?_
      refine gas ?_
      refine gas ?_
      refine gnt (hK57 _ _ ?_)
      refine gc_seq fun K64 hK64 => ?_
      refine gc_sr fun K65 hK65 => ?_
      refine gm ?_
      refine gm ?_
      refine g_q (.free rfl) rfl rfl (qt_call rfl Try.func53 rfl (by decide) rfl (fun w M => eq_refl_any w _ _ _ ((mem_own1 (n := 12) M rfl).rd) ((mem_own1 (n := 3) M rfl).rd))) ?_
      refine gv (qt_not rfl rfl) ?_
      refine gm ?_
      refine gvh (qt_move rfl rfl) ?_
      refine gvh (qt_move rfl rfl) ?_
      refine gvh (qt_neq_f rfl rfl rfl (fun h => h rfl)) ?_
      refine gv (qt_pick_f rfl rfl rfl) ?_
      refine gnt (hK65 _ _ ?_)
      refine gc_cond_f rfl ?_
      refine gc_skip ?_
      refine gk_then (hK64 _ _ ?_)
      refine gc_sr fun K66 hK66 => ?_
      refine gas ?_
      refine gnt (hK66 _ _ ?_)
      refine gc_sr fun K67 hK67 => ?_
      refine gm ?_
      refine gm ?_
      refine g_q (.free rfl) rfl rfl (qt_call rfl Try.func61 rfl (by decide) rfl (fun w M => held_any w _ _ _ ((mem_own1 (n := 7) M rfl).rd) (by first | assumption | omega) (by first | assumption | omega))) ?_
      refine gas ?_
      refine gnt (hK67 _ _ ?_)
      refine gc_seq fun K68 hK68 => ?_
      refine gc_sr fun K69 hK69 => ?_
      refine gm ?_
      refine gv (qt_lss rfl rfl rfl) ?_
      refine gnt (hK69 _ _ ?_)
      refine gc_cond rfl (fun hc4 => ?_) (fun hc4 => ?_)
      ·try simp only [sA] at hc4
       first | (exfalso; omega) | exact absurd rfl hc4 | (simp at hc4)
      ·try simp only [sA] at hc4
       refine gc_skip ?_
       refine gk_then (hK68 _ _ ?_)
       refine gc_seq fun K70 hK70 => ?_
       refine gc_sr fun K71 hK71 => ?_
       refine gm ?_
       refine gm ?_
       refine gv (qt_neq rfl rfl rfl) ?_
       refine gnt (hK71 _ _ ?_)
       refine gc_cond rfl (fun hc5 => ?_) (fun hc5 => ?_)
       ·try simp only [sA] at hc5
        first | (exfalso; omega) | exact absurd rfl hc5 | (simp at hc5)
       ·try simp only [sA] at hc5
        refine gc_skip ?_
        refine gk_then (hK70 _ _ ?_)
        refine gc_sr fun K72 hK72 => ?_
        refine gas ?_
        refine gnt (hK72 _ _ ?_)
        refine gc_ret ?_
        refine ret_1 rfl rfl  (fun w M => ?_)
        exact ⟨rfl, M.1⟩

set_option maxHeartbeats 1000000 in
set_option maxRecDepth 100000 in
theorem big0 (w : World) (v0 : Value) (a0 : Cat) (v1 : Value) (a1 : List (List Int)) (r0 : List Int) (r1 : Int) (h0 : InC w v0 a0) (h1 : In2 w v1 a1) (nl : ¬ (szM a0 ≤ 1048576)) :
  Calls Try.prog 10 #[v0, v1] w (RetB w true) := by
 have I0 := h0
 obtain ⟨pa0, pb0, pc0, pd0, pe0, pf0, pg0, ph0, rfl⟩ := h0.form
 have mz0 := mz_le a0
 have I1 := h1
 obtain ⟨pa1, pb1, rfl⟩ := h1.form
 go_enter Try.func10, Try.ntmps10
 refine gc_enter (N := 119) rfl (look_cons (k := 0) rfl (look_cons (k := 1) rfl (look_nil _))) ?_
 refine gc_sr fun K1 hK1 => ?_
 refine gop fun K3 hK3 => ?_
 refine go_box rfl rfl rfl rfl rfl ?_
 intro B2
 refine hK3 _ _ ?_
 refine gas ?_
 refine gnt (hK1 _ _ ?_)
 refine gc_sr fun K4 hK4 => ?_
 refine gas ?_
 refine gnt (hK4 _ _ ?_)
 refine gc_sr fun K5 hK5 => ?_
 refine gv (qts Try.underlying56 (n := 0)) ?_
 refine gm ?_
 refine g_q (.free rfl) rfl rfl (qt_call rfl Try.func43 rfl (by decide) rfl (fun w M => szC_gt w _ _ _ (inC_below M.1 I0) (by first | assumption | omega) (by first | assumption | omega) (by first | assumption | omega))) ?_
 refine gas ?_
 refine gnt (hK5 _ _ ?_)
 refine gc_seq fun K6 hK6 => ?_
 refine gc_sr fun K7 hK7 => ?_
 refine gm ?_
 refine gv (qt_lss_t rfl rfl rfl (by decide)) ?_
 refine gnt (hK7 _ _ ?_)
 refine gc_cond_t rfl ?_
 refine gc_sr fun K8 hK8 => ?_
 refine gas ?_
 refine gnt (hK8 _ _ ?_)
 refine gc_ret ?_
 refine gk_then_ret ?_
 refine ret_1 rfl rfl  (fun w M => ?_)
 exact ⟨rfl, M.1⟩

set_option maxHeartbeats 1000000 in
set_option maxRecDepth 100000 in
theorem big1 (w : World) (v0 : Value) (a0 : Cat) (v1 : Value) (a1 : List (List Int)) (r0 : List Int) (r1 : Int) (h0 : InC w v0 a0) (h1 : In2 w v1 a1) (l0 : szM a0 ≤ 1048576) (nl : ¬ (szM a0 + (a1.length + offR a1 a1.length) ≤ 1048576)) :
  Calls Try.prog 10 #[v0, v1] w (RetB w true) := by
 have I0 := h0
 obtain ⟨pa0, pb0, pc0, pd0, pe0, pf0, pg0, ph0, rfl⟩ := h0.form
 have mz0 := mz_le a0
 have I1 := h1
 obtain ⟨pa1, pb1, rfl⟩ := h1.form
 go_enter Try.func10, Try.ntmps10
 refine gc_enter (N := 119) rfl (look_cons (k := 0) rfl (look_cons (k := 1) rfl (look_nil _))) ?_
 refine gc_sr fun K1 hK1 => ?_
 refine gop fun K3 hK3 => ?_
 refine go_box rfl rfl rfl rfl rfl ?_
 intro B2
 refine hK3 _ _ ?_
 refine gas ?_
 refine gnt (hK1 _ _ ?_)
 refine gc_sr fun K4 hK4 => ?_
 refine gas ?_
 refine gnt (hK4 _ _ ?_)
 refine gc_sr fun K5 hK5 => ?_
 refine gv (qts Try.underlying56 (n := 0)) ?_
 refine gm ?_
 refine g_q (.free rfl) rfl rfl (qt_call rfl Try.func43 rfl (by decide) rfl (fun w M => szC_le w _ _ _ (inC_below M.1 I0) (by first | assumption | omega) (by first | assumption | omega) (by first | assumption | omega))) ?_
 refine gas ?_
 refine gnt (hK5 _ _ ?_)
 refine gc_seq fun K6 hK6 => ?_
 refine gc_sr fun K7 hK7 => ?_
 refine gm ?_
 refine gv (qt_lss rfl rfl rfl) ?_
 refine gnt (hK7 _ _ ?_)
 refine gc_cond rfl (fun hc0 => ?_) (fun hc0 => ?_)
 ·try simp only [sA] at hc0
  first | (exfalso; omega) | exact absurd rfl hc0 | (simp at hc0)
 ·try simp only [sA] at hc0
  refine gc_skip ?_
  refine gk_then (hK6 _ _ ?_)
  refine gc_sr fun K8 hK8 => ?_
  refine gm ?_
  refine gm ?_
  refine g_q (.free rfl) rfl rfl (qt_call rfl Try.func54 rfl (by decide) rfl (fun w M => sz2_gt w _ _ _ (in2_below M.1 I1) (by first | assumption | omega) (by first | assumption | omega) (by first | assumption | omega))) ?_
  refine gas ?_
  refine gnt (hK8 _ _ ?_)
  refine gc_seq fun K9 hK9 => ?_
  refine gc_sr fun K10 hK10 => ?_
  refine gm ?_
  refine gv (qt_lss_t rfl rfl rfl (by decide)) ?_
  refine gnt (hK10 _ _ ?_)
  refine gc_cond_t rfl ?_
  refine gc_sr fun K11 hK11 => ?_
  refine gas ?_
  refine gnt (hK11 _ _ ?_)
  refine gc_ret ?_
  refine gk_then_ret ?_
  refine ret_1 rfl rfl  (fun w M => ?_)
  exact ⟨rfl, M.1⟩
end Go.Proofs.Ytpfcfhjpgngneac.exactCongruenceOf
