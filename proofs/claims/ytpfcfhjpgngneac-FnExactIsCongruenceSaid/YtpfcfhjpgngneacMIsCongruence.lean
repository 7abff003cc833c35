
/- The walks of the exact law of IsCongruence: its model and its program do the same, in memory of their own. Written by wip/tools/genlaw.py. -/
import Derived.Test.YtpfcfhjpgngneacShort
import Derived.Test.YtpfcfhjpgngneacBase
import Derived.Test.YtpfcfhjpgngneacLawC
import Derived.Test.YtpfcfhjpgngneacRul4
import Derived.Test.YtpfcfhjpgngneacCong2
set_option linter.unusedSimpArgs false
set_option linter.unusedVariables false
set_option linter.unusedSectionVars false
namespace Go.Proofs.Ytpfcfhjpgngneac.exactIsCongruence
open Go.ChangeShapes Go.WideShapes Go.ChangeAt Go.RowKit
set_option maxHeartbeats 4000000 in
set_option maxRecDepth 100000 in
theorem main (w : World) (v0 : Value) (a0 : Cat) (v1 : Value) (a1 : List Int) (r0 : Bool) (r1 : Int) (h0 : InC w v0 a0) (l0 : szM a0 ≤ 1048576) (h1 : In w v1 a1) (l1 : a1.length ≤ 1048576) (hspec : (∀ (w : World) (v0 : Value) (v1 : Value), RdC w v0 a0 → Rd w v1 a1 → Calls Try.prog 50 #[v0, v1] w (RetBI w r0 r1))) (himpl : (∀ (w : World) (v0 : Value) (v1 : Value), RdC w v0 a0 → Rd w v1 a1 → Calls Try.prog 52 #[v0, v1] w (RetBI w r0 r1))) :
  Calls Try.prog 9 #[v0, v1] w (RetB w true) := by
 have R0 := h0.rd (by omega)
 have I0 := h0
 obtain ⟨pa0, pb0, pc0, pd0, pe0, pf0, pg0, ph0, rfl⟩ := h0.form
 have mz0 := mz_le a0
 have R1 := h1.rd (by omega)
 have I1 := h1
 obtain ⟨pa1, pb1, rfl⟩ := h1.form
 go_enter Try.func9, Try.ntmps9
 refine gc_enter (N := 56) rfl (look_cons (k := 0) rfl (look_cons (k := 1) rfl (look_nil _))) ?_
 refine gc_sr fun K1 hK1 => ?_
 refine gop fun K3 hK3 => ?_
 refine go_box rfl rfl rfl rfl rfl ?_
 intro B2
 refine hK3 _ _ ?_
 refine gas ?_
 refine gnt (hK1 _ _ ?_)
 refine gc_seq fun K4 hK4 => ?_
 refine gc_sr fun K5 hK5 => ?_
 refine gm ?_
 refine gv (qln (fun w M => lenV_rd R1)) ?_
 refine gv (qt_gtr rfl rfl rfl) ?_
 refine gnt (hK5 _ _ ?_)
 refine gc_cond rfl (fun hc0 => ?_) (fun hc0 => ?_)
 ·try simp only [sA] at hc0
  first | (exfalso; omega) | exact absurd rfl hc0 | (simp at hc0)
 ·try simp only [sA] at hc0
  refine gc_skip ?_
  refine gk_then (hK4 _ _ ?_)
  refine gc_sr fun K6 hK6 => ?_
  refine gas ?_
  refine gnt (hK6 _ _ ?_)
  refine gc_sr fun K7 hK7 => ?_
  refine gv (qts Try.underlying56 (n := 0)) ?_
  refine gm ?_
  refine g_q (.free rfl) rfl rfl (qt_call rfl Try.func43 rfl (by decide) rfl (fun w M => szC_le w _ _ _ (inC_below M.1 I0) (by first | assumption | omega) (by first | assumption | omega) (by first | assumption | omega))) ?_
  refine gas ?_
  refine gnt (hK7 _ _ ?_)
  refine gc_seq fun K8 hK8 => ?_
  refine gc_sr fun K9 hK9 => ?_
  refine gm ?_
  refine gv (qt_lss rfl rfl rfl) ?_
  refine gnt (hK9 _ _ ?_)
  refine gc_cond rfl (fun hc1 => ?_) (fun hc1 => ?_)
  ·try simp only [sA] at hc1
   first | (exfalso; omega) | exact absurd rfl hc1 | (simp at hc1)
  ·try simp only [sA] at hc1
   refine gc_skip ?_
   refine gk_then (hK8 _ _ ?_)
   refine gc_sr fun K10 hK10 => ?_
   refine gv (qts Try.underlying56 (n := 0)) ?_
   refine gop fun K12 hK12 => ?_
   refine go_callC1 rfl rfl rfl Try.func45 rfl (by decide) rfl (fun w M => toC_any w _ _ (mem_rdC M R0)) ?_
   intro ca11 cb11 cc11 cd11 ce11 cf11 cg11 ch11
   refine hK12 _ _ ?_
   refine gm ?_
   refine gop fun K14 hK14 => ?_
   refine go_callL1 rfl rfl rfl Try.func51 rfl (by decide) rfl (fun w M => to_any w _ _ (mem_rd M R1)) ?_
   intro ca13 cb13 cc13
   refine hK14 _ _ ?_
   refine g_q (.free rfl) rfl rfl (qt_call rfl Try.func50 rfl (by decide) rfl (fun w M => hspec w _ _ ((mem_ownC (n := 1) M rfl).rd) ((mem_own1 (n := 2) M rfl).rd))) ?_
   refine gm ?_
   refine gv (qt_extract rfl rfl rfl) ?_
   refine gv (qt_extract rfl rfl rfl) ?_
   refine gas ?_
   refine gas ?_
   refine gnt (hK10 _ _ ?_)
   refine gc_sr fun K15 hK15 => ?_
   refine gv (qts Try.underlying56 (n := 0)) ?_
   refine gop fun K17 hK17 => ?_
   refine go_callC1 rfl rfl rfl Try.func45 rfl (by decide) rfl (fun w M => toC_any w _ _ (mem_rdC M R0)) ?_
   intro ca16 cb16 cc16 cd16 ce16 cf16 cg16 ch16
   refine hK17 _ _ ?_
   refine gop fun K19 hK19 => ?_
   refine go_alloc (z := (.agg #[.int .i64 0, .slice none 0 0, .slice none 0 0, .slice none 0 0, .slice none 0 0])) (cs := [.int .i64 0, .slice none 0 0, .slice none 0 0, .slice none 0 0, .slice none 0 0]) rfl rfl rfl (fun w => by kernel_rfl) rfl ?_
   intro B18
   refine hK19 _ _ ?_
   refine gop fun K20 hK20 => ?_
   refine go_storeS (n := 4) rfl rfl rfl rfl (by kernel_rfl) rfl rfl rfl ?_
   refine hK20 _ _ ?_
   refine gnt (hK15 _ _ ?_)
   refine gc_sr fun K21 hK21 => ?_
   refine gm ?_
   refine gop fun K23 hK23 => ?_
   refine go_callL1 rfl rfl rfl Try.func51 rfl (by decide) rfl (fun w M => to_any w _ _ (mem_rd M R1)) ?_
   intro ca22 cb22 cc22
   refine hK23 _ _ ?_
   refine gas ?_
   refine gnt (hK21 _ _ ?_)
   refine gc_sr fun K24 hK24 => ?_
   refine gv (qts Try.underlying27 (n := 4)) ?_
   refine gm ?_
   refine g_q (.free rfl) rfl rfl (qt_call rfl Try.func52 rfl (by decide) rfl (fun w M => himpl w _ _ ((mem_ownC (n := 3) M rfl).rd) ((mem_own1 (n := 5) M rfl).rd))) ?_
   refine gm ?_
   refine gv (qt_extract rfl rfl rfl) ?_
   refine gv (qt_extract rfl rfl rfl) ?_
   refine gas ?_
   refine gas ?_
   refine gnt (hK24 _ _ ?_)
   refine gc_seq fun K25 hK25 => ?_
   refine gc_sr fun K26 hK26 => ?_
   refine gm ?_
   refine gm ?_
   refine gv (qt_neB rfl rfl rfl Try.underlying4) ?_
   refine gm ?_
   refine gvh (qt_move rfl rfl) ?_
   refine gvh (qt_move rfl rfl) ?_
   refine gvh (qt_neq_f rfl rfl rfl (fun h => h rfl)) ?_
   refine gv (qt_pick_f rfl rfl rfl) ?_
   refine gnt (hK26 _ _ ?_)
   refine gc_cond_f rfl ?_
   refine gc_skip ?_
   refine gk_then (hK25 _ _ ?_)
   refine gc_seq fun K27 hK27 => ?_
   refine gc_seq fun K28 hK28 => ?_
   try simp only [sL]
   refine ga_start _ (fun w M => M) ?_
   refine gav 0 rfl (qts Try.underlying27 (n := 4)) ?_
   refine gav 1 rfl (qts Try.underlying56 (n := 0)) ?_
   refine gao 2 fun K30 hK30 => ?_
   refine go_callC1 rfl rfl rfl Try.func45 rfl (by decide) rfl (fun w M => toC_any w _ _ (mem_rdC M R0)) ?_
   intro ca29 cb29 cc29 cd29 ce29 cf29 cg29 ch29
   refine hK30 _ _ (fun w M => (mem_take 6 M :)) ?_
   refine gao 3 fun K31 hK31 => ?_
   refine go_q rfl rfl (qt_call rfl Try.func47 rfl (by decide) rfl (fun w M => eqC_refl_any w _ _ _ ((mem_ownC (n := 3) M rfl).rd) ((mem_ownC (n := 6) M rfl).rd))) ?_
   refine hK31 _ _ (fun w M => (mem_take 6 M :)) ?_
   refine gav 4 rfl (qt_not rfl rfl) ?_
   refine ga_done (by kernel_rfl) ?_
   refine gk_then (hK28 _ _ ?_)
   refine gc_cond_f rfl ?_
   refine gc_skip ?_
   refine gk_then (hK27 _ _ ?_)
   refine gc_seq fun K32 hK32 => ?_
   refine gc_sr fun K33 hK33 => ?_
   refine gm ?_
   refine gm ?_
   refine gop fun K35 hK35 => ?_
   refine go_callL1 rfl rfl rfl Try.func51 rfl (by decide) rfl (fun w M => to_any w _ _ (mem_rd M R1)) ?_
   intro ca34 cb34 cc34
   refine hK35 _ _ ?_
   refine g_q (.free rfl) rfl rfl (qt_call rfl Try.func53 rfl (by decide) rfl (fun w M => eq_any w _ _ _ _ ((mem_own1 (n := 5) M rfl).rd) ((mem_own1 (n := 7) M rfl).rd))) ?_
   refine gv (qt_not rfl rfl) ?_
   refine gnt (hK33 _ _ ?_)
   refine gc_cond rfl (fun hc2 => ?_) (fun hc2 => ?_)
   ·try simp only [sA] at hc2
    first | (exfalso; omega) | exact absurd rfl hc2 | (simp at hc2)
   ·try simp only [sA] at hc2
    refine gc_skip ?_
    refine gk_then (hK32 _ _ ?_)
    refine gc_sr fun K36 hK36 => ?_
    refine gas ?_
    refine gnt (hK36 _ _ ?_)
    refine gc_ret ?_
    refine ret_1 rfl rfl  (fun w M => ?_)
    exact ⟨rfl, M.1⟩

set_option maxHeartbeats 1000000 in
set_option maxRecDepth 100000 in
theorem big0 (w : World) (v0 : Value) (a0 : Cat) (v1 : Value) (a1 : List Int) (r0 : Bool) (r1 : Int) (h0 : InC w v0 a0) (h1 : In w v1 a1) (nl : ¬ (a1.length ≤ 1048576)) :
  Calls Try.prog 9 #[v0, v1] w (RetB w true) := by
 have I0 := h0
 obtain ⟨pa0, pb0, pc0, pd0, pe0, pf0, pg0, ph0, rfl⟩ := h0.form
 have mz0 := mz_le a0
 have I1 := h1
 obtain ⟨pa1, pb1, rfl⟩ := h1.form
 go_enter Try.func9, Try.ntmps9
 refine gc_enter (N := 56) rfl (look_cons (k := 0) rfl (look_cons (k := 1) rfl (look_nil _))) ?_
 refine gc_sr fun K1 hK1 => ?_
 refine gop fun K3 hK3 => ?_
 refine go_box rfl rfl rfl rfl rfl ?_
 intro B2
 refine hK3 _ _ ?_
 refine gas ?_
 refine gnt (hK1 _ _ ?_)
 refine gc_seq fun K4 hK4 => ?_
 refine gc_sr fun K5 hK5 => ?_
 refine gm ?_
 refine gv (qln (fun w M => ⟨_, _, rfl⟩)) ?_
 refine gv (qt_gtr rfl rfl rfl) ?_
 refine gnt (hK5 _ _ ?_)
 refine gc_cond rfl (fun hc0 => ?_) (fun hc0 => ?_)
 ·try simp only [sA] at hc0
  refine gc_sr fun K6 hK6 => ?_
  refine gas ?_
  refine gnt (hK6 _ _ ?_)
  refine gc_ret ?_
  refine gk_then_ret ?_
  refine ret_1 rfl rfl  (fun w M => ?_)
  exact ⟨rfl, M.1⟩
 ·try simp only [sA] at hc0
  first | (exfalso; omega) | exact absurd rfl hc0 | (simp at hc0)

set_option maxHeartbeats 1000000 in
set_option maxRecDepth 100000 in
theorem big1 (w : World) (v0 : Value) (a0 : Cat) (v1 : Value) (a1 : List Int) (r0 : Bool) (r1 : Int) (h0 : InC w v0 a0) (h1 : In w v1 a1) (l1 : a1.length ≤ 1048576) (nl : ¬ (szM a0 ≤ 1048576)) :
  Calls Try.prog 9 #[v0, v1] w (RetB w true) := by
 have I0 := h0
 obtain ⟨pa0, pb0, pc0, pd0, pe0, pf0, pg0, ph0, rfl⟩ := h0.form
 have mz0 := mz_le a0
 have I1 := h1
 obtain ⟨pa1, pb1, rfl⟩ := h1.form
 go_enter Try.func9, Try.ntmps9
 refine gc_enter (N := 56) rfl (look_cons (k := 0) rfl (look_cons (k := 1) rfl (look_nil _))) ?_
 refine gc_sr fun K1 hK1 => ?_
 refine gop fun K3 hK3 => ?_
 refine go_box rfl rfl rfl rfl rfl ?_
 intro B2
 refine hK3 _ _ ?_
 refine gas ?_
 refine gnt (hK1 _ _ ?_)
 refine gc_seq fun K4 hK4 => ?_
 refine gc_sr fun K5 hK5 => ?_
 refine gm ?_
 refine gv (qln (fun w M => ⟨_, _, rfl⟩)) ?_
 refine gv (qt_gtr rfl rfl rfl) ?_
 refine gnt (hK5 _ _ ?_)
 refine gc_cond rfl (fun hc0 => ?_) (fun hc0 => ?_)
 ·try simp only [sA] at hc0
  first | (exfalso; omega) | exact absurd rfl hc0 | (simp at hc0)
 ·try simp only [sA] at hc0
  refine gc_skip ?_
  refine gk_then (hK4 _ _ ?_)
  refine gc_sr fun K6 hK6 => ?_
  refine gas ?_
  refine gnt (hK6 _ _ ?_)
  refine gc_sr fun K7 hK7 => ?_
  refine gv (qts Try.underlying56 (n := 0)) ?_
  refine gm ?_
  refine g_q (.free rfl) rfl rfl (qt_call rfl Try.func43 rfl (by decide) rfl (fun w M => szC_gt w _ _ _ (inC_below M.1 I0) (by first | assumption | omega) (by first | assumption | omega) (by first | assumption | omega))) ?_
  refine gas ?_
  refine gnt (hK7 _ _ ?_)
  refine gc_seq fun K8 hK8 => ?_
  refine gc_sr fun K9 hK9 => ?_
  refine gm ?_
  refine gv (qt_lss_t rfl rfl rfl (by decide)) ?_
  refine gnt (hK9 _ _ ?_)
  refine gc_cond_t rfl ?_
  refine gc_sr fun K10 hK10 => ?_
  refine gas ?_
  refine gnt (hK10 _ _ ?_)
  refine gc_ret ?_
  refine gk_then_ret ?_
  refine ret_1 rfl rfl  (fun w M => ?_)
  exact ⟨rfl, M.1⟩
end Go.Proofs.Ytpfcfhjpgngneac.exactIsCongruence
