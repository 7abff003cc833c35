
/- The walks of the exact law of ImageArrows: its model and its program do the same, in memory of their own. Written by wip/tools/genlaw.py. -/
import Derived.Test.YtpfcfhjpgngneaaShort
import Derived.Test.YtpfcfhjpgngneaaBase
import Derived.Test.YtpfcfhjpgngneaaLawC
import Derived.Test.YtpfcfhjpgngneaaRul4
import Derived.Test.YtpfcfhjpgngneaaFunL
import Derived.Test.YtpfcfhjpgngneaaImF
set_option linter.unusedSimpArgs false
set_option linter.unusedVariables false
set_option linter.unusedSectionVars false
namespace Go.Proofs.Ytpfcfhjpgngneaa.exactImageArrows
open Go.ChangeShapes Go.WideShapes Go.ChangeAt Go.RowKit
set_option maxHeartbeats 4000000 in
set_option maxRecDepth 100000 in
theorem main (w : World) (v0 : Value) (a0 : Fct) (r0 : List Int) (r1 : Int) (h0 : InF w v0 a0) (l0 : szFn a0 ≤ 1048576) (hspec : (∀ (w : World) (v0 : Value), RdF w v0 a0 → Calls Try.prog 42 #[v0] w (RetLI w r0 r1))) (himpl : (∀ (w : World) (v0 : Value), RdF w v0 a0 → Calls Try.prog 43 #[v0] w (RetLI w r0 r1))) :
  Calls Try.prog 12 #[v0] w (RetB w true) := by
 have R0 := h0.rd (by omega)
 have mz0 := mzF_le a0
 have I0 := h0
 obtain ⟨px1_0, px2_0, px3_0, px4_0, px5_0, px6_0, px7_0, px8_0, px9_0, px10_0, pk1_0, pk2_0, pk3_0, pk4_0, pk5_0, pk6_0, pk7_0, pk8_0, pk9_0, pk10_0, rfl, _⟩ := h0.form
 go_enter Try.func12, Try.ntmps12
 refine gc_enter (N := 96) rfl (look_cons (k := 0) rfl (look_nil _)) ?_
 refine gc_sr fun K1 hK1 => ?_
 refine gop fun K3 hK3 => ?_
 refine go_box rfl rfl rfl rfl rfl ?_
 intro B2
 refine hK3 _ _ ?_
 refine gas ?_
 refine gnt (hK1 _ _ ?_)
 refine gc_sr fun K4 hK4 => ?_
 refine gas ?_
 refine gnt (hK4 _ _ ?_)
 refine gc_sr fun K5 hK5 => ?_
 refine gv (qts Try.underlying27 (n := 0)) ?_
 refine gm ?_
 refine g_q (.free rfl) rfl rfl (qt_call rfl Try.func15 rfl (by decide) rfl (fun w M => szF_le w _ _ _ (inF_below M.1 I0) (by first | assumption | omega) (by first | assumption | omega) (by first | assumption | omega))) ?_
 refine gas ?_
 refine gnt (hK5 _ _ ?_)
 refine gc_seq fun K6 hK6 => ?_
 refine gc_sr fun K7 hK7 => ?_
 refine gm ?_
 refine gv (qt_lss rfl rfl rfl) ?_
 refine gnt (hK7 _ _ ?_)
 refine gc_cond rfl (fun hc0 => ?_) (fun hc0 => ?_)
 ·try simp only [sA] at hc0
  first | (exfalso; omega) | exact absurd rfl hc0 | (simp at hc0)
 ·try simp only [sA] at hc0
  refine gc_skip ?_
  refine gk_then (hK6 _ _ ?_)
  refine gc_sr fun K8 hK8 => ?_
  refine gv (qts Try.underlying27 (n := 0)) ?_
  refine gop fun K10 hK10 => ?_
  refine go_callFn1 rfl rfl rfl Try.func17 rfl (by decide) rfl (fun w M => toF_any w _ _ (mem_rdF M R0)) ?_
  intro fx1_9 fk1_9 fx2_9 fk2_9 fx3_9 fk3_9 fx4_9 fk4_9 fx5_9 fk5_9 fx6_9 fk6_9 fx7_9 fk7_9 fx8_9 fk8_9 fx9_9 fk9_9 fx10_9 fk10_9
  refine hK10 _ _ ?_
  refine gop fun K12 hK12 => ?_
  refine go_callLI1 rfl rfl rfl Try.func42 rfl (by decide) rfl (fun w M => hspec w _ ((mem_ownF (n := 1) M rfl).rd)) ?_
  intro ca11 cb11 cc11
  refine hK12 _ _ ?_
  refine gm ?_
  refine gv (qt_extract rfl rfl rfl) ?_
  refine gv (qt_extract rfl rfl rfl) ?_
  refine gas ?_
  refine gas ?_
  refine gnt (hK8 _ _ ?_)
  refine gc_sr fun K13 hK13 => ?_
  refine gv (qts Try.underlying27 (n := 0)) ?_
  refine gop fun K15 hK15 => ?_
  refine go_callFn1 rfl rfl rfl Try.func17 rfl (by decide) rfl (fun w M => toF_any w _ _ (mem_rdF M R0)) ?_
  intro fx1_14 fk1_14 fx2_14 fk2_14 fx3_14 fk3_14 fx4_14 fk4_14 fx5_14 fk5_14 fx6_14 fk6_14 fx7_14 fk7_14 fx8_14 fk8_14 fx9_14 fk9_14 fx10_14 fk10_14
  refine hK15 _ _ ?_
  refine gop fun K17 hK17 => ?_
  refine go_alloc (z := (.agg #[.int .i64 0, .slice none 0 0, .slice none 0 0, .slice none 0 0, .slice none 0 0, .int .i64 0, .slice none 0 0, .slice none 0 0, .slice none 0 0, .slice none 0 0, .slice none 0 0, .slice none 0 0])) (cs := [.int .i64 0, .slice none 0 0, .slice none 0 0, .slice none 0 0, .slice none 0 0, .int .i64 0, .slice none 0 0, .slice none 0 0, .slice none 0 0, .slice none 0 0, .slice none 0 0, .slice none 0 0]) rfl rfl rfl (fun w => by kernel_rfl) rfl ?_
  intro B16
  refine hK17 _ _ ?_
  refine gop fun K18 hK18 => ?_
  refine go_storeS (n := 4) rfl rfl rfl rfl (by kernel_rfl) rfl rfl rfl ?_
  refine hK18 _ _ ?_
  refine gnt (hK13 _ _ ?_)
  refine gc_sr fun K19 hK19 => ?_
  refine gv (qts Try.underlying32 (n := 4)) ?_
  refine gop fun K21 hK21 => ?_
  refine go_callLI1 rfl rfl rfl Try.func43 rfl (by decide) rfl (fun w M => himpl w _ ((mem_ownF (n := 3) M rfl).rd)) ?_
  intro ca20 cb20 cc20
  refine hK21 _ _ ?_
  refine gm ?_
  refine gv (qt_extract rfl rfl rfl) ?_
  refine gv (qt_extract rfl rfl rfl) ?_
  refine gas ?_
  refine gas ?_
  refine gnt (hK19 _ _ ?_)
  refine gc_seq fun K22 hK22 => ?_
  refine gc_sr fun K23 hK23 => ?_
  refine gm ?_
  refine gm ?_
  refine g_q (.free rfl) rfl rfl (qt_call rfl Try.func44 rfl (by decide) rfl (fun w M => eq_any w _ _ _ _ ((mem_own1 (n := 5) M rfl).rd) ((mem_own1 (n := 2) M rfl).rd))) ?_
  refine gv (qt_not rfl rfl) ?_
  refine g_splitv (.free rfl) rfl rfl (qt_move rfl rfl) (fun hs8_4 => ?_) (fun hs8_4 => ?_)
  ·try simp only [sA] at hs8_4
   first | (exfalso; omega) | exact absurd rfl hs8_4 | (simp at hs8_4)
  ·try simp only [sA] at hs8_4
   refine gvh (qt_move rfl rfl) ?_
   refine gvh (qt_move rfl rfl) ?_
   refine gvh (qt_neq_f rfl rfl rfl (fun h => h rfl)) ?_
   refine gv (qt_pick_f rfl rfl rfl) ?_
   refine gnt (hK23 _ _ ?_)
   refine gc_cond_f rfl ?_
   refine gc_skip ?_
   refine gk_then (hK22 _ _ ?_)
   refine gc_seq fun K24 hK24 => ?_
   refine gc_seq fun K25 hK25 => ?_
   try simp only [sL]
   refine ga_start _ (fun w M => M) ?_
   refine gav 0 rfl (qts Try.underlying32 (n := 4)) ?_
   refine gav 1 rfl (qts Try.underlying27 (n := 0)) ?_
   refine gao 2 fun K27 hK27 => ?_
   refine go_callFn1 rfl rfl rfl Try.func17 rfl (by decide) rfl (fun w M => toF_any w _ _ (mem_rdF M R0)) ?_
   intro fx1_26 fk1_26 fx2_26 fk2_26 fx3_26 fk3_26 fx4_26 fk4_26 fx5_26 fk5_26 fx6_26 fk6_26 fx7_26 fk7_26 fx8_26 fk8_26 fx9_26 fk9_26 fx10_26 fk10_26
   refine hK27 _ _ (fun w M => (mem_take 6 M :)) ?_
   refine gao 3 fun K28 hK28 => ?_
   refine go_q rfl rfl (qt_call rfl Try.func19 rfl (by decide) rfl (fun w M => eqF_refl_any w _ _ _ ((mem_ownF (n := 3) M rfl).rd) ((mem_ownF (n := 6) M rfl).rd))) ?_
   refine hK28 _ _ (fun w M => (mem_take 6 M :)) ?_
   refine gav 4 rfl (qt_not rfl rfl) ?_
   refine ga_done (by kernel_rfl) ?_
   refine gk_then (hK25 _ _ ?_)
   refine gc_cond_f rfl ?_
   refine gc_skip ?_
   refine gk_then (hK24 _ _ ?_)
   refine gc_sr fun K29 hK29 => ?_
   refine gas ?_
   refine gnt (hK29 _ _ ?_)
   refine gc_sr fun K30 hK30 => ?_
   refine gv (qts Try.underlying32 (n := 4)) ?_
   refine gm ?_
   refine gop fun K31 hK31 => ?_
   refine go_one (n := 3) rfl rfl rfl Try.func26 rfl (by decide) rfl rfl (fun R w M => markF1_any _ w R _ _ _ _ _ _ _ _ _ _ _ _ (by omega) (by omega) M) ?_
   refine hK31 _ _ ?_
   refine gas ?_
   refine gnt (hK30 _ _ ?_)
   refine gc_seq fun K32 hK32 => ?_
   refine gc_sr fun K33 hK33 => ?_
   refine gm ?_
   refine gv (qt_lss rfl rfl rfl) ?_
   refine g_splitv (.free rfl) rfl rfl (qt_move rfl rfl) (fun hs14_2 => ?_) (fun hs14_2 => ?_)
   ·try simp only [sA] at hs14_2
    first | (exfalso; omega) | exact absurd rfl hs14_2 | (simp at hs14_2)
   ·try simp only [sA] at hs14_2
    refine gvh (qt_move rfl rfl) ?_
    refine gvh (qt_move rfl rfl) ?_
    refine g_q (.held _ _ _ rfl rfl rfl) rfl rfl (qt_call rfl Try.func44 rfl (by decide) rfl (fun w M => eq_any w _ _ _ _ ((mem_own1 (n := 5) M rfl).rd) ((mem_own1 (n := 2) M rfl).rd))) ?_
    refine gvh (qt_not rfl rfl) ?_
    refine gv (qt_pick_f rfl rfl rfl) ?_
    refine g_splitv (.free rfl) rfl rfl (qt_move rfl rfl) (fun hs14_8 => ?_) (fun hs14_8 => ?_)
    ·try simp only [sA] at hs14_8
     first | (exfalso; omega) | exact absurd rfl hs14_8 | (simp at hs14_8)
    ·try simp only [sA] at hs14_8
     refine gvh (qt_move rfl rfl) ?_
     refine gvh (qt_move rfl rfl) ?_
     refine gvh (qt_neq_f rfl rfl rfl (fun h => h rfl)) ?_
     refine gv (qt_pick_f rfl rfl rfl) ?_
     refine gnt (hK33 _ _ ?_)
     refine gc_cond_f rfl ?_
     refine gc_skip ?_
     refine gk_then (hK32 _ _ ?_)
     refine gc_sr fun K34 hK34 => ?_
     refine gas ?_
     refine gnt (hK34 _ _ ?_)
     refine gc_sr fun K35 hK35 => ?_
     refine gm ?_
     refine gm ?_
     refine gop fun K36 hK36 => ?_
     refine go_mark (own1I _ (upTo _ _)) (n := 5) rfl rfl rfl Try.func45 rfl (by decide) rfl rfl (fun w S hS => markS_any w S _ _ _ hS (by omega) (by omega)) ?_
     refine hK36 _ _ ?_
     refine gas ?_
     refine gnt (hK35 _ _ ?_)
     refine gc_sr fun K37 hK37 => ?_
     refine gas ?_
     refine gnt (hK37 _ _ ?_)
     refine gc_sr fun K38 hK38 => ?_
     refine gm ?_
     refine gm ?_
     refine g_q (.free rfl) rfl rfl (qt_call rfl Try.func46 rfl (by decide) rfl (fun w M => held_any w _ _ _ ((mem_own1 (n := 5) M rfl).rd) (by first | assumption | omega) (by first | assumption | omega))) ?_
     refine gas ?_
     refine gnt (hK38 _ _ ?_)
     refine gc_seq fun K39 hK39 => ?_
     refine gc_sr fun K40 hK40 => ?_
     refine gm ?_
     refine gv (qt_lss rfl rfl rfl) ?_
     refine gnt (hK40 _ _ ?_)
     refine gc_cond rfl (fun hc1 => ?_) (fun hc1 => ?_)
     ·try simp only [sA] at hc1
      first | (exfalso; omega) | exact absurd rfl hc1 | (simp at hc1)
     ·try simp only [sA] at hc1
      refine gc_skip ?_
      refine gk_then (hK39 _ _ ?_)
      refine gc_seq fun K41 hK41 => ?_
      refine gc_sr fun K42 hK42 => ?_
      refine gm ?_
      refine gm ?_
      refine gv (qt_neq rfl rfl rfl) ?_
      refine gnt (hK42 _ _ ?_)
      refine gc_cond rfl (fun hc2 => ?_) (fun hc2 => ?_)
      ·try simp only [sA] at hc2
       first | (exfalso; omega) | exact absurd rfl hc2 | (simp at hc2)
      ·try simp only [sA] at hc2
       refine gc_skip ?_
       refine gk_then (hK41 _ _ ?_)
       refine gc_sr fun K43 hK43 => ?_
       refine gv (qts Try.underlying27 (n := 0)) ?_
       refine gop fun K45 hK45 => ?_
       refine go_callFn1 rfl rfl rfl Try.func17 rfl (by decide) rfl (fun w M => toF_any w _ _ (mem_rdF M R0)) ?_
       intro fx1_44 fk1_44 fx2_44 fk2_44 fx3_44 fk3_44 fx4_44 fk4_44 fx5_44 fk5_44 fx6_44 fk6_44 fx7_44 fk7_44 fx8_44 fk8_44 fx9_44 fk9_44 fx10_44 fk10_44
       refine hK45 _ _ ?_
       refine gop fun K47 hK47 => ?_
       refine go_callLI1 rfl rfl rfl Try.func43 rfl (by decide) rfl (fun w M => himpl w _ ((mem_ownF (n := 7) M rfl).rd)) ?_
       intro ca46 cb46 cc46
       refine hK47 _ _ ?_
       refine gm ?_
       refine gv (qt_extract rfl rfl rfl) ?_
       refine gv (qt_extract rfl rfl rfl) ?_
       refine gas ?_
       refine gas ?_
       refine gnt (hK43 _ _ ?_)
       refine gc_seq fun K48 hK48 => ?_
       refine gc_sr fun K49 hK49 => ?_
       refine gm ?_
       refine gm ?_
       refine g_q (.free rfl) rfl rfl (qt_call rfl Try.func44 rfl (by decide) rfl (fun w M => eq_any w _ _ _ _ ((mem_own1 (n := 8) M rfl).rd) ((mem_own1 (n := 2) M rfl).rd))) ?_
       refine gv (qt_not rfl rfl) ?_
       refine g_splitv (.free rfl) rfl rfl (qt_move rfl rfl) (fun hs25_4 => ?_) (fun hs25_4 => ?_)
       ·try simp only [sA] at hs25_4
        first | (exfalso; omega) | exact absurd rfl hs25_4 | (simp at hs25_4)
       ·try simp only [sA] at hs25_4
        refine gvh (qt_move rfl rfl) ?_
        refine gvh (qt_move rfl rfl) ?_
        refine gvh (qt_neq_f rfl rfl rfl (fun h => h rfl)) ?_
        refine gv (qt_pick_f rfl rfl rfl) ?_
        refine gnt (hK49 _ _ ?_)
        refine gc_cond_f rfl ?_
        refine gc_skip ?_
        refine gk_then (hK48 _ _ ?_)
        refine gc_sr fun K50 hK50 => ?_
        refine gas ?_
        refine gnt (hK50 _ _ ?_)
        refine gc_sr fun K51 hK51 => ?_
        refine gm ?_
        refine gm ?_
        refine g_q (.free rfl) rfl rfl (qt_call rfl Try.func46 rfl (by decide) rfl (fun w M => held_any w _ _ _ ((mem_own1 (n := 5) M rfl).rd) (by first | assumption | omega) (by first | assumption | omega))) ?_
        refine gas ?_
        refine gnt (hK51 _ _ ?_)
        refine gc_seq fun K52 hK52 => ?_
        refine gc_sr fun K53 hK53 => ?_
        refine gm ?_
        refine gv (qt_lss rfl rfl rfl) ?_
        refine gnt (hK53 _ _ ?_)
        refine gc_cond rfl (fun hc3 => ?_) (fun hc3 => ?_)
        ·try simp only [sA] at hc3
         first | (exfalso; omega) | exact absurd rfl hc3 | (simp at hc3)
        ·try simp only [sA] at hc3
         refine gc_skip ?_
         refine gk_then (hK52 _ _ ?_)
         refine gc_seq fun K54 hK54 => ?_
         refine gc_sr fun K55 hK55 => ?_
         refine gm ?_
         refine gm ?_
         refine gv (qt_neq rfl rfl rfl) ?_
         refine gnt (hK55 _ _ ?_)
         refine gc_cond rfl (fun hc4 => ?_) (fun hc4 => ?_)
         ·try simp only [sA] at hc4
          first | (exfalso; omega) | exact absurd rfl hc4 | (simp at hc4)
         ·try simp only [sA] at hc4
          refine gc_skip ?_
          refine gk_then (hK54 _ _ ?_)
          refine gc_sr fun K56 hK56 => ?_
          refine gas ?_
          refine gnt (hK56 _ _ ?_)
          refine gc_ret ?_
          refine ret_1 rfl rfl  (fun w M => ?_)
          exact ⟨rfl, M.1⟩

set_option maxHeartbeats 1000000 in
set_option maxRecDepth 100000 in
theorem big0 (w : World) (v0 : Value) (a0 : Fct) (r0 : List Int) (r1 : Int) (h0 : InF w v0 a0) (nl : ¬ (szFn a0 ≤ 1048576)) :
  Calls Try.prog 12 #[v0] w (RetB w true) := by
 have I0 := h0
 obtain ⟨px1_0, px2_0, px3_0, px4_0, px5_0, px6_0, px7_0, px8_0, px9_0, px10_0, pk1_0, pk2_0, pk3_0, pk4_0, pk5_0, pk6_0, pk7_0, pk8_0, pk9_0, pk10_0, rfl, _⟩ := h0.form
 go_enter Try.func12, Try.ntmps12
 refine gc_enter (N := 96) rfl (look_cons (k := 0) rfl (look_nil _)) ?_
 refine gc_sr fun K1 hK1 => ?_
 refine gop fun K3 hK3 => ?_
 refine go_box rfl rfl rfl rfl rfl ?_
 intro B2
 refine hK3 _ _ ?_
 refine gas ?_
 refine gnt (hK1 _ _ ?_)
 refine gc_sr fun K4 hK4 => ?_
 refine gas ?_
 refine gnt (hK4 _ _ ?_)
 refine gc_sr fun K5 hK5 => ?_
 refine gv (qts Try.underlying27 (n := 0)) ?_
 refine gm ?_
 refine g_q (.free rfl) rfl rfl (qt_call rfl Try.func15 rfl (by decide) rfl (fun w M => szF_gt w _ _ _ (inF_below M.1 I0) (by first | assumption | omega) (by first | assumption | omega) (by first | assumption | omega))) ?_
 refine gas ?_
 refine gnt (hK5 _ _ ?_)
 refine gc_seq fun K6 hK6 => ?_
 refine gc_sr fun K7 hK7 => ?_
 refine gm ?_
 refine gv (qt_lss_t rfl rfl rfl (by decide)) ?_
 refine gnt (hK7 _ _ ?_)
 refine gc_cond_t rfl ?_
 refine gc_sr fun K8 hK8 => ?_
 refine gas ?_
 refine gnt (hK8 _ _ ?_)
 refine gc_ret ?_
 refine gk_then_ret ?_
 refine ret_1 rfl rfl  (fun w M => ?_)
 exact ⟨rfl, M.1⟩
end Go.Proofs.Ytpfcfhjpgngneaa.exactImageArrows
