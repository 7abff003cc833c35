
/- The walks of the exact law of InclusionFunctor: its model and its program do the same, in memory of their own. Written by wip/tools/genlaw.py. -/
import Derived.Test.YtpfcfhjpgngneabShort
import Derived.Test.YtpfcfhjpgngneabBase
import Derived.Test.YtpfcfhjpgngneabLawC
import Derived.Test.YtpfcfhjpgngneabRul4
import Derived.Test.YtpfcfhjpgngneabFunL
import Derived.Test.YtpfcfhjpgngneabInF
set_option linter.unusedSimpArgs false
set_option linter.unusedVariables false
set_option linter.unusedSectionVars false
namespace Go.Proofs.Ytpfcfhjpgngneab.exactInclusionFunctor
open Go.ChangeShapes Go.WideShapes Go.ChangeAt Go.RowKit
set_option maxHeartbeats 4000000 in
set_option maxRecDepth 100000 in
theorem main (w : World) (v0 : Value) (a0 : Cat) (v1 : Value) (a1 : List Int) (r0 : Fct) (r1 : Int) (h0 : InC w v0 a0) (l0 : szM a0 ≤ 1048576) (h1 : In w v1 a1) (l1 : a1.length ≤ 1048576) (hr0 : mzF r0 ≤ 3500000000000000) (hspec : (∀ (w : World) (v0 : Value) (v1 : Value), RdC w v0 a0 → Rd w v1 a1 → Calls Try.prog 34 #[v0, v1] w (RetFI w r0 r1))) (himpl : (∀ (w : World) (v0 : Value) (v1 : Value), RdC w v0 a0 → Rd w v1 a1 → Calls Try.prog 36 #[v0, v1] w (RetFI w r0 r1))) :
  Calls Try.prog 8 #[v0, v1] w (RetB w true) := by
 have R0 := h0.rd (by omega)
 have I0 := h0
 obtain ⟨pa0, pb0, pc0, pd0, pe0, pf0, pg0, ph0, rfl⟩ := h0.form
 have mz0 := mz_le a0
 have R1 := h1.rd (by omega)
 have I1 := h1
 obtain ⟨pa1, pb1, rfl⟩ := h1.form
 go_enter Try.func8, Try.ntmps8
 refine gc_enter (N := 117) rfl (look_cons (k := 0) rfl (look_cons (k := 1) rfl (look_nil _))) ?_
 refine gc_sr fun K1 hK1 => ?_
 refine gop fun K3 hK3 => ?_
 refine go_box rfl rfl rfl rfl rfl ?_
 intro B2
 refine hK3 _ _ ?_
 refine gas ?_
 refine gnt (hK1 _ _ ?_)
 refine gc_seq fun K4 hK4 => ?_
 refine gc_sr fun K5 hK5 => ?_
 refine gm ?_
 refine gv (qln (fun w M => lenV_rd R1)) ?_
 refine gv (qt_gtr rfl rfl rfl) ?_
 refine gnt (hK5 _ _ ?_)
 refine gc_cond rfl (fun hc0 => ?_) (fun hc0 => ?_)
 ·try simp only [sA] at hc0
  first | (exfalso; omega) | exact absurd rfl hc0 | (simp at hc0)
 ·try simp only [sA] at hc0
  refine gc_skip ?_
  refine gk_then (hK4 _ _ ?_)
  refine gc_sr fun K6 hK6 => ?_
  refine gas ?_
  refine gnt (hK6 _ _ ?_)
  refine gc_sr fun K7 hK7 => ?_
  refine gv (qts Try.underlying25 (n := 0)) ?_
  refine gm ?_
  refine g_q (.free rfl) rfl rfl (qt_call rfl Try.func22 rfl (by decide) rfl (fun w M => szC_le w _ _ _ (inC_below M.1 I0) (by first | assumption | omega) (by first | assumption | omega) (by first | assumption | omega))) ?_
  refine gas ?_
  refine gnt (hK7 _ _ ?_)
  refine gc_seq fun K8 hK8 => ?_
  refine gc_sr fun K9 hK9 => ?_
  refine gm ?_
  refine gv (qt_lss rfl rfl rfl) ?_
  refine gnt (hK9 _ _ ?_)
  refine gc_cond rfl (fun hc1 => ?_) (fun hc1 => ?_)
  ·try simp only [sA] at hc1
   first | (exfalso; omega) | exact absurd rfl hc1 | (simp at hc1)
  ·try simp only [sA] at hc1
   refine gc_skip ?_
   refine gk_then (hK8 _ _ ?_)
   refine gc_sr fun K10 hK10 => ?_
   refine gv (qts Try.underlying25 (n := 0)) ?_
   refine gop fun K12 hK12 => ?_
   refine go_callC1 rfl rfl rfl Try.func24 rfl (by decide) rfl (fun w M => toC_any w _ _ (mem_rdC M R0)) ?_
   intro ca11 cb11 cc11 cd11 ce11 cf11 cg11 ch11
   refine hK12 _ _ ?_
   refine gm ?_
   refine gop fun K14 hK14 => ?_
   refine go_callL1 rfl rfl rfl Try.func35 rfl (by decide) rfl (fun w M => to_any w _ _ (mem_rd M R1)) ?_
   intro ca13 cb13 cc13
   refine hK14 _ _ ?_
   refine gop fun K16 hK16 => ?_
   refine go_callFI1 rfl rfl rfl Try.func34 rfl (by decide) rfl (fun w M => hspec w _ _ ((mem_ownC (n := 1) M rfl).rd) ((mem_own1 (n := 2) M rfl).rd)) ?_
   intro fx1_15 fk1_15 fx2_15 fk2_15 fx3_15 fk3_15 fx4_15 fk4_15 fx5_15 fk5_15 fx6_15 fk6_15 fx7_15 fk7_15 fx8_15 fk8_15 fx9_15 fk9_15 fx10_15 fk10_15
   refine hK16 _ _ ?_
   refine gm ?_
   refine gv (qt_extract rfl rfl rfl) ?_
   refine gv (qt_extract rfl rfl rfl) ?_
   refine gop fun K18 hK18 => ?_
   refine go_alloc (z := (.agg #[.int .i64 0, .slice none 0 0, .slice none 0 0, .slice none 0 0, .slice none 0 0, .int .i64 0, .slice none 0 0, .slice none 0 0, .slice none 0 0, .slice none 0 0, .slice none 0 0, .slice none 0 0])) (cs := [.int .i64 0, .slice none 0 0, .slice none 0 0, .slice none 0 0, .slice none 0 0, .int .i64 0, .slice none 0 0, .slice none 0 0, .slice none 0 0, .slice none 0 0, .slice none 0 0, .slice none 0 0]) rfl rfl rfl (fun w => by kernel_rfl) rfl ?_
   intro B17
   refine hK18 _ _ ?_
   refine gop fun K19 hK19 => ?_
   refine go_storeS (n := 4) rfl rfl rfl rfl (by kernel_rfl) rfl rfl rfl ?_
   refine hK19 _ _ ?_
   refine gas ?_
   refine gnt (hK10 _ _ ?_)
   refine gc_sr fun K20 hK20 => ?_
   refine gv (qts Try.underlying25 (n := 0)) ?_
   refine gop fun K22 hK22 => ?_
   refine go_callC1 rfl rfl rfl Try.func24 rfl (by decide) rfl (fun w M => toC_any w _ _ (mem_rdC M R0)) ?_
   intro ca21 cb21 cc21 cd21 ce21 cf21 cg21 ch21
   refine hK22 _ _ ?_
   refine gop fun K24 hK24 => ?_
   refine go_alloc (z := (.agg #[.int .i64 0, .slice none 0 0, .slice none 0 0, .slice none 0 0, .slice none 0 0])) (cs := [.int .i64 0, .slice none 0 0, .slice none 0 0, .slice none 0 0, .slice none 0 0]) rfl rfl rfl (fun w => by kernel_rfl) rfl ?_
   intro B23
   refine hK24 _ _ ?_
   refine gop fun K25 hK25 => ?_
   refine go_storeS (n := 6) rfl rfl rfl rfl (by kernel_rfl) rfl rfl rfl ?_
   refine hK25 _ _ ?_
   refine gnt (hK20 _ _ ?_)
   refine gc_sr fun K26 hK26 => ?_
   refine gm ?_
   refine gop fun K28 hK28 => ?_
   refine go_callL1 rfl rfl rfl Try.func35 rfl (by decide) rfl (fun w M => to_any w _ _ (mem_rd M R1)) ?_
   intro ca27 cb27 cc27
   refine hK28 _ _ ?_
   refine gas ?_
   refine gnt (hK26 _ _ ?_)
   refine gc_sr fun K29 hK29 => ?_
   refine gv (qts Try.underlying29 (n := 6)) ?_
   refine gm ?_
   refine gop fun K31 hK31 => ?_
   refine go_callFI1 rfl rfl rfl Try.func36 rfl (by decide) rfl (fun w M => himpl w _ _ ((mem_ownC (n := 5) M rfl).rd) ((mem_own1 (n := 7) M rfl).rd)) ?_
   intro fx1_30 fk1_30 fx2_30 fk2_30 fx3_30 fk3_30 fx4_30 fk4_30 fx5_30 fk5_30 fx6_30 fk6_30 fx7_30 fk7_30 fx8_30 fk8_30 fx9_30 fk9_30 fx10_30 fk10_30
   refine hK31 _ _ ?_
   refine gm ?_
   refine gv (qt_extract rfl rfl rfl) ?_
   refine gv (qt_extract rfl rfl rfl) ?_
   refine gop fun K33 hK33 => ?_
   refine go_alloc (z := (.agg #[.int .i64 0, .slice none 0 0, .slice none 0 0, .slice none 0 0, .slice none 0 0, .int .i64 0, .slice none 0 0, .slice none 0 0, .slice none 0 0, .slice none 0 0, .slice none 0 0, .slice none 0 0])) (cs := [.int .i64 0, .slice none 0 0, .slice none 0 0, .slice none 0 0, .slice none 0 0, .int .i64 0, .slice none 0 0, .slice none 0 0, .slice none 0 0, .slice none 0 0, .slice none 0 0, .slice none 0 0]) rfl rfl rfl (fun w => by kernel_rfl) rfl ?_
   intro B32
   refine hK33 _ _ ?_
   refine gop fun K34 hK34 => ?_
   refine go_storeS (n := 9) rfl rfl rfl rfl (by kernel_rfl) rfl rfl rfl ?_
   refine hK34 _ _ ?_
   refine gas ?_
   refine gnt (hK29 _ _ ?_)
   refine gc_seq fun K35 hK35 => ?_
   refine gc_sr fun K36 hK36 => ?_
   refine gv (qts Try.underlying31 (n := 9)) ?_
   refine gv (qts Try.underlying31 (n := 4)) ?_
   refine g_q (.free rfl) rfl rfl (qt_call rfl Try.func19 rfl (by decide) rfl (fun w M => eqF_refl_any w _ _ _ ((mem_ownF (n := 8) M rfl).rd) ((mem_ownF (n := 3) M rfl).rd))) ?_
   refine gv (qt_not rfl rfl) ?_
   refine gm ?_
   refine gvh (qt_move rfl rfl) ?_
   refine gvh (qt_move rfl rfl) ?_
   refine gvh (qt_neq_f rfl rfl rfl (fun h => h rfl)) ?_
   refine gv (qt_pick_f rfl rfl rfl) ?_
   refine gnt (hK36 _ _ ?_)
   refine gc_cond_f rfl ?_
   refine gc_skip ?_
   refine gk_then (hK35 _ _ ?_)
   refine gc_seq fun K37 hK37 => ?_
   refine gc_seq fun K38 hK38 => ?_
   try simp only [sL]
   refine ga_start _ (fun w M => M) ?_
   refine gav 0 rfl (qts Try.underlying29 (n := 6)) ?_
   refine gav 1 rfl (qts Try.underlying25 (n := 0)) ?_
   refine gao 2 fun K40 hK40 => ?_
   refine go_callC1 rfl rfl rfl Try.func24 rfl (by decide) rfl (fun w M => toC_any w _ _ (mem_rdC M R0)) ?_
   intro ca39 cb39 cc39 cd39 ce39 cf39 cg39 ch39
   refine hK40 _ _ (fun w M => (mem_take 10 M :)) ?_
   refine gao 3 fun K41 hK41 => ?_
   refine go_q rfl rfl (qt_call rfl Try.func26 rfl (by decide) rfl (fun w M => eqC_refl_any w _ _ _ ((mem_ownC (n := 5) M rfl).rd) ((mem_ownC (n := 10) M rfl).rd))) ?_
   refine hK41 _ _ (fun w M => (mem_take 10 M :)) ?_
   refine gav 4 rfl (qt_not rfl rfl) ?_
   refine ga_done (by kernel_rfl) ?_
   refine gk_then (hK38 _ _ ?_)
   refine gc_cond_f rfl ?_
   refine gc_skip ?_
   refine gk_then (hK37 _ _ ?_)
   refine gc_seq fun K42 hK42 => ?_
   refine gc_sr fun K43 hK43 => ?_
   refine gm ?_
   refine gm ?_
   refine gop fun K45 hK45 => ?_
   refine go_callL1 rfl rfl rfl Try.func35 rfl (by decide) rfl (fun w M => to_any w _ _ (mem_rd M R1)) ?_
   intro ca44 cb44 cc44
   refine hK45 _ _ ?_
   refine g_q (.free rfl) rfl rfl (qt_call rfl Try.func37 rfl (by decide) rfl (fun w M => eq_any w _ _ _ _ ((mem_own1 (n := 7) M rfl).rd) ((mem_own1 (n := 11) M rfl).rd))) ?_
   refine gv (qt_not rfl rfl) ?_
   refine gnt (hK43 _ _ ?_)
   refine gc_cond rfl (fun hc2 => ?_) (fun hc2 => ?_)
   ·try simp only [sA] at hc2
    first | (exfalso; omega) | exact absurd rfl hc2 | (simp at hc2)
   ·try simp only [sA] at hc2
    refine gc_skip ?_
    refine gk_then (hK42 _ _ ?_)
    refine gc_sr fun K46 hK46 => ?_
    refine gas ?_
    refine gnt (hK46 _ _ ?_)
    refine gc_sr fun K47 hK47 => ?_
    refine gv (qts Try.underlying29 (n := 6)) ?_
    refine gm ?_
    refine gop fun K48 hK48 => ?_
    refine go_mark (ownCI _ (mkC _ _)) (n := 5) rfl rfl rfl Try.func27 rfl (by decide) rfl rfl (fun w S hS => markC_any w S _ _ _ hS (by omega) (by omega)) ?_
    refine hK48 _ _ ?_
    refine gas ?_
    refine gnt (hK47 _ _ ?_)
    refine gc_sr fun K49 hK49 => ?_
    refine gm ?_
    refine gm ?_
    refine gop fun K50 hK50 => ?_
    refine go_mark (own1I _ (upTo _ _)) (n := 7) rfl rfl rfl Try.func38 rfl (by decide) rfl rfl (fun w S hS => markS_any w S _ _ _ hS (by omega) (by omega)) ?_
    refine hK50 _ _ ?_
    refine gas ?_
    refine gnt (hK49 _ _ ?_)
    refine gc_seq fun K51 hK51 => ?_
    refine gc_sr fun K52 hK52 => ?_
    refine gm ?_
    refine gv (qt_lss rfl rfl rfl) ?_
    refine g_splitv (.free rfl) rfl rfl (qt_move rfl rfl) (fun hs20_2 => ?_) (fun hs20_2 => ?_)
    ·try simp only [sA] at hs20_2
     first | (exfalso; omega) | exact absurd rfl hs20_2 | (simp at hs20_2)
    ·try simp only [sA] at hs20_2
     refine gvh (qts Try.underlying31 (n := 9)) ?_
     refine gvh (qts Try.underlying31 (n := 4)) ?_
     refine g_q (.held _ _ _ rfl rfl rfl) rfl rfl (qt_call rfl Try.func19 rfl (by decide) rfl (fun w M => eqF_refl_any w _ _ _ ((mem_ownF (n := 8) M rfl).rd) ((mem_ownF (n := 3) M rfl).rd))) ?_
     refine gvh (qt_not rfl rfl) ?_
     refine gv (qt_pick_f rfl rfl rfl) ?_
     refine gm ?_
     refine gvh (qt_move rfl rfl) ?_
     refine gvh (qt_move rfl rfl) ?_
     refine gvh (qt_neq_f rfl rfl rfl (fun h => h rfl)) ?_
     refine gv (qt_pick_f rfl rfl rfl) ?_
     refine gnt (hK52 _ _ ?_)
     refine gc_cond_f rfl ?_
     refine gc_skip ?_
     refine gk_then (hK51 _ _ ?_)
     refine gc_sr fun K53 hK53 => ?_
     refine gas ?_
     refine gnt (hK53 _ _ ?_)
     refine gc_sr fun K54 hK54 => ?_
     refine gv (qts Try.underlying31 (n := 9)) ?_
     refine gm ?_
     refine gop fun K55 hK55 => ?_
     refine go_one (n := 8) rfl rfl rfl Try.func20 rfl (by decide) rfl rfl (fun R w M => markF1_any _ w R _ _ _ _ _ _ _ _ _ _ _ _ (by omega) (by omega) M) ?_
     refine hK55 _ _ ?_
     refine gas ?_
     refine gnt (hK54 _ _ ?_)
     refine gc_sr fun K56 hK56 => ?_
     refine gas ?_
     refine gnt (hK56 _ _ ?_)
     refine gc_sr fun K57 hK57 => ?_
     refine gv (qts Try.underlying31 (n := 9)) ?_
     refine gm ?_
     refine g_q (.free rfl) rfl rfl (qt_call rfl Try.func21 rfl (by decide) rfl (fun w M => heldF_any w _ _ _ ((mem_ownF (n := 8) M rfl).rd) (by first | assumption | omega) (by first | assumption | omega))) ?_
     refine gas ?_
     refine gnt (hK57 _ _ ?_)
     refine gc_seq fun K58 hK58 => ?_
     refine gc_sr fun K59 hK59 => ?_
     refine gm ?_
     refine gv (qt_lss rfl rfl rfl) ?_
     refine gnt (hK59 _ _ ?_)
     refine gc_cond rfl (fun hc3 => ?_) (fun hc3 => ?_)
     ·try simp only [sA] at hc3
      first | (exfalso; omega) | exact absurd rfl hc3 | (simp at hc3)
     ·try simp only [sA] at hc3
      refine gc_skip ?_
      refine gk_then (hK58 _ _ ?_)
      refine gc_seq fun K60 hK60 => ?_
      refine gc_sr fun K61 hK61 => ?_
      refine gm ?_
      refine gm ?_
      refine gv (qt_neq rfl rfl rfl) ?_
      refine gnt (hK61 _ _ ?_)
      refine gc_cond rfl (fun hc4 => ?_) (fun hc4 => ?_)
      ·try simp only [sA] at hc4
       first | (exfalso; omega) | exact absurd rfl hc4 | (simp at hc4)
      ·try simp only [sA] at hc4
       refine gc_skip ?_
       refine gk_then (hK60 _ _ ?_)
       refine gc_sr fun K62 hK62 => ?_
       refine gv (qts Try.underlying25 (n := 0)) ?_
       refine gop fun K64 hK64 => ?_
       refine go_callC1 rfl rfl rfl Try.func24 rfl (by decide) rfl (fun w M => toC_any w _ _ (mem_rdC M R0)) ?_
       intro ca63 cb63 cc63 cd63 ce63 cf63 cg63 ch63
       refine hK64 _ _ ?_
       refine gm ?_
       refine gop fun K66 hK66 => ?_
       refine go_callL1 rfl rfl rfl Try.func35 rfl (by decide) rfl (fun w M => to_any w _ _ (mem_rd M R1)) ?_
       intro ca65 cb65 cc65
       refine hK66 _ _ ?_
       refine gop fun K68 hK68 => ?_
       refine go_callFI1 rfl rfl rfl Try.func36 rfl (by decide) rfl (fun w M => himpl w _ _ ((mem_ownC (n := 12) M rfl).rd) ((mem_own1 (n := 13) M rfl).rd)) ?_
       intro fx1_67 fk1_67 fx2_67 fk2_67 fx3_67 fk3_67 fx4_67 fk4_67 fx5_67 fk5_67 fx6_67 fk6_67 fx7_67 fk7_67 fx8_67 fk8_67 fx9_67 fk9_67 fx10_67 fk10_67
       refine hK68 _ _ ?_
       refine gm ?_
       refine gv (qt_extract rfl rfl rfl) ?_
       refine gv (qt_extract rfl rfl rfl) ?_
       refine gop fun K70 hK70 => ?_
       refine go_alloc (z := (.agg #[.int .i64 0, .slice none 0 0, .slice none 0 0, .slice none 0 0, .slice none 0 0, .int .i64 0, .slice none 0 0, .slice none 0 0, .slice none 0 0, .slice none 0 0, .slice none 0 0, .slice none 0 0])) (cs := [.int .i64 0, .slice none 0 0, .slice none 0 0, .slice none 0 0, .slice none 0 0, .int .i64 0, .slice none 0 0, .slice none 0 0, .slice none 0 0, .slice none 0 0, .slice none 0 0, .slice none 0 0]) rfl rfl rfl (fun w => by kernel_rfl) rfl ?_
       intro B69
       refine hK70 _ _ ?_
       refine gop fun K71 hK71 => ?_
       refine go_storeS (n := 15) rfl rfl rfl rfl (by kernel_rfl) rfl rfl rfl ?_
       refine hK71 _ _ ?_
       refine gas ?_
       refine gnt (hK62 _ _ ?_)
       refine gc_seq fun K72 hK72 => ?_
       refine gc_sr fun K73 hK73 => ?_
       refine gv (qts Try.underlying31 (n := 15)) ?_
       refine gv (qts Try.underlying31 (n := 4)) ?_
       refine g_q (.free rfl) rfl rfl (qt_call rfl Try.func19 rfl (by decide) rfl (fun w M => eqF_refl_any w _ _ _ ((mem_ownF (n := 14) M rfl).rd) ((mem_ownF (n := 3) M rfl).rd))) ?_
       refine gv (qt_not rfl rfl) ?_
       refine gm ?_
       refine gvh (qt_move rfl rfl) ?_
       refine gvh (qt_move rfl rfl) ?_
       refine gvh (qt_neq_f rfl rfl rfl (fun h => h rfl)) ?_
       refine gv (qt_pick_f rfl rfl rfl) ?_
       refine gnt (hK73 _ _ ?_)
       refine gc_cond_f rfl ?_
       refine gc_skip ?_
       refine gk_then (hK72 _ _ ?_)
       refine gc_sr fun K74 hK74 => ?_
       refine gas ?_
       refine gnt (hK74 _ _ ?_)
       refine gc_sr fun K75 hK75 => ?_
       refine gv (qts Try.underlying31 (n := 9)) ?_
       refine gm ?_
       refine g_q (.free rfl) rfl rfl (qt_call rfl Try.func21 rfl (by decide) rfl (fun w M => heldF_any w _ _ _ ((mem_ownF (n := 8) M rfl).rd) (by first | assumption | omega) (by first | assumption | omega))) ?_
       refine gas ?_
       refine gnt (hK75 _ _ ?_)
       refine gc_seq fun K76 hK76 => ?_
       refine gc_sr fun K77 hK77 => ?_
       refine gm ?_
       refine gv (qt_lss rfl rfl rfl) ?_
       refine gnt (hK77 _ _ ?_)
       refine gc_cond rfl (fun hc5 => ?_) (fun hc5 => ?_)
       ·try simp only [sA] at hc5
        first | (exfalso; omega) | exact absurd rfl hc5 | (simp at hc5)
       ·try simp only [sA] at hc5
        refine gc_skip ?_
        refine gk_then (hK76 _ _ ?_)
        refine gc_seq fun K78 hK78 => ?_
        refine gc_sr fun K79 hK79 => ?_
        refine gm ?_
        refine gm ?_
        refine gv (qt_neq rfl rfl rfl) ?_
        refine gnt (hK79 _ _ ?_)
        refine gc_cond rfl (fun hc6 => ?_) (fun hc6 => ?_)
        ·try simp only [sA] at hc6
         first | (exfalso; omega) | exact absurd rfl hc6 | (simp at hc6)
        ·try simp only [sA] at hc6
         refine gc_skip ?_
         refine gk_then (hK78 _ _ ?_)
         refine gc_sr fun K80 hK80 => ?_
         refine gas ?_
         refine gnt (hK80 _ _ ?_)
         refine gc_ret ?_
         refine ret_1 rfl rfl  (fun w M => ?_)
         exact ⟨rfl, M.1⟩

set_option maxHeartbeats 1000000 in
set_option maxRecDepth 100000 in
theorem big0 (w : World) (v0 : Value) (a0 : Cat) (v1 : Value) (a1 : List Int) (r0 : Fct) (r1 : Int) (h0 : InC w v0 a0) (h1 : In w v1 a1) (nl : ¬ (a1.length ≤ 1048576)) :
  Calls Try.prog 8 #[v0, v1] w (RetB w true) := by
 have I0 := h0
 obtain ⟨pa0, pb0, pc0, pd0, pe0, pf0, pg0, ph0, rfl⟩ := h0.form
 have mz0 := mz_le a0
 have I1 := h1
 obtain ⟨pa1, pb1, rfl⟩ := h1.form
 go_enter Try.func8, Try.ntmps8
 refine gc_enter (N := 117) rfl (look_cons (k := 0) rfl (look_cons (k := 1) rfl (look_nil _))) ?_
 refine gc_sr fun K1 hK1 => ?_
 refine gop fun K3 hK3 => ?_
 refine go_box rfl rfl rfl rfl rfl ?_
 intro B2
 refine hK3 _ _ ?_
 refine gas ?_
 refine gnt (hK1 _ _ ?_)
 refine gc_seq fun K4 hK4 => ?_
 refine gc_sr fun K5 hK5 => ?_
 refine gm ?_
 refine gv (qln (fun w M => ⟨_, _, rfl⟩)) ?_
 refine gv (qt_gtr rfl rfl rfl) ?_
 refine gnt (hK5 _ _ ?_)
 refine gc_cond rfl (fun hc0 => ?_) (fun hc0 => ?_)
 ·try simp only [sA] at hc0
  refine gc_sr fun K6 hK6 => ?_
  refine gas ?_
  refine gnt (hK6 _ _ ?_)
  refine gc_ret ?_
  refine gk_then_ret ?_
  refine ret_1 rfl rfl  (fun w M => ?_)
  exact ⟨rfl, M.1⟩
 ·try simp only [sA] at hc0
  first | (exfalso; omega) | exact absurd rfl hc0 | (simp at hc0)

set_option maxHeartbeats 1000000 in
set_option maxRecDepth 100000 in
theorem big1 (w : World) (v0 : Value) (a0 : Cat) (v1 : Value) (a1 : List Int) (r0 : Fct) (r1 : Int) (h0 : InC w v0 a0) (h1 : In w v1 a1) (l1 : a1.length ≤ 1048576) (nl : ¬ (szM a0 ≤ 1048576)) :
  Calls Try.prog 8 #[v0, v1] w (RetB w true) := by
 have I0 := h0
 obtain ⟨pa0, pb0, pc0, pd0, pe0, pf0, pg0, ph0, rfl⟩ := h0.form
 have mz0 := mz_le a0
 have I1 := h1
 obtain ⟨pa1, pb1, rfl⟩ := h1.form
 go_enter Try.func8, Try.ntmps8
 refine gc_enter (N := 117) rfl (look_cons (k := 0) rfl (look_cons (k := 1) rfl (look_nil _))) ?_
 refine gc_sr fun K1 hK1 => ?_
 refine gop fun K3 hK3 => ?_
 refine go_box rfl rfl rfl rfl rfl ?_
 intro B2
 refine hK3 _ _ ?_
 refine gas ?_
 refine gnt (hK1 _ _ ?_)
 refine gc_seq fun K4 hK4 => ?_
 refine gc_sr fun K5 hK5 => ?_
 refine gm ?_
 refine gv (qln (fun w M => ⟨_, _, rfl⟩)) ?_
 refine gv (qt_gtr rfl rfl rfl) ?_
 refine gnt (hK5 _ _ ?_)
 refine gc_cond rfl (fun hc0 => ?_) (fun hc0 => ?_)
 ·try simp only [sA] at hc0
  first | (exfalso; omega) | exact absurd rfl hc0 | (simp at hc0)
 ·try simp only [sA] at hc0
  refine gc_skip ?_
  refine gk_then (hK4 _ _ ?_)
  refine gc_sr fun K6 hK6 => ?_
  refine gas ?_
  refine gnt (hK6 _ _ ?_)
  refine gc_sr fun K7 hK7 => ?_
  refine gv (qts Try.underlying25 (n := 0)) ?_
  refine gm ?_
  refine g_q (.free rfl) rfl rfl (qt_call rfl Try.func22 rfl (by decide) rfl (fun w M => szC_gt w _ _ _ (inC_below M.1 I0) (by first | assumption | omega) (by first | assumption | omega) (by first | assumption | omega))) ?_
  refine gas ?_
  refine gnt (hK7 _ _ ?_)
  refine gc_seq fun K8 hK8 => ?_
  refine gc_sr fun K9 hK9 => ?_
  refine gm ?_
  refine gv (qt_lss_t rfl rfl rfl (by decide)) ?_
  refine gnt (hK9 _ _ ?_)
  refine gc_cond_t rfl ?_
  refine gc_sr fun K10 hK10 => ?_
  refine gas ?_
  refine gnt (hK10 _ _ ?_)
  refine gc_ret ?_
  refine gk_then_ret ?_
  refine ret_1 rfl rfl  (fun w M => ?_)
  exact ⟨rfl, M.1⟩
end Go.Proofs.Ytpfcfhjpgngneab.exactInclusionFunctor
