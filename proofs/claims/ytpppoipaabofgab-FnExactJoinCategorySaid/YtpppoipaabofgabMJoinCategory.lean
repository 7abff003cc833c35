
/- The walks of the exact law of JoinCategory: its model and its program do the same, in memory of their own. Written by wip/tools/genlaw.py. -/
import Derived.Test.YtpppoipaabofgabShort
import Derived.Test.YtpppoipaabofgabBase
import Derived.Test.YtpppoipaabofgabLawC
import Derived.Test.YtpppoipaabofgabRul4
import Derived.Test.YtpppoipaabofgabJoinI
set_option linter.unusedSimpArgs false
set_option linter.unusedVariables false
set_option linter.unusedSectionVars false
namespace Go.Proofs.Ytpppoipaabofgab.exactJoinCategory
open Go.ChangeShapes Go.WideShapes Go.ChangeAt Go.RowKit
set_option maxHeartbeats 4000000 in
set_option maxRecDepth 100000 in
theorem main (w : World) (v0 : Value) (a0 : Cat) (v1 : Value) (a1 : Cat) (r0 : Cat) (r1 : Int) (h0 : InC w v0 a0) (l0 : szM a0 ≤ 1048576) (h1 : InC w v1 a1) (l1 : szM a0 + szM a1 ≤ 1048576) (hr0 : mzC r0 ≤ 1152921504606846) (hspec : (∀ (w : World) (v0 : Value) (v1 : Value), RdC w v0 a0 → RdC w v1 a1 → Calls Try.prog 15 #[v0, v1] w (RetCI w r0 r1))) (himpl : (∀ (w : World) (v0 : Value) (v1 : Value), RdC w v0 a0 → RdC w v1 a1 → Calls Try.prog 17 #[v0, v1] w (RetCI w r0 r1))) :
  Calls Try.prog 4 #[v0, v1] w (RetB w true) := by
 have R0 := h0.rd (by omega)
 have I0 := h0
 obtain ⟨pa0, pb0, pc0, pd0, pe0, pf0, pg0, ph0, rfl⟩ := h0.form
 have mz0 := mz_le a0
 have R1 := h1.rd (by omega)
 have I1 := h1
 obtain ⟨pa1, pb1, pc1, pd1, pe1, pf1, pg1, ph1, rfl⟩ := h1.form
 have mz1 := mz_le a1
 go_enter Try.func4, Try.ntmps4
 refine gc_enter (N := 119) rfl (look_cons (k := 0) rfl (look_cons (k := 1) rfl (look_nil _))) ?_
 refine gc_sr fun K1 hK1 => ?_
 refine gop fun K3 hK3 => ?_
 refine go_box rfl rfl rfl rfl rfl ?_
 intro B2
 refine hK3 _ _ ?_
 refine gop fun K5 hK5 => ?_
 refine go_box rfl rfl rfl rfl rfl ?_
 intro B4
 refine hK5 _ _ ?_
 refine gas ?_
 refine gnt (hK1 _ _ ?_)
 refine gc_sr fun K6 hK6 => ?_
 refine gas ?_
 refine gnt (hK6 _ _ ?_)
 refine gc_sr fun K7 hK7 => ?_
 refine gv (qts Try.underlying25 (n := 0)) ?_
 refine gm ?_
 refine g_q (.free rfl) rfl rfl (qt_call rfl Try.func14 rfl (by decide) rfl (fun w M => szC_le w _ _ _ (inC_below M.1 I0) (by first | assumption | omega) (by first | assumption | omega) (by first | assumption | omega))) ?_
 refine gas ?_
 refine gnt (hK7 _ _ ?_)
 refine gc_seq fun K8 hK8 => ?_
 refine gc_sr fun K9 hK9 => ?_
 refine gm ?_
 refine gv (qt_lss rfl rfl rfl) ?_
 refine gnt (hK9 _ _ ?_)
 refine gc_cond rfl (fun hc0 => ?_) (fun hc0 => ?_)
 ·try simp only [sA] at hc0
  first | (exfalso; omega) | exact absurd rfl hc0 | (simp at hc0)
 ·try simp only [sA] at hc0
  refine gc_skip ?_
  refine gk_then (hK8 _ _ ?_)
  refine gc_sr fun K10 hK10 => ?_
  refine gv (qts Try.underlying25 (n := 1)) ?_
  refine gm ?_
  refine g_q (.free rfl) rfl rfl (qt_call rfl Try.func14 rfl (by decide) rfl (fun w M => szC_le w _ _ _ (inC_below M.1 I1) (by first | assumption | omega) (by first | assumption | omega) (by first | assumption | omega))) ?_
  refine gas ?_
  refine gnt (hK10 _ _ ?_)
  refine gc_seq fun K11 hK11 => ?_
  refine gc_sr fun K12 hK12 => ?_
  refine gm ?_
  refine gv (qt_lss rfl rfl rfl) ?_
  refine gnt (hK12 _ _ ?_)
  refine gc_cond rfl (fun hc1 => ?_) (fun hc1 => ?_)
  ·try simp only [sA] at hc1
   first | (exfalso; omega) | exact absurd rfl hc1 | (simp at hc1)
  ·try simp only [sA] at hc1
   refine gc_skip ?_
   refine gk_then (hK11 _ _ ?_)
   refine gc_seq fun K13 hK13 => ?_
   try simp only [sL]
   refine ga_start _ (fun w M => M) ?_
   refine gav 0 rfl (qts Try.underlying25 (n := 0)) ?_
   refine gav 2 rfl (qts Try.underlying25 (n := 1)) ?_
   refine ga_two 1 8 (by kernel_rfl) rfl rfl (.free rfl) (.free rfl) (fun K14 hK14 => ?_) (fun K14 hK14 => ?_)
   ·refine go_callC1 rfl rfl rfl Try.func16 rfl (by decide) rfl (fun w M => toC_any w _ _ (mem_rdC M R0)) ?_
    intro ca15 cb15 cc15 cd15 ce15 cf15 cg15 ch15
    refine hK14 _ _ (fun w M => (mem_take 2 M :)) ?_
    refine ga_two 3 8 (by kernel_rfl) rfl rfl (.free rfl) (.free rfl) (fun K17 hK17 => ?_) (fun K17 hK17 => ?_)
    ·refine go_callC1 rfl rfl rfl Try.func16 rfl (by decide) rfl (fun w M => toC_any w _ _ (mem_rdC M R1)) ?_
     intro ca18 cb18 cc18 cd18 ce18 cf18 cg18 ch18
     refine hK17 _ _ (fun w M => (mem_take 2 M :)) ?_
     refine ga_two 4 8 (by kernel_rfl) rfl rfl (.free rfl) (.free rfl) (fun K20 hK20 => ?_) (fun K20 hK20 => ?_)
     ·refine go_callCI1 rfl rfl rfl Try.func15 rfl (by decide) rfl (fun w M => hspec w _ _ ((mem_ownC (n := 2) M rfl).rd) ((mem_ownC (n := 3) M rfl).rd)) ?_
      intro ca21 cb21 cc21 cd21 ce21 cf21 cg21 ch21
      refine hK20 _ _ (fun w M => (mem_take 2 M :)) ?_
      refine gav 5 rfl (qt_move rfl rfl) ?_
      refine gav 6 rfl (qt_extract rfl rfl rfl) ?_
      refine gav 7 rfl (qt_extract rfl rfl rfl) ?_
      refine gao 8 fun K24 hK24 => ?_
      refine go_alloc (z := (.agg #[.int .i64 0, .slice none 0 0, .slice none 0 0, .slice none 0 0, .slice none 0 0])) (cs := [.int .i64 0, .slice none 0 0, .slice none 0 0, .slice none 0 0, .slice none 0 0]) rfl rfl rfl (fun w => by kernel_rfl) rfl ?_
      intro B23
      refine hK24 _ _ (fun w M => (mem_take 2 M :)) ?_
      refine gao 9 fun K25 hK25 => ?_
      refine go_storeS (n := 5) rfl rfl rfl rfl (by kernel_rfl) rfl rfl rfl ?_
      refine hK25 _ _ (fun w M => (mem_take 2 M :)) ?_
      refine gav 10 rfl (qt_assign rfl rfl) ?_
      refine ga_done (by kernel_rfl) ?_
      refine gk_then (hK13 _ _ ?_)
      refine gc_sr fun K26 hK26 => ?_
      refine gv (qts Try.underlying25 (n := 0)) ?_
      refine gop fun K28 hK28 => ?_
      refine go_callC1 rfl rfl rfl Try.func16 rfl (by decide) rfl (fun w M => toC_any w _ _ (mem_rdC M R0)) ?_
      intro ca27 cb27 cc27 cd27 ce27 cf27 cg27 ch27
      refine hK28 _ _ ?_
      refine gop fun K30 hK30 => ?_
      refine go_alloc (z := (.agg #[.int .i64 0, .slice none 0 0, .slice none 0 0, .slice none 0 0, .slice none 0 0])) (cs := [.int .i64 0, .slice none 0 0, .slice none 0 0, .slice none 0 0, .slice none 0 0]) rfl rfl rfl (fun w => by kernel_rfl) rfl ?_
      intro B29
      refine hK30 _ _ ?_
      refine gop fun K31 hK31 => ?_
      refine go_storeS (n := 7) rfl rfl rfl rfl (by kernel_rfl) rfl rfl rfl ?_
      refine hK31 _ _ ?_
      refine gnt (hK26 _ _ ?_)
      refine gc_sr fun K32 hK32 => ?_
      refine gv (qts Try.underlying25 (n := 1)) ?_
      refine gop fun K34 hK34 => ?_
      refine go_callC1 rfl rfl rfl Try.func16 rfl (by decide) rfl (fun w M => toC_any w _ _ (mem_rdC M R1)) ?_
      intro ca33 cb33 cc33 cd33 ce33 cf33 cg33 ch33
      refine hK34 _ _ ?_
      refine gop fun K36 hK36 => ?_
      refine go_alloc (z := (.agg #[.int .i64 0, .slice none 0 0, .slice none 0 0, .slice none 0 0, .slice none 0 0])) (cs := [.int .i64 0, .slice none 0 0, .slice none 0 0, .slice none 0 0, .slice none 0 0]) rfl rfl rfl (fun w => by kernel_rfl) rfl ?_
      intro B35
      refine hK36 _ _ ?_
      refine gop fun K37 hK37 => ?_
      refine go_storeS (n := 9) rfl rfl rfl rfl (by kernel_rfl) rfl rfl rfl ?_
      refine hK37 _ _ ?_
      refine gnt (hK32 _ _ ?_)
      refine gc_sr fun K38 hK38 => ?_
      refine gv (qts Try.underlying29 (n := 7)) ?_
      refine gv (qts Try.underlying29 (n := 9)) ?_
      refine gop fun K40 hK40 => ?_
      refine go_callCI1 rfl rfl rfl Try.func17 rfl (by decide) rfl (fun w M => himpl w _ _ ((mem_ownC (n := 6) M rfl).rd) ((mem_ownC (n := 8) M rfl).rd)) ?_
      intro ca39 cb39 cc39 cd39 ce39 cf39 cg39 ch39
      refine hK40 _ _ ?_
      refine gm ?_
      refine gv (qt_extract rfl rfl rfl) ?_
      refine gv (qt_extract rfl rfl rfl) ?_
      refine gop fun K42 hK42 => ?_
      refine go_alloc (z := (.agg #[.int .i64 0, .slice none 0 0, .slice none 0 0, .slice none 0 0, .slice none 0 0])) (cs := [.int .i64 0, .slice none 0 0, .slice none 0 0, .slice none 0 0, .slice none 0 0]) rfl rfl rfl (fun w => by kernel_rfl) rfl ?_
      intro B41
      refine hK42 _ _ ?_
      refine gop fun K43 hK43 => ?_
      refine go_storeS (n := 11) rfl rfl rfl rfl (by kernel_rfl) rfl rfl rfl ?_
      refine hK43 _ _ ?_
      refine gas ?_
      refine gnt (hK38 _ _ ?_)
      refine gc_seq fun K44 hK44 => ?_
      refine gc_sr fun K45 hK45 => ?_
      refine gv (qts Try.underlying29 (n := 11)) ?_
      refine gv (qts Try.underlying29 (n := 5)) ?_
      refine g_q (.free rfl) rfl rfl (qt_call rfl Try.func18 rfl (by decide) rfl (fun w M => eqC_refl_any w _ _ _ ((mem_ownC (n := 10) M rfl).rd) ((mem_ownC (n := 4) M rfl).rd))) ?_
      refine gv (qt_not rfl rfl) ?_
      refine gm ?_
      refine gvh (qt_move rfl rfl) ?_
      refine gvh (qt_move rfl rfl) ?_
      refine gvh (qt_neq_f rfl rfl rfl (fun h => h rfl)) ?_
      refine gv (qt_pick_f rfl rfl rfl) ?_
      refine gnt (hK45 _ _ ?_)
      refine gc_cond_f rfl ?_
      refine gc_skip ?_
      refine gk_then (hK44 _ _ ?_)
      refine gc_seq fun K46 hK46 => ?_
      refine gc_seq fun K47 hK47 => ?_
      try simp only [sL]
      refine ga_start _ (fun w M => M) ?_
      refine gav 0 rfl (qts Try.underlying29 (n := 7)) ?_
      refine gav 1 rfl (qts Try.underlying25 (n := 0)) ?_
      refine gao 2 fun K49 hK49 => ?_
      refine go_callC1 rfl rfl rfl Try.func16 rfl (by decide) rfl (fun w M => toC_any w _ _ (mem_rdC M R0)) ?_
      intro ca48 cb48 cc48 cd48 ce48 cf48 cg48 ch48
      refine hK49 _ _ (fun w M => (mem_take 12 M :)) ?_
      refine gao 3 fun K50 hK50 => ?_
      refine go_q rfl rfl (qt_call rfl Try.func18 rfl (by decide) rfl (fun w M => eqC_refl_any w _ _ _ ((mem_ownC (n := 6) M rfl).rd) ((mem_ownC (n := 12) M rfl).rd))) ?_
      refine hK50 _ _ (fun w M => (mem_take 12 M :)) ?_
      refine gav 4 rfl (qt_not rfl rfl) ?_
      refine ga_done (by kernel_rfl) ?_
      refine gk_then (hK47 _ _ ?_)
      refine gc_cond_f rfl ?_
      refine gc_skip ?_
      refine gk_then (hK46 _ _ ?_)
      refine gc_seq fun K51 hK51 => ?_
      refine gc_seq fun K52 hK52 => ?_
      try simp only [sL]
      refine ga_start _ (fun w M => M) ?_
      refine gav 0 rfl (qts Try.underlying29 (n := 9)) ?_
      refine gav 1 rfl (qts Try.underlying25 (n := 1)) ?_
      refine gao 2 fun K54 hK54 => ?_
      refine go_callC1 rfl rfl rfl Try.func16 rfl (by decide) rfl (fun w M => toC_any w _ _ (mem_rdC M R1)) ?_
      intro ca53 cb53 cc53 cd53 ce53 cf53 cg53 ch53
      refine hK54 _ _ (fun w M => (mem_take 13 M :)) ?_
      refine gao 3 fun K55 hK55 => ?_
      refine go_q rfl rfl (qt_call rfl Try.func18 rfl (by decide) rfl (fun w M => eqC_refl_any w _ _ _ ((mem_ownC (n := 8) M rfl).rd) ((mem_ownC (n := 13) M rfl).rd))) ?_
      refine hK55 _ _ (fun w M => (mem_take 13 M :)) ?_
      refine gav 4 rfl (qt_not rfl rfl) ?_
      refine ga_done (by kernel_rfl) ?_
      refine gk_then (hK52 _ _ ?_)
      refine gc_cond_f rfl ?_
      refine gc_skip ?_
      refine gk_then (hK51 _ _ ?_)
      refine gc_sr fun K56 hK56 => ?_
      refine gas ?_
      refine gnt (hK56 _ _ ?_)
      refine gc_sr fun K57 hK57 => ?_
      refine gv (qts Try.underlying29 (n := 7)) ?_
      refine gm ?_
      refine gop fun K58 hK58 => ?_
      refine go_mark (ownCI _ (mkC _ _)) (n := 6) rfl rfl rfl Try.func19 rfl (by decide) rfl rfl (fun w S hS => markC_any w S _ _ _ hS (by omega) (by omega)) ?_
      refine hK58 _ _ ?_
      refine gas ?_
      refine gnt (hK57 _ _ ?_)
      refine gc_sr fun K59 hK59 => ?_
      refine gv (qts Try.underlying29 (n := 9)) ?_
      refine gm ?_
      refine gop fun K60 hK60 => ?_
      refine go_mark (ownCI _ (mkC _ _)) (n := 8) rfl rfl rfl Try.func19 rfl (by decide) rfl rfl (fun w S hS => markC_any w S _ _ _ hS (by omega) (by omega)) ?_
      refine hK60 _ _ ?_
      refine gas ?_
      refine gnt (hK59 _ _ ?_)
      refine gc_seq fun K61 hK61 => ?_
      refine gc_sr fun K62 hK62 => ?_
      refine gm ?_
      refine gv (qt_lss rfl rfl rfl) ?_
      refine g_splitv (.free rfl) rfl rfl (qt_move rfl rfl) (fun hs21_2 => ?_) (fun hs21_2 => ?_)
      ·try simp only [sA] at hs21_2
       first | (exfalso; omega) | exact absurd rfl hs21_2 | (simp at hs21_2)
      ·try simp only [sA] at hs21_2
       refine gvh (qts Try.underlying29 (n := 11)) ?_
       refine gvh (qts Try.underlying29 (n := 5)) ?_
       refine g_q (.held _ _ _ rfl rfl rfl) rfl rfl (qt_call rfl Try.func18 rfl (by decide) rfl (fun w M => eqC_refl_any w _ _ _ ((mem_ownC (n := 10) M rfl).rd) ((mem_ownC (n := 4) M rfl).rd))) ?_
       refine gvh (qt_not rfl rfl) ?_
       refine gv (qt_pick_f rfl rfl rfl) ?_
       refine gm ?_
       refine gvh (qt_move rfl rfl) ?_
       refine gvh (qt_move rfl rfl) ?_
       refine gvh (qt_neq_f rfl rfl rfl (fun h => h rfl)) ?_
       refine gv (qt_pick_f rfl rfl rfl) ?_
       refine gnt (hK62 _ _ ?_)
       refine gc_cond_f rfl ?_
       refine gc_skip ?_
       refine gk_then (hK61 _ _ ?_)
       refine gc_sr fun K63 hK63 => ?_
       refine gas ?_
       refine gnt (hK63 _ _ ?_)
       refine gc_sr fun K64 hK64 => ?_
       refine gv (qts Try.underlying29 (n := 11)) ?_
       refine gm ?_
       refine gop fun K65 hK65 => ?_
       refine go_mark (ownCI _ (mkC _ _)) (n := 10) rfl rfl rfl Try.func19 rfl (by decide) rfl rfl (fun w S hS => markC_any w S _ _ _ hS (by omega) (by omega)) ?_
       refine hK65 _ _ ?_
       refine gas ?_
       refine gnt (hK64 _ _ ?_)
       refine gc_sr fun K66 hK66 => ?_
       refine gas ?_
       refine gnt (hK66 _ _ ?_)
       refine gc_sr fun K67 hK67 => ?_
       refine gv (qts Try.underlying29 (n := 11)) ?_
       refine gm ?_
       refine g_q (.free rfl) rfl rfl (qt_call rfl Try.func20 rfl (by decide) rfl (fun w M => heldC_any w _ _ _ ((mem_ownC (n := 10) M rfl).rd) (by first | assumption | omega) (by first | assumption | omega))) ?_
       refine gas ?_
       refine gnt (hK67 _ _ ?_)
       refine gc_seq fun K68 hK68 => ?_
       refine gc_sr fun K69 hK69 => ?_
       refine gm ?_
       refine gv (qt_lss rfl rfl rfl) ?_
       refine gnt (hK69 _ _ ?_)
       refine gc_cond rfl (fun hc2 => ?_) (fun hc2 => ?_)
       ·try simp only [sA] at hc2
        first | (exfalso; omega) | exact absurd rfl hc2 | (simp at hc2)
       ·try simp only [sA] at hc2
        refine gc_skip ?_
        refine gk_then (hK68 _ _ ?_)
        refine gc_seq fun K70 hK70 => ?_
        refine gc_sr fun K71 hK71 => ?_
        refine gm ?_
        refine gm ?_
        refine gv (qt_neq rfl rfl rfl) ?_
        refine gnt (hK71 _ _ ?_)
        refine gc_cond rfl (fun hc3 => ?_) (fun hc3 => ?_)
        ·try simp only [sA] at hc3
         first | (exfalso; omega) | exact absurd rfl hc3 | (simp at hc3)
        ·try simp only [sA] at hc3
         refine gc_skip ?_
         refine gk_then (hK70 _ _ ?_)
         refine gc_seq fun K72 hK72 => ?_
         try simp only [sL]
         refine ga_start _ (fun w M => M) ?_
         refine gav 0 rfl (qts Try.underlying25 (n := 0)) ?_
         refine gav 2 rfl (qts Try.underlying25 (n := 1)) ?_
         refine ga_two 1 8 (by kernel_rfl) rfl rfl (.free rfl) (.free rfl) (fun K73 hK73 => ?_) (fun K73 hK73 => ?_)
         ·refine go_callC1 rfl rfl rfl Try.func16 rfl (by decide) rfl (fun w M => toC_any w _ _ (mem_rdC M R0)) ?_
          intro ca74 cb74 cc74 cd74 ce74 cf74 cg74 ch74
          refine hK73 _ _ (fun w M => (mem_take 14 M :)) ?_
          refine ga_two 3 8 (by kernel_rfl) rfl rfl (.free rfl) (.free rfl) (fun K76 hK76 => ?_) (fun K76 hK76 => ?_)
          ·refine go_callC1 rfl rfl rfl Try.func16 rfl (by decide) rfl (fun w M => toC_any w _ _ (mem_rdC M R1)) ?_
           intro ca77 cb77 cc77 cd77 ce77 cf77 cg77 ch77
           refine hK76 _ _ (fun w M => (mem_take 14 M :)) ?_
           refine ga_two 4 8 (by kernel_rfl) rfl rfl (.free rfl) (.free rfl) (fun K79 hK79 => ?_) (fun K79 hK79 => ?_)
           ·refine go_callCI1 rfl rfl rfl Try.func17 rfl (by decide) rfl (fun w M => himpl w _ _ ((mem_ownC (n := 14) M rfl).rd) ((mem_ownC (n := 15) M rfl).rd)) ?_
            intro ca80 cb80 cc80 cd80 ce80 cf80 cg80 ch80
            refine hK79 _ _ (fun w M => (mem_take 14 M :)) ?_
            refine gav 5 rfl (qt_move rfl rfl) ?_
            refine gav 6 rfl (qt_extract rfl rfl rfl) ?_
            refine gav 7 rfl (qt_extract rfl rfl rfl) ?_
            refine gao 8 fun K83 hK83 => ?_
            refine go_alloc (z := (.agg #[.int .i64 0, .slice none 0 0, .slice none 0 0, .slice none 0 0, .slice none 0 0])) (cs := [.int .i64 0, .slice none 0 0, .slice none 0 0, .slice none 0 0, .slice none 0 0]) rfl rfl rfl (fun w => by kernel_rfl) rfl ?_
            intro B82
            refine hK83 _ _ (fun w M => (mem_take 14 M :)) ?_
            refine gao 9 fun K84 hK84 => ?_
            refine go_storeS (n := 17) rfl rfl rfl rfl (by kernel_rfl) rfl rfl rfl ?_
            refine hK84 _ _ (fun w M => (mem_take 14 M :)) ?_
            refine gav 10 rfl (qt_assign rfl rfl) ?_
            refine ga_done (by kernel_rfl) ?_
            refine gk_then (hK72 _ _ ?_)
            refine gc_seq fun K85 hK85 => ?_
            refine gc_sr fun K86 hK86 => ?_
            refine gv (qts Try.underlying29 (n := 17)) ?_
            refine gv (qts Try.underlying29 (n := 5)) ?_
            refine g_q (.free rfl) rfl rfl (qt_call rfl Try.func18 rfl (by decide) rfl (fun w M => eqC_refl_any w _ _ _ ((mem_ownC (n := 16) M rfl).rd) ((mem_ownC (n := 4) M rfl).rd))) ?_
            refine gv (qt_not rfl rfl) ?_
            refine gm ?_
            refine gvh (qt_move rfl rfl) ?_
            refine gvh (qt_move rfl rfl) ?_
            refine gvh (qt_neq_f rfl rfl rfl (fun h => h rfl)) ?_
            refine gv (qt_pick_f rfl rfl rfl) ?_
            refine gnt (hK86 _ _ ?_)
            refine gc_cond_f rfl ?_
            refine gc_skip ?_
            refine gk_then (hK85 _ _ ?_)
            refine gc_sr fun K87 hK87 => ?_
            refine gas ?_
            refine gnt (hK87 _ _ ?_)
            refine gc_sr fun K88 hK88 => ?_
            refine gv (qts Try.underlying29 (n := 11)) ?_
            refine gm ?_
            refine g_q (.free rfl) rfl rfl (qt_call rfl Try.func20 rfl (by decide) rfl (fun w M => heldC_any w _ _ _ ((mem_ownC (n := 10) M rfl).rd) (by first | assumption | omega) (by first | assumption | omega))) ?_
            refine gas ?_
            refine gnt (hK88 _ _ ?_)
            refine gc_seq fun K89 hK89 => ?_
            refine gc_sr fun K90 hK90 => ?_
            refine gm ?_
            refine gv (qt_lss rfl rfl rfl) ?_
            refine gnt (hK90 _ _ ?_)
            refine gc_cond rfl (fun hc4 => ?_) (fun hc4 => ?_)
            ·try simp only [sA] at hc4
             first | (exfalso; omega) | exact absurd rfl hc4 | (simp at hc4)
            ·try simp only [sA] at hc4
             refine gc_skip ?_
             refine gk_then (hK89 _ _ ?_)
             refine gc_seq fun K91 hK91 => ?_
             refine gc_sr fun K92 hK92 => ?_
             refine gm ?_
             refine gm ?_
             refine gv (qt_neq rfl rfl rfl) ?_
             refine gnt (hK92 _ _ ?_)
             refine gc_cond rfl (fun hc5 => ?_) (fun hc5 => ?_)
             ·try simp only [sA] at hc5
              first | (exfalso; omega) | exact absurd rfl hc5 | (simp at hc5)
             ·try simp only [sA] at hc5
              refine gc_skip ?_
              refine gk_then (hK91 _ _ ?_)
              refine gc_sr fun K93 hK93 => ?_
              refine gas ?_
              refine gnt (hK93 _ _ ?_)
              refine gc_ret ?_
              refine ret_1 rfl rfl  (fun w M => ?_)
              exact ⟨rfl, M.1⟩
           ·refine go_alloc (z := (.agg #[.int .i64 0, .slice none 0 0, .slice none 0 0, .slice none 0 0, .slice none 0 0])) (cs := [.int .i64 0, .slice none 0 0, .slice none 0 0, .slice none 0 0, .slice none 0 0]) rfl rfl rfl (fun w => by kernel_rfl) rfl ?_
            intro B94
            refine hK79 _ _ (fun w M => (mem_take 14 M :)) ?_
            refine gao 4 fun K97 hK97 => ?_
            refine go_callCI1 rfl rfl rfl Try.func17 rfl (by decide) rfl (fun w M => himpl w _ _ ((mem_ownC (n := 14) M rfl).rd) ((mem_ownC (n := 15) M rfl).rd)) ?_
            intro ca96 cb96 cc96 cd96 ce96 cf96 cg96 ch96
            refine hK97 _ _ (fun w M => (mem_take 14 M :)) ?_
            refine gav 5 rfl (qt_move rfl rfl) ?_
            refine gav 6 rfl (qt_extract rfl rfl rfl) ?_
            refine gav 7 rfl (qt_extract rfl rfl rfl) ?_
            refine gao 9 fun K98 hK98 => ?_
            refine go_storeS (n := 16) rfl rfl rfl rfl (by kernel_rfl) rfl rfl rfl ?_
            refine hK98 _ _ (fun w M => (mem_take 14 M :)) ?_
            refine gav 10 rfl (qt_assign rfl rfl) ?_
            refine ga_done (by kernel_rfl) ?_
            refine gk_then (hK72 _ _ ?_)
            refine gc_seq fun K99 hK99 => ?_
            refine gc_sr fun K100 hK100 => ?_
            refine gv (qts Try.underlying29 (n := 16)) ?_
            refine gv (qts Try.underlying29 (n := 5)) ?_
            refine g_q (.free rfl) rfl rfl (qt_call rfl Try.func18 rfl (by decide) rfl (fun w M => eqC_refl_any w _ _ _ ((mem_ownC (n := 17) M rfl).rd) ((mem_ownC (n := 4) M rfl).rd))) ?_
            refine gv (qt_not rfl rfl) ?_
            refine gm ?_
            refine gvh (qt_move rfl rfl) ?_
            refine gvh (qt_move rfl rfl) ?_
            refine gvh (qt_neq_f rfl rfl rfl (fun h => h rfl)) ?_
            refine gv (qt_pick_f rfl rfl rfl) ?_
            refine gnt (hK100 _ _ ?_)
            refine gc_cond_f rfl ?_
            refine gc_skip ?_
            refine gk_then (hK99 _ _ ?_)
            refine gc_sr fun K101 hK101 => ?_
            refine gas ?_
            refine gnt (hK101 _ _ ?_)
            refine gc_sr fun K102 hK102 => ?_
            refine gv (qts Try.underlying29 (n := 11)) ?_
            refine gm ?_
            refine g_q (.free rfl) rfl rfl (qt_call rfl Try.func20 rfl (by decide) rfl (fun w M => heldC_any w _ _ _ ((mem_ownC (n := 10) M rfl).rd) (by first | assumption | omega) (by first | assumption | omega))) ?_
            refine gas ?_
            refine gnt (hK102 _ _ ?_)
            refine gc_seq fun K103 hK103 => ?_
            refine gc_sr fun K104 hK104 => ?_
            refine gm ?_
            refine gv (qt_lss rfl rfl rfl) ?_
            refine gnt (hK104 _ _ ?_)
            refine gc_cond rfl (fun hc6 => ?_) (fun hc6 => ?_)
            ·try simp only [sA] at hc6
             first | (exfalso; omega) | exact absurd rfl hc6 | (simp at hc6)
            ·try simp only [sA] at hc6
             refine gc_skip ?_
             refine gk_then (hK103 _ _ ?_)
             refine gc_seq fun K105 hK105 => ?_
             refine gc_sr fun K106 hK106 => ?_
             refine gm ?_
             refine gm ?_
             refine gv (qt_neq rfl rfl rfl) ?_
             refine gnt (hK106 _ _ ?_)
             refine gc_cond rfl (fun hc7 => ?_) (fun hc7 => ?_)
             ·try simp only [sA] at hc7
              first | (exfalso; omega) | exact absurd rfl hc7 | (simp at hc7)
             ·try simp only [sA] at hc7
              refine gc_skip ?_
              refine gk_then (hK105 _ _ ?_)
              refine gc_sr fun K107 hK107 => ?_
              refine gas ?_
              refine gnt (hK107 _ _ ?_)
              refine gc_ret ?_
              refine ret_1 rfl rfl  (fun w M => ?_)
              exact ⟨rfl, M.1⟩
          ·refine go_alloc (z := (.agg #[.int .i64 0, .slice none 0 0, .slice none 0 0, .slice none 0 0, .slice none 0 0])) (cs := [.int .i64 0, .slice none 0 0, .slice none 0 0, .slice none 0 0, .slice none 0 0]) rfl rfl rfl (fun w => by kernel_rfl) rfl ?_
           intro B108
           refine hK76 _ _ (fun w M => (mem_take 14 M :)) ?_
           refine gao 3 fun K111 hK111 => ?_
           refine go_callC1 rfl rfl rfl Try.func16 rfl (by decide) rfl (fun w M => toC_any w _ _ (mem_rdC M R1)) ?_
           intro ca110 cb110 cc110 cd110 ce110 cf110 cg110 ch110
           refine hK111 _ _ (fun w M => (mem_take 14 M :)) ?_
           refine gao 4 fun K113 hK113 => ?_
           refine go_callCI1 rfl rfl rfl Try.func17 rfl (by decide) rfl (fun w M => himpl w _ _ ((mem_ownC (n := 14) M rfl).rd) ((mem_ownC (n := 16) M rfl).rd)) ?_
           intro ca112 cb112 cc112 cd112 ce112 cf112 cg112 ch112
           refine hK113 _ _ (fun w M => (mem_take 14 M :)) ?_
           refine gav 5 rfl (qt_move rfl rfl) ?_
           refine gav 6 rfl (qt_extract rfl rfl rfl) ?_
           refine gav 7 rfl (qt_extract rfl rfl rfl) ?_
           refine gao 9 fun K114 hK114 => ?_
           refine go_storeS (n := 15) rfl rfl rfl rfl (by kernel_rfl) rfl rfl rfl ?_
           refine hK114 _ _ (fun w M => (mem_take 14 M :)) ?_
           refine gav 10 rfl (qt_assign rfl rfl) ?_
           refine ga_done (by kernel_rfl) ?_
           refine gk_then (hK72 _ _ ?_)
           refine gc_seq fun K115 hK115 => ?_
           refine gc_sr fun K116 hK116 => ?_
           refine gv (qts Try.underlying29 (n := 15)) ?_
           refine gv (qts Try.underlying29 (n := 5)) ?_
           refine g_q (.free rfl) rfl rfl (qt_call rfl Try.func18 rfl (by decide) rfl (fun w M => eqC_refl_any w _ _ _ ((mem_ownC (n := 17) M rfl).rd) ((mem_ownC (n := 4) M rfl).rd))) ?_
           refine gv (qt_not rfl rfl) ?_
           refine gm ?_
           refine gvh (qt_move rfl rfl) ?_
           refine gvh (qt_move rfl rfl) ?_
           refine gvh (qt_neq_f rfl rfl rfl (fun h => h rfl)) ?_
           refine gv (qt_pick_f rfl rfl rfl) ?_
           refine gnt (hK116 _ _ ?_)
           refine gc_cond_f rfl ?_
           refine gc_skip ?_
           refine gk_then (hK115 _ _ ?_)
           refine gc_sr fun K117 hK117 => ?_
           refine gas ?_
           refine gnt (hK117 _ _ ?_)
           refine gc_sr fun K118 hK118 => ?_
           refine gv (qts Try.underlying29 (n := 11)) ?_
           refine gm ?_
           refine g_q (.free rfl) rfl rfl (qt_call rfl Try.func20 rfl (by decide) rfl (fun w M => heldC_any w _ _ _ ((mem_ownC (n := 10) M rfl).rd) (by first | assumption | omega) (by first | assumption | omega))) ?_
           refine gas ?_
           refine gnt (hK118 _ _ ?_)
           refine gc_seq fun K119 hK119 => ?_
           refine gc_sr fun K120 hK120 => ?_
           refine gm ?_
           refine gv (qt_lss rfl rfl rfl) ?_
           refine gnt (hK120 _ _ ?_)
           refine gc_cond rfl (fun hc8 => ?_) (fun hc8 => ?_)
           ·try simp only [sA] at hc8
            first | (exfalso; omega) | exact absurd rfl hc8 | (simp at hc8)
           ·try simp only [sA] at hc8
            refine gc_skip ?_
            refine gk_then (hK119 _ _ ?_)
            refine gc_seq fun K121 hK121 => ?_
            refine gc_sr fun K122 hK122 => ?_
            refine gm ?_
            refine gm ?_
            refine gv (qt_neq rfl rfl rfl) ?_
            refine gnt (hK122 _ _ ?_)
            refine gc_cond rfl (fun hc9 => ?_) (fun hc9 => ?_)
            ·try simp only [sA] at hc9
             first | (exfalso; omega) | exact absurd rfl hc9 | (simp at hc9)
            ·try simp only [sA] at hc9
             refine gc_skip ?_
             refine gk_then (hK121 _ _ ?_)
             refine gc_sr fun K123 hK123 => ?_
             refine gas ?_
             refine gnt (hK123 _ _ ?_)
             refine gc_ret ?_
             refine ret_1 rfl rfl  (fun w M => ?_)
             exact ⟨rfl, M.1⟩
         ·refine go_alloc (z := (.agg #[.int .i64 0, .slice none 0 0, .slice none 0 0, .slice none 0 0, .slice none 0 0])) (cs := [.int .i64 0, .slice none 0 0, .slice none 0 0, .slice none 0 0, .slice none 0 0]) rfl rfl rfl (fun w => by kernel_rfl) rfl ?_
          intro B124
          refine hK73 _ _ (fun w M => (mem_take 14 M :)) ?_
          refine gao 1 fun K127 hK127 => ?_
          refine go_callC1 rfl rfl rfl Try.func16 rfl (by decide) rfl (fun w M => toC_any w _ _ (mem_rdC M R0)) ?_
          intro ca126 cb126 cc126 cd126 ce126 cf126 cg126 ch126
          refine hK127 _ _ (fun w M => (mem_take 14 M :)) ?_
          refine gao 3 fun K129 hK129 => ?_
          refine go_callC1 rfl rfl rfl Try.func16 rfl (by decide) rfl (fun w M => toC_any w _ _ (mem_rdC M R1)) ?_
          intro ca128 cb128 cc128 cd128 ce128 cf128 cg128 ch128
          refine hK129 _ _ (fun w M => (mem_take 14 M :)) ?_
          refine gao 4 fun K131 hK131 => ?_
          refine go_callCI1 rfl rfl rfl Try.func17 rfl (by decide) rfl (fun w M => himpl w _ _ ((mem_ownC (n := 15) M rfl).rd) ((mem_ownC (n := 16) M rfl).rd)) ?_
          intro ca130 cb130 cc130 cd130 ce130 cf130 cg130 ch130
          refine hK131 _ _ (fun w M => (mem_take 14 M :)) ?_
          refine gav 5 rfl (qt_move rfl rfl) ?_
          refine gav 6 rfl (qt_extract rfl rfl rfl) ?_
          refine gav 7 rfl (qt_extract rfl rfl rfl) ?_
          refine gao 9 fun K132 hK132 => ?_
          refine go_storeS (n := 14) rfl rfl rfl rfl (by kernel_rfl) rfl rfl rfl ?_
          refine hK132 _ _ (fun w M => (mem_take 14 M :)) ?_
          refine gav 10 rfl (qt_assign rfl rfl) ?_
          refine ga_done (by kernel_rfl) ?_
          refine gk_then (hK72 _ _ ?_)
          refine gc_seq fun K133 hK133 => ?_
          refine gc_sr fun K134 hK134 => ?_
          refine gv (qts Try.underlying29 (n := 14)) ?_
          refine gv (qts Try.underlying29 (n := 5)) ?_
          refine g_q (.free rfl) rfl rfl (qt_call rfl Try.func18 rfl (by decide) rfl (fun w M => eqC_refl_any w _ _ _ ((mem_ownC (n := 17) M rfl).rd) ((mem_ownC (n := 4) M rfl).rd))) ?_
          refine gv (qt_not rfl rfl) ?_
          refine gm ?_
          refine gvh (qt_move rfl rfl) ?_
          refine gvh (qt_move rfl rfl) ?_
          refine gvh (qt_neq_f rfl rfl rfl (fun h => h rfl)) ?_
          refine gv (qt_pick_f rfl rfl rfl) ?_
          refine gnt (hK134 _ _ ?_)
          refine gc_cond_f rfl ?_
          refine gc_skip ?_
          refine gk_then (hK133 _ _ ?_)
          refine gc_sr fun K135 hK135 => ?_
          refine gas ?_
          refine gnt (hK135 _ _ ?_)
          refine gc_sr fun K136 hK136 => ?_
          refine gv (qts Try.underlying29 (n := 11)) ?_
          refine gm ?_
          refine g_q (.free rfl) rfl rfl (qt_call rfl Try.func20 rfl (by decide) rfl (fun w M => heldC_any w _ _ _ ((mem_ownC (n := 10) M rfl).rd) (by first | assumption | omega) (by first | assumption | omega))) ?_
          refine gas ?_
          refine gnt (hK136 _ _ ?_)
          refine gc_seq fun K137 hK137 => ?_
          refine gc_sr fun K138 hK138 => ?_
          refine gm ?_
          refine gv (qt_lss rfl rfl rfl) ?_
          refine gnt (hK138 _ _ ?_)
          refine gc_cond rfl (fun hc10 => ?_) (fun hc10 => ?_)
          ·try simp only [sA] at hc10
           first | (exfalso; omega) | exact absurd rfl hc10 | (simp at hc10)
          ·try simp only [sA] at hc10
           refine gc_skip ?_
           refine gk_then (hK137 _ _ ?_)
           refine gc_seq fun K139 hK139 => ?_
           refine gc_sr fun K140 hK140 => ?_
           refine gm ?_
           refine gm ?_
           refine gv (qt_neq rfl rfl rfl) ?_
           refine gnt (hK140 _ _ ?_)
           refine gc_cond rfl (fun hc11 => ?_) (fun hc11 => ?_)
           ·try simp only [sA] at hc11
            first | (exfalso; omega) | exact absurd rfl hc11 | (simp at hc11)
           ·try simp only [sA] at hc11
            refine gc_skip ?_
            refine gk_then (hK139 _ _ ?_)
            refine gc_sr fun K141 hK141 => ?_
            refine gas ?_
            refine gnt (hK141 _ _ ?_)
            refine gc_ret ?_
            refine ret_1 rfl rfl  (fun w M => ?_)
            exact ⟨rfl, M.1⟩
     ·refine go_alloc (z := (.agg #[.int .i64 0, .slice none 0 0, .slice none 0 0, .slice none 0 0, .slice none 0 0])) (cs := [.int .i64 0, .slice none 0 0, .slice none 0 0, .slice none 0 0, .slice none 0 0]) rfl rfl rfl (fun w => by kernel_rfl) rfl ?_
      intro B142
      refine hK20 _ _ (fun w M => (mem_take 2 M :)) ?_
      refine gao 4 fun K145 hK145 => ?_
      refine go_callCI1 rfl rfl rfl Try.func15 rfl (by decide) rfl (fun w M => hspec w _ _ ((mem_ownC (n := 2) M rfl).rd) ((mem_ownC (n := 3) M rfl).rd)) ?_
      intro ca144 cb144 cc144 cd144 ce144 cf144 cg144 ch144
      refine hK145 _ _ (fun w M => (mem_take 2 M :)) ?_
      refine gav 5 rfl (qt_move rfl rfl) ?_
      refine gav 6 rfl (qt_extract rfl rfl rfl) ?_
      refine gav 7 rfl (qt_extract rfl rfl rfl) ?_
      refine gao 9 fun K146 hK146 => ?_
      refine go_storeS (n := 4) rfl rfl rfl rfl (by kernel_rfl) rfl rfl rfl ?_
      refine hK146 _ _ (fun w M => (mem_take 2 M :)) ?_
      refine gav 10 rfl (qt_assign rfl rfl) ?_
      refine ga_done (by kernel_rfl) ?_
      refine gk_then (hK13 _ _ ?_)
      refine gc_sr fun K147 hK147 => ?_
      refine gv (qts Try.underlying25 (n := 0)) ?_
      refine gop fun K149 hK149 => ?_
      refine go_callC1 rfl rfl rfl Try.func16 rfl (by decide) rfl (fun w M => toC_any w _ _ (mem_rdC M R0)) ?_
      intro ca148 cb148 cc148 cd148 ce148 cf148 cg148 ch148
      refine hK149 _ _ ?_
      refine gop fun K151 hK151 => ?_
      refine go_alloc (z := (.agg #[.int .i64 0, .slice none 0 0, .slice none 0 0, .slice none 0 0, .slice none 0 0])) (cs := [.int .i64 0, .slice none 0 0, .slice none 0 0, .slice none 0 0, .slice none 0 0]) rfl rfl rfl (fun w => by kernel_rfl) rfl ?_
      intro B150
      refine hK151 _ _ ?_
      refine gop fun K152 hK152 => ?_
      refine go_storeS (n := 7) rfl rfl rfl rfl (by kernel_rfl) rfl rfl rfl ?_
      refine hK152 _ _ ?_
      refine gnt (hK147 _ _ ?_)
      refine gc_sr fun K153 hK153 => ?_
      refine gv (qts Try.underlying25 (n := 1)) ?_
      refine gop fun K155 hK155 => ?_
      refine go_callC1 rfl rfl rfl Try.func16 rfl (by decide) rfl (fun w M => toC_any w _ _ (mem_rdC M R1)) ?_
      intro ca154 cb154 cc154 cd154 ce154 cf154 cg154 ch154
      refine hK155 _ _ ?_
      refine gop fun K157 hK157 => ?_
      refine go_alloc (z := (.agg #[.int .i64 0, .slice none 0 0, .slice none 0 0, .slice none 0 0, .slice none 0 0])) (cs := [.int .i64 0, .slice none 0 0, .slice none 0 0, .slice none 0 0, .slice none 0 0]) rfl rfl rfl (fun w => by kernel_rfl) rfl ?_
      intro B156
      refine hK157 _ _ ?_
      refine gop fun K158 hK158 => ?_
      refine go_storeS (n := 9) rfl rfl rfl rfl (by kernel_rfl) rfl rfl rfl ?_
      refine hK158 _ _ ?_
      refine gnt (hK153 _ _ ?_)
      refine gc_sr fun K159 hK159 => ?_
      refine gv (qts Try.underlying29 (n := 7)) ?_
      refine gv (qts Try.underlying29 (n := 9)) ?_
      refine gop fun K161 hK161 => ?_
      refine go_callCI1 rfl rfl rfl Try.func17 rfl (by decide) rfl (fun w M => himpl w _ _ ((mem_ownC (n := 6) M rfl).rd) ((mem_ownC (n := 8) M rfl).rd)) ?_
      intro ca160 cb160 cc160 cd160 ce160 cf160 cg160 ch160
      refine hK161 _ _ ?_
      refine gm ?_
      refine gv (qt_extract rfl rfl rfl) ?_
      refine gv (qt_extract rfl rfl rfl) ?_
      refine gop fun K163 hK163 => ?_
      refine go_alloc (z := (.agg #[.int .i64 0, .slice none 0 0, .slice none 0 0, .slice none 0 0, .slice none 0 0])) (cs := [.int .i64 0, .slice none 0 0, .slice none 0 0, .slice none 0 0, .slice none 0 0]) rfl rfl rfl (fun w => by kernel_rfl) rfl ?_
      intro B162
      refine hK163 _ _ ?_
      refine gop fun K164 hK164 => ?_
      refine go_storeS (n := 11) rfl rfl rfl rfl (by kernel_rfl) rfl rfl rfl ?_
      refine hK164 _ _ ?_
      refine gas ?_
      refine gnt (hK159 _ _ ?_)
      refine gc_seq fun K165 hK165 => ?_
      refine gc_sr fun K166 hK166 => ?_
      refine gv (qts Try.underlying29 (n := 11)) ?_
      refine gv (qts Try.underlying29 (n := 4)) ?_
      refine g_q (.free rfl) rfl rfl (qt_call rfl Try.func18 rfl (by decide) rfl (fun w M => eqC_refl_any w _ _ _ ((mem_ownC (n := 10) M rfl).rd) ((mem_ownC (n := 5) M rfl).rd))) ?_
      refine gv (qt_not rfl rfl) ?_
      refine gm ?_
      refine gvh (qt_move rfl rfl) ?_
      refine gvh (qt_move rfl rfl) ?_
      refine gvh (qt_neq_f rfl rfl rfl (fun h => h rfl)) ?_
      refine gv (qt_pick_f rfl rfl rfl) ?_
      refine gnt (hK166 _ _ ?_)
      refine gc_cond_f rfl ?_
      refine gc_skip ?_
      refine gk_then (hK165 _ _ ?_)
      refine gc_seq fun K167 hK167 => ?_
      refine gc_seq fun K168 hK168 => ?_
      try simp only [sL]
      refine ga_start _ (fun w M => M) ?_
      refine gav 0 rfl (qts Try.underlying29 (n := 7)) ?_
      refine gav 1 rfl (qts Try.underlying25 (n := 0)) ?_
      refine gao 2 fun K170 hK170 => ?_
      refine go_callC1 rfl rfl rfl Try.func16 rfl (by decide) rfl (fun w M => toC_any w _ _ (mem_rdC M R0)) ?_
      intro ca169 cb169 cc169 cd169 ce169 cf169 cg169 ch169
      refine hK170 _ _ (fun w M => (mem_take 12 M :)) ?_
      refine gao 3 fun K171 hK171 => ?_
      refine go_q rfl rfl (qt_call rfl Try.func18 rfl (by decide) rfl (fun w M => eqC_refl_any w _ _ _ ((mem_ownC (n := 6) M rfl).rd) ((mem_ownC (n := 12) M rfl).rd))) ?_
      refine hK171 _ _ (fun w M => (mem_take 12 M :)) ?_
      refine gav 4 rfl (qt_not rfl rfl) ?_
      refine ga_done (by kernel_rfl) ?_
      refine gk_then (hK168 _ _ ?_)
      refine gc_cond_f rfl ?_
      refine gc_skip ?_
      refine gk_then (hK167 _ _ ?_)
      refine gc_seq fun K172 hK172 => ?_
      refine gc_seq fun K173 hK173 => ?_
      try simp only [sL]
      refine ga_start _ (fun w M => M) ?_
      refine gav 0 rfl (qts Try.underlying29 (n := 9)) ?_
      refine gav 1 rfl (qts Try.underlying25 (n := 1)) ?_
      refine gao 2 fun K175 hK175 => ?_
      refine go_callC1 rfl rfl rfl Try.func16 rfl (by decide) rfl (fun w M => toC_any w _ _ (mem_rdC M R1)) ?_
      intro ca174 cb174 cc174 cd174 ce174 cf174 cg174 ch174
      refine hK175 _ _ (fun w M => (mem_take 13 M :)) ?_
      refine gao 3 fun K176 hK176 => ?_
      refine go_q rfl rfl (qt_call rfl Try.func18 rfl (by decide) rfl (fun w M => eqC_refl_any w _ _ _ ((mem_ownC (n := 8) M rfl).rd) ((mem_ownC (n := 13) M rfl).rd))) ?_
      refine hK176 _ _ (fun w M => (mem_take 13 M :)) ?_
      refine gav 4 rfl (qt_not rfl rfl) ?_
      refine ga_done (by kernel_rfl) ?_
      refine gk_then (hK173 _ _ ?_)
      refine gc_cond_f rfl ?_
      refine gc_skip ?_
      refine gk_then (hK172 _ _ ?_)
      refine gc_sr fun K177 hK177 => ?_
      refine gas ?_
      refine gnt (hK177 _ _ ?_)
      refine gc_sr fun K178 hK178 => ?_
      refine gv (qts Try.underlying29 (n := 7)) ?_
      refine gm ?_
      refine gop fun K179 hK179 => ?_
      refine go_mark (ownCI _ (mkC _ _)) (n := 6) rfl rfl rfl Try.func19 rfl (by decide) rfl rfl (fun w S hS => markC_any w S _ _ _ hS (by omega) (by omega)) ?_
      refine hK179 _ _ ?_
      refine gas ?_
      refine gnt (hK178 _ _ ?_)
      refine gc_sr fun K180 hK180 => ?_
      refine gv (qts Try.underlying29 (n := 9)) ?_
      refine gm ?_
      refine gop fun K181 hK181 => ?_
      refine go_mark (ownCI _ (mkC _ _)) (n := 8) rfl rfl rfl Try.func19 rfl (by decide) rfl rfl (fun w S hS => markC_any w S _ _ _ hS (by omega) (by omega)) ?_
      refine hK181 _ _ ?_
      refine gas ?_
      refine gnt (hK180 _ _ ?_)
      refine gc_seq fun K182 hK182 => ?_
      refine gc_sr fun K183 hK183 => ?_
      refine gm ?_
      refine gv (qt_lss rfl rfl rfl) ?_
      refine g_splitv (.free rfl) rfl rfl (qt_move rfl rfl) (fun hs21_2 => ?_) (fun hs21_2 => ?_)
      ·try simp only [sA] at hs21_2
       first | (exfalso; omega) | exact absurd rfl hs21_2 | (simp at hs21_2)
      ·try simp only [sA] at hs21_2
       refine gvh (qts Try.underlying29 (n := 11)) ?_
       refine gvh (qts Try.underlying29 (n := 4)) ?_
       refine g_q (.held _ _ _ rfl rfl rfl) rfl rfl (qt_call rfl Try.func18 rfl (by decide) rfl (fun w M => eqC_refl_any w _ _ _ ((mem_ownC (n := 10) M rfl).rd) ((mem_ownC (n := 5) M rfl).rd))) ?_
       refine gvh (qt_not rfl rfl) ?_
       refine gv (qt_pick_f rfl rfl rfl) ?_
       refine gm ?_
       refine gvh (qt_move rfl rfl) ?_
       refine gvh (qt_move rfl rfl) ?_
       refine gvh (qt_neq_f rfl rfl rfl (fun h => h rfl)) ?_
       refine gv (qt_pick_f rfl rfl rfl) ?_
       refine gnt (hK183 _ _ ?_)
       refine gc_cond_f rfl ?_
       refine gc_skip ?_
       refine gk_then (hK182 _ _ ?_)
       refine gc_sr fun K184 hK184 => ?_
       refine gas ?_
       refine gnt (hK184 _ _ ?_)
       refine gc_sr fun K185 hK185 => ?_
       refine gv (qts Try.underlying29 (n := 11)) ?_
       refine gm ?_
       refine gop fun K186 hK186 => ?_
       refine go_mark (ownCI _ (mkC _ _)) (n := 10) rfl rfl rfl Try.func19 rfl (by decide) rfl rfl (fun w S hS => markC_any w S _ _ _ hS (by omega) (by omega)) ?_
       refine hK186 _ _ ?_
       refine gas ?_
       refine gnt (hK185 _ _ ?_)
       refine gc_sr fun K187 hK187 => ?_
       refine gas ?_
       refine gnt (hK187 _ _ ?_)
       refine gc_sr fun K188 hK188 => ?_
       refine gv (qts Try.underlying29 (n := 11)) ?_
       refine gm ?_
       refine g_q (.free rfl) rfl rfl (qt_call rfl Try.func20 rfl (by decide) rfl (fun w M => heldC_any w _ _ _ ((mem_ownC (n := 10) M rfl).rd) (by first | assumption | omega) (by first | assumption | omega))) ?_
       refine gas ?_
       refine gnt (hK188 _ _ ?_)
       refine gc_seq fun K189 hK189 => ?_
       refine gc_sr fun K190 hK190 => ?_
       refine gm ?_
       refine gv (qt_lss rfl rfl rfl) ?_
       refine gnt (hK190 _ _ ?_)
       refine gc_cond rfl (fun hc12 => ?_) (fun hc12 => ?_)
       ·try simp only [sA] at hc12
        first | (exfalso; omega) | exact absurd rfl hc12 | (simp at hc12)
       ·try simp only [sA] at hc12
        refine gc_skip ?_
        refine gk_then (hK189 _ _ ?_)
        refine gc_seq fun K191 hK191 => ?_
        refine gc_sr fun K192 hK192 => ?_
        refine gm ?_
        refine gm ?_
        refine gv (qt_neq rfl rfl rfl) ?_
        refine gnt (hK192 _ _ ?_)
        refine gc_cond rfl (fun hc13 => ?_) (fun hc13 => ?_)
        ·try simp only [sA] at hc13
         first | (exfalso; omega) | exact absurd rfl hc13 | (simp at hc13)
        ·try simp only [sA] at hc13
         refine gc_skip ?_
         refine gk_then (hK191 _ _ ?_)
         refine gc_seq fun K193 hK193 => ?_
         try simp only [sL]
         refine ga_start _ (fun w M => M) ?_
         refine gav 0 rfl (qts Try.underlying25 (n := 0)) ?_
         refine gav 2 rfl (qts Try.underlying25 (n := 1)) ?_
         refine ga_two 1 8 (by kernel_rfl) rfl rfl (.free rfl) (.free rfl) (fun K194 hK194 => ?_) (fun K194 hK194 => ?_)
         ·refine go_callC1 rfl rfl rfl Try.func16 rfl (by decide) rfl (fun w M => toC_any w _ _ (mem_rdC M R0)) ?_
          intro ca195 cb195 cc195 cd195 ce195 cf195 cg195 ch195
          refine hK194 _ _ (fun w M => (mem_take 14 M :)) ?_
          refine ga_two 3 8 (by kernel_rfl) rfl rfl (.free rfl) (.free rfl) (fun K197 hK197 => ?_) (fun K197 hK197 => ?_)
          ·refine go_callC1 rfl rfl rfl Try.func16 rfl (by decide) rfl (fun w M => toC_any w _ _ (mem_rdC M R1)) ?_
           intro ca198 cb198 cc198 cd198 ce198 cf198 cg198 ch198
           refine hK197 _ _ (fun w M => (mem_take 14 M :)) ?_
           refine ga_two 4 8 (by kernel_rfl) rfl rfl (.free rfl) (.free rfl) (fun K200 hK200 => ?_) (fun K200 hK200 => ?_)
           ·refine go_callCI1 rfl rfl rfl Try.func17 rfl (by decide) rfl (fun w M => himpl w _ _ ((mem_ownC (n := 14) M rfl).rd) ((mem_ownC (n := 15) M rfl).rd)) ?_
            intro ca201 cb201 cc201 cd201 ce201 cf201 cg201 ch201
            refine hK200 _ _ (fun w M => (mem_take 14 M :)) ?_
            refine gav 5 rfl (qt_move rfl rfl) ?_
            refine gav 6 rfl (qt_extract rfl rfl rfl) ?_
            refine gav 7 rfl (qt_extract rfl rfl rfl) ?_
            refine gao 8 fun K204 hK204 => ?_
            refine go_alloc (z := (.agg #[.int .i64 0, .slice none 0 0, .slice none 0 0, .slice none 0 0, .slice none 0 0])) (cs := [.int .i64 0, .slice none 0 0, .slice none 0 0, .slice none 0 0, .slice none 0 0]) rfl rfl rfl (fun w => by kernel_rfl) rfl ?_
            intro B203
            refine hK204 _ _ (fun w M => (mem_take 14 M :)) ?_
            refine gao 9 fun K205 hK205 => ?_
            refine go_storeS (n := 17) rfl rfl rfl rfl (by kernel_rfl) rfl rfl rfl ?_
            refine hK205 _ _ (fun w M => (mem_take 14 M :)) ?_
            refine gav 10 rfl (qt_assign rfl rfl) ?_
            refine ga_done (by kernel_rfl) ?_
            refine gk_then (hK193 _ _ ?_)
            refine gc_seq fun K206 hK206 => ?_
            refine gc_sr fun K207 hK207 => ?_
            refine gv (qts Try.underlying29 (n := 17)) ?_
            refine gv (qts Try.underlying29 (n := 4)) ?_
            refine g_q (.free rfl) rfl rfl (qt_call rfl Try.func18 rfl (by decide) rfl (fun w M => eqC_refl_any w _ _ _ ((mem_ownC (n := 16) M rfl).rd) ((mem_ownC (n := 5) M rfl).rd))) ?_
            refine gv (qt_not rfl rfl) ?_
            refine gm ?_
            refine gvh (qt_move rfl rfl) ?_
            refine gvh (qt_move rfl rfl) ?_
            refine gvh (qt_neq_f rfl rfl rfl (fun h => h rfl)) ?_
            refine gv (qt_pick_f rfl rfl rfl) ?_
            refine gnt (hK207 _ _ ?_)
            refine gc_cond_f rfl ?_
            refine gc_skip ?_
            refine gk_then (hK206 _ _ ?_)
            refine gc_sr fun K208 hK208 => ?_
            refine gas ?_
            refine gnt (hK208 _ _ ?_)
            refine gc_sr fun K209 hK209 => ?_
            refine gv (qts Try.underlying29 (n := 11)) ?_
            refine gm ?_
            refine g_q (.free rfl) rfl rfl (qt_call rfl Try.func20 rfl (by decide) rfl (fun w M => heldC_any w _ _ _ ((mem_ownC (n := 10) M rfl).rd) (by first | assumption | omega) (by first | assumption | omega))) ?_
            refine gas ?_
            refine gnt (hK209 _ _ ?_)
            refine gc_seq fun K210 hK210 => ?_
            refine gc_sr fun K211 hK211 => ?_
            refine gm ?_
            refine gv (qt_lss rfl rfl rfl) ?_
            refine gnt (hK211 _ _ ?_)
            refine gc_cond rfl (fun hc14 => ?_) (fun hc14 => ?_)
            ·try simp only [sA] at hc14
             first | (exfalso; omega) | exact absurd rfl hc14 | (simp at hc14)
            ·try simp only [sA] at hc14
             refine gc_skip ?_
             refine gk_then (hK210 _ _ ?_)
             refine gc_seq fun K212 hK212 => ?_
             refine gc_sr fun K213 hK213 => ?_
             refine gm ?_
             refine gm ?_
             refine gv (qt_neq rfl rfl rfl) ?_
             refine gnt (hK213 _ _ ?_)
             refine gc_cond rfl (fun hc15 => ?_) (fun hc15 => ?_)
             ·try simp only [sA] at hc15
              first | (exfalso; omega) | exact absurd rfl hc15 | (simp at hc15)
             ·try simp only [sA] at hc15
              refine gc_skip ?_
              refine gk_then (hK212 _ _ ?_)
              refine gc_sr fun K214 hK214 => ?_
              refine gas ?_
              refine gnt (hK214 _ _ ?_)
              refine gc_ret ?_
              refine ret_1 rfl rfl  (fun w M => ?_)
              exact ⟨rfl, M.1⟩
           ·refine go_alloc (z := (.agg #[.int .i64 0, .slice none 0 0, .slice none 0 0, .slice none 0 0, .slice none 0 0])) (cs := [.int .i64 0, .slice none 0 0, .slice none 0 0, .slice none 0 0, .slice none 0 0]) rfl rfl rfl (fun w => by kernel_rfl) rfl ?_
            intro B215
            refine hK200 _ _ (fun w M => (mem_take 14 M :)) ?_
            refine gao 4 fun K218 hK218 => ?_
            refine go_callCI1 rfl rfl rfl Try.func17 rfl (by decide) rfl (fun w M => himpl w _ _ ((mem_ownC (n := 14) M rfl).rd) ((mem_ownC (n := 15) M rfl).rd)) ?_
            intro ca217 cb217 cc217 cd217 ce217 cf217 cg217 ch217
            refine hK218 _ _ (fun w M => (mem_take 14 M :)) ?_
            refine gav 5 rfl (qt_move rfl rfl) ?_
            refine gav 6 rfl (qt_extract rfl rfl rfl) ?_
            refine gav 7 rfl (qt_extract rfl rfl rfl) ?_
            refine gao 9 fun K219 hK219 => ?_
            refine go_storeS (n := 16) rfl rfl rfl rfl (by kernel_rfl) rfl rfl rfl ?_
            refine hK219 _ _ (fun w M => (mem_take 14 M :)) ?_
            refine gav 10 rfl (qt_assign rfl rfl) ?_
            refine ga_done (by kernel_rfl) ?_
            refine gk_then (hK193 _ _ ?_)
            refine gc_seq fun K220 hK220 => ?_
            refine gc_sr fun K221 hK221 => ?_
            refine gv (qts Try.underlying29 (n := 16)) ?_
            refine gv (qts Try.underlying29 (n := 4)) ?_
            refine g_q (.free rfl) rfl rfl (qt_call rfl Try.func18 rfl (by decide) rfl (fun w M => eqC_refl_any w _ _ _ ((mem_ownC (n := 17) M rfl).rd) ((mem_ownC (n := 5) M rfl).rd))) ?_
            refine gv (qt_not rfl rfl) ?_
            refine gm ?_
            refine gvh (qt_move rfl rfl) ?_
            refine gvh (qt_move rfl rfl) ?_
            refine gvh (qt_neq_f rfl rfl rfl (fun h => h rfl)) ?_
            refine gv (qt_pick_f rfl rfl rfl) ?_
            refine gnt (hK221 _ _ ?_)
            refine gc_cond_f rfl ?_
            refine gc_skip ?_
            refine gk_then (hK220 _ _ ?_)
            refine gc_sr fun K222 hK222 => ?_
            refine gas ?_
            refine gnt (hK222 _ _ ?_)
            refine gc_sr fun K223 hK223 => ?_
            refine gv (qts Try.underlying29 (n := 11)) ?_
            refine gm ?_
            refine g_q (.free rfl) rfl rfl (qt_call rfl Try.func20 rfl (by decide) rfl (fun w M => heldC_any w _ _ _ ((mem_ownC (n := 10) M rfl).rd) (by first | assumption | omega) (by first | assumption | omega))) ?_
            refine gas ?_
            refine gnt (hK223 _ _ ?_)
            refine gc_seq fun K224 hK224 => ?_
            refine gc_sr fun K225 hK225 => ?_
            refine gm ?_
            refine gv (qt_lss rfl rfl rfl) ?_
            refine gnt (hK225 _ _ ?_)
            refine gc_cond rfl (fun hc16 => ?_) (fun hc16 => ?_)
            ·try simp only [sA] at hc16
             first | (exfalso; omega) | exact absurd rfl hc16 | (simp at hc16)
            ·try simp only [sA] at hc16
             refine gc_skip ?_
             refine gk_then (hK224 _ _ ?_)
             refine gc_seq fun K226 hK226 => ?_
             refine gc_sr fun K227 hK227 => ?_
             refine gm ?_
             refine gm ?_
             refine gv (qt_neq rfl rfl rfl) ?_
             refine gnt (hK227 _ _ ?_)
             refine gc_cond rfl (fun hc17 => ?_) (fun hc17 => ?_)
             ·try simp only [sA] at hc17
              first | (exfalso; omega) | exact absurd rfl hc17 | (simp at hc17)
             ·try simp only [sA] at hc17
              refine gc_skip ?_
              refine gk_then (hK226 _ _ ?_)
              refine gc_sr fun K228 hK228 => ?_
              refine gas ?_
              refine gnt (hK228 _ _ ?_)
              refine gc_ret ?_
              refine ret_1 rfl rfl  (fun w M => ?_)
              exact ⟨rfl, M.1⟩
          ·refine go_alloc (z := (.agg #[.int .i64 0, .slice none 0 0, .slice none 0 0, .slice none 0 0, .slice none 0 0])) (cs := [.int .i64 0, .slice none 0 0, .slice none 0 0, .slice none 0 0, .slice none 0 0]) rfl rfl rfl (fun w => by kernel_rfl) rfl ?_
           intro B229
           refine hK197 _ _ (fun w M => (mem_take 14 M :)) ?_
           refine gao 3 fun K232 hK232 => ?_
           refine go_callC1 rfl rfl rfl Try.func16 rfl (by decide) rfl (fun w M => toC_any w _ _ (mem_rdC M R1)) ?_
           intro ca231 cb231 cc231 cd231 ce231 cf231 cg231 ch231
           refine hK232 _ _ (fun w M => (mem_take 14 M :)) ?_
           refine gao 4 fun K234 hK234 => ?_
           refine go_callCI1 rfl rfl rfl Try.func17 rfl (by decide) rfl (fun w M => himpl w _ _ ((mem_ownC (n := 14) M rfl).rd) ((mem_ownC (n := 16) M rfl).rd)) ?_
           intro ca233 cb233 cc233 cd233 ce233 cf233 cg233 ch233
           refine hK234 _ _ (fun w M => (mem_take 14 M :)) ?_
           refine gav 5 rfl (qt_move rfl rfl) ?_
           refine gav 6 rfl (qt_extract rfl rfl rfl) ?_
           refine gav 7 rfl (qt_extract rfl rfl rfl) ?_
           refine gao 9 fun K235 hK235 => ?_
           refine go_storeS (n := 15) rfl rfl rfl rfl (by kernel_rfl) rfl rfl rfl ?_
           refine hK235 _ _ (fun w M => (mem_take 14 M :)) ?_
           refine gav 10 rfl (qt_assign rfl rfl) ?_
           refine ga_done (by kernel_rfl) ?_
           refine gk_then (hK193 _ _ ?_)
           refine gc_seq fun K236 hK236 => ?_
           refine gc_sr fun K237 hK237 => ?_
           refine gv (qts Try.underlying29 (n := 15)) ?_
           refine gv (qts Try.underlying29 (n := 4)) ?_
           refine g_q (.free rfl) rfl rfl (qt_call rfl Try.func18 rfl (by decide) rfl (fun w M => eqC_refl_any w _ _ _ ((mem_ownC (n := 17) M rfl).rd) ((mem_ownC (n := 5) M rfl).rd))) ?_
           refine gv (qt_not rfl rfl) ?_
           refine gm ?_
           refine gvh (qt_move rfl rfl) ?_
           refine gvh (qt_move rfl rfl) ?_
           refine gvh (qt_neq_f rfl rfl rfl (fun h => h rfl)) ?_
           refine gv (qt_pick_f rfl rfl rfl) ?_
           refine gnt (hK237 _ _ ?_)
           refine gc_cond_f rfl ?_
           refine gc_skip ?_
           refine gk_then (hK236 _ _ ?_)
           refine gc_sr fun K238 hK238 => ?_
           refine gas ?_
           refine gnt (hK238 _ _ ?_)
           refine gc_sr fun K239 hK239 => ?_
           refine gv (qts Try.underlying29 (n := 11)) ?_
           refine gm ?_
           refine g_q (.free rfl) rfl rfl (qt_call rfl Try.func20 rfl (by decide) rfl (fun w M => heldC_any w _ _ _ ((mem_ownC (n := 10) M rfl).rd) (by first | assumption | omega) (by first | assumption | omega))) ?_
           refine gas ?_
           refine gnt (hK239 _ _ ?_)
           refine gc_seq fun K240 hK240 => ?_
           refine gc_sr fun K241 hK241 => ?_
           refine gm ?_
           refine gv (qt_lss rfl rfl rfl) ?_
           refine gnt (hK241 _ _ ?_)
           refine gc_cond rfl (fun hc18 => ?_) (fun hc18 => ?_)
           ·try simp only [sA] at hc18
            first | (exfalso; omega) | exact absurd rfl hc18 | (simp at hc18)
           ·try simp only [sA] at hc18
            refine gc_skip ?_
            refine gk_then (hK240 _ _ ?_)
            refine gc_seq fun K242 hK242 => ?_
            refine gc_sr fun K243 hK243 => ?_
            refine gm ?_
            refine gm ?_
            refine gv (qt_neq rfl rfl rfl) ?_
            refine gnt (hK243 _ _ ?_)
            refine gc_cond rfl (fun hc19 => ?_) (fun hc19 => ?_)
            ·try simp only [sA] at hc19
             first | (exfalso; omega) | exact absurd rfl hc19 | (simp at hc19)
            ·try simp only [sA] at hc19
             refine gc_skip ?_
             refine gk_then (hK242 _ _ ?_)
             refine gc_sr fun K244 hK244 => ?_
             refine gas ?_
             refine gnt (hK244 _ _ ?_)
             refine gc_ret ?_
             refine ret_1 rfl rfl  (fun w M => ?_)
             exact ⟨rfl, M.1⟩
         ·refine go_alloc (z := (.agg #[.int .i64 0, .slice none 0 0, .slice none 0 0, .slice none 0 0, .slice none 0 0])) (cs := [.int .i64 0, .slice none 0 0, .slice none 0 0, .slice none 0 0, .slice none 0 0]) rfl rfl rfl (fun w => by kernel_rfl) rfl ?_
          intro B245
          refine hK194 _ _ (fun w M => (mem_take 14 M :)) ?_
          refine gao 1 fun K248 hK248 => ?_
          refine go_callC1 rfl rfl rfl Try.func16 rfl (by decide) rfl (fun w M => toC_any w _ _ (mem_rdC M R0)) ?_
          intro ca247 cb247 cc247 cd247 ce247 cf247 cg247 ch247
          refine hK248 _ _ (fun w M => (mem_take 14 M :)) ?_
          refine gao 3 fun K250 hK250 => ?_
          refine go_callC1 rfl rfl rfl Try.func16 rfl (by decide) rfl (fun w M => toC_any w _ _ (mem_rdC M R1)) ?_
          intro ca249 cb249 cc249 cd249 ce249 cf249 cg249 ch249
          refine hK250 _ _ (fun w M => (mem_take 14 M :)) ?_
          refine gao 4 fun K252 hK252 => ?_
          refine go_callCI1 rfl rfl rfl Try.func17 rfl (by decide) rfl (fun w M => himpl w _ _ ((mem_ownC (n := 15) M rfl).rd) ((mem_ownC (n := 16) M rfl).rd)) ?_
          intro ca251 cb251 cc251 cd251 ce251 cf251 cg251 ch251
          refine hK252 _ _ (fun w M => (mem_take 14 M :)) ?_
          refine gav 5 rfl (qt_move rfl rfl) ?_
          refine gav 6 rfl (qt_extract rfl rfl rfl) ?_
          refine gav 7 rfl (qt_extract rfl rfl rfl) ?_
          refine gao 9 fun K253 hK253 => ?_
          refine go_storeS (n := 14) rfl rfl rfl rfl (by kernel_rfl) rfl rfl rfl ?_
          refine hK253 _ _ (fun w M => (mem_take 14 M :)) ?_
          refine gav 10 rfl (qt_assign rfl rfl) ?_
          refine ga_done (by kernel_rfl) ?_
          refine gk_then (hK193 _ _ ?_)
          refine gc_seq fun K254 hK254 => ?_
          refine gc_sr fun K255 hK255 => ?_
          refine gv (qts Try.underlying29 (n := 14)) ?_
          refine gv (qts Try.underlying29 (n := 4)) ?_
          refine g_q (.free rfl) rfl rfl (qt_call rfl Try.func18 rfl (by decide) rfl (fun w M => eqC_refl_any w _ _ _ ((mem_ownC (n := 17) M rfl).rd) ((mem_ownC (n := 5) M rfl).rd))) ?_
          refine gv (qt_not rfl rfl) ?_
          refine gm ?_
          refine gvh (qt_move rfl rfl) ?_
          refine gvh (qt_move rfl rfl) ?_
          refine gvh (qt_neq_f rfl rfl rfl (fun h => h rfl)) ?_
          refine gv (qt_pick_f rfl rfl rfl) ?_
          refine gnt (hK255 _ _ ?_)
          refine gc_cond_f rfl ?_
          refine gc_skip ?_
          refine gk_then (hK254 _ _ ?_)
          refine gc_sr fun K256 hK256 => ?_
          refine gas ?_
          refine gnt (hK256 _ _ ?_)
          refine gc_sr fun K257 hK257 => ?_
          refine gv (qts Try.underlying29 (n := 11)) ?_
          refine gm ?_
          refine g_q (.free rfl) rfl rfl (qt_call rfl Try.func20 rfl (by decide) rfl (fun w M => heldC_any w _ _ _ ((mem_ownC (n := 10) M rfl).rd) (by first | assumption | omega) (by first | assumption | omega))) ?_
          refine gas ?_
          refine gnt (hK257 _ _ ?_)
          refine gc_seq fun K258 hK258 => ?_
          refine gc_sr fun K259 hK259 => ?_
          refine gm ?_
          refine gv (qt_lss rfl rfl rfl) ?_
          refine gnt (hK259 _ _ ?_)
          refine gc_cond rfl (fun hc20 => ?_) (fun hc20 => ?_)
          ·try simp only [sA] at hc20
           first | (exfalso; omega) | exact absurd rfl hc20 | (simp at hc20)
          ·try simp only [sA] at hc20
           refine gc_skip ?_
           refine gk_then (hK258 _ _ ?_)
           refine gc_seq fun K260 hK260 => ?_
           refine gc_sr fun K261 hK261 => ?_
           refine gm ?_
           refine gm ?_
           refine gv (qt_neq rfl rfl rfl) ?_
           refine gnt (hK261 _ _ ?_)
           refine gc_cond rfl (fun hc21 => ?_) (fun hc21 => ?_)
           ·try simp only [sA] at hc21
            first | (exfalso; omega) | exact absurd rfl hc21 | (simp at hc21)
           ·try simp only [sA] at hc21
            refine gc_skip ?_
            refine gk_then (hK260 _ _ ?_)
            refine gc_sr fun K262 hK262 => ?_
            refine gas ?_
            refine gnt (hK262 _ _ ?_)
            refine gc_ret ?_
            refine ret_1 rfl rfl  (fun w M => ?_)
            exact ⟨rfl, M.1⟩
    ·refine go_alloc (z := (.agg #[.int .i64 0, .slice none 0 0, .slice none 0 0, .slice none 0 0, .slice none 0 0])) (cs := [.int .i64 0, .slice none 0 0, .slice none 0 0, .slice none 0 0, .slice none 0 0]) rfl rfl rfl (fun w => by kernel_rfl) rfl ?_
     intro B263
     refine hK17 _ _ (fun w M => (mem_take 2 M :)) ?_
     refine gao 3 fun K266 hK266 => ?_
     refine go_callC1 rfl rfl rfl Try.func16 rfl (by decide) rfl (fun w M => toC_any w _ _ (mem_rdC M R1)) ?_
     intro ca265 cb265 cc265 cd265 ce265 cf265 cg265 ch265
     refine hK266 _ _ (fun w M => (mem_take 2 M :)) ?_
     refine gao 4 fun K268 hK268 => ?_
     refine go_callCI1 rfl rfl rfl Try.func15 rfl (by decide) rfl (fun w M => hspec w _ _ ((mem_ownC (n := 2) M rfl).rd) ((mem_ownC (n := 4) M rfl).rd)) ?_
     intro ca267 cb267 cc267 cd267 ce267 cf267 cg267 ch267
     refine hK268 _ _ (fun w M => (mem_take 2 M :)) ?_
     refine gav 5 rfl (qt_move rfl rfl) ?_
     refine gav 6 rfl (qt_extract rfl rfl rfl) ?_
     refine gav 7 rfl (qt_extract rfl rfl rfl) ?_
     refine gao 9 fun K269 hK269 => ?_
     refine go_storeS (n := 3) rfl rfl rfl rfl (by kernel_rfl) rfl rfl rfl ?_
     refine hK269 _ _ (fun w M => (mem_take 2 M :)) ?_
     refine gav 10 rfl (qt_assign rfl rfl) ?_
     refine ga_done (by kernel_rfl) ?_
     refine gk_then (hK13 _ _ ?_)
     refine gc_sr fun K270 hK270 => ?_
     refine gv (qts Try.underlying25 (n := 0)) ?_
     refine gop fun K272 hK272 => ?_
     refine go_callC1 rfl rfl rfl Try.func16 rfl (by decide) rfl (fun w M => toC_any w _ _ (mem_rdC M R0)) ?_
     intro ca271 cb271 cc271 cd271 ce271 cf271 cg271 ch271
     refine hK272 _ _ ?_
     refine gop fun K274 hK274 => ?_
     refine go_alloc (z := (.agg #[.int .i64 0, .slice none 0 0, .slice none 0 0, .slice none 0 0, .slice none 0 0])) (cs := [.int .i64 0, .slice none 0 0, .slice none 0 0, .slice none 0 0, .slice none 0 0]) rfl rfl rfl (fun w => by kernel_rfl) rfl ?_
     intro B273
     refine hK274 _ _ ?_
     refine gop fun K275 hK275 => ?_
     refine go_storeS (n := 7) rfl rfl rfl rfl (by kernel_rfl) rfl rfl rfl ?_
     refine hK275 _ _ ?_
     refine gnt (hK270 _ _ ?_)
     refine gc_sr fun K276 hK276 => ?_
     refine gv (qts Try.underlying25 (n := 1)) ?_
     refine gop fun K278 hK278 => ?_
     refine go_callC1 rfl rfl rfl Try.func16 rfl (by decide) rfl (fun w M => toC_any w _ _ (mem_rdC M R1)) ?_
     intro ca277 cb277 cc277 cd277 ce277 cf277 cg277 ch277
     refine hK278 _ _ ?_
     refine gop fun K280 hK280 => ?_
     refine go_alloc (z := (.agg #[.int .i64 0, .slice none 0 0, .slice none 0 0, .slice none 0 0, .slice none 0 0])) (cs := [.int .i64 0, .slice none 0 0, .slice none 0 0, .slice none 0 0, .slice none 0 0]) rfl rfl rfl (fun w => by kernel_rfl) rfl ?_
     intro B279
     refine hK280 _ _ ?_
     refine gop fun K281 hK281 => ?_
     refine go_storeS (n := 9) rfl rfl rfl rfl (by kernel_rfl) rfl rfl rfl ?_
     refine hK281 _ _ ?_
     refine gnt (hK276 _ _ ?_)
     refine gc_sr fun K282 hK282 => ?_
     refine gv (qts Try.underlying29 (n := 7)) ?_
     refine gv (qts Try.underlying29 (n := 9)) ?_
     refine gop fun K284 hK284 => ?_
     refine go_callCI1 rfl rfl rfl Try.func17 rfl (by decide) rfl (fun w M => himpl w _ _ ((mem_ownC (n := 6) M rfl).rd) ((mem_ownC (n := 8) M rfl).rd)) ?_
     intro ca283 cb283 cc283 cd283 ce283 cf283 cg283 ch283
     refine hK284 _ _ ?_
     refine gm ?_
     refine gv (qt_extract rfl rfl rfl) ?_
     refine gv (qt_extract rfl rfl rfl) ?_
     refine gop fun K286 hK286 => ?_
     refine go_alloc (z := (.agg #[.int .i64 0, .slice none 0 0, .slice none 0 0, .slice none 0 0, .slice none 0 0])) (cs := [.int .i64 0, .slice none 0 0, .slice none 0 0, .slice none 0 0, .slice none 0 0]) rfl rfl rfl (fun w => by kernel_rfl) rfl ?_
     intro B285
     refine hK286 _ _ ?_
     refine gop fun K287 hK287 => ?_
     refine go_storeS (n := 11) rfl rfl rfl rfl (by kernel_rfl) rfl rfl rfl ?_
     refine hK287 _ _ ?_
     refine gas ?_
     refine gnt (hK282 _ _ ?_)
     refine gc_seq fun K288 hK288 => ?_
     refine gc_sr fun K289 hK289 => ?_
     refine gv (qts Try.underlying29 (n := 11)) ?_
     refine gv (qts Try.underlying29 (n := 3)) ?_
     refine g_q (.free rfl) rfl rfl (qt_call rfl Try.func18 rfl (by decide) rfl (fun w M => eqC_refl_any w _ _ _ ((mem_ownC (n := 10) M rfl).rd) ((mem_ownC (n := 5) M rfl).rd))) ?_
     refine gv (qt_not rfl rfl) ?_
     refine gm ?_
     refine gvh (qt_move rfl rfl) ?_
     refine gvh (qt_move rfl rfl) ?_
     refine gvh (qt_neq_f rfl rfl rfl (fun h => h rfl)) ?_
     refine gv (qt_pick_f rfl rfl rfl) ?_
     refine gnt (hK289 _ _ ?_)
     refine gc_cond_f rfl ?_
     refine gc_skip ?_
     refine gk_then (hK288 _ _ ?_)
     refine gc_seq fun K290 hK290 => ?_
     refine gc_seq fun K291 hK291 => ?_
     try simp only [sL]
     refine ga_start _ (fun w M => M) ?_
     refine gav 0 rfl (qts Try.underlying29 (n := 7)) ?_
     refine gav 1 rfl (qts Try.underlying25 (n := 0)) ?_
     refine gao 2 fun K293 hK293 => ?_
     refine go_callC1 rfl rfl rfl Try.func16 rfl (by decide) rfl (fun w M => toC_any w _ _ (mem_rdC M R0)) ?_
     intro ca292 cb292 cc292 cd292 ce292 cf292 cg292 ch292
     refine hK293 _ _ (fun w M => (mem_take 12 M :)) ?_
     refine gao 3 fun K294 hK294 => ?_
     refine go_q rfl rfl (qt_call rfl Try.func18 rfl (by decide) rfl (fun w M => eqC_refl_any w _ _ _ ((mem_ownC (n := 6) M rfl).rd) ((mem_ownC (n := 12) M rfl).rd))) ?_
     refine hK294 _ _ (fun w M => (mem_take 12 M :)) ?_
     refine gav 4 rfl (qt_not rfl rfl) ?_
     refine ga_done (by kernel_rfl) ?_
     refine gk_then (hK291 _ _ ?_)
     refine gc_cond_f rfl ?_
     refine gc_skip ?_
     refine gk_then (hK290 _ _ ?_)
     refine gc_seq fun K295 hK295 => ?_
     refine gc_seq fun K296 hK296 => ?_
     try simp only [sL]
     refine ga_start _ (fun w M => M) ?_
     refine gav 0 rfl (qts Try.underlying29 (n := 9)) ?_
     refine gav 1 rfl (qts Try.underlying25 (n := 1)) ?_
     refine gao 2 fun K298 hK298 => ?_
     refine go_callC1 rfl rfl rfl Try.func16 rfl (by decide) rfl (fun w M => toC_any w _ _ (mem_rdC M R1)) ?_
     intro ca297 cb297 cc297 cd297 ce297 cf297 cg297 ch297
     refine hK298 _ _ (fun w M => (mem_take 13 M :)) ?_
     refine gao 3 fun K299 hK299 => ?_
     refine go_q rfl rfl (qt_call rfl Try.func18 rfl (by decide) rfl (fun w M => eqC_refl_any w _ _ _ ((mem_ownC (n := 8) M rfl).rd) ((mem_ownC (n := 13) M rfl).rd))) ?_
     refine hK299 _ _ (fun w M => (mem_take 13 M :)) ?_
     refine gav 4 rfl (qt_not rfl rfl) ?_
     refine ga_done (by kernel_rfl) ?_
     refine gk_then (hK296 _ _ ?_)
     refine gc_cond_f rfl ?_
     refine gc_skip ?_
     refine gk_then (hK295 _ _ ?_)
     refine gc_sr fun K300 hK300 => ?_
     refine gas ?_
     refine gnt (hK300 _ _ ?_)
     refine gc_sr fun K301 hK301 => ?_
     refine gv (qts Try.underlying29 (n := 7)) ?_
     refine gm ?_
     refine gop fun K302 hK302 => ?_
     refine go_mark (ownCI _ (mkC _ _)) (n := 6) rfl rfl rfl Try.func19 rfl (by decide) rfl rfl (fun w S hS => markC_any w S _ _ _ hS (by omega) (by omega)) ?_
     refine hK302 _ _ ?_
     refine gas ?_
     refine gnt (hK301 _ _ ?_)
     refine gc_sr fun K303 hK303 => ?_
     refine gv (qts Try.underlying29 (n := 9)) ?_
     refine gm ?_
     refine gop fun K304 hK304 => ?_
     refine go_mark (ownCI _ (mkC _ _)) (n := 8) rfl rfl rfl Try.func19 rfl (by decide) rfl rfl (fun w S hS => markC_any w S _ _ _ hS (by omega) (by omega)) ?_
     refine hK304 _ _ ?_
     refine gas ?_
     refine gnt (hK303 _ _ ?_)
     refine gc_seq fun K305 hK305 => ?_
     refine gc_sr fun K306 hK306 => ?_
     refine gm ?_
     refine gv (qt_lss rfl rfl rfl) ?_
     refine g_splitv (.free rfl) rfl rfl (qt_move rfl rfl) (fun hs21_2 => ?_) (fun hs21_2 => ?_)
     ·try simp only [sA] at hs21_2
      first | (exfalso; omega) | exact absurd rfl hs21_2 | (simp at hs21_2)
     ·try simp only [sA] at hs21_2
      refine gvh (qts Try.underlying29 (n := 11)) ?_
      refine gvh (qts Try.underlying29 (n := 3)) ?_
      refine g_q (.held _ _ _ rfl rfl rfl) rfl rfl (qt_call rfl Try.func18 rfl (by decide) rfl (fun w M => eqC_refl_any w _ _ _ ((mem_ownC (n := 10) M rfl).rd) ((mem_ownC (n := 5) M rfl).rd))) ?_
      refine gvh (qt_not rfl rfl) ?_
      refine gv (qt_pick_f rfl rfl rfl) ?_
      refine gm ?_
      refine gvh (qt_move rfl rfl) ?_
      refine gvh (qt_move rfl rfl) ?_
      refine gvh (qt_neq_f rfl rfl rfl (fun h => h rfl)) ?_
      refine gv (qt_pick_f rfl rfl rfl) ?_
      refine gnt (hK306 _ _ ?_)
      refine gc_cond_f rfl ?_
      refine gc_skip ?_
      refine gk_then (hK305 _ _ ?_)
      refine gc_sr fun K307 hK307 => ?_
      refine gas ?_
      refine gnt (hK307 _ _ ?_)
      refine gc_sr fun K308 hK308 => ?_
      refine gv (qts Try.underlying29 (n := 11)) ?_
      refine gm ?_
      refine gop fun K309 hK309 => ?_
      refine go_mark (ownCI _ (mkC _ _)) (n := 10) rfl rfl rfl Try.func19 rfl (by decide) rfl rfl (fun w S hS => markC_any w S _ _ _ hS (by omega) (by omega)) ?_
      refine hK309 _ _ ?_
      refine gas ?_
      refine gnt (hK308 _ _ ?_)
      refine gc_sr fun K310 hK310 => ?_
      refine gas ?_
      refine gnt (hK310 _ _ ?_)
      refine gc_sr fun K311 hK311 => ?_
      refine gv (qts Try.underlying29 (n := 11)) ?_
      refine gm ?_
      refine g_q (.free rfl) rfl rfl (qt_call rfl Try.func20 rfl (by decide) rfl (fun w M => heldC_any w _ _ _ ((mem_ownC (n := 10) M rfl).rd) (by first | assumption | omega) (by first | assumption | omega))) ?_
      refine gas ?_
      refine gnt (hK311 _ _ ?_)
      refine gc_seq fun K312 hK312 => ?_
      refine gc_sr fun K313 hK313 => ?_
      refine gm ?_
      refine gv (qt_lss rfl rfl rfl) ?_
      refine gnt (hK313 _ _ ?_)
      refine gc_cond rfl (fun hc22 => ?_) (fun hc22 => ?_)
      ·try simp only [sA] at hc22
       first | (exfalso; omega) | exact absurd rfl hc22 | (simp at hc22)
      ·try simp only [sA] at hc22
       refine gc_skip ?_
       refine gk_then (hK312 _ _ ?_)
       refine gc_seq fun K314 hK314 => ?_
       refine gc_sr fun K315 hK315 => ?_
       refine gm ?_
       refine gm ?_
       refine gv (qt_neq rfl rfl rfl) ?_
       refine gnt (hK315 _ _ ?_)
       refine gc_cond rfl (fun hc23 => ?_) (fun hc23 => ?_)
       ·try simp only [sA] at hc23
        first | (exfalso; omega) | exact absurd rfl hc23 | (simp at hc23)
       ·try simp only [sA] at hc23
        refine gc_skip ?_
        refine gk_then (hK314 _ _ ?_)
        refine gc_seq fun K316 hK316 => ?_
        try simp only [sL]
        refine ga_start _ (fun w M => M) ?_
        refine gav 0 rfl (qts Try.underlying25 (n := 0)) ?_
        refine gav 2 rfl (qts Try.underlying25 (n := 1)) ?_
        refine ga_two 1 8 (by kernel_rfl) rfl rfl (.free rfl) (.free rfl) (fun K317 hK317 => ?_) (fun K317 hK317 => ?_)
        ·refine go_callC1 rfl rfl rfl Try.func16 rfl (by decide) rfl (fun w M => toC_any w _ _ (mem_rdC M R0)) ?_
         intro ca318 cb318 cc318 cd318 ce318 cf318 cg318 ch318
         refine hK317 _ _ (fun w M => (mem_take 14 M :)) ?_
         refine ga_two 3 8 (by kernel_rfl) rfl rfl (.free rfl) (.free rfl) (fun K320 hK320 => ?_) (fun K320 hK320 => ?_)
         ·refine go_callC1 rfl rfl rfl Try.func16 rfl (by decide) rfl (fun w M => toC_any w _ _ (mem_rdC M R1)) ?_
          intro ca321 cb321 cc321 cd321 ce321 cf321 cg321 ch321
          refine hK320 _ _ (fun w M => (mem_take 14 M :)) ?_
          refine ga_two 4 8 (by kernel_rfl) rfl rfl (.free rfl) (.free rfl) (fun K323 hK323 => ?_) (fun K323 hK323 => ?_)
          ·refine go_callCI1 rfl rfl rfl Try.func17 rfl (by decide) rfl (fun w M => himpl w _ _ ((mem_ownC (n := 14) M rfl).rd) ((mem_ownC (n := 15) M rfl).rd)) ?_
           intro ca324 cb324 cc324 cd324 ce324 cf324 cg324 ch324
           refine hK323 _ _ (fun w M => (mem_take 14 M :)) ?_
           refine gav 5 rfl (qt_move rfl rfl) ?_
           refine gav 6 rfl (qt_extract rfl rfl rfl) ?_
           refine gav 7 rfl (qt_extract rfl rfl rfl) ?_
           refine gao 8 fun K327 hK327 => ?_
           refine go_alloc (z := (.agg #[.int .i64 0, .slice none 0 0, .slice none 0 0, .slice none 0 0, .slice none 0 0])) (cs := [.int .i64 0, .slice none 0 0, .slice none 0 0, .slice none 0 0, .slice none 0 0]) rfl rfl rfl (fun w => by kernel_rfl) rfl ?_
           intro B326
           refine hK327 _ _ (fun w M => (mem_take 14 M :)) ?_
           refine gao 9 fun K328 hK328 => ?_
           refine go_storeS (n := 17) rfl rfl rfl rfl (by kernel_rfl) rfl rfl rfl ?_
           refine hK328 _ _ (fun w M => (mem_take 14 M :)) ?_
           refine gav 10 rfl (qt_assign rfl rfl) ?_
           refine ga_done (by kernel_rfl) ?_
           refine gk_then (hK316 _ _ ?_)
           refine gc_seq fun K329 hK329 => ?_
           refine gc_sr fun K330 hK330 => ?_
           refine gv (qts Try.underlying29 (n := 17)) ?_
           refine gv (qts Try.underlying29 (n := 3)) ?_
           refine g_q (.free rfl) rfl rfl (qt_call rfl Try.func18 rfl (by decide) rfl (fun w M => eqC_refl_any w _ _ _ ((mem_ownC (n := 16) M rfl).rd) ((mem_ownC (n := 5) M rfl).rd))) ?_
           refine gv (qt_not rfl rfl) ?_
           refine gm ?_
           refine gvh (qt_move rfl rfl) ?_
           refine gvh (qt_move rfl rfl) ?_
           refine gvh (qt_neq_f rfl rfl rfl (fun h => h rfl)) ?_
           refine gv (qt_pick_f rfl rfl rfl) ?_
           refine gnt (hK330 _ _ ?_)
           refine gc_cond_f rfl ?_
           refine gc_skip ?_
           refine gk_then (hK329 _ _ ?_)
           refine gc_sr fun K331 hK331 => ?_
           refine gas ?_
           refine gnt (hK331 _ _ ?_)
           refine gc_sr fun K332 hK332 => ?_
           refine gv (qts Try.underlying29 (n := 11)) ?_
           refine gm ?_
           refine g_q (.free rfl) rfl rfl (qt_call rfl Try.func20 rfl (by decide) rfl (fun w M => heldC_any w _ _ _ ((mem_ownC (n := 10) M rfl).rd) (by first | assumption | omega) (by first | assumption | omega))) ?_
           refine gas ?_
           refine gnt (hK332 _ _ ?_)
           refine gc_seq fun K333 hK333 => ?_
           refine gc_sr fun K334 hK334 => ?_
           refine gm ?_
           refine gv (qt_lss rfl rfl rfl) ?_
           refine gnt (hK334 _ _ ?_)
           refine gc_cond rfl (fun hc24 => ?_) (fun hc24 => ?_)
           ·try simp only [sA] at hc24
            first | (exfalso; omega) | exact absurd rfl hc24 | (simp at hc24)
           ·try simp only [sA] at hc24
            refine gc_skip ?_
            refine gk_then (hK333 _ _ ?_)
            refine gc_seq fun K335 hK335 => ?_
            refine gc_sr fun K336 hK336 => ?_
            refine gm ?_
            refine gm ?_
            refine gv (qt_neq rfl rfl rfl) ?_
            refine gnt (hK336 _ _ ?_)
            refine gc_cond rfl (fun hc25 => ?_) (fun hc25 => ?_)
            ·try simp only [sA] at hc25
             first | (exfalso; omega) | exact absurd rfl hc25 | (simp at hc25)
            ·try simp only [sA] at hc25
             refine gc_skip ?_
             refine gk_then (hK335 _ _ ?_)
             refine gc_sr fun K337 hK337 => ?_
             refine gas ?_
             refine gnt (hK337 _ _ ?_)
             refine gc_ret ?_
             refine ret_1 rfl rfl  (fun w M => ?_)
             exact ⟨rfl, M.1⟩
          ·refine go_alloc (z := (.agg #[.int .i64 0, .slice none 0 0, .slice none 0 0, .slice none 0 0, .slice none 0 0])) (cs := [.int .i64 0, .slice none 0 0, .slice none 0 0, .slice none 0 0, .slice none 0 0]) rfl rfl rfl (fun w => by kernel_rfl) rfl ?_
           intro B338
           refine hK323 _ _ (fun w M => (mem_take 14 M :)) ?_
           refine gao 4 fun K341 hK341 => ?_
           refine go_callCI1 rfl rfl rfl Try.func17 rfl (by decide) rfl (fun w M => himpl w _ _ ((mem_ownC (n := 14) M rfl).rd) ((mem_ownC (n := 15) M rfl).rd)) ?_
           intro ca340 cb340 cc340 cd340 ce340 cf340 cg340 ch340
           refine hK341 _ _ (fun w M => (mem_take 14 M :)) ?_
           refine gav 5 rfl (qt_move rfl rfl) ?_
           refine gav 6 rfl (qt_extract rfl rfl rfl) ?_
           refine gav 7 rfl (qt_extract rfl rfl rfl) ?_
           refine gao 9 fun K342 hK342 => ?_
           refine go_storeS (n := 16) rfl rfl rfl rfl (by kernel_rfl) rfl rfl rfl ?_
           refine hK342 _ _ (fun w M => (mem_take 14 M :)) ?_
           refine gav 10 rfl (qt_assign rfl rfl) ?_
           refine ga_done (by kernel_rfl) ?_
           refine gk_then (hK316 _ _ ?_)
           refine gc_seq fun K343 hK343 => ?_
           refine gc_sr fun K344 hK344 => ?_
           refine gv (qts Try.underlying29 (n := 16)) ?_
           refine gv (qts Try.underlying29 (n := 3)) ?_
           refine g_q (.free rfl) rfl rfl (qt_call rfl Try.func18 rfl (by decide) rfl (fun w M => eqC_refl_any w _ _ _ ((mem_ownC (n := 17) M rfl).rd) ((mem_ownC (n := 5) M rfl).rd))) ?_
           refine gv (qt_not rfl rfl) ?_
           refine gm ?_
           refine gvh (qt_move rfl rfl) ?_
           refine gvh (qt_move rfl rfl) ?_
           refine gvh (qt_neq_f rfl rfl rfl (fun h => h rfl)) ?_
           refine gv (qt_pick_f rfl rfl rfl) ?_
           refine gnt (hK344 _ _ ?_)
           refine gc_cond_f rfl ?_
           refine gc_skip ?_
           refine gk_then (hK343 _ _ ?_)
           refine gc_sr fun K345 hK345 => ?_
           refine gas ?_
           refine gnt (hK345 _ _ ?_)
           refine gc_sr fun K346 hK346 => ?_
           refine gv (qts Try.underlying29 (n := 11)) ?_
           refine gm ?_
           refine g_q (.free rfl) rfl rfl (qt_call rfl Try.func20 rfl (by decide) rfl (fun w M => heldC_any w _ _ _ ((mem_ownC (n := 10) M rfl).rd) (by first | assumption | omega) (by first | assumption | omega))) ?_
           refine gas ?_
           refine gnt (hK346 _ _ ?_)
           refine gc_seq fun K347 hK347 => ?_
           refine gc_sr fun K348 hK348 => ?_
           refine gm ?_
           refine gv (qt_lss rfl rfl rfl) ?_
           refine gnt (hK348 _ _ ?_)
           refine gc_cond rfl (fun hc26 => ?_) (fun hc26 => ?_)
           ·try simp only [sA] at hc26
            first | (exfalso; omega) | exact absurd rfl hc26 | (simp at hc26)
           ·try simp only [sA] at hc26
            refine gc_skip ?_
            refine gk_then (hK347 _ _ ?_)
            refine gc_seq fun K349 hK349 => ?_
            refine gc_sr fun K350 hK350 => ?_
            refine gm ?_
            refine gm ?_
            refine gv (qt_neq rfl rfl rfl) ?_
            refine gnt (hK350 _ _ ?_)
            refine gc_cond rfl (fun hc27 => ?_) (fun hc27 => ?_)
            ·try simp only [sA] at hc27
             first | (exfalso; omega) | exact absurd rfl hc27 | (simp at hc27)
            ·try simp only [sA] at hc27
             refine gc_skip ?_
             refine gk_then (hK349 _ _ ?_)
             refine gc_sr fun K351 hK351 => ?_
             refine gas ?_
             refine gnt (hK351 _ _ ?_)
             refine gc_ret ?_
             refine ret_1 rfl rfl  (fun w M => ?_)
             exact ⟨rfl, M.1⟩
         ·refine go_alloc (z := (.agg #[.int .i64 0, .slice none 0 0, .slice none 0 0, .slice none 0 0, .slice none 0 0])) (cs := [.int .i64 0, .slice none 0 0, .slice none 0 0, .slice none 0 0, .slice none 0 0]) rfl rfl rfl (fun w => by kernel_rfl) rfl ?_
          intro B352
          refine hK320 _ _ (fun w M => (mem_take 14 M :)) ?_
          refine gao 3 fun K355 hK355 => ?_
          refine go_callC1 rfl rfl rfl Try.func16 rfl (by decide) rfl (fun w M => toC_any w _ _ (mem_rdC M R1)) ?_
          intro ca354 cb354 cc354 cd354 ce354 cf354 cg354 ch354
          refine hK355 _ _ (fun w M => (mem_take 14 M :)) ?_
          refine gao 4 fun K357 hK357 => ?_
          refine go_callCI1 rfl rfl rfl Try.func17 rfl (by decide) rfl (fun w M => himpl w _ _ ((mem_ownC (n := 14) M rfl).rd) ((mem_ownC (n := 16) M rfl).rd)) ?_
          intro ca356 cb356 cc356 cd356 ce356 cf356 cg356 ch356
          refine hK357 _ _ (fun w M => (mem_take 14 M :)) ?_
          refine gav 5 rfl (qt_move rfl rfl) ?_
          refine gav 6 rfl (qt_extract rfl rfl rfl) ?_
          refine gav 7 rfl (qt_extract rfl rfl rfl) ?_
          refine gao 9 fun K358 hK358 => ?_
          refine go_storeS (n := 15) rfl rfl rfl rfl (by kernel_rfl) rfl rfl rfl ?_
          refine hK358 _ _ (fun w M => (mem_take 14 M :)) ?_
          refine gav 10 rfl (qt_assign rfl rfl) ?_
          refine ga_done (by kernel_rfl) ?_
          refine gk_then (hK316 _ _ ?_)
          refine gc_seq fun K359 hK359 => ?_
          refine gc_sr fun K360 hK360 => ?_
          refine gv (qts Try.underlying29 (n := 15)) ?_
          refine gv (qts Try.underlying29 (n := 3)) ?_
          refine g_q (.free rfl) rfl rfl (qt_call rfl Try.func18 rfl (by decide) rfl (fun w M => eqC_refl_any w _ _ _ ((mem_ownC (n := 17) M rfl).rd) ((mem_ownC (n := 5) M rfl).rd))) ?_
          refine gv (qt_not rfl rfl) ?_
          refine gm ?_
          refine gvh (qt_move rfl rfl) ?_
          refine gvh (qt_move rfl rfl) ?_
          refine gvh (qt_neq_f rfl rfl rfl (fun h => h rfl)) ?_
          refine gv (qt_pick_f rfl rfl rfl) ?_
          refine gnt (hK360 _ _ ?_)
          refine gc_cond_f rfl ?_
          refine gc_skip ?_
          refine gk_then (hK359 _ _ ?_)
          refine gc_sr fun K361 hK361 => ?_
          refine gas ?_
          refine gnt (hK361 _ _ ?_)
          refine gc_sr fun K362 hK362 => ?_
          refine gv (qts Try.underlying29 (n := 11)) ?_
          refine gm ?_
          refine g_q (.free rfl) rfl rfl (qt_call rfl Try.func20 rfl (by decide) rfl (fun w M => heldC_any w _ _ _ ((mem_ownC (n := 10) M rfl).rd) (by first | assumption | omega) (by first | assumption | omega))) ?_
          refine gas ?_
          refine gnt (hK362 _ _ ?_)
          refine gc_seq fun K363 hK363 => ?_
          refine gc_sr fun K364 hK364 => ?_
          refine gm ?_
          refine gv (qt_lss rfl rfl rfl) ?_
          refine gnt (hK364 _ _ ?_)
          refine gc_cond rfl (fun hc28 => ?_) (fun hc28 => ?_)
          ·try simp only [sA] at hc28
           first | (exfalso; omega) | exact absurd rfl hc28 | (simp at hc28)
          ·try simp only [sA] at hc28
           refine gc_skip ?_
           refine gk_then (hK363 _ _ ?_)
           refine gc_seq fun K365 hK365 => ?_
           refine gc_sr fun K366 hK366 => ?_
           refine gm ?_
           refine gm ?_
           refine gv (qt_neq rfl rfl rfl) ?_
           refine gnt (hK366 _ _ ?_)
           refine gc_cond rfl (fun hc29 => ?_) (fun hc29 => ?_)
           ·try simp only [sA] at hc29
            first | (exfalso; omega) | exact absurd rfl hc29 | (simp at hc29)
           ·try simp only [sA] at hc29
            refine gc_skip ?_
            refine gk_then (hK365 _ _ ?_)
            refine gc_sr fun K367 hK367 => ?_
            refine gas ?_
            refine gnt (hK367 _ _ ?_)
            refine gc_ret ?_
            refine ret_1 rfl rfl  (fun w M => ?_)
            exact ⟨rfl, M.1⟩
        ·refine go_alloc (z := (.agg #[.int .i64 0, .slice none 0 0, .slice none 0 0, .slice none 0 0, .slice none 0 0])) (cs := [.int .i64 0, .slice none 0 0, .slice none 0 0, .slice none 0 0, .slice none 0 0]) rfl rfl rfl (fun w => by kernel_rfl) rfl ?_
         intro B368
         refine hK317 _ _ (fun w M => (mem_take 14 M :)) ?_
         refine gao 1 fun K371 hK371 => ?_
         refine go_callC1 rfl rfl rfl Try.func16 rfl (by decide) rfl (fun w M => toC_any w _ _ (mem_rdC M R0)) ?_
         intro ca370 cb370 cc370 cd370 ce370 cf370 cg370 ch370
         refine hK371 _ _ (fun w M => (mem_take 14 M :)) ?_
         refine gao 3 fun K373 hK373 => ?_
         refine go_callC1 rfl rfl rfl Try.func16 rfl (by decide) rfl (fun w M => toC_any w _ _ (mem_rdC M R1)) ?_
         intro ca372 cb372 cc372 cd372 ce372 cf372 cg372 ch372
         refine hK373 _ _ (fun w M => (mem_take 14 M :)) ?_
         refine gao 4 fun K375 hK375 => ?_
         refine go_callCI1 rfl rfl rfl Try.func17 rfl (by decide) rfl (fun w M => himpl w _ _ ((mem_ownC (n := 15) M rfl).rd) ((mem_ownC (n := 16) M rfl).rd)) ?_
         intro ca374 cb374 cc374 cd374 ce374 cf374 cg374 ch374
         refine hK375 _ _ (fun w M => (mem_take 14 M :)) ?_
         refine gav 5 rfl (qt_move rfl rfl) ?_
         refine gav 6 rfl (qt_extract rfl rfl rfl) ?_
         refine gav 7 rfl (qt_extract rfl rfl rfl) ?_
         refine gao 9 fun K376 hK376 => ?_
         refine go_storeS (n := 14) rfl rfl rfl rfl (by kernel_rfl) rfl rfl rfl ?_
         refine hK376 _ _ (fun w M => (mem_take 14 M :)) ?_
         refine gav 10 rfl (qt_assign rfl rfl) ?_
         refine ga_done (by kernel_rfl) ?_
         refine gk_then (hK316 _ _ ?_)
         refine gc_seq fun K377 hK377 => ?_
         refine gc_sr fun K378 hK378 => ?_
         refine gv (qts Try.underlying29 (n := 14)) ?_
         refine gv (qts Try.underlying29 (n := 3)) ?_
         refine g_q (.free rfl) rfl rfl (qt_call rfl Try.func18 rfl (by decide) rfl (fun w M => eqC_refl_any w _ _ _ ((mem_ownC (n := 17) M rfl).rd) ((mem_ownC (n := 5) M rfl).rd))) ?_
         refine gv (qt_not rfl rfl) ?_
         refine gm ?_
         refine gvh (qt_move rfl rfl) ?_
         refine gvh (qt_move rfl rfl) ?_
         refine gvh (qt_neq_f rfl rfl rfl (fun h => h rfl)) ?_
         refine gv (qt_pick_f rfl rfl rfl) ?_
         refine gnt (hK378 _ _ ?_)
         refine gc_cond_f rfl ?_
         refine gc_skip ?_
         refine gk_then (hK377 _ _ ?_)
         refine gc_sr fun K379 hK379 => ?_
         refine gas ?_
         refine gnt (hK379 _ _ ?_)
         refine gc_sr fun K380 hK380 => ?_
         refine gv (qts Try.underlying29 (n := 11)) ?_
         refine gm ?_
         refine g_q (.free rfl) rfl rfl (qt_call rfl Try.func20 rfl (by decide) rfl (fun w M => heldC_any w _ _ _ ((mem_ownC (n := 10) M rfl).rd) (by first | assumption | omega) (by first | assumption | omega))) ?_
         refine gas ?_
         refine gnt (hK380 _ _ ?_)
         refine gc_seq fun K381 hK381 => ?_
         refine gc_sr fun K382 hK382 => ?_
         refine gm ?_
         refine gv (qt_lss rfl rfl rfl) ?_
         refine gnt (hK382 _ _ ?_)
         refine gc_cond rfl (fun hc30 => ?_) (fun hc30 => ?_)
         ·try simp only [sA] at hc30
          first | (exfalso; omega) | exact absurd rfl hc30 | (simp at hc30)
         ·try simp only [sA] at hc30
          refine gc_skip ?_
          refine gk_then (hK381 _ _ ?_)
          refine gc_seq fun K383 hK383 => ?_
          refine gc_sr fun K384 hK384 => ?_
          refine gm ?_
          refine gm ?_
          refine gv (qt_neq rfl rfl rfl) ?_
          refine gnt (hK384 _ _ ?_)
          refine gc_cond rfl (fun hc31 => ?_) (fun hc31 => ?_)
          ·try simp only [sA] at hc31
           first | (exfalso; omega) | exact absurd rfl hc31 | (simp at hc31)
          ·try simp only [sA] at hc31
           refine gc_skip ?_
           refine gk_then (hK383 _ _ ?_)
           refine gc_sr fun K385 hK385 => ?_
           refine gas ?_
           refine gnt (hK385 _ _ ?_)
           refine gc_ret ?_
           refine ret_1 rfl rfl  (fun w M => ?_)
           exact ⟨rfl, M.1⟩
   ·refine go_alloc (z := (.agg #[.int .i64 0, .slice none 0 0, .slice none 0 0, .slice none 0 0, .slice none 0 0])) (cs := [.int .i64 0, .slice none 0 0, .slice none 0 0, .slice none 0 0, .slice none 0 0]) rfl rfl rfl (fun w => by kernel_rfl) rfl ?_
    intro B386
    refine hK14 _ _ (fun w M => (mem_take 2 M :)) ?_
    refine gao 1 fun K389 hK389 => ?_
    refine go_callC1 rfl rfl rfl Try.func16 rfl (by decide) rfl (fun w M => toC_any w _ _ (mem_rdC M R0)) ?_
    intro ca388 cb388 cc388 cd388 ce388 cf388 cg388 ch388
    refine hK389 _ _ (fun w M => (mem_take 2 M :)) ?_
    refine gao 3 fun K391 hK391 => ?_
    refine go_callC1 rfl rfl rfl Try.func16 rfl (by decide) rfl (fun w M => toC_any w _ _ (mem_rdC M R1)) ?_
    intro ca390 cb390 cc390 cd390 ce390 cf390 cg390 ch390
    refine hK391 _ _ (fun w M => (mem_take 2 M :)) ?_
    refine gao 4 fun K393 hK393 => ?_
    refine go_callCI1 rfl rfl rfl Try.func15 rfl (by decide) rfl (fun w M => hspec w _ _ ((mem_ownC (n := 3) M rfl).rd) ((mem_ownC (n := 4) M rfl).rd)) ?_
    intro ca392 cb392 cc392 cd392 ce392 cf392 cg392 ch392
    refine hK393 _ _ (fun w M => (mem_take 2 M :)) ?_
    refine gav 5 rfl (qt_move rfl rfl) ?_
    refine gav 6 rfl (qt_extract rfl rfl rfl) ?_
    refine gav 7 rfl (qt_extract rfl rfl rfl) ?_
    refine gao 9 fun K394 hK394 => ?_
    refine go_storeS (n := 2) rfl rfl rfl rfl (by kernel_rfl) rfl rfl rfl ?_
    refine hK394 _ _ (fun w M => (mem_take 2 M :)) ?_
    refine gav 10 rfl (qt_assign rfl rfl) ?_
    refine ga_done (by kernel_rfl) ?_
    refine gk_then (hK13 _ _ ?_)
    refine gc_sr fun K395 hK395 => ?_
    refine gv (qts Try.underlying25 (n := 0)) ?_
    refine gop fun K397 hK397 => ?_
    refine go_callC1 rfl rfl rfl Try.func16 rfl (by decide) rfl (fun w M => toC_any w _ _ (mem_rdC M R0)) ?_
    intro ca396 cb396 cc396 cd396 ce396 cf396 cg396 ch396
    refine hK397 _ _ ?_
    refine gop fun K399 hK399 => ?_
    refine go_alloc (z := (.agg #[.int .i64 0, .slice none 0 0, .slice none 0 0, .slice none 0 0, .slice none 0 0])) (cs := [.int .i64 0, .slice none 0 0, .slice none 0 0, .slice none 0 0, .slice none 0 0]) rfl rfl rfl (fun w => by kernel_rfl) rfl ?_
    intro B398
    refine hK399 _ _ ?_
    refine gop fun K400 hK400 => ?_
    refine go_storeS (n := 7) rfl rfl rfl rfl (by kernel_rfl) rfl rfl rfl ?_
    refine hK400 _ _ ?_
    refine gnt (hK395 _ _ ?_)
    refine gc_sr fun K401 hK401 => ?_
    refine gv (qts Try.underlying25 (n := 1)) ?_
    refine gop fun K403 hK403 => ?_
    refine go_callC1 rfl rfl rfl Try.func16 rfl (by decide) rfl (fun w M => toC_any w _ _ (mem_rdC M R1)) ?_
    intro ca402 cb402 cc402 cd402 ce402 cf402 cg402 ch402
    refine hK403 _ _ ?_
    refine gop fun K405 hK405 => ?_
    refine go_alloc (z := (.agg #[.int .i64 0, .slice none 0 0, .slice none 0 0, .slice none 0 0, .slice none 0 0])) (cs := [.int .i64 0, .slice none 0 0, .slice none 0 0, .slice none 0 0, .slice none 0 0]) rfl rfl rfl (fun w => by kernel_rfl) rfl ?_
    intro B404
    refine hK405 _ _ ?_
    refine gop fun K406 hK406 => ?_
    refine go_storeS (n := 9) rfl rfl rfl rfl (by kernel_rfl) rfl rfl rfl ?_
    refine hK406 _ _ ?_
    refine gnt (hK401 _ _ ?_)
    refine gc_sr fun K407 hK407 => ?_
    refine gv (qts Try.underlying29 (n := 7)) ?_
    refine gv (qts Try.underlying29 (n := 9)) ?_
    refine gop fun K409 hK409 => ?_
    refine go_callCI1 rfl rfl rfl Try.func17 rfl (by decide) rfl (fun w M => himpl w _ _ ((mem_ownC (n := 6) M rfl).rd) ((mem_ownC (n := 8) M rfl).rd)) ?_
    intro ca408 cb408 cc408 cd408 ce408 cf408 cg408 ch408
    refine hK409 _ _ ?_
    refine gm ?_
    refine gv (qt_extract rfl rfl rfl) ?_
    refine gv (qt_extract rfl rfl rfl) ?_
    refine gop fun K411 hK411 => ?_
    refine go_alloc (z := (.agg #[.int .i64 0, .slice none 0 0, .slice none 0 0, .slice none 0 0, .slice none 0 0])) (cs := [.int .i64 0, .slice none 0 0, .slice none 0 0, .slice none 0 0, .slice none 0 0]) rfl rfl rfl (fun w => by kernel_rfl) rfl ?_
    intro B410
    refine hK411 _ _ ?_
    refine gop fun K412 hK412 => ?_
    refine go_storeS (n := 11) rfl rfl rfl rfl (by kernel_rfl) rfl rfl rfl ?_
    refine hK412 _ _ ?_
    refine gas ?_
    refine gnt (hK407 _ _ ?_)
    refine gc_seq fun K413 hK413 => ?_
    refine gc_sr fun K414 hK414 => ?_
    refine gv (qts Try.underlying29 (n := 11)) ?_
    refine gv (qts Try.underlying29 (n := 2)) ?_
    refine g_q (.free rfl) rfl rfl (qt_call rfl Try.func18 rfl (by decide) rfl (fun w M => eqC_refl_any w _ _ _ ((mem_ownC (n := 10) M rfl).rd) ((mem_ownC (n := 5) M rfl).rd))) ?_
    refine gv (qt_not rfl rfl) ?_
    refine gm ?_
    refine gvh (qt_move rfl rfl) ?_
    refine gvh (qt_move rfl rfl) ?_
    refine gvh (qt_neq_f rfl rfl rfl (fun h => h rfl)) ?_
    refine gv (qt_pick_f rfl rfl rfl) ?_
    refine gnt (hK414 _ _ ?_)
    refine gc_cond_f rfl ?_
    refine gc_skip ?_
    refine gk_then (hK413 _ _ ?_)
    refine gc_seq fun K415 hK415 => ?_
    refine gc_seq fun K416 hK416 => ?_
    try simp only [sL]
    refine ga_start _ (fun w M => M) ?_
    refine gav 0 rfl (qts Try.underlying29 (n := 7)) ?_
    refine gav 1 rfl (qts Try.underlying25 (n := 0)) ?_
    refine gao 2 fun K418 hK418 => ?_
    refine go_callC1 rfl rfl rfl Try.func16 rfl (by decide) rfl (fun w M => toC_any w _ _ (mem_rdC M R0)) ?_
    intro ca417 cb417 cc417 cd417 ce417 cf417 cg417 ch417
    refine hK418 _ _ (fun w M => (mem_take 12 M :)) ?_
    refine gao 3 fun K419 hK419 => ?_
    refine go_q rfl rfl (qt_call rfl Try.func18 rfl (by decide) rfl (fun w M => eqC_refl_any w _ _ _ ((mem_ownC (n := 6) M rfl).rd) ((mem_ownC (n := 12) M rfl).rd))) ?_
    refine hK419 _ _ (fun w M => (mem_take 12 M :)) ?_
    refine gav 4 rfl (qt_not rfl rfl) ?_
    refine ga_done (by kernel_rfl) ?_
    refine gk_then (hK416 _ _ ?_)
    refine gc_cond_f rfl ?_
    refine gc_skip ?_
    refine gk_then (hK415 _ _ ?_)
    refine gc_seq fun K420 hK420 => ?_
    refine gc_seq fun K421 hK421 => ?_
    try simp only [sL]
    refine ga_start _ (fun w M => M) ?_
    refine gav 0 rfl (qts Try.underlying29 (n := 9)) ?_
    refine gav 1 rfl (qts Try.underlying25 (n := 1)) ?_
    refine gao 2 fun K423 hK423 => ?_
    refine go_callC1 rfl rfl rfl Try.func16 rfl (by decide) rfl (fun w M => toC_any w _ _ (mem_rdC M R1)) ?_
    intro ca422 cb422 cc422 cd422 ce422 cf422 cg422 ch422
    refine hK423 _ _ (fun w M => (mem_take 13 M :)) ?_
    refine gao 3 fun K424 hK424 => ?_
    refine go_q rfl rfl (qt_call rfl Try.func18 rfl (by decide) rfl (fun w M => eqC_refl_any w _ _ _ ((mem_ownC (n := 8) M rfl).rd) ((mem_ownC (n := 13) M rfl).rd))) ?_
    refine hK424 _ _ (fun w M => (mem_take 13 M :)) ?_
    refine gav 4 rfl (qt_not rfl rfl) ?_
    refine ga_done (by kernel_rfl) ?_
    refine gk_then (hK421 _ _ ?_)
    refine gc_cond_f rfl ?_
    refine gc_skip ?_
    refine gk_then (hK420 _ _ ?_)
    refine gc_sr fun K425 hK425 => ?_
    refine gas ?_
    refine gnt (hK425 _ _ ?_)
    refine gc_sr fun K426 hK426 => ?_
    refine gv (qts Try.underlying29 (n := 7)) ?_
    refine gm ?_
    refine gop fun K427 hK427 => ?_
    refine go_mark (ownCI _ (mkC _ _)) (n := 6) rfl rfl rfl Try.func19 rfl (by decide) rfl rfl (fun w S hS => markC_any w S _ _ _ hS (by omega) (by omega)) ?_
    refine hK427 _ _ ?_
    refine gas ?_
    refine gnt (hK426 _ _ ?_)
    refine gc_sr fun K428 hK428 => ?_
    refine gv (qts Try.underlying29 (n := 9)) ?_
    refine gm ?_
    refine gop fun K429 hK429 => ?_
    refine go_mark (ownCI _ (mkC _ _)) (n := 8) rfl rfl rfl Try.func19 rfl (by decide) rfl rfl (fun w S hS => markC_any w S _ _ _ hS (by omega) (by omega)) ?_
    refine hK429 _ _ ?_
    refine gas ?_
    refine gnt (hK428 _ _ ?_)
    refine gc_seq fun K430 hK430 => ?_
    refine gc_sr fun K431 hK431 => ?_
    refine gm ?_
    refine gv (qt_lss rfl rfl rfl) ?_
    refine g_splitv (.free rfl) rfl rfl (qt_move rfl rfl) (fun hs21_2 => ?_) (fun hs21_2 => ?_)
    ·try simp only [sA] at hs21_2
     first | (exfalso; omega) | exact absurd rfl hs21_2 | (simp at hs21_2)
    ·try simp only [sA] at hs21_2
     refine gvh (qts Try.underlying29 (n := 11)) ?_
     refine gvh (qts Try.underlying29 (n := 2)) ?_
     refine g_q (.held _ _ _ rfl rfl rfl) rfl rfl (qt_call rfl Try.func18 rfl (by decide) rfl (fun w M => eqC_refl_any w _ _ _ ((mem_ownC (n := 10) M rfl).rd) ((mem_ownC (n := 5) M rfl).rd))) ?_
     refine gvh (qt_not rfl rfl) ?_
     refine gv (qt_pick_f rfl rfl rfl) ?_
     refine gm ?_
     refine gvh (qt_move rfl rfl) ?_
     refine gvh (qt_move rfl rfl) ?_
     refine gvh (qt_neq_f rfl rfl rfl (fun h => h rfl)) ?_
     refine gv (qt_pick_f rfl rfl rfl) ?_
     refine gnt (hK431 _ _ ?_)
     refine gc_cond_f rfl ?_
     refine gc_skip ?_
     refine gk_then (hK430 _ _ ?_)
     refine gc_sr fun K432 hK432 => ?_
     refine gas ?_
     refine gnt (hK432 _ _ ?_)
     refine gc_sr fun K433 hK433 => ?_
     refine gv (qts Try.underlying29 (n := 11)) ?_
     refine gm ?_
     refine gop fun K434 hK434 => ?_
     refine go_mark (ownCI _ (mkC _ _)) (n := 10) rfl rfl rfl Try.func19 rfl (by decide) rfl rfl (fun w S hS => markC_any w S _ _ _ hS (by omega) (by omega)) ?_
     refine hK434 _ _ ?_
     refine gas ?_
     refine gnt (hK433 _ _ ?_)
     refine gc_sr fun K435 hK435 => ?_
     refine gas ?_
     refine gnt (hK435 _ _ ?_)
     refine gc_sr fun K436 hK436 => ?_
     refine gv (qts Try.underlying29 (n := 11)) ?_
     refine gm ?_
     refine g_q (.free rfl) rfl rfl (qt_call rfl Try.func20 rfl (by decide) rfl (fun w M => heldC_any w _ _ _ ((mem_ownC (n := 10) M rfl).rd) (by first | assumption | omega) (by first | assumption | omega))) ?_
     refine gas ?_
     refine gnt (hK436 _ _ ?_)
     refine gc_seq fun K437 hK437 => ?_
     refine gc_sr fun K438 hK438 => ?_
     refine gm ?_
     refine gv (qt_lss rfl rfl rfl) ?_
     refine gnt (hK438 _ _ ?_)
     refine gc_cond rfl (fun hc32 => ?_) (fun hc32 => ?_)
     ·try simp only [sA] at hc32
      first | (exfalso; omega) | exact absurd rfl hc32 | (simp at hc32)
     ·try simp only [sA] at hc32
      refine gc_skip ?_
      refine gk_then (hK437 _ _ ?_)
      refine gc_seq fun K439 hK439 => ?_
      refine gc_sr fun K440 hK440 => ?_
      refine gm ?_
      refine gm ?_
      refine gv (qt_neq rfl rfl rfl) ?_
      refine gnt (hK440 _ _ ?_)
      refine gc_cond rfl (fun hc33 => ?_) (fun hc33 => ?_)
      ·try simp only [sA] at hc33
       first | (exfalso; omega) | exact absurd rfl hc33 | (simp at hc33)
      ·try simp only [sA] at hc33
       refine gc_skip ?_
       refine gk_then (hK439 _ _ ?_)
       refine gc_seq fun K441 hK441 => ?_
       try simp only [sL]
       refine ga_start _ (fun w M => M) ?_
       refine gav 0 rfl (qts Try.underlying25 (n := 0)) ?_
       refine gav 2 rfl (qts Try.underlying25 (n := 1)) ?_
       refine ga_two 1 8 (by kernel_rfl) rfl rfl (.free rfl) (.free rfl) (fun K442 hK442 => ?_) (fun K442 hK442 => ?_)
       ·refine go_callC1 rfl rfl rfl Try.func16 rfl (by decide) rfl (fun w M => toC_any w _ _ (mem_rdC M R0)) ?_
        intro ca443 cb443 cc443 cd443 ce443 cf443 cg443 ch443
        refine hK442 _ _ (fun w M => (mem_take 14 M :)) ?_
        refine ga_two 3 8 (by kernel_rfl) rfl rfl (.free rfl) (.free rfl) (fun K445 hK445 => ?_) (fun K445 hK445 => ?_)
        ·refine go_callC1 rfl rfl rfl Try.func16 rfl (by decide) rfl (fun w M => toC_any w _ _ (mem_rdC M R1)) ?_
         intro ca446 cb446 cc446 cd446 ce446 cf446 cg446 ch446
         refine hK445 _ _ (fun w M => (mem_take 14 M :)) ?_
         refine ga_two 4 8 (by kernel_rfl) rfl rfl (.free rfl) (.free rfl) (fun K448 hK448 => ?_) (fun K448 hK448 => ?_)
         ·refine go_callCI1 rfl rfl rfl Try.func17 rfl (by decide) rfl (fun w M => himpl w _ _ ((mem_ownC (n := 14) M rfl).rd) ((mem_ownC (n := 15) M rfl).rd)) ?_
          intro ca449 cb449 cc449 cd449 ce449 cf449 cg449 ch449
          refine hK448 _ _ (fun w M => (mem_take 14 M :)) ?_
          refine gav 5 rfl (qt_move rfl rfl) ?_
          refine gav 6 rfl (qt_extract rfl rfl rfl) ?_
          refine gav 7 rfl (qt_extract rfl rfl rfl) ?_
          refine gao 8 fun K452 hK452 => ?_
          refine go_alloc (z := (.agg #[.int .i64 0, .slice none 0 0, .slice none 0 0, .slice none 0 0, .slice none 0 0])) (cs := [.int .i64 0, .slice none 0 0, .slice none 0 0, .slice none 0 0, .slice none 0 0]) rfl rfl rfl (fun w => by kernel_rfl) rfl ?_
          intro B451
          refine hK452 _ _ (fun w M => (mem_take 14 M :)) ?_
          refine gao 9 fun K453 hK453 => ?_
          refine go_storeS (n := 17) rfl rfl rfl rfl (by kernel_rfl) rfl rfl rfl ?_
          refine hK453 _ _ (fun w M => (mem_take 14 M :)) ?_
          refine gav 10 rfl (qt_assign rfl rfl) ?_
          refine ga_done (by kernel_rfl) ?_
          refine gk_then (hK441 _ _ ?_)
          refine gc_seq fun K454 hK454 => ?_
          refine gc_sr fun K455 hK455 => ?_
          refine gv (qts Try.underlying29 (n := 17)) ?_
          refine gv (qts Try.underlying29 (n := 2)) ?_
          refine g_q (.free rfl) rfl rfl (qt_call rfl Try.func18 rfl (by decide) rfl (fun w M => eqC_refl_any w _ _ _ ((mem_ownC (n := 16) M rfl).rd) ((mem_ownC (n := 5) M rfl).rd))) ?_
          refine gv (qt_not rfl rfl) ?_
          refine gm ?_
          refine gvh (qt_move rfl rfl) ?_
          refine gvh (qt_move rfl rfl) ?_
          refine gvh (qt_neq_f rfl rfl rfl (fun h => h rfl)) ?_
          refine gv (qt_pick_f rfl rfl rfl) ?_
          refine gnt (hK455 _ _ ?_)
          refine gc_cond_f rfl ?_
          refine gc_skip ?_
          refine gk_then (hK454 _ _ ?_)
          refine gc_sr fun K456 hK456 => ?_
          refine gas ?_
          refine gnt (hK456 _ _ ?_)
          refine gc_sr fun K457 hK457 => ?_
          refine gv (qts Try.underlying29 (n := 11)) ?_
          refine gm ?_
          refine g_q (.free rfl) rfl rfl (qt_call rfl Try.func20 rfl (by decide) rfl (fun w M => heldC_any w _ _ _ ((mem_ownC (n := 10) M rfl).rd) (by first | assumption | omega) (by first | assumption | omega))) ?_
          refine gas ?_
          refine gnt (hK457 _ _ ?_)
          refine gc_seq fun K458 hK458 => ?_
          refine gc_sr fun K459 hK459 => ?_
          refine gm ?_
          refine gv (qt_lss rfl rfl rfl) ?_
          refine gnt (hK459 _ _ ?_)
          refine gc_cond rfl (fun hc34 => ?_) (fun hc34 => ?_)
          ·try simp only [sA] at hc34
           first | (exfalso; omega) | exact absurd rfl hc34 | (simp at hc34)
          ·try simp only [sA] at hc34
           refine gc_skip ?_
           refine gk_then (hK458 _ _ ?_)
           refine gc_seq fun K460 hK460 => ?_
           refine gc_sr fun K461 hK461 => ?_
           refine gm ?_
           refine gm ?_
           refine gv (qt_neq rfl rfl rfl) ?_
           refine gnt (hK461 _ _ ?_)
           refine gc_cond rfl (fun hc35 => ?_) (fun hc35 => ?_)
           ·try simp only [sA] at hc35
            first | (exfalso; omega) | exact absurd rfl hc35 | (simp at hc35)
           ·try simp only [sA] at hc35
            refine gc_skip ?_
            refine gk_then (hK460 _ _ ?_)
            refine gc_sr fun K462 hK462 => ?_
            refine gas ?_
            refine gnt (hK462 _ _ ?_)
            refine gc_ret ?_
            refine ret_1 rfl rfl  (fun w M => ?_)
            exact ⟨rfl, M.1⟩
         ·refine go_alloc (z := (.agg #[.int .i64 0, .slice none 0 0, .slice none 0 0, .slice none 0 0, .slice none 0 0])) (cs := [.int .i64 0, .slice none 0 0, .slice none 0 0, .slice none 0 0, .slice none 0 0]) rfl rfl rfl (fun w => by kernel_rfl) rfl ?_
          intro B463
          refine hK448 _ _ (fun w M => (mem_take 14 M :)) ?_
          refine gao 4 fun K466 hK466 => ?_
          refine go_callCI1 rfl rfl rfl Try.func17 rfl (by decide) rfl (fun w M => himpl w _ _ ((mem_ownC (n := 14) M rfl).rd) ((mem_ownC (n := 15) M rfl).rd)) ?_
          intro ca465 cb465 cc465 cd465 ce465 cf465 cg465 ch465
          refine hK466 _ _ (fun w M => (mem_take 14 M :)) ?_
          refine gav 5 rfl (qt_move rfl rfl) ?_
          refine gav 6 rfl (qt_extract rfl rfl rfl) ?_
          refine gav 7 rfl (qt_extract rfl rfl rfl) ?_
          refine gao 9 fun K467 hK467 => ?_
          refine go_storeS (n := 16) rfl rfl rfl rfl (by kernel_rfl) rfl rfl rfl ?_
          refine hK467 _ _ (fun w M => (mem_take 14 M :)) ?_
          refine gav 10 rfl (qt_assign rfl rfl) ?_
          refine ga_done (by kernel_rfl) ?_
          refine gk_then (hK441 _ _ ?_)
          refine gc_seq fun K468 hK468 => ?_
          refine gc_sr fun K469 hK469 => ?_
          refine gv (qts Try.underlying29 (n := 16)) ?_
          refine gv (qts Try.underlying29 (n := 2)) ?_
          refine g_q (.free rfl) rfl rfl (qt_call rfl Try.func18 rfl (by decide) rfl (fun w M => eqC_refl_any w _ _ _ ((mem_ownC (n := 17) M rfl).rd) ((mem_ownC (n := 5) M rfl).rd))) ?_
          refine gv (qt_not rfl rfl) ?_
          refine gm ?_
          refine gvh (qt_move rfl rfl) ?_
          refine gvh (qt_move rfl rfl) ?_
          refine gvh (qt_neq_f rfl rfl rfl (fun h => h rfl)) ?_
          refine gv (qt_pick_f rfl rfl rfl) ?_
          refine gnt (hK469 _ _ ?_)
          refine gc_cond_f rfl ?_
          refine gc_skip ?_
          refine gk_then (hK468 _ _ ?_)
          refine gc_sr fun K470 hK470 => ?_
          refine gas ?_
          refine gnt (hK470 _ _ ?_)
          refine gc_sr fun K471 hK471 => ?_
          refine gv (qts Try.underlying29 (n := 11)) ?_
          refine gm ?_
          refine g_q (.free rfl) rfl rfl (qt_call rfl Try.func20 rfl (by decide) rfl (fun w M => heldC_any w _ _ _ ((mem_ownC (n := 10) M rfl).rd) (by first | assumption | omega) (by first | assumption | omega))) ?_
          refine gas ?_
          refine gnt (hK471 _ _ ?_)
          refine gc_seq fun K472 hK472 => ?_
          refine gc_sr fun K473 hK473 => ?_
          refine gm ?_
          refine gv (qt_lss rfl rfl rfl) ?_
          refine gnt (hK473 _ _ ?_)
          refine gc_cond rfl (fun hc36 => ?_) (fun hc36 => ?_)
          ·try simp only [sA] at hc36
           first | (exfalso; omega) | exact absurd rfl hc36 | (simp at hc36)
          ·try simp only [sA] at hc36
           refine gc_skip ?_
           refine gk_then (hK472 _ _ ?_)
           refine gc_seq fun K474 hK474 => ?_
           refine gc_sr fun K475 hK475 => ?_
           refine gm ?_
           refine gm ?_
           refine gv (qt_neq rfl rfl rfl) ?_
           refine gnt (hK475 _ _ ?_)
           refine gc_cond rfl (fun hc37 => ?_) (fun hc37 => ?_)
           ·try simp only [sA] at hc37
            first | (exfalso; omega) | exact absurd rfl hc37 | (simp at hc37)
           ·try simp only [sA] at hc37
            refine gc_skip ?_
            refine gk_then (hK474 _ _ ?_)
            refine gc_sr fun K476 hK476 => ?_
            refine gas ?_
            refine gnt (hK476 _ _ ?_)
            refine gc_ret ?_
            refine ret_1 rfl rfl  (fun w M => ?_)
            exact ⟨rfl, M.1⟩
        ·refine go_alloc (z := (.agg #[.int .i64 0, .slice none 0 0, .slice none 0 0, .slice none 0 0, .slice none 0 0])) (cs := [.int .i64 0, .slice none 0 0, .slice none 0 0, .slice none 0 0, .slice none 0 0]) rfl rfl rfl (fun w => by kernel_rfl) rfl ?_
         intro B477
         refine hK445 _ _ (fun w M => (mem_take 14 M :)) ?_
         refine gao 3 fun K480 hK480 => ?_
         refine go_callC1 rfl rfl rfl Try.func16 rfl (by decide) rfl (fun w M => toC_any w _ _ (mem_rdC M R1)) ?_
         intro ca479 cb479 cc479 cd479 ce479 cf479 cg479 ch479
         refine hK480 _ _ (fun w M => (mem_take 14 M :)) ?_
         refine gao 4 fun K482 hK482 => ?_
         refine go_callCI1 rfl rfl rfl Try.func17 rfl (by decide) rfl (fun w M => himpl w _ _ ((mem_ownC (n := 14) M rfl).rd) ((mem_ownC (n := 16) M rfl).rd)) ?_
         intro ca481 cb481 cc481 cd481 ce481 cf481 cg481 ch481
         refine hK482 _ _ (fun w M => (mem_take 14 M :)) ?_
         refine gav 5 rfl (qt_move rfl rfl) ?_
         refine gav 6 rfl (qt_extract rfl rfl rfl) ?_
         refine gav 7 rfl (qt_extract rfl rfl rfl) ?_
         refine gao 9 fun K483 hK483 => ?_
         refine go_storeS (n := 15) rfl rfl rfl rfl (by kernel_rfl) rfl rfl rfl ?_
         refine hK483 _ _ (fun w M => (mem_take 14 M :)) ?_
         refine gav 10 rfl (qt_assign rfl rfl) ?_
         refine ga_done (by kernel_rfl) ?_
         refine gk_then (hK441 _ _ ?_)
         refine gc_seq fun K484 hK484 => ?_
         refine gc_sr fun K485 hK485 => ?_
         refine gv (qts Try.underlying29 (n := 15)) ?_
         refine gv (qts Try.underlying29 (n := 2)) ?_
         refine g_q (.free rfl) rfl rfl (qt_call rfl Try.func18 rfl (by decide) rfl (fun w M => eqC_refl_any w _ _ _ ((mem_ownC (n := 17) M rfl).rd) ((mem_ownC (n := 5) M rfl).rd))) ?_
         refine gv (qt_not rfl rfl) ?_
         refine gm ?_
         refine gvh (qt_move rfl rfl) ?_
         refine gvh (qt_move rfl rfl) ?_
         refine gvh (qt_neq_f rfl rfl rfl (fun h => h rfl)) ?_
         refine gv (qt_pick_f rfl rfl rfl) ?_
         refine gnt (hK485 _ _ ?_)
         refine gc_cond_f rfl ?_
         refine gc_skip ?_
         refine gk_then (hK484 _ _ ?_)
         refine gc_sr fun K486 hK486 => ?_
         refine gas ?_
         refine gnt (hK486 _ _ ?_)
         refine gc_sr fun K487 hK487 => ?_
         refine gv (qts Try.underlying29 (n := 11)) ?_
         refine gm ?_
         refine g_q (.free rfl) rfl rfl (qt_call rfl Try.func20 rfl (by decide) rfl (fun w M => heldC_any w _ _ _ ((mem_ownC (n := 10) M rfl).rd) (by first | assumption | omega) (by first | assumption | omega))) ?_
         refine gas ?_
         refine gnt (hK487 _ _ ?_)
         refine gc_seq fun K488 hK488 => ?_
         refine gc_sr fun K489 hK489 => ?_
         refine gm ?_
         refine gv (qt_lss rfl rfl rfl) ?_
         refine gnt (hK489 _ _ ?_)
         refine gc_cond rfl (fun hc38 => ?_) (fun hc38 => ?_)
         ·try simp only [sA] at hc38
          first | (exfalso; omega) | exact absurd rfl hc38 | (simp at hc38)
         ·try simp only [sA] at hc38
          refine gc_skip ?_
          refine gk_then (hK488 _ _ ?_)
          refine gc_seq fun K490 hK490 => ?_
          refine gc_sr fun K491 hK491 => ?_
          refine gm ?_
          refine gm ?_
          refine gv (qt_neq rfl rfl rfl) ?_
          refine gnt (hK491 _ _ ?_)
          refine gc_cond rfl (fun hc39 => ?_) (fun hc39 => ?_)
          ·try simp only [sA] at hc39
           first | (exfalso; omega) | exact absurd rfl hc39 | (simp at hc39)
          ·try simp only [sA] at hc39
           refine gc_skip ?_
           refine gk_then (hK490 _ _ ?_)
           refine gc_sr fun K492 hK492 => ?_
           refine gas ?_
           refine gnt (hK492 _ _ ?_)
           refine gc_ret ?_
           refine ret_1 rfl rfl  (fun w M => ?_)
           exact ⟨rfl, M.1⟩
       ·refine go_alloc (z := (.agg #[.int .i64 0, .slice none 0 0, .slice none 0 0, .slice none 0 0, .slice none 0 0])) (cs := [.int .i64 0, .slice none 0 0, .slice none 0 0, .slice none 0 0, .slice none 0 0]) rfl rfl rfl (fun w => by kernel_rfl) rfl ?_
        intro B493
        refine hK442 _ _ (fun w M => (mem_take 14 M :)) ?_
        refine gao 1 fun K496 hK496 => ?_
        refine go_callC1 rfl rfl rfl Try.func16 rfl (by decide) rfl (fun w M => toC_any w _ _ (mem_rdC M R0)) ?_
        intro ca495 cb495 cc495 cd495 ce495 cf495 cg495 ch495
        refine hK496 _ _ (fun w M => (mem_take 14 M :)) ?_
        refine gao 3 fun K498 hK498 => ?_
        refine go_callC1 rfl rfl rfl Try.func16 rfl (by decide) rfl (fun w M => toC_any w _ _ (mem_rdC M R1)) ?_
        intro ca497 cb497 cc497 cd497 ce497 cf497 cg497 ch497
        refine hK498 _ _ (fun w M => (mem_take 14 M :)) ?_
        refine gao 4 fun K500 hK500 => ?_
        refine go_callCI1 rfl rfl rfl Try.func17 rfl (by decide) rfl (fun w M => himpl w _ _ ((mem_ownC (n := 15) M rfl).rd) ((mem_ownC (n := 16) M rfl).rd)) ?_
        intro ca499 cb499 cc499 cd499 ce499 cf499 cg499 ch499
        refine hK500 _ _ (fun w M => (mem_take 14 M :)) ?_
        refine gav 5 rfl (qt_move rfl rfl) ?_
        refine gav 6 rfl (qt_extract rfl rfl rfl) ?_
        refine gav 7 rfl (qt_extract rfl rfl rfl) ?_
        refine gao 9 fun K501 hK501 => ?_
        refine go_storeS (n := 14) rfl rfl rfl rfl (by kernel_rfl) rfl rfl rfl ?_
        refine hK501 _ _ (fun w M => (mem_take 14 M :)) ?_
        refine gav 10 rfl (qt_assign rfl rfl) ?_
        refine ga_done (by kernel_rfl) ?_
        refine gk_then (hK441 _ _ ?_)
        refine gc_seq fun K502 hK502 => ?_
        refine gc_sr fun K503 hK503 => ?_
        refine gv (qts Try.underlying29 (n := 14)) ?_
        refine gv (qts Try.underlying29 (n := 2)) ?_
        refine g_q (.free rfl) rfl rfl (qt_call rfl Try.func18 rfl (by decide) rfl (fun w M => eqC_refl_any w _ _ _ ((mem_ownC (n := 17) M rfl).rd) ((mem_ownC (n := 5) M rfl).rd))) ?_
        refine gv (qt_not rfl rfl) ?_
        refine gm ?_
        refine gvh (qt_move rfl rfl) ?_
        refine gvh (qt_move rfl rfl) ?_
        refine gvh (qt_neq_f rfl rfl rfl (fun h => h rfl)) ?_
        refine gv (qt_pick_f rfl rfl rfl) ?_
        refine gnt (hK503 _ _ ?_)
        refine gc_cond_f rfl ?_
        refine gc_skip ?_
        refine gk_then (hK502 _ _ ?_)
        refine gc_sr fun K504 hK504 => ?_
        refine gas ?_
        refine gnt (hK504 _ _ ?_)
        refine gc_sr fun K505 hK505 => ?_
        refine gv (qts Try.underlying29 (n := 11)) ?_
        refine gm ?_
        refine g_q (.free rfl) rfl rfl (qt_call rfl Try.func20 rfl (by decide) rfl (fun w M => heldC_any w _ _ _ ((mem_ownC (n := 10) M rfl).rd) (by first | assumption | omega) (by first | assumption | omega))) ?_
        refine gas ?_
        refine gnt (hK505 _ _ ?_)
        refine gc_seq fun K506 hK506 => ?_
        refine gc_sr fun K507 hK507 => ?_
        refine gm ?_
        refine gv (qt_lss rfl rfl rfl) ?_
        refine gnt (hK507 _ _ ?_)
        refine gc_cond rfl (fun hc40 => ?_) (fun hc40 => ?_)
        ·try simp only [sA] at hc40
         first | (exfalso; omega) | exact absurd rfl hc40 | (simp at hc40)
        ·try simp only [sA] at hc40
         refine gc_skip ?_
         refine gk_then (hK506 _ _ ?_)
         refine gc_seq fun K508 hK508 => ?_
         refine gc_sr fun K509 hK509 => ?_
         refine gm ?_
         refine gm ?_
         refine gv (qt_neq rfl rfl rfl) ?_
         refine gnt (hK509 _ _ ?_)
         refine gc_cond rfl (fun hc41 => ?_) (fun hc41 => ?_)
         ·try simp only [sA] at hc41
          first | (exfalso; omega) | exact absurd rfl hc41 | (simp at hc41)
         ·try simp only [sA] at hc41
          refine gc_skip ?_
          refine gk_then (hK508 _ _ ?_)
          refine gc_sr fun K510 hK510 => ?_
          refine gas ?_
          refine gnt (hK510 _ _ ?_)
          refine gc_ret ?_
          refine ret_1 rfl rfl  (fun w M => ?_)
          exact ⟨rfl, M.1⟩

set_option maxHeartbeats 1000000 in
set_option maxRecDepth 100000 in
theorem big0 (w : World) (v0 : Value) (a0 : Cat) (v1 : Value) (a1 : Cat) (r0 : Cat) (r1 : Int) (h0 : InC w v0 a0) (h1 : InC w v1 a1) (nl : ¬ (szM a0 ≤ 1048576)) :
  Calls Try.prog 4 #[v0, v1] w (RetB w true) := by
 have I0 := h0
 obtain ⟨pa0, pb0, pc0, pd0, pe0, pf0, pg0, ph0, rfl⟩ := h0.form
 have mz0 := mz_le a0
 have I1 := h1
 obtain ⟨pa1, pb1, pc1, pd1, pe1, pf1, pg1, ph1, rfl⟩ := h1.form
 have mz1 := mz_le a1
 go_enter Try.func4, Try.ntmps4
 refine gc_enter (N := 119) rfl (look_cons (k := 0) rfl (look_cons (k := 1) rfl (look_nil _))) ?_
 refine gc_sr fun K1 hK1 => ?_
 refine gop fun K3 hK3 => ?_
 refine go_box rfl rfl rfl rfl rfl ?_
 intro B2
 refine hK3 _ _ ?_
 refine gop fun K5 hK5 => ?_
 refine go_box rfl rfl rfl rfl rfl ?_
 intro B4
 refine hK5 _ _ ?_
 refine gas ?_
 refine gnt (hK1 _ _ ?_)
 refine gc_sr fun K6 hK6 => ?_
 refine gas ?_
 refine gnt (hK6 _ _ ?_)
 refine gc_sr fun K7 hK7 => ?_
 refine gv (qts Try.underlying25 (n := 0)) ?_
 refine gm ?_
 refine g_q (.free rfl) rfl rfl (qt_call rfl Try.func14 rfl (by decide) rfl (fun w M => szC_gt w _ _ _ (inC_below M.1 I0) (by first | assumption | omega) (by first | assumption | omega) (by first | assumption | omega))) ?_
 refine gas ?_
 refine gnt (hK7 _ _ ?_)
 refine gc_seq fun K8 hK8 => ?_
 refine gc_sr fun K9 hK9 => ?_
 refine gm ?_
 refine gv (qt_lss_t rfl rfl rfl (by decide)) ?_
 refine gnt (hK9 _ _ ?_)
 refine gc_cond_t rfl ?_
 refine gc_sr fun K10 hK10 => ?_
 refine gas ?_
 refine gnt (hK10 _ _ ?_)
 refine gc_ret ?_
 refine gk_then_ret ?_
 refine ret_1 rfl rfl  (fun w M => ?_)
 exact ⟨rfl, M.1⟩

set_option maxHeartbeats 1000000 in
set_option maxRecDepth 100000 in
theorem big1 (w : World) (v0 : Value) (a0 : Cat) (v1 : Value) (a1 : Cat) (r0 : Cat) (r1 : Int) (h0 : InC w v0 a0) (h1 : InC w v1 a1) (l0 : szM a0 ≤ 1048576) (nl : ¬ (szM a0 + szM a1 ≤ 1048576)) :
  Calls Try.prog 4 #[v0, v1] w (RetB w true) := by
 have I0 := h0
 obtain ⟨pa0, pb0, pc0, pd0, pe0, pf0, pg0, ph0, rfl⟩ := h0.form
 have mz0 := mz_le a0
 have I1 := h1
 obtain ⟨pa1, pb1, pc1, pd1, pe1, pf1, pg1, ph1, rfl⟩ := h1.form
 have mz1 := mz_le a1
 go_enter Try.func4, Try.ntmps4
 refine gc_enter (N := 119) rfl (look_cons (k := 0) rfl (look_cons (k := 1) rfl (look_nil _))) ?_
 refine gc_sr fun K1 hK1 => ?_
 refine gop fun K3 hK3 => ?_
 refine go_box rfl rfl rfl rfl rfl ?_
 intro B2
 refine hK3 _ _ ?_
 refine gop fun K5 hK5 => ?_
 refine go_box rfl rfl rfl rfl rfl ?_
 intro B4
 refine hK5 _ _ ?_
 refine gas ?_
 refine gnt (hK1 _ _ ?_)
 refine gc_sr fun K6 hK6 => ?_
 refine gas ?_
 refine gnt (hK6 _ _ ?_)
 refine gc_sr fun K7 hK7 => ?_
 refine gv (qts Try.underlying25 (n := 0)) ?_
 refine gm ?_
 refine g_q (.free rfl) rfl rfl (qt_call rfl Try.func14 rfl (by decide) rfl (fun w M => szC_le w _ _ _ (inC_below M.1 I0) (by first | assumption | omega) (by first | assumption | omega) (by first | assumption | omega))) ?_
 refine gas ?_
 refine gnt (hK7 _ _ ?_)
 refine gc_seq fun K8 hK8 => ?_
 refine gc_sr fun K9 hK9 => ?_
 refine gm ?_
 refine gv (qt_lss rfl rfl rfl) ?_
 refine gnt (hK9 _ _ ?_)
 refine gc_cond rfl (fun hc0 => ?_) (fun hc0 => ?_)
 ·try simp only [sA] at hc0
  first | (exfalso; omega) | exact absurd rfl hc0 | (simp at hc0)
 ·try simp only [sA] at hc0
  refine gc_skip ?_
  refine gk_then (hK8 _ _ ?_)
  refine gc_sr fun K10 hK10 => ?_
  refine gv (qts Try.underlying25 (n := 1)) ?_
  refine gm ?_
  refine g_q (.free rfl) rfl rfl (qt_call rfl Try.func14 rfl (by decide) rfl (fun w M => szC_gt w _ _ _ (inC_below M.1 I1) (by first | assumption | omega) (by first | assumption | omega) (by first | assumption | omega))) ?_
  refine gas ?_
  refine gnt (hK10 _ _ ?_)
  refine gc_seq fun K11 hK11 => ?_
  refine gc_sr fun K12 hK12 => ?_
  refine gm ?_
  refine gv (qt_lss_t rfl rfl rfl (by decide)) ?_
  refine gnt (hK12 _ _ ?_)
  refine gc_cond_t rfl ?_
  refine gc_sr fun K13 hK13 => ?_
  refine gas ?_
  refine gnt (hK13 _ _ ?_)
  refine gc_ret ?_
  refine gk_then_ret ?_
  refine ret_1 rfl rfl  (fun w M => ?_)
  exact ⟨rfl, M.1⟩
end Go.Proofs.Ytpppoipaabofgab.exactJoinCategory
