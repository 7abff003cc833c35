import Derived.Test.YtbiplocgenppoaaS4
import Derived.Test.YtbiplocgenppoaaS26
import Derived.Test.YtbiplocgenppoaaS28
import Derived.Test.YtbiplocgenppoaaS18
set_option maxHeartbeats 8000000
set_option maxRecDepth 100000
set_option linter.unusedSimpArgs false
set_option linter.unusedVariables false
set_option linter.unusedSectionVars false
namespace Go.Proofs.Ytbiplocgenppoaa
open _root_.Go.Proofs.Try
open Go.RowKit
def SomeP (o a : Int) (c : Cat) : Prop := ShapeP c ∧ c.ob ≤ o ∧ (c.s.length : Int) ≤ a
theorem fam_sum {c d : Cat} (h : FamP c) (g : FamP d) : ShapeP (sumM c d) := sum_shape h.1 g.1 (by have := h.2.1; have := g.2.1; omega) (by have := h.2.2; have := g.2.2; omega)
theorem some_of {o a : Int} {c : Cat} (hS : FitP c → ShapeP c) (ho : c.ob ≤ o) (ha : (c.s.length : Int) ≤ a) (hf : FitP c) : SomeP o a c := ⟨hS hf, ho, ha⟩
theorem one_some {o a : Int} (ho : 1 ≤ o) (ha : 1 ≤ a) : SomeP o a (posetC [[1]]) := ⟨(fam_pos (pre_of rfl) (by decide)).1, ho, by rw [show (posetC [[1]]).s = [0] from rfl]; exact ha⟩
theorem specSome_any (w0 w : World) (ca : Option Addr) (cl cc g : Nat) (F : List Itm) (hI : InB w0 (.slice ca cl cc)) (o a : Int) (ho : 1 ≤ o) (ha : 1 ≤ a) (M : Mem w0 w [srcI ca cl cc g, tailI F]) :
  Calls Try.prog 61 #[.pointer (some ⟨g, 0, none⟩), .int .i64 o, .int .i64 a] w (RetMC w0 (srcI ca cl cc g) F (SomeP o a)) := by
 go_enter func61, Try.ntmps61
 refine gc_enterM M (N := 48) rfl (look_cons (k := 0) rfl (look_cons (k := 1) rfl (look_cons (k := 2) rfl (look_nil _)))) ?_
 clear M
 refine gc_sr fun K1 hK1 => ?_
 refine gop fun K3 hK3 => ?_
 refine galC ?_
 intro B2
 refine hK3 _ _ ?_
 refine gnt (hK1 _ _ ?_)
 refine gc_seq fun K4 hK4 => ?_
 refine gc_sr fun K5 hK5 => ?_
 refine gas ?_
 refine gnt (hK5 _ _ ?_)
 refine gc_block ?_
 try simp only [sL]
 refine gc_loopT ([(0, _), (1, _), (2, _), (6, _)] : Env) (fun s : Nat => (fun (k : Nat) => (([(7, .int .i64 (k : Int))] : Env), ([] : List (Nat × Itm)), k ≤ 12, 12 - k)) s) (0) (by repeat first | exact sub_nil | refine sub_cons rfl ?_) rfl (Nat.zero_le _) ?_
 rintro k hinv KL6 hKL6
 simp only [sU, sL] at hinv hKL6 ⊢
 have hk := hinv
 refine gc_seq fun K7 hK7 => ?_
 refine gc_sr fun K8 hK8 => ?_
 refine gm ?_
 refine gv (qt_lss rfl rfl rfl) ?_
 refine gnt (hK8 _ _ ?_)
 refine gc_cond rfl (fun hc0 => ?_) (fun hc0 => ?_)
 ·try simp only [sA] at hc0
  refine gc_skip ?_
  refine gk_then (hK7 _ _ ?_)
  refine gc_seq fun K9 hK9 => ?_
  refine gc_block ?_
  refine gc_sr fun K10 hK10 => ?_
  refine gm ?_
  refine gop fun K12 hK12 => ?_
  refine go_callMC (P := FamP) rfl rfl rfl func81 rfl (by decide) rfl rfl (fun w M => specFam_any _ w ca cl cc g _ hI M) ?_
  intro cz11 ca11 cb11 cc11 cd11 ce11 cf11 cg11 ch11 cu11 hfam11
  refine hK12 _ _ ?_
  refine gop fun K14 hK14 => ?_
  refine galC ?_
  intro B13
  refine hK14 _ _ ?_
  refine gop fun K15 hK15 => ?_
  refine gss 7 ?_
  refine hK15 _ _ ?_
  refine gnt (hK10 _ _ ?_)
  refine gc_seq fun K16 hK16 => ?_
  refine gc_sr fun K17 hK17 => ?_
  refine gm ?_
  refine gop fun K19 hK19 => ?_
  refine go_srcNext (n := 0) rfl rfl rfl func51 rfl (by decide) rfl hI rfl (by omega) ?_
  intro r18 hs18
  refine hK19 _ _ ?_
  refine gv (qt_eql rfl rfl rfl) ?_
  refine gnt (hK17 _ _ ?_)
  refine gc_cond rfl (fun hc1 => ?_) (fun hc1 => ?_)
  ·try simp only [sA] at hc1
   try simp only [sL]
   refine ga_start _ (fun w M => mem_erase 7 (M)) ?_
   refine gav 1 rfl (qt_move rfl rfl) ?_
   refine gat 0 2 (fun K20 hK20 => ?_) (fun K20 hK20 => ?_)
   ·refine gov (qts underlying27 (n := 7)) ?_
    refine hK20 _ _ (fun w M => (ms1 7 8 M :)) ?_
    refine gao 2 fun K23 hK23 => ?_
    refine go_callMC (P := FamP) rfl rfl rfl func81 rfl (by decide) rfl rfl (fun w M => specFam_any _ w ca cl cc g _ hI M) ?_
    intro cz22 ca22 cb22 cc22 cd22 ce22 cf22 cg22 ch22 cu22 hfam22
    refine hK23 _ _ (fun w M => (ms1 7 8 M :)) ?_
    refine gao 3 fun K25 hK25 => ?_
    refine go_callC rfl rfl rfl func82 rfl (by decide) rfl (fun w M => specSum_any w _ (_) (rdC_mk ((mem_own1 (n := 3) M rfl).rd) ((mem_own1 (n := 4) M rfl).rd) ((mem_own1 (n := 5) M rfl).rd) (mem_rdU (n := 6) M rfl)) _ (_) (rdC_mk ((mem_own1 (n := 8) M rfl).rd) ((mem_own1 (n := 9) M rfl).rd) ((mem_own1 (n := 10) M rfl).rd) (mem_rdU (n := 11) M rfl)) (by first | exact (by assumption : FamP _).1 | exact fam_sum (by assumption) (by assumption)) (by first | exact (by assumption : FamP _).1 | exact fam_sum (by assumption) (by assumption))) ?_
    intro ca24 cb24 cc24 cd24 ce24 cf24 cg24 ch24 cu24
    refine hK25 _ _ (fun w M => (ms1 7 8 M :)) ?_
    refine gao 4 fun K26 hK26 => ?_
    refine gss 7 ?_
    refine hK26 _ _ (fun w M => (ms1 7 8 M :)) ?_
    refine ga_done (by kernel_rfl) ?_
    refine gk_then (hK16 _ _ ?_)
    refine gc_seq fun K27 hK27 => ?_
    refine gc_sr fun K28 hK28 => ?_
    refine gm ?_
    refine gop fun K30 hK30 => ?_
    refine go_srcNext (n := 0) rfl rfl rfl func51 rfl (by decide) rfl hI rfl (by omega) ?_
    intro r29 hs29
    refine hK30 _ _ ?_
    refine gv (qt_eql rfl rfl rfl) ?_
    refine gnt (hK28 _ _ ?_)
    refine gc_cond rfl (fun hc2 => ?_) (fun hc2 => ?_)
    ·try simp only [sA] at hc2
     try simp only [sL]
     refine ga_start _ (fun w M => mem_erase 7 (M)) ?_
     refine gav 1 rfl (qt_move rfl rfl) ?_
     refine gat 0 2 (fun K31 hK31 => ?_) (fun K31 hK31 => ?_)
     ·refine gov (qts underlying27 (n := 7)) ?_
      refine hK31 _ _ (fun w M => (ms1 7 16 M :)) ?_
      refine gao 2 fun K34 hK34 => ?_
      refine go_callMC (P := FamP) rfl rfl rfl func81 rfl (by decide) rfl rfl (fun w M => specFam_any _ w ca cl cc g _ hI M) ?_
      intro cz33 ca33 cb33 cc33 cd33 ce33 cf33 cg33 ch33 cu33 hfam33
      refine hK34 _ _ (fun w M => (ms1 7 16 M :)) ?_
      refine gao 3 fun K36 hK36 => ?_
      refine go_callC rfl rfl rfl func83 rfl (by decide) rfl (fun w M => specProduct_any w _ (_) (rdC_mk ((mem_own1 (n := 12) M rfl).rd) ((mem_own1 (n := 13) M rfl).rd) ((mem_own1 (n := 14) M rfl).rd) (mem_rdU (n := 15) M rfl)) _ (_) (rdC_mk ((mem_own1 (n := 16) M rfl).rd) ((mem_own1 (n := 17) M rfl).rd) ((mem_own1 (n := 18) M rfl).rd) (mem_rdU (n := 19) M rfl)) (by first | exact (by assumption : FamP _).1 | exact fam_sum (by assumption) (by assumption)) (by first | exact (by assumption : FamP _).1 | exact fam_sum (by assumption) (by assumption))) ?_
      intro ca35 cb35 cc35 cd35 ce35 cf35 cg35 ch35 cu35
      refine hK36 _ _ (fun w M => (ms1 7 16 M :)) ?_
      refine gao 4 fun K37 hK37 => ?_
      refine gss 7 ?_
      refine hK37 _ _ (fun w M => (ms1 7 16 M :)) ?_
      refine ga_done (by kernel_rfl) ?_
      refine gk_then (hK27 _ _ ?_)
      refine gc_sr fun K38 hK38 => ?_
      refine gv (qtf underlying27 (z := 0) (off := 0)) ?_
      refine gv (qtl underlying2 (n := 7)) ?_
      refine gm ?_
      refine gv (qt_leq rfl rfl rfl) ?_
      refine g_splitv (.free rfl) rfl rfl (qt_move rfl rfl) (fun hs9_4 => ?_) (fun hs9_4 => ?_)
      ·try simp only [sA] at hs9_4
       refine gvh (qtf underlying27 (z := 0) (off := 1)) ?_
       refine gvh (qtl underlying24 (n := 7)) ?_
       refine gvh (qln (fun w M => lenV_own1 (n := 20) rfl M)) ?_
       refine gvh (qt_move rfl rfl) ?_
       refine gvh (qt_leq rfl rfl rfl) ?_
       refine gv (qt_pick_t rfl rfl rfl) ?_
       refine g_splitv (.free rfl) rfl rfl (qt_move rfl rfl) (fun hs9_11 => ?_) (fun hs9_11 => ?_)
       ·try simp only [sA] at hs9_11
        refine gvh (qts underlying27 (n := 7)) ?_
        refine g_q (.held _ _ _ rfl rfl rfl) rfl rfl (qt_call rfl func84 rfl (by decide) rfl (fun w M => specFits_any w _ _ (rdC_mk ((mem_own1 (n := 20) M rfl).rd) ((mem_own1 (n := 21) M rfl).rd) ((mem_own1 (n := 22) M rfl).rd) (mem_rdU (n := 23) M rfl)))) ?_
        refine gv (qt_pick_t rfl rfl rfl) ?_
        refine gnt (hK38 _ _ ?_)
        refine gc_cond rfl (fun hc3 => ?_) (fun hc3 => ?_)
        ·try simp only [sA] at hc3
         refine gc_sr fun K39 hK39 => ?_
         refine gv (qts underlying27 (n := 7)) ?_
         refine gop fun K40 hK40 => ?_
         refine gss 2 ?_
         refine hK40 _ _ ?_
         refine gnt (hK39 _ _ ?_)
         refine gc_ret ?_
         refine gk_block_ret ?_
         refine gk_then_ret ?_
         refine gk_then_ret ?_
         refine gk_block_ret ?_
         refine gk_then_ret ?_
         refine ret_S (n := 2) rfl rfl underlying27 rfl (by kernel_rfl) rfl (fun w M => ?_)
         exact ⟨_, _, some_of (fun hf => by first | exact (by assumption : FamP _).1 | exact fam_sum (by assumption) (by assumption) | exact prod_shape (by first | exact (by assumption : FamP _).1 | exact fam_sum (by assumption) (by assumption)) (by assumption : FamP _).1 hf.1 hf.2) (by assumption) (by assumption) (by first | assumption | exact bP_t' (by assumption)), rfl, mem_packC [_, _] (mem_take 6 (mem_pick (n := 5) (mem_pick (n := 5) (mem_pick (n := 23) (mem_pick (n := 23) (mem_pick (n := 23) (mem_pick (n := 23) (M) rfl) rfl) rfl) rfl) rfl) rfl))⟩
        try simp only [sA] at hc3
        refine gc_skip ?_
        refine gk_block ?_
        refine gk_then (hK9 _ _ ?_)
        refine gc_region ?_
        refine gm ?_
        refine gv (qt_add rfl rfl rfl (by omega)) ?_
        refine gas ?_
        refine g_nil ?_
        refine gk_then (gk_take 3 ?_)
        refine gk_sub ?hs_41 (hKL6 (k + 1) ?hi_41 ?hm_41)
        case hs_41 => repeat first | exact sub_nil | refine sub_cons rfl ?_
        case hi_41 => omega
        case hm_41 => omega
       try simp only [sA] at hs9_11
       refine gsk ?_
       refine gsk ?_
       refine gv (qt_pick_f rfl rfl rfl) ?_
       refine gnt (hK38 _ _ ?_)
       refine gc_cond_f rfl ?_
       refine gc_skip ?_
       refine gk_block ?_
       refine gk_then (hK9 _ _ ?_)
       refine gc_region ?_
       refine gm ?_
       refine gv (qt_add rfl rfl rfl (by omega)) ?_
       refine gas ?_
       refine g_nil ?_
       refine gk_then (gk_take 3 ?_)
       refine gk_sub ?hs_42 (hKL6 (k + 1) ?hi_42 ?hm_42)
       case hs_42 => repeat first | exact sub_nil | refine sub_cons rfl ?_
       case hi_42 => omega
       case hm_42 => omega
      try simp only [sA] at hs9_4
      refine gsk ?_
      refine gsk ?_
      refine gsk ?_
      refine gsk ?_
      refine gsk ?_
      refine gv (qt_pick_f rfl rfl rfl) ?_
      refine gm ?_
      refine gsk ?_
      refine gsk ?_
      refine gv (qt_pick_f rfl rfl rfl) ?_
      refine gnt (hK38 _ _ ?_)
      refine gc_cond_f rfl ?_
      refine gc_skip ?_
      refine gk_block ?_
      refine gk_then (hK9 _ _ ?_)
      refine gc_region ?_
      refine gm ?_
      refine gv (qt_add rfl rfl rfl (by omega)) ?_
      refine gas ?_
      refine g_nil ?_
      refine gk_then (gk_take 3 ?_)
      refine gk_sub ?hs_43 (hKL6 (k + 1) ?hi_43 ?hm_43)
      case hs_43 => repeat first | exact sub_nil | refine sub_cons rfl ?_
      case hi_43 => omega
      case hm_43 => omega
     refine go_callMC (P := FamP) rfl rfl rfl func81 rfl (by decide) rfl rfl (fun w M => specFam_any _ w ca cl cc g _ hI M) ?_
     intro cz44 ca44 cb44 cc44 cd44 ce44 cf44 cg44 ch44 cu44 hfam44
     refine hK31 _ _ (fun w M => (ms1 7 16 M :)) ?_
     refine gao 0 fun K46 hK46 => ?_
     refine gov (qts underlying27 (n := 7)) ?_
     refine hK46 _ _ (fun w M => (ms1 7 16 M :)) ?_
     refine gao 3 fun K48 hK48 => ?_
     refine go_callC rfl rfl rfl func83 rfl (by decide) rfl (fun w M => specProduct_any w _ (_) (rdC_mk ((mem_own1 (n := 12) M rfl).rd) ((mem_own1 (n := 13) M rfl).rd) ((mem_own1 (n := 14) M rfl).rd) (mem_rdU (n := 15) M rfl)) _ (_) (rdC_mk ((mem_own1 (n := 16) M rfl).rd) ((mem_own1 (n := 17) M rfl).rd) ((mem_own1 (n := 18) M rfl).rd) (mem_rdU (n := 19) M rfl)) (by first | exact (by assumption : FamP _).1 | exact fam_sum (by assumption) (by assumption)) (by first | exact (by assumption : FamP _).1 | exact fam_sum (by assumption) (by assumption))) ?_
     intro ca47 cb47 cc47 cd47 ce47 cf47 cg47 ch47 cu47
     refine hK48 _ _ (fun w M => (ms1 7 16 M :)) ?_
     refine gao 4 fun K49 hK49 => ?_
     refine gss 7 ?_
     refine hK49 _ _ (fun w M => (ms1 7 16 M :)) ?_
     refine ga_done (by kernel_rfl) ?_
     refine gk_then (hK27 _ _ ?_)
     refine gc_sr fun K50 hK50 => ?_
     refine gv (qtf underlying27 (z := 0) (off := 0)) ?_
     refine gv (qtl underlying2 (n := 7)) ?_
     refine gm ?_
     refine gv (qt_leq rfl rfl rfl) ?_
     refine g_splitv (.free rfl) rfl rfl (qt_move rfl rfl) (fun hs9_4 => ?_) (fun hs9_4 => ?_)
     ·try simp only [sA] at hs9_4
      refine gvh (qtf underlying27 (z := 0) (off := 1)) ?_
      refine gvh (qtl underlying24 (n := 7)) ?_
      refine gvh (qln (fun w M => lenV_own1 (n := 20) rfl M)) ?_
      refine gvh (qt_move rfl rfl) ?_
      refine gvh (qt_leq rfl rfl rfl) ?_
      refine gv (qt_pick_t rfl rfl rfl) ?_
      refine g_splitv (.free rfl) rfl rfl (qt_move rfl rfl) (fun hs9_11 => ?_) (fun hs9_11 => ?_)
      ·try simp only [sA] at hs9_11
       refine gvh (qts underlying27 (n := 7)) ?_
       refine g_q (.held _ _ _ rfl rfl rfl) rfl rfl (qt_call rfl func84 rfl (by decide) rfl (fun w M => specFits_any w _ _ (rdC_mk ((mem_own1 (n := 20) M rfl).rd) ((mem_own1 (n := 21) M rfl).rd) ((mem_own1 (n := 22) M rfl).rd) (mem_rdU (n := 23) M rfl)))) ?_
       refine gv (qt_pick_t rfl rfl rfl) ?_
       refine gnt (hK50 _ _ ?_)
       refine gc_cond rfl (fun hc4 => ?_) (fun hc4 => ?_)
       ·try simp only [sA] at hc4
        refine gc_sr fun K51 hK51 => ?_
        refine gv (qts underlying27 (n := 7)) ?_
        refine gop fun K52 hK52 => ?_
        refine gss 2 ?_
        refine hK52 _ _ ?_
        refine gnt (hK51 _ _ ?_)
        refine gc_ret ?_
        refine gk_block_ret ?_
        refine gk_then_ret ?_
        refine gk_then_ret ?_
        refine gk_block_ret ?_
        refine gk_then_ret ?_
        refine ret_S (n := 2) rfl rfl underlying27 rfl (by kernel_rfl) rfl (fun w M => ?_)
        exact ⟨_, _, some_of (fun hf => by first | exact (by assumption : FamP _).1 | exact fam_sum (by assumption) (by assumption) | exact prod_shape (by first | exact (by assumption : FamP _).1 | exact fam_sum (by assumption) (by assumption)) (by assumption : FamP _).1 hf.1 hf.2) (by assumption) (by assumption) (by first | assumption | exact bP_t' (by assumption)), rfl, mem_packC [_, _] (mem_take 6 (mem_pick (n := 5) (mem_pick (n := 5) (mem_pick (n := 23) (mem_pick (n := 23) (mem_pick (n := 23) (mem_pick (n := 23) (M) rfl) rfl) rfl) rfl) rfl) rfl))⟩
       try simp only [sA] at hc4
       refine gc_skip ?_
       refine gk_block ?_
       refine gk_then (hK9 _ _ ?_)
       refine gc_region ?_
       refine gm ?_
       refine gv (qt_add rfl rfl rfl (by omega)) ?_
       refine gas ?_
       refine g_nil ?_
       refine gk_then (gk_take 3 ?_)
       refine gk_sub ?hs_53 (hKL6 (k + 1) ?hi_53 ?hm_53)
       case hs_53 => repeat first | exact sub_nil | refine sub_cons rfl ?_
       case hi_53 => omega
       case hm_53 => omega
      try simp only [sA] at hs9_11
      refine gsk ?_
      refine gsk ?_
      refine gv (qt_pick_f rfl rfl rfl) ?_
      refine gnt (hK50 _ _ ?_)
      refine gc_cond_f rfl ?_
      refine gc_skip ?_
      refine gk_block ?_
      refine gk_then (hK9 _ _ ?_)
      refine gc_region ?_
      refine gm ?_
      refine gv (qt_add rfl rfl rfl (by omega)) ?_
      refine gas ?_
      refine g_nil ?_
      refine gk_then (gk_take 3 ?_)
      refine gk_sub ?hs_54 (hKL6 (k + 1) ?hi_54 ?hm_54)
      case hs_54 => repeat first | exact sub_nil | refine sub_cons rfl ?_
      case hi_54 => omega
      case hm_54 => omega
     try simp only [sA] at hs9_4
     refine gsk ?_
     refine gsk ?_
     refine gsk ?_
     refine gsk ?_
     refine gsk ?_
     refine gv (qt_pick_f rfl rfl rfl) ?_
     refine gm ?_
     refine gsk ?_
     refine gsk ?_
     refine gv (qt_pick_f rfl rfl rfl) ?_
     refine gnt (hK50 _ _ ?_)
     refine gc_cond_f rfl ?_
     refine gc_skip ?_
     refine gk_block ?_
     refine gk_then (hK9 _ _ ?_)
     refine gc_region ?_
     refine gm ?_
     refine gv (qt_add rfl rfl rfl (by omega)) ?_
     refine gas ?_
     refine g_nil ?_
     refine gk_then (gk_take 3 ?_)
     refine gk_sub ?hs_55 (hKL6 (k + 1) ?hi_55 ?hm_55)
     case hs_55 => repeat first | exact sub_nil | refine sub_cons rfl ?_
     case hi_55 => omega
     case hm_55 => omega
    try simp only [sA] at hc2
    refine gc_skip ?_
    refine gk_then (hK27 _ _ ?_)
    refine gc_sr fun K56 hK56 => ?_
    refine gv (qtf underlying27 (z := 0) (off := 0)) ?_
    refine gv (qtl underlying2 (n := 7)) ?_
    refine gm ?_
    refine gv (qt_leq rfl rfl rfl) ?_
    refine g_splitv (.free rfl) rfl rfl (qt_move rfl rfl) (fun hs9_4 => ?_) (fun hs9_4 => ?_)
    ·try simp only [sA] at hs9_4
     refine gvh (qtf underlying27 (z := 0) (off := 1)) ?_
     refine gvh (qtl underlying24 (n := 7)) ?_
     refine gvh (qln (fun w M => lenV_own1 (n := 12) rfl M)) ?_
     refine gvh (qt_move rfl rfl) ?_
     refine gvh (qt_leq rfl rfl rfl) ?_
     refine gv (qt_pick_t rfl rfl rfl) ?_
     refine g_splitv (.free rfl) rfl rfl (qt_move rfl rfl) (fun hs9_11 => ?_) (fun hs9_11 => ?_)
     ·try simp only [sA] at hs9_11
      refine gvh (qts underlying27 (n := 7)) ?_
      refine g_q (.held _ _ _ rfl rfl rfl) rfl rfl (qt_call rfl func84 rfl (by decide) rfl (fun w M => specFits_any w _ _ (rdC_mk ((mem_own1 (n := 12) M rfl).rd) ((mem_own1 (n := 13) M rfl).rd) ((mem_own1 (n := 14) M rfl).rd) (mem_rdU (n := 15) M rfl)))) ?_
      refine gv (qt_pick_t rfl rfl rfl) ?_
      refine gnt (hK56 _ _ ?_)
      refine gc_cond rfl (fun hc5 => ?_) (fun hc5 => ?_)
      ·try simp only [sA] at hc5
       refine gc_sr fun K57 hK57 => ?_
       refine gv (qts underlying27 (n := 7)) ?_
       refine gop fun K58 hK58 => ?_
       refine gss 2 ?_
       refine hK58 _ _ ?_
       refine gnt (hK57 _ _ ?_)
       refine gc_ret ?_
       refine gk_block_ret ?_
       refine gk_then_ret ?_
       refine gk_then_ret ?_
       refine gk_block_ret ?_
       refine gk_then_ret ?_
       refine ret_S (n := 2) rfl rfl underlying27 rfl (by kernel_rfl) rfl (fun w M => ?_)
       exact ⟨_, _, some_of (fun hf => by first | exact (by assumption : FamP _).1 | exact fam_sum (by assumption) (by assumption) | exact prod_shape (by first | exact (by assumption : FamP _).1 | exact fam_sum (by assumption) (by assumption)) (by assumption : FamP _).1 hf.1 hf.2) (by assumption) (by assumption) (by first | assumption | exact bP_t' (by assumption)), rfl, mem_packC [_, _] (mem_take 6 (mem_pick (n := 5) (mem_pick (n := 5) (mem_pick (n := 15) (mem_pick (n := 15) (mem_pick (n := 15) (mem_pick (n := 15) (M) rfl) rfl) rfl) rfl) rfl) rfl))⟩
      try simp only [sA] at hc5
      refine gc_skip ?_
      refine gk_block ?_
      refine gk_then (hK9 _ _ ?_)
      refine gc_region ?_
      refine gm ?_
      refine gv (qt_add rfl rfl rfl (by omega)) ?_
      refine gas ?_
      refine g_nil ?_
      refine gk_then (gk_take 3 ?_)
      refine gk_sub ?hs_59 (hKL6 (k + 1) ?hi_59 ?hm_59)
      case hs_59 => repeat first | exact sub_nil | refine sub_cons rfl ?_
      case hi_59 => omega
      case hm_59 => omega
     try simp only [sA] at hs9_11
     refine gsk ?_
     refine gsk ?_
     refine gv (qt_pick_f rfl rfl rfl) ?_
     refine gnt (hK56 _ _ ?_)
     refine gc_cond_f rfl ?_
     refine gc_skip ?_
     refine gk_block ?_
     refine gk_then (hK9 _ _ ?_)
     refine gc_region ?_
     refine gm ?_
     refine gv (qt_add rfl rfl rfl (by omega)) ?_
     refine gas ?_
     refine g_nil ?_
     refine gk_then (gk_take 3 ?_)
     refine gk_sub ?hs_60 (hKL6 (k + 1) ?hi_60 ?hm_60)
     case hs_60 => repeat first | exact sub_nil | refine sub_cons rfl ?_
     case hi_60 => omega
     case hm_60 => omega
    try simp only [sA] at hs9_4
    refine gsk ?_
    refine gsk ?_
    refine gsk ?_
    refine gsk ?_
    refine gsk ?_
    refine gv (qt_pick_f rfl rfl rfl) ?_
    refine gm ?_
    refine gsk ?_
    refine gsk ?_
    refine gv (qt_pick_f rfl rfl rfl) ?_
    refine gnt (hK56 _ _ ?_)
    refine gc_cond_f rfl ?_
    refine gc_skip ?_
    refine gk_block ?_
    refine gk_then (hK9 _ _ ?_)
    refine gc_region ?_
    refine gm ?_
    refine gv (qt_add rfl rfl rfl (by omega)) ?_
    refine gas ?_
    refine g_nil ?_
    refine gk_then (gk_take 3 ?_)
    refine gk_sub ?hs_61 (hKL6 (k + 1) ?hi_61 ?hm_61)
    case hs_61 => repeat first | exact sub_nil | refine sub_cons rfl ?_
    case hi_61 => omega
    case hm_61 => omega
   refine go_callMC (P := FamP) rfl rfl rfl func81 rfl (by decide) rfl rfl (fun w M => specFam_any _ w ca cl cc g _ hI M) ?_
   intro cz62 ca62 cb62 cc62 cd62 ce62 cf62 cg62 ch62 cu62 hfam62
   refine hK20 _ _ (fun w M => (ms1 7 8 M :)) ?_
   refine gao 0 fun K64 hK64 => ?_
   refine gov (qts underlying27 (n := 7)) ?_
   refine hK64 _ _ (fun w M => (ms1 7 8 M :)) ?_
   refine gao 3 fun K66 hK66 => ?_
   refine go_callC rfl rfl rfl func82 rfl (by decide) rfl (fun w M => specSum_any w _ (_) (rdC_mk ((mem_own1 (n := 3) M rfl).rd) ((mem_own1 (n := 4) M rfl).rd) ((mem_own1 (n := 5) M rfl).rd) (mem_rdU (n := 6) M rfl)) _ (_) (rdC_mk ((mem_own1 (n := 8) M rfl).rd) ((mem_own1 (n := 9) M rfl).rd) ((mem_own1 (n := 10) M rfl).rd) (mem_rdU (n := 11) M rfl)) (by first | exact (by assumption : FamP _).1 | exact fam_sum (by assumption) (by assumption)) (by first | exact (by assumption : FamP _).1 | exact fam_sum (by assumption) (by assumption))) ?_
   intro ca65 cb65 cc65 cd65 ce65 cf65 cg65 ch65 cu65
   refine hK66 _ _ (fun w M => (ms1 7 8 M :)) ?_
   refine gao 4 fun K67 hK67 => ?_
   refine gss 7 ?_
   refine hK67 _ _ (fun w M => (ms1 7 8 M :)) ?_
   refine ga_done (by kernel_rfl) ?_
   refine gk_then (hK16 _ _ ?_)
   refine gc_seq fun K68 hK68 => ?_
   refine gc_sr fun K69 hK69 => ?_
   refine gm ?_
   refine gop fun K71 hK71 => ?_
   refine go_srcNext (n := 0) rfl rfl rfl func51 rfl (by decide) rfl hI rfl (by omega) ?_
   intro r70 hs70
   refine hK71 _ _ ?_
   refine gv (qt_eql rfl rfl rfl) ?_
   refine gnt (hK69 _ _ ?_)
   refine gc_cond rfl (fun hc6 => ?_) (fun hc6 => ?_)
   ·try simp only [sA] at hc6
    try simp only [sL]
    refine ga_start _ (fun w M => mem_erase 7 (M)) ?_
    refine gav 1 rfl (qt_move rfl rfl) ?_
    refine gat 0 2 (fun K72 hK72 => ?_) (fun K72 hK72 => ?_)
    ·refine gov (qts underlying27 (n := 7)) ?_
     refine hK72 _ _ (fun w M => (ms1 7 16 M :)) ?_
     refine gao 2 fun K75 hK75 => ?_
     refine go_callMC (P := FamP) rfl rfl rfl func81 rfl (by decide) rfl rfl (fun w M => specFam_any _ w ca cl cc g _ hI M) ?_
     intro cz74 ca74 cb74 cc74 cd74 ce74 cf74 cg74 ch74 cu74 hfam74
     refine hK75 _ _ (fun w M => (ms1 7 16 M :)) ?_
     refine gao 3 fun K77 hK77 => ?_
     refine go_callC rfl rfl rfl func83 rfl (by decide) rfl (fun w M => specProduct_any w _ (_) (rdC_mk ((mem_own1 (n := 12) M rfl).rd) ((mem_own1 (n := 13) M rfl).rd) ((mem_own1 (n := 14) M rfl).rd) (mem_rdU (n := 15) M rfl)) _ (_) (rdC_mk ((mem_own1 (n := 16) M rfl).rd) ((mem_own1 (n := 17) M rfl).rd) ((mem_own1 (n := 18) M rfl).rd) (mem_rdU (n := 19) M rfl)) (by first | exact (by assumption : FamP _).1 | exact fam_sum (by assumption) (by assumption)) (by first | exact (by assumption : FamP _).1 | exact fam_sum (by assumption) (by assumption))) ?_
     intro ca76 cb76 cc76 cd76 ce76 cf76 cg76 ch76 cu76
     refine hK77 _ _ (fun w M => (ms1 7 16 M :)) ?_
     refine gao 4 fun K78 hK78 => ?_
     refine gss 7 ?_
     refine hK78 _ _ (fun w M => (ms1 7 16 M :)) ?_
     refine ga_done (by kernel_rfl) ?_
     refine gk_then (hK68 _ _ ?_)
     refine gc_sr fun K79 hK79 => ?_
     refine gv (qtf underlying27 (z := 0) (off := 0)) ?_
     refine gv (qtl underlying2 (n := 7)) ?_
     refine gm ?_
     refine gv (qt_leq rfl rfl rfl) ?_
     refine g_splitv (.free rfl) rfl rfl (qt_move rfl rfl) (fun hs9_4 => ?_) (fun hs9_4 => ?_)
     ·try simp only [sA] at hs9_4
      refine gvh (qtf underlying27 (z := 0) (off := 1)) ?_
      refine gvh (qtl underlying24 (n := 7)) ?_
      refine gvh (qln (fun w M => lenV_own1 (n := 20) rfl M)) ?_
      refine gvh (qt_move rfl rfl) ?_
      refine gvh (qt_leq rfl rfl rfl) ?_
      refine gv (qt_pick_t rfl rfl rfl) ?_
      refine g_splitv (.free rfl) rfl rfl (qt_move rfl rfl) (fun hs9_11 => ?_) (fun hs9_11 => ?_)
      ·try simp only [sA] at hs9_11
       refine gvh (qts underlying27 (n := 7)) ?_
       refine g_q (.held _ _ _ rfl rfl rfl) rfl rfl (qt_call rfl func84 rfl (by decide) rfl (fun w M => specFits_any w _ _ (rdC_mk ((mem_own1 (n := 20) M rfl).rd) ((mem_own1 (n := 21) M rfl).rd) ((mem_own1 (n := 22) M rfl).rd) (mem_rdU (n := 23) M rfl)))) ?_
       refine gv (qt_pick_t rfl rfl rfl) ?_
       refine gnt (hK79 _ _ ?_)
       refine gc_cond rfl (fun hc7 => ?_) (fun hc7 => ?_)
       ·try simp only [sA] at hc7
        refine gc_sr fun K80 hK80 => ?_
        refine gv (qts underlying27 (n := 7)) ?_
        refine gop fun K81 hK81 => ?_
        refine gss 2 ?_
        refine hK81 _ _ ?_
        refine gnt (hK80 _ _ ?_)
        refine gc_ret ?_
        refine gk_block_ret ?_
        refine gk_then_ret ?_
        refine gk_then_ret ?_
        refine gk_block_ret ?_
        refine gk_then_ret ?_
        refine ret_S (n := 2) rfl rfl underlying27 rfl (by kernel_rfl) rfl (fun w M => ?_)
        exact ⟨_, _, some_of (fun hf => by first | exact (by assumption : FamP _).1 | exact fam_sum (by assumption) (by assumption) | exact prod_shape (by first | exact (by assumption : FamP _).1 | exact fam_sum (by assumption) (by assumption)) (by assumption : FamP _).1 hf.1 hf.2) (by assumption) (by assumption) (by first | assumption | exact bP_t' (by assumption)), rfl, mem_packC [_, _] (mem_take 6 (mem_pick (n := 5) (mem_pick (n := 5) (mem_pick (n := 23) (mem_pick (n := 23) (mem_pick (n := 23) (mem_pick (n := 23) (M) rfl) rfl) rfl) rfl) rfl) rfl))⟩
       try simp only [sA] at hc7
       refine gc_skip ?_
       refine gk_block ?_
       refine gk_then (hK9 _ _ ?_)
       refine gc_region ?_
       refine gm ?_
       refine gv (qt_add rfl rfl rfl (by omega)) ?_
       refine gas ?_
       refine g_nil ?_
       refine gk_then (gk_take 3 ?_)
       refine gk_sub ?hs_82 (hKL6 (k + 1) ?hi_82 ?hm_82)
       case hs_82 => repeat first | exact sub_nil | refine sub_cons rfl ?_
       case hi_82 => omega
       case hm_82 => omega
      try simp only [sA] at hs9_11
      refine gsk ?_
      refine gsk ?_
      refine gv (qt_pick_f rfl rfl rfl) ?_
      refine gnt (hK79 _ _ ?_)
      refine gc_cond_f rfl ?_
      refine gc_skip ?_
      refine gk_block ?_
      refine gk_then (hK9 _ _ ?_)
      refine gc_region ?_
      refine gm ?_
      refine gv (qt_add rfl rfl rfl (by omega)) ?_
      refine gas ?_
      refine g_nil ?_
      refine gk_then (gk_take 3 ?_)
      refine gk_sub ?hs_83 (hKL6 (k + 1) ?hi_83 ?hm_83)
      case hs_83 => repeat first | exact sub_nil | refine sub_cons rfl ?_
      case hi_83 => omega
      case hm_83 => omega
     try simp only [sA] at hs9_4
     refine gsk ?_
     refine gsk ?_
     refine gsk ?_
     refine gsk ?_
     refine gsk ?_
     refine gv (qt_pick_f rfl rfl rfl) ?_
     refine gm ?_
     refine gsk ?_
     refine gsk ?_
     refine gv (qt_pick_f rfl rfl rfl) ?_
     refine gnt (hK79 _ _ ?_)
     refine gc_cond_f rfl ?_
     refine gc_skip ?_
     refine gk_block ?_
     refine gk_then (hK9 _ _ ?_)
     refine gc_region ?_
     refine gm ?_
     refine gv (qt_add rfl rfl rfl (by omega)) ?_
     refine gas ?_
     refine g_nil ?_
     refine gk_then (gk_take 3 ?_)
     refine gk_sub ?hs_84 (hKL6 (k + 1) ?hi_84 ?hm_84)
     case hs_84 => repeat first | exact sub_nil | refine sub_cons rfl ?_
     case hi_84 => omega
     case hm_84 => omega
    refine go_callMC (P := FamP) rfl rfl rfl func81 rfl (by decide) rfl rfl (fun w M => specFam_any _ w ca cl cc g _ hI M) ?_
    intro cz85 ca85 cb85 cc85 cd85 ce85 cf85 cg85 ch85 cu85 hfam85
    refine hK72 _ _ (fun w M => (ms1 7 16 M :)) ?_
    refine gao 0 fun K87 hK87 => ?_
    refine gov (qts underlying27 (n := 7)) ?_
    refine hK87 _ _ (fun w M => (ms1 7 16 M :)) ?_
    refine gao 3 fun K89 hK89 => ?_
    refine go_callC rfl rfl rfl func83 rfl (by decide) rfl (fun w M => specProduct_any w _ (_) (rdC_mk ((mem_own1 (n := 12) M rfl).rd) ((mem_own1 (n := 13) M rfl).rd) ((mem_own1 (n := 14) M rfl).rd) (mem_rdU (n := 15) M rfl)) _ (_) (rdC_mk ((mem_own1 (n := 16) M rfl).rd) ((mem_own1 (n := 17) M rfl).rd) ((mem_own1 (n := 18) M rfl).rd) (mem_rdU (n := 19) M rfl)) (by first | exact (by assumption : FamP _).1 | exact fam_sum (by assumption) (by assumption)) (by first | exact (by assumption : FamP _).1 | exact fam_sum (by assumption) (by assumption))) ?_
    intro ca88 cb88 cc88 cd88 ce88 cf88 cg88 ch88 cu88
    refine hK89 _ _ (fun w M => (ms1 7 16 M :)) ?_
    refine gao 4 fun K90 hK90 => ?_
    refine gss 7 ?_
    refine hK90 _ _ (fun w M => (ms1 7 16 M :)) ?_
    refine ga_done (by kernel_rfl) ?_
    refine gk_then (hK68 _ _ ?_)
    refine gc_sr fun K91 hK91 => ?_
    refine gv (qtf underlying27 (z := 0) (off := 0)) ?_
    refine gv (qtl underlying2 (n := 7)) ?_
    refine gm ?_
    refine gv (qt_leq rfl rfl rfl) ?_
    refine g_splitv (.free rfl) rfl rfl (qt_move rfl rfl) (fun hs9_4 => ?_) (fun hs9_4 => ?_)
    ·try simp only [sA] at hs9_4
     refine gvh (qtf underlying27 (z := 0) (off := 1)) ?_
     refine gvh (qtl underlying24 (n := 7)) ?_
     refine gvh (qln (fun w M => lenV_own1 (n := 20) rfl M)) ?_
     refine gvh (qt_move rfl rfl) ?_
     refine gvh (qt_leq rfl rfl rfl) ?_
     refine gv (qt_pick_t rfl rfl rfl) ?_
     refine g_splitv (.free rfl) rfl rfl (qt_move rfl rfl) (fun hs9_11 => ?_) (fun hs9_11 => ?_)
     ·try simp only [sA] at hs9_11
      refine gvh (qts underlying27 (n := 7)) ?_
      refine g_q (.held _ _ _ rfl rfl rfl) rfl rfl (qt_call rfl func84 rfl (by decide) rfl (fun w M => specFits_any w _ _ (rdC_mk ((mem_own1 (n := 20) M rfl).rd) ((mem_own1 (n := 21) M rfl).rd) ((mem_own1 (n := 22) M rfl).rd) (mem_rdU (n := 23) M rfl)))) ?_
      refine gv (qt_pick_t rfl rfl rfl) ?_
      refine gnt (hK91 _ _ ?_)
      refine gc_cond rfl (fun hc8 => ?_) (fun hc8 => ?_)
      ·try simp only [sA] at hc8
       refine gc_sr fun K92 hK92 => ?_
       refine gv (qts underlying27 (n := 7)) ?_
       refine gop fun K93 hK93 => ?_
       refine gss 2 ?_
       refine hK93 _ _ ?_
       refine gnt (hK92 _ _ ?_)
       refine gc_ret ?_
       refine gk_block_ret ?_
       refine gk_then_ret ?_
       refine gk_then_ret ?_
       refine gk_block_ret ?_
       refine gk_then_ret ?_
       refine ret_S (n := 2) rfl rfl underlying27 rfl (by kernel_rfl) rfl (fun w M => ?_)
       exact ⟨_, _, some_of (fun hf => by first | exact (by assumption : FamP _).1 | exact fam_sum (by assumption) (by assumption) | exact prod_shape (by first | exact (by assumption : FamP _).1 | exact fam_sum (by assumption) (by assumption)) (by assumption : FamP _).1 hf.1 hf.2) (by assumption) (by assumption) (by first | assumption | exact bP_t' (by assumption)), rfl, mem_packC [_, _] (mem_take 6 (mem_pick (n := 5) (mem_pick (n := 5) (mem_pick (n := 23) (mem_pick (n := 23) (mem_pick (n := 23) (mem_pick (n := 23) (M) rfl) rfl) rfl) rfl) rfl) rfl))⟩
      try simp only [sA] at hc8
      refine gc_skip ?_
      refine gk_block ?_
      refine gk_then (hK9 _ _ ?_)
      refine gc_region ?_
      refine gm ?_
      refine gv (qt_add rfl rfl rfl (by omega)) ?_
      refine gas ?_
      refine g_nil ?_
      refine gk_then (gk_take 3 ?_)
      refine gk_sub ?hs_94 (hKL6 (k + 1) ?hi_94 ?hm_94)
      case hs_94 => repeat first | exact sub_nil | refine sub_cons rfl ?_
      case hi_94 => omega
      case hm_94 => omega
     try simp only [sA] at hs9_11
     refine gsk ?_
     refine gsk ?_
     refine gv (qt_pick_f rfl rfl rfl) ?_
     refine gnt (hK91 _ _ ?_)
     refine gc_cond_f rfl ?_
     refine gc_skip ?_
     refine gk_block ?_
     refine gk_then (hK9 _ _ ?_)
     refine gc_region ?_
     refine gm ?_
     refine gv (qt_add rfl rfl rfl (by omega)) ?_
     refine gas ?_
     refine g_nil ?_
     refine gk_then (gk_take 3 ?_)
     refine gk_sub ?hs_95 (hKL6 (k + 1) ?hi_95 ?hm_95)
     case hs_95 => repeat first | exact sub_nil | refine sub_cons rfl ?_
     case hi_95 => omega
     case hm_95 => omega
    try simp only [sA] at hs9_4
    refine gsk ?_
    refine gsk ?_
    refine gsk ?_
    refine gsk ?_
    refine gsk ?_
    refine gv (qt_pick_f rfl rfl rfl) ?_
    refine gm ?_
    refine gsk ?_
    refine gsk ?_
    refine gv (qt_pick_f rfl rfl rfl) ?_
    refine gnt (hK91 _ _ ?_)
    refine gc_cond_f rfl ?_
    refine gc_skip ?_
    refine gk_block ?_
    refine gk_then (hK9 _ _ ?_)
    refine gc_region ?_
    refine gm ?_
    refine gv (qt_add rfl rfl rfl (by omega)) ?_
    refine gas ?_
    refine g_nil ?_
    refine gk_then (gk_take 3 ?_)
    refine gk_sub ?hs_96 (hKL6 (k + 1) ?hi_96 ?hm_96)
    case hs_96 => repeat first | exact sub_nil | refine sub_cons rfl ?_
    case hi_96 => omega
    case hm_96 => omega
   try simp only [sA] at hc6
   refine gc_skip ?_
   refine gk_then (hK68 _ _ ?_)
   refine gc_sr fun K97 hK97 => ?_
   refine gv (qtf underlying27 (z := 0) (off := 0)) ?_
   refine gv (qtl underlying2 (n := 7)) ?_
   refine gm ?_
   refine gv (qt_leq rfl rfl rfl) ?_
   refine g_splitv (.free rfl) rfl rfl (qt_move rfl rfl) (fun hs9_4 => ?_) (fun hs9_4 => ?_)
   ·try simp only [sA] at hs9_4
    refine gvh (qtf underlying27 (z := 0) (off := 1)) ?_
    refine gvh (qtl underlying24 (n := 7)) ?_
    refine gvh (qln (fun w M => lenV_own1 (n := 12) rfl M)) ?_
    refine gvh (qt_move rfl rfl) ?_
    refine gvh (qt_leq rfl rfl rfl) ?_
    refine gv (qt_pick_t rfl rfl rfl) ?_
    refine g_splitv (.free rfl) rfl rfl (qt_move rfl rfl) (fun hs9_11 => ?_) (fun hs9_11 => ?_)
    ·try simp only [sA] at hs9_11
     refine gvh (qts underlying27 (n := 7)) ?_
     refine g_q (.held _ _ _ rfl rfl rfl) rfl rfl (qt_call rfl func84 rfl (by decide) rfl (fun w M => specFits_any w _ _ (rdC_mk ((mem_own1 (n := 12) M rfl).rd) ((mem_own1 (n := 13) M rfl).rd) ((mem_own1 (n := 14) M rfl).rd) (mem_rdU (n := 15) M rfl)))) ?_
     refine gv (qt_pick_t rfl rfl rfl) ?_
     refine gnt (hK97 _ _ ?_)
     refine gc_cond rfl (fun hc9 => ?_) (fun hc9 => ?_)
     ·try simp only [sA] at hc9
      refine gc_sr fun K98 hK98 => ?_
      refine gv (qts underlying27 (n := 7)) ?_
      refine gop fun K99 hK99 => ?_
      refine gss 2 ?_
      refine hK99 _ _ ?_
      refine gnt (hK98 _ _ ?_)
      refine gc_ret ?_
      refine gk_block_ret ?_
      refine gk_then_ret ?_
      refine gk_then_ret ?_
      refine gk_block_ret ?_
      refine gk_then_ret ?_
      refine ret_S (n := 2) rfl rfl underlying27 rfl (by kernel_rfl) rfl (fun w M => ?_)
      exact ⟨_, _, some_of (fun hf => by first | exact (by assumption : FamP _).1 | exact fam_sum (by assumption) (by assumption) | exact prod_shape (by first | exact (by assumption : FamP _).1 | exact fam_sum (by assumption) (by assumption)) (by assumption : FamP _).1 hf.1 hf.2) (by assumption) (by assumption) (by first | assumption | exact bP_t' (by assumption)), rfl, mem_packC [_, _] (mem_take 6 (mem_pick (n := 5) (mem_pick (n := 5) (mem_pick (n := 15) (mem_pick (n := 15) (mem_pick (n := 15) (mem_pick (n := 15) (M) rfl) rfl) rfl) rfl) rfl) rfl))⟩
     try simp only [sA] at hc9
     refine gc_skip ?_
     refine gk_block ?_
     refine gk_then (hK9 _ _ ?_)
     refine gc_region ?_
     refine gm ?_
     refine gv (qt_add rfl rfl rfl (by omega)) ?_
     refine gas ?_
     refine g_nil ?_
     refine gk_then (gk_take 3 ?_)
     refine gk_sub ?hs_100 (hKL6 (k + 1) ?hi_100 ?hm_100)
     case hs_100 => repeat first | exact sub_nil | refine sub_cons rfl ?_
     case hi_100 => omega
     case hm_100 => omega
    try simp only [sA] at hs9_11
    refine gsk ?_
    refine gsk ?_
    refine gv (qt_pick_f rfl rfl rfl) ?_
    refine gnt (hK97 _ _ ?_)
    refine gc_cond_f rfl ?_
    refine gc_skip ?_
    refine gk_block ?_
    refine gk_then (hK9 _ _ ?_)
    refine gc_region ?_
    refine gm ?_
    refine gv (qt_add rfl rfl rfl (by omega)) ?_
    refine gas ?_
    refine g_nil ?_
    refine gk_then (gk_take 3 ?_)
    refine gk_sub ?hs_101 (hKL6 (k + 1) ?hi_101 ?hm_101)
    case hs_101 => repeat first | exact sub_nil | refine sub_cons rfl ?_
    case hi_101 => omega
    case hm_101 => omega
   try simp only [sA] at hs9_4
   refine gsk ?_
   refine gsk ?_
   refine gsk ?_
   refine gsk ?_
   refine gsk ?_
   refine gv (qt_pick_f rfl rfl rfl) ?_
   refine gm ?_
   refine gsk ?_
   refine gsk ?_
   refine gv (qt_pick_f rfl rfl rfl) ?_
   refine gnt (hK97 _ _ ?_)
   refine gc_cond_f rfl ?_
   refine gc_skip ?_
   refine gk_block ?_
   refine gk_then (hK9 _ _ ?_)
   refine gc_region ?_
   refine gm ?_
   refine gv (qt_add rfl rfl rfl (by omega)) ?_
   refine gas ?_
   refine g_nil ?_
   refine gk_then (gk_take 3 ?_)
   refine gk_sub ?hs_102 (hKL6 (k + 1) ?hi_102 ?hm_102)
   case hs_102 => repeat first | exact sub_nil | refine sub_cons rfl ?_
   case hi_102 => omega
   case hm_102 => omega
  try simp only [sA] at hc1
  refine gc_skip ?_
  refine gk_then (hK16 _ _ ?_)
  refine gc_seq fun K103 hK103 => ?_
  refine gc_sr fun K104 hK104 => ?_
  refine gm ?_
  refine gop fun K106 hK106 => ?_
  refine go_srcNext (n := 0) rfl rfl rfl func51 rfl (by decide) rfl hI rfl (by omega) ?_
  intro r105 hs105
  refine hK106 _ _ ?_
  refine gv (qt_eql rfl rfl rfl) ?_
  refine gnt (hK104 _ _ ?_)
  refine gc_cond rfl (fun hc10 => ?_) (fun hc10 => ?_)
  ·try simp only [sA] at hc10
   try simp only [sL]
   refine ga_start _ (fun w M => mem_erase 7 (M)) ?_
   refine gav 1 rfl (qt_move rfl rfl) ?_
   refine gat 0 2 (fun K107 hK107 => ?_) (fun K107 hK107 => ?_)
   ·refine gov (qts underlying27 (n := 7)) ?_
    refine hK107 _ _ (fun w M => (ms1 7 8 M :)) ?_
    refine gao 2 fun K110 hK110 => ?_
    refine go_callMC (P := FamP) rfl rfl rfl func81 rfl (by decide) rfl rfl (fun w M => specFam_any _ w ca cl cc g _ hI M) ?_
    intro cz109 ca109 cb109 cc109 cd109 ce109 cf109 cg109 ch109 cu109 hfam109
    refine hK110 _ _ (fun w M => (ms1 7 8 M :)) ?_
    refine gao 3 fun K112 hK112 => ?_
    refine go_callC rfl rfl rfl func83 rfl (by decide) rfl (fun w M => specProduct_any w _ (_) (rdC_mk ((mem_own1 (n := 3) M rfl).rd) ((mem_own1 (n := 4) M rfl).rd) ((mem_own1 (n := 5) M rfl).rd) (mem_rdU (n := 6) M rfl)) _ (_) (rdC_mk ((mem_own1 (n := 8) M rfl).rd) ((mem_own1 (n := 9) M rfl).rd) ((mem_own1 (n := 10) M rfl).rd) (mem_rdU (n := 11) M rfl)) (by first | exact (by assumption : FamP _).1 | exact fam_sum (by assumption) (by assumption)) (by first | exact (by assumption : FamP _).1 | exact fam_sum (by assumption) (by assumption))) ?_
    intro ca111 cb111 cc111 cd111 ce111 cf111 cg111 ch111 cu111
    refine hK112 _ _ (fun w M => (ms1 7 8 M :)) ?_
    refine gao 4 fun K113 hK113 => ?_
    refine gss 7 ?_
    refine hK113 _ _ (fun w M => (ms1 7 8 M :)) ?_
    refine ga_done (by kernel_rfl) ?_
    refine gk_then (hK103 _ _ ?_)
    refine gc_sr fun K114 hK114 => ?_
    refine gv (qtf underlying27 (z := 0) (off := 0)) ?_
    refine gv (qtl underlying2 (n := 7)) ?_
    refine gm ?_
    refine gv (qt_leq rfl rfl rfl) ?_
    refine g_splitv (.free rfl) rfl rfl (qt_move rfl rfl) (fun hs9_4 => ?_) (fun hs9_4 => ?_)
    ·try simp only [sA] at hs9_4
     refine gvh (qtf underlying27 (z := 0) (off := 1)) ?_
     refine gvh (qtl underlying24 (n := 7)) ?_
     refine gvh (qln (fun w M => lenV_own1 (n := 12) rfl M)) ?_
     refine gvh (qt_move rfl rfl) ?_
     refine gvh (qt_leq rfl rfl rfl) ?_
     refine gv (qt_pick_t rfl rfl rfl) ?_
     refine g_splitv (.free rfl) rfl rfl (qt_move rfl rfl) (fun hs9_11 => ?_) (fun hs9_11 => ?_)
     ·try simp only [sA] at hs9_11
      refine gvh (qts underlying27 (n := 7)) ?_
      refine g_q (.held _ _ _ rfl rfl rfl) rfl rfl (qt_call rfl func84 rfl (by decide) rfl (fun w M => specFits_any w _ _ (rdC_mk ((mem_own1 (n := 12) M rfl).rd) ((mem_own1 (n := 13) M rfl).rd) ((mem_own1 (n := 14) M rfl).rd) (mem_rdU (n := 15) M rfl)))) ?_
      refine gv (qt_pick_t rfl rfl rfl) ?_
      refine gnt (hK114 _ _ ?_)
      refine gc_cond rfl (fun hc11 => ?_) (fun hc11 => ?_)
      ·try simp only [sA] at hc11
       refine gc_sr fun K115 hK115 => ?_
       refine gv (qts underlying27 (n := 7)) ?_
       refine gop fun K116 hK116 => ?_
       refine gss 2 ?_
       refine hK116 _ _ ?_
       refine gnt (hK115 _ _ ?_)
       refine gc_ret ?_
       refine gk_block_ret ?_
       refine gk_then_ret ?_
       refine gk_then_ret ?_
       refine gk_block_ret ?_
       refine gk_then_ret ?_
       refine ret_S (n := 2) rfl rfl underlying27 rfl (by kernel_rfl) rfl (fun w M => ?_)
       exact ⟨_, _, some_of (fun hf => by first | exact (by assumption : FamP _).1 | exact fam_sum (by assumption) (by assumption) | exact prod_shape (by first | exact (by assumption : FamP _).1 | exact fam_sum (by assumption) (by assumption)) (by assumption : FamP _).1 hf.1 hf.2) (by assumption) (by assumption) (by first | assumption | exact bP_t' (by assumption)), rfl, mem_packC [_, _] (mem_take 6 (mem_pick (n := 5) (mem_pick (n := 5) (mem_pick (n := 15) (mem_pick (n := 15) (mem_pick (n := 15) (mem_pick (n := 15) (M) rfl) rfl) rfl) rfl) rfl) rfl))⟩
      try simp only [sA] at hc11
      refine gc_skip ?_
      refine gk_block ?_
      refine gk_then (hK9 _ _ ?_)
      refine gc_region ?_
      refine gm ?_
      refine gv (qt_add rfl rfl rfl (by omega)) ?_
      refine gas ?_
      refine g_nil ?_
      refine gk_then (gk_take 3 ?_)
      refine gk_sub ?hs_117 (hKL6 (k + 1) ?hi_117 ?hm_117)
      case hs_117 => repeat first | exact sub_nil | refine sub_cons rfl ?_
      case hi_117 => omega
      case hm_117 => omega
     try simp only [sA] at hs9_11
     refine gsk ?_
     refine gsk ?_
     refine gv (qt_pick_f rfl rfl rfl) ?_
     refine gnt (hK114 _ _ ?_)
     refine gc_cond_f rfl ?_
     refine gc_skip ?_
     refine gk_block ?_
     refine gk_then (hK9 _ _ ?_)
     refine gc_region ?_
     refine gm ?_
     refine gv (qt_add rfl rfl rfl (by omega)) ?_
     refine gas ?_
     refine g_nil ?_
     refine gk_then (gk_take 3 ?_)
     refine gk_sub ?hs_118 (hKL6 (k + 1) ?hi_118 ?hm_118)
     case hs_118 => repeat first | exact sub_nil | refine sub_cons rfl ?_
     case hi_118 => omega
     case hm_118 => omega
    try simp only [sA] at hs9_4
    refine gsk ?_
    refine gsk ?_
    refine gsk ?_
    refine gsk ?_
    refine gsk ?_
    refine gv (qt_pick_f rfl rfl rfl) ?_
    refine gm ?_
    refine gsk ?_
    refine gsk ?_
    refine gv (qt_pick_f rfl rfl rfl) ?_
    refine gnt (hK114 _ _ ?_)
    refine gc_cond_f rfl ?_
    refine gc_skip ?_
    refine gk_block ?_
    refine gk_then (hK9 _ _ ?_)
    refine gc_region ?_
    refine gm ?_
    refine gv (qt_add rfl rfl rfl (by omega)) ?_
    refine gas ?_
    refine g_nil ?_
    refine gk_then (gk_take 3 ?_)
    refine gk_sub ?hs_119 (hKL6 (k + 1) ?hi_119 ?hm_119)
    case hs_119 => repeat first | exact sub_nil | refine sub_cons rfl ?_
    case hi_119 => omega
    case hm_119 => omega
   refine go_callMC (P := FamP) rfl rfl rfl func81 rfl (by decide) rfl rfl (fun w M => specFam_any _ w ca cl cc g _ hI M) ?_
   intro cz120 ca120 cb120 cc120 cd120 ce120 cf120 cg120 ch120 cu120 hfam120
   refine hK107 _ _ (fun w M => (ms1 7 8 M :)) ?_
   refine gao 0 fun K122 hK122 => ?_
   refine gov (qts underlying27 (n := 7)) ?_
   refine hK122 _ _ (fun w M => (ms1 7 8 M :)) ?_
   refine gao 3 fun K124 hK124 => ?_
   refine go_callC rfl rfl rfl func83 rfl (by decide) rfl (fun w M => specProduct_any w _ (_) (rdC_mk ((mem_own1 (n := 3) M rfl).rd) ((mem_own1 (n := 4) M rfl).rd) ((mem_own1 (n := 5) M rfl).rd) (mem_rdU (n := 6) M rfl)) _ (_) (rdC_mk ((mem_own1 (n := 8) M rfl).rd) ((mem_own1 (n := 9) M rfl).rd) ((mem_own1 (n := 10) M rfl).rd) (mem_rdU (n := 11) M rfl)) (by first | exact (by assumption : FamP _).1 | exact fam_sum (by assumption) (by assumption)) (by first | exact (by assumption : FamP _).1 | exact fam_sum (by assumption) (by assumption))) ?_
   intro ca123 cb123 cc123 cd123 ce123 cf123 cg123 ch123 cu123
   refine hK124 _ _ (fun w M => (ms1 7 8 M :)) ?_
   refine gao 4 fun K125 hK125 => ?_
   refine gss 7 ?_
   refine hK125 _ _ (fun w M => (ms1 7 8 M :)) ?_
   refine ga_done (by kernel_rfl) ?_
   refine gk_then (hK103 _ _ ?_)
   refine gc_sr fun K126 hK126 => ?_
   refine gv (qtf underlying27 (z := 0) (off := 0)) ?_
   refine gv (qtl underlying2 (n := 7)) ?_
   refine gm ?_
   refine gv (qt_leq rfl rfl rfl) ?_
   refine g_splitv (.free rfl) rfl rfl (qt_move rfl rfl) (fun hs9_4 => ?_) (fun hs9_4 => ?_)
   ·try simp only [sA] at hs9_4
    refine gvh (qtf underlying27 (z := 0) (off := 1)) ?_
    refine gvh (qtl underlying24 (n := 7)) ?_
    refine gvh (qln (fun w M => lenV_own1 (n := 12) rfl M)) ?_
    refine gvh (qt_move rfl rfl) ?_
    refine gvh (qt_leq rfl rfl rfl) ?_
    refine gv (qt_pick_t rfl rfl rfl) ?_
    refine g_splitv (.free rfl) rfl rfl (qt_move rfl rfl) (fun hs9_11 => ?_) (fun hs9_11 => ?_)
    ·try simp only [sA] at hs9_11
     refine gvh (qts underlying27 (n := 7)) ?_
     refine g_q (.held _ _ _ rfl rfl rfl) rfl rfl (qt_call rfl func84 rfl (by decide) rfl (fun w M => specFits_any w _ _ (rdC_mk ((mem_own1 (n := 12) M rfl).rd) ((mem_own1 (n := 13) M rfl).rd) ((mem_own1 (n := 14) M rfl).rd) (mem_rdU (n := 15) M rfl)))) ?_
     refine gv (qt_pick_t rfl rfl rfl) ?_
     refine gnt (hK126 _ _ ?_)
     refine gc_cond rfl (fun hc12 => ?_) (fun hc12 => ?_)
     ·try simp only [sA] at hc12
      refine gc_sr fun K127 hK127 => ?_
      refine gv (qts underlying27 (n := 7)) ?_
      refine gop fun K128 hK128 => ?_
      refine gss 2 ?_
      refine hK128 _ _ ?_
      refine gnt (hK127 _ _ ?_)
      refine gc_ret ?_
      refine gk_block_ret ?_
      refine gk_then_ret ?_
      refine gk_then_ret ?_
      refine gk_block_ret ?_
      refine gk_then_ret ?_
      refine ret_S (n := 2) rfl rfl underlying27 rfl (by kernel_rfl) rfl (fun w M => ?_)
      exact ⟨_, _, some_of (fun hf => by first | exact (by assumption : FamP _).1 | exact fam_sum (by assumption) (by assumption) | exact prod_shape (by first | exact (by assumption : FamP _).1 | exact fam_sum (by assumption) (by assumption)) (by assumption : FamP _).1 hf.1 hf.2) (by assumption) (by assumption) (by first | assumption | exact bP_t' (by assumption)), rfl, mem_packC [_, _] (mem_take 6 (mem_pick (n := 5) (mem_pick (n := 5) (mem_pick (n := 15) (mem_pick (n := 15) (mem_pick (n := 15) (mem_pick (n := 15) (M) rfl) rfl) rfl) rfl) rfl) rfl))⟩
     try simp only [sA] at hc12
     refine gc_skip ?_
     refine gk_block ?_
     refine gk_then (hK9 _ _ ?_)
     refine gc_region ?_
     refine gm ?_
     refine gv (qt_add rfl rfl rfl (by omega)) ?_
     refine gas ?_
     refine g_nil ?_
     refine gk_then (gk_take 3 ?_)
     refine gk_sub ?hs_129 (hKL6 (k + 1) ?hi_129 ?hm_129)
     case hs_129 => repeat first | exact sub_nil | refine sub_cons rfl ?_
     case hi_129 => omega
     case hm_129 => omega
    try simp only [sA] at hs9_11
    refine gsk ?_
    refine gsk ?_
    refine gv (qt_pick_f rfl rfl rfl) ?_
    refine gnt (hK126 _ _ ?_)
    refine gc_cond_f rfl ?_
    refine gc_skip ?_
    refine gk_block ?_
    refine gk_then (hK9 _ _ ?_)
    refine gc_region ?_
    refine gm ?_
    refine gv (qt_add rfl rfl rfl (by omega)) ?_
    refine gas ?_
    refine g_nil ?_
    refine gk_then (gk_take 3 ?_)
    refine gk_sub ?hs_130 (hKL6 (k + 1) ?hi_130 ?hm_130)
    case hs_130 => repeat first | exact sub_nil | refine sub_cons rfl ?_
    case hi_130 => omega
    case hm_130 => omega
   try simp only [sA] at hs9_4
   refine gsk ?_
   refine gsk ?_
   refine gsk ?_
   refine gsk ?_
   refine gsk ?_
   refine gv (qt_pick_f rfl rfl rfl) ?_
   refine gm ?_
   refine gsk ?_
   refine gsk ?_
   refine gv (qt_pick_f rfl rfl rfl) ?_
   refine gnt (hK126 _ _ ?_)
   refine gc_cond_f rfl ?_
   refine gc_skip ?_
   refine gk_block ?_
   refine gk_then (hK9 _ _ ?_)
   refine gc_region ?_
   refine gm ?_
   refine gv (qt_add rfl rfl rfl (by omega)) ?_
   refine gas ?_
   refine g_nil ?_
   refine gk_then (gk_take 3 ?_)
   refine gk_sub ?hs_131 (hKL6 (k + 1) ?hi_131 ?hm_131)
   case hs_131 => repeat first | exact sub_nil | refine sub_cons rfl ?_
   case hi_131 => omega
   case hm_131 => omega
  try simp only [sA] at hc10
  refine gc_skip ?_
  refine gk_then (hK103 _ _ ?_)
  refine gc_sr fun K132 hK132 => ?_
  refine gv (qtf underlying27 (z := 0) (off := 0)) ?_
  refine gv (qtl underlying2 (n := 7)) ?_
  refine gm ?_
  refine gv (qt_leq rfl rfl rfl) ?_
  refine g_splitv (.free rfl) rfl rfl (qt_move rfl rfl) (fun hs9_4 => ?_) (fun hs9_4 => ?_)
  ·try simp only [sA] at hs9_4
   refine gvh (qtf underlying27 (z := 0) (off := 1)) ?_
   refine gvh (qtl underlying24 (n := 7)) ?_
   refine gvh (qln (fun w M => lenV_own1 (n := 3) rfl M)) ?_
   refine gvh (qt_move rfl rfl) ?_
   refine gvh (qt_leq rfl rfl rfl) ?_
   refine gv (qt_pick_t rfl rfl rfl) ?_
   refine g_splitv (.free rfl) rfl rfl (qt_move rfl rfl) (fun hs9_11 => ?_) (fun hs9_11 => ?_)
   ·try simp only [sA] at hs9_11
    refine gvh (qts underlying27 (n := 7)) ?_
    refine g_q (.held _ _ _ rfl rfl rfl) rfl rfl (qt_call rfl func84 rfl (by decide) rfl (fun w M => specFits_any w _ _ (rdC_mk ((mem_own1 (n := 3) M rfl).rd) ((mem_own1 (n := 4) M rfl).rd) ((mem_own1 (n := 5) M rfl).rd) (mem_rdU (n := 6) M rfl)))) ?_
    refine gv (qt_pick_t rfl rfl rfl) ?_
    refine gnt (hK132 _ _ ?_)
    refine gc_cond rfl (fun hc13 => ?_) (fun hc13 => ?_)
    ·try simp only [sA] at hc13
     refine gc_sr fun K133 hK133 => ?_
     refine gv (qts underlying27 (n := 7)) ?_
     refine gop fun K134 hK134 => ?_
     refine gss 2 ?_
     refine hK134 _ _ ?_
     refine gnt (hK133 _ _ ?_)
     refine gc_ret ?_
     refine gk_block_ret ?_
     refine gk_then_ret ?_
     refine gk_then_ret ?_
     refine gk_block_ret ?_
     refine gk_then_ret ?_
     refine ret_S (n := 2) rfl rfl underlying27 rfl (by kernel_rfl) rfl (fun w M => ?_)
     exact ⟨_, _, some_of (fun hf => by first | exact (by assumption : FamP _).1 | exact fam_sum (by assumption) (by assumption) | exact prod_shape (by first | exact (by assumption : FamP _).1 | exact fam_sum (by assumption) (by assumption)) (by assumption : FamP _).1 hf.1 hf.2) (by assumption) (by assumption) (by first | assumption | exact bP_t' (by assumption)), rfl, mem_packC [_, _] (mem_take 6 (mem_pick (n := 5) (mem_pick (n := 5) (mem_pick (n := 6) (mem_pick (n := 6) (mem_pick (n := 6) (mem_pick (n := 6) (M) rfl) rfl) rfl) rfl) rfl) rfl))⟩
    try simp only [sA] at hc13
    refine gc_skip ?_
    refine gk_block ?_
    refine gk_then (hK9 _ _ ?_)
    refine gc_region ?_
    refine gm ?_
    refine gv (qt_add rfl rfl rfl (by omega)) ?_
    refine gas ?_
    refine g_nil ?_
    refine gk_then (gk_take 3 ?_)
    refine gk_sub ?hs_135 (hKL6 (k + 1) ?hi_135 ?hm_135)
    case hs_135 => repeat first | exact sub_nil | refine sub_cons rfl ?_
    case hi_135 => omega
    case hm_135 => omega
   try simp only [sA] at hs9_11
   refine gsk ?_
   refine gsk ?_
   refine gv (qt_pick_f rfl rfl rfl) ?_
   refine gnt (hK132 _ _ ?_)
   refine gc_cond_f rfl ?_
   refine gc_skip ?_
   refine gk_block ?_
   refine gk_then (hK9 _ _ ?_)
   refine gc_region ?_
   refine gm ?_
   refine gv (qt_add rfl rfl rfl (by omega)) ?_
   refine gas ?_
   refine g_nil ?_
   refine gk_then (gk_take 3 ?_)
   refine gk_sub ?hs_136 (hKL6 (k + 1) ?hi_136 ?hm_136)
   case hs_136 => repeat first | exact sub_nil | refine sub_cons rfl ?_
   case hi_136 => omega
   case hm_136 => omega
  try simp only [sA] at hs9_4
  refine gsk ?_
  refine gsk ?_
  refine gsk ?_
  refine gsk ?_
  refine gsk ?_
  refine gv (qt_pick_f rfl rfl rfl) ?_
  refine gm ?_
  refine gsk ?_
  refine gsk ?_
  refine gv (qt_pick_f rfl rfl rfl) ?_
  refine gnt (hK132 _ _ ?_)
  refine gc_cond_f rfl ?_
  refine gc_skip ?_
  refine gk_block ?_
  refine gk_then (hK9 _ _ ?_)
  refine gc_region ?_
  refine gm ?_
  refine gv (qt_add rfl rfl rfl (by omega)) ?_
  refine gas ?_
  refine g_nil ?_
  refine gk_then (gk_take 3 ?_)
  refine gk_sub ?hs_137 (hKL6 (k + 1) ?hi_137 ?hm_137)
  case hs_137 => repeat first | exact sub_nil | refine sub_cons rfl ?_
  case hi_137 => omega
  case hm_137 => omega
 try simp only [sA] at hc0
 refine gc_exit ?_
 refine gk_then_exit ?_
 refine gk_then_exit ?_
 refine gk_block_hit ?_
 refine gk_then (hK4 _ _ ?_)
 refine gc_sr fun K138 hK138 => ?_
 refine gop fun K140 hK140 => ?_
 refine go_slice1 rfl rfl rfl rfl underlying24 ?_
 intro B139
 refine hK140 _ _ ?_
 refine gop fun K142 hK142 => ?_
 refine go_sliceR1 (m := 3) rfl rfl rfl rfl underlying25 rfl ?_
 intro B141
 refine hK142 _ _ ?_
 refine gop fun K144 hK144 => ?_
 refine go_callC rfl rfl rfl func85 rfl (by decide) rfl (fun w M => specPoset_any w _ (_) (mem_rdU (n := 3) M rfl) (by first | assumption | exact sq_of rfl) (by first | decide | omega | (simp; omega))) ?_
 intro ca143 cb143 cc143 cd143 ce143 cf143 cg143 ch143 cu143
 refine hK144 _ _ ?_
 refine gop fun K145 hK145 => ?_
 refine gss 2 ?_
 refine hK145 _ _ ?_
 refine gnt (hK138 _ _ ?_)
 refine gc_ret ?_
 refine ret_S (n := 2) rfl rfl underlying27 rfl (by kernel_rfl) rfl (fun w M => ?_)
 exact ⟨_, _, one_some ho ha, rfl, mem_packC [_, _] (mem_take 6 (mem_pick (n := 5) (mem_pick (n := 5) (mem_pick (n := 7) (mem_pick (n := 7) (mem_pick (n := 7) (mem_pick (n := 7) (M) rfl) rfl) rfl) rfl) rfl) rfl))⟩
end Go.Proofs.Ytbiplocgenppoaa
