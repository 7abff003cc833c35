
/- Kinds of arrows: the model's. -/
import Derived.Test.YtbfenibkbmkcaabShort
import Derived.Test.YtbfenibkbmkcaabKinM
import Derived.Test.YtbfenibkbmkcaabClo
set_option linter.unusedSimpArgs false
set_option linter.unusedVariables false
set_option linter.unusedSectionVars false
namespace Go.Proofs.Ytbfenibkbmkcaab
open Go.RowKit

set_option maxHeartbeats 1000000 in
set_option maxRecDepth 100000 in
theorem specMono_any (w : World) (v : Value) (c : Cat) (f : Int) (h : RdC w v c) (hS : ShapeP c) (f0 : 0 ≤ f) (f1 : f < c.s.length) :
  Calls Try.prog 67 #[v, .int .i64 f] w (RetB w (bP (monoP c f))) := by
 have h0 := h
 obtain ⟨va, vb, vc, vd, ve, vf, vg, vh, rfl, h1, h2, h3, h4, _⟩ := h.lists
 have hf := arrP hS f0 f1
 have e1 := hf.fs; have e2 := hf.ft; have e3 := hf.fm; have e4 := hf.s0; have e5 := hf.s1; have e6 := hf.t0; have e7 := hf.t1; have e8 := hf.row
 have hn40 := hS.n40; have htl := hS.tl; have hel := hS.el
 go_enter Try.func67, Try.ntmps67
 refine gc_enter (N := 79) rfl (look_cons (k := 0) rfl (look_cons (k := 1) rfl (look_nil _))) ?_
 refine gc_sr fun K1 hK1 => ?_
 refine gop fun K3 hK3 => ?_
 refine go_box rfl rfl rfl rfl rfl ?_
 intro B2
 refine hK3 _ _ ?_
 refine gas ?_
 refine gnt (hK1 _ _ ?_)
 refine gc_seq fun K4 hK4 => ?_
 refine gc_sr fun K5 hK5 => ?_
 refine gas ?_
 refine gnt (hK5 _ _ ?_)
 refine gc_block ?_
 try simp only [sL]
 refine gc_loopT ([(0, _), (1, _), (2, _)] : Env) (fun s : Nat => (fun (k : Nat) => (([(5, .int .i64 (k : Int))] : Env), ([] : List (Nat × Itm)), k ≤ c.s.length ∧ noB (badM c f) c.s.length k 0, c.s.length - k)) s) (0) (by repeat first | exact sub_nil | refine sub_cons rfl ?_) rfl ⟨Nat.zero_le _, noB_zero _ _⟩ ?_
 rintro k hinv KL6 hKL6
 simp only [sU, sL] at hinv hKL6 ⊢
 obtain ⟨hk, hno⟩ := hinv
 refine gc_seq fun K7 hK7 => ?_
 refine gc_sr fun K8 hK8 => ?_
 refine gm ?_
 refine gv (qtf Try.underlying25 (z := 0) (off := 1)) ?_
 refine gv (qtl Try.underlying22 (n := 0)) ?_
 refine gv (qln (fun w M => lenV_rd h1)) ?_
 refine gv (qt_lss rfl rfl rfl) ?_
 refine gnt (hK8 _ _ ?_)
 refine gc_cond rfl (fun hc0 => ?_) (fun hc0 => ?_)
 ·try simp only [sA] at hc0
  refine gc_skip ?_
  refine gk_then (hK7 _ _ ?_)
  refine gc_seq fun K9 hK9 => ?_
  refine gc_block ?_
  refine gc_sr fun K10 hK10 => ?_
  refine gm ?_
  refine gv (qt_add rfl rfl rfl (by omega)) ?_
  refine gas ?_
  refine gnt (hK10 _ _ ?_)
  refine gc_block ?_
  try simp only [sL]
  refine gc_loopT ([(0, _), (1, _), (2, _), (5, _), (11, _)] : Env) (fun s : Nat => (fun (l : Nat) => (([(6, .int .i64 (l : Int))] : Env), ([] : List (Nat × Itm)), k + 1 ≤ l ∧ l ≤ c.s.length ∧ noB (badM c f) c.s.length k l, c.s.length - l)) s) (k + 1) (by repeat first | exact sub_nil | refine sub_cons rfl ?_) rfl ⟨Nat.le_refl _, by omega, noB_row hno⟩ ?_
  rintro l hinv KL11 hKL11
  simp only [sU, sL] at hinv hKL11 ⊢
  obtain ⟨hl0, hl1, hno1⟩ := hinv
  refine gc_seq fun K12 hK12 => ?_
  refine gc_sr fun K13 hK13 => ?_
  refine gm ?_
  refine gv (qtf Try.underlying25 (z := 0) (off := 1)) ?_
  refine gv (qtl Try.underlying22 (n := 0)) ?_
  refine gv (qln (fun w M => lenV_rd h1)) ?_
  refine gv (qt_lss rfl rfl rfl) ?_
  refine gnt (hK13 _ _ ?_)
  refine gc_cond rfl (fun hc1 => ?_) (fun hc1 => ?_)
  ·try simp only [sA] at hc1
   refine gc_skip ?_
   refine gk_then (hK12 _ _ ?_)
   refine gc_seq fun K14 hK14 => ?_
   refine gc_block ?_
   refine gc_seq fun K15 hK15 => ?_
   have hA := arrP hS (f := (k : Int)) (by omega) (by omega)
   have hB := arrP hS (f := (l : Int)) (by omega) (by omega)
   have a1 := hA.fs; have a2 := hA.ft; have a3 := hA.fm; have a4 := hA.row; have b1 := hB.fs; have b2 := hB.ft; have b3 := hB.fm; have b4 := hB.row
   refine gc_draw (by kernel_rfl) ?_
   refine gdv (qtf Try.underlying25 (z := 0) (off := 1)) ?_
   refine gdv (qtl Try.underlying22 (n := 0)) ?_
   refine gdv (qt_move rfl rfl) ?_
   refine gdv (qti (fun w M => lenA_rd h1)) ?_
   refine gdv (qtd (fun w M => mem_rd M h1)) ?_
   refine gdv (qtf Try.underlying25 (z := 0) (off := 1)) ?_
   refine gdv (qtl Try.underlying22 (n := 0)) ?_
   refine gdv (qt_move rfl rfl) ?_
   refine gdv (qti (fun w M => lenA_rd h1)) ?_
   refine gdv (qtd (fun w M => mem_rd M h1)) ?_
   refine gdv (qt_eql rfl rfl rfl) ?_
   refine gd_splitv (.free rfl) rfl rfl (qt_move rfl rfl) (fun hs7_11 => ?_) (fun hs7_11 => ?_)
   ·try simp only [sA] at hs7_11
    refine gdvh (qtf Try.underlying25 (z := 0) (off := 2)) ?_
    refine gdvh (qtl Try.underlying22 (n := 0)) ?_
    refine gdvh (qt_move rfl rfl) ?_
    refine gdvh (qti (fun w M => lenA_rd h2)) ?_
    refine gdvh (qtd (fun w M => mem_rd M h2)) ?_
    refine gdvh (qtf Try.underlying25 (z := 0) (off := 1)) ?_
    refine gdvh (qtl Try.underlying22 (n := 0)) ?_
    refine gdvh (qt_move rfl rfl) ?_
    refine gdvh (qti (fun w M => lenA_rd h1)) ?_
    refine gdvh (qtd (fun w M => mem_rd M h1)) ?_
    refine gdvh (qt_eql rfl rfl rfl) ?_
    refine gdv (qt_pick_t rfl rfl rfl) ?_
    refine gd_splitv (.free rfl) rfl rfl (qt_move rfl rfl) (fun hs7_24 => ?_) (fun hs7_24 => ?_)
    ·try simp only [sA] at hs7_24
     refine gdvh (qtf Try.underlying25 (z := 0) (off := 2)) ?_
     refine gdvh (qtl Try.underlying22 (n := 0)) ?_
     refine gdvh (qt_move rfl rfl) ?_
     refine gdvh (qti (fun w M => lenA_rd h2)) ?_
     refine gdvh (qtd (fun w M => mem_rd M h2)) ?_
     refine gdvh (qtf Try.underlying25 (z := 0) (off := 1)) ?_
     refine gdvh (qtl Try.underlying22 (n := 0)) ?_
     refine gdvh (qt_move rfl rfl) ?_
     refine gdvh (qti (fun w M => lenA_rd h1)) ?_
     refine gdvh (qtd (fun w M => mem_rd M h1)) ?_
     refine gdvh (qt_eql rfl rfl rfl) ?_
     refine gdv (qt_pick_t rfl rfl rfl) ?_
     refine gd_splitv (.free rfl) rfl rfl (qt_move rfl rfl) (fun hs7_37 => ?_) (fun hs7_37 => ?_)
     ·try simp only [sA] at hs7_37
      refine gdvh (qtf Try.underlying25 (z := 0) (off := 4)) ?_
      refine gdvh (qtl Try.underlying23 (n := 0)) ?_
      refine gdvh (qt_move rfl rfl) ?_
      refine gdvh (qti2 (fun w M => lenA_rd2 h4)) ?_
      refine gd_load2 (.held _ _ _ rfl rfl rfl) rfl rfl rfl rfl Try.underlying22 rfl h4 (by omega) (by omega) ?_
      intro ra16 rc16 hr16
      refine gdvh (qt_move rfl rfl) ?_
      refine gdvh (qti (fun w M => lenA_rd hr16)) ?_
      refine gdvh (qtd (fun w M => mem_rd M hr16)) ?_
      refine gdvh (qtf Try.underlying25 (z := 0) (off := 4)) ?_
      refine gdvh (qtl Try.underlying23 (n := 0)) ?_
      refine gdvh (qt_move rfl rfl) ?_
      refine gdvh (qti2 (fun w M => lenA_rd2 h4)) ?_
      refine gd_load2 (.held _ _ _ rfl rfl rfl) rfl rfl rfl rfl Try.underlying22 rfl h4 (by omega) (by omega) ?_
      intro ra17 rc17 hr17
      refine gdvh (qt_move rfl rfl) ?_
      refine gdvh (qti (fun w M => lenA_rd hr17)) ?_
      refine gdvh (qtd (fun w M => mem_rd M hr17)) ?_
      refine gdvh (qt_eql rfl rfl rfl) ?_
      refine gdv (qt_pick_t rfl rfl rfl) ?_
      refine gd_nil ?_
      refine gk_then (hK15 _ _ ?_)
      refine gc_cond rfl (fun hc2 => ?_) (fun hc2 => ?_)
      ·try simp only [sA] at hc2
       refine gc_sr fun K18 hK18 => ?_
       refine gas ?_
       refine gnt (hK18 _ _ ?_)
       refine gc_ret ?_
       refine gk_block_ret ?_
       refine gk_then_ret ?_
       refine gk_then_ret ?_
       refine gk_block_ret ?_
       refine gk_block_ret ?_
       refine gk_then_ret ?_
       refine gk_then_ret ?_
       refine gk_block_ret ?_
       refine gk_then_ret ?_
       refine ret_1 rfl rfl  (fun w M => ?_)
       rw [bP_f (mono_not hS f0 f1 (g := k) (h := l) (by omega) (by omega) ⟨hs7_11, hs7_24, hs7_37, hc2⟩)]; exact ⟨rfl, M.1⟩
      ·try simp only [sA] at hc2
       refine gc_skip ?_
       refine gk_block ?_
       refine gk_then (hK14 _ _ ?_)
       refine gc_region ?_
       refine gm ?_
       refine gv (qt_add rfl rfl rfl (by omega)) ?_
       refine gas ?_
       refine g_nil ?_
       refine gk_then (gk_take 1 ?_)
       refine gk_sub ?hs_19 (hKL11 (l + 1) ?hi_19 ?hm_19)
       case hs_19 => repeat first | exact sub_nil | refine sub_cons rfl ?_
       case hi_19 => exact ⟨by omega, by omega, noB_next hno1 fun h => hc2 h.2.2.2⟩
       case hm_19 => omega
     ·try simp only [sA] at hs7_37
      refine gdsk ?_
      refine gdsk ?_
      refine gdsk ?_
      refine gdsk ?_
      refine gdsk ?_
      refine gdsk ?_
      refine gdsk ?_
      refine gdsk ?_
      refine gdsk ?_
      refine gdsk ?_
      refine gdsk ?_
      refine gdsk ?_
      refine gdsk ?_
      refine gdsk ?_
      refine gdsk ?_
      refine gdsk ?_
      refine gdsk ?_
      refine gdv (qt_pick_f rfl rfl rfl) ?_
      refine gd_nil ?_
      refine gk_then (hK15 _ _ ?_)
      refine gc_cond_f rfl ?_
      refine gc_skip ?_
      refine gk_block ?_
      refine gk_then (hK14 _ _ ?_)
      refine gc_region ?_
      refine gm ?_
      refine gv (qt_add rfl rfl rfl (by omega)) ?_
      refine gas ?_
      refine g_nil ?_
      refine gk_then (gk_take 1 ?_)
      refine gk_sub ?hs_20 (hKL11 (l + 1) ?hi_20 ?hm_20)
      case hs_20 => repeat first | exact sub_nil | refine sub_cons rfl ?_
      case hi_20 => exact ⟨by omega, by omega, noB_next hno1 fun h => hs7_37 h.2.2.1⟩
      case hm_20 => omega
    ·try simp only [sA] at hs7_24
     refine gdsk ?_
     refine gdsk ?_
     refine gdsk ?_
     refine gdsk ?_
     refine gdsk ?_
     refine gdsk ?_
     refine gdsk ?_
     refine gdsk ?_
     refine gdsk ?_
     refine gdsk ?_
     refine gdsk ?_
     refine gdv (qt_pick_f rfl rfl rfl) ?_
     refine gdv (qt_move rfl rfl) ?_
     refine gdsk ?_
     refine gdsk ?_
     refine gdsk ?_
     refine gdsk ?_
     refine gdsk ?_
     refine gdsk ?_
     refine gdsk ?_
     refine gdsk ?_
     refine gdsk ?_
     refine gdsk ?_
     refine gdsk ?_
     refine gdsk ?_
     refine gdsk ?_
     refine gdsk ?_
     refine gdsk ?_
     refine gdsk ?_
     refine gdsk ?_
     refine gdv (qt_pick_f rfl rfl rfl) ?_
     refine gd_nil ?_
     refine gk_then (hK15 _ _ ?_)
     refine gc_cond_f rfl ?_
     refine gc_skip ?_
     refine gk_block ?_
     refine gk_then (hK14 _ _ ?_)
     refine gc_region ?_
     refine gm ?_
     refine gv (qt_add rfl rfl rfl (by omega)) ?_
     refine gas ?_
     refine g_nil ?_
     refine gk_then (gk_take 1 ?_)
     refine gk_sub ?hs_21 (hKL11 (l + 1) ?hi_21 ?hm_21)
     case hs_21 => repeat first | exact sub_nil | refine sub_cons rfl ?_
     case hi_21 => exact ⟨by omega, by omega, noB_next hno1 fun h => hs7_24 h.2.1⟩
     case hm_21 => omega
   ·try simp only [sA] at hs7_11
    refine gdsk ?_
    refine gdsk ?_
    refine gdsk ?_
    refine gdsk ?_
    refine gdsk ?_
    refine gdsk ?_
    refine gdsk ?_
    refine gdsk ?_
    refine gdsk ?_
    refine gdsk ?_
    refine gdsk ?_
    refine gdv (qt_pick_f rfl rfl rfl) ?_
    refine gdv (qt_move rfl rfl) ?_
    refine gdsk ?_
    refine gdsk ?_
    refine gdsk ?_
    refine gdsk ?_
    refine gdsk ?_
    refine gdsk ?_
    refine gdsk ?_
    refine gdsk ?_
    refine gdsk ?_
    refine gdsk ?_
    refine gdsk ?_
    refine gdv (qt_pick_f rfl rfl rfl) ?_
    refine gdv (qt_move rfl rfl) ?_
    refine gdsk ?_
    refine gdsk ?_
    refine gdsk ?_
    refine gdsk ?_
    refine gdsk ?_
    refine gdsk ?_
    refine gdsk ?_
    refine gdsk ?_
    refine gdsk ?_
    refine gdsk ?_
    refine gdsk ?_
    refine gdsk ?_
    refine gdsk ?_
    refine gdsk ?_
    refine gdsk ?_
    refine gdsk ?_
    refine gdsk ?_
    refine gdv (qt_pick_f rfl rfl rfl) ?_
    refine gd_nil ?_
    refine gk_then (hK15 _ _ ?_)
    refine gc_cond_f rfl ?_
    refine gc_skip ?_
    refine gk_block ?_
    refine gk_then (hK14 _ _ ?_)
    refine gc_region ?_
    refine gm ?_
    refine gv (qt_add rfl rfl rfl (by omega)) ?_
    refine gas ?_
    refine g_nil ?_
    refine gk_then (gk_take 1 ?_)
    refine gk_sub ?hs_22 (hKL11 (l + 1) ?hi_22 ?hm_22)
    case hs_22 => repeat first | exact sub_nil | refine sub_cons rfl ?_
    case hi_22 => exact ⟨by omega, by omega, noB_next hno1 fun h => hs7_11 h.1⟩
    case hm_22 => omega
  ·try simp only [sA] at hc1
   refine gc_exit ?_
   refine gk_then_exit ?_
   refine gk_then_exit ?_
   refine gk_block_hit ?_
   refine gk_block ?_
   refine gk_then (hK9 _ _ ?_)
   refine gc_region ?_
   refine gm ?_
   refine gv (qt_add rfl rfl rfl (by omega)) ?_
   refine gas ?_
   refine g_nil ?_
   refine gk_then (gk_take 1 ?_)
   refine gk_sub ?hs_23 (hKL6 (k + 1) ?hi_23 ?hm_23)
   case hs_23 => repeat first | exact sub_nil | refine sub_cons rfl ?_
   case hi_23 => exact ⟨by omega, noB_end hno1 (by omega)⟩
   case hm_23 => omega
 ·try simp only [sA] at hc0
  refine gc_exit ?_
  refine gk_then_exit ?_
  refine gk_then_exit ?_
  refine gk_block_hit ?_
  refine gk_then (hK4 _ _ ?_)
  refine gc_sr fun K24 hK24 => ?_
  refine gas ?_
  refine gnt (hK24 _ _ ?_)
  refine gc_ret ?_
  refine ret_1 rfl rfl  (fun w M => ?_)
  obtain rfl : k = c.s.length := by omega
  rw [bP_t (mono_of hS f0 f1 hno)]; exact ⟨rfl, M.1⟩

end Go.Proofs.Ytbfenibkbmkcaab
