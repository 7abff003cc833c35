import Derived.Test.YtpcabkdkdnchaaaGreatZ6
import Derived.Test.YtpcabkdkdnchaaaGreatZ16
import Derived.Test.YtpcabkdkdnchaaaGreatZ17
import Derived.Test.YtpcabkdkdnchaaaGreatZ15
set_option linter.unusedSimpArgs false
set_option linter.unusedVariables false
set_option linter.unusedSectionVars false
namespace Go.Proofs.YtpcabkdkdnchaaaGreat
open Go.RowKit
theorem cat_eq {c d : Cat} : c = d ↔ c.ob = d.ob ∧ c.s = d.s ∧ c.t = d.t ∧ c.e = d.e ∧ c.m = d.m := by
 constructor
 ·rintro rfl; exact ⟨rfl, rfl, rfl, rfl, rfl⟩
 ·cases c; cases d; rintro ⟨h1, h2, h3, h4, h5⟩; simp only at h1 h2 h3 h4 h5; subst h1; subst h2; subst h3; subst h4; subst h5; rfl
theorem ext_row2 {xs ys : List (List Int)} (hl : xs.length = ys.length) (h : ∀ j : Nat, j < xs.length → row2 xs (j : Int) = row2 ys (j : Int)) : xs = ys := by
 refine List.ext_getElem hl fun j h1 h2 => ?_
 have := h j h1
 simp only [row2, Int.toNat_natCast] at this
 rwa [List.getD_eq_getElem?_getD, List.getD_eq_getElem?_getD, List.getElem?_eq_getElem h1, List.getElem?_eq_getElem h2] at this
set_option maxHeartbeats 1000000 in
set_option maxRecDepth 100000 in
theorem eqRows_any (w : World) (v : Value) (xs : List (List Int)) (u : Value) (ys : List (List Int)) (hv : Rd2 w v xs) (hu : Rd2 w u ys) (g : Value) (hg : ∀ w', Below w.heap.size w w' → ∀ v u xs ys, Rd w' v xs → Rd w' u ys → CallsV g [v, u] w' (RetB w' (decide (xs = ys)))) :
  Calls Tryz.prog 145 #[v, u, g] w (RetB w (decide (xs = ys))) := by
 obtain ⟨va, vc, rfl⟩ := rd2_form hv
 obtain ⟨ua, uc, rfl⟩ := rd2_form hu
 have hxl := rd2_len hv
 go_enter Tryz.func145, Tryz.ntmps145
 refine gc_enter (N := 32) rfl (look_cons (k := 0) rfl (look_cons (k := 1) rfl (look_cons (k := 2) rfl (look_nil _)))) ?_
 refine gc_sr fun K1 hK1 => ?_
 refine gas ?_
 refine gnt (hK1 _ _ ?_)
 refine gc_seq fun K2 hK2 => ?_
 refine gc_sr fun K3 hK3 => ?_
 refine gm ?_
 refine gv (qt_len rfl rfl ulE2 (fun w M => lenV_rd2 hv)) ?_
 refine gm ?_
 refine gv (qt_len rfl rfl ulE2 (fun w M => lenV_rd2 hu)) ?_
 refine gv (qt_neq rfl rfl rfl) ?_
 refine gnt (hK3 _ _ ?_)
 refine gc_cond rfl (fun hc0 => ?_) (fun hc0 => ?_)
 ·try simp only [sA] at hc0
  refine gc_sr fun K4 hK4 => ?_
  refine gas ?_
  refine gnt (hK4 _ _ ?_)
  refine gc_ret ?_
  refine gk_then_ret ?_
  refine ret_1 rfl rfl  (fun w M => ?_)
  rw [decide_eq_false fun h => hc0 (by rw [h])]; exact ⟨rfl, M.1⟩
 ·try simp only [sA] at hc0
  refine gc_skip ?_
  refine gk_then (hK2 _ _ ?_)
  refine gc_seq fun K5 hK5 => ?_
  refine gc_sr fun K6 hK6 => ?_
  refine gm ?_
  refine gv (qt_len rfl rfl ulE2 (fun w M => lenV_rd2 hv)) ?_
  refine gm ?_
  refine gnt (hK6 _ _ ?_)
  refine gc_block ?_
  try simp only [sL]
  refine gc_loopT ([(0, _), (1, _), (2, _), (14, _), (15, _), (16, _)] : Env) (fun s : Nat => (fun (k : Nat) => (([(17, .int .i64 (k : Int))] : Env), ([] : List (Nat × Itm)), k ≤ xs.length ∧ ∀ j : Nat, j < k → row2 xs (j : Int) = row2 ys (j : Int), xs.length - k)) s) (0) (by repeat first | exact sub_nil | refine sub_cons rfl ?_) rfl ⟨Nat.zero_le _, fun j hj => absurd hj (by omega)⟩ ?_
  rintro k hinv KL7 hKL7
  simp only [sU, sL] at hinv hKL7 ⊢
  obtain ⟨hk, hj⟩ := hinv
  refine gc_sr fun K8 hK8 => ?_
  refine gv (qt_lss rfl rfl rfl) ?_
  refine gnt (hK8 _ _ ?_)
  refine gc_seq fun K9 hK9 => ?_
  refine gc_cond rfl (fun hc1 => ?_) (fun hc1 => ?_)
  ·try simp only [sA] at hc1
   refine gc_skip ?_
   refine gk_then (hK9 _ _ ?_)
   refine gc_seq fun K10 hK10 => ?_
   refine gc_block ?_
   refine gc_sr fun K11 hK11 => ?_
   refine gm ?_
   refine gv (qti2 (fun w M => lenA_rd2 hv)) ?_
   refine g_load2 (.free rfl) rfl rfl rfl rfl Tryz.underlying22 rfl hv (by omega) (by omega) ?_
   intro ra12 rc12 hr12
   refine gas ?_
   refine gas ?_
   refine gnt (hK11 _ _ ?_)
   refine gc_sr fun K13 hK13 => ?_
   refine gm ?_
   refine gm ?_
   refine gv (qti2 (fun w M => lenA_rd2 hu)) ?_
   refine g_load2 (.free rfl) rfl rfl rfl rfl Tryz.underlying22 rfl hu (by omega) (by omega) ?_
   intro ra14 rc14 hr14
   refine gas ?_
   refine gnt (hK13 _ _ ?_)
   refine gc_sr fun K15 hK15 => ?_
   refine gm ?_
   refine gm ?_
   refine gm ?_
   refine g_q (.free rfl) rfl rfl (qt_callV rfl rfl rfl (fun w M => hg w M.1 _ _ _ _ (mem_rd M hr12) (mem_rd M hr14))) ?_
   refine gv (qt_not rfl rfl) ?_
   refine gnt (hK15 _ _ ?_)
   refine gc_cond rfl (fun hc2 => ?_) (fun hc2 => ?_)
   ·try simp only [sA] at hc2
    refine gc_sr fun K16 hK16 => ?_
    refine gas ?_
    refine gnt (hK16 _ _ ?_)
    refine gc_ret ?_
    refine gk_block_ret ?_
    refine gk_then_ret ?_
    refine gk_then_ret ?_
    refine gk_block_ret ?_
    refine gk_then_ret ?_
    refine ret_1 rfl rfl  (fun w M => ?_)
    rw [decide_eq_false fun h => hc2 (by rw [h])]; exact ⟨rfl, M.1⟩
   ·try simp only [sA] at hc2
    refine gc_skip ?_
    refine gk_block ?_
    refine gk_then (hK10 _ _ ?_)
    refine gc_region ?_
    refine gv (qt_add rfl rfl rfl (by omega)) ?_
    refine gm ?_
    refine g_nil ?_
    refine gk_then (gk_take 0 ?_)
    refine gk_sub ?hs_17 (hKL7 (k + 1) ?hi_17 ?hm_17)
    case hs_17 => repeat first | exact sub_nil | refine sub_cons rfl ?_
    case hi_17 => exact ⟨by omega, all_next0 hj hc2⟩
    case hm_17 => omega
  ·try simp only [sA] at hc1
   refine gc_exit ?_
   refine gk_then_exit ?_
   refine gk_then_exit ?_
   refine gk_block_hit ?_
   refine gk_then (hK5 _ _ ?_)
   refine gc_sr fun K18 hK18 => ?_
   refine gas ?_
   refine gnt (hK18 _ _ ?_)
   refine gc_ret ?_
   refine ret_1 rfl rfl  (fun w M => ?_)
   rw [decide_eq_true (ext_row2 (by omega) fun j h => hj j (by omega))]; exact ⟨rfl, M.1⟩
set_option maxHeartbeats 1000000 in
set_option maxRecDepth 100000 in
theorem specSame2_any (w : World) (v : Value) (xs : List (List Int)) (u : Value) (ys : List (List Int)) (hv : Rd2 w v xs) (hu : Rd2 w u ys) :
  Calls Tryz.prog 109 #[v, u] w (RetB w (decide (xs = ys))) := by
 obtain ⟨va, vc, rfl⟩ := rd2_form hv
 obtain ⟨ua, uc, rfl⟩ := rd2_form hu
 have hxl := rd2_len hv
 go_enter Tryz.func109, Tryz.ntmps109
 refine gc_enter (N := 27) rfl (look_cons (k := 0) rfl (look_cons (k := 1) rfl (look_nil _))) ?_
 refine gc_sr fun K1 hK1 => ?_
 refine gas ?_
 refine gnt (hK1 _ _ ?_)
 refine gc_seq fun K2 hK2 => ?_
 refine gc_sr fun K3 hK3 => ?_
 refine gm ?_
 refine gv (qt_len rfl rfl ulE2 (fun w M => lenV_rd2 hv)) ?_
 refine gm ?_
 refine gv (qt_len rfl rfl ulE2 (fun w M => lenV_rd2 hu)) ?_
 refine gv (qt_neq rfl rfl rfl) ?_
 refine gnt (hK3 _ _ ?_)
 refine gc_cond rfl (fun hc0 => ?_) (fun hc0 => ?_)
 ·try simp only [sA] at hc0
  refine gc_sr fun K4 hK4 => ?_
  refine gas ?_
  refine gnt (hK4 _ _ ?_)
  refine gc_ret ?_
  refine gk_then_ret ?_
  refine ret_1 rfl rfl  (fun w M => ?_)
  rw [decide_eq_false fun h => hc0 (by rw [h])]; exact ⟨rfl, M.1⟩
 ·try simp only [sA] at hc0
  refine gc_skip ?_
  refine gk_then (hK2 _ _ ?_)
  refine gc_seq fun K5 hK5 => ?_
  refine gc_sr fun K6 hK6 => ?_
  refine gas ?_
  refine gnt (hK6 _ _ ?_)
  refine gc_block ?_
  try simp only [sL]
  refine gc_loopT ([(0, _), (1, _), (10, _)] : Env) (fun s : Nat => (fun (k : Nat) => (([(5, .int .i64 (k : Int))] : Env), ([] : List (Nat × Itm)), k ≤ xs.length ∧ ∀ j : Nat, j < k → row2 xs (j : Int) = row2 ys (j : Int), xs.length - k)) s) (0) (by repeat first | exact sub_nil | refine sub_cons rfl ?_) rfl ⟨Nat.zero_le _, fun j hj => absurd hj (by omega)⟩ ?_
  rintro k hinv KL7 hKL7
  simp only [sU, sL] at hinv hKL7 ⊢
  obtain ⟨hk, hj⟩ := hinv
  refine gc_seq fun K8 hK8 => ?_
  refine gc_sr fun K9 hK9 => ?_
  refine gm ?_
  refine gm ?_
  refine gv (qt_len rfl rfl ulE2 (fun w M => lenV_rd2 hv)) ?_
  refine gv (qt_lss rfl rfl rfl) ?_
  refine gnt (hK9 _ _ ?_)
  refine gc_cond rfl (fun hc1 => ?_) (fun hc1 => ?_)
  ·try simp only [sA] at hc1
   refine gc_skip ?_
   refine gk_then (hK8 _ _ ?_)
   refine gc_seq fun K10 hK10 => ?_
   refine gc_block ?_
   refine gc_seq fun K11 hK11 => ?_
   refine gc_draw (by kernel_rfl) ?_
   refine gdv (qt_move rfl rfl) ?_
   refine gdv (qt_move rfl rfl) ?_
   refine gdv (qti2 (fun w M => lenA_rd2 hv)) ?_
   refine gd_load2 (.free rfl) rfl rfl rfl rfl Tryz.underlying22 rfl hv (by omega) (by omega) ?_
   intro ra12 rc12 hr12
   refine gdv (qt_move rfl rfl) ?_
   refine gdv (qt_move rfl rfl) ?_
   refine gdv (qti2 (fun w M => lenA_rd2 hu)) ?_
   refine gd_load2 (.free rfl) rfl rfl rfl rfl Tryz.underlying22 rfl hu (by omega) (by omega) ?_
   intro ra13 rc13 hr13
   refine gd_q (.free rfl) rfl rfl (qt_call rfl Tryz.func108 rfl (by decide) rfl (fun w M => specSame_any w _ _ _ _ (mem_rd M hr12) (mem_rd M hr13))) ?_
   refine gdv (qt_not rfl rfl) ?_
   refine gd_nil ?_
   refine gk_then (hK11 _ _ ?_)
   refine gc_cond rfl (fun hc2 => ?_) (fun hc2 => ?_)
   ·try simp only [sA] at hc2
    refine gc_sr fun K14 hK14 => ?_
    refine gas ?_
    refine gnt (hK14 _ _ ?_)
    refine gc_ret ?_
    refine gk_block_ret ?_
    refine gk_then_ret ?_
    refine gk_then_ret ?_
    refine gk_block_ret ?_
    refine gk_then_ret ?_
    refine ret_1 rfl rfl  (fun w M => ?_)
    rw [decide_eq_false fun h => hc2 (by rw [h])]; exact ⟨rfl, M.1⟩
   ·try simp only [sA] at hc2
    refine gc_skip ?_
    refine gk_block ?_
    refine gk_then (hK10 _ _ ?_)
    refine gc_region ?_
    refine gm ?_
    refine gv (qt_add rfl rfl rfl (by omega)) ?_
    refine gas ?_
    refine g_nil ?_
    refine gk_then (gk_take 0 ?_)
    refine gk_sub ?hs_15 (hKL7 (k + 1) ?hi_15 ?hm_15)
    case hs_15 => repeat first | exact sub_nil | refine sub_cons rfl ?_
    case hi_15 => exact ⟨by omega, all_next0 hj hc2⟩
    case hm_15 => omega
  ·try simp only [sA] at hc1
   refine gc_exit ?_
   refine gk_then_exit ?_
   refine gk_then_exit ?_
   refine gk_block_hit ?_
   refine gk_then (hK5 _ _ ?_)
   refine gc_sr fun K16 hK16 => ?_
   refine gas ?_
   refine gnt (hK16 _ _ ?_)
   refine gc_ret ?_
   refine ret_1 rfl rfl  (fun w M => ?_)
   rw [decide_eq_true (ext_row2 (by omega) fun j h => hj j (by omega))]; exact ⟨rfl, M.1⟩
set_option maxHeartbeats 1000000 in
set_option maxRecDepth 100000 in
theorem equals_any (w : World) (v : Value) (c : Cat) (h : RdC w v c) (u : Value) (d : Cat) (e : RdC w u d) :
  Calls Tryz.prog 114 #[v, u] w (RetB w (bP (c = d))) := by
 have h0 := h
 obtain ⟨va, vb, vc, vd, ve, vf, vg, vh, rfl, h1, h2, h3, h4, _⟩ := h.lists
 have e0 := e
 obtain ⟨ua, ub, uc, ud, ue, uf, ug, uh, rfl, e1, e2, e3, e4, _⟩ := e.lists
 go_enter Tryz.func114, Tryz.ntmps114
 refine gc_enter (N := 38) rfl (look_cons (k := 0) rfl (look_cons (k := 1) rfl (look_nil _))) ?_
 refine gc_sr fun K1 hK1 => ?_
 refine gop fun K3 hK3 => ?_
 refine go_box rfl rfl rfl rfl rfl ?_
 intro B2
 refine hK3 _ _ ?_
 refine gop fun K5 hK5 => ?_
 refine go_box rfl rfl rfl rfl rfl ?_
 intro B4
 refine hK5 _ _ ?_
 refine gas ?_
 refine gnt (hK1 _ _ ?_)
 refine gc_sr fun K6 hK6 => ?_
 refine gv (qtf Tryz.underlying29 (z := 0) (off := 0)) ?_
 refine gv (qtl Tryz.underlying2 (n := 0)) ?_
 refine gv (qtf Tryz.underlying29 (z := 0) (off := 0)) ?_
 refine gv (qtl Tryz.underlying2 (n := 1)) ?_
 refine gv (qt_eql rfl rfl rfl) ?_
 refine g_splitv (.free rfl) rfl rfl (qt_move rfl rfl) (fun hs1_5 => ?_) (fun hs1_5 => ?_)
 ·try simp only [sA] at hs1_5
  refine gvh (qtf Tryz.underlying29 (z := 0) (off := 1)) ?_
  refine gvh (qtl Tryz.underlying22 (n := 0)) ?_
  refine gvh (qtf Tryz.underlying29 (z := 0) (off := 1)) ?_
  refine gvh (qtl Tryz.underlying22 (n := 1)) ?_
  refine g_q (.held _ _ _ rfl rfl rfl) rfl rfl (qt_call rfl Tryz.func144 rfl (by decide) rfl (fun w M => slEqual_any w _ _ _ _ (mem_rd M h1) (mem_rd M e1))) ?_
  refine gv (qt_pick_t rfl rfl rfl) ?_
  refine g_splitv (.free rfl) rfl rfl (qt_move rfl rfl) (fun hs1_12 => ?_) (fun hs1_12 => ?_)
  ·try simp only [sA] at hs1_12
   refine gvh (qtf Tryz.underlying29 (z := 0) (off := 2)) ?_
   refine gvh (qtl Tryz.underlying22 (n := 0)) ?_
   refine gvh (qtf Tryz.underlying29 (z := 0) (off := 2)) ?_
   refine gvh (qtl Tryz.underlying22 (n := 1)) ?_
   refine g_q (.held _ _ _ rfl rfl rfl) rfl rfl (qt_call rfl Tryz.func144 rfl (by decide) rfl (fun w M => slEqual_any w _ _ _ _ (mem_rd M h2) (mem_rd M e2))) ?_
   refine gv (qt_pick_t rfl rfl rfl) ?_
   refine g_splitv (.free rfl) rfl rfl (qt_move rfl rfl) (fun hs1_19 => ?_) (fun hs1_19 => ?_)
   ·try simp only [sA] at hs1_19
    refine gvh (qtf Tryz.underlying29 (z := 0) (off := 3)) ?_
    refine gvh (qtl Tryz.underlying22 (n := 0)) ?_
    refine gvh (qtf Tryz.underlying29 (z := 0) (off := 3)) ?_
    refine gvh (qtl Tryz.underlying22 (n := 1)) ?_
    refine g_q (.held _ _ _ rfl rfl rfl) rfl rfl (qt_call rfl Tryz.func144 rfl (by decide) rfl (fun w M => slEqual_any w _ _ _ _ (mem_rd M h3) (mem_rd M e3))) ?_
    refine gv (qt_pick_t rfl rfl rfl) ?_
    refine g_splitv (.free rfl) rfl rfl (qt_move rfl rfl) (fun hs1_26 => ?_) (fun hs1_26 => ?_)
    ·try simp only [sA] at hs1_26
     refine gvh (qtf Tryz.underlying29 (z := 0) (off := 4)) ?_
     refine gvh (qtl Tryz.underlying23 (n := 0)) ?_
     refine gvh (qtf Tryz.underlying29 (z := 0) (off := 4)) ?_
     refine gvh (qtl Tryz.underlying23 (n := 1)) ?_
     refine g_q (.held _ _ _ rfl rfl rfl) rfl rfl (qt_call rfl Tryz.func145 rfl (by decide) rfl (fun w M => eqRows_any w _ _ _ _ (mem_rd2 M h4) (mem_rd2 M e4) (_) (fun w' hb v u xs ys h1 h2 => callsV_f (bnd := []) (vs := [_, _]) (caps := []) Tryz.func144 rfl (by decide) (slEqual_any w' v xs u ys h1 h2)))) ?_
     refine gv (qt_pick_t rfl rfl rfl) ?_
     refine gas ?_
     refine gnt (hK6 _ _ ?_)
     refine gc_ret ?_
     refine ret_1 rfl rfl  (fun w M => ?_)
     rw [show bP (c = d) = decide (c.m = d.m) from by rw [← bP_dec]; exact bP_congr ⟨fun hq => (cat_eq.1 hq).2.2.2.2, fun hq => cat_eq.2 ⟨hs1_5, hs1_12, hs1_19, hs1_26, hq⟩⟩]; exact ⟨rfl, M.1⟩
    ·try simp only [sA] at hs1_26
     refine gsk ?_
     refine gsk ?_
     refine gsk ?_
     refine gsk ?_
     refine gsk ?_
     refine gv (qt_pick_f rfl rfl rfl) ?_
     refine gas ?_
     refine gnt (hK6 _ _ ?_)
     refine gc_ret ?_
     refine ret_1 rfl rfl  (fun w M => ?_)
     rw [bP_f fun hq => hs1_26 (cat_eq.1 hq).2.2.2.1]; exact ⟨rfl, M.1⟩
   ·try simp only [sA] at hs1_19
    refine gsk ?_
    refine gsk ?_
    refine gsk ?_
    refine gsk ?_
    refine gsk ?_
    refine gv (qt_pick_f rfl rfl rfl) ?_
    refine gm ?_
    refine gsk ?_
    refine gsk ?_
    refine gsk ?_
    refine gsk ?_
    refine gsk ?_
    refine gv (qt_pick_f rfl rfl rfl) ?_
    refine gas ?_
    refine gnt (hK6 _ _ ?_)
    refine gc_ret ?_
    refine ret_1 rfl rfl  (fun w M => ?_)
    rw [bP_f fun hq => hs1_19 (cat_eq.1 hq).2.2.1]; exact ⟨rfl, M.1⟩
  ·try simp only [sA] at hs1_12
   refine gsk ?_
   refine gsk ?_
   refine gsk ?_
   refine gsk ?_
   refine gsk ?_
   refine gv (qt_pick_f rfl rfl rfl) ?_
   refine gm ?_
   refine gsk ?_
   refine gsk ?_
   refine gsk ?_
   refine gsk ?_
   refine gsk ?_
   refine gv (qt_pick_f rfl rfl rfl) ?_
   refine gm ?_
   refine gsk ?_
   refine gsk ?_
   refine gsk ?_
   refine gsk ?_
   refine gsk ?_
   refine gv (qt_pick_f rfl rfl rfl) ?_
   refine gas ?_
   refine gnt (hK6 _ _ ?_)
   refine gc_ret ?_
   refine ret_1 rfl rfl  (fun w M => ?_)
   rw [bP_f fun hq => hs1_12 (cat_eq.1 hq).2.1]; exact ⟨rfl, M.1⟩
 ·try simp only [sA] at hs1_5
  refine gsk ?_
  refine gsk ?_
  refine gsk ?_
  refine gsk ?_
  refine gsk ?_
  refine gv (qt_pick_f rfl rfl rfl) ?_
  refine gm ?_
  refine gsk ?_
  refine gsk ?_
  refine gsk ?_
  refine gsk ?_
  refine gsk ?_
  refine gv (qt_pick_f rfl rfl rfl) ?_
  refine gm ?_
  refine gsk ?_
  refine gsk ?_
  refine gsk ?_
  refine gsk ?_
  refine gsk ?_
  refine gv (qt_pick_f rfl rfl rfl) ?_
  refine gm ?_
  refine gsk ?_
  refine gsk ?_
  refine gsk ?_
  refine gsk ?_
  refine gsk ?_
  refine gv (qt_pick_f rfl rfl rfl) ?_
  refine gas ?_
  refine gnt (hK6 _ _ ?_)
  refine gc_ret ?_
  refine ret_1 rfl rfl  (fun w M => ?_)
  rw [bP_f fun hq => hs1_5 (cat_eq.1 hq).1]; exact ⟨rfl, M.1⟩
set_option maxHeartbeats 1000000 in
set_option maxRecDepth 100000 in
theorem specSameC_any (w : World) (v : Value) (c : Cat) (h : RdC w v c) (u : Value) (d : Cat) (e : RdC w u d) :
  Calls Tryz.prog 74 #[v, u] w (RetB w (bP (c = d))) := by
 have h0 := h
 obtain ⟨va, vb, vc, vd, ve, vf, vg, vh, rfl, h1, h2, h3, h4, _⟩ := h.lists
 have e0 := e
 obtain ⟨ua, ub, uc, ud, ue, uf, ug, uh, rfl, e1, e2, e3, e4, _⟩ := e.lists
 go_enter Tryz.func74, Tryz.ntmps74
 refine gc_enter (N := 38) rfl (look_cons (k := 0) rfl (look_cons (k := 1) rfl (look_nil _))) ?_
 refine gc_sr fun K1 hK1 => ?_
 refine gop fun K3 hK3 => ?_
 refine go_box rfl rfl rfl rfl rfl ?_
 intro B2
 refine hK3 _ _ ?_
 refine gop fun K5 hK5 => ?_
 refine go_box rfl rfl rfl rfl rfl ?_
 intro B4
 refine hK5 _ _ ?_
 refine gas ?_
 refine gnt (hK1 _ _ ?_)
 refine gc_sr fun K6 hK6 => ?_
 refine gv (qtf Tryz.underlying29 (z := 0) (off := 0)) ?_
 refine gv (qtl Tryz.underlying2 (n := 0)) ?_
 refine gv (qtf Tryz.underlying29 (z := 0) (off := 0)) ?_
 refine gv (qtl Tryz.underlying2 (n := 1)) ?_
 refine gv (qt_eql rfl rfl rfl) ?_
 refine g_splitv (.free rfl) rfl rfl (qt_move rfl rfl) (fun hs1_5 => ?_) (fun hs1_5 => ?_)
 ·try simp only [sA] at hs1_5
  refine gvh (qtf Tryz.underlying29 (z := 0) (off := 1)) ?_
  refine gvh (qtl Tryz.underlying22 (n := 0)) ?_
  refine gvh (qtf Tryz.underlying29 (z := 0) (off := 1)) ?_
  refine gvh (qtl Tryz.underlying22 (n := 1)) ?_
  refine g_q (.held _ _ _ rfl rfl rfl) rfl rfl (qt_call rfl Tryz.func108 rfl (by decide) rfl (fun w M => specSame_any w _ _ _ _ (mem_rd M h1) (mem_rd M e1))) ?_
  refine gv (qt_pick_t rfl rfl rfl) ?_
  refine g_splitv (.free rfl) rfl rfl (qt_move rfl rfl) (fun hs1_12 => ?_) (fun hs1_12 => ?_)
  ·try simp only [sA] at hs1_12
   refine gvh (qtf Tryz.underlying29 (z := 0) (off := 2)) ?_
   refine gvh (qtl Tryz.underlying22 (n := 0)) ?_
   refine gvh (qtf Tryz.underlying29 (z := 0) (off := 2)) ?_
   refine gvh (qtl Tryz.underlying22 (n := 1)) ?_
   refine g_q (.held _ _ _ rfl rfl rfl) rfl rfl (qt_call rfl Tryz.func108 rfl (by decide) rfl (fun w M => specSame_any w _ _ _ _ (mem_rd M h2) (mem_rd M e2))) ?_
   refine gv (qt_pick_t rfl rfl rfl) ?_
   refine g_splitv (.free rfl) rfl rfl (qt_move rfl rfl) (fun hs1_19 => ?_) (fun hs1_19 => ?_)
   ·try simp only [sA] at hs1_19
    refine gvh (qtf Tryz.underlying29 (z := 0) (off := 3)) ?_
    refine gvh (qtl Tryz.underlying22 (n := 0)) ?_
    refine gvh (qtf Tryz.underlying29 (z := 0) (off := 3)) ?_
    refine gvh (qtl Tryz.underlying22 (n := 1)) ?_
    refine g_q (.held _ _ _ rfl rfl rfl) rfl rfl (qt_call rfl Tryz.func108 rfl (by decide) rfl (fun w M => specSame_any w _ _ _ _ (mem_rd M h3) (mem_rd M e3))) ?_
    refine gv (qt_pick_t rfl rfl rfl) ?_
    refine g_splitv (.free rfl) rfl rfl (qt_move rfl rfl) (fun hs1_26 => ?_) (fun hs1_26 => ?_)
    ·try simp only [sA] at hs1_26
     refine gvh (qtf Tryz.underlying29 (z := 0) (off := 4)) ?_
     refine gvh (qtl Tryz.underlying23 (n := 0)) ?_
     refine gvh (qtf Tryz.underlying29 (z := 0) (off := 4)) ?_
     refine gvh (qtl Tryz.underlying23 (n := 1)) ?_
     refine g_q (.held _ _ _ rfl rfl rfl) rfl rfl (qt_call rfl Tryz.func109 rfl (by decide) rfl (fun w M => specSame2_any w _ _ _ _ (mem_rd2 M h4) (mem_rd2 M e4))) ?_
     refine gv (qt_pick_t rfl rfl rfl) ?_
     refine gas ?_
     refine gnt (hK6 _ _ ?_)
     refine gc_ret ?_
     refine ret_1 rfl rfl  (fun w M => ?_)
     rw [show bP (c = d) = decide (c.m = d.m) from by rw [← bP_dec]; exact bP_congr ⟨fun hq => (cat_eq.1 hq).2.2.2.2, fun hq => cat_eq.2 ⟨hs1_5, hs1_12, hs1_19, hs1_26, hq⟩⟩]; exact ⟨rfl, M.1⟩
    ·try simp only [sA] at hs1_26
     refine gsk ?_
     refine gsk ?_
     refine gsk ?_
     refine gsk ?_
     refine gsk ?_
     refine gv (qt_pick_f rfl rfl rfl) ?_
     refine gas ?_
     refine gnt (hK6 _ _ ?_)
     refine gc_ret ?_
     refine ret_1 rfl rfl  (fun w M => ?_)
     rw [bP_f fun hq => hs1_26 (cat_eq.1 hq).2.2.2.1]; exact ⟨rfl, M.1⟩
   ·try simp only [sA] at hs1_19
    refine gsk ?_
    refine gsk ?_
    refine gsk ?_
    refine gsk ?_
    refine gsk ?_
    refine gv (qt_pick_f rfl rfl rfl) ?_
    refine gm ?_
    refine gsk ?_
    refine gsk ?_
    refine gsk ?_
    refine gsk ?_
    refine gsk ?_
    refine gv (qt_pick_f rfl rfl rfl) ?_
    refine gas ?_
    refine gnt (hK6 _ _ ?_)
    refine gc_ret ?_
    refine ret_1 rfl rfl  (fun w M => ?_)
    rw [bP_f fun hq => hs1_19 (cat_eq.1 hq).2.2.1]; exact ⟨rfl, M.1⟩
  ·try simp only [sA] at hs1_12
   refine gsk ?_
   refine gsk ?_
   refine gsk ?_
   refine gsk ?_
   refine gsk ?_
   refine gv (qt_pick_f rfl rfl rfl) ?_
   refine gm ?_
   refine gsk ?_
   refine gsk ?_
   refine gsk ?_
   refine gsk ?_
   refine gsk ?_
   refine gv (qt_pick_f rfl rfl rfl) ?_
   refine gm ?_
   refine gsk ?_
   refine gsk ?_
   refine gsk ?_
   refine gsk ?_
   refine gsk ?_
   refine gv (qt_pick_f rfl rfl rfl) ?_
   refine gas ?_
   refine gnt (hK6 _ _ ?_)
   refine gc_ret ?_
   refine ret_1 rfl rfl  (fun w M => ?_)
   rw [bP_f fun hq => hs1_12 (cat_eq.1 hq).2.1]; exact ⟨rfl, M.1⟩
 ·try simp only [sA] at hs1_5
  refine gsk ?_
  refine gsk ?_
  refine gsk ?_
  refine gsk ?_
  refine gsk ?_
  refine gv (qt_pick_f rfl rfl rfl) ?_
  refine gm ?_
  refine gsk ?_
  refine gsk ?_
  refine gsk ?_
  refine gsk ?_
  refine gsk ?_
  refine gv (qt_pick_f rfl rfl rfl) ?_
  refine gm ?_
  refine gsk ?_
  refine gsk ?_
  refine gsk ?_
  refine gsk ?_
  refine gsk ?_
  refine gv (qt_pick_f rfl rfl rfl) ?_
  refine gm ?_
  refine gsk ?_
  refine gsk ?_
  refine gsk ?_
  refine gsk ?_
  refine gsk ?_
  refine gv (qt_pick_f rfl rfl rfl) ?_
  refine gas ?_
  refine gnt (hK6 _ _ ?_)
  refine gc_ret ?_
  refine ret_1 rfl rfl  (fun w M => ?_)
  rw [bP_f fun hq => hs1_5 (cat_eq.1 hq).1]; exact ⟨rfl, M.1⟩
end Go.Proofs.YtpcabkdkdnchaaaGreat
set_option linter.unusedSimpArgs false
set_option linter.unusedVariables false
set_option linter.unusedSectionVars false
namespace Go.Proofs.YtpcabkdkdnchaaaGreat
open Go.RowKit
section
variable {w0 : World} {is : List Itm} {ops : Array Oper} {Q : Exit → Act → World → Prop} {o : Oper} {rest : List Oper} {N : Frm} {e : Env} {v u : Value} {d : Nat} {K : Act → World → Prop} {f : FuncId} {fn : Func} {ags : Array Operand} {ts : Array TypeId} {vs : List Value}
end
end Go.Proofs.YtpcabkdkdnchaaaGreat
