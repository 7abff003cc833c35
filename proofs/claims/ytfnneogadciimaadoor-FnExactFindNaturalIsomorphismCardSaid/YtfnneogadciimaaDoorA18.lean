import Derived.Test.YtfnneogadciimaaDoorA6
import Derived.Test.YtfnneogadciimaaDoorA11
import Derived.Test.YtfnneogadciimaaDoorA17
set_option linter.unusedSimpArgs false
set_option linter.unusedVariables false
set_option linter.unusedSectionVars false
namespace Go.Proofs.YtfnneogadciimaaDoor
open Go.RowKit
theorem cat_eq {c d : Cat} : c = d ↔ c.ob = d.ob ∧ c.s = d.s ∧ c.t = d.t ∧ c.e = d.e ∧ c.m = d.m := by
 constructor
 ·rintro rfl; exact ⟨rfl, rfl, rfl, rfl, rfl⟩
 ·cases c; cases d; rintro ⟨h1, h2, h3, h4, h5⟩; simp only at h1 h2 h3 h4 h5; subst h1; subst h2; subst h3; subst h4; subst h5; rfl
theorem ext_row2 {xs ys : List (List Int)} (hl : xs.length = ys.length) (h : ∀ j : Nat, j < xs.length → row2 xs (j : Int) = row2 ys (j : Int)) : xs = ys := by
 refine List.ext_getElem hl fun j h1 h2 => ?_
 have := h j h1
 simp only [row2, Int.toNat_natCast] at this
 rwa [List.getD_eq_getElem?_getD, List.getD_eq_getElem?_getD, List.getElem?_eq_getElem h1, List.getElem?_eq_getElem h2] at this
set_option maxHeartbeats 1000000 in
set_option maxRecDepth 100000 in
theorem eqRows_any (w : World) (v : Value) (xs : List (List Int)) (u : Value) (ys : List (List Int)) (hv : Rd2 w v xs) (hu : Rd2 w u ys) (g : Value) (hg : ∀ w', Below w.heap.size w w' → ∀ v u xs ys, Rd w' v xs → Rd w' u ys → CallsV g [v, u] w' (RetB w' (decide (xs = ys)))) :
  Calls Tryd.prog 124 #[v, u, g] w (RetB w (decide (xs = ys))) := by
 obtain ⟨va, vc, rfl⟩ := rd2_form hv
 obtain ⟨ua, uc, rfl⟩ := rd2_form hu
 have hxl := rd2_len hv
 go_enter Tryd.func124, Tryd.ntmps124
 refine gc_enter (N := 32) rfl (look_cons (k := 0) rfl (look_cons (k := 1) rfl (look_cons (k := 2) rfl (look_nil _)))) ?_
 refine gc_sr fun K1 hK1 => ?_
 refine gas ?_
 refine gnt (hK1 _ _ ?_)
 refine gc_seq fun K2 hK2 => ?_
 refine gc_sr fun K3 hK3 => ?_
 refine gm ?_
 refine gv (qt_len rfl rfl ulE2 (fun w M => lenV_rd2 hv)) ?_
 refine gm ?_
 refine gv (qt_len rfl rfl ulE2 (fun w M => lenV_rd2 hu)) ?_
 refine gv (qt_neq rfl rfl rfl) ?_
 refine gnt (hK3 _ _ ?_)
 refine gc_cond rfl (fun hc0 => ?_) (fun hc0 => ?_)
 ·try simp only [sA] at hc0
  refine gc_sr fun K4 hK4 => ?_
  refine gas ?_
  refine gnt (hK4 _ _ ?_)
  refine gc_ret ?_
  refine gk_then_ret ?_
  refine ret_1 rfl rfl  (fun w M => ?_)
  rw [decide_eq_false fun h => hc0 (by rw [h])]; exact ⟨rfl, M.1⟩
 ·try simp only [sA] at hc0
  refine gc_skip ?_
  refine gk_then (hK2 _ _ ?_)
  refine gc_seq fun K5 hK5 => ?_
  refine gc_sr fun K6 hK6 => ?_
  refine gm ?_
  refine gv (qt_len rfl rfl ulE2 (fun w M => lenV_rd2 hv)) ?_
  refine gm ?_
  refine gnt (hK6 _ _ ?_)
  refine gc_block ?_
  try simp only [sL]
  refine gc_loopT ([(0, _), (1, _), (2, _), (14, _), (15, _), (16, _)] : Env) (fun s : Nat => (fun (k : Nat) => (([(17, .int .i64 (k : Int))] : Env), ([] : List (Nat × Itm)), k ≤ xs.length ∧ ∀ j : Nat, j < k → row2 xs (j : Int) = row2 ys (j : Int), xs.length - k)) s) (0) (by repeat first | exact sub_nil | refine sub_cons rfl ?_) rfl ⟨Nat.zero_le _, fun j hj => absurd hj (by omega)⟩ ?_
  rintro k hinv KL7 hKL7
  simp only [sU, sL] at hinv hKL7 ⊢
  obtain ⟨hk, hj⟩ := hinv
  refine gc_sr fun K8 hK8 => ?_
  refine gv (qt_lss rfl rfl rfl) ?_
  refine gnt (hK8 _ _ ?_)
  refine gc_seq fun K9 hK9 => ?_
  refine gc_cond rfl (fun hc1 => ?_) (fun hc1 => ?_)
  ·try simp only [sA] at hc1
   refine gc_skip ?_
   refine gk_then (hK9 _ _ ?_)
   refine gc_seq fun K10 hK10 => ?_
   refine gc_block ?_
   refine gc_sr fun K11 hK11 => ?_
   refine gm ?_
   refine gv (qti2 (fun w M => lenA_rd2 hv)) ?_
   refine g_load2 (.free rfl) rfl rfl rfl rfl Tryd.underlying22 rfl hv (by omega) (by omega) ?_
   intro ra12 rc12 hr12
   refine gas ?_
   refine gas ?_
   refine gnt (hK11 _ _ ?_)
   refine gc_sr fun K13 hK13 => ?_
   refine gm ?_
   refine gm ?_
   refine gv (qti2 (fun w M => lenA_rd2 hu)) ?_
   refine g_load2 (.free rfl) rfl rfl rfl rfl Tryd.underlying22 rfl hu (by omega) (by omega) ?_
   intro ra14 rc14 hr14
   refine gas ?_
   refine gnt (hK13 _ _ ?_)
   refine gc_sr fun K15 hK15 => ?_
   refine gm ?_
   refine gm ?_
   refine gm ?_
   refine g_q (.free rfl) rfl rfl (qt_callV rfl rfl rfl (fun w M => hg w M.1 _ _ _ _ (mem_rd M hr12) (mem_rd M hr14))) ?_
   refine gv (qt_not rfl rfl) ?_
   refine gnt (hK15 _ _ ?_)
   refine gc_cond rfl (fun hc2 => ?_) (fun hc2 => ?_)
   ·try simp only [sA] at hc2
    refine gc_sr fun K16 hK16 => ?_
    refine gas ?_
    refine gnt (hK16 _ _ ?_)
    refine gc_ret ?_
    refine gk_block_ret ?_
    refine gk_then_ret ?_
    refine gk_then_ret ?_
    refine gk_block_ret ?_
    refine gk_then_ret ?_
    refine ret_1 rfl rfl  (fun w M => ?_)
    rw [decide_eq_false fun h => hc2 (by rw [h])]; exact ⟨rfl, M.1⟩
   ·try simp only [sA] at hc2
    refine gc_skip ?_
    refine gk_block ?_
    refine gk_then (hK10 _ _ ?_)
    refine gc_region ?_
    refine gv (qt_add rfl rfl rfl (by omega)) ?_
    refine gm ?_
    refine g_nil ?_
    refine gk_then (gk_take 0 ?_)
    refine gk_sub ?hs_17 (hKL7 (k + 1) ?hi_17 ?hm_17)
    case hs_17 => repeat first | exact sub_nil | refine sub_cons rfl ?_
    case hi_17 => exact ⟨by omega, all_next0 hj hc2⟩
    case hm_17 => omega
  ·try simp only [sA] at hc1
   refine gc_exit ?_
   refine gk_then_exit ?_
   refine gk_then_exit ?_
   refine gk_block_hit ?_
   refine gk_then (hK5 _ _ ?_)
   refine gc_sr fun K18 hK18 => ?_
   refine gas ?_
   refine gnt (hK18 _ _ ?_)
   refine gc_ret ?_
   refine ret_1 rfl rfl  (fun w M => ?_)
   rw [decide_eq_true (ext_row2 (by omega) fun j h => hj j (by omega))]; exact ⟨rfl, M.1⟩
set_option maxHeartbeats 1000000 in
set_option maxRecDepth 100000 in
theorem specSame2_any (w : World) (v : Value) (xs : List (List Int)) (u : Value) (ys : List (List Int)) (hv : Rd2 w v xs) (hu : Rd2 w u ys) :
  Calls Tryd.prog 120 #[v, u] w (RetB w (decide (xs = ys))) := by
 obtain ⟨va, vc, rfl⟩ := rd2_form hv
 obtain ⟨ua, uc, rfl⟩ := rd2_form hu
 have hxl := rd2_len hv
 go_enter Tryd.func120, Tryd.ntmps120
 refine gc_enter (N := 27) rfl (look_cons (k := 0) rfl (look_cons (k := 1) rfl (look_nil _))) ?_
 refine gc_sr fun K1 hK1 => ?_
 refine gas ?_
 refine gnt (hK1 _ _ ?_)
 refine gc_seq fun K2 hK2 => ?_
 refine gc_sr fun K3 hK3 => ?_
 refine gm ?_
 refine gv (qt_len rfl rfl ulE2 (fun w M => lenV_rd2 hv)) ?_
 refine gm ?_
 refine gv (qt_len rfl rfl ulE2 (fun w M => lenV_rd2 hu)) ?_
 refine gv (qt_neq rfl rfl rfl) ?_
 refine gnt (hK3 _ _ ?_)
 refine gc_cond rfl (fun hc0 => ?_) (fun hc0 => ?_)
 ·try simp only [sA] at hc0
  refine gc_sr fun K4 hK4 => ?_
  refine gas ?_
  refine gnt (hK4 _ _ ?_)
  refine gc_ret ?_
  refine gk_then_ret ?_
  refine ret_1 rfl rfl  (fun w M => ?_)
  rw [decide_eq_false fun h => hc0 (by rw [h])]; exact ⟨rfl, M.1⟩
 ·try simp only [sA] at hc0
  refine gc_skip ?_
  refine gk_then (hK2 _ _ ?_)
  refine gc_seq fun K5 hK5 => ?_
  refine gc_sr fun K6 hK6 => ?_
  refine gas ?_
  refine gnt (hK6 _ _ ?_)
  refine gc_block ?_
  try simp only [sL]
  refine gc_loopT ([(0, _), (1, _), (10, _)] : Env) (fun s : Nat => (fun (k : Nat) => (([(5, .int .i64 (k : Int))] : Env), ([] : List (Nat × Itm)), k ≤ xs.length ∧ ∀ j : Nat, j < k → row2 xs (j : Int) = row2 ys (j : Int), xs.length - k)) s) (0) (by repeat first | exact sub_nil | refine sub_cons rfl ?_) rfl ⟨Nat.zero_le _, fun j hj => absurd hj (by omega)⟩ ?_
  rintro k hinv KL7 hKL7
  simp only [sU, sL] at hinv hKL7 ⊢
  obtain ⟨hk, hj⟩ := hinv
  refine gc_seq fun K8 hK8 => ?_
  refine gc_sr fun K9 hK9 => ?_
  refine gm ?_
  refine gm ?_
  refine gv (qt_len rfl rfl ulE2 (fun w M => lenV_rd2 hv)) ?_
  refine gv (qt_lss rfl rfl rfl) ?_
  refine gnt (hK9 _ _ ?_)
  refine gc_cond rfl (fun hc1 => ?_) (fun hc1 => ?_)
  ·try simp only [sA] at hc1
   refine gc_skip ?_
   refine gk_then (hK8 _ _ ?_)
   refine gc_seq fun K10 hK10 => ?_
   refine gc_block ?_
   refine gc_seq fun K11 hK11 => ?_
   refine gc_draw (by kernel_rfl) ?_
   refine gdv (qt_move rfl rfl) ?_
   refine gdv (qt_move rfl rfl) ?_
   refine gdv (qti2 (fun w M => lenA_rd2 hv)) ?_
   refine gd_load2 (.free rfl) rfl rfl rfl rfl Tryd.underlying22 rfl hv (by omega) (by omega) ?_
   intro ra12 rc12 hr12
   refine gdv (qt_move rfl rfl) ?_
   refine gdv (qt_move rfl rfl) ?_
   refine gdv (qti2 (fun w M => lenA_rd2 hu)) ?_
   refine gd_load2 (.free rfl) rfl rfl rfl rfl Tryd.underlying22 rfl hu (by omega) (by omega) ?_
   intro ra13 rc13 hr13
   refine gd_q (.free rfl) rfl rfl (qt_call rfl Tryd.func119 rfl (by decide) rfl (fun w M => specSame_any w _ _ _ _ (mem_rd M hr12) (mem_rd M hr13))) ?_
   refine gdv (qt_not rfl rfl) ?_
   refine gd_nil ?_
   refine gk_then (hK11 _ _ ?_)
   refine gc_cond rfl (fun hc2 => ?_) (fun hc2 => ?_)
   ·try simp only [sA] at hc2
    refine gc_sr fun K14 hK14 => ?_
    refine gas ?_
    refine gnt (hK14 _ _ ?_)
    refine gc_ret ?_
    refine gk_block_ret ?_
    refine gk_then_ret ?_
    refine gk_then_ret ?_
    refine gk_block_ret ?_
    refine gk_then_ret ?_
    refine ret_1 rfl rfl  (fun w M => ?_)
    rw [decide_eq_false fun h => hc2 (by rw [h])]; exact ⟨rfl, M.1⟩
   ·try simp only [sA] at hc2
    refine gc_skip ?_
    refine gk_block ?_
    refine gk_then (hK10 _ _ ?_)
    refine gc_region ?_
    refine gm ?_
    refine gv (qt_add rfl rfl rfl (by omega)) ?_
    refine gas ?_
    refine g_nil ?_
    refine gk_then (gk_take 0 ?_)
    refine gk_sub ?hs_15 (hKL7 (k + 1) ?hi_15 ?hm_15)
    case hs_15 => repeat first | exact sub_nil | refine sub_cons rfl ?_
    case hi_15 => exact ⟨by omega, all_next0 hj hc2⟩
    case hm_15 => omega
  ·try simp only [sA] at hc1
   refine gc_exit ?_
   refine gk_then_exit ?_
   refine gk_then_exit ?_
   refine gk_block_hit ?_
   refine gk_then (hK5 _ _ ?_)
   refine gc_sr fun K16 hK16 => ?_
   refine gas ?_
   refine gnt (hK16 _ _ ?_)
   refine gc_ret ?_
   refine ret_1 rfl rfl  (fun w M => ?_)
   rw [decide_eq_true (ext_row2 (by omega) fun j h => hj j (by omega))]; exact ⟨rfl, M.1⟩
set_option maxHeartbeats 1000000 in
set_option maxRecDepth 100000 in
theorem equals_any (w : World) (v : Value) (c : Cat) (h : RdC w v c) (u : Value) (d : Cat) (e : RdC w u d) :
  Calls Tryd.prog 103 #[v, u] w (RetB w (bP (c = d))) := by
 have h0 := h
 obtain ⟨va, vb, vc, vd, ve, vf, vg, vh, rfl, h1, h2, h3, h4, _⟩ := h.lists
 have e0 := e
 obtain ⟨ua, ub, uc, ud, ue, uf, ug, uh, rfl, e1, e2, e3, e4, _⟩ := e.lists
 go_enter Tryd.func103, Tryd.ntmps103
 refine gc_enter (N := 38) rfl (look_cons (k := 0) rfl (look_cons (k := 1) rfl (look_nil _))) ?_
 refine gc_sr fun K1 hK1 => ?_
 refine gop fun K3 hK3 => ?_
 refine go_box rfl rfl rfl rfl rfl ?_
 intro B2
 refine hK3 _ _ ?_
 refine gop fun K5 hK5 => ?_
 refine go_box rfl rfl rfl rfl rfl ?_
 intro B4
 refine hK5 _ _ ?_
 refine gas ?_
 refine gnt (hK1 _ _ ?_)
 refine gc_sr fun K6 hK6 => ?_
 refine gv (qtf Tryd.underlying30 (z := 0) (off := 0)) ?_
 refine gv (qtl Tryd.underlying2 (n := 0)) ?_
 refine gv (qtf Tryd.underlying30 (z := 0) (off := 0)) ?_
 refine gv (qtl Tryd.underlying2 (n := 1)) ?_
 refine gv (qt_eql rfl rfl rfl) ?_
 refine g_splitv (.free rfl) rfl rfl (qt_move rfl rfl) (fun hs1_5 => ?_) (fun hs1_5 => ?_)
 ·try simp only [sA] at hs1_5
  refine gvh (qtf Tryd.underlying30 (z := 0) (off := 1)) ?_
  refine gvh (qtl Tryd.underlying22 (n := 0)) ?_
  refine gvh (qtf Tryd.underlying30 (z := 0) (off := 1)) ?_
  refine gvh (qtl Tryd.underlying22 (n := 1)) ?_
  refine g_q (.held _ _ _ rfl rfl rfl) rfl rfl (qt_call rfl Tryd.func123 rfl (by decide) rfl (fun w M => slEqual_any w _ _ _ _ (mem_rd M h1) (mem_rd M e1))) ?_
  refine gv (qt_pick_t rfl rfl rfl) ?_
  refine g_splitv (.free rfl) rfl rfl (qt_move rfl rfl) (fun hs1_12 => ?_) (fun hs1_12 => ?_)
  ·try simp only [sA] at hs1_12
   refine gvh (qtf Tryd.underlying30 (z := 0) (off := 2)) ?_
   refine gvh (qtl Tryd.underlying22 (n := 0)) ?_
   refine gvh (qtf Tryd.underlying30 (z := 0) (off := 2)) ?_
   refine gvh (qtl Tryd.underlying22 (n := 1)) ?_
   refine g_q (.held _ _ _ rfl rfl rfl) rfl rfl (qt_call rfl Tryd.func123 rfl (by decide) rfl (fun w M => slEqual_any w _ _ _ _ (mem_rd M h2) (mem_rd M e2))) ?_
   refine gv (qt_pick_t rfl rfl rfl) ?_
   refine g_splitv (.free rfl) rfl rfl (qt_move rfl rfl) (fun hs1_19 => ?_) (fun hs1_19 => ?_)
   ·try simp only [sA] at hs1_19
    refine gvh (qtf Tryd.underlying30 (z := 0) (off := 3)) ?_
    refine gvh (qtl Tryd.underlying22 (n := 0)) ?_
    refine gvh (qtf Tryd.underlying30 (z := 0) (off := 3)) ?_
    refine gvh (qtl Tryd.underlying22 (n := 1)) ?_
    refine g_q (.held _ _ _ rfl rfl rfl) rfl rfl (qt_call rfl Tryd.func123 rfl (by decide) rfl (fun w M => slEqual_any w _ _ _ _ (mem_rd M h3) (mem_rd M e3))) ?_
    refine gv (qt_pick_t rfl rfl rfl) ?_
    refine g_splitv (.free rfl) rfl rfl (qt_move rfl rfl) (fun hs1_26 => ?_) (fun hs1_26 => ?_)
    ·try simp only [sA] at hs1_26
     refine gvh (qtf Tryd.underlying30 (z := 0) (off := 4)) ?_
     refine gvh (qtl Tryd.underlying23 (n := 0)) ?_
     refine gvh (qtf Tryd.underlying30 (z := 0) (off := 4)) ?_
     refine gvh (qtl Tryd.underlying23 (n := 1)) ?_
     refine g_q (.held _ _ _ rfl rfl rfl) rfl rfl (qt_call rfl Tryd.func124 rfl (by decide) rfl (fun w M => eqRows_any w _ _ _ _ (mem_rd2 M h4) (mem_rd2 M e4) (_) (fun w' hb v u xs ys h1 h2 => callsV_f (bnd := []) (vs := [_, _]) (caps := []) Tryd.func123 rfl (by decide) (slEqual_any w' v xs u ys h1 h2)))) ?_
     refine gv (qt_pick_t rfl rfl rfl) ?_
     refine gas ?_
     refine gnt (hK6 _ _ ?_)
     refine gc_ret ?_
     refine ret_1 rfl rfl  (fun w M => ?_)
     rw [show bP (c = d) = decide (c.m = d.m) from by rw [← bP_dec]; exact bP_congr ⟨fun hq => (cat_eq.1 hq).2.2.2.2, fun hq => cat_eq.2 ⟨hs1_5, hs1_12, hs1_19, hs1_26, hq⟩⟩]; exact ⟨rfl, M.1⟩
    ·try simp only [sA] at hs1_26
     refine gsk ?_
     refine gsk ?_
     refine gsk ?_
     refine gsk ?_
     refine gsk ?_
     refine gv (qt_pick_f rfl rfl rfl) ?_
     refine gas ?_
     refine gnt (hK6 _ _ ?_)
     refine gc_ret ?_
     refine ret_1 rfl rfl  (fun w M => ?_)
     rw [bP_f fun hq => hs1_26 (cat_eq.1 hq).2.2.2.1]; exact ⟨rfl, M.1⟩
   ·try simp only [sA] at hs1_19
    refine gsk ?_
    refine gsk ?_
    refine gsk ?_
    refine gsk ?_
    refine gsk ?_
    refine gv (qt_pick_f rfl rfl rfl) ?_
    refine gm ?_
    refine gsk ?_
    refine gsk ?_
    refine gsk ?_
    refine gsk ?_
    refine gsk ?_
    refine gv (qt_pick_f rfl rfl rfl) ?_
    refine gas ?_
    refine gnt (hK6 _ _ ?_)
    refine gc_ret ?_
    refine ret_1 rfl rfl  (fun w M => ?_)
    rw [bP_f fun hq => hs1_19 (cat_eq.1 hq).2.2.1]; exact ⟨rfl, M.1⟩
  ·try simp only [sA] at hs1_12
   refine gsk ?_
   refine gsk ?_
   refine gsk ?_
   refine gsk ?_
   refine gsk ?_
   refine gv (qt_pick_f rfl rfl rfl) ?_
   refine gm ?_
   refine gsk ?_
   refine gsk ?_
   refine gsk ?_
   refine gsk ?_
   refine gsk ?_
   refine gv (qt_pick_f rfl rfl rfl) ?_
   refine gm ?_
   refine gsk ?_
   refine gsk ?_
   refine gsk ?_
   refine gsk ?_
   refine gsk ?_
   refine gv (qt_pick_f rfl rfl rfl) ?_
   refine gas ?_
   refine gnt (hK6 _ _ ?_)
   refine gc_ret ?_
   refine ret_1 rfl rfl  (fun w M => ?_)
   rw [bP_f fun hq => hs1_12 (cat_eq.1 hq).2.1]; exact ⟨rfl, M.1⟩
 ·try simp only [sA] at hs1_5
  refine gsk ?_
  refine gsk ?_
  refine gsk ?_
  refine gsk ?_
  refine gsk ?_
  refine gv (qt_pick_f rfl rfl rfl) ?_
  refine gm ?_
  refine gsk ?_
  refine gsk ?_
  refine gsk ?_
  refine gsk ?_
  refine gsk ?_
  refine gv (qt_pick_f rfl rfl rfl) ?_
  refine gm ?_
  refine gsk ?_
  refine gsk ?_
  refine gsk ?_
  refine gsk ?_
  refine gsk ?_
  refine gv (qt_pick_f rfl rfl rfl) ?_
  refine gm ?_
  refine gsk ?_
  refine gsk ?_
  refine gsk ?_
  refine gsk ?_
  refine gsk ?_
  refine gv (qt_pick_f rfl rfl rfl) ?_
  refine gas ?_
  refine gnt (hK6 _ _ ?_)
  refine gc_ret ?_
  refine ret_1 rfl rfl  (fun w M => ?_)
  rw [bP_f fun hq => hs1_5 (cat_eq.1 hq).1]; exact ⟨rfl, M.1⟩
set_option maxHeartbeats 1000000 in
set_option maxRecDepth 100000 in
theorem specSameC_any (w : World) (v : Value) (c : Cat) (h : RdC w v c) (u : Value) (d : Cat) (e : RdC w u d) :
  Calls Tryd.prog 98 #[v, u] w (RetB w (bP (c = d))) := by
 have h0 := h
 obtain ⟨va, vb, vc, vd, ve, vf, vg, vh, rfl, h1, h2, h3, h4, _⟩ := h.lists
 have e0 := e
 obtain ⟨ua, ub, uc, ud, ue, uf, ug, uh, rfl, e1, e2, e3, e4, _⟩ := e.lists
 go_enter Tryd.func98, Tryd.ntmps98
 refine gc_enter (N := 38) rfl (look_cons (k := 0) rfl (look_cons (k := 1) rfl (look_nil _))) ?_
 refine gc_sr fun K1 hK1 => ?_
 refine gop fun K3 hK3 => ?_
 refine go_box rfl rfl rfl rfl rfl ?_
 intro B2
 refine hK3 _ _ ?_
 refine gop fun K5 hK5 => ?_
 refine go_box rfl rfl rfl rfl rfl ?_
 intro B4
 refine hK5 _ _ ?_
 refine gas ?_
 refine gnt (hK1 _ _ ?_)
 refine gc_sr fun K6 hK6 => ?_
 refine gv (qtf Tryd.underlying30 (z := 0) (off := 0)) ?_
 refine gv (qtl Tryd.underlying2 (n := 0)) ?_
 refine gv (qtf Tryd.underlying30 (z := 0) (off := 0)) ?_
 refine gv (qtl Tryd.underlying2 (n := 1)) ?_
 refine gv (qt_eql rfl rfl rfl) ?_
 refine g_splitv (.free rfl) rfl rfl (qt_move rfl rfl) (fun hs1_5 => ?_) (fun hs1_5 => ?_)
 ·try simp only [sA] at hs1_5
  refine gvh (qtf Tryd.underlying30 (z := 0) (off := 1)) ?_
  refine gvh (qtl Tryd.underlying22 (n := 0)) ?_
  refine gvh (qtf Tryd.underlying30 (z := 0) (off := 1)) ?_
  refine gvh (qtl Tryd.underlying22 (n := 1)) ?_
  refine g_q (.held _ _ _ rfl rfl rfl) rfl rfl (qt_call rfl Tryd.func119 rfl (by decide) rfl (fun w M => specSame_any w _ _ _ _ (mem_rd M h1) (mem_rd M e1))) ?_
  refine gv (qt_pick_t rfl rfl rfl) ?_
  refine g_splitv (.free rfl) rfl rfl (qt_move rfl rfl) (fun hs1_12 => ?_) (fun hs1_12 => ?_)
  ·try simp only [sA] at hs1_12
   refine gvh (qtf Tryd.underlying30 (z := 0) (off := 2)) ?_
   refine gvh (qtl Tryd.underlying22 (n := 0)) ?_
   refine gvh (qtf Tryd.underlying30 (z := 0) (off := 2)) ?_
   refine gvh (qtl Tryd.underlying22 (n := 1)) ?_
   refine g_q (.held _ _ _ rfl rfl rfl) rfl rfl (qt_call rfl Tryd.func119 rfl (by decide) rfl (fun w M => specSame_any w _ _ _ _ (mem_rd M h2) (mem_rd M e2))) ?_
   refine gv (qt_pick_t rfl rfl rfl) ?_
   refine g_splitv (.free rfl) rfl rfl (qt_move rfl rfl) (fun hs1_19 => ?_) (fun hs1_19 => ?_)
   ·try simp only [sA] at hs1_19
    refine gvh (qtf Tryd.underlying30 (z := 0) (off := 3)) ?_
    refine gvh (qtl Tryd.underlying22 (n := 0)) ?_
    refine gvh (qtf Tryd.underlying30 (z := 0) (off := 3)) ?_
    refine gvh (qtl Tryd.underlying22 (n := 1)) ?_
    refine g_q (.held _ _ _ rfl rfl rfl) rfl rfl (qt_call rfl Tryd.func119 rfl (by decide) rfl (fun w M => specSame_any w _ _ _ _ (mem_rd M h3) (mem_rd M e3))) ?_
    refine gv (qt_pick_t rfl rfl rfl) ?_
    refine g_splitv (.free rfl) rfl rfl (qt_move rfl rfl) (fun hs1_26 => ?_) (fun hs1_26 => ?_)
    ·try simp only [sA] at hs1_26
     refine gvh (qtf Tryd.underlying30 (z := 0) (off := 4)) ?_
     refine gvh (qtl Tryd.underlying23 (n := 0)) ?_
     refine gvh (qtf Tryd.underlying30 (z := 0) (off := 4)) ?_
     refine gvh (qtl Tryd.underlying23 (n := 1)) ?_
     refine g_q (.held _ _ _ rfl rfl rfl) rfl rfl (qt_call rfl Tryd.func120 rfl (by decide) rfl (fun w M => specSame2_any w _ _ _ _ (mem_rd2 M h4) (mem_rd2 M e4))) ?_
     refine gv (qt_pick_t rfl rfl rfl) ?_
     refine gas ?_
     refine gnt (hK6 _ _ ?_)
     refine gc_ret ?_
     refine ret_1 rfl rfl  (fun w M => ?_)
     rw [show bP (c = d) = decide (c.m = d.m) from by rw [← bP_dec]; exact bP_congr ⟨fun hq => (cat_eq.1 hq).2.2.2.2, fun hq => cat_eq.2 ⟨hs1_5, hs1_12, hs1_19, hs1_26, hq⟩⟩]; exact ⟨rfl, M.1⟩
    ·try simp only [sA] at hs1_26
     refine gsk ?_
     refine gsk ?_
     refine gsk ?_
     refine gsk ?_
     refine gsk ?_
     refine gv (qt_pick_f rfl rfl rfl) ?_
     refine gas ?_
     refine gnt (hK6 _ _ ?_)
     refine gc_ret ?_
     refine ret_1 rfl rfl  (fun w M => ?_)
     rw [bP_f fun hq => hs1_26 (cat_eq.1 hq).2.2.2.1]; exact ⟨rfl, M.1⟩
   ·try simp only [sA] at hs1_19
    refine gsk ?_
    refine gsk ?_
    refine gsk ?_
    refine gsk ?_
    refine gsk ?_
    refine gv (qt_pick_f rfl rfl rfl) ?_
    refine gm ?_
    refine gsk ?_
    refine gsk ?_
    refine gsk ?_
    refine gsk ?_
    refine gsk ?_
    refine gv (qt_pick_f rfl rfl rfl) ?_
    refine gas ?_
    refine gnt (hK6 _ _ ?_)
    refine gc_ret ?_
    refine ret_1 rfl rfl  (fun w M => ?_)
    rw [bP_f fun hq => hs1_19 (cat_eq.1 hq).2.2.1]; exact ⟨rfl, M.1⟩
  ·try simp only [sA] at hs1_12
   refine gsk ?_
   refine gsk ?_
   refine gsk ?_
   refine gsk ?_
   refine gsk ?_
   refine gv (qt_pick_f rfl rfl rfl) ?_
   refine gm ?_
   refine gsk ?_
   refine gsk ?_
   refine gsk ?_
   refine gsk ?_
   refine gsk ?_
   refine gv (qt_pick_f rfl rfl rfl) ?_
   refine gm ?_
   refine gsk ?_
   refine gsk ?_
   refine gsk ?_
   refine gsk ?_
   refine gsk ?_
   refine gv (qt_pick_f rfl rfl rfl) ?_
   refine gas ?_
   refine gnt (hK6 _ _ ?_)
   refine gc_ret ?_
   refine ret_1 rfl rfl  (fun w M => ?_)
   rw [bP_f fun hq => hs1_12 (cat_eq.1 hq).2.1]; exact ⟨rfl, M.1⟩
 ·try simp only [sA] at hs1_5
  refine gsk ?_
  refine gsk ?_
  refine gsk ?_
  refine gsk ?_
  refine gsk ?_
  refine gv (qt_pick_f rfl rfl rfl) ?_
  refine gm ?_
  refine gsk ?_
  refine gsk ?_
  refine gsk ?_
  refine gsk ?_
  refine gsk ?_
  refine gv (qt_pick_f rfl rfl rfl) ?_
  refine gm ?_
  refine gsk ?_
  refine gsk ?_
  refine gsk ?_
  refine gsk ?_
  refine gsk ?_
  refine gv (qt_pick_f rfl rfl rfl) ?_
  refine gm ?_
  refine gsk ?_
  refine gsk ?_
  refine gsk ?_
  refine gsk ?_
  refine gsk ?_
  refine gv (qt_pick_f rfl rfl rfl) ?_
  refine gas ?_
  refine gnt (hK6 _ _ ?_)
  refine gc_ret ?_
  refine ret_1 rfl rfl  (fun w M => ?_)
  rw [bP_f fun hq => hs1_5 (cat_eq.1 hq).1]; exact ⟨rfl, M.1⟩
end Go.Proofs.YtfnneogadciimaaDoor
set_option linter.unusedSimpArgs false
set_option linter.unusedVariables false
set_option linter.unusedSectionVars false
namespace Go.Proofs.YtfnneogadciimaaDoor
open Go.RowKit
def EnX (F G : Fct) (xs : List Int) (x : Nat) : Prop := at0 F.T.s (at0 xs (x : Int)) = at0 F.o (x : Int) ∧ at0 F.T.t (at0 xs (x : Int)) = at0 G.o (x : Int)
structure EndsP (F G : Fct) (xs : List Int) : Prop where
  lc : (xs.length : Int) = F.S.ob
  ic : AllP F.T.s.length xs
  en : ∀ x : Nat, x < xs.length → EnX F G xs x
def ParP (F G : Fct) : Prop := F.S = G.S ∧ F.T = G.T
def TwoF (F G : Fct) : Prop := fIsFunctor F = true ∧ fIsFunctor G = true
structure ShT (T : Tra) : Prop where
  two : TwoF T.S T.T
  par : ParP T.S T.T
  en : EndsP T.S T.T T.c
noncomputable def parE (F G : Fct) : Int := if bP (TwoF F G) = true then (if bP (ParP F G) = true then 0 else 5) else 1
theorem parE_f {F G : Fct} (h : ¬ TwoF F G) : parE F G = 1 := by unfold parE; rw [if_neg (by rw [bP_f h]; decide)]
theorem parE_s {F G : Fct} (h : TwoF F G) (h' : ¬ ParP F G) : parE F G = 5 := by unfold parE; rw [if_pos (bP_t h), if_neg (by rw [bP_f h']; decide)]
theorem parE_0 {F G : Fct} (h : TwoF F G) (h' : ParP F G) : parE F G = 0 := by unfold parE; rw [if_pos (bP_t h), if_pos (bP_t h')]
theorem parE_z {F G : Fct} (h : parE F G = 0) : TwoF F G ∧ ParP F G := by
  by_cases h1 : TwoF F G
  · by_cases h2 : ParP F G
    · exact ⟨h1, h2⟩
    · rw [parE_s h1 h2] at h; omega
  · rw [parE_f h1] at h; omega
def SqP (F G : Fct) (xs : List Int) (a : Nat) : Prop := F.T.th (at0 F.a (a : Int)) (at0 xs (at0 F.S.t (a : Int))) = F.T.th (at0 xs (at0 F.S.s (a : Int))) (at0 G.a (a : Int))
structure SqB (F G : Fct) (xs : List Int) (a : Int) : Prop where
  s0 : 0 ≤ at0 F.S.s a
  s1 : at0 F.S.s a < xs.length
  t0 : 0 ≤ at0 F.S.t a
  t1 : at0 F.S.t a < xs.length
  p0 : 0 ≤ at0 xs (at0 F.S.s a)
  p1 : at0 xs (at0 F.S.s a) < F.T.s.length
  q0 : 0 ≤ at0 xs (at0 F.S.t a)
  q1 : at0 xs (at0 F.S.t a) < F.T.s.length
  f0 : 0 ≤ at0 F.a a
  f1 : at0 F.a a < F.T.s.length
  g0 : 0 ≤ at0 G.a a
  g1 : at0 G.a a < F.T.s.length
  ls : a < F.S.s.length
  lt : a < F.S.t.length
  lf : a < F.a.length
  lg : a < G.a.length
  ml : (F.T.m.length : Int) = F.T.s.length
  r1 : (row2 F.T.m (at0 F.a a)).length = F.T.s.length
  r2 : (row2 F.T.m (at0 xs (at0 F.S.s a))).length = F.T.s.length
theorem allP_i {n : Int} {xs : List Int} (h : AllP n xs) {x : Int} (x0 : 0 ≤ x) (x1 : x < xs.length) : 0 ≤ at0 xs x ∧ at0 xs x < n := by
  obtain ⟨k, rfl⟩ := Int.eq_ofNat_of_zero_le x0
  exact allP_at h (by omega)
def RetSq (W : World) (v u : Value) (e : Ending) (w' : World) : Prop := ∃ (B D : Nat) (cf cg : List Value), v = .agg cf.toArray ∧ u = .agg cg.toArray ∧ e = .returned (.func (.func 106) #[] #[.pointer (some ⟨B, 0, none⟩), .pointer (some ⟨D, 0, none⟩)]) ∧
  Star [bxI B 45 cf, bxI D 45 cg] w' (fun k => W.heap.size ≤ k) ∧ Below W.heap.size W w'
section
variable {w0 : World} {is : List Itm} {ops : Array Oper} {Q : Exit → Act → World → Prop} {o : Oper} {N : Frm} {e : Env} {v u : Value} {d : Nat} {K : Act → World → Prop} {f : FuncId} {fn : Func} {ags : Array Operand} {ts : Array TypeId} {vs : List Value}
theorem go_callSq {cf cg : List Value} (hd : o.dst = some d) (hN : Nat.blt d N = true) (hop : o.op = .call { callee := .value (.func f), args := ags, argTypes := ts }) (hfn : Tryd.prog.funcs[f]? = some fn) (hb : fn.body.isNone = false) (hn : (fn.name == "runtime.NumGoroutine") = false)
    (hargs : evoL e ags.toList = some vs) (hc : ∀ w, Mem w0 w is → Calls Tryd.prog f vs.toArray w (RetSq w (.agg cf.toArray) (.agg cg.toArray)))
    (hk : ∀ B D : Nat, GK w0 (is ++ [bxI B 45 cf, bxI D 45 cg]) N K ((d, .func (.func 106) #[] #[.pointer (some ⟨B, 0, none⟩), .pointer (some ⟨D, 0, none⟩)]) :: e)) : GO w0 is N o e Q K := by
  intro w a M F
  refine go_call hd hN F hop hfn hb hn hargs (hc w M) fun e' w' hR => ?_
  obtain ⟨B, D, c1, c2, h1, h2, rfl, hs, hbl⟩ := hR
  have e1 : cf = c1 := by simpa using h1
  have e2 : cg = c2 := by simpa using h2
  subst e1; subst e2
  exact ⟨_, rfl, fun a F => hk B D w' a (mem_news M hbl hs) F⟩
end
set_option maxHeartbeats 1000000 in
set_option maxRecDepth 100000 in
theorem parallel_any (w : World) (v : Value) (F : Fct) (u : Value) (G : Fct) (h : RdF w v F) (e : RdF w u G) :
    Calls Tryd.prog 69 #[v, u] w (RetB w (bP (ParP F G))) := by
  have h0 := h
  obtain ⟨vx1, vx2, vx3, vx4, vx5, vx6, vx7, vx8, vx9, vx10, vk1, vk2, vk3, vk4, vk5, vk6, vk7, vk8, vk9, vk10, rfl, h1, h2, h3, h4, h5, h6, h7, h8, h9, h10⟩ := h.lists
  have e0 := e
  obtain ⟨ux1, ux2, ux3, ux4, ux5, ux6, ux7, ux8, ux9, ux10, uk1, uk2, uk3, uk4, uk5, uk6, uk7, uk8, uk9, uk10, rfl, e1, e2, e3, e4, e5, e6, e7, e8, e9, e10⟩ := e.lists
  go_enter Tryd.func69, Tryd.ntmps69
  refine gc_enter (N := 17) rfl (look_cons (k := 0) rfl (look_cons (k := 1) rfl (look_nil _))) ?_
  refine gc_seq fun K1 hK1 => ?_
  refine gc_region ?_
  refine g_op (.free rfl) fun K3 hK3 => ?_
  refine go_box rfl rfl rfl rfl rfl ?_
  intro B2
  refine hK3 _ _ ?_
  refine g_op (.free rfl) fun K5 hK5 => ?_
  refine go_box rfl rfl rfl rfl rfl ?_
  intro B4
  refine hK5 _ _ ?_
  refine g_v (.free rfl) rfl rfl (qt_assign rfl rfl) ?_
  refine g_nil ?_
  refine gk_then (hK1 _ _ ?_)
  refine gc_seq fun K6 hK6 => ?_
  refine gc_region ?_
  refine g_v (.free rfl) rfl rfl (qt_field (z := 4) (off := 0) rfl rfl Tryd.underlying45 rfl (by kernel_rfl) rfl) ?_
  refine g_v (.free rfl) rfl rfl (qt_loadP (n := 0) (z := 5) rfl rfl Tryd.underlying30 rfl (by kernel_rfl) rfl (by first | decide | exact Nat.le_refl _ | simp)) ?_
  refine g_v (.free rfl) rfl rfl (qt_field (z := 4) (off := 0) rfl rfl Tryd.underlying45 rfl (by kernel_rfl) rfl) ?_
  refine g_v (.free rfl) rfl rfl (qt_loadP (n := 1) (z := 5) rfl rfl Tryd.underlying30 rfl (by kernel_rfl) rfl (by first | decide | exact Nat.le_refl _ | simp)) ?_
  refine g_q (.free rfl) rfl rfl (qt_call rfl Tryd.func103 rfl (by decide) rfl (fun w M => equals_any w _ _ (rdC_mk (mem_rd M h1) (mem_rd M h2) (mem_rd M h3) (mem_rd2 M h4)) _ _ (rdC_mk (mem_rd M e1) (mem_rd M e2) (mem_rd M e3) (mem_rd2 M e4)))) ?_
  refine g_splitv (.free rfl) rfl rfl (qt_move rfl rfl) (fun hs1_5 => ?_) (fun hs1_5 => ?_)
  · try simp only [decide_eq_true_eq, decide_eq_false_iff_not, Bool.not_eq_true', Bool.not_eq_false', Bool.not_eq_eq_eq_not, Bool.not_true, Bool.not_false, ne_eq, Decidable.not_not, Classical.not_not] at hs1_5
    refine g_v (.held _ _ _ rfl rfl rfl) rfl rfl (qt_field (z := 4) (off := 5) rfl rfl Tryd.underlying45 rfl (by kernel_rfl) rfl) ?_
    refine g_v (.held _ _ _ rfl rfl rfl) rfl rfl (qt_loadP (n := 0) (z := 5) rfl rfl Tryd.underlying30 rfl (by kernel_rfl) rfl (by first | decide | exact Nat.le_refl _ | simp)) ?_
    refine g_v (.held _ _ _ rfl rfl rfl) rfl rfl (qt_field (z := 4) (off := 5) rfl rfl Tryd.underlying45 rfl (by kernel_rfl) rfl) ?_
    refine g_v (.held _ _ _ rfl rfl rfl) rfl rfl (qt_loadP (n := 1) (z := 5) rfl rfl Tryd.underlying30 rfl (by kernel_rfl) rfl (by first | decide | exact Nat.le_refl _ | simp)) ?_
    refine g_q (.held _ _ _ rfl rfl rfl) rfl rfl (qt_call rfl Tryd.func103 rfl (by decide) rfl (fun w M => equals_any w _ _ (rdC_mk (mem_rd M h5) (mem_rd M h6) (mem_rd M h7) (mem_rd2 M h8)) _ _ (rdC_mk (mem_rd M e5) (mem_rd M e6) (mem_rd M e7) (mem_rd2 M e8)))) ?_
    refine g_v (.free rfl) rfl rfl (qt_pick_t rfl rfl rfl) ?_
    refine g_v (.free rfl) rfl rfl (qt_assign rfl rfl) ?_
    refine g_nil ?_
    refine gk_then (hK6 _ _ ?_)
    refine gc_ret ?_
    refine ret_1 rfl rfl  (fun w M => ?_)
    rw [show bP (ParP F G) = bP (F.T = G.T) from bP_congr ⟨fun hq => hq.2, fun hq => ⟨bP_t' hs1_5, hq⟩⟩]; exact ⟨rfl, M.1⟩
  · try simp only [decide_eq_true_eq, decide_eq_false_iff_not, Bool.not_eq_true', Bool.not_eq_false', Bool.not_eq_eq_eq_not, Bool.not_true, Bool.not_false, ne_eq, Decidable.not_not, Classical.not_not] at hs1_5
    refine g_skip (.not _ _ _ _ rfl rfl rfl rfl) rfl rfl ?_
    refine g_skip (.not _ _ _ _ rfl rfl rfl rfl) rfl rfl ?_
    refine g_skip (.not _ _ _ _ rfl rfl rfl rfl) rfl rfl ?_
    refine g_skip (.not _ _ _ _ rfl rfl rfl rfl) rfl rfl ?_
    refine g_skip (.not _ _ _ _ rfl rfl rfl rfl) rfl rfl ?_
    refine g_v (.free rfl) rfl rfl (qt_pick_f rfl rfl rfl) ?_
    refine g_v (.free rfl) rfl rfl (qt_assign rfl rfl) ?_
    refine g_nil ?_
    refine gk_then (hK6 _ _ ?_)
    refine gc_ret ?_
    refine ret_1 rfl rfl  (fun w M => ?_)
    rw [bP_f fun hq => bP_f' hs1_5 hq.1]; exact ⟨rfl, M.1⟩
set_option maxHeartbeats 1000000 in
set_option maxRecDepth 100000 in
theorem specParallel_any (w : World) (v : Value) (F : Fct) (u : Value) (G : Fct) (h : RdF w v F) (e : RdF w u G) :
    Calls Tryd.prog 67 #[v, u] w (RetB w (bP (ParP F G))) := by
  have h0 := h
  obtain ⟨vx1, vx2, vx3, vx4, vx5, vx6, vx7, vx8, vx9, vx10, vk1, vk2, vk3, vk4, vk5, vk6, vk7, vk8, vk9, vk10, rfl, h1, h2, h3, h4, h5, h6, h7, h8, h9, h10⟩ := h.lists
  have e0 := e
  obtain ⟨ux1, ux2, ux3, ux4, ux5, ux6, ux7, ux8, ux9, ux10, uk1, uk2, uk3, uk4, uk5, uk6, uk7, uk8, uk9, uk10, rfl, e1, e2, e3, e4, e5, e6, e7, e8, e9, e10⟩ := e.lists
  go_enter Tryd.func67, Tryd.ntmps67
  refine gc_enter (N := 17) rfl (look_cons (k := 0) rfl (look_cons (k := 1) rfl (look_nil _))) ?_
  refine gc_seq fun K1 hK1 => ?_
  refine gc_region ?_
  refine g_op (.free rfl) fun K3 hK3 => ?_
  refine go_box rfl rfl rfl rfl rfl ?_
  intro B2
  refine hK3 _ _ ?_
  refine g_op (.free rfl) fun K5 hK5 => ?_
  refine go_box rfl rfl rfl rfl rfl ?_
  intro B4
  refine hK5 _ _ ?_
  refine g_v (.free rfl) rfl rfl (qt_assign rfl rfl) ?_
  refine g_nil ?_
  refine gk_then (hK1 _ _ ?_)
  refine gc_seq fun K6 hK6 => ?_
  refine gc_region ?_
  refine g_v (.free rfl) rfl rfl (qt_field (z := 4) (off := 0) rfl rfl Tryd.underlying45 rfl (by kernel_rfl) rfl) ?_
  refine g_v (.free rfl) rfl rfl (qt_loadP (n := 0) (z := 5) rfl rfl Tryd.underlying30 rfl (by kernel_rfl) rfl (by first | decide | exact Nat.le_refl _ | simp)) ?_
  refine g_v (.free rfl) rfl rfl (qt_field (z := 4) (off := 0) rfl rfl Tryd.underlying45 rfl (by kernel_rfl) rfl) ?_
  refine g_v (.free rfl) rfl rfl (qt_loadP (n := 1) (z := 5) rfl rfl Tryd.underlying30 rfl (by kernel_rfl) rfl (by first | decide | exact Nat.le_refl _ | simp)) ?_
  refine g_q (.free rfl) rfl rfl (qt_call rfl Tryd.func98 rfl (by decide) rfl (fun w M => specSameC_any w _ _ (rdC_mk (mem_rd M h1) (mem_rd M h2) (mem_rd M h3) (mem_rd2 M h4)) _ _ (rdC_mk (mem_rd M e1) (mem_rd M e2) (mem_rd M e3) (mem_rd2 M e4)))) ?_
  refine g_splitv (.free rfl) rfl rfl (qt_move rfl rfl) (fun hs1_5 => ?_) (fun hs1_5 => ?_)
  · try simp only [decide_eq_true_eq, decide_eq_false_iff_not, Bool.not_eq_true', Bool.not_eq_false', Bool.not_eq_eq_eq_not, Bool.not_true, Bool.not_false, ne_eq, Decidable.not_not, Classical.not_not] at hs1_5
    refine g_v (.held _ _ _ rfl rfl rfl) rfl rfl (qt_field (z := 4) (off := 5) rfl rfl Tryd.underlying45 rfl (by kernel_rfl) rfl) ?_
    refine g_v (.held _ _ _ rfl rfl rfl) rfl rfl (qt_loadP (n := 0) (z := 5) rfl rfl Tryd.underlying30 rfl (by kernel_rfl) rfl (by first | decide | exact Nat.le_refl _ | simp)) ?_
    refine g_v (.held _ _ _ rfl rfl rfl) rfl rfl (qt_field (z := 4) (off := 5) rfl rfl Tryd.underlying45 rfl (by kernel_rfl) rfl) ?_
    refine g_v (.held _ _ _ rfl rfl rfl) rfl rfl (qt_loadP (n := 1) (z := 5) rfl rfl Tryd.underlying30 rfl (by kernel_rfl) rfl (by first | decide | exact Nat.le_refl _ | simp)) ?_
    refine g_q (.held _ _ _ rfl rfl rfl) rfl rfl (qt_call rfl Tryd.func98 rfl (by decide) rfl (fun w M => specSameC_any w _ _ (rdC_mk (mem_rd M h5) (mem_rd M h6) (mem_rd M h7) (mem_rd2 M h8)) _ _ (rdC_mk (mem_rd M e5) (mem_rd M e6) (mem_rd M e7) (mem_rd2 M e8)))) ?_
    refine g_v (.free rfl) rfl rfl (qt_pick_t rfl rfl rfl) ?_
    refine g_v (.free rfl) rfl rfl (qt_assign rfl rfl) ?_
    refine g_nil ?_
    refine gk_then (hK6 _ _ ?_)
    refine gc_ret ?_
    refine ret_1 rfl rfl  (fun w M => ?_)
    rw [show bP (ParP F G) = bP (F.T = G.T) from bP_congr ⟨fun hq => hq.2, fun hq => ⟨bP_t' hs1_5, hq⟩⟩]; exact ⟨rfl, M.1⟩
  · try simp only [decide_eq_true_eq, decide_eq_false_iff_not, Bool.not_eq_true', Bool.not_eq_false', Bool.not_eq_eq_eq_not, Bool.not_true, Bool.not_false, ne_eq, Decidable.not_not, Classical.not_not] at hs1_5
    refine g_skip (.not _ _ _ _ rfl rfl rfl rfl) rfl rfl ?_
    refine g_skip (.not _ _ _ _ rfl rfl rfl rfl) rfl rfl ?_
    refine g_skip (.not _ _ _ _ rfl rfl rfl rfl) rfl rfl ?_
    refine g_skip (.not _ _ _ _ rfl rfl rfl rfl) rfl rfl ?_
    refine g_skip (.not _ _ _ _ rfl rfl rfl rfl) rfl rfl ?_
    refine g_v (.free rfl) rfl rfl (qt_pick_f rfl rfl rfl) ?_
    refine g_v (.free rfl) rfl rfl (qt_assign rfl rfl) ?_
    refine g_nil ?_
    refine gk_then (hK6 _ _ ?_)
    refine gc_ret ?_
    refine ret_1 rfl rfl  (fun w M => ?_)
    rw [bP_f fun hq => bP_f' hs1_5 hq.1]; exact ⟨rfl, M.1⟩
set_option maxHeartbeats 1000000 in
set_option maxRecDepth 100000 in
theorem checkPar_any (w : World) (v : Value) (F : Fct) (u : Value) (G : Fct) (h : RdF w v F) (e : RdF w u G) :
    Calls Tryd.prog 47 #[v, u] w (RetI w (parE F G)) := by
  have h0 := h
  obtain ⟨vx1, vx2, vx3, vx4, vx5, vx6, vx7, vx8, vx9, vx10, vk1, vk2, vk3, vk4, vk5, vk6, vk7, vk8, vk9, vk10, rfl, h1, h2, h3, h4, h5, h6, h7, h8, h9, h10⟩ := h.lists
  have e0 := e
  obtain ⟨ux1, ux2, ux3, ux4, ux5, ux6, ux7, ux8, ux9, ux10, uk1, uk2, uk3, uk4, uk5, uk6, uk7, uk8, uk9, uk10, rfl, e1, e2, e3, e4, e5, e6, e7, e8, e9, e10⟩ := e.lists
  go_enter Tryd.func47, Tryd.ntmps47
  refine gc_enter (N := 17) rfl (look_cons (k := 0) rfl (look_cons (k := 1) rfl (look_nil _))) ?_
  refine gc_seq fun K1 hK1 => ?_
  refine gc_region ?_
  refine g_op (.free rfl) fun K3 hK3 => ?_
  refine go_box rfl rfl rfl rfl rfl ?_
  intro B2
  refine hK3 _ _ ?_
  refine g_op (.free rfl) fun K5 hK5 => ?_
  refine go_box rfl rfl rfl rfl rfl ?_
  intro B4
  refine hK5 _ _ ?_
  refine g_v (.free rfl) rfl rfl (qt_assign rfl rfl) ?_
  refine g_nil ?_
  refine gk_then (hK1 _ _ ?_)
  refine gc_seq fun K6 hK6 => ?_
  refine gc_seq fun K7 hK7 => ?_
  refine gc_region ?_
  refine g_v (.free rfl) rfl rfl (qt_loadS (n := 0) rfl rfl Tryd.underlying45 rfl (by kernel_rfl) rfl) ?_
  refine g_q (.free rfl) rfl rfl (qt_call rfl Tryd.func68 rfl (by decide) rfl (fun w M => impl_IsFunctor w _ _ (mem_rdF M h0))) ?_
  refine g_v (.free rfl) rfl rfl (qt_not rfl rfl) ?_
  refine g_splitv (.free rfl) rfl rfl (qt_move rfl rfl) (fun hs1_3 => ?_) (fun hs1_3 => ?_)
  · try simp only [decide_eq_true_eq, decide_eq_false_iff_not, Bool.not_eq_true', Bool.not_eq_false', Bool.not_eq_eq_eq_not, Bool.not_true, Bool.not_false, ne_eq, Decidable.not_not, Classical.not_not] at hs1_3
    refine g_skip (.not _ _ _ _ rfl rfl rfl rfl) rfl rfl ?_
    refine g_skip (.not _ _ _ _ rfl rfl rfl rfl) rfl rfl ?_
    refine g_skip (.not _ _ _ _ rfl rfl rfl rfl) rfl rfl ?_
    refine g_v (.free rfl) rfl rfl (qt_pick_t rfl rfl rfl) ?_
    refine g_nil ?_
    refine gk_then (hK7 _ _ ?_)
    refine gc_cond_t rfl ?_
    refine gc_seq fun K8 hK8 => ?_
    refine gc_region ?_
    refine g_v (.free rfl) rfl rfl (qt_assign rfl rfl) ?_
    refine g_nil ?_
    refine gk_then (hK8 _ _ ?_)
    refine gc_ret ?_
    refine gk_then_ret ?_
    refine ret_1 rfl rfl  (fun w M => ?_)
    rw [parE_f fun hq => by rw [hq.1] at hs1_3; cases hs1_3]; exact ⟨rfl, M.1⟩
  · try simp only [decide_eq_true_eq, decide_eq_false_iff_not, Bool.not_eq_true', Bool.not_eq_false', Bool.not_eq_eq_eq_not, Bool.not_true, Bool.not_false, ne_eq, Decidable.not_not, Classical.not_not] at hs1_3
    refine g_v (.held _ _ _ rfl rfl rfl) rfl rfl (qt_loadS (n := 1) rfl rfl Tryd.underlying45 rfl (by kernel_rfl) rfl) ?_
    refine g_q (.held _ _ _ rfl rfl rfl) rfl rfl (qt_call rfl Tryd.func68 rfl (by decide) rfl (fun w M => impl_IsFunctor w _ _ (mem_rdF M e0))) ?_
    refine g_v (.held _ _ _ rfl rfl rfl) rfl rfl (qt_not rfl rfl) ?_
    refine g_v (.free rfl) rfl rfl (qt_pick_f rfl rfl rfl) ?_
    refine g_nil ?_
    refine gk_then (hK7 _ _ ?_)
    refine gc_cond rfl (fun hc0 => ?_) (fun hc0 => ?_)
    · try simp only [decide_eq_true_eq, decide_eq_false_iff_not, Bool.not_eq_true', Bool.not_eq_false', Bool.not_eq_eq_eq_not, Bool.not_true, Bool.not_false, ne_eq, Decidable.not_not, Classical.not_not] at hc0
      refine gc_seq fun K9 hK9 => ?_
      refine gc_region ?_
      refine g_v (.free rfl) rfl rfl (qt_assign rfl rfl) ?_
      refine g_nil ?_
      refine gk_then (hK9 _ _ ?_)
      refine gc_ret ?_
      refine gk_then_ret ?_
      refine ret_1 rfl rfl  (fun w M => ?_)
      rw [parE_f fun hq => by rw [hq.2] at hc0; cases hc0]; exact ⟨rfl, M.1⟩
    · try simp only [decide_eq_true_eq, decide_eq_false_iff_not, Bool.not_eq_true', Bool.not_eq_false', Bool.not_eq_eq_eq_not, Bool.not_true, Bool.not_false, ne_eq, Decidable.not_not, Classical.not_not] at hc0
      refine gc_skip ?_
      refine gk_then (hK6 _ _ ?_)
      refine gc_seq fun K10 hK10 => ?_
      refine gc_seq fun K11 hK11 => ?_
      refine gc_region ?_
      refine g_v (.free rfl) rfl rfl (qt_loadS (n := 0) rfl rfl Tryd.underlying45 rfl (by kernel_rfl) rfl) ?_
      refine g_v (.free rfl) rfl rfl (qt_loadS (n := 1) rfl rfl Tryd.underlying45 rfl (by kernel_rfl) rfl) ?_
      refine g_q (.free rfl) rfl rfl (qt_call rfl Tryd.func69 rfl (by decide) rfl (fun w M => parallel_any w _ _ _ _ (mem_rdF M h0) (mem_rdF M e0))) ?_
      refine g_v (.free rfl) rfl rfl (qt_not rfl rfl) ?_
      refine g_nil ?_
      refine gk_then (hK11 _ _ ?_)
      refine gc_cond rfl (fun hc1 => ?_) (fun hc1 => ?_)
      · try simp only [decide_eq_true_eq, decide_eq_false_iff_not, Bool.not_eq_true', Bool.not_eq_false', Bool.not_eq_eq_eq_not, Bool.not_true, Bool.not_false, ne_eq, Decidable.not_not, Classical.not_not] at hc1
        refine gc_seq fun K12 hK12 => ?_
        refine gc_region ?_
        refine g_v (.free rfl) rfl rfl (qt_assign rfl rfl) ?_
        refine g_nil ?_
        refine gk_then (hK12 _ _ ?_)
        refine gc_ret ?_
        refine gk_then_ret ?_
        refine ret_1 rfl rfl  (fun w M => ?_)
        rw [parE_s ⟨hs1_3, hc0⟩ (bP_f' hc1)]; exact ⟨rfl, M.1⟩
      · try simp only [decide_eq_true_eq, decide_eq_false_iff_not, Bool.not_eq_true', Bool.not_eq_false', Bool.not_eq_eq_eq_not, Bool.not_true, Bool.not_false, ne_eq, Decidable.not_not, Classical.not_not] at hc1
        refine gc_skip ?_
        refine gk_then (hK10 _ _ ?_)
        refine gc_seq fun K13 hK13 => ?_
        refine gc_region ?_
        refine g_v (.free rfl) rfl rfl (qt_assign rfl rfl) ?_
        refine g_nil ?_
        refine gk_then (hK13 _ _ ?_)
        refine gc_ret ?_
        refine ret_1 rfl rfl  (fun w M => ?_)
        rw [parE_0 ⟨hs1_3, hc0⟩ (bP_t' hc1)]; exact ⟨rfl, M.1⟩
set_option maxHeartbeats 1000000 in
set_option maxRecDepth 100000 in
theorem squaresTo_any (w : World) (v : Value) (F : Fct) (u : Value) (G : Fct) (h : RdF w v F) (e : RdF w u G) :
    Calls Tryd.prog 72 #[v, u] w (RetSq w v u) := by
  have h0 := h
  obtain ⟨vx1, vx2, vx3, vx4, vx5, vx6, vx7, vx8, vx9, vx10, vk1, vk2, vk3, vk4, vk5, vk6, vk7, vk8, vk9, vk10, rfl, h1, h2, h3, h4, h5, h6, h7, h8, h9, h10⟩ := h.lists
  have e0 := e
  obtain ⟨ux1, ux2, ux3, ux4, ux5, ux6, ux7, ux8, ux9, ux10, uk1, uk2, uk3, uk4, uk5, uk6, uk7, uk8, uk9, uk10, rfl, e1, e2, e3, e4, e5, e6, e7, e8, e9, e10⟩ := e.lists
  go_enter Tryd.func72, Tryd.ntmps72
  refine gc_enter (N := 6) rfl (look_cons (k := 0) rfl (look_cons (k := 1) rfl (look_nil _))) ?_
  refine gc_seq fun K1 hK1 => ?_
  refine gc_region ?_
  refine g_op (.free rfl) fun K3 hK3 => ?_
  refine go_box rfl rfl rfl rfl rfl ?_
  intro B2
  refine hK3 _ _ ?_
  refine g_op (.free rfl) fun K5 hK5 => ?_
  refine go_box rfl rfl rfl rfl rfl ?_
  intro B4
  refine hK5 _ _ ?_
  refine g_v (.free rfl) rfl rfl (qt_assign rfl rfl) ?_
  refine g_nil ?_
  refine gk_then (hK1 _ _ ?_)
  refine gc_seq fun K6 hK6 => ?_
  refine gc_region ?_
  refine g_v (.free rfl) rfl rfl (qt_makeF rfl rfl) ?_
  refine g_v (.free rfl) rfl rfl (qt_assign rfl rfl) ?_
  refine g_nil ?_
  refine gk_then (hK6 _ _ ?_)
  refine gc_ret ?_
  refine ret_1 rfl rfl  (fun w M => ?_)
  exact ⟨_, _, _, _, rfl, rfl, rfl, (mem_take 2 M).2, M.1⟩
set_option maxHeartbeats 1000000 in
set_option maxRecDepth 100000 in
theorem square_any (w : World) (a p q : Int) (B D : Nat) (v : Value) (F : Fct) (u : Value) (G : Fct) (h : RdF w v F) (e : RdF w u G) (hbB : BxV w B 45 v) (hbD : BxV w D 45 u) (a0 : 0 ≤ a) (a1 : a < F.a.length) (a2 : a < G.a.length) (f0 : 0 ≤ at0 F.a a) (f1 : at0 F.a a < F.T.m.length) (q0 : 0 ≤ q) (q1 : q < (row2 F.T.m (at0 F.a a)).length) (p0 : 0 ≤ p) (p1 : p < F.T.m.length) (g0 : 0 ≤ at0 G.a a) (g1 : at0 G.a a < (row2 F.T.m p).length) :
    Calls Tryd.prog 106 #[.int .i64 a, .int .i64 p, .int .i64 q, .pointer (some ⟨B, 0, none⟩), .pointer (some ⟨D, 0, none⟩)] w (RetB w (bP (F.T.th (at0 F.a a) q = F.T.th p (at0 G.a a)))) := by
  have h0 := h; have e0 := e
  obtain ⟨vx1, vx2, vx3, vx4, vx5, vx6, vx7, vx8, vx9, vx10, vk1, vk2, vk3, vk4, vk5, vk6, vk7, vk8, vk9, vk10, rfl, h1, h2, h3, h4, h5, h6, h7, h8, h9, h10⟩ := h.lists
  obtain ⟨ux1, ux2, ux3, ux4, ux5, ux6, ux7, ux8, ux9, ux10, uk1, uk2, uk3, uk4, uk5, uk6, uk7, uk8, uk9, uk10, rfl, e1, e2, e3, e4, e5, e6, e7, e8, e9, e10⟩ := e.lists
  go_enter Tryd.func106, Tryd.ntmps106
  refine gc_enter (N := 28) rfl (look_cons (k := 0) rfl (look_cons (k := 1) rfl (look_cons (k := 2) rfl (look_cons (k := 3) rfl (look_cons (k := 4) rfl (look_nil _)))))) ?_
  refine gc_seq fun K1 hK1 => ?_
  refine gc_region ?_
  refine g_v (.free rfl) rfl rfl (qt_assign rfl rfl) ?_
  refine g_nil ?_
  refine gk_then (hK1 _ _ ?_)
  refine gc_seq fun K2 hK2 => ?_
  refine gc_draw (by kernel_rfl) ?_
  refine gd_v (.free rfl) rfl rfl (qt_field (z := 4) (off := 5) rfl rfl Tryd.underlying45 rfl (by kernel_rfl) rfl) ?_
  refine gd_v (.free rfl) rfl rfl (qt_loadRQ hbB (z := 5) rfl rfl Tryd.underlying30 rfl (by kernel_rfl) (by simp)) ?_
  refine gd_v (.free rfl) rfl rfl (qt_field (z := 0) (off := 11) rfl rfl Tryd.underlying45 rfl (by kernel_rfl) rfl) ?_
  refine gd_v (.free rfl) rfl rfl (qt_loadRB hbB rfl rfl Tryd.underlying22 rfl rfl) ?_
  refine gd_v (.free rfl) rfl rfl (qt_move rfl rfl) ?_
  refine gd_v (.free rfl) rfl rfl (qt_index rfl rfl rfl ulE1 szE1 (fun w M => lenA_rd h10) (by omega) (by omega)) ?_
  refine gd_v (.free rfl) rfl rfl (qt_load1 rfl rfl Tryd.underlying2 rfl (fun w M => mem_rd M h10) (by omega) (by omega)) ?_
  refine gd_v (.free rfl) rfl rfl (qt_move rfl rfl) ?_
  refine gd_q (.free rfl) rfl rfl (qt_call rfl Tryd.func96 rfl (by decide) rfl (fun w M => then_any w _ (F.T) _ _ (rdC_mk (mem_rd M h5) (mem_rd M h6) (mem_rd M h7) (mem_rd2 M h8)) (by first | assumption | omega) (by first | assumption | omega) (by first | assumption | omega) (by first | assumption | omega))) ?_
  refine gd_v (.free rfl) rfl rfl (qt_field (z := 4) (off := 5) rfl rfl Tryd.underlying45 rfl (by kernel_rfl) rfl) ?_
  refine gd_v (.free rfl) rfl rfl (qt_loadRQ hbB (z := 5) rfl rfl Tryd.underlying30 rfl (by kernel_rfl) (by simp)) ?_
  refine gd_v (.free rfl) rfl rfl (qt_move rfl rfl) ?_
  refine gd_v (.free rfl) rfl rfl (qt_field (z := 0) (off := 11) rfl rfl Tryd.underlying45 rfl (by kernel_rfl) rfl) ?_
  refine gd_v (.free rfl) rfl rfl (qt_loadRB hbD rfl rfl Tryd.underlying22 rfl rfl) ?_
  refine gd_v (.free rfl) rfl rfl (qt_move rfl rfl) ?_
  refine gd_v (.free rfl) rfl rfl (qt_index rfl rfl rfl ulE1 szE1 (fun w M => lenA_rd e10) (by omega) (by omega)) ?_
  refine gd_v (.free rfl) rfl rfl (qt_load1 rfl rfl Tryd.underlying2 rfl (fun w M => mem_rd M e10) (by omega) (by omega)) ?_
  refine gd_q (.free rfl) rfl rfl (qt_call rfl Tryd.func96 rfl (by decide) rfl (fun w M => then_any w _ (F.T) _ _ (rdC_mk (mem_rd M h5) (mem_rd M h6) (mem_rd M h7) (mem_rd2 M h8)) (by first | assumption | omega) (by first | assumption | omega) (by first | assumption | omega) (by first | assumption | omega))) ?_
  refine gd_v (.free rfl) rfl rfl (qt_eql rfl rfl rfl) ?_
  refine gd_v (.free rfl) rfl rfl (qt_assign rfl rfl) ?_
  refine gd_nil ?_
  refine gk_then (hK2 _ _ ?_)
  refine gc_ret ?_
  refine ret_1 rfl rfl  (fun w M => ?_)
  rw [← bP_dec]; exact ⟨rfl, M.1⟩
set_option maxHeartbeats 1000000 in
set_option maxRecDepth 100000 in
theorem specSquare_any (w : World) (v : Value) (F : Fct) (u : Value) (G : Fct) (cv : Value) (xs : List Int) (h : RdF w v F) (e : RdF w u G) (hx : Rd w cv xs) (a : Nat) (b : SqB F G xs (a : Int)) :
    Calls Tryd.prog 127 #[v, u, cv, .int .i64 ((a : Int))] w (RetB w (bP (SqP F G xs a))) := by
  have h0 := h
  obtain ⟨vx1, vx2, vx3, vx4, vx5, vx6, vx7, vx8, vx9, vx10, vk1, vk2, vk3, vk4, vk5, vk6, vk7, vk8, vk9, vk10, rfl, h1, h2, h3, h4, h5, h6, h7, h8, h9, h10⟩ := h.lists
  have e0 := e
  obtain ⟨ux1, ux2, ux3, ux4, ux5, ux6, ux7, ux8, ux9, ux10, uk1, uk2, uk3, uk4, uk5, uk6, uk7, uk8, uk9, uk10, rfl, e1, e2, e3, e4, e5, e6, e7, e8, e9, e10⟩ := e.lists
  obtain ⟨cva, cvc, rfl⟩ := rd_form hx
  have s0 := b.s0; have s1 := b.s1; have t0 := b.t0; have t1 := b.t1; have p0 := b.p0; have p1 := b.p1; have q0 := b.q0; have q1 := b.q1; have f0 := b.f0; have f1 := b.f1; have g0 := b.g0; have g1 := b.g1; have ls := b.ls; have lt := b.lt; have lf := b.lf; have lg := b.lg; have ml := b.ml; have r1 := b.r1; have r2 := b.r2
  go_enter Tryd.func127, Tryd.ntmps127
  refine gc_enter (N := 54) rfl (look_cons (k := 0) rfl (look_cons (k := 1) rfl (look_cons (k := 2) rfl (look_cons (k := 3) rfl (look_nil _))))) ?_
  refine gc_seq fun K1 hK1 => ?_
  refine gc_region ?_
  refine g_op (.free rfl) fun K3 hK3 => ?_
  refine go_box rfl rfl rfl rfl rfl ?_
  intro B2
  refine hK3 _ _ ?_
  refine g_op (.free rfl) fun K5 hK5 => ?_
  refine go_box rfl rfl rfl rfl rfl ?_
  intro B4
  refine hK5 _ _ ?_
  refine g_v (.free rfl) rfl rfl (qt_assign rfl rfl) ?_
  refine g_nil ?_
  refine gk_then (hK1 _ _ ?_)
  refine gc_seq fun K6 hK6 => ?_
  try simp only [List.nil_append, List.cons_append, List.append_assoc, List.set_cons_succ, List.set_cons_zero]
  refine gc_cut ([(0, _), (1, _), (2, _), (3, _), (4, _), (5, _), (8, _)] : Env) (fun s : Nat × Nat => (fun (B9 : Nat) (B10 : Nat) => ([(9, .pointer (some ⟨B9, 0, none⟩)), (10, .pointer (some ⟨B10, 0, none⟩))] : Env)) s.1 s.2) (fun s : Nat × Nat => (fun (B9 : Nat) (B10 : Nat) => ([] : List (Nat × Itm))) s.1 s.2) (fun s : Nat × Nat => (fun (B9 : Nat) (B10 : Nat) => ([bxI B9 30 [.int .i64 F.S.ob, .slice vx1 F.S.s.length vk1, .slice vx2 F.S.t.length vk2, .slice vx3 F.S.e.length vk3, .slice vx4 F.S.m.length vk4], bxI B10 30 [.int .i64 F.T.ob, .slice vx5 F.T.s.length vk5, .slice vx6 F.T.t.length vk6, .slice vx7 F.T.e.length vk7, .slice vx8 F.T.m.length vk8]] : List Itm)) s.1 s.2) (sub_cons rfl (sub_cons rfl (sub_cons rfl (sub_cons rfl (sub_cons rfl (sub_cons rfl (sub_cons rfl sub_nil))))))) ?_ (fun HJ7 => ?_)
  · rintro ⟨B9, B10⟩
    simp only [updL, List.foldl_cons, List.foldl_nil, List.set_cons_succ, List.set_cons_zero, List.cons_append, List.nil_append]
    refine gk_then (hK6 _ _ ?_)
    refine gc_seq fun K8 hK8 => ?_
    refine gc_draw (by kernel_rfl) ?_
    refine gd_v (.free rfl) rfl rfl (qt_field (z := 0) (off := 4) rfl rfl Tryd.underlying30 rfl (by kernel_rfl) rfl) ?_
    refine gd_v (.free rfl) rfl rfl (qt_loadB (n := 3) rfl rfl Tryd.underlying23 rfl rfl rfl) ?_
    refine gd_v (.free rfl) rfl rfl (qt_field (z := 0) (off := 11) rfl rfl Tryd.underlying45 rfl (by kernel_rfl) rfl) ?_
    refine gd_v (.free rfl) rfl rfl (qt_loadB (n := 0) rfl rfl Tryd.underlying22 rfl rfl rfl) ?_
    refine gd_v (.free rfl) rfl rfl (qt_move rfl rfl) ?_
    refine gd_v (.free rfl) rfl rfl (qt_index rfl rfl rfl ulE1 szE1 (fun w M => lenA_rd h10) (by omega) (by omega)) ?_
    refine gd_v (.free rfl) rfl rfl (qt_load1 rfl rfl Tryd.underlying2 rfl (fun w M => mem_rd M h10) (by omega) (by omega)) ?_
    refine gd_v (.free rfl) rfl rfl (qt_index rfl rfl rfl ulE2 szE2 (fun w M => lenA_rd2 h8) (by omega) (by omega)) ?_
    refine gd_load2 (.free rfl) rfl rfl rfl rfl Tryd.underlying22 rfl h8 (by omega) (by omega) ?_
    intro ra9 rc9 hr9
    refine gd_v (.free rfl) rfl rfl (qt_move rfl rfl) ?_
    refine gd_v (.free rfl) rfl rfl (qt_field (z := 0) (off := 2) rfl rfl Tryd.underlying30 rfl (by kernel_rfl) rfl) ?_
    refine gd_v (.free rfl) rfl rfl (qt_loadB (n := 2) rfl rfl Tryd.underlying22 rfl rfl rfl) ?_
    refine gd_v (.free rfl) rfl rfl (qt_move rfl rfl) ?_
    refine gd_v (.free rfl) rfl rfl (qt_index rfl rfl rfl ulE1 szE1 (fun w M => lenA_rd h2) (by omega) (by omega)) ?_
    refine gd_v (.free rfl) rfl rfl (qt_load1 rfl rfl Tryd.underlying2 rfl (fun w M => mem_rd M h2) (by omega) (by omega)) ?_
    refine gd_v (.free rfl) rfl rfl (qt_index rfl rfl rfl ulE1 szE1 (fun w M => lenA_rd hx) (by omega) (by omega)) ?_
    refine gd_v (.free rfl) rfl rfl (qt_load1 rfl rfl Tryd.underlying2 rfl (fun w M => mem_rd M hx) (by omega) (by omega)) ?_
    refine gd_v (.free rfl) rfl rfl (qt_index rfl rfl rfl ulE1 szE1 (fun w M => lenA_rd hr9) (by omega) (by omega)) ?_
    refine gd_v (.free rfl) rfl rfl (qt_load1 rfl rfl Tryd.underlying2 rfl (fun w M => mem_rd M hr9) (by omega) (by omega)) ?_
    refine gd_v (.free rfl) rfl rfl (qt_field (z := 0) (off := 4) rfl rfl Tryd.underlying30 rfl (by kernel_rfl) rfl) ?_
    refine gd_v (.free rfl) rfl rfl (qt_loadB (n := 3) rfl rfl Tryd.underlying23 rfl rfl rfl) ?_
    refine gd_v (.free rfl) rfl rfl (qt_move rfl rfl) ?_
    refine gd_v (.free rfl) rfl rfl (qt_field (z := 0) (off := 1) rfl rfl Tryd.underlying30 rfl (by kernel_rfl) rfl) ?_
    refine gd_v (.free rfl) rfl rfl (qt_loadB (n := 2) rfl rfl Tryd.underlying22 rfl rfl rfl) ?_
    refine gd_v (.free rfl) rfl rfl (qt_move rfl rfl) ?_
    refine gd_v (.free rfl) rfl rfl (qt_index rfl rfl rfl ulE1 szE1 (fun w M => lenA_rd h1) (by omega) (by omega)) ?_
    refine gd_v (.free rfl) rfl rfl (qt_load1 rfl rfl Tryd.underlying2 rfl (fun w M => mem_rd M h1) (by omega) (by omega)) ?_
    refine gd_v (.free rfl) rfl rfl (qt_index rfl rfl rfl ulE1 szE1 (fun w M => lenA_rd hx) (by omega) (by omega)) ?_
    refine gd_v (.free rfl) rfl rfl (qt_load1 rfl rfl Tryd.underlying2 rfl (fun w M => mem_rd M hx) (by omega) (by omega)) ?_
    refine gd_v (.free rfl) rfl rfl (qt_index rfl rfl rfl ulE2 szE2 (fun w M => lenA_rd2 h8) (by omega) (by omega)) ?_
    refine gd_load2 (.free rfl) rfl rfl rfl rfl Tryd.underlying22 rfl h8 (by omega) (by omega) ?_
    intro ra10 rc10 hr10
    refine gd_v (.free rfl) rfl rfl (qt_field (z := 0) (off := 11) rfl rfl Tryd.underlying45 rfl (by kernel_rfl) rfl) ?_
    refine gd_v (.free rfl) rfl rfl (qt_loadB (n := 1) rfl rfl Tryd.underlying22 rfl rfl rfl) ?_
    refine gd_v (.free rfl) rfl rfl (qt_move rfl rfl) ?_
    refine gd_v (.free rfl) rfl rfl (qt_index rfl rfl rfl ulE1 szE1 (fun w M => lenA_rd e10) (by omega) (by omega)) ?_
    refine gd_v (.free rfl) rfl rfl (qt_load1 rfl rfl Tryd.underlying2 rfl (fun w M => mem_rd M e10) (by omega) (by omega)) ?_
    refine gd_v (.free rfl) rfl rfl (qt_index rfl rfl rfl ulE1 szE1 (fun w M => lenA_rd hr10) (by omega) (by omega)) ?_
    refine gd_v (.free rfl) rfl rfl (qt_load1 rfl rfl Tryd.underlying2 rfl (fun w M => mem_rd M hr10) (by omega) (by omega)) ?_
    refine gd_v (.free rfl) rfl rfl (qt_eql rfl rfl rfl) ?_
    refine gd_v (.free rfl) rfl rfl (qt_assign rfl rfl) ?_
    refine gd_nil ?_
    refine gk_then (hK8 _ _ ?_)
    refine gc_ret ?_
    refine ret_1 rfl rfl  (fun w M => ?_)
    rw [← bP_dec]; exact ⟨rfl, M.1⟩
  simp only [updL, List.foldl_cons, List.foldl_nil, List.set_cons_succ, List.set_cons_zero, List.cons_append, List.nil_append] at HJ7
  refine ga_start _ (fun w M => M) ?_
  refine ga_v 0 rfl (by kernel_rfl) (by kernel_rfl) (by kernel_rfl) (.free rfl) rfl rfl (qt_field (z := 4) (off := 0) rfl rfl Tryd.underlying45 rfl (by kernel_rfl) rfl) (fun _ _ _ h => h) ?_
  refine ga_v 1 rfl (by kernel_rfl) (by kernel_rfl) (by kernel_rfl) (.free rfl) rfl rfl (qt_loadP (n := 0) (z := 5) rfl rfl Tryd.underlying30 rfl (by kernel_rfl) rfl (by first | decide | exact Nat.le_refl _ | simp)) (fun _ _ _ h => h) ?_
  refine ga_v 2 rfl (by kernel_rfl) (by kernel_rfl) (by kernel_rfl) (.free rfl) rfl rfl (qt_field (z := 4) (off := 5) rfl rfl Tryd.underlying45 rfl (by kernel_rfl) rfl) (fun _ _ _ h => h) ?_
  refine ga_v 3 rfl (by kernel_rfl) (by kernel_rfl) (by kernel_rfl) (.free rfl) rfl rfl (qt_loadP (n := 0) (z := 5) rfl rfl Tryd.underlying30 rfl (by kernel_rfl) rfl (by first | decide | exact Nat.le_refl _ | simp)) (fun _ _ _ h => h) ?_
  refine ga_two 4 5 (by kernel_rfl) rfl rfl (.free rfl) (.free rfl) (fun K11 hK11 => ?_) (fun K11 hK11 => ?_)
  · refine go_alloc (z := (.agg #[.int .i64 0, .slice none 0 0, .slice none 0 0, .slice none 0 0, .slice none 0 0])) (cs := [.int .i64 0, .slice none 0 0, .slice none 0 0, .slice none 0 0, .slice none 0 0]) rfl rfl rfl (fun w => by kernel_rfl) rfl ?_
    intro B12
    refine hK11 _ _ (fun w M => (mem_take 2 M :)) ?_
    refine ga_op 5 (by kernel_rfl) rfl (.free rfl) fun K15 hK15 => ?_
    refine go_alloc (z := (.agg #[.int .i64 0, .slice none 0 0, .slice none 0 0, .slice none 0 0, .slice none 0 0])) (cs := [.int .i64 0, .slice none 0 0, .slice none 0 0, .slice none 0 0, .slice none 0 0]) rfl rfl rfl (fun w => by kernel_rfl) rfl ?_
    intro B14
    refine hK15 _ _ (fun w M => (mem_take 2 M :)) ?_
    refine ga_op 6 (by kernel_rfl) rfl (.free rfl) fun K16 hK16 => ?_
    refine go_storeS (n := 2) rfl rfl rfl rfl (by kernel_rfl) rfl rfl rfl ?_
    refine hK16 _ _ (fun w M => (mem_take 2 M :)) ?_
    refine ga_op 7 (by kernel_rfl) rfl (.free rfl) fun K17 hK17 => ?_
    refine go_storeS (n := 3) rfl rfl rfl rfl (by kernel_rfl) rfl rfl rfl ?_
    refine hK17 _ _ (fun w M => (mem_take 2 M :)) ?_
    refine ga_done (by kernel_rfl) ?_
    try simp only [List.nil_append, List.cons_append, List.append_assoc, List.set_cons_succ, List.set_cons_zero]
    refine gk_pickL [0, 0, 0, 0] ?_
    refine gk_sub ?hs_18 (HJ7 (_, _))
    case hs_18 => exact (sub_cons rfl (sub_cons rfl (sub_cons rfl (sub_cons rfl (sub_cons rfl (sub_cons rfl (sub_cons rfl (sub_cons rfl (sub_cons rfl sub_nil)))))))))
  · refine go_alloc (z := (.agg #[.int .i64 0, .slice none 0 0, .slice none 0 0, .slice none 0 0, .slice none 0 0])) (cs := [.int .i64 0, .slice none 0 0, .slice none 0 0, .slice none 0 0, .slice none 0 0]) rfl rfl rfl (fun w => by kernel_rfl) rfl ?_
    intro B19
    refine hK11 _ _ (fun w M => (mem_take 2 M :)) ?_
    refine ga_op 4 (by kernel_rfl) rfl (.free rfl) fun K22 hK22 => ?_
    refine go_alloc (z := (.agg #[.int .i64 0, .slice none 0 0, .slice none 0 0, .slice none 0 0, .slice none 0 0])) (cs := [.int .i64 0, .slice none 0 0, .slice none 0 0, .slice none 0 0, .slice none 0 0]) rfl rfl rfl (fun w => by kernel_rfl) rfl ?_
    intro B21
    refine hK22 _ _ (fun w M => (mem_take 2 M :)) ?_
    refine ga_op 6 (by kernel_rfl) rfl (.free rfl) fun K23 hK23 => ?_
    refine go_storeS (n := 3) rfl rfl rfl rfl (by kernel_rfl) rfl rfl rfl ?_
    refine hK23 _ _ (fun w M => (mem_take 2 M :)) ?_
    refine ga_op 7 (by kernel_rfl) rfl (.free rfl) fun K24 hK24 => ?_
    refine go_storeS (n := 2) rfl rfl rfl rfl (by kernel_rfl) rfl rfl rfl ?_
    refine hK24 _ _ (fun w M => (mem_take 2 M :)) ?_
    refine ga_done (by kernel_rfl) ?_
    try simp only [List.nil_append, List.cons_append, List.append_assoc, List.set_cons_succ, List.set_cons_zero]
    refine gk_pickL [0, 0, 1, 0] ?_
    refine gk_sub ?hs_25 (HJ7 (_, _))
    case hs_25 => exact (sub_cons rfl (sub_cons rfl (sub_cons rfl (sub_cons rfl (sub_cons rfl (sub_cons rfl (sub_cons rfl (sub_cons rfl (sub_cons rfl sub_nil)))))))))
end Go.Proofs.YtfnneogadciimaaDoor
