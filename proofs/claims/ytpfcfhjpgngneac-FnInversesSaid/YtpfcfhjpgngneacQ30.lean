import Derived.Test.YtpfcfhjpgngneacQ29
set_option linter.unusedSimpArgs false
set_option linter.unusedVariables false
set_option linter.unusedSectionVars false
namespace Go.Proofs.Ytpfcfhjpgngneac
open Go.RowKit
set_option maxHeartbeats 1000000 in
set_option maxRecDepth 100000 in
theorem l05Arrow_any (w : World) (v : Value) (c : Cat) (f : Int) (h : RdC w v c) :
  Calls Try.prog 127 #[v, .int .i64 f] w (RetB w (bP (0 ≤ f ∧ f < c.s.length))) := by
 have h0 := h
 obtain ⟨va, vb, vc, vd, ve, vf, vg, vh, rfl, h1, h2, h3, h4, _⟩ := h.lists
 go_enter Try.func127, Try.ntmps127
 refine gc_enter (N := 14) rfl (look_cons (k := 0) rfl (look_cons (k := 1) rfl (look_nil _))) ?_
 refine gc_sr fun K1 hK1 => ?_
 refine gop fun K3 hK3 => ?_
 refine go_box rfl rfl rfl rfl rfl ?_
 intro B2
 refine hK3 _ _ ?_
 refine gas ?_
 refine gnt (hK1 _ _ ?_)
 refine gc_sr fun K4 hK4 => ?_
 refine gm ?_
 refine gv (qt_geq rfl rfl rfl) ?_
 refine g_splitv (.free rfl) rfl rfl (qt_move rfl rfl) (fun hs1_2 => ?_) (fun hs1_2 => ?_)
 ·try simp only [sA] at hs1_2
  refine gvh (qt_move rfl rfl) ?_
  refine gvh (qtf Try.underlying27 (z := 0) (off := 1)) ?_
  refine gvh (qtl Try.underlying24 (n := 0)) ?_
  refine gvh (qln (fun w M => lenV_rd h1)) ?_
  refine gvh (qt_lss rfl rfl rfl) ?_
  refine gv (qt_pick_t rfl rfl rfl) ?_
  refine gas ?_
  refine gnt (hK4 _ _ ?_)
  refine gc_ret ?_
  refine ret_1 rfl rfl  (fun w M => ?_)
  rw [bP_dec]; exact ⟨by first | rfl | (congr 2; simp; omega), M.1⟩
 ·try simp only [sA] at hs1_2
  refine gsk ?_
  refine gsk ?_
  refine gsk ?_
  refine gsk ?_
  refine gsk ?_
  refine gv (qt_pick_f rfl rfl rfl) ?_
  refine gas ?_
  refine gnt (hK4 _ _ ?_)
  refine gc_ret ?_
  refine ret_1 rfl rfl  (fun w M => ?_)
  rw [bP_f (by omega)]; exact ⟨rfl, M.1⟩
set_option maxHeartbeats 1000000 in
set_option maxRecDepth 100000 in
theorem l05Code_any (w : World) (v : Value) (c : Cat) (f : Int) (h : RdC w v c) :
  Calls Try.prog 66 #[v, .int .i64 f] w (RetI w (arrErr c [f])) := by
 have h0 := h
 obtain ⟨va, vb, vc, vd, ve, vf, vg, vh, rfl, h1, h2, h3, h4, _⟩ := h.lists
 go_enter Try.func66, Try.ntmps66
 refine gc_enter (N := 14) rfl (look_cons (k := 0) rfl (look_cons (k := 1) rfl (look_nil _))) ?_
 refine gc_sr fun K1 hK1 => ?_
 refine gop fun K3 hK3 => ?_
 refine go_box rfl rfl rfl rfl rfl ?_
 intro B2
 refine hK3 _ _ ?_
 refine gas ?_
 refine gnt (hK1 _ _ ?_)
 refine gc_seq fun K4 hK4 => ?_
 refine gc_block ?_
 refine gc_sr fun K5 hK5 => ?_
 refine gv (qts Try.underlying27 (n := 0)) ?_
 refine g_q (.free rfl) rfl rfl (qt_call rfl Try.func84 rfl (by decide) rfl (fun w M => specIs_any w _ _ (mem_rdC M h0))) ?_
 refine gv (qt_not rfl rfl) ?_
 refine gas ?_
 refine gnt (hK5 _ _ ?_)
 refine gc_cond rfl (fun hc0 => ?_) (fun hc0 => ?_)
 ·try simp only [sA] at hc0
  refine gc_sr fun K6 hK6 => ?_
  refine gas ?_
  refine gnt (hK6 _ _ ?_)
  refine gc_ret ?_
  refine gk_block_ret ?_
  refine gk_then_ret ?_
  refine ret_1 rfl rfl  (fun w M => ?_)
  rw [arrErr_f hc0]; exact ⟨rfl, M.1⟩
 ·try simp only [sA] at hc0
  refine gc_sr fun K7 hK7 => ?_
  refine gv (qts Try.underlying27 (n := 0)) ?_
  refine gm ?_
  refine g_q (.free rfl) rfl rfl (qt_call rfl Try.func127 rfl (by decide) rfl (fun w M => l05Arrow_any w _ _ _ (mem_rdC M h0))) ?_
  refine gv (qt_not rfl rfl) ?_
  refine gas ?_
  refine gnt (hK7 _ _ ?_)
  refine gc_cond rfl (fun hc1 => ?_) (fun hc1 => ?_)
  ·try simp only [sA] at hc1
   refine gc_sr fun K8 hK8 => ?_
   refine gas ?_
   refine gnt (hK8 _ _ ?_)
   refine gc_ret ?_
   refine gk_block_ret ?_
   refine gk_then_ret ?_
   refine ret_1 rfl rfl  (fun w M => ?_)
   rw [arrErr_r hc0 (fun h => bP_f' hc1 (allP_one.1 h))]; exact ⟨rfl, M.1⟩
  ·try simp only [sA] at hc1
   refine gc_skip ?_
   refine gk_block ?_
   refine gk_then (hK4 _ _ ?_)
   refine gc_sr fun K9 hK9 => ?_
   refine gas ?_
   refine gnt (hK9 _ _ ?_)
   refine gc_ret ?_
   refine ret_1 rfl rfl  (fun w M => ?_)
   rw [arrErr_t hc0 (allP_one.2 (bP_t' hc1))]; exact ⟨rfl, M.1⟩
set_option maxHeartbeats 1000000 in
set_option maxRecDepth 100000 in
theorem has5_any (w : World) (u : Value) (xs : List Int) (x : Int) (hu : Rd w u xs) :
  Calls Try.prog 130 #[u, .int .i64 x] w (RetB w (decide (x ∈ xs))) := by
 obtain ⟨ua, uc, rfl⟩ := rd_form hu
 have hxl : xs.length ≤ 17592186044415 := by obtain ⟨_, _, _, hl, _⟩ := hu; exact hl
 go_enter Try.func130, Try.ntmps130
 refine gc_enter (N := 18) rfl (look_cons (k := 0) rfl (look_cons (k := 1) rfl (look_nil _))) ?_
 refine gc_sr fun K1 hK1 => ?_
 refine gas ?_
 refine gnt (hK1 _ _ ?_)
 refine gc_seq fun K2 hK2 => ?_
 refine gc_sr fun K3 hK3 => ?_
 refine gas ?_
 refine gnt (hK3 _ _ ?_)
 refine gc_block ?_
 try simp only [sL]
 refine gc_loopT ([(0, _), (1, _)] : Env) (fun s : Nat => (fun (k : Nat) => (([(5, .int .i64 (k : Int))] : Env), ([] : List (Nat × Itm)), k ≤ xs.length ∧ ∀ j : Nat, j < k → ¬ at0 xs (j : Int) = x, xs.length - k)) s) (0) (by repeat first | exact sub_nil | refine sub_cons rfl ?_) rfl ⟨Nat.zero_le _, fun j hj => absurd hj (by omega)⟩ ?_
 rintro k hinv KL4 hKL4
 simp only [sU, sL] at hinv hKL4 ⊢
 obtain ⟨hk, hno⟩ := hinv
 refine gc_seq fun K5 hK5 => ?_
 refine gc_sr fun K6 hK6 => ?_
 refine gm ?_
 refine gm ?_
 refine gv (qln (fun w M => lenV_rd hu)) ?_
 refine gv (qt_lss rfl rfl rfl) ?_
 refine gnt (hK6 _ _ ?_)
 refine gc_cond rfl (fun hc0 => ?_) (fun hc0 => ?_)
 ·try simp only [sA] at hc0
  refine gc_skip ?_
  refine gk_then (hK5 _ _ ?_)
  refine gc_seq fun K7 hK7 => ?_
  refine gc_block ?_
  refine gc_sr fun K8 hK8 => ?_
  refine gm ?_
  refine gm ?_
  refine gv (qti (fun w M => lenA_rd hu)) ?_
  refine gv (qtd (fun w M => mem_rd M hu)) ?_
  refine gm ?_
  refine gv (qt_eql rfl rfl rfl) ?_
  refine gnt (hK8 _ _ ?_)
  refine gc_cond rfl (fun hc1 => ?_) (fun hc1 => ?_)
  ·try simp only [sA] at hc1
   refine gc_sr fun K9 hK9 => ?_
   refine gas ?_
   refine gnt (hK9 _ _ ?_)
   refine gc_ret ?_
   refine gk_block_ret ?_
   refine gk_then_ret ?_
   refine gk_then_ret ?_
   refine gk_block_ret ?_
   refine gk_then_ret ?_
   refine ret_1 rfl rfl  (fun w M => ?_)
   rw [decide_eq_true (show x ∈ xs from hc1 ▸ at0_mem (by omega))]; exact ⟨rfl, M.1⟩
  ·try simp only [sA] at hc1
   refine gc_skip ?_
   refine gk_block ?_
   refine gk_then (hK7 _ _ ?_)
   refine gc_region ?_
   refine gm ?_
   refine gv (qt_add rfl rfl rfl (by omega)) ?_
   refine gas ?_
   refine g_nil ?_
   refine gk_then (gk_take 0 ?_)
   refine gk_sub ?hs_10 (hKL4 (k + 1) ?hi_10 ?hm_10)
   case hs_10 => repeat first | exact sub_nil | refine sub_cons rfl ?_
   case hi_10 => exact ⟨by omega, all_next hno hc1⟩
   case hm_10 => omega
 ·try simp only [sA] at hc0
  refine gc_exit ?_
  refine gk_then_exit ?_
  refine gk_then_exit ?_
  refine gk_block_hit ?_
  refine gk_then (hK2 _ _ ?_)
  refine gc_sr fun K11 hK11 => ?_
  refine gas ?_
  refine gnt (hK11 _ _ ?_)
  refine gc_ret ?_
  refine ret_1 rfl rfl  (fun w M => ?_)
  have hn : ¬ x ∈ xs := fun hm => by
   obtain ⟨j, hj, he⟩ := mem_atK hm
   exact hno j (by omega) he
  rw [decide_eq_false hn]; exact ⟨rfl, M.1⟩
set_option maxHeartbeats 1000000 in
set_option maxRecDepth 100000 in
theorem specRet_any (w : World) (v : Value) (c : Cat) (f : Int) (h : RdC w v c) (hS : ShapeP c) (f0 : 0 ≤ f) (f1 : f < c.s.length) :
  Calls Try.prog 128 #[v, .int .i64 f] w (RetL w (retL c f)) := by
 have h0 := h
 obtain ⟨va, vb, vc, vd, ve, vf, vg, vh, rfl, h1, h2, h3, h4, _⟩ := h.lists
 have hf := arrP hS f0 f1
 have e1 := hf.fs; have e2 := hf.ft; have e3 := hf.fm; have e4 := hf.s0; have e5 := hf.s1; have e6 := hf.t0; have e7 := hf.t1; have e8 := hf.row
 have hn40 := hS.n40; have htl := hS.tl; have hel := hS.el
 go_enter Try.func128, Try.ntmps128
 refine gc_enter (N := 64) rfl (look_cons (k := 0) rfl (look_cons (k := 1) rfl (look_nil _))) ?_
 refine gc_sr fun K1 hK1 => ?_
 refine gop fun K3 hK3 => ?_
 refine go_box rfl rfl rfl rfl rfl ?_
 intro B2
 refine hK3 _ _ ?_
 refine gas ?_
 refine gnt (hK1 _ _ ?_)
 refine gc_sr fun K4 hK4 => ?_
 refine gop fun K6 hK6 => ?_
 refine go_slice0 rfl rfl rfl Try.underlying24 ?_
 intro B5
 refine hK6 _ _ ?_
 refine gas ?_
 refine gnt (hK4 _ _ ?_)
 refine gc_seq fun K7 hK7 => ?_
 refine gc_sr fun K8 hK8 => ?_
 refine gas ?_
 refine gnt (hK8 _ _ ?_)
 refine gc_block ?_
 try simp only [sL]
 refine gc_loopT ([(0, _), (1, _), (2, _), (4, _)] : Env) (fun s : Nat × (Option Addr) × Nat => (fun (k : Nat) (a : Option Addr) (q : Nat) => (([(5, .slice a (solL (beh c f) (at0 c.e (at0 c.s f)) k).length q), (6, .int .i64 (k : Int))] : Env), ([(1, own1I (.slice a (solL (beh c f) (at0 c.e (at0 c.s f)) k).length q) (solL (beh c f) (at0 c.e (at0 c.s f)) k))] : List (Nat × Itm)), k ≤ c.s.length, c.s.length - k)) s.1 s.2.1 s.2.2) (0, _, _) (by repeat first | exact sub_nil | refine sub_cons rfl ?_) rfl (Nat.zero_le _) ?_
 rintro ⟨k, a, q⟩ hinv KL9 hKL9
 simp only [sU, sL] at hinv hKL9 ⊢
 have hk := hinv
 have hl := sol_len (beh c f) (at0 c.e (at0 c.s f)) k
 refine gc_seq fun K10 hK10 => ?_
 refine gc_sr fun K11 hK11 => ?_
 refine gm ?_
 refine gv (qtf Try.underlying27 (z := 0) (off := 1)) ?_
 refine gv (qtl Try.underlying24 (n := 0)) ?_
 refine gv (qln (fun w M => lenV_rd h1)) ?_
 refine gv (qt_lss rfl rfl rfl) ?_
 refine gnt (hK11 _ _ ?_)
 refine gc_cond rfl (fun hc0 => ?_) (fun hc0 => ?_)
 ·try simp only [sA] at hc0
  refine gc_skip ?_
  refine gk_then (hK10 _ _ ?_)
  refine gc_seq fun K12 hK12 => ?_
  refine gc_block ?_
  refine gc_seq fun K13 hK13 => ?_
  have hA := arrP hS (f := (k : Int)) (by omega) (by omega)
  have a1 := hA.fs; have a2 := hA.ft; have a3 := hA.fm; have a4 := hA.row
  refine gc_draw (by kernel_rfl) ?_
  refine gdv (qtf Try.underlying27 (z := 0) (off := 1)) ?_
  refine gdv (qtl Try.underlying24 (n := 0)) ?_
  refine gdv (qt_move rfl rfl) ?_
  refine gdv (qti (fun w M => lenA_rd h1)) ?_
  refine gdv (qtd (fun w M => mem_rd M h1)) ?_
  refine gdv (qtf Try.underlying27 (z := 0) (off := 2)) ?_
  refine gdv (qtl Try.underlying24 (n := 0)) ?_
  refine gdv (qt_move rfl rfl) ?_
  refine gdv (qti (fun w M => lenA_rd h2)) ?_
  refine gdv (qtd (fun w M => mem_rd M h2)) ?_
  refine gdv (qt_eql rfl rfl rfl) ?_
  refine gd_splitv (.free rfl) rfl rfl (qt_move rfl rfl) (fun hs5_11 => ?_) (fun hs5_11 => ?_)
  ·try simp only [sA] at hs5_11
   refine gdvh (qtf Try.underlying27 (z := 0) (off := 2)) ?_
   refine gdvh (qtl Try.underlying24 (n := 0)) ?_
   refine gdvh (qt_move rfl rfl) ?_
   refine gdvh (qti (fun w M => lenA_rd h2)) ?_
   refine gdvh (qtd (fun w M => mem_rd M h2)) ?_
   refine gdvh (qtf Try.underlying27 (z := 0) (off := 1)) ?_
   refine gdvh (qtl Try.underlying24 (n := 0)) ?_
   refine gdvh (qt_move rfl rfl) ?_
   refine gdvh (qti (fun w M => lenA_rd h1)) ?_
   refine gdvh (qtd (fun w M => mem_rd M h1)) ?_
   refine gdvh (qt_eql rfl rfl rfl) ?_
   refine gdv (qt_pick_t rfl rfl rfl) ?_
   refine gd_splitv (.free rfl) rfl rfl (qt_move rfl rfl) (fun hs5_24 => ?_) (fun hs5_24 => ?_)
   ·try simp only [sA] at hs5_24
    refine gdvh (qtf Try.underlying27 (z := 0) (off := 4)) ?_
    refine gdvh (qtl Try.underlying25 (n := 0)) ?_
    refine gdvh (qt_move rfl rfl) ?_
    refine gdvh (qti2 (fun w M => lenA_rd2 h4)) ?_
    refine gd_load2 (.held _ _ _ rfl rfl rfl) rfl rfl rfl rfl Try.underlying24 rfl h4 (by omega) (by omega) ?_
    intro ra14 rc14 hr14
    refine gdvh (qt_move rfl rfl) ?_
    refine gdvh (qti (fun w M => lenA_rd hr14)) ?_
    refine gdvh (qtd (fun w M => mem_rd M hr14)) ?_
    refine gdvh (qtf Try.underlying27 (z := 0) (off := 3)) ?_
    refine gdvh (qtl Try.underlying24 (n := 0)) ?_
    refine gdvh (qtf Try.underlying27 (z := 0) (off := 1)) ?_
    refine gdvh (qtl Try.underlying24 (n := 0)) ?_
    refine gdvh (qt_move rfl rfl) ?_
    refine gdvh (qti (fun w M => lenA_rd h1)) ?_
    refine gdvh (qtd (fun w M => mem_rd M h1)) ?_
    refine gdvh (qti (fun w M => lenA_rd h3)) ?_
    refine gdvh (qtd (fun w M => mem_rd M h3)) ?_
    refine gdvh (qt_eql rfl rfl rfl) ?_
    refine gdv (qt_pick_t rfl rfl rfl) ?_
    refine gd_nil ?_
    refine gk_then (hK13 _ _ ?_)
    refine gc_cond rfl (fun hc1 => ?_) (fun hc1 => ?_)
    ·try simp only [sA] at hc1
     refine gc_region ?_
     refine gm ?_
     refine gm ?_
     refine gop fun K16 hK16 => ?_
     refine go_slice1 rfl rfl rfl rfl Try.underlying24 ?_
     intro B15
     refine hK16 _ _ ?_
     refine gop fun K18 hK18 => ?_
     refine go_append (n := 1) (m := 2) rfl rfl rfl Try.underlying24 rfl rfl rfl rfl (by omega) ?_
     intro va17 vc17
     refine hK18 _ _ ?_
     refine gas ?_
     refine g_nil ?_
     refine gk_block ?_
     refine gk_then (hK12 _ _ ?_)
     refine gc_region ?_
     refine gm ?_
     refine gv (qt_add rfl rfl rfl (by omega)) ?_
     refine gas ?_
     refine g_nil ?_
     rw [sol_t ((ret_iff hS f0 f1 (g := (k : Int)) (by omega) (by omega)).1 ⟨hs5_11, hs5_24, hc1⟩)]
     refine gk_then (gk_take 2 ?_)
     refine gk_sub ?hs_19 (hKL9 (k + 1, _, _) ?hi_19 ?hm_19)
     case hs_19 => repeat first | exact sub_nil | refine sub_cons rfl ?_
     case hi_19 => omega
     case hm_19 => omega
    ·try simp only [sA] at hc1
     refine gc_skip ?_
     refine gk_block ?_
     refine gk_then (hK12 _ _ ?_)
     refine gc_region ?_
     refine gm ?_
     refine gv (qt_add rfl rfl rfl (by omega)) ?_
     refine gas ?_
     refine g_nil ?_
     rw [sol_f (fun h => hc1 ((ret_iff hS f0 f1 (g := (k : Int)) (by omega) (by omega)).2 h).2.2)]
     refine gk_then (gk_take 2 ?_)
     refine gk_sub ?hs_20 (hKL9 (k + 1, _, _) ?hi_20 ?hm_20)
     case hs_20 => repeat first | exact sub_nil | refine sub_cons rfl ?_
     case hi_20 => omega
     case hm_20 => omega
   ·try simp only [sA] at hs5_24
    refine gdsk ?_
    refine gdsk ?_
    refine gdsk ?_
    refine gdsk ?_
    refine gdsk ?_
    refine gdsk ?_
    refine gdsk ?_
    refine gdsk ?_
    refine gdsk ?_
    refine gdsk ?_
    refine gdsk ?_
    refine gdsk ?_
    refine gdsk ?_
    refine gdsk ?_
    refine gdsk ?_
    refine gdsk ?_
    refine gdsk ?_
    refine gdsk ?_
    refine gdv (qt_pick_f rfl rfl rfl) ?_
    refine gd_nil ?_
    refine gk_then (hK13 _ _ ?_)
    refine gc_cond_f rfl ?_
    refine gc_skip ?_
    refine gk_block ?_
    refine gk_then (hK12 _ _ ?_)
    refine gc_region ?_
    refine gm ?_
    refine gv (qt_add rfl rfl rfl (by omega)) ?_
    refine gas ?_
    refine g_nil ?_
    rw [sol_f (fun h => hs5_24 ((ret_iff hS f0 f1 (g := (k : Int)) (by omega) (by omega)).2 h).2.1)]
    refine gk_then (gk_take 2 ?_)
    refine gk_sub ?hs_21 (hKL9 (k + 1, _, _) ?hi_21 ?hm_21)
    case hs_21 => repeat first | exact sub_nil | refine sub_cons rfl ?_
    case hi_21 => omega
    case hm_21 => omega
  ·try simp only [sA] at hs5_11
   refine gdsk ?_
   refine gdsk ?_
   refine gdsk ?_
   refine gdsk ?_
   refine gdsk ?_
   refine gdsk ?_
   refine gdsk ?_
   refine gdsk ?_
   refine gdsk ?_
   refine gdsk ?_
   refine gdsk ?_
   refine gdv (qt_pick_f rfl rfl rfl) ?_
   refine gdv (qt_move rfl rfl) ?_
   refine gdsk ?_
   refine gdsk ?_
   refine gdsk ?_
   refine gdsk ?_
   refine gdsk ?_
   refine gdsk ?_
   refine gdsk ?_
   refine gdsk ?_
   refine gdsk ?_
   refine gdsk ?_
   refine gdsk ?_
   refine gdsk ?_
   refine gdsk ?_
   refine gdsk ?_
   refine gdsk ?_
   refine gdsk ?_
   refine gdsk ?_
   refine gdsk ?_
   refine gdv (qt_pick_f rfl rfl rfl) ?_
   refine gd_nil ?_
   refine gk_then (hK13 _ _ ?_)
   refine gc_cond_f rfl ?_
   refine gc_skip ?_
   refine gk_block ?_
   refine gk_then (hK12 _ _ ?_)
   refine gc_region ?_
   refine gm ?_
   refine gv (qt_add rfl rfl rfl (by omega)) ?_
   refine gas ?_
   refine g_nil ?_
   rw [sol_f (fun h => hs5_11 ((ret_iff hS f0 f1 (g := (k : Int)) (by omega) (by omega)).2 h).1)]
   refine gk_then (gk_take 2 ?_)
   refine gk_sub ?hs_22 (hKL9 (k + 1, _, _) ?hi_22 ?hm_22)
   case hs_22 => repeat first | exact sub_nil | refine sub_cons rfl ?_
   case hi_22 => omega
   case hm_22 => omega
 ·try simp only [sA] at hc0
  refine gc_exit ?_
  refine gk_then_exit ?_
  refine gk_then_exit ?_
  refine gk_block_hit ?_
  refine gk_then (hK7 _ _ ?_)
  refine gc_sr fun K23 hK23 => ?_
  refine gm ?_
  refine gas ?_
  refine gnt (hK23 _ _ ?_)
  refine gc_ret ?_
  refine ret_1 rfl rfl  (fun w M => ?_)
  obtain rfl : k = c.s.length := by omega
  exact ⟨_, rfl, mem_own1 (n := 1) M rfl, M.1⟩
set_option maxHeartbeats 1000000 in
set_option maxRecDepth 100000 in
theorem specSec_any (w : World) (v : Value) (c : Cat) (f : Int) (h : RdC w v c) (hS : ShapeP c) (f0 : 0 ≤ f) (f1 : f < c.s.length) :
  Calls Try.prog 129 #[v, .int .i64 f] w (RetL w (secL c f)) := by
 have h0 := h
 obtain ⟨va, vb, vc, vd, ve, vf, vg, vh, rfl, h1, h2, h3, h4, _⟩ := h.lists
 have hf := arrP hS f0 f1
 have e1 := hf.fs; have e2 := hf.ft; have e3 := hf.fm; have e4 := hf.s0; have e5 := hf.s1; have e6 := hf.t0; have e7 := hf.t1; have e8 := hf.row
 have hn40 := hS.n40; have htl := hS.tl; have hel := hS.el
 go_enter Try.func129, Try.ntmps129
 refine gc_enter (N := 64) rfl (look_cons (k := 0) rfl (look_cons (k := 1) rfl (look_nil _))) ?_
 refine gc_sr fun K1 hK1 => ?_
 refine gop fun K3 hK3 => ?_
 refine go_box rfl rfl rfl rfl rfl ?_
 intro B2
 refine hK3 _ _ ?_
 refine gas ?_
 refine gnt (hK1 _ _ ?_)
 refine gc_sr fun K4 hK4 => ?_
 refine gop fun K6 hK6 => ?_
 refine go_slice0 rfl rfl rfl Try.underlying24 ?_
 intro B5
 refine hK6 _ _ ?_
 refine gas ?_
 refine gnt (hK4 _ _ ?_)
 refine gc_seq fun K7 hK7 => ?_
 refine gc_sr fun K8 hK8 => ?_
 refine gas ?_
 refine gnt (hK8 _ _ ?_)
 refine gc_block ?_
 try simp only [sL]
 refine gc_loopT ([(0, _), (1, _), (2, _), (4, _)] : Env) (fun s : Nat × (Option Addr) × Nat => (fun (k : Nat) (a : Option Addr) (q : Nat) => (([(5, .slice a (solL (bef c f) (at0 c.e (at0 c.t f)) k).length q), (6, .int .i64 (k : Int))] : Env), ([(1, own1I (.slice a (solL (bef c f) (at0 c.e (at0 c.t f)) k).length q) (solL (bef c f) (at0 c.e (at0 c.t f)) k))] : List (Nat × Itm)), k ≤ c.s.length, c.s.length - k)) s.1 s.2.1 s.2.2) (0, _, _) (by repeat first | exact sub_nil | refine sub_cons rfl ?_) rfl (Nat.zero_le _) ?_
 rintro ⟨k, a, q⟩ hinv KL9 hKL9
 simp only [sU, sL] at hinv hKL9 ⊢
 have hk := hinv
 have hl := sol_len (bef c f) (at0 c.e (at0 c.t f)) k
 refine gc_seq fun K10 hK10 => ?_
 refine gc_sr fun K11 hK11 => ?_
 refine gm ?_
 refine gv (qtf Try.underlying27 (z := 0) (off := 1)) ?_
 refine gv (qtl Try.underlying24 (n := 0)) ?_
 refine gv (qln (fun w M => lenV_rd h1)) ?_
 refine gv (qt_lss rfl rfl rfl) ?_
 refine gnt (hK11 _ _ ?_)
 refine gc_cond rfl (fun hc0 => ?_) (fun hc0 => ?_)
 ·try simp only [sA] at hc0
  refine gc_skip ?_
  refine gk_then (hK10 _ _ ?_)
  refine gc_seq fun K12 hK12 => ?_
  refine gc_block ?_
  refine gc_seq fun K13 hK13 => ?_
  have hA := arrP hS (f := (k : Int)) (by omega) (by omega)
  have a1 := hA.fs; have a2 := hA.ft; have a3 := hA.fm; have a4 := hA.row
  refine gc_draw (by kernel_rfl) ?_
  refine gdv (qtf Try.underlying27 (z := 0) (off := 1)) ?_
  refine gdv (qtl Try.underlying24 (n := 0)) ?_
  refine gdv (qt_move rfl rfl) ?_
  refine gdv (qti (fun w M => lenA_rd h1)) ?_
  refine gdv (qtd (fun w M => mem_rd M h1)) ?_
  refine gdv (qtf Try.underlying27 (z := 0) (off := 2)) ?_
  refine gdv (qtl Try.underlying24 (n := 0)) ?_
  refine gdv (qt_move rfl rfl) ?_
  refine gdv (qti (fun w M => lenA_rd h2)) ?_
  refine gdv (qtd (fun w M => mem_rd M h2)) ?_
  refine gdv (qt_eql rfl rfl rfl) ?_
  refine gd_splitv (.free rfl) rfl rfl (qt_move rfl rfl) (fun hs5_11 => ?_) (fun hs5_11 => ?_)
  ·try simp only [sA] at hs5_11
   refine gdvh (qtf Try.underlying27 (z := 0) (off := 2)) ?_
   refine gdvh (qtl Try.underlying24 (n := 0)) ?_
   refine gdvh (qt_move rfl rfl) ?_
   refine gdvh (qti (fun w M => lenA_rd h2)) ?_
   refine gdvh (qtd (fun w M => mem_rd M h2)) ?_
   refine gdvh (qtf Try.underlying27 (z := 0) (off := 1)) ?_
   refine gdvh (qtl Try.underlying24 (n := 0)) ?_
   refine gdvh (qt_move rfl rfl) ?_
   refine gdvh (qti (fun w M => lenA_rd h1)) ?_
   refine gdvh (qtd (fun w M => mem_rd M h1)) ?_
   refine gdvh (qt_eql rfl rfl rfl) ?_
   refine gdv (qt_pick_t rfl rfl rfl) ?_
   refine gd_splitv (.free rfl) rfl rfl (qt_move rfl rfl) (fun hs5_24 => ?_) (fun hs5_24 => ?_)
   ·try simp only [sA] at hs5_24
    refine gdvh (qtf Try.underlying27 (z := 0) (off := 4)) ?_
    refine gdvh (qtl Try.underlying25 (n := 0)) ?_
    refine gdvh (qt_move rfl rfl) ?_
    refine gdvh (qti2 (fun w M => lenA_rd2 h4)) ?_
    refine gd_load2 (.held _ _ _ rfl rfl rfl) rfl rfl rfl rfl Try.underlying24 rfl h4 (by omega) (by omega) ?_
    intro ra14 rc14 hr14
    refine gdvh (qt_move rfl rfl) ?_
    refine gdvh (qti (fun w M => lenA_rd hr14)) ?_
    refine gdvh (qtd (fun w M => mem_rd M hr14)) ?_
    refine gdvh (qtf Try.underlying27 (z := 0) (off := 3)) ?_
    refine gdvh (qtl Try.underlying24 (n := 0)) ?_
    refine gdvh (qtf Try.underlying27 (z := 0) (off := 2)) ?_
    refine gdvh (qtl Try.underlying24 (n := 0)) ?_
    refine gdvh (qt_move rfl rfl) ?_
    refine gdvh (qti (fun w M => lenA_rd h2)) ?_
    refine gdvh (qtd (fun w M => mem_rd M h2)) ?_
    refine gdvh (qti (fun w M => lenA_rd h3)) ?_
    refine gdvh (qtd (fun w M => mem_rd M h3)) ?_
    refine gdvh (qt_eql rfl rfl rfl) ?_
    refine gdv (qt_pick_t rfl rfl rfl) ?_
    refine gd_nil ?_
    refine gk_then (hK13 _ _ ?_)
    refine gc_cond rfl (fun hc1 => ?_) (fun hc1 => ?_)
    ·try simp only [sA] at hc1
     refine gc_region ?_
     refine gm ?_
     refine gm ?_
     refine gop fun K16 hK16 => ?_
     refine go_slice1 rfl rfl rfl rfl Try.underlying24 ?_
     intro B15
     refine hK16 _ _ ?_
     refine gop fun K18 hK18 => ?_
     refine go_append (n := 1) (m := 2) rfl rfl rfl Try.underlying24 rfl rfl rfl rfl (by omega) ?_
     intro va17 vc17
     refine hK18 _ _ ?_
     refine gas ?_
     refine g_nil ?_
     refine gk_block ?_
     refine gk_then (hK12 _ _ ?_)
     refine gc_region ?_
     refine gm ?_
     refine gv (qt_add rfl rfl rfl (by omega)) ?_
     refine gas ?_
     refine g_nil ?_
     rw [sol_t ((sec_iff hS f0 f1 (g := (k : Int)) (by omega) (by omega)).1 ⟨hs5_11, hs5_24, hc1⟩)]
     refine gk_then (gk_take 2 ?_)
     refine gk_sub ?hs_19 (hKL9 (k + 1, _, _) ?hi_19 ?hm_19)
     case hs_19 => repeat first | exact sub_nil | refine sub_cons rfl ?_
     case hi_19 => omega
     case hm_19 => omega
    ·try simp only [sA] at hc1
     refine gc_skip ?_
     refine gk_block ?_
     refine gk_then (hK12 _ _ ?_)
     refine gc_region ?_
     refine gm ?_
     refine gv (qt_add rfl rfl rfl (by omega)) ?_
     refine gas ?_
     refine g_nil ?_
     rw [sol_f (fun h => hc1 ((sec_iff hS f0 f1 (g := (k : Int)) (by omega) (by omega)).2 h).2.2)]
     refine gk_then (gk_take 2 ?_)
     refine gk_sub ?hs_20 (hKL9 (k + 1, _, _) ?hi_20 ?hm_20)
     case hs_20 => repeat first | exact sub_nil | refine sub_cons rfl ?_
     case hi_20 => omega
     case hm_20 => omega
   ·try simp only [sA] at hs5_24
    refine gdsk ?_
    refine gdsk ?_
    refine gdsk ?_
    refine gdsk ?_
    refine gdsk ?_
    refine gdsk ?_
    refine gdsk ?_
    refine gdsk ?_
    refine gdsk ?_
    refine gdsk ?_
    refine gdsk ?_
    refine gdsk ?_
    refine gdsk ?_
    refine gdsk ?_
    refine gdsk ?_
    refine gdsk ?_
    refine gdsk ?_
    refine gdsk ?_
    refine gdv (qt_pick_f rfl rfl rfl) ?_
    refine gd_nil ?_
    refine gk_then (hK13 _ _ ?_)
    refine gc_cond_f rfl ?_
    refine gc_skip ?_
    refine gk_block ?_
    refine gk_then (hK12 _ _ ?_)
    refine gc_region ?_
    refine gm ?_
    refine gv (qt_add rfl rfl rfl (by omega)) ?_
    refine gas ?_
    refine g_nil ?_
    rw [sol_f (fun h => hs5_24 ((sec_iff hS f0 f1 (g := (k : Int)) (by omega) (by omega)).2 h).2.1)]
    refine gk_then (gk_take 2 ?_)
    refine gk_sub ?hs_21 (hKL9 (k + 1, _, _) ?hi_21 ?hm_21)
    case hs_21 => repeat first | exact sub_nil | refine sub_cons rfl ?_
    case hi_21 => omega
    case hm_21 => omega
  ·try simp only [sA] at hs5_11
   refine gdsk ?_
   refine gdsk ?_
   refine gdsk ?_
   refine gdsk ?_
   refine gdsk ?_
   refine gdsk ?_
   refine gdsk ?_
   refine gdsk ?_
   refine gdsk ?_
   refine gdsk ?_
   refine gdsk ?_
   refine gdv (qt_pick_f rfl rfl rfl) ?_
   refine gdv (qt_move rfl rfl) ?_
   refine gdsk ?_
   refine gdsk ?_
   refine gdsk ?_
   refine gdsk ?_
   refine gdsk ?_
   refine gdsk ?_
   refine gdsk ?_
   refine gdsk ?_
   refine gdsk ?_
   refine gdsk ?_
   refine gdsk ?_
   refine gdsk ?_
   refine gdsk ?_
   refine gdsk ?_
   refine gdsk ?_
   refine gdsk ?_
   refine gdsk ?_
   refine gdsk ?_
   refine gdv (qt_pick_f rfl rfl rfl) ?_
   refine gd_nil ?_
   refine gk_then (hK13 _ _ ?_)
   refine gc_cond_f rfl ?_
   refine gc_skip ?_
   refine gk_block ?_
   refine gk_then (hK12 _ _ ?_)
   refine gc_region ?_
   refine gm ?_
   refine gv (qt_add rfl rfl rfl (by omega)) ?_
   refine gas ?_
   refine g_nil ?_
   rw [sol_f (fun h => hs5_11 ((sec_iff hS f0 f1 (g := (k : Int)) (by omega) (by omega)).2 h).1)]
   refine gk_then (gk_take 2 ?_)
   refine gk_sub ?hs_22 (hKL9 (k + 1, _, _) ?hi_22 ?hm_22)
   case hs_22 => repeat first | exact sub_nil | refine sub_cons rfl ?_
   case hi_22 => omega
   case hm_22 => omega
 ·try simp only [sA] at hc0
  refine gc_exit ?_
  refine gk_then_exit ?_
  refine gk_then_exit ?_
  refine gk_block_hit ?_
  refine gk_then (hK7 _ _ ?_)
  refine gc_sr fun K23 hK23 => ?_
  refine gm ?_
  refine gas ?_
  refine gnt (hK23 _ _ ?_)
  refine gc_ret ?_
  refine ret_1 rfl rfl  (fun w M => ?_)
  obtain rfl : k = c.s.length := by omega
  exact ⟨_, rfl, mem_own1 (n := 1) M rfl, M.1⟩
set_option maxHeartbeats 1000000 in
set_option maxRecDepth 100000 in
theorem specInv5_any (w : World) (v : Value) (c : Cat) (f : Int) (h : RdC w v c) (hC : IsCat c) (f0 : 0 ≤ f) (f1 : f < c.s.length) :
  Calls Try.prog 67 #[v, .int .i64 f] w (RetI w (invN c f)) := by
 have h0 := h
 obtain ⟨va, vb, vc, vd, ve, vf, vg, vh, rfl, h1, h2, h3, h4, _⟩ := h.lists
 have hS := hC.toShapeP
 have hf := arrP hS f0 f1
 have e1 := hf.fs; have e2 := hf.ft; have e3 := hf.fm; have e4 := hf.s0; have e5 := hf.s1; have e6 := hf.t0; have e7 := hf.t1; have e8 := hf.row
 have hn40 := hS.n40; have htl := hS.tl; have hel := hS.el
 have hrl := sol_len (beh c f) (at0 c.e (at0 c.s f)) c.s.length
 rw [show solL (beh c f) (at0 c.e (at0 c.s f)) c.s.length = retL c f from rfl] at hrl
 go_enter Try.func67, Try.ntmps67
 refine gc_enter (N := 30) rfl (look_cons (k := 0) rfl (look_cons (k := 1) rfl (look_nil _))) ?_
 refine gc_sr fun K1 hK1 => ?_
 refine gop fun K3 hK3 => ?_
 refine go_box rfl rfl rfl rfl rfl ?_
 intro B2
 refine hK3 _ _ ?_
 refine gas ?_
 refine gnt (hK1 _ _ ?_)
 refine gc_seq fun K4 hK4 => ?_
 try simp only [sL]
 refine gc_cut ([(0, _), (1, _), (2, _), (4, _)] : Env) (fun s : (Option Addr) × Nat × (Option Addr) × Nat => (fun (a1 : Option Addr) (q1 : Nat) (a2 : Option Addr) (q2 : Nat) => ([(5, .slice a1 (retL c f).length q1), (6, .slice a2 (secL c f).length q2)] : Env)) s.1 s.2.1 s.2.2.1 s.2.2.2) (fun s : (Option Addr) × Nat × (Option Addr) × Nat => (fun (a1 : Option Addr) (q1 : Nat) (a2 : Option Addr) (q2 : Nat) => ([] : List (Nat × Itm))) s.1 s.2.1 s.2.2.1 s.2.2.2) (fun s : (Option Addr) × Nat × (Option Addr) × Nat => (fun (a1 : Option Addr) (q1 : Nat) (a2 : Option Addr) (q2 : Nat) => ([own1I (.slice a1 (retL c f).length q1) (retL c f), own1I (.slice a2 (secL c f).length q2) (secL c f)] : List Itm)) s.1 s.2.1 s.2.2.1 s.2.2.2) (by repeat first | exact sub_nil | refine sub_cons rfl ?_) ?_ (fun HJ5 => ?_)
 ·rintro ⟨a1, q1, a2, q2⟩
  simp only [sU, sL]
  refine gk_then (hK4 _ _ ?_)
  refine gc_seq fun K6 hK6 => ?_
  refine gc_sr fun K7 hK7 => ?_
  refine gas ?_
  refine gnt (hK7 _ _ ?_)
  refine gc_block ?_
  try simp only [sL]
  refine gc_loopT ([(0, _), (1, _), (2, _), (5, _), (6, _)] : Env) (fun s : Nat => (fun (k : Nat) => (([(7, .int .i64 (k : Int))] : Env), ([] : List (Nat × Itm)), k ≤ (retL c f).length ∧ ∀ j : Nat, j < k → ¬ at0 (retL c f) (j : Int) ∈ secL c f, (retL c f).length - k)) s) (0) (by repeat first | exact sub_nil | refine sub_cons rfl ?_) rfl ⟨Nat.zero_le _, fun j hj => absurd hj (by omega)⟩ ?_
  rintro k hinv KL8 hKL8
  simp only [sU, sL] at hinv hKL8 ⊢
  obtain ⟨hk, hno⟩ := hinv
  refine gc_seq fun K9 hK9 => ?_
  refine gc_sr fun K10 hK10 => ?_
  refine gm ?_
  refine gm ?_
  refine gv (qln (fun w M => lenV_own1 (n := 1) rfl M)) ?_
  refine gv (qt_lss rfl rfl rfl) ?_
  refine gnt (hK10 _ _ ?_)
  refine gc_cond rfl (fun hc0 => ?_) (fun hc0 => ?_)
  ·try simp only [sA] at hc0
   refine gc_skip ?_
   refine gk_then (hK9 _ _ ?_)
   refine gc_seq fun K11 hK11 => ?_
   refine gc_block ?_
   refine gc_sr fun K12 hK12 => ?_
   refine gm ?_
   refine gm ?_
   refine gm ?_
   refine gv (qti (fun w M => lenA_own1 (n := 1) rfl M)) ?_
   refine gv (qtd (fun w M => (mem_own1 (n := 1) M rfl).rd)) ?_
   refine g_q (.free rfl) rfl rfl (qt_call rfl Try.func130 rfl (by decide) rfl (fun w M => has5_any w _ _ _ ((mem_own1 (n := 2) M rfl).rd))) ?_
   refine gnt (hK12 _ _ ?_)
   refine gc_cond rfl (fun hc1 => ?_) (fun hc1 => ?_)
   ·try simp only [sA] at hc1
    refine gc_sr fun K13 hK13 => ?_
    refine gm ?_
    refine gm ?_
    refine gv (qti (fun w M => lenA_own1 (n := 1) rfl M)) ?_
    refine gv (qtd (fun w M => (mem_own1 (n := 1) M rfl).rd)) ?_
    refine gas ?_
    refine gnt (hK13 _ _ ?_)
    refine gc_ret ?_
    refine gk_block_ret ?_
    refine gk_then_ret ?_
    refine gk_then_ret ?_
    refine gk_block_ret ?_
    refine gk_then_ret ?_
    refine ret_1 rfl rfl  (fun w M => ?_)
    rw [invN_found hC f0 f1 (k := k) (by omega) hc1]; exact ⟨rfl, M.1⟩
   ·try simp only [sA] at hc1
    refine gc_skip ?_
    refine gk_block ?_
    refine gk_then (hK11 _ _ ?_)
    refine gc_region ?_
    refine gm ?_
    refine gv (qt_add rfl rfl rfl (by omega)) ?_
    refine gas ?_
    refine g_nil ?_
    refine gk_then (gk_take 3 ?_)
    refine gk_sub ?hs_14 (hKL8 (k + 1) ?hi_14 ?hm_14)
    case hs_14 => repeat first | exact sub_nil | refine sub_cons rfl ?_
    case hi_14 => exact ⟨by omega, all_next hno hc1⟩
    case hm_14 => omega
  ·try simp only [sA] at hc0
   refine gc_exit ?_
   refine gk_then_exit ?_
   refine gk_then_exit ?_
   refine gk_block_hit ?_
   refine gk_then (hK6 _ _ ?_)
   refine gc_sr fun K15 hK15 => ?_
   refine gas ?_
   refine gnt (hK15 _ _ ?_)
   refine gc_ret ?_
   refine ret_1 rfl rfl  (fun w M => ?_)
   obtain rfl : k = (retL c f).length := by omega
   rw [invN_none hno]; exact ⟨rfl, M.1⟩
 simp only [sU, sL] at HJ5
 refine ga_start _ (fun w M => M) ?_
 refine gav 0 rfl (qts Try.underlying27 (n := 0)) ?_
 refine gav 1 rfl (qt_move rfl rfl) ?_
 refine gav 3 rfl (qts Try.underlying27 (n := 0)) ?_
 refine gav 4 rfl (qt_move rfl rfl) ?_
 refine gao 2 fun K17 hK17 => ?_
 refine go_callL rfl rfl rfl Try.func128 rfl (by decide) rfl (fun w M => specRet_any w _ _ _ (mem_rdC M h0) (by first | assumption | omega) (by first | assumption | omega) (by first | assumption | omega)) ?_
 intro va16 vc16
 refine hK17 _ _ (fun w M => (mem_take 1 M :)) ?_
 refine gao 5 fun K19 hK19 => ?_
 refine go_callL rfl rfl rfl Try.func129 rfl (by decide) rfl (fun w M => specSec_any w _ _ _ (mem_rdC M h0) (by first | assumption | omega) (by first | assumption | omega) (by first | assumption | omega)) ?_
 intro va18 vc18
 refine hK19 _ _ (fun w M => (mem_take 1 M :)) ?_
 refine gav 6 rfl (qt_assign rfl rfl) ?_
 refine gav 7 rfl (qt_assign rfl rfl) ?_
 refine ga_done (by kernel_rfl) ?_
 refine gk_pickL [0, 0, 0] ?_
 refine gk_sub ?hs_20 (HJ5 (_, _, _, _))
 case hs_20 => repeat first | exact sub_nil | refine sub_cons rfl ?_
end Go.Proofs.Ytpfcfhjpgngneac
set_option linter.unusedSimpArgs false
set_option linter.unusedVariables false
set_option linter.unusedSectionVars false
namespace Go.Proofs.Ytpfcfhjpgngneac
open Go.RowKit
set_option maxHeartbeats 1000000 in
set_option maxRecDepth 100000 in
theorem spec_InverseArrow (w : World) (v : Value) (c : Cat) (f : Int) (h : RdC w v c) :
  Calls Try.prog 14 #[v, .int .i64 f] w (RetII w (fInverseArrow c f).1 (fInverseArrow c f).2) := by
 have h0 := h
 obtain ⟨va, vb, vc, vd, ve, vf, vg, vh, rfl, h1, h2, h3, h4, _⟩ := h.lists
 go_enter Try.func14, Try.ntmps14
 refine gc_enter (N := 20) rfl (look_cons (k := 0) rfl (look_cons (k := 1) rfl (look_nil _))) ?_
 refine gc_sr fun K1 hK1 => ?_
 refine gop fun K3 hK3 => ?_
 refine go_box rfl rfl rfl rfl rfl ?_
 intro B2
 refine hK3 _ _ ?_
 refine gas ?_
 refine gas ?_
 refine gnt (hK1 _ _ ?_)
 refine gc_sr fun K4 hK4 => ?_
 refine gv (qts Try.underlying27 (n := 0)) ?_
 refine gm ?_
 refine g_q (.free rfl) rfl rfl (qt_call rfl Try.func66 rfl (by decide) rfl (fun w M => l05Code_any w _ _ _ (mem_rdC M h0))) ?_
 refine gas ?_
 refine gnt (hK4 _ _ ?_)
 refine gc_seq fun K5 hK5 => ?_
 refine gc_sr fun K6 hK6 => ?_
 refine gm ?_
 refine gv (qt_neq rfl rfl rfl) ?_
 refine gnt (hK6 _ _ ?_)
 refine gc_cond rfl (fun hc0 => ?_) (fun hc0 => ?_)
 ·try simp only [sA] at hc0
  refine gc_sr fun K7 hK7 => ?_
  refine gm ?_
  refine gas ?_
  refine gas ?_
  refine gnt (hK7 _ _ ?_)
  refine gc_ret ?_
  refine gk_then_ret ?_
  refine ret_2 rfl rfl rfl  (fun w M => ?_)
  rw [InverseArrow_e hc0]; exact ⟨rfl, M.1⟩
 ·try simp only [sA] at hc0
  refine gc_skip ?_
  refine gk_then (hK5 _ _ ?_)
  refine gc_seq fun K8 hK8 => ?_
  have hE := arrErr_0 hc0
  have hC := hE.1
  have hS := hC.toShapeP
  have hf := allP_one.1 hE.2
  have f0 := hf.1; have f1 := hf.2
  refine gc_region ?_
  refine gv (qts Try.underlying27 (n := 0)) ?_
  refine gm ?_
  refine g_q (.free rfl) rfl rfl (qt_call rfl Try.func67 rfl (by decide) rfl (fun w M => specInv5_any w _ _ _ (mem_rdC M h0) (by first | assumption | omega) (by first | assumption | omega) (by first | assumption | omega))) ?_
  refine gas ?_
  refine gnt (hK8 _ _ ?_)
  refine gc_seq fun K9 hK9 => ?_
  refine gc_sr fun K10 hK10 => ?_
  refine gm ?_
  refine gv (qt_lss rfl rfl rfl) ?_
  refine gnt (hK10 _ _ ?_)
  refine gc_cond rfl (fun hc1 => ?_) (fun hc1 => ?_)
  ·try simp only [sA] at hc1
   refine gc_sr fun K11 hK11 => ?_
   refine gas ?_
   refine gas ?_
   refine gnt (hK11 _ _ ?_)
   refine gc_ret ?_
   refine gk_then_ret ?_
   refine ret_2 rfl rfl rfl  (fun w M => ?_)
   rw [InverseArrow_n hc0 (by rw [inv_dec]; simp; omega)]; exact ⟨rfl, M.1⟩
  ·try simp only [sA] at hc1
   refine gc_skip ?_
   refine gk_then (hK9 _ _ ?_)
   refine gc_sr fun K12 hK12 => ?_
   refine gm ?_
   refine gas ?_
   refine gas ?_
   refine gnt (hK12 _ _ ?_)
   refine gc_ret ?_
   refine ret_2 rfl rfl rfl  (fun w M => ?_)
   rw [InverseArrow_t hc0 (by rw [inv_dec]; simp; omega)]; exact ⟨rfl, M.1⟩
end Go.Proofs.Ytpfcfhjpgngneac
set_option linter.unusedSimpArgs false
set_option linter.unusedVariables false
set_option linter.unusedSectionVars false
namespace Go.Proofs.Ytpfcfhjpgngneac
open Go.RowKit
theorem mem_bxlo {w0 w : World} {is : List Itm} {n B : Nat} {t : TypeId} {cs : List Value} (M : Mem w0 w is) (h : is[n]? = some (bxI B t cs)) : Bx w B t cs ∧ w0.heap.size ≤ B := by
 obtain ⟨S, hS, hb, hs⟩ := mem_get M h
 exact ⟨hb, hS _ hs⟩
theorem bxV_kept {w0 w w' : World} {is : List Itm} {n B : Nat} {t : TypeId} {cs : List Value} (M : Mem w0 w is) (h : is[n]? = some (bxI B t cs)) (hk : ∀ k, w0.heap.size ≤ k → k < w.heap.size → w'.heap[k]? = w.heap[k]?) : BxV w' B t (.agg cs.toArray) := by
 obtain ⟨hb, hl⟩ := mem_bxlo M h
 exact (hk B hl (bx_lt hb)).trans hb
set_option maxHeartbeats 1000000 in
set_option maxRecDepth 100000 in
theorem before1_any (w : World) (g : Int) (B : Nat) (v : Value) (c : Cat) (h : RdC w v c) (hS : ShapeP c) (hbB : BxV w B 27 v) (D : Nat) (f : Int) (hbD : BxV w D 2 (.agg [.int .i64 f].toArray)) (f0 : 0 ≤ f) (f1 : f < c.s.length) (g0 : 0 ≤ g) (g1 : g < c.s.length) :
  Calls Try.prog 144 #[.int .i64 g, .pointer (some ⟨B, 0, none⟩), .pointer (some ⟨D, 0, none⟩)] w (RetI w (bef c f g)) := by
 have h0 := h
 obtain ⟨va, vb, vc, vd, ve, vf, vg, vh, rfl, h1, h2, h3, h4, _⟩ := h.lists
 have hA := arrP hS f0 f1
 have hB := arrP hS g0 g1
 have a3 := hA.fm; have a4 := hA.row; have b3 := hB.fm; have b4 := hB.row
 go_enter Try.func144, Try.ntmps144
 refine gc_enter (N := 9) rfl (look_cons (k := 0) rfl (look_cons (k := 1) rfl (look_cons (k := 2) rfl (look_nil _)))) ?_
 refine gc_sr fun K1 hK1 => ?_
 refine gas ?_
 refine gnt (hK1 _ _ ?_)
 refine gc_sr fun K2 hK2 => ?_
 refine gv (qt_loadRS hbB rfl rfl Try.underlying27 rfl (by kernel_rfl)) ?_
 refine gm ?_
 refine gv (qt_loadRB hbD rfl rfl Try.underlying2 rfl rfl) ?_
 refine g_q (.free rfl) rfl rfl (qt_call rfl Try.func75 rfl (by decide) rfl (fun w M => then_any w _ _ _ _ (mem_rdC M h0) (by first | assumption | omega) (by first | assumption | omega) (by first | assumption | omega) (by first | assumption | omega))) ?_
 refine gas ?_
 refine gnt (hK2 _ _ ?_)
 refine gc_ret ?_
 refine ret_1 rfl rfl  (fun w M => ?_)
 exact ⟨rfl, M.1⟩
set_option maxHeartbeats 1000000 in
set_option maxRecDepth 100000 in
theorem before_any (w : World) (W0 : World) (v : Value) (c : Cat) (f : Int) (h : RdC W0 v c) (hB : Below W0.heap.size W0 w) (hS : ShapeP c) (f0 : 0 ≤ f) (f1 : f < c.s.length) :
  Calls Try.prog 91 #[v, .int .i64 f] w (RetFv W0 w (SpI c.s.length (bef c f))) := by
 have h0 := h
 obtain ⟨va, vb, vc, vd, ve, vf, vg, vh, rfl, h1, h2, h3, h4, _⟩ := h.lists
 go_enter Try.func91, Try.ntmps91
 refine gc_enter (N := 6) rfl (look_cons (k := 0) rfl (look_cons (k := 1) rfl (look_nil _))) ?_
 refine gc_sr fun K1 hK1 => ?_
 refine gop fun K3 hK3 => ?_
 refine go_box rfl rfl rfl rfl rfl ?_
 intro B2
 refine hK3 _ _ ?_
 refine gop fun K5 hK5 => ?_
 refine go_box rfl rfl rfl rfl rfl ?_
 intro B4
 refine hK5 _ _ ?_
 refine gas ?_
 refine gnt (hK1 _ _ ?_)
 refine gc_sr fun K6 hK6 => ?_
 refine gv (qt_makeF rfl rfl) ?_
 refine gas ?_
 refine gnt (hK6 _ _ ?_)
 refine gc_ret ?_
 refine ret_1 rfl rfl  (fun w M => ?_)
 exact ⟨_, rfl, fun w' hb hk => ⟨⟨_, _, _, rfl⟩, fun g g0 g1 => callsV_f (bnd := []) (vs := [_]) (caps := [_, _]) Try.func144 rfl (by decide) (before1_any w' g _ _ c (rdC_below hb h0) hS (bxV_kept (n := 0) M rfl hk) _ f (bxV_kept (n := 1) M rfl hk) f0 f1 g0 g1)⟩, M.1⟩
set_option maxHeartbeats 1000000 in
set_option maxRecDepth 100000 in
theorem behind1_any (w : World) (g : Int) (B : Nat) (v : Value) (c : Cat) (h : RdC w v c) (hS : ShapeP c) (hbB : BxV w B 27 v) (D : Nat) (f : Int) (hbD : BxV w D 2 (.agg [.int .i64 f].toArray)) (f0 : 0 ≤ f) (f1 : f < c.s.length) (g0 : 0 ≤ g) (g1 : g < c.s.length) :
  Calls Try.prog 175 #[.int .i64 g, .pointer (some ⟨B, 0, none⟩), .pointer (some ⟨D, 0, none⟩)] w (RetI w (beh c f g)) := by
 have h0 := h
 obtain ⟨va, vb, vc, vd, ve, vf, vg, vh, rfl, h1, h2, h3, h4, _⟩ := h.lists
 have hA := arrP hS f0 f1
 have hB := arrP hS g0 g1
 have a3 := hA.fm; have a4 := hA.row; have b3 := hB.fm; have b4 := hB.row
 go_enter Try.func175, Try.ntmps175
 refine gc_enter (N := 9) rfl (look_cons (k := 0) rfl (look_cons (k := 1) rfl (look_cons (k := 2) rfl (look_nil _)))) ?_
 refine gc_sr fun K1 hK1 => ?_
 refine gas ?_
 refine gnt (hK1 _ _ ?_)
 refine gc_sr fun K2 hK2 => ?_
 refine gv (qt_loadRS hbB rfl rfl Try.underlying27 rfl (by kernel_rfl)) ?_
 refine gv (qt_loadRB hbD rfl rfl Try.underlying2 rfl rfl) ?_
 refine gm ?_
 refine g_q (.free rfl) rfl rfl (qt_call rfl Try.func75 rfl (by decide) rfl (fun w M => then_any w _ _ _ _ (mem_rdC M h0) (by first | assumption | omega) (by first | assumption | omega) (by first | assumption | omega) (by first | assumption | omega))) ?_
 refine gas ?_
 refine gnt (hK2 _ _ ?_)
 refine gc_ret ?_
 refine ret_1 rfl rfl  (fun w M => ?_)
 exact ⟨rfl, M.1⟩
set_option maxHeartbeats 1000000 in
set_option maxRecDepth 100000 in
theorem behind_any (w : World) (W0 : World) (v : Value) (c : Cat) (f : Int) (h : RdC W0 v c) (hB : Below W0.heap.size W0 w) (hS : ShapeP c) (f0 : 0 ≤ f) (f1 : f < c.s.length) :
  Calls Try.prog 131 #[v, .int .i64 f] w (RetFv W0 w (SpI c.s.length (beh c f))) := by
 have h0 := h
 obtain ⟨va, vb, vc, vd, ve, vf, vg, vh, rfl, h1, h2, h3, h4, _⟩ := h.lists
 go_enter Try.func131, Try.ntmps131
 refine gc_enter (N := 6) rfl (look_cons (k := 0) rfl (look_cons (k := 1) rfl (look_nil _))) ?_
 refine gc_sr fun K1 hK1 => ?_
 refine gop fun K3 hK3 => ?_
 refine go_box rfl rfl rfl rfl rfl ?_
 intro B2
 refine hK3 _ _ ?_
 refine gop fun K5 hK5 => ?_
 refine go_box rfl rfl rfl rfl rfl ?_
 intro B4
 refine hK5 _ _ ?_
 refine gas ?_
 refine gnt (hK1 _ _ ?_)
 refine gc_sr fun K6 hK6 => ?_
 refine gv (qt_makeF rfl rfl) ?_
 refine gas ?_
 refine gnt (hK6 _ _ ?_)
 refine gc_ret ?_
 refine ret_1 rfl rfl  (fun w M => ?_)
 exact ⟨_, rfl, fun w' hb hk => ⟨⟨_, _, _, rfl⟩, fun g g0 g1 => callsV_f (bnd := []) (vs := [_]) (caps := [_, _]) Try.func175 rfl (by decide) (behind1_any w' g _ _ c (rdC_below hb h0) hS (bxV_kept (n := 0) M rfl hk) _ f (bxV_kept (n := 1) M rfl hk) f0 f1 g0 g1)⟩, M.1⟩
set_option maxHeartbeats 1000000 in
set_option maxRecDepth 100000 in
theorem solutions_any (w : World) (v : Value) (c : Cat) (u : Value) (φ : Int → Int) (x : Int) (h : RdC w v c) (hn40 : c.s.length ≤ 40) (hu : ∀ w', Below w.heap.size w w' → SpI c.s.length φ w' u) :
  Calls Try.prog 90 #[v, u, .int .i64 x] w (RetL w (solL φ x c.s.length)) := by
 have h0 := h
 obtain ⟨va, vb, vc, vd, ve, vf, vg, vh, rfl, h1, h2, h3, h4, _⟩ := h.lists
 go_enter Try.func90, Try.ntmps90
 refine gc_enter (N := 25) rfl (look_cons (k := 0) rfl (look_cons (k := 1) rfl (look_cons (k := 2) rfl (look_nil _)))) ?_
 refine gc_sr fun K1 hK1 => ?_
 refine gop fun K3 hK3 => ?_
 refine go_box rfl rfl rfl rfl rfl ?_
 intro B2
 refine hK3 _ _ ?_
 refine gas ?_
 refine gnt (hK1 _ _ ?_)
 refine gc_sr fun K4 hK4 => ?_
 refine gas ?_
 refine gnt (hK4 _ _ ?_)
 refine gc_seq fun K5 hK5 => ?_
 refine gc_seq fun K6 hK6 => ?_
 refine gc_nilS ?_
 refine gc_region ?_
 refine gv (qts Try.underlying27 (n := 0)) ?_
 refine g_q (.free rfl) rfl rfl (qt_call rfl Try.func88 rfl (by decide) rfl (fun w M => arrows_any w _ _ (mem_rdC M h0))) ?_
 refine gm ?_
 refine gnt (hK6 _ _ ?_)
 refine gc_block ?_
 try simp only [sL]
 refine gc_loopT ([(0, _), (1, _), (2, _), (3, _), (6, _), (10, _)] : Env) (fun s : Nat × (Option Addr) × Nat => (fun (k : Nat) (a : Option Addr) (q : Nat) => (([(7, .slice a (solL φ x k).length q), (11, .int .i64 (k : Int))] : Env), ([(1, own1I (.slice a (solL φ x k).length q) (solL φ x k))] : List (Nat × Itm)), k ≤ c.s.length, c.s.length - k)) s.1 s.2.1 s.2.2) (0, _, _) (by repeat first | exact sub_nil | refine sub_cons rfl ?_) rfl (Nat.zero_le _) ?_
 rintro ⟨k, a, q⟩ hinv KL7 hKL7
 simp only [sU, sL] at hinv hKL7 ⊢
 have hk := hinv
 have hl := sol_len φ x k
 refine gc_sr fun K8 hK8 => ?_
 refine gv (qt_lss rfl rfl rfl) ?_
 refine gnt (hK8 _ _ ?_)
 refine gc_seq fun K9 hK9 => ?_
 refine gc_cond rfl (fun hc0 => ?_) (fun hc0 => ?_)
 ·try simp only [sA] at hc0
  refine gc_skip ?_
  refine gk_then (hK9 _ _ ?_)
  refine gc_seq fun K10 hK10 => ?_
  refine gc_block ?_
  refine gc_sr fun K11 hK11 => ?_
  refine gm ?_
  refine gas ?_
  refine gnt (hK11 _ _ ?_)
  refine gc_sr fun K12 hK12 => ?_
  refine gm ?_
  refine gm ?_
  refine g_q (.free rfl) rfl rfl (qt_callV rfl rfl rfl (fun w M => (hu w M.1).2 (k : Int) (by omega) (by omega))) ?_
  refine gm ?_
  refine gv (qt_eql rfl rfl rfl) ?_
  refine gnt (hK12 _ _ ?_)
  refine gc_cond rfl (fun hc1 => ?_) (fun hc1 => ?_)
  ·try simp only [sA] at hc1
   refine gc_region ?_
   refine gm ?_
   refine gm ?_
   refine gop fun K14 hK14 => ?_
   refine go_slice1 rfl rfl rfl rfl Try.underlying24 ?_
   intro B13
   refine hK14 _ _ ?_
   refine gop fun K16 hK16 => ?_
   refine go_append (n := 1) (m := 2) rfl rfl rfl Try.underlying24 rfl rfl rfl rfl (by omega) ?_
   intro va15 vc15
   refine hK16 _ _ ?_
   refine gas ?_
   refine g_nil ?_
   refine gk_block ?_
   refine gk_then (hK10 _ _ ?_)
   refine gc_region ?_
   refine gv (qt_add rfl rfl rfl (by omega)) ?_
   refine gm ?_
   refine g_nil ?_
   rw [sol_t hc1]
   refine gk_then (gk_take 2 ?_)
   refine gk_sub ?hs_17 (hKL7 (k + 1, _, _) ?hi_17 ?hm_17)
   case hs_17 => repeat first | exact sub_nil | refine sub_cons rfl ?_
   case hi_17 => omega
   case hm_17 => omega
  ·try simp only [sA] at hc1
   refine gc_skip ?_
   refine gk_block ?_
   refine gk_then (hK10 _ _ ?_)
   refine gc_region ?_
   refine gv (qt_add rfl rfl rfl (by omega)) ?_
   refine gm ?_
   refine g_nil ?_
   rw [sol_f hc1]
   refine gk_then (gk_take 2 ?_)
   refine gk_sub ?hs_18 (hKL7 (k + 1, _, _) ?hi_18 ?hm_18)
   case hs_18 => repeat first | exact sub_nil | refine sub_cons rfl ?_
   case hi_18 => omega
   case hm_18 => omega
 ·try simp only [sA] at hc0
  refine gc_exit ?_
  refine gk_then_exit ?_
  refine gk_then_exit ?_
  refine gk_block_hit ?_
  refine gk_then (hK5 _ _ ?_)
  refine gc_sr fun K19 hK19 => ?_
  refine gm ?_
  refine gas ?_
  refine gnt (hK19 _ _ ?_)
  refine gc_ret ?_
  refine ret_1 rfl rfl  (fun w M => ?_)
  obtain rfl : k = c.s.length := by omega
  exact ⟨_, rfl, mem_own1 (n := 1) M rfl, M.1⟩
end Go.Proofs.Ytpfcfhjpgngneac
