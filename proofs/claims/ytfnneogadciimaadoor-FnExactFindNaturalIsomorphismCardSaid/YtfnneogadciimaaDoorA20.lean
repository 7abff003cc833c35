import Derived.Test.YtfnneogadciimaaDoorA6
import Derived.Test.YtfnneogadciimaaDoorA19
import Derived.Test.YtfnneogadciimaaDoorA9
set_option linter.unusedSimpArgs false
set_option linter.unusedVariables false
set_option linter.unusedSectionVars false
namespace Go.Proofs.YtfnneogadciimaaDoor
open Go.RowKit
set_option maxHeartbeats 1000000 in
set_option maxRecDepth 100000 in
theorem has5_any (w : World) (u : Value) (xs : List Int) (x : Int) (hu : Rd w u xs) :
  Calls Tryd.prog 135 #[u, .int .i64 x] w (RetB w (decide (x ∈ xs))) := by
 obtain ⟨ua, uc, rfl⟩ := rd_form hu
 have hxl : xs.length ≤ 17592186044415 := by obtain ⟨_, _, _, hl, _⟩ := hu; exact hl
 go_enter Tryd.func135, Tryd.ntmps135
 refine gc_enter (N := 18) rfl (look_cons (k := 0) rfl (look_cons (k := 1) rfl (look_nil _))) ?_
 refine gc_sr fun K1 hK1 => ?_
 refine gas ?_
 refine gnt (hK1 _ _ ?_)
 refine gc_seq fun K2 hK2 => ?_
 refine gc_sr fun K3 hK3 => ?_
 refine gas ?_
 refine gnt (hK3 _ _ ?_)
 refine gc_block ?_
 try simp only [sL]
 refine gc_loopT ([(0, _), (1, _)] : Env) (fun s : Nat => (fun (k : Nat) => (([(5, .int .i64 (k : Int))] : Env), ([] : List (Nat × Itm)), k ≤ xs.length ∧ ∀ j : Nat, j < k → ¬ at0 xs (j : Int) = x, xs.length - k)) s) (0) (by repeat first | exact sub_nil | refine sub_cons rfl ?_) rfl ⟨Nat.zero_le _, fun j hj => absurd hj (by omega)⟩ ?_
 rintro k hinv KL4 hKL4
 simp only [sU, sL] at hinv hKL4 ⊢
 obtain ⟨hk, hno⟩ := hinv
 refine gc_seq fun K5 hK5 => ?_
 refine gc_sr fun K6 hK6 => ?_
 refine gm ?_
 refine gm ?_
 refine gv (qln (fun w M => lenV_rd hu)) ?_
 refine gv (qt_lss rfl rfl rfl) ?_
 refine gnt (hK6 _ _ ?_)
 refine gc_cond rfl (fun hc0 => ?_) (fun hc0 => ?_)
 ·try simp only [sA] at hc0
  refine gc_skip ?_
  refine gk_then (hK5 _ _ ?_)
  refine gc_seq fun K7 hK7 => ?_
  refine gc_block ?_
  refine gc_sr fun K8 hK8 => ?_
  refine gm ?_
  refine gm ?_
  refine gv (qti (fun w M => lenA_rd hu)) ?_
  refine gv (qtd (fun w M => mem_rd M hu)) ?_
  refine gm ?_
  refine gv (qt_eql rfl rfl rfl) ?_
  refine gnt (hK8 _ _ ?_)
  refine gc_cond rfl (fun hc1 => ?_) (fun hc1 => ?_)
  ·try simp only [sA] at hc1
   refine gc_sr fun K9 hK9 => ?_
   refine gas ?_
   refine gnt (hK9 _ _ ?_)
   refine gc_ret ?_
   refine gk_block_ret ?_
   refine gk_then_ret ?_
   refine gk_then_ret ?_
   refine gk_block_ret ?_
   refine gk_then_ret ?_
   refine ret_1 rfl rfl  (fun w M => ?_)
   rw [decide_eq_true (show x ∈ xs from hc1 ▸ at0_mem (by omega))]; exact ⟨rfl, M.1⟩
  ·try simp only [sA] at hc1
   refine gc_skip ?_
   refine gk_block ?_
   refine gk_then (hK7 _ _ ?_)
   refine gc_region ?_
   refine gm ?_
   refine gv (qt_add rfl rfl rfl (by omega)) ?_
   refine gas ?_
   refine g_nil ?_
   refine gk_then (gk_take 0 ?_)
   refine gk_sub ?hs_10 (hKL4 (k + 1) ?hi_10 ?hm_10)
   case hs_10 => repeat first | exact sub_nil | refine sub_cons rfl ?_
   case hi_10 => exact ⟨by omega, all_next hno hc1⟩
   case hm_10 => omega
 ·try simp only [sA] at hc0
  refine gc_exit ?_
  refine gk_then_exit ?_
  refine gk_then_exit ?_
  refine gk_block_hit ?_
  refine gk_then (hK2 _ _ ?_)
  refine gc_sr fun K11 hK11 => ?_
  refine gas ?_
  refine gnt (hK11 _ _ ?_)
  refine gc_ret ?_
  refine ret_1 rfl rfl  (fun w M => ?_)
  have hn : ¬ x ∈ xs := fun hm => by
   obtain ⟨j, hj, he⟩ := mem_atK hm
   exact hno j (by omega) he
  rw [decide_eq_false hn]; exact ⟨rfl, M.1⟩
set_option maxHeartbeats 1000000 in
set_option maxRecDepth 100000 in
theorem specRet_any (w : World) (v : Value) (c : Cat) (f : Int) (h : RdC w v c) (hS : ShapeP c) (f0 : 0 ≤ f) (f1 : f < c.s.length) :
  Calls Tryd.prog 133 #[v, .int .i64 f] w (RetL w (retL c f)) := by
 have h0 := h
 obtain ⟨va, vb, vc, vd, ve, vf, vg, vh, rfl, h1, h2, h3, h4, _⟩ := h.lists
 have hf := arrP hS f0 f1
 have e1 := hf.fs; have e2 := hf.ft; have e3 := hf.fm; have e4 := hf.s0; have e5 := hf.s1; have e6 := hf.t0; have e7 := hf.t1; have e8 := hf.row
 have hn40 := hS.n40; have htl := hS.tl; have hel := hS.el
 go_enter Tryd.func133, Tryd.ntmps133
 refine gc_enter (N := 64) rfl (look_cons (k := 0) rfl (look_cons (k := 1) rfl (look_nil _))) ?_
 refine gc_sr fun K1 hK1 => ?_
 refine gop fun K3 hK3 => ?_
 refine go_box rfl rfl rfl rfl rfl ?_
 intro B2
 refine hK3 _ _ ?_
 refine gas ?_
 refine gnt (hK1 _ _ ?_)
 refine gc_sr fun K4 hK4 => ?_
 refine gop fun K6 hK6 => ?_
 refine go_slice0 rfl rfl rfl Tryd.underlying22 ?_
 intro B5
 refine hK6 _ _ ?_
 refine gas ?_
 refine gnt (hK4 _ _ ?_)
 refine gc_seq fun K7 hK7 => ?_
 refine gc_sr fun K8 hK8 => ?_
 refine gas ?_
 refine gnt (hK8 _ _ ?_)
 refine gc_block ?_
 try simp only [sL]
 refine gc_loopT ([(0, _), (1, _), (2, _), (4, _)] : Env) (fun s : Nat × (Option Addr) × Nat => (fun (k : Nat) (a : Option Addr) (q : Nat) => (([(5, .slice a (solL (beh c f) (at0 c.e (at0 c.s f)) k).length q), (6, .int .i64 (k : Int))] : Env), ([(1, own1I (.slice a (solL (beh c f) (at0 c.e (at0 c.s f)) k).length q) (solL (beh c f) (at0 c.e (at0 c.s f)) k))] : List (Nat × Itm)), k ≤ c.s.length, c.s.length - k)) s.1 s.2.1 s.2.2) (0, _, _) (by repeat first | exact sub_nil | refine sub_cons rfl ?_) rfl (Nat.zero_le _) ?_
 rintro ⟨k, a, q⟩ hinv KL9 hKL9
 simp only [sU, sL] at hinv hKL9 ⊢
 have hk := hinv
 have hl := sol_len (beh c f) (at0 c.e (at0 c.s f)) k
 refine gc_seq fun K10 hK10 => ?_
 refine gc_sr fun K11 hK11 => ?_
 refine gm ?_
 refine gv (qtf Tryd.underlying30 (z := 0) (off := 1)) ?_
 refine gv (qtl Tryd.underlying22 (n := 0)) ?_
 refine gv (qln (fun w M => lenV_rd h1)) ?_
 refine gv (qt_lss rfl rfl rfl) ?_
 refine gnt (hK11 _ _ ?_)
 refine gc_cond rfl (fun hc0 => ?_) (fun hc0 => ?_)
 ·try simp only [sA] at hc0
  refine gc_skip ?_
  refine gk_then (hK10 _ _ ?_)
  refine gc_seq fun K12 hK12 => ?_
  refine gc_block ?_
  refine gc_seq fun K13 hK13 => ?_
  have hA := arrP hS (f := (k : Int)) (by omega) (by omega)
  have a1 := hA.fs; have a2 := hA.ft; have a3 := hA.fm; have a4 := hA.row
  refine gc_draw (by kernel_rfl) ?_
  refine gdv (qtf Tryd.underlying30 (z := 0) (off := 1)) ?_
  refine gdv (qtl Tryd.underlying22 (n := 0)) ?_
  refine gdv (qt_move rfl rfl) ?_
  refine gdv (qti (fun w M => lenA_rd h1)) ?_
  refine gdv (qtd (fun w M => mem_rd M h1)) ?_
  refine gdv (qtf Tryd.underlying30 (z := 0) (off := 2)) ?_
  refine gdv (qtl Tryd.underlying22 (n := 0)) ?_
  refine gdv (qt_move rfl rfl) ?_
  refine gdv (qti (fun w M => lenA_rd h2)) ?_
  refine gdv (qtd (fun w M => mem_rd M h2)) ?_
  refine gdv (qt_eql rfl rfl rfl) ?_
  refine gd_splitv (.free rfl) rfl rfl (qt_move rfl rfl) (fun hs5_11 => ?_) (fun hs5_11 => ?_)
  ·try simp only [sA] at hs5_11
   refine gdvh (qtf Tryd.underlying30 (z := 0) (off := 2)) ?_
   refine gdvh (qtl Tryd.underlying22 (n := 0)) ?_
   refine gdvh (qt_move rfl rfl) ?_
   refine gdvh (qti (fun w M => lenA_rd h2)) ?_
   refine gdvh (qtd (fun w M => mem_rd M h2)) ?_
   refine gdvh (qtf Tryd.underlying30 (z := 0) (off := 1)) ?_
   refine gdvh (qtl Tryd.underlying22 (n := 0)) ?_
   refine gdvh (qt_move rfl rfl) ?_
   refine gdvh (qti (fun w M => lenA_rd h1)) ?_
   refine gdvh (qtd (fun w M => mem_rd M h1)) ?_
   refine gdvh (qt_eql rfl rfl rfl) ?_
   refine gdv (qt_pick_t rfl rfl rfl) ?_
   refine gd_splitv (.free rfl) rfl rfl (qt_move rfl rfl) (fun hs5_24 => ?_) (fun hs5_24 => ?_)
   ·try simp only [sA] at hs5_24
    refine gdvh (qtf Tryd.underlying30 (z := 0) (off := 4)) ?_
    refine gdvh (qtl Tryd.underlying23 (n := 0)) ?_
    refine gdvh (qt_move rfl rfl) ?_
    refine gdvh (qti2 (fun w M => lenA_rd2 h4)) ?_
    refine gd_load2 (.held _ _ _ rfl rfl rfl) rfl rfl rfl rfl Tryd.underlying22 rfl h4 (by omega) (by omega) ?_
    intro ra14 rc14 hr14
    refine gdvh (qt_move rfl rfl) ?_
    refine gdvh (qti (fun w M => lenA_rd hr14)) ?_
    refine gdvh (qtd (fun w M => mem_rd M hr14)) ?_
    refine gdvh (qtf Tryd.underlying30 (z := 0) (off := 3)) ?_
    refine gdvh (qtl Tryd.underlying22 (n := 0)) ?_
    refine gdvh (qtf Tryd.underlying30 (z := 0) (off := 1)) ?_
    refine gdvh (qtl Tryd.underlying22 (n := 0)) ?_
    refine gdvh (qt_move rfl rfl) ?_
    refine gdvh (qti (fun w M => lenA_rd h1)) ?_
    refine gdvh (qtd (fun w M => mem_rd M h1)) ?_
    refine gdvh (qti (fun w M => lenA_rd h3)) ?_
    refine gdvh (qtd (fun w M => mem_rd M h3)) ?_
    refine gdvh (qt_eql rfl rfl rfl) ?_
    refine gdv (qt_pick_t rfl rfl rfl) ?_
    refine gd_nil ?_
    refine gk_then (hK13 _ _ ?_)
    refine gc_cond rfl (fun hc1 => ?_) (fun hc1 => ?_)
    ·try simp only [sA] at hc1
     refine gc_region ?_
     refine gm ?_
     refine gm ?_
     refine gop fun K16 hK16 => ?_
     refine go_slice1 rfl rfl rfl rfl Tryd.underlying22 ?_
     intro B15
     refine hK16 _ _ ?_
     refine gop fun K18 hK18 => ?_
     refine go_append (n := 1) (m := 2) rfl rfl rfl Tryd.underlying22 rfl rfl rfl rfl (by omega) ?_
     intro va17 vc17
     refine hK18 _ _ ?_
     refine gas ?_
     refine g_nil ?_
     refine gk_block ?_
     refine gk_then (hK12 _ _ ?_)
     refine gc_region ?_
     refine gm ?_
     refine gv (qt_add rfl rfl rfl (by omega)) ?_
     refine gas ?_
     refine g_nil ?_
     rw [sol_t ((ret_iff hS f0 f1 (g := (k : Int)) (by omega) (by omega)).1 ⟨hs5_11, hs5_24, hc1⟩)]
     refine gk_then (gk_take 2 ?_)
     refine gk_sub ?hs_19 (hKL9 (k + 1, _, _) ?hi_19 ?hm_19)
     case hs_19 => repeat first | exact sub_nil | refine sub_cons rfl ?_
     case hi_19 => omega
     case hm_19 => omega
    ·try simp only [sA] at hc1
     refine gc_skip ?_
     refine gk_block ?_
     refine gk_then (hK12 _ _ ?_)
     refine gc_region ?_
     refine gm ?_
     refine gv (qt_add rfl rfl rfl (by omega)) ?_
     refine gas ?_
     refine g_nil ?_
     rw [sol_f (fun h => hc1 ((ret_iff hS f0 f1 (g := (k : Int)) (by omega) (by omega)).2 h).2.2)]
     refine gk_then (gk_take 2 ?_)
     refine gk_sub ?hs_20 (hKL9 (k + 1, _, _) ?hi_20 ?hm_20)
     case hs_20 => repeat first | exact sub_nil | refine sub_cons rfl ?_
     case hi_20 => omega
     case hm_20 => omega
   ·try simp only [sA] at hs5_24
    refine gdsk ?_
    refine gdsk ?_
    refine gdsk ?_
    refine gdsk ?_
    refine gdsk ?_
    refine gdsk ?_
    refine gdsk ?_
    refine gdsk ?_
    refine gdsk ?_
    refine gdsk ?_
    refine gdsk ?_
    refine gdsk ?_
    refine gdsk ?_
    refine gdsk ?_
    refine gdsk ?_
    refine gdsk ?_
    refine gdsk ?_
    refine gdsk ?_
    refine gdv (qt_pick_f rfl rfl rfl) ?_
    refine gd_nil ?_
    refine gk_then (hK13 _ _ ?_)
    refine gc_cond_f rfl ?_
    refine gc_skip ?_
    refine gk_block ?_
    refine gk_then (hK12 _ _ ?_)
    refine gc_region ?_
    refine gm ?_
    refine gv (qt_add rfl rfl rfl (by omega)) ?_
    refine gas ?_
    refine g_nil ?_
    rw [sol_f (fun h => hs5_24 ((ret_iff hS f0 f1 (g := (k : Int)) (by omega) (by omega)).2 h).2.1)]
    refine gk_then (gk_take 2 ?_)
    refine gk_sub ?hs_21 (hKL9 (k + 1, _, _) ?hi_21 ?hm_21)
    case hs_21 => repeat first | exact sub_nil | refine sub_cons rfl ?_
    case hi_21 => omega
    case hm_21 => omega
  ·try simp only [sA] at hs5_11
   refine gdsk ?_
   refine gdsk ?_
   refine gdsk ?_
   refine gdsk ?_
   refine gdsk ?_
   refine gdsk ?_
   refine gdsk ?_
   refine gdsk ?_
   refine gdsk ?_
   refine gdsk ?_
   refine gdsk ?_
   refine gdv (qt_pick_f rfl rfl rfl) ?_
   refine gdv (qt_move rfl rfl) ?_
   refine gdsk ?_
   refine gdsk ?_
   refine gdsk ?_
   refine gdsk ?_
   refine gdsk ?_
   refine gdsk ?_
   refine gdsk ?_
   refine gdsk ?_
   refine gdsk ?_
   refine gdsk ?_
   refine gdsk ?_
   refine gdsk ?_
   refine gdsk ?_
   refine gdsk ?_
   refine gdsk ?_
   refine gdsk ?_
   refine gdsk ?_
   refine gdsk ?_
   refine gdv (qt_pick_f rfl rfl rfl) ?_
   refine gd_nil ?_
   refine gk_then (hK13 _ _ ?_)
   refine gc_cond_f rfl ?_
   refine gc_skip ?_
   refine gk_block ?_
   refine gk_then (hK12 _ _ ?_)
   refine gc_region ?_
   refine gm ?_
   refine gv (qt_add rfl rfl rfl (by omega)) ?_
   refine gas ?_
   refine g_nil ?_
   rw [sol_f (fun h => hs5_11 ((ret_iff hS f0 f1 (g := (k : Int)) (by omega) (by omega)).2 h).1)]
   refine gk_then (gk_take 2 ?_)
   refine gk_sub ?hs_22 (hKL9 (k + 1, _, _) ?hi_22 ?hm_22)
   case hs_22 => repeat first | exact sub_nil | refine sub_cons rfl ?_
   case hi_22 => omega
   case hm_22 => omega
 ·try simp only [sA] at hc0
  refine gc_exit ?_
  refine gk_then_exit ?_
  refine gk_then_exit ?_
  refine gk_block_hit ?_
  refine gk_then (hK7 _ _ ?_)
  refine gc_sr fun K23 hK23 => ?_
  refine gm ?_
  refine gas ?_
  refine gnt (hK23 _ _ ?_)
  refine gc_ret ?_
  refine ret_1 rfl rfl  (fun w M => ?_)
  obtain rfl : k = c.s.length := by omega
  exact ⟨_, rfl, mem_own1 (n := 1) M rfl, M.1⟩
set_option maxHeartbeats 1000000 in
set_option maxRecDepth 100000 in
theorem specSec_any (w : World) (v : Value) (c : Cat) (f : Int) (h : RdC w v c) (hS : ShapeP c) (f0 : 0 ≤ f) (f1 : f < c.s.length) :
  Calls Tryd.prog 134 #[v, .int .i64 f] w (RetL w (secL c f)) := by
 have h0 := h
 obtain ⟨va, vb, vc, vd, ve, vf, vg, vh, rfl, h1, h2, h3, h4, _⟩ := h.lists
 have hf := arrP hS f0 f1
 have e1 := hf.fs; have e2 := hf.ft; have e3 := hf.fm; have e4 := hf.s0; have e5 := hf.s1; have e6 := hf.t0; have e7 := hf.t1; have e8 := hf.row
 have hn40 := hS.n40; have htl := hS.tl; have hel := hS.el
 go_enter Tryd.func134, Tryd.ntmps134
 refine gc_enter (N := 64) rfl (look_cons (k := 0) rfl (look_cons (k := 1) rfl (look_nil _))) ?_
 refine gc_sr fun K1 hK1 => ?_
 refine gop fun K3 hK3 => ?_
 refine go_box rfl rfl rfl rfl rfl ?_
 intro B2
 refine hK3 _ _ ?_
 refine gas ?_
 refine gnt (hK1 _ _ ?_)
 refine gc_sr fun K4 hK4 => ?_
 refine gop fun K6 hK6 => ?_
 refine go_slice0 rfl rfl rfl Tryd.underlying22 ?_
 intro B5
 refine hK6 _ _ ?_
 refine gas ?_
 refine gnt (hK4 _ _ ?_)
 refine gc_seq fun K7 hK7 => ?_
 refine gc_sr fun K8 hK8 => ?_
 refine gas ?_
 refine gnt (hK8 _ _ ?_)
 refine gc_block ?_
 try simp only [sL]
 refine gc_loopT ([(0, _), (1, _), (2, _), (4, _)] : Env) (fun s : Nat × (Option Addr) × Nat => (fun (k : Nat) (a : Option Addr) (q : Nat) => (([(5, .slice a (solL (bef c f) (at0 c.e (at0 c.t f)) k).length q), (6, .int .i64 (k : Int))] : Env), ([(1, own1I (.slice a (solL (bef c f) (at0 c.e (at0 c.t f)) k).length q) (solL (bef c f) (at0 c.e (at0 c.t f)) k))] : List (Nat × Itm)), k ≤ c.s.length, c.s.length - k)) s.1 s.2.1 s.2.2) (0, _, _) (by repeat first | exact sub_nil | refine sub_cons rfl ?_) rfl (Nat.zero_le _) ?_
 rintro ⟨k, a, q⟩ hinv KL9 hKL9
 simp only [sU, sL] at hinv hKL9 ⊢
 have hk := hinv
 have hl := sol_len (bef c f) (at0 c.e (at0 c.t f)) k
 refine gc_seq fun K10 hK10 => ?_
 refine gc_sr fun K11 hK11 => ?_
 refine gm ?_
 refine gv (qtf Tryd.underlying30 (z := 0) (off := 1)) ?_
 refine gv (qtl Tryd.underlying22 (n := 0)) ?_
 refine gv (qln (fun w M => lenV_rd h1)) ?_
 refine gv (qt_lss rfl rfl rfl) ?_
 refine gnt (hK11 _ _ ?_)
 refine gc_cond rfl (fun hc0 => ?_) (fun hc0 => ?_)
 ·try simp only [sA] at hc0
  refine gc_skip ?_
  refine gk_then (hK10 _ _ ?_)
  refine gc_seq fun K12 hK12 => ?_
  refine gc_block ?_
  refine gc_seq fun K13 hK13 => ?_
  have hA := arrP hS (f := (k : Int)) (by omega) (by omega)
  have a1 := hA.fs; have a2 := hA.ft; have a3 := hA.fm; have a4 := hA.row
  refine gc_draw (by kernel_rfl) ?_
  refine gdv (qtf Tryd.underlying30 (z := 0) (off := 1)) ?_
  refine gdv (qtl Tryd.underlying22 (n := 0)) ?_
  refine gdv (qt_move rfl rfl) ?_
  refine gdv (qti (fun w M => lenA_rd h1)) ?_
  refine gdv (qtd (fun w M => mem_rd M h1)) ?_
  refine gdv (qtf Tryd.underlying30 (z := 0) (off := 2)) ?_
  refine gdv (qtl Tryd.underlying22 (n := 0)) ?_
  refine gdv (qt_move rfl rfl) ?_
  refine gdv (qti (fun w M => lenA_rd h2)) ?_
  refine gdv (qtd (fun w M => mem_rd M h2)) ?_
  refine gdv (qt_eql rfl rfl rfl) ?_
  refine gd_splitv (.free rfl) rfl rfl (qt_move rfl rfl) (fun hs5_11 => ?_) (fun hs5_11 => ?_)
  ·try simp only [sA] at hs5_11
   refine gdvh (qtf Tryd.underlying30 (z := 0) (off := 2)) ?_
   refine gdvh (qtl Tryd.underlying22 (n := 0)) ?_
   refine gdvh (qt_move rfl rfl) ?_
   refine gdvh (qti (fun w M => lenA_rd h2)) ?_
   refine gdvh (qtd (fun w M => mem_rd M h2)) ?_
   refine gdvh (qtf Tryd.underlying30 (z := 0) (off := 1)) ?_
   refine gdvh (qtl Tryd.underlying22 (n := 0)) ?_
   refine gdvh (qt_move rfl rfl) ?_
   refine gdvh (qti (fun w M => lenA_rd h1)) ?_
   refine gdvh (qtd (fun w M => mem_rd M h1)) ?_
   refine gdvh (qt_eql rfl rfl rfl) ?_
   refine gdv (qt_pick_t rfl rfl rfl) ?_
   refine gd_splitv (.free rfl) rfl rfl (qt_move rfl rfl) (fun hs5_24 => ?_) (fun hs5_24 => ?_)
   ·try simp only [sA] at hs5_24
    refine gdvh (qtf Tryd.underlying30 (z := 0) (off := 4)) ?_
    refine gdvh (qtl Tryd.underlying23 (n := 0)) ?_
    refine gdvh (qt_move rfl rfl) ?_
    refine gdvh (qti2 (fun w M => lenA_rd2 h4)) ?_
    refine gd_load2 (.held _ _ _ rfl rfl rfl) rfl rfl rfl rfl Tryd.underlying22 rfl h4 (by omega) (by omega) ?_
    intro ra14 rc14 hr14
    refine gdvh (qt_move rfl rfl) ?_
    refine gdvh (qti (fun w M => lenA_rd hr14)) ?_
    refine gdvh (qtd (fun w M => mem_rd M hr14)) ?_
    refine gdvh (qtf Tryd.underlying30 (z := 0) (off := 3)) ?_
    refine gdvh (qtl Tryd.underlying22 (n := 0)) ?_
    refine gdvh (qtf Tryd.underlying30 (z := 0) (off := 2)) ?_
    refine gdvh (qtl Tryd.underlying22 (n := 0)) ?_
    refine gdvh (qt_move rfl rfl) ?_
    refine gdvh (qti (fun w M => lenA_rd h2)) ?_
    refine gdvh (qtd (fun w M => mem_rd M h2)) ?_
    refine gdvh (qti (fun w M => lenA_rd h3)) ?_
    refine gdvh (qtd (fun w M => mem_rd M h3)) ?_
    refine gdvh (qt_eql rfl rfl rfl) ?_
    refine gdv (qt_pick_t rfl rfl rfl) ?_
    refine gd_nil ?_
    refine gk_then (hK13 _ _ ?_)
    refine gc_cond rfl (fun hc1 => ?_) (fun hc1 => ?_)
    ·try simp only [sA] at hc1
     refine gc_region ?_
     refine gm ?_
     refine gm ?_
     refine gop fun K16 hK16 => ?_
     refine go_slice1 rfl rfl rfl rfl Tryd.underlying22 ?_
     intro B15
     refine hK16 _ _ ?_
     refine gop fun K18 hK18 => ?_
     refine go_append (n := 1) (m := 2) rfl rfl rfl Tryd.underlying22 rfl rfl rfl rfl (by omega) ?_
     intro va17 vc17
     refine hK18 _ _ ?_
     refine gas ?_
     refine g_nil ?_
     refine gk_block ?_
     refine gk_then (hK12 _ _ ?_)
     refine gc_region ?_
     refine gm ?_
     refine gv (qt_add rfl rfl rfl (by omega)) ?_
     refine gas ?_
     refine g_nil ?_
     rw [sol_t ((sec_iff hS f0 f1 (g := (k : Int)) (by omega) (by omega)).1 ⟨hs5_11, hs5_24, hc1⟩)]
     refine gk_then (gk_take 2 ?_)
     refine gk_sub ?hs_19 (hKL9 (k + 1, _, _) ?hi_19 ?hm_19)
     case hs_19 => repeat first | exact sub_nil | refine sub_cons rfl ?_
     case hi_19 => omega
     case hm_19 => omega
    ·try simp only [sA] at hc1
     refine gc_skip ?_
     refine gk_block ?_
     refine gk_then (hK12 _ _ ?_)
     refine gc_region ?_
     refine gm ?_
     refine gv (qt_add rfl rfl rfl (by omega)) ?_
     refine gas ?_
     refine g_nil ?_
     rw [sol_f (fun h => hc1 ((sec_iff hS f0 f1 (g := (k : Int)) (by omega) (by omega)).2 h).2.2)]
     refine gk_then (gk_take 2 ?_)
     refine gk_sub ?hs_20 (hKL9 (k + 1, _, _) ?hi_20 ?hm_20)
     case hs_20 => repeat first | exact sub_nil | refine sub_cons rfl ?_
     case hi_20 => omega
     case hm_20 => omega
   ·try simp only [sA] at hs5_24
    refine gdsk ?_
    refine gdsk ?_
    refine gdsk ?_
    refine gdsk ?_
    refine gdsk ?_
    refine gdsk ?_
    refine gdsk ?_
    refine gdsk ?_
    refine gdsk ?_
    refine gdsk ?_
    refine gdsk ?_
    refine gdsk ?_
    refine gdsk ?_
    refine gdsk ?_
    refine gdsk ?_
    refine gdsk ?_
    refine gdsk ?_
    refine gdsk ?_
    refine gdv (qt_pick_f rfl rfl rfl) ?_
    refine gd_nil ?_
    refine gk_then (hK13 _ _ ?_)
    refine gc_cond_f rfl ?_
    refine gc_skip ?_
    refine gk_block ?_
    refine gk_then (hK12 _ _ ?_)
    refine gc_region ?_
    refine gm ?_
    refine gv (qt_add rfl rfl rfl (by omega)) ?_
    refine gas ?_
    refine g_nil ?_
    rw [sol_f (fun h => hs5_24 ((sec_iff hS f0 f1 (g := (k : Int)) (by omega) (by omega)).2 h).2.1)]
    refine gk_then (gk_take 2 ?_)
    refine gk_sub ?hs_21 (hKL9 (k + 1, _, _) ?hi_21 ?hm_21)
    case hs_21 => repeat first | exact sub_nil | refine sub_cons rfl ?_
    case hi_21 => omega
    case hm_21 => omega
  ·try simp only [sA] at hs5_11
   refine gdsk ?_
   refine gdsk ?_
   refine gdsk ?_
   refine gdsk ?_
   refine gdsk ?_
   refine gdsk ?_
   refine gdsk ?_
   refine gdsk ?_
   refine gdsk ?_
   refine gdsk ?_
   refine gdsk ?_
   refine gdv (qt_pick_f rfl rfl rfl) ?_
   refine gdv (qt_move rfl rfl) ?_
   refine gdsk ?_
   refine gdsk ?_
   refine gdsk ?_
   refine gdsk ?_
   refine gdsk ?_
   refine gdsk ?_
   refine gdsk ?_
   refine gdsk ?_
   refine gdsk ?_
   refine gdsk ?_
   refine gdsk ?_
   refine gdsk ?_
   refine gdsk ?_
   refine gdsk ?_
   refine gdsk ?_
   refine gdsk ?_
   refine gdsk ?_
   refine gdsk ?_
   refine gdv (qt_pick_f rfl rfl rfl) ?_
   refine gd_nil ?_
   refine gk_then (hK13 _ _ ?_)
   refine gc_cond_f rfl ?_
   refine gc_skip ?_
   refine gk_block ?_
   refine gk_then (hK12 _ _ ?_)
   refine gc_region ?_
   refine gm ?_
   refine gv (qt_add rfl rfl rfl (by omega)) ?_
   refine gas ?_
   refine g_nil ?_
   rw [sol_f (fun h => hs5_11 ((sec_iff hS f0 f1 (g := (k : Int)) (by omega) (by omega)).2 h).1)]
   refine gk_then (gk_take 2 ?_)
   refine gk_sub ?hs_22 (hKL9 (k + 1, _, _) ?hi_22 ?hm_22)
   case hs_22 => repeat first | exact sub_nil | refine sub_cons rfl ?_
   case hi_22 => omega
   case hm_22 => omega
 ·try simp only [sA] at hc0
  refine gc_exit ?_
  refine gk_then_exit ?_
  refine gk_then_exit ?_
  refine gk_block_hit ?_
  refine gk_then (hK7 _ _ ?_)
  refine gc_sr fun K23 hK23 => ?_
  refine gm ?_
  refine gas ?_
  refine gnt (hK23 _ _ ?_)
  refine gc_ret ?_
  refine ret_1 rfl rfl  (fun w M => ?_)
  obtain rfl : k = c.s.length := by omega
  exact ⟨_, rfl, mem_own1 (n := 1) M rfl, M.1⟩
set_option maxHeartbeats 1000000 in
set_option maxRecDepth 100000 in
theorem specInv5_any (w : World) (v : Value) (c : Cat) (f : Int) (h : RdC w v c) (hC : IsCat c) (f0 : 0 ≤ f) (f1 : f < c.s.length) :
  Calls Tryd.prog 126 #[v, .int .i64 f] w (RetI w (invN c f)) := by
 have h0 := h
 obtain ⟨va, vb, vc, vd, ve, vf, vg, vh, rfl, h1, h2, h3, h4, _⟩ := h.lists
 have hS := hC.toShapeP
 have hf := arrP hS f0 f1
 have e1 := hf.fs; have e2 := hf.ft; have e3 := hf.fm; have e4 := hf.s0; have e5 := hf.s1; have e6 := hf.t0; have e7 := hf.t1; have e8 := hf.row
 have hn40 := hS.n40; have htl := hS.tl; have hel := hS.el
 have hrl := sol_len (beh c f) (at0 c.e (at0 c.s f)) c.s.length
 rw [show solL (beh c f) (at0 c.e (at0 c.s f)) c.s.length = retL c f from rfl] at hrl
 go_enter Tryd.func126, Tryd.ntmps126
 refine gc_enter (N := 30) rfl (look_cons (k := 0) rfl (look_cons (k := 1) rfl (look_nil _))) ?_
 refine gc_sr fun K1 hK1 => ?_
 refine gop fun K3 hK3 => ?_
 refine go_box rfl rfl rfl rfl rfl ?_
 intro B2
 refine hK3 _ _ ?_
 refine gas ?_
 refine gnt (hK1 _ _ ?_)
 refine gc_seq fun K4 hK4 => ?_
 try simp only [sL]
 refine gc_cut ([(0, _), (1, _), (2, _), (4, _)] : Env) (fun s : (Option Addr) × Nat × (Option Addr) × Nat => (fun (a1 : Option Addr) (q1 : Nat) (a2 : Option Addr) (q2 : Nat) => ([(5, .slice a1 (retL c f).length q1), (6, .slice a2 (secL c f).length q2)] : Env)) s.1 s.2.1 s.2.2.1 s.2.2.2) (fun s : (Option Addr) × Nat × (Option Addr) × Nat => (fun (a1 : Option Addr) (q1 : Nat) (a2 : Option Addr) (q2 : Nat) => ([] : List (Nat × Itm))) s.1 s.2.1 s.2.2.1 s.2.2.2) (fun s : (Option Addr) × Nat × (Option Addr) × Nat => (fun (a1 : Option Addr) (q1 : Nat) (a2 : Option Addr) (q2 : Nat) => ([own1I (.slice a1 (retL c f).length q1) (retL c f), own1I (.slice a2 (secL c f).length q2) (secL c f)] : List Itm)) s.1 s.2.1 s.2.2.1 s.2.2.2) (by repeat first | exact sub_nil | refine sub_cons rfl ?_) ?_ (fun HJ5 => ?_)
 ·rintro ⟨a1, q1, a2, q2⟩
  simp only [sU, sL]
  refine gk_then (hK4 _ _ ?_)
  refine gc_seq fun K6 hK6 => ?_
  refine gc_sr fun K7 hK7 => ?_
  refine gas ?_
  refine gnt (hK7 _ _ ?_)
  refine gc_block ?_
  try simp only [sL]
  refine gc_loopT ([(0, _), (1, _), (2, _), (5, _), (6, _)] : Env) (fun s : Nat => (fun (k : Nat) => (([(7, .int .i64 (k : Int))] : Env), ([] : List (Nat × Itm)), k ≤ (retL c f).length ∧ ∀ j : Nat, j < k → ¬ at0 (retL c f) (j : Int) ∈ secL c f, (retL c f).length - k)) s) (0) (by repeat first | exact sub_nil | refine sub_cons rfl ?_) rfl ⟨Nat.zero_le _, fun j hj => absurd hj (by omega)⟩ ?_
  rintro k hinv KL8 hKL8
  simp only [sU, sL] at hinv hKL8 ⊢
  obtain ⟨hk, hno⟩ := hinv
  refine gc_seq fun K9 hK9 => ?_
  refine gc_sr fun K10 hK10 => ?_
  refine gm ?_
  refine gm ?_
  refine gv (qln (fun w M => lenV_own1 (n := 1) rfl M)) ?_
  refine gv (qt_lss rfl rfl rfl) ?_
  refine gnt (hK10 _ _ ?_)
  refine gc_cond rfl (fun hc0 => ?_) (fun hc0 => ?_)
  ·try simp only [sA] at hc0
   refine gc_skip ?_
   refine gk_then (hK9 _ _ ?_)
   refine gc_seq fun K11 hK11 => ?_
   refine gc_block ?_
   refine gc_sr fun K12 hK12 => ?_
   refine gm ?_
   refine gm ?_
   refine gm ?_
   refine gv (qti (fun w M => lenA_own1 (n := 1) rfl M)) ?_
   refine gv (qtd (fun w M => (mem_own1 (n := 1) M rfl).rd)) ?_
   refine g_q (.free rfl) rfl rfl (qt_call rfl Tryd.func135 rfl (by decide) rfl (fun w M => has5_any w _ _ _ ((mem_own1 (n := 2) M rfl).rd))) ?_
   refine gnt (hK12 _ _ ?_)
   refine gc_cond rfl (fun hc1 => ?_) (fun hc1 => ?_)
   ·try simp only [sA] at hc1
    refine gc_sr fun K13 hK13 => ?_
    refine gm ?_
    refine gm ?_
    refine gv (qti (fun w M => lenA_own1 (n := 1) rfl M)) ?_
    refine gv (qtd (fun w M => (mem_own1 (n := 1) M rfl).rd)) ?_
    refine gas ?_
    refine gnt (hK13 _ _ ?_)
    refine gc_ret ?_
    refine gk_block_ret ?_
    refine gk_then_ret ?_
    refine gk_then_ret ?_
    refine gk_block_ret ?_
    refine gk_then_ret ?_
    refine ret_1 rfl rfl  (fun w M => ?_)
    rw [invN_found hC f0 f1 (k := k) (by omega) hc1]; exact ⟨rfl, M.1⟩
   ·try simp only [sA] at hc1
    refine gc_skip ?_
    refine gk_block ?_
    refine gk_then (hK11 _ _ ?_)
    refine gc_region ?_
    refine gm ?_
    refine gv (qt_add rfl rfl rfl (by omega)) ?_
    refine gas ?_
    refine g_nil ?_
    refine gk_then (gk_take 3 ?_)
    refine gk_sub ?hs_14 (hKL8 (k + 1) ?hi_14 ?hm_14)
    case hs_14 => repeat first | exact sub_nil | refine sub_cons rfl ?_
    case hi_14 => exact ⟨by omega, all_next hno hc1⟩
    case hm_14 => omega
  ·try simp only [sA] at hc0
   refine gc_exit ?_
   refine gk_then_exit ?_
   refine gk_then_exit ?_
   refine gk_block_hit ?_
   refine gk_then (hK6 _ _ ?_)
   refine gc_sr fun K15 hK15 => ?_
   refine gas ?_
   refine gnt (hK15 _ _ ?_)
   refine gc_ret ?_
   refine ret_1 rfl rfl  (fun w M => ?_)
   obtain rfl : k = (retL c f).length := by omega
   rw [invN_none hno]; exact ⟨rfl, M.1⟩
 simp only [sU, sL] at HJ5
 refine ga_start _ (fun w M => M) ?_
 refine gav 0 rfl (qts Tryd.underlying30 (n := 0)) ?_
 refine gav 1 rfl (qt_move rfl rfl) ?_
 refine gav 3 rfl (qts Tryd.underlying30 (n := 0)) ?_
 refine gav 4 rfl (qt_move rfl rfl) ?_
 refine gao 2 fun K17 hK17 => ?_
 refine go_callL rfl rfl rfl Tryd.func133 rfl (by decide) rfl (fun w M => specRet_any w _ _ _ (mem_rdC M h0) (by first | assumption | omega) (by first | assumption | omega) (by first | assumption | omega)) ?_
 intro va16 vc16
 refine hK17 _ _ (fun w M => (mem_take 1 M :)) ?_
 refine gao 5 fun K19 hK19 => ?_
 refine go_callL rfl rfl rfl Tryd.func134 rfl (by decide) rfl (fun w M => specSec_any w _ _ _ (mem_rdC M h0) (by first | assumption | omega) (by first | assumption | omega) (by first | assumption | omega)) ?_
 intro va18 vc18
 refine hK19 _ _ (fun w M => (mem_take 1 M :)) ?_
 refine gav 6 rfl (qt_assign rfl rfl) ?_
 refine gav 7 rfl (qt_assign rfl rfl) ?_
 refine ga_done (by kernel_rfl) ?_
 refine gk_pickL [0, 0, 0] ?_
 refine gk_sub ?hs_20 (HJ5 (_, _, _, _))
 case hs_20 => repeat first | exact sub_nil | refine sub_cons rfl ?_
end Go.Proofs.YtfnneogadciimaaDoor
