import Derived.Test.YtbiplocgenppoaaS12
import Derived.Test.YtbiplocgenppoaaS13
import Derived.Test.YtbiplocgenppoaaS14
import Derived.Test.YtbiplocgenppoaaS11
set_option maxHeartbeats 4000000
set_option maxRecDepth 100000
set_option linter.unusedSimpArgs false
set_option linter.unusedVariables false
set_option linter.unusedSectionVars false
namespace Go.Proofs.Ytbiplocgenppoaa
open _root_.Go.Proofs.Try
open Go.RowKit
theorem specBelow_any (w : World) (v : Value) (c : Cat) (m n : Int) (h : RdC w v c) (hS : ShapeP c) (m0 : 0 ≤ m) (m1 : m < c.s.length) (n0 : 0 ≤ n) (n1 : n < c.s.length) :
  Calls Try.prog 69 #[v, .int .i64 m, .int .i64 n] w (RetB w (bP (belP c m n))) := by
 have h0 := h
 obtain ⟨va, vb, vc, vd, ve, vf, vg, vh, rfl, h1, h2, h3, h4, _⟩ := h.lists
 have hA := arrP hS m0 m1; have hB := arrP hS n0 n1
 have a1 := hA.fs; have a2 := hA.ft; have a3 := hA.fm; have a4 := hA.row; have b1 := hB.fs; have b2 := hB.ft; have b3 := hB.fm; have b4 := hB.row
 have hn40 := hS.n40; have htl := hS.tl
 go_enter func69, Try.ntmps69
 refine gc_enter (N := 51) rfl (look_cons (k := 0) rfl (look_cons (k := 1) rfl (look_cons (k := 2) rfl (look_nil _)))) ?_
 refine gc_sr fun K1 hK1 => ?_
 refine gop fun K3 hK3 => ?_
 refine go_box rfl rfl rfl rfl rfl ?_
 intro B2
 refine hK3 _ _ ?_
 refine gas ?_
 refine gnt (hK1 _ _ ?_)
 refine gc_seq fun K4 hK4 => ?_
 refine gc_sr fun K5 hK5 => ?_
 refine gas ?_
 refine gnt (hK5 _ _ ?_)
 refine gc_block ?_
 try simp only [sL]
 refine gc_loopT ([(0, _), (1, _), (2, _), (3, _)] : Env) (fun s : Nat => (fun (k : Nat) => (([(7, .int .i64 (k : Int))] : Env), ([] : List (Nat × Itm)), k ≤ c.s.length ∧ ∀ j : Nat, j < k → ¬ bef c n (j : Int) = m, c.s.length - k)) s) (0) (by repeat first | exact sub_nil | refine sub_cons rfl ?_) rfl ⟨Nat.zero_le _, fun j hj => absurd hj (by omega)⟩ ?_
 rintro k hinv KL6 hKL6
 simp only [sU, sL] at hinv hKL6 ⊢
 obtain ⟨hk, hno⟩ := hinv
 refine gc_seq fun K7 hK7 => ?_
 refine gc_sr fun K8 hK8 => ?_
 refine gm ?_
 refine gv (qtf underlying27 (z := 0) (off := 1)) ?_
 refine gv (qtl underlying24 (n := 0)) ?_
 refine gv (qln (fun w M => lenV_rd h1)) ?_
 refine gv (qt_lss rfl rfl rfl) ?_
 refine gnt (hK8 _ _ ?_)
 refine gc_cond rfl (fun hc0 => ?_) (fun hc0 => ?_)
 ·try simp only [sA] at hc0
  refine gc_skip ?_
  refine gk_then (hK7 _ _ ?_)
  refine gc_seq fun K9 hK9 => ?_
  refine gc_block ?_
  refine gc_seq fun K10 hK10 => ?_
  have hK := arrP hS (f := (k : Int)) (by omega) (by omega)
  have d1 := hK.fs; have d2 := hK.ft; have d3 := hK.fm; have d4 := hK.row
  have hI := bel_iff hS (m := m) (n := n) m0 n0 n1 (k := k) (by omega)
  refine gc_draw (by kernel_rfl) ?_
  refine gdv (qtf underlying27 (z := 0) (off := 1)) ?_
  refine gdv (qtl underlying24 (n := 0)) ?_
  refine gdv (qt_move rfl rfl) ?_
  refine gdv (qti (fun w M => lenA_rd h1)) ?_
  refine gdv (qtd (fun w M => mem_rd M h1)) ?_
  refine gdv (qtf underlying27 (z := 0) (off := 1)) ?_
  refine gdv (qtl underlying24 (n := 0)) ?_
  refine gdv (qt_move rfl rfl) ?_
  refine gdv (qti (fun w M => lenA_rd h1)) ?_
  refine gdv (qtd (fun w M => mem_rd M h1)) ?_
  refine gdv (qt_eql rfl rfl rfl) ?_
  refine gd_splitv (.free rfl) rfl rfl (qt_move rfl rfl) (fun hs4_11 => ?_) (fun hs4_11 => ?_)
  ·try simp only [sA] at hs4_11
   refine gdvh (qtf underlying27 (z := 0) (off := 2)) ?_
   refine gdvh (qtl underlying24 (n := 0)) ?_
   refine gdvh (qt_move rfl rfl) ?_
   refine gdvh (qti (fun w M => lenA_rd h2)) ?_
   refine gdvh (qtd (fun w M => mem_rd M h2)) ?_
   refine gdvh (qtf underlying27 (z := 0) (off := 1)) ?_
   refine gdvh (qtl underlying24 (n := 0)) ?_
   refine gdvh (qt_move rfl rfl) ?_
   refine gdvh (qti (fun w M => lenA_rd h1)) ?_
   refine gdvh (qtd (fun w M => mem_rd M h1)) ?_
   refine gdvh (qt_eql rfl rfl rfl) ?_
   refine gdv (qt_pick_t rfl rfl rfl) ?_
   refine gd_splitv (.free rfl) rfl rfl (qt_move rfl rfl) (fun hs4_24 => ?_) (fun hs4_24 => ?_)
   ·try simp only [sA] at hs4_24
    refine gdvh (qtf underlying27 (z := 0) (off := 4)) ?_
    refine gdvh (qtl underlying25 (n := 0)) ?_
    refine gdvh (qt_move rfl rfl) ?_
    refine gdvh (qti2 (fun w M => lenA_rd2 h4)) ?_
    refine gd_load2 (.held _ _ _ rfl rfl rfl) rfl rfl rfl rfl underlying24 rfl h4 (by omega) (by omega) ?_
    intro ra11 rc11 hr11
    refine gdvh (qt_move rfl rfl) ?_
    refine gdvh (qti (fun w M => lenA_rd hr11)) ?_
    refine gdvh (qtd (fun w M => mem_rd M hr11)) ?_
    refine gdvh (qt_move rfl rfl) ?_
    refine gdvh (qt_eql rfl rfl rfl) ?_
    refine gdv (qt_pick_t rfl rfl rfl) ?_
    refine gd_nil ?_
    refine gk_then (hK10 _ _ ?_)
    refine gc_cond rfl (fun hc1 => ?_) (fun hc1 => ?_)
    ·try simp only [sA] at hc1
     refine gc_sr fun K12 hK12 => ?_
     refine gas ?_
     refine gnt (hK12 _ _ ?_)
     refine gc_ret ?_
     refine gk_block_ret ?_
     refine gk_then_ret ?_
     refine gk_then_ret ?_
     refine gk_block_ret ?_
     refine gk_then_ret ?_
     refine ret_1 rfl rfl  (fun w M => ?_)
     rw [bP_t (show belP c m n from ⟨k, by omega, hI.1 ⟨hs4_11, hs4_24, hc1⟩⟩)]; exact ⟨rfl, M.1⟩
    try simp only [sA] at hc1
    refine gc_skip ?_
    refine gk_block ?_
    refine gk_then (hK9 _ _ ?_)
    refine gc_region ?_
    refine gm ?_
    refine gv (qt_add rfl rfl rfl (by omega)) ?_
    refine gas ?_
    refine g_nil ?_
    refine gk_then (gk_take 1 ?_)
    refine gk_sub ?hs_13 (hKL6 (k + 1) ?hi_13 ?hm_13)
    case hs_13 => repeat first | exact sub_nil | refine sub_cons rfl ?_
    case hi_13 => exact ⟨by omega, all_next hno fun h => hc1 (hI.2 h).2.2⟩
    case hm_13 => omega
   try simp only [sA] at hs4_24
   refine gdsk ?_
   refine gdsk ?_
   refine gdsk ?_
   refine gdsk ?_
   refine gdsk ?_
   refine gdsk ?_
   refine gdsk ?_
   refine gdsk ?_
   refine gdsk ?_
   refine gdsk ?_
   refine gdv (qt_pick_f rfl rfl rfl) ?_
   refine gd_nil ?_
   refine gk_then (hK10 _ _ ?_)
   refine gc_cond_f rfl ?_
   refine gc_skip ?_
   refine gk_block ?_
   refine gk_then (hK9 _ _ ?_)
   refine gc_region ?_
   refine gm ?_
   refine gv (qt_add rfl rfl rfl (by omega)) ?_
   refine gas ?_
   refine g_nil ?_
   refine gk_then (gk_take 1 ?_)
   refine gk_sub ?hs_14 (hKL6 (k + 1) ?hi_14 ?hm_14)
   case hs_14 => repeat first | exact sub_nil | refine sub_cons rfl ?_
   case hi_14 => exact ⟨by omega, all_next hno fun h => hs4_24 (hI.2 h).2.1⟩
   case hm_14 => omega
  try simp only [sA] at hs4_11
  refine gdsk ?_
  refine gdsk ?_
  refine gdsk ?_
  refine gdsk ?_
  refine gdsk ?_
  refine gdsk ?_
  refine gdsk ?_
  refine gdsk ?_
  refine gdsk ?_
  refine gdsk ?_
  refine gdsk ?_
  refine gdv (qt_pick_f rfl rfl rfl) ?_
  refine gdv (qt_move rfl rfl) ?_
  refine gdsk ?_
  refine gdsk ?_
  refine gdsk ?_
  refine gdsk ?_
  refine gdsk ?_
  refine gdsk ?_
  refine gdsk ?_
  refine gdsk ?_
  refine gdsk ?_
  refine gdsk ?_
  refine gdv (qt_pick_f rfl rfl rfl) ?_
  refine gd_nil ?_
  refine gk_then (hK10 _ _ ?_)
  refine gc_cond_f rfl ?_
  refine gc_skip ?_
  refine gk_block ?_
  refine gk_then (hK9 _ _ ?_)
  refine gc_region ?_
  refine gm ?_
  refine gv (qt_add rfl rfl rfl (by omega)) ?_
  refine gas ?_
  refine g_nil ?_
  refine gk_then (gk_take 1 ?_)
  refine gk_sub ?hs_15 (hKL6 (k + 1) ?hi_15 ?hm_15)
  case hs_15 => repeat first | exact sub_nil | refine sub_cons rfl ?_
  case hi_15 => exact ⟨by omega, all_next hno fun h => hs4_11 (hI.2 h).1⟩
  case hm_15 => omega
 try simp only [sA] at hc0
 refine gc_exit ?_
 refine gk_then_exit ?_
 refine gk_then_exit ?_
 refine gk_block_hit ?_
 refine gk_then (hK4 _ _ ?_)
 refine gc_sr fun K16 hK16 => ?_
 refine gas ?_
 refine gnt (hK16 _ _ ?_)
 refine gc_ret ?_
 refine ret_1 rfl rfl  (fun w M => ?_)
 rw [bP_f (fun ⟨j, hj, h⟩ => hno j (by omega) h)]; exact ⟨rfl, M.1⟩
theorem cls_step {c : Cat} {x : Int} {k : Nat} (h : at0 c.t (k : Int) = x) (h2 : monoP c (k : Int)) : addR (belP c) (clsR (belP c) (monL c x k)) (k : Int) = clsR (belP c) (monL c x (k + 1)) := by
 rw [← monL_t h h2, clsR_app]
theorem sub_old {c : Cat} {x : Int} {k : Nat} (hC : IsCat c) (hk : k < c.s.length) (h : at0 c.t (k : Int) = x) (h2 : monoP c (k : Int)) (hm : ∃ i : Nat, i < (clsR (belP c) (monL c x k)).length ∧ mutR (belP c) (k : Int) (row2 (clsR (belP c) (monL c x k)) (i : Int))) :
  rowsTo (nxR (belP c) (clsR (belP c) (monL c x k)) (k : Int)) (clsR (belP c) (monL c x k)).length = clsR (belP c) (monL c x (k + 1)) := by
 obtain ⟨i, hi, hm⟩ := hm
 rw [← cls_step h h2]
 exact nx_old (n := c.s.length) (sep_cls fun y hy => by have := monL_mem hy; omega) (bel_trans hC) (by omega) (by omega) hi hm
theorem sub_new {c : Cat} {x : Int} {k : Nat} (h : at0 c.t (k : Int) = x) (h2 : monoP c (k : Int)) (hm : ∀ i : Nat, i < (clsR (belP c) (monL c x k)).length → ¬ mutR (belP c) (k : Int) (row2 (clsR (belP c) (monL c x k)) (i : Int))) :
  rowsTo (nxR (belP c) (clsR (belP c) (monL c x k)) (k : Int)) (clsR (belP c) (monL c x k)).length ++ [[(k : Int)]] = clsR (belP c) (monL c x (k + 1)) := by
 rw [← cls_step h h2]; exact nx_new hm
theorem specSub5_any (w : World) (v : Value) (c : Cat) (x : Int) (h : RdC w v c) (hC : IsCat c) :
  Calls Try.prog 45 #[v, .int .i64 x] w (RetR w (clsR (belP c) (monL c x c.s.length))) := by
 have h0 := h
 obtain ⟨va, vb, vc, vd, ve, vf, vg, vh, rfl, h1, h2, h3, h4, _⟩ := h.lists
 have hS := hC.toShapeP
 go_enter func45, Try.ntmps45
 refine gc_enter (N := 75) rfl (look_cons (k := 0) rfl (look_cons (k := 1) rfl (look_nil _))) ?_
 refine gc_sr fun K1 hK1 => ?_
 refine gop fun K3 hK3 => ?_
 refine go_box rfl rfl rfl rfl rfl ?_
 intro B2
 refine hK3 _ _ ?_
 refine gas ?_
 refine gnt (hK1 _ _ ?_)
 refine gc_sr fun K4 hK4 => ?_
 refine gop fun K6 hK6 => ?_
 refine go_sliceR0 rfl rfl rfl underlying25 ?_
 intro B5
 refine hK6 _ _ ?_
 refine gas ?_
 refine gnt (hK4 _ _ ?_)
 refine gc_seq fun K7 hK7 => ?_
 refine gc_sr fun K8 hK8 => ?_
 refine gas ?_
 refine gnt (hK8 _ _ ?_)
 refine gc_block ?_
 try simp only [sL]
 refine gc_loopT ([(0, _), (1, _), (2, _), (4, _)] : Env) (fun s : Nat × (Option Addr) × Nat × (List Value) => (fun (k : Nat) (a : Option Addr) (q : Nat) (us : List Value) => (([(5, .slice a (clsR (belP c) (monL c x k)).length q), (6, .int .i64 (k : Int))] : Env), ([(1, own2U (.slice a (clsR (belP c) (monL c x k)).length q) us (clsR (belP c) (monL c x k)))] : List (Nat × Itm)), k ≤ c.s.length, c.s.length - k)) s.1 s.2.1 s.2.2.1 s.2.2.2) (0, _, _, _) (by repeat first | exact sub_nil | refine sub_cons rfl ?_) rfl (Nat.zero_le _) ?_
 rintro ⟨k, a, q, us⟩ hinv KL9 hKL9
 simp only [sU, sL] at hinv hKL9 ⊢
 have hk := hinv
 have hsep : SepR (belP c) c.s.length (clsR (belP c) (monL c x k)) := sep_cls fun y hy => by have := monL_mem hy; omega
 have hcl := cls_len (belP c) (monL c x k)
 have hml0 := monL_len c x k
 have hn40 := hS.n40
 refine gc_seq fun K10 hK10 => ?_
 refine gc_sr fun K11 hK11 => ?_
 refine gm ?_
 refine gv (qtf underlying27 (z := 0) (off := 1)) ?_
 refine gv (qtl underlying24 (n := 0)) ?_
 refine gv (qln (fun w M => lenV_rd h1)) ?_
 refine gv (qt_lss rfl rfl rfl) ?_
 refine gnt (hK11 _ _ ?_)
 refine gc_cond rfl (fun hc0 => ?_) (fun hc0 => ?_)
 ·try simp only [sA] at hc0
  refine gc_skip ?_
  refine gk_then (hK10 _ _ ?_)
  refine gc_seq fun K12 hK12 => ?_
  refine gc_block ?_
  refine gc_seq fun K13 hK13 => ?_
  refine gc_seq fun K14 hK14 => ?_
  have hn40 := hS.n40; have htl := hS.tl
  have f0 : (0 : Int) ≤ (k : Int) := by omega
  have f1 : (k : Int) < c.s.length := by omega
  have hA := arrP hS f0 f1
  have a1 := hA.fs; have a2 := hA.ft
  refine gc_region ?_
  refine gv (qtf underlying27 (z := 0) (off := 2)) ?_
  refine gv (qtl underlying24 (n := 0)) ?_
  refine gm ?_
  refine gv (qti (fun w M => lenA_rd h2)) ?_
  refine gv (qtd (fun w M => mem_rd M h2)) ?_
  refine gm ?_
  refine gv (qt_neq rfl rfl rfl) ?_
  refine g_splitv (.free rfl) rfl rfl (qt_move rfl rfl) (fun hs5_7 => ?_) (fun hs5_7 => ?_)
  ·try simp only [sA] at hs5_7
   refine gsk ?_
   refine gsk ?_
   refine gsk ?_
   refine gsk ?_
   refine gv (qt_pick_t rfl rfl rfl) ?_
   refine gnt (hK14 _ _ ?_)
   refine gc_cond_t rfl ?_
   refine gc_exit ?_
   refine gk_then_exit ?_
   refine gk_block_hit ?_
   refine gk_then (hK12 _ _ ?_)
   refine gc_region ?_
   refine gm ?_
   refine gv (qt_add rfl rfl rfl (by omega)) ?_
   refine gas ?_
   refine g_nil ?_
   rw [monL_f (fun h => hs5_7 h.1)]
   refine gk_then (gk_take 2 ?_)
   refine gk_sub ?hs_15 (hKL9 (k + 1, _, _, _) ?hi_15 ?hm_15)
   case hs_15 => repeat first | exact sub_nil | refine sub_cons rfl ?_
   case hi_15 => omega
   case hm_15 => omega
  try simp only [sA] at hs5_7
  refine gvh (qts underlying27 (n := 0)) ?_
  refine gvh (qt_move rfl rfl) ?_
  refine g_q (.held _ _ _ rfl rfl rfl) rfl rfl (qt_call rfl func26 rfl (by decide) rfl (fun w M => specMono_any w _ _ _ (mem_rdC M h0) (by first | assumption | omega) (by first | assumption | omega) (by first | assumption | omega))) ?_
  refine gvh (qt_not rfl rfl) ?_
  refine gv (qt_pick_f rfl rfl rfl) ?_
  refine gnt (hK14 _ _ ?_)
  refine gc_cond rfl (fun hc1 => ?_) (fun hc1 => ?_)
  ·try simp only [sA] at hc1
   refine gc_exit ?_
   refine gk_then_exit ?_
   refine gk_block_hit ?_
   refine gk_then (hK12 _ _ ?_)
   refine gc_region ?_
   refine gm ?_
   refine gv (qt_add rfl rfl rfl (by omega)) ?_
   refine gas ?_
   refine g_nil ?_
   rw [monL_f (fun h => bP_f' hc1 h.2)]
   refine gk_then (gk_take 2 ?_)
   refine gk_sub ?hs_16 (hKL9 (k + 1, _, _, _) ?hi_16 ?hm_16)
   case hs_16 => repeat first | exact sub_nil | refine sub_cons rfl ?_
   case hi_16 => omega
   case hm_16 => omega
  try simp only [sA] at hc1
  refine gc_skip ?_
  refine gk_then (hK13 _ _ ?_)
  refine gc_sr fun K17 hK17 => ?_
  refine gop fun K19 hK19 => ?_
  refine go_sliceR0 rfl rfl rfl underlying25 ?_
  intro B18
  refine hK19 _ _ ?_
  refine gas ?_
  refine gas ?_
  refine gnt (hK17 _ _ ?_)
  refine gc_seq fun K20 hK20 => ?_
  refine gc_sr fun K21 hK21 => ?_
  refine gas ?_
  refine gnt (hK21 _ _ ?_)
  refine gc_block ?_
  try simp only [sL]
  refine gc_loopT ([(0, _), (1, _), (2, _), (4, _), (5, _), (6, _), (16, _), (31, _)] : Env) (fun s : Nat × (Option Addr) × Nat × (List Value) × Bool => (fun (l : Nat) (a2 : Option Addr) (q2 : Nat) (us2 : List Value) (p : Bool) => (([(7, .slice a2 (rowsTo (nxR (belP c) (clsR (belP c) (monL c x k)) (k : Int)) l).length q2), (8, .bool p), (9, .int .i64 (l : Int))] : Env), ([(2, own2U (.slice a2 (rowsTo (nxR (belP c) (clsR (belP c) (monL c x k)) (k : Int)) l).length q2) us2 (rowsTo (nxR (belP c) (clsR (belP c) (monL c x k)) (k : Int)) l))] : List (Nat × Itm)), l ≤ (clsR (belP c) (monL c x k)).length ∧ (p = true → ∃ i : Nat, i < l ∧ mutR (belP c) (k : Int) (row2 (clsR (belP c) (monL c x k)) (i : Int))) ∧ (p = false → ∀ i : Nat, i < l → ¬ mutR (belP c) (k : Int) (row2 (clsR (belP c) (monL c x k)) (i : Int))), (clsR (belP c) (monL c x k)).length - l)) s.1 s.2.1 s.2.2.1 s.2.2.2.1 s.2.2.2.2) (0, _, _, _, false) (by repeat first | exact sub_nil | refine sub_cons rfl ?_) rfl (by refine ⟨Nat.zero_le _, fun h => ?_, fun _ j hj => absurd hj (by omega)⟩; simp at h) ?_
  rintro ⟨l, a2, q2, us2, p⟩ hinv KL22 hKL22
  simp only [sU, sL] at hinv hKL22 ⊢
  obtain ⟨hl1, hp1, hp0⟩ := hinv
  have hnl := rowsTo_len (nxR (belP c) (clsR (belP c) (monL c x k)) (k : Int)) l
  refine gc_seq fun K23 hK23 => ?_
  refine gc_sr fun K24 hK24 => ?_
  refine gm ?_
  refine gm ?_
  refine gv (qt_len rfl rfl ulE2 (fun w M => lenV_U (n := 1) rfl M)) ?_
  refine gv (qt_lss rfl rfl rfl) ?_
  refine gnt (hK24 _ _ ?_)
  refine gc_cond rfl (fun hc2 => ?_) (fun hc2 => ?_)
  ·try simp only [sA] at hc2
   refine gc_skip ?_
   refine gk_then (hK23 _ _ ?_)
   refine gc_seq fun K25 hK25 => ?_
   refine gc_block ?_
   refine gc_seq fun K26 hK26 => ?_
   have hhd := hsep.hd l (by omega) _ (head_in (hsep.ne l (by omega)))
   have p0 := hhd.1; have p1 := hhd.2
   have hrl : 0 < (row2 (clsR (belP c) (monL c x k)) (l : Int)).length := List.length_pos_iff.2 (hsep.ne l (by omega))
   have hrw := cls_row (belP c) (monL c x k) l (by omega)
   have hml := monL_len c x k
   refine gc_region ?_
   refine gm ?_
   refine gm ?_
   refine gv (qti2 (fun w M => lenA_U (n := 1) rfl M)) ?_
   refine gv (qt_loadU (n := 1) rfl rfl underlying24 rfl rfl (by omega) (by omega)) ?_
   refine gop fun K28 hK28 => ?_
   refine go_callL rfl rfl rfl func68 rfl (by decide) rfl (fun w M => specOwn_any w _ _ (mem_rowU (n := 1) M rfl (by omega) (by omega))) ?_
   intro va27 vc27
   refine hK28 _ _ ?_
   refine gas ?_
   refine gnt (hK26 _ _ ?_)
   refine gc_seq fun K29 hK29 => ?_
   refine gc_seq fun K30 hK30 => ?_
   refine gc_draw (by kernel_rfl) ?_
   refine gdv (qts underlying27 (n := 0)) ?_
   refine gdv (qt_move rfl rfl) ?_
   refine gdv (qt_move rfl rfl) ?_
   refine gdv (qti (fun w M => lenA_own1 (n := 3) rfl M)) ?_
   refine gdv (qtd (fun w M => (mem_own1 (n := 3) M rfl).rd)) ?_
   refine gd_q (.free rfl) rfl rfl (qt_call rfl func69 rfl (by decide) rfl (fun w M => specBelow_any w _ _ (_) (_) (mem_rdC M h0) (by first | assumption | omega) (by first | assumption | omega) (by first | assumption | omega) (by first | assumption | omega) (by first | assumption | omega))) ?_
   refine gd_splitv (.free rfl) rfl rfl (qt_move rfl rfl) (fun hs11_6 => ?_) (fun hs11_6 => ?_)
   ·try simp only [sA] at hs11_6
    refine gdvh (qts underlying27 (n := 0)) ?_
    refine gdvh (qt_move rfl rfl) ?_
    refine gdvh (qti (fun w M => lenA_own1 (n := 3) rfl M)) ?_
    refine gdvh (qtd (fun w M => (mem_own1 (n := 3) M rfl).rd)) ?_
    refine gdvh (qt_move rfl rfl) ?_
    refine gd_q (.held _ _ _ rfl rfl rfl) rfl rfl (qt_call rfl func69 rfl (by decide) rfl (fun w M => specBelow_any w _ _ (_) (_) (mem_rdC M h0) (by first | assumption | omega) (by first | assumption | omega) (by first | assumption | omega) (by first | assumption | omega) (by first | assumption | omega))) ?_
    refine gdv (qt_pick_t rfl rfl rfl) ?_
    refine gd_nil ?_
    refine gk_then (hK30 _ _ ?_)
    refine gc_cond rfl (fun hc3 => ?_) (fun hc3 => ?_)
    ·try simp only [sA] at hc3
     refine gc_sr fun K31 hK31 => ?_
     refine gm ?_
     refine gm ?_
     refine gop fun K33 hK33 => ?_
     refine go_slice1 rfl rfl rfl rfl underlying24 ?_
     intro B32
     refine hK33 _ _ ?_
     refine gop fun K35 hK35 => ?_
     refine go_append (n := 3) (m := 4) rfl rfl rfl underlying24 rfl rfl rfl rfl (by omega) ?_
     intro va34 vc34
     refine hK35 _ _ ?_
     refine gas ?_
     refine gnt (hK31 _ _ ?_)
     refine gc_region ?_
     refine gas ?_
     refine gnt (hK29 _ _ ?_)
     refine gc_region ?_
     refine gm ?_
     refine gm ?_
     refine gop fun K37 hK37 => ?_
     refine go_sliceR1 (m := 3) rfl rfl rfl rfl underlying25 rfl ?_
     intro B36
     refine hK37 _ _ ?_
     refine gop fun K39 hK39 => ?_
     refine go_appendRow (n := 2) (m := 3) (m' := 2) rfl rfl rfl underlying25 rfl rfl rfl rfl rfl (by omega) ?_
     intro va38 vc38
     refine hK39 _ _ ?_
     refine gas ?_
     refine g_nil ?_
     refine gk_block ?_
     refine gk_then (hK25 _ _ ?_)
     refine gc_region ?_
     refine gm ?_
     refine gv (qt_add rfl rfl rfl (by omega)) ?_
     refine gas ?_
     refine g_nil ?_
     rw [nx_t (show mutR (belP c) (k : Int) (row2 (clsR (belP c) (monL c x k)) (l : Int)) from ⟨bP_t' hs11_6, bP_t' hc3⟩)]
     simp only [rowsTo_succ]
     refine gk_then (gk_take 3 ?_)
     refine gk_sub ?hs_40 (hKL22 (l + 1, _, _, _, true) ?hi_40 ?hm_40)
     case hs_40 => repeat first | exact sub_nil | refine sub_cons rfl ?_
     case hi_40 => exact ⟨by omega, fun _ => ⟨l, by omega, bP_t' hs11_6, bP_t' hc3⟩, fun h => by cases h⟩
     case hm_40 => omega
    try simp only [sA] at hc3
    refine gc_skip ?_
    refine gk_then (hK29 _ _ ?_)
    refine gc_region ?_
    refine gm ?_
    refine gm ?_
    refine gop fun K42 hK42 => ?_
    refine go_sliceR1 (m := 3) rfl rfl rfl rfl underlying25 rfl ?_
    intro B41
    refine hK42 _ _ ?_
    refine gop fun K44 hK44 => ?_
    refine go_appendRow (n := 2) (m := 3) (m' := 2) rfl rfl rfl underlying25 rfl rfl rfl rfl rfl (by omega) ?_
    intro va43 vc43
    refine hK44 _ _ ?_
    refine gas ?_
    refine g_nil ?_
    refine gk_block ?_
    refine gk_then (hK25 _ _ ?_)
    refine gc_region ?_
    refine gm ?_
    refine gv (qt_add rfl rfl rfl (by omega)) ?_
    refine gas ?_
    refine g_nil ?_
    rw [nx_f (show ¬ mutR (belP c) (k : Int) (row2 (clsR (belP c) (monL c x k)) (l : Int)) from fun h => bP_f' hc3 h.2)]
    simp only [rowsTo_succ]
    refine gk_then (gk_take 3 ?_)
    refine gk_sub ?hs_45 (hKL22 (l + 1, _, _, _, p) ?hi_45 ?hm_45)
    case hs_45 => repeat first | exact sub_nil | refine sub_cons rfl ?_
    case hi_45 => exact ⟨by omega, fun h => (hp1 h).imp fun i hi => ⟨by omega, hi.2⟩, fun h => all_next (hp0 h) fun hm => bP_f' hc3 hm.2⟩
    case hm_45 => omega
   try simp only [sA] at hs11_6
   refine gdsk ?_
   refine gdsk ?_
   refine gdsk ?_
   refine gdsk ?_
   refine gdsk ?_
   refine gdsk ?_
   refine gdv (qt_pick_f rfl rfl rfl) ?_
   refine gd_nil ?_
   refine gk_then (hK30 _ _ ?_)
   refine gc_cond_f rfl ?_
   refine gc_skip ?_
   refine gk_then (hK29 _ _ ?_)
   refine gc_region ?_
   refine gm ?_
   refine gm ?_
   refine gop fun K47 hK47 => ?_
   refine go_sliceR1 (m := 3) rfl rfl rfl rfl underlying25 rfl ?_
   intro B46
   refine hK47 _ _ ?_
   refine gop fun K49 hK49 => ?_
   refine go_appendRow (n := 2) (m := 3) (m' := 2) rfl rfl rfl underlying25 rfl rfl rfl rfl rfl (by omega) ?_
   intro va48 vc48
   refine hK49 _ _ ?_
   refine gas ?_
   refine g_nil ?_
   refine gk_block ?_
   refine gk_then (hK25 _ _ ?_)
   refine gc_region ?_
   refine gm ?_
   refine gv (qt_add rfl rfl rfl (by omega)) ?_
   refine gas ?_
   refine g_nil ?_
   rw [nx_f (show ¬ mutR (belP c) (k : Int) (row2 (clsR (belP c) (monL c x k)) (l : Int)) from fun h => bP_f' hs11_6 h.1)]
   simp only [rowsTo_succ]
   refine gk_then (gk_take 3 ?_)
   refine gk_sub ?hs_50 (hKL22 (l + 1, _, _, _, p) ?hi_50 ?hm_50)
   case hs_50 => repeat first | exact sub_nil | refine sub_cons rfl ?_
   case hi_50 => exact ⟨by omega, fun h => (hp1 h).imp fun i hi => ⟨by omega, hi.2⟩, fun h => all_next (hp0 h) fun hm => bP_f' hs11_6 hm.1⟩
   case hm_50 => omega
  try simp only [sA] at hc2
  refine gc_exit ?_
  refine gk_then_exit ?_
  refine gk_then_exit ?_
  refine gk_block_hit ?_
  refine gk_then (hK20 _ _ ?_)
  refine gc_seq fun K51 hK51 => ?_
  refine gc_sr fun K52 hK52 => ?_
  refine gm ?_
  refine gv (qt_not rfl rfl) ?_
  refine gnt (hK52 _ _ ?_)
  refine gc_cond rfl (fun hc4 => ?_) (fun hc4 => ?_)
  ·try simp only [sA] at hc4
   refine gc_region ?_
   refine gm ?_
   refine gm ?_
   refine gop fun K54 hK54 => ?_
   refine go_slice1 rfl rfl rfl rfl underlying24 ?_
   intro B53
   refine hK54 _ _ ?_
   refine gop fun K56 hK56 => ?_
   refine go_sliceR1 (m := 3) rfl rfl rfl rfl underlying25 rfl ?_
   intro B55
   refine hK56 _ _ ?_
   refine gop fun K58 hK58 => ?_
   refine go_appendRow (n := 2) (m := 3) (m' := 2) rfl rfl rfl underlying25 rfl rfl rfl rfl rfl (by omega) ?_
   intro va57 vc57
   refine hK58 _ _ ?_
   refine gas ?_
   refine gnt (hK51 _ _ ?_)
   refine gc_region ?_
   refine gm ?_
   refine gas ?_
   refine g_nil ?_
   refine gk_block ?_
   refine gk_then (hK12 _ _ ?_)
   refine gc_region ?_
   refine gm ?_
   refine gv (qt_add rfl rfl rfl (by omega)) ?_
   refine gas ?_
   refine g_nil ?_
   obtain rfl : l = (clsR (belP c) (monL c x k)).length := by omega
   rw [sub_new (by omega) (bP_t' hc1) (hp0 (by assumption))]
   refine gk_erase 1 ?_
   refine gk_then (gk_take 2 ?_)
   refine gk_sub ?hs_59 (hKL9 (k + 1, _, _, _) ?hi_59 ?hm_59)
   case hs_59 => repeat first | exact sub_nil | refine sub_cons rfl ?_
   case hi_59 => omega
   case hm_59 => omega
  try simp only [sA] at hc4
  refine gc_skip ?_
  refine gk_then (hK51 _ _ ?_)
  refine gc_region ?_
  refine gm ?_
  refine gas ?_
  refine g_nil ?_
  refine gk_block ?_
  refine gk_then (hK12 _ _ ?_)
  refine gc_region ?_
  refine gm ?_
  refine gv (qt_add rfl rfl rfl (by omega)) ?_
  refine gas ?_
  refine g_nil ?_
  obtain rfl : l = (clsR (belP c) (monL c x k)).length := by omega
  rw [sub_old hC (by omega) (by omega) (bP_t' hc1) (hp1 (by assumption))]
  refine gk_erase 1 ?_
  refine gk_then (gk_take 2 ?_)
  refine gk_sub ?hs_60 (hKL9 (k + 1, _, _, _) ?hi_60 ?hm_60)
  case hs_60 => repeat first | exact sub_nil | refine sub_cons rfl ?_
  case hi_60 => omega
  case hm_60 => omega
 try simp only [sA] at hc0
 refine gc_exit ?_
 refine gk_then_exit ?_
 refine gk_then_exit ?_
 refine gk_block_hit ?_
 refine gk_then (hK7 _ _ ?_)
 refine gc_sr fun K61 hK61 => ?_
 refine gm ?_
 refine gas ?_
 refine gnt (hK61 _ _ ?_)
 refine gc_ret ?_
 refine ret_1 rfl rfl  (fun w M => ?_)
 obtain rfl : k = c.s.length := by omega
 obtain ⟨S, hS2, hb⟩ := mem_2U (n := 1) M rfl
 exact ⟨_, rfl, Own2.at (S := S) ⟨_, hb⟩ hS2, M.1⟩
theorem SubobjectsOf_e {c : Cat} {x : Int} (h : ¬ objErr c [x] = 0) : fSubobjectsOf c x = ([], objErr c [x]) := if_neg h
theorem SubobjectsOf_t {c : Cat} {x : Int} (h : objErr c [x] = 0) : fSubobjectsOf c x = (clsR (belP c) (monL c x c.s.length), 0) := if_pos h
theorem retRI5 {w W : World} {c : Int} (hb : Below W.heap.size W w) : RetRI W [] c (.returned (.tuple #[.slice none 0 0, .int .i64 c])) w := by
 refine ⟨_, rfl, Own2.at (S := fun k => W.heap.size ≤ k) ⟨[], rfl, by simp, World.ownsRow_nil w 0 _ 1, fun i hi => by simp at hi, fun i j _ hj => by simp at hj, fun q hq => by simp [Value.ownBlock] at hq⟩ (fun k h => h), hb⟩
theorem bel_dec {c : Cat} {m n : Int} : bP (belP c m n) = decide (0 < ((solL (bef c n) m c.s.length).length : Int)) := by
 rw [← bP_dec]
 refine bP_congr ⟨fun ⟨k, hk, h⟩ => ?_, fun h => ?_⟩
 ·have : (k : Int) ∈ solL (bef c n) m c.s.length := sol_mem.2 ⟨k, hk, h, rfl⟩
  have := List.length_pos_of_mem this; omega
 have h0 : 0 < (solL (bef c n) m c.s.length).length := by omega
 obtain ⟨j, hj, h1, _⟩ := sol_mem.1 (List.getElem_mem h0)
 exact ⟨j, hj, h1⟩
theorem idxF_in {p : Nat → Prop} {n : Nat} (h : 0 ≤ idxF p n) : ∃ i : Nat, idxF p n = (i : Int) ∧ i < n ∧ p i ∧ ∀ j, j < i → ¬ p j := by
 have hb : bP (∃ i, i < n ∧ p i) = true := by rw [idxF_ex]; exact decide_eq_true h
 obtain ⟨i, hi, hp⟩ := bP_iff.1 hb
 have hl := leastN_spec (p := fun i => i < n ∧ p i) ⟨hi, hp⟩
 have hno : ∀ j, j < leastN (fun i => i < n ∧ p i) → ¬ p j := fun j hj hp => by
  have := (leastN_spec (p := fun i => i < n ∧ p i) (n := j) ⟨by have := hl.1.1; omega, hp⟩).2
  omega
 exact ⟨_, idxF_t hl.1.1 hl.1.2 hno, hl.1.1, hl.1.2, hno⟩
theorem idxF_no {p : Nat → Prop} {n : Nat} (h : ¬ 0 ≤ idxF p n) : ∀ j, j < n → ¬ p j := fun j hj hp => by
 have hb : bP (∃ i, i < n ∧ p i) = false := by rw [idxF_ex]; exact decide_eq_false h
 exact bP_f' hb ⟨j, hj, hp⟩
theorem take_at {xs : List Int} {k : Nat} (hk : k < xs.length) : xs.take (k + 1) = xs.take k ++ [at0 xs (k : Int)] := by
 rw [List.take_succ_eq_append_getElem hk, at0_nat, List.getD_eq_getElem?_getD, List.getElem?_eq_getElem hk]; rfl
theorem mut_old {r : Int → Int → Prop} {xs : List Int} {k i : Nat} (hk : k < xs.length) (hi : i < (clsR r (xs.take k)).length) (h : mutR r (at0 xs (k : Int)) (row2 (clsR r (xs.take k)) (i : Int))) (h2 : ∀ j : Nat, j < i → ¬ mutR r (at0 xs (k : Int)) (row2 (clsR r (xs.take k)) (j : Int))) :
  (clsR r (xs.take k)).set ((i : Int)).toNat (row2 (clsR r (xs.take k)) (i : Int) ++ [at0 xs (k : Int)]) = clsR r (xs.take (k + 1)) := by
 rw [take_at hk, clsR_app, addR_old hi h h2, Int.toNat_natCast]
theorem mut_new {r : Int → Int → Prop} {xs : List Int} {k : Nat} (hk : k < xs.length) (h : ∀ j : Nat, j < (clsR r (xs.take k)).length → ¬ mutR r (at0 xs (k : Int)) (row2 (clsR r (xs.take k)) (j : Int))) :
  clsR r (xs.take k) ++ [[at0 xs (k : Int)]] = clsR r (xs.take (k + 1)) := by
 rw [take_at hk, clsR_app, addR_new h]
theorem mut_len {r : Int → Int → Prop} {xs : List Int} {k i : Nat} (hk : k < xs.length) (hi : i < (clsR r (xs.take k)).length) (h : mutR r (at0 xs (k : Int)) (row2 (clsR r (xs.take k)) (i : Int))) (h2 : ∀ j : Nat, j < i → ¬ mutR r (at0 xs (k : Int)) (row2 (clsR r (xs.take k)) (j : Int))) : (clsR r (xs.take k)).length = (clsR r (xs.take (k + 1))).length := by
 rw [take_at hk, clsR_app, addR_old hi h h2, List.length_set]
def CallB2 (w : World) (g : Value) (n : Nat) (r : Int → Int → Prop) : Prop := ∀ w', Below w.heap.size w w' → ∀ a b : Int, 0 ≤ a → a < n → 0 ≤ b → b < n → CallsV g [.int .i64 a, .int .i64 b] w' (RetB w' (bP (r a b)))
theorem l02Object_any (w : World) (v : Value) (c : Cat) (x : Int) (h : RdC w v c) :
  Calls Try.prog 44 #[v, .int .i64 x] w (RetB w (bP (0 ≤ x ∧ x < c.ob))) := by
 have h0 := h
 obtain ⟨va, vb, vc, vd, ve, vf, vg, vh, rfl, h1, h2, h3, h4, _⟩ := h.lists
 go_enter func44, Try.ntmps44
 refine gc_enter (N := 13) rfl (look_cons (k := 0) rfl (look_cons (k := 1) rfl (look_nil _))) ?_
 refine gc_sr fun K1 hK1 => ?_
 refine gop fun K3 hK3 => ?_
 refine go_box rfl rfl rfl rfl rfl ?_
 intro B2
 refine hK3 _ _ ?_
 refine gas ?_
 refine gnt (hK1 _ _ ?_)
 refine gc_sr fun K4 hK4 => ?_
 refine gm ?_
 refine gv (qt_geq rfl rfl rfl) ?_
 refine g_splitv (.free rfl) rfl rfl (qt_move rfl rfl) (fun hs1_2 => ?_) (fun hs1_2 => ?_)
 ·try simp only [sA] at hs1_2
  refine gvh (qt_move rfl rfl) ?_
  refine gvh (qtf underlying27 (z := 0) (off := 0)) ?_
  refine gvh (qtl underlying2 (n := 0)) ?_
  refine gvh (qt_lss rfl rfl rfl) ?_
  refine gv (qt_pick_t rfl rfl rfl) ?_
  refine gas ?_
  refine gnt (hK4 _ _ ?_)
  refine gc_ret ?_
  refine ret_1 rfl rfl  (fun w M => ?_)
  rw [bP_dec]; exact ⟨by first | rfl | (congr 2; simp; omega), M.1⟩
 try simp only [sA] at hs1_2
 refine gsk ?_
 refine gsk ?_
 refine gsk ?_
 refine gsk ?_
 refine gv (qt_pick_f rfl rfl rfl) ?_
 refine gas ?_
 refine gnt (hK4 _ _ ?_)
 refine gc_ret ?_
 refine ret_1 rfl rfl  (fun w M => ?_)
 rw [bP_f (by omega)]; exact ⟨rfl, M.1⟩
theorem spec_SubobjectsOf (w : World) (v : Value) (c : Cat) (x : Int) (h : RdC w v c) :
  Calls Try.prog 17 #[v, .int .i64 x] w (RetRI w (fSubobjectsOf c x).1 (fSubobjectsOf c x).2) := by
 have h0 := h
 obtain ⟨va, vb, vc, vd, ve, vf, vg, vh, rfl, h1, h2, h3, h4, _⟩ := h.lists
 go_enter func17, Try.ntmps17
 refine gc_enter (N := 18) rfl (look_cons (k := 0) rfl (look_cons (k := 1) rfl (look_nil _))) ?_
 refine gc_sr fun K1 hK1 => ?_
 refine gop fun K3 hK3 => ?_
 refine go_box rfl rfl rfl rfl rfl ?_
 intro B2
 refine hK3 _ _ ?_
 refine gas ?_
 refine gas ?_
 refine gnt (hK1 _ _ ?_)
 refine gc_seq fun K4 hK4 => ?_
 refine gc_block ?_
 refine gc_sr fun K5 hK5 => ?_
 refine gv (qts underlying27 (n := 0)) ?_
 refine g_q (.free rfl) rfl rfl (qt_call rfl func43 rfl (by decide) rfl (fun w M => specIs_any w _ _ (mem_rdC M h0))) ?_
 refine gv (qt_not rfl rfl) ?_
 refine gas ?_
 refine gnt (hK5 _ _ ?_)
 refine gc_cond rfl (fun hc0 => ?_) (fun hc0 => ?_)
 ·try simp only [sA] at hc0
  refine gc_sr fun K6 hK6 => ?_
  refine gas ?_
  refine gas ?_
  refine gnt (hK6 _ _ ?_)
  refine gc_ret ?_
  refine gk_block_ret ?_
  refine gk_then_ret ?_
  refine ret_2 rfl rfl rfl  (fun w M => ?_)
  rw [SubobjectsOf_e (by rw [objErr_f hc0]; decide), objErr_f hc0]; exact retRI5 M.1
 try simp only [sA] at hc0
 refine gc_sr fun K7 hK7 => ?_
 refine gv (qts underlying27 (n := 0)) ?_
 refine gm ?_
 refine g_q (.free rfl) rfl rfl (qt_call rfl func44 rfl (by decide) rfl (fun w M => l02Object_any w _ _ _ (mem_rdC M h0))) ?_
 refine gv (qt_not rfl rfl) ?_
 refine gas ?_
 refine gnt (hK7 _ _ ?_)
 refine gc_cond rfl (fun hc1 => ?_) (fun hc1 => ?_)
 ·try simp only [sA] at hc1
  refine gc_sr fun K8 hK8 => ?_
  refine gas ?_
  refine gas ?_
  refine gnt (hK8 _ _ ?_)
  refine gc_ret ?_
  refine gk_block_ret ?_
  refine gk_then_ret ?_
  refine ret_2 rfl rfl rfl  (fun w M => ?_)
  have hE : objErr c [x] = 2 := objErr_r hc0 (fun h => bP_f' hc1 (allP_one.1 h))
  rw [SubobjectsOf_e (by rw [hE]; decide), hE]; exact retRI5 M.1
 try simp only [sA] at hc1
 refine gc_skip ?_
 refine gk_block ?_
 refine gk_then (hK4 _ _ ?_)
 refine gc_seq fun K9 hK9 => ?_
 have hC := isCat_of hc0
 have hS := hC.toShapeP
 have hE : objErr c [x] = 0 := objErr_t hc0 (allP_one.2 (bP_t' hc1))
 refine gc_region ?_
 refine gv (qts underlying27 (n := 0)) ?_
 refine gm ?_
 refine gop fun K11 hK11 => ?_
 refine go_callR rfl rfl rfl func45 rfl (by decide) rfl (fun w M => specSub5_any w _ _ _ (mem_rdC M h0) (by first | assumption | omega)) ?_
 intro va10 vc10 us10
 refine hK11 _ _ ?_
 refine gas ?_
 refine gas ?_
 refine gnt (hK9 _ _ ?_)
 refine gc_ret ?_
 refine ret_2 rfl rfl rfl  (fun w M => ?_)
 rw [SubobjectsOf_t hE]
 obtain ⟨S, hS2, hb⟩ := mem_2U (n := 1) M rfl
 exact ⟨_, rfl, Own2.at (S := S) ⟨_, hb⟩ hS2, M.1⟩
theorem liftsThrough_any (w : World) (v : Value) (c : Cat) (f g : Int) (h : RdC w v c) (hS : ShapeP c) (g0 : 0 ≤ g) (g1 : g < c.s.length) :
  Calls Try.prog 42 #[v, .int .i64 f, .int .i64 g] w (RetB w (bP (belP c f g))) := by
 have h0 := h
 obtain ⟨va, vb, vc, vd, ve, vf, vg, vh, rfl, h1, h2, h3, h4, _⟩ := h.lists
 have hn40 := hS.n40
 go_enter func42, Try.ntmps42
 refine gc_enter (N := 15) rfl (look_cons (k := 0) rfl (look_cons (k := 1) rfl (look_cons (k := 2) rfl (look_nil _)))) ?_
 refine gc_sr fun K1 hK1 => ?_
 refine gop fun K3 hK3 => ?_
 refine go_box rfl rfl rfl rfl rfl ?_
 intro B2
 refine hK3 _ _ ?_
 refine gas ?_
 refine gnt (hK1 _ _ ?_)
 refine gc_seq fun K4 hK4 => ?_
 try simp only [sL]
 refine ga_start _ (fun w M => M) ?_
 refine gav 0 rfl (qts underlying27 (n := 0)) ?_
 refine gav 1 rfl (qts underlying27 (n := 0)) ?_
 refine gav 2 rfl (qt_move rfl rfl) ?_
 refine gav 4 rfl (qt_move rfl rfl) ?_
 refine gao 3 fun K6 hK6 => ?_
 refine go_callFv rfl rfl rfl func50 rfl (by decide) rfl (fun w M => before_any w (_) _ _ (_) (h0) (M.1) (by first | assumption | omega) (g0) (g1)) ?_
 intro fv5
 refine hK6 _ _ (fun w M => (mem_take 1 M :)) ?_
 refine gao 5 fun K8 hK8 => ?_
 refine go_callL rfl rfl rfl func49 rfl (by decide) rfl (fun w M => solutions_any w _ _ (_) (bef c g) (_) (mem_rdC M h0) (by first | assumption | omega) (fun w' hb => mem_fv (n := 1) M rfl hb)) ?_
 intro va7 vc7
 refine hK8 _ _ (fun w M => (mem_take 1 M :)) ?_
 refine gao 6 fun K9 hK9 => ?_
 refine gov (qln (fun w M => lenV_own1 (n := 2) rfl M)) ?_
 refine hK9 _ _ (fun w M => (mem_take 1 M :)) ?_
 refine gav 7 rfl (qt_gtr rfl rfl rfl) ?_
 refine gav 8 rfl (qt_assign rfl rfl) ?_
 refine ga_done (by kernel_rfl) ?_
 refine gk_then (hK4 _ _ ?_)
 refine gc_ret ?_
 refine ret_1 rfl rfl  (fun w M => ?_)
 rw [bel_dec]; exact ⟨rfl, M.1⟩
theorem arrowsWith_any (w : World) (u : Value) (es : List Int) (x : Int) (g : Value) (P : Int → Prop) (hu : Rd w u es) (hg : ∀ w', Below w.heap.size w w' → ∀ f : Int, 0 ≤ f → f < es.length → CallsV g [.int .i64 f] w' (RetB w' (bP (P f)))) :
  Calls Try.prog 41 #[u, .int .i64 x, g] w (RetL w (filTo (fun f => at0 es (f : Int) = x ∧ P (f : Int)) (fun f => (f : Int)) es.length)) := by
 obtain ⟨ua, uc, rfl⟩ := rd_form hu
 have hul : es.length ≤ 17592186044415 := by obtain ⟨_, _, _, hl, _⟩ := hu; exact hl
 go_enter func41, Try.ntmps41
 refine gc_enter (N := 31) rfl (look_cons (k := 0) rfl (look_cons (k := 1) rfl (look_cons (k := 2) rfl (look_nil _)))) ?_
 refine gc_sr fun K1 hK1 => ?_
 refine gas ?_
 refine gnt (hK1 _ _ ?_)
 refine gc_sr fun K2 hK2 => ?_
 refine gas ?_
 refine gnt (hK2 _ _ ?_)
 refine gc_seq fun K3 hK3 => ?_
 refine gc_seq fun K4 hK4 => ?_
 refine gc_nilS ?_
 refine gc_region ?_
 refine gm ?_
 refine gv (qln (fun w M => lenV_rd hu)) ?_
 refine gm ?_
 refine gnt (hK4 _ _ ?_)
 refine gc_block ?_
 try simp only [sL]
 refine gc_loopT ([(0, _), (1, _), (2, _), (6, _), (10, _), (11, _)] : Env) (fun s : Nat × (Option Addr) × Nat => (fun (k : Nat) (a : Option Addr) (q : Nat) => (([(7, .slice a (filTo (fun f => at0 es (f : Int) = x ∧ P (f : Int)) (fun f => (f : Int)) k).length q), (12, .int .i64 (k : Int))] : Env), ([(0, own1I (.slice a (filTo (fun f => at0 es (f : Int) = x ∧ P (f : Int)) (fun f => (f : Int)) k).length q) (filTo (fun f => at0 es (f : Int) = x ∧ P (f : Int)) (fun f => (f : Int)) k))] : List (Nat × Itm)), k ≤ es.length, es.length - k)) s.1 s.2.1 s.2.2) (0, _, _) (by repeat first | exact sub_nil | refine sub_cons rfl ?_) rfl (Nat.zero_le _) ?_
 rintro ⟨k, a, q⟩ hinv KL5 hKL5
 simp only [sU, sL] at hinv hKL5 ⊢
 have hk := hinv
 have hl := filTo_len (fun f => at0 es (f : Int) = x ∧ P (f : Int)) (fun f => (f : Int)) k
 refine gc_sr fun K6 hK6 => ?_
 refine gv (qt_lss rfl rfl rfl) ?_
 refine gnt (hK6 _ _ ?_)
 refine gc_seq fun K7 hK7 => ?_
 refine gc_cond rfl (fun hc0 => ?_) (fun hc0 => ?_)
 ·try simp only [sA] at hc0
  refine gc_skip ?_
  refine gk_then (hK7 _ _ ?_)
  refine gc_seq fun K8 hK8 => ?_
  refine gc_block ?_
  refine gc_sr fun K9 hK9 => ?_
  refine gm ?_
  refine gv (qti (fun w M => lenA_rd hu)) ?_
  refine gv (qtd (fun w M => mem_rd M hu)) ?_
  refine gas ?_
  refine gas ?_
  refine gnt (hK9 _ _ ?_)
  refine gc_sr fun K10 hK10 => ?_
  refine gm ?_
  refine gm ?_
  refine gv (qt_eql rfl rfl rfl) ?_
  refine g_splitv (.free rfl) rfl rfl (qt_move rfl rfl) (fun hs5_3 => ?_) (fun hs5_3 => ?_)
  ·try simp only [sA] at hs5_3
   refine gvh (qt_move rfl rfl) ?_
   refine gvh (qt_move rfl rfl) ?_
   refine g_q (.held _ _ _ rfl rfl rfl) rfl rfl (qt_callV rfl rfl rfl (fun w M => hg w M.1 (k : Int) (by omega) (by omega))) ?_
   refine gv (qt_pick_t rfl rfl rfl) ?_
   refine gnt (hK10 _ _ ?_)
   refine gc_cond rfl (fun hc1 => ?_) (fun hc1 => ?_)
   ·try simp only [sA] at hc1
    refine gc_region ?_
    refine gm ?_
    refine gm ?_
    refine gop fun K12 hK12 => ?_
    refine go_slice1 rfl rfl rfl rfl underlying24 ?_
    intro B11
    refine hK12 _ _ ?_
    refine gop fun K14 hK14 => ?_
    refine go_append (n := 0) (m := 1) rfl rfl rfl underlying24 rfl rfl rfl rfl (by omega) ?_
    intro va13 vc13
    refine hK14 _ _ ?_
    refine gas ?_
    refine g_nil ?_
    refine gk_block ?_
    refine gk_then (hK8 _ _ ?_)
    refine gc_region ?_
    refine gv (qt_add rfl rfl rfl (by omega)) ?_
    refine gm ?_
    refine g_nil ?_
    rw [filTo_t (p := fun f => at0 es (f : Int) = x ∧ P (f : Int)) (φ := fun f => (f : Int)) (k := k) ⟨hs5_3, bP_t' hc1⟩]
    refine gk_then (gk_take 1 ?_)
    refine gk_sub ?hs_15 (hKL5 (k + 1, _, _) ?hi_15 ?hm_15)
    case hs_15 => repeat first | exact sub_nil | refine sub_cons rfl ?_
    case hi_15 => omega
    case hm_15 => omega
   try simp only [sA] at hc1
   refine gc_skip ?_
   refine gk_block ?_
   refine gk_then (hK8 _ _ ?_)
   refine gc_region ?_
   refine gv (qt_add rfl rfl rfl (by omega)) ?_
   refine gm ?_
   refine g_nil ?_
   rw [filTo_f (p := fun f => at0 es (f : Int) = x ∧ P (f : Int)) (φ := fun f => (f : Int)) (k := k) (fun h => bP_f' hc1 h.2)]
   refine gk_then (gk_take 1 ?_)
   refine gk_sub ?hs_16 (hKL5 (k + 1, _, _) ?hi_16 ?hm_16)
   case hs_16 => repeat first | exact sub_nil | refine sub_cons rfl ?_
   case hi_16 => omega
   case hm_16 => omega
  try simp only [sA] at hs5_3
  refine gsk ?_
  refine gsk ?_
  refine gsk ?_
  refine gv (qt_pick_f rfl rfl rfl) ?_
  refine gnt (hK10 _ _ ?_)
  refine gc_cond_f rfl ?_
  refine gc_skip ?_
  refine gk_block ?_
  refine gk_then (hK8 _ _ ?_)
  refine gc_region ?_
  refine gv (qt_add rfl rfl rfl (by omega)) ?_
  refine gm ?_
  refine g_nil ?_
  rw [filTo_f (p := fun f => at0 es (f : Int) = x ∧ P (f : Int)) (φ := fun f => (f : Int)) (k := k) (fun h => hs5_3 h.1)]
  refine gk_then (gk_take 1 ?_)
  refine gk_sub ?hs_17 (hKL5 (k + 1, _, _) ?hi_17 ?hm_17)
  case hs_17 => repeat first | exact sub_nil | refine sub_cons rfl ?_
  case hi_17 => omega
  case hm_17 => omega
 try simp only [sA] at hc0
 refine gc_exit ?_
 refine gk_then_exit ?_
 refine gk_then_exit ?_
 refine gk_block_hit ?_
 refine gk_then (hK3 _ _ ?_)
 refine gc_sr fun K18 hK18 => ?_
 refine gm ?_
 refine gas ?_
 refine gnt (hK18 _ _ ?_)
 refine gc_ret ?_
 refine ret_1 rfl rfl  (fun w M => ?_)
 obtain rfl : k = es.length := by omega
 exact ⟨_, rfl, mem_own1 (n := 0) M rfl, M.1⟩
theorem idxRows_any (w : World) (u : Value) (rows : List (List Int)) (fv : Value) (p : Nat → Prop) (hu : Rd2 w u rows) (hf : ∀ w', Below w.heap.size w w' → ∀ (i : Nat) (v : Value), i < rows.length → Rd w' v (row2 rows (i : Int)) → CallsV fv [v] w' (RetB w' (bP (p i)))) :
  Calls Try.prog 65 #[u, fv] w (RetI w (idxF p rows.length)) := by
 obtain ⟨ua, uc, rfl⟩ := rd2_form hu
 have hul := rd2_len hu
 go_enter func65, Try.ntmps65
 refine gc_enter (N := 19) rfl (look_cons (k := 0) rfl (look_cons (k := 1) rfl (look_nil _))) ?_
 refine gc_sr fun K1 hK1 => ?_
 refine gas ?_
 refine gnt (hK1 _ _ ?_)
 refine gc_seq fun K2 hK2 => ?_
 refine gc_sr fun K3 hK3 => ?_
 refine gm ?_
 refine gv (qt_len rfl rfl ulE2 (fun w M => lenV_rd2 hu)) ?_
 refine gm ?_
 refine gnt (hK3 _ _ ?_)
 refine gc_block ?_
 try simp only [sL]
 refine gc_loopT ([(0, _), (1, _), (7, _)] : Env) (fun s : Nat => (fun (k : Nat) => (([(8, .int .i64 (k : Int))] : Env), ([] : List (Nat × Itm)), k ≤ rows.length ∧ ∀ j : Nat, j < k → ¬ p j, rows.length - k)) s) (0) (by repeat first | exact sub_nil | refine sub_cons rfl ?_) rfl ⟨Nat.zero_le _, fun j hj => absurd hj (by omega)⟩ ?_
 rintro k hinv KL4 hKL4
 simp only [sU, sL] at hinv hKL4 ⊢
 obtain ⟨hk, hno⟩ := hinv
 refine gc_sr fun K5 hK5 => ?_
 refine gv (qt_lss rfl rfl rfl) ?_
 refine gnt (hK5 _ _ ?_)
 refine gc_seq fun K6 hK6 => ?_
 refine gc_cond rfl (fun hc0 => ?_) (fun hc0 => ?_)
 ·try simp only [sA] at hc0
  refine gc_skip ?_
  refine gk_then (hK6 _ _ ?_)
  refine gc_seq fun K7 hK7 => ?_
  refine gc_block ?_
  refine gc_sr fun K8 hK8 => ?_
  refine gm ?_
  refine gas ?_
  refine gnt (hK8 _ _ ?_)
  refine gc_sr fun K9 hK9 => ?_
  refine gm ?_
  refine gm ?_
  refine gm ?_
  refine gv (qti2 (fun w M => lenA_rd2 hu)) ?_
  refine g_load2 (.free rfl) rfl rfl rfl rfl underlying24 rfl hu (by omega) (by omega) ?_
  intro ra10 rc10 hr10
  refine g_q (.free rfl) rfl rfl (qt_callV rfl rfl rfl (fun w M => hf w M.1 k _ (by omega) (mem_rd M hr10))) ?_
  refine gnt (hK9 _ _ ?_)
  refine gc_cond rfl (fun hc1 => ?_) (fun hc1 => ?_)
  ·try simp only [sA] at hc1
   refine gc_sr fun K11 hK11 => ?_
   refine gm ?_
   refine gas ?_
   refine gnt (hK11 _ _ ?_)
   refine gc_ret ?_
   refine gk_block_ret ?_
   refine gk_then_ret ?_
   refine gk_then_ret ?_
   refine gk_block_ret ?_
   refine gk_then_ret ?_
   refine ret_1 rfl rfl  (fun w M => ?_)
   rw [idxF_t (by omega) (bP_t' hc1) hno]; exact ⟨rfl, M.1⟩
  try simp only [sA] at hc1
  refine gc_skip ?_
  refine gk_block ?_
  refine gk_then (hK7 _ _ ?_)
  refine gc_region ?_
  refine gv (qt_add rfl rfl rfl (by omega)) ?_
  refine gm ?_
  refine g_nil ?_
  refine gk_then (gk_take 0 ?_)
  refine gk_sub ?hs_12 (hKL4 (k + 1) ?hi_12 ?hm_12)
  case hs_12 => repeat first | exact sub_nil | refine sub_cons rfl ?_
  case hi_12 => exact ⟨by omega, all_next hno (bP_f' hc1)⟩
  case hm_12 => omega
 try simp only [sA] at hc0
 refine gc_exit ?_
 refine gk_then_exit ?_
 refine gk_then_exit ?_
 refine gk_block_hit ?_
 refine gk_then (hK2 _ _ ?_)
 refine gc_sr fun K13 hK13 => ?_
 refine gas ?_
 refine gnt (hK13 _ _ ?_)
 refine gc_ret ?_
 refine ret_1 rfl rfl  (fun w M => ?_)
 rw [idxF_f fun j hj => hno j (by omega)]; exact ⟨rfl, M.1⟩
theorem mut1_any (w : World) (u : Value) (l : List Int) (B D : Nat) (tB : TypeId) (g : Value) (n : Nat) (r : Int → Int → Prop) (m : Int) (hg : CallB2 w g n r) (hu : Rd w u l) (hl : 0 < l.length) (l0 : 0 ≤ at0 l 0) (l1 : at0 l 0 < n) (m0 : 0 ≤ m) (m1 : m < n) (hbB : BxV w B tB (.agg [g].toArray)) (hbD : BxV w D 2 (.agg [.int .i64 m].toArray)) :
  Calls Try.prog 64 #[u, .pointer (some ⟨B, 0, none⟩), .pointer (some ⟨D, 0, none⟩)] w (RetB w (bP (mutR r m l))) := by
 obtain ⟨ua, uc, rfl⟩ := rd_form hu
 go_enter func64, Try.ntmps64
 refine gc_enter (N := 19) rfl (look_cons (k := 0) rfl (look_cons (k := 1) rfl (look_cons (k := 2) rfl (look_nil _)))) ?_
 refine gc_sr fun K1 hK1 => ?_
 refine gas ?_
 refine gnt (hK1 _ _ ?_)
 refine gc_seq fun K2 hK2 => ?_
 refine gc_draw (by kernel_rfl) ?_
 refine gdv (qt_loadRB hbB rfl rfl underlying72 rfl rfl) ?_
 refine gdv (qt_loadRB hbD rfl rfl underlying2 rfl rfl) ?_
 refine gdv (qt_move rfl rfl) ?_
 refine gdv (qti (fun w M => lenA_rd hu)) ?_
 refine gdv (qtd (fun w M => mem_rd M hu)) ?_
 refine gd_q (.free rfl) rfl rfl (qt_callV rfl rfl rfl (fun w M => hg w M.1 _ _ m0 m1 l0 l1)) ?_
 refine gd_splitv (.free rfl) rfl rfl (qt_move rfl rfl) (fun hs1_6 => ?_) (fun hs1_6 => ?_)
 ·try simp only [sA] at hs1_6
  refine gdvh (qt_loadRB hbB rfl rfl underlying72 rfl rfl) ?_
  refine gdvh (qt_move rfl rfl) ?_
  refine gdvh (qti (fun w M => lenA_rd hu)) ?_
  refine gdvh (qtd (fun w M => mem_rd M hu)) ?_
  refine gdvh (qt_loadRB hbD rfl rfl underlying2 rfl rfl) ?_
  refine gd_q (.held _ _ _ rfl rfl rfl) rfl rfl (qt_callV rfl rfl rfl (fun w M => hg w M.1 _ _ l0 l1 m0 m1)) ?_
  refine gdv (qt_pick_t rfl rfl rfl) ?_
  refine gdv (qt_assign rfl rfl) ?_
  refine gd_nil ?_
  refine gk_then (hK2 _ _ ?_)
  refine gc_ret ?_
  refine ret_1 rfl rfl  (fun w M => ?_)
  rw [show bP (mutR r m l) = bP (r (at0 l 0) m) from bP_congr ⟨fun h => h.2, fun h => ⟨bP_t' hs1_6, h⟩⟩]; exact ⟨rfl, M.1⟩
 try simp only [sA] at hs1_6
 refine gdsk ?_
 refine gdsk ?_
 refine gdsk ?_
 refine gdsk ?_
 refine gdsk ?_
 refine gdsk ?_
 refine gdv (qt_pick_f rfl rfl rfl) ?_
 refine gdv (qt_assign rfl rfl) ?_
 refine gd_nil ?_
 refine gk_then (hK2 _ _ ?_)
 refine gc_ret ?_
 refine ret_1 rfl rfl  (fun w M => ?_)
 rw [bP_f (fun h : mutR r m l => bP_f' hs1_6 h.1)]; exact ⟨rfl, M.1⟩
theorem mutual_any (w : World) (u : Value) (xs : List Int) (g : Value) (n : Nat) (r : Int → Int → Prop) (hu : Rd w u xs) (hx : ∀ x ∈ xs, 0 ≤ x ∧ x < n) (hxl : xs.length ≤ 1000) (hgc : g.cells = #[g]) (hg : CallB2 w g n r) :
  Calls Try.prog 40 #[u, g] w (RetR w (clsR r xs)) := by
 obtain ⟨ua, uc, rfl⟩ := rd_form hu
 go_enter func40, Try.ntmps40
 refine gc_enter (N := 39) rfl (look_cons (k := 0) rfl (look_cons (k := 1) rfl (look_nil _))) ?_
 refine gc_sr fun K1 hK1 => ?_
 refine gop fun K3 hK3 => ?_
 refine go_box rfl rfl rfl rfl hgc ?_
 intro B2
 refine hK3 _ _ ?_
 refine gas ?_
 refine gnt (hK1 _ _ ?_)
 refine gc_sr fun K4 hK4 => ?_
 refine gas ?_
 refine gnt (hK4 _ _ ?_)
 refine gc_seq fun K5 hK5 => ?_
 refine gc_sr fun K6 hK6 => ?_
 refine gm ?_
 refine gv (qln (fun w M => lenV_rd hu)) ?_
 refine gm ?_
 refine gnt (hK6 _ _ ?_)
 refine gc_block ?_
 refine gc_nilU ?_
 try simp only [sL]
 refine gc_loopT ([(0, _), (1, _), (3, _), (4, _), (10, _), (11, _)] : Env) (fun s : Nat × (Option Addr) × Nat × (List Value) => (fun (k : Nat) (a : Option Addr) (q : Nat) (us : List Value) => (([(5, .slice a (clsR r (xs.take k)).length q), (12, .int .i64 (k : Int))] : Env), ([(1, own2U (.slice a (clsR r (xs.take k)).length q) us (clsR r (xs.take k)))] : List (Nat × Itm)), k ≤ xs.length, xs.length - k)) s.1 s.2.1 s.2.2.1 s.2.2.2) (0, _, _, _) (by repeat first | exact sub_nil | refine sub_cons rfl ?_) rfl (Nat.zero_le _) ?_
 rintro ⟨k, a, q, us⟩ hinv KL7 hKL7
 simp only [sU, sL] at hinv hKL7 ⊢
 have hk := hinv
 refine gc_sr fun K8 hK8 => ?_
 refine gv (qt_lss rfl rfl rfl) ?_
 refine gnt (hK8 _ _ ?_)
 refine gc_seq fun K9 hK9 => ?_
 refine gc_cond rfl (fun hc0 => ?_) (fun hc0 => ?_)
 ·try simp only [sA] at hc0
  refine gc_skip ?_
  refine gk_then (hK9 _ _ ?_)
  refine gc_seq fun K10 hK10 => ?_
  refine gc_block ?_
  refine gc_sr fun K11 hK11 => ?_
  refine gv (qti (fun w M => lenA_rd hu)) ?_
  refine gv (qtd (fun w M => mem_rd M hu)) ?_
  refine gop fun K13 hK13 => ?_
  refine go_alloc (z := (.int .i64 0)) (cs := [.int .i64 0]) rfl rfl rfl (fun w => by kernel_rfl) rfl ?_
  intro B12
  refine hK13 _ _ ?_
  refine gop fun K14 hK14 => ?_
  refine go_storeB (n := 2) rfl rfl rfl rfl (by kernel_rfl) rfl rfl rfl (by first | decide | simp) ?_
  refine hK14 _ _ ?_
  refine gnt (hK11 _ _ ?_)
  refine gc_seq fun K15 hK15 => ?_
  have hxk := allP_at hx (k := k) (by omega)
  have m0 := hxk.1; have m1 := hxk.2
  have hsep : SepR r n (clsR r (xs.take k)) := sep_cls fun y hy => hx y (List.mem_of_mem_take hy)
  have hcl := cls_len r (xs.take k)
  have hcr := cls_row r (xs.take k)
  have htl : (xs.take k).length ≤ k := by rw [List.length_take]; omega
  refine gc_region ?_
  refine gv (qt_makeF rfl rfl) ?_
  refine gas ?_
  refine gnt (hK15 _ _ ?_)
  refine gc_sr fun K16 hK16 => ?_
  refine gm ?_
  refine gm ?_
  refine g_q (.free rfl) rfl rfl (qt_call rfl func65 rfl (by decide) rfl (fun w M => idxRows_any w (_) (_) (_) (fun i => mutR r (at0 xs (k : Int)) (row2 (clsR r (xs.take k)) (i : Int))) (mem_rdU (n := 1) M rfl) (fun w' hb i v hi hv => callsV_f (bnd := []) (vs := [_]) (caps := [_, _]) func64 rfl (by decide) (mut1_any w' v _ _ _ _ g n r (at0 xs (k : Int)) (fun w'' hb' => hg w'' ((M.1.trans (hb.mono M.1.size)).trans (hb'.mono (Nat.le_trans M.1.size hb.size)))) hv (List.length_pos_iff.2 (hsep.ne i hi)) (hsep.hd i hi _ (head_in (hsep.ne i hi))).1 (hsep.hd i hi _ (head_in (hsep.ne i hi))).2 m0 m1 (bxV_below hb (bxV_of (n := 0) M rfl)) (bxV_below hb (bxV_of (n := 2) M rfl)))))) ?_
  refine gas ?_
  refine gnt (hK16 _ _ ?_)
  refine gc_sr fun K17 hK17 => ?_
  refine gm ?_
  refine gv (qt_geq rfl rfl rfl) ?_
  refine gnt (hK17 _ _ ?_)
  refine gc_cond rfl (fun hc1 => ?_) (fun hc1 => ?_)
  ·try simp only [sA] at hc1
   obtain ⟨i, hie, hi, him, hin⟩ := idxF_in hc1
   have hri := hcr i hi
   rw [hie]
   try simp only [sL]
   refine ga_start _ (fun w M => mem_erase 1 (M)) ?_
   refine gav 0 rfl (qt_move rfl rfl) ?_
   refine gav 1 rfl (qt_move rfl rfl) ?_
   refine gav 2 rfl (qt_move rfl rfl) ?_
   refine gav 3 rfl (qt_move rfl rfl) ?_
   refine gav 6 rfl (qtl underlying2 (n := 1)) ?_
   refine gat 4 7 (fun K18 hK18 => ?_) (fun K18 hK18 => ?_)
   ·refine gov (qti2 (fun w M => lenA_U (n := 1) rfl M)) ?_
    refine hK18 _ _ (fun w M => (ms1 1 3 M :)) ?_
    refine gat 5 7 (fun K20 hK20 => ?_) (fun K20 hK20 => ?_)
    ·refine gov (qt_loadU (n := 1) rfl rfl underlying24 rfl rfl (by omega) (by omega)) ?_
     refine hK20 _ _ (fun w M => (ms1 1 3 M :)) ?_
     refine gao 7 fun K23 hK23 => ?_
     refine go_slice1 rfl rfl rfl rfl underlying24 ?_
     intro B22
     refine hK23 _ _ (fun w M => (ms1 1 3 M :)) ?_
     refine gao 8 fun K25 hK25 => ?_
     refine go_appendHole (n := 1) (m := 3) rfl rfl rfl underlying24 rfl rfl rfl rfl (by decide) (by omega) (by omega) (by omega) ?_
     intro va24 vc24
     refine hK25 _ _ (fun w M => (ms1 1 3 M :)) ?_
     refine gao 9 fun K26 hK26 => ?_
     refine gov (qti2 (fun w M => lenA_H (n := 1) rfl M)) ?_
     refine hK26 _ _ (fun w M => (ms1 1 3 M :)) ?_
     refine gao 10 fun K27 hK27 => ?_
     refine go_storeH (n := 1) (m := 4) (m' := 3) rfl rfl rfl rfl (by kernel_rfl) rfl rfl rfl rfl (by omega) (by omega) ?_
     refine hK27 _ _ (fun w M => (ms1 1 3 M :)) ?_
     refine ga_done (by kernel_rfl) ?_
     refine gk_block ?_
     refine gk_then (hK10 _ _ ?_)
     refine gc_region ?_
     refine gv (qt_add rfl rfl rfl (by omega)) ?_
     refine gm ?_
     refine g_nil ?_
     first | rw [mut_old (by omega) hi him hin, mut_len (by omega) hi him hin] | rw [mut_new (by omega) hno]
     refine gk_then (gk_take 2 ?_)
     refine gk_sub ?hs_28 (hKL7 (k + 1, _, _, _) ?hi_28 ?hm_28)
     case hs_28 => repeat first | exact sub_nil | refine sub_cons rfl ?_
     case hi_28 => omega
     case hm_28 => omega
    refine go_slice1 rfl rfl rfl rfl underlying24 ?_
    intro B29
    refine hK20 _ _ (fun w M => (ms1 1 3 M :)) ?_
    refine gao 5 fun K31 hK31 => ?_
    refine gov (qt_loadU (n := 1) rfl rfl underlying24 rfl rfl (by omega) (by omega)) ?_
    refine hK31 _ _ (fun w M => (ms1 1 3 M :)) ?_
    refine gao 8 fun K33 hK33 => ?_
    refine go_appendHole (n := 1) (m := 3) rfl rfl rfl underlying24 rfl rfl rfl rfl (by decide) (by omega) (by omega) (by omega) ?_
    intro va32 vc32
    refine hK33 _ _ (fun w M => (ms1 1 3 M :)) ?_
    refine gao 9 fun K34 hK34 => ?_
    refine gov (qti2 (fun w M => lenA_H (n := 1) rfl M)) ?_
    refine hK34 _ _ (fun w M => (ms1 1 3 M :)) ?_
    refine gao 10 fun K35 hK35 => ?_
    refine go_storeH (n := 1) (m := 4) (m' := 3) rfl rfl rfl rfl (by kernel_rfl) rfl rfl rfl rfl (by omega) (by omega) ?_
    refine hK35 _ _ (fun w M => (ms1 1 3 M :)) ?_
    refine ga_done (by kernel_rfl) ?_
    refine gk_block ?_
    refine gk_then (hK10 _ _ ?_)
    refine gc_region ?_
    refine gv (qt_add rfl rfl rfl (by omega)) ?_
    refine gm ?_
    refine g_nil ?_
    first | rw [mut_old (by omega) hi him hin, mut_len (by omega) hi him hin] | rw [mut_new (by omega) hno]
    refine gk_then (gk_take 2 ?_)
    refine gk_sub ?hs_36 (hKL7 (k + 1, _, _, _) ?hi_36 ?hm_36)
    case hs_36 => repeat first | exact sub_nil | refine sub_cons rfl ?_
    case hi_36 => omega
    case hm_36 => omega
   refine go_slice1 rfl rfl rfl rfl underlying24 ?_
   intro B37
   refine hK18 _ _ (fun w M => (ms1 1 3 M :)) ?_
   refine gao 4 fun K39 hK39 => ?_
   refine gov (qti2 (fun w M => lenA_U (n := 1) rfl M)) ?_
   refine hK39 _ _ (fun w M => (ms1 1 3 M :)) ?_
   refine gao 5 fun K40 hK40 => ?_
   refine gov (qt_loadU (n := 1) rfl rfl underlying24 rfl rfl (by omega) (by omega)) ?_
   refine hK40 _ _ (fun w M => (ms1 1 3 M :)) ?_
   refine gao 8 fun K42 hK42 => ?_
   refine go_appendHole (n := 1) (m := 3) rfl rfl rfl underlying24 rfl rfl rfl rfl (by decide) (by omega) (by omega) (by omega) ?_
   intro va41 vc41
   refine hK42 _ _ (fun w M => (ms1 1 3 M :)) ?_
   refine gao 9 fun K43 hK43 => ?_
   refine gov (qti2 (fun w M => lenA_H (n := 1) rfl M)) ?_
   refine hK43 _ _ (fun w M => (ms1 1 3 M :)) ?_
   refine gao 10 fun K44 hK44 => ?_
   refine go_storeH (n := 1) (m := 4) (m' := 3) rfl rfl rfl rfl (by kernel_rfl) rfl rfl rfl rfl (by omega) (by omega) ?_
   refine hK44 _ _ (fun w M => (ms1 1 3 M :)) ?_
   refine ga_done (by kernel_rfl) ?_
   refine gk_block ?_
   refine gk_then (hK10 _ _ ?_)
   refine gc_region ?_
   refine gv (qt_add rfl rfl rfl (by omega)) ?_
   refine gm ?_
   refine g_nil ?_
   first | rw [mut_old (by omega) hi him hin, mut_len (by omega) hi him hin] | rw [mut_new (by omega) hno]
   refine gk_then (gk_take 2 ?_)
   refine gk_sub ?hs_45 (hKL7 (k + 1, _, _, _) ?hi_45 ?hm_45)
   case hs_45 => repeat first | exact sub_nil | refine sub_cons rfl ?_
   case hi_45 => omega
   case hm_45 => omega
  try simp only [sA] at hc1
  have hno := idxF_no hc1
  refine gc_region ?_
  refine gm ?_
  refine gv (qtl underlying2 (n := 2)) ?_
  refine gop fun K47 hK47 => ?_
  refine go_slice1 rfl rfl rfl rfl underlying24 ?_
  intro B46
  refine hK47 _ _ ?_
  refine gop fun K49 hK49 => ?_
  refine go_sliceR1 (m := 3) rfl rfl rfl rfl underlying25 rfl ?_
  intro B48
  refine hK49 _ _ ?_
  refine gop fun K51 hK51 => ?_
  refine go_appendRow (n := 1) (m := 3) (m' := 2) rfl rfl rfl underlying25 rfl rfl rfl rfl rfl (by omega) ?_
  intro va50 vc50
  refine hK51 _ _ ?_
  refine gas ?_
  refine g_nil ?_
  refine gk_block ?_
  refine gk_then (hK10 _ _ ?_)
  refine gc_region ?_
  refine gv (qt_add rfl rfl rfl (by omega)) ?_
  refine gm ?_
  refine g_nil ?_
  first | rw [mut_old (by omega) hi him hin, mut_len (by omega) hi him hin] | rw [mut_new (by omega) hno]
  refine gk_then (gk_take 2 ?_)
  refine gk_sub ?hs_52 (hKL7 (k + 1, _, _, _) ?hi_52 ?hm_52)
  case hs_52 => repeat first | exact sub_nil | refine sub_cons rfl ?_
  case hi_52 => omega
  case hm_52 => omega
 try simp only [sA] at hc0
 refine gc_exit ?_
 refine gk_then_exit ?_
 refine gk_then_exit ?_
 refine gk_block_hit ?_
 refine gk_then (hK5 _ _ ?_)
 refine gc_sr fun K53 hK53 => ?_
 refine gm ?_
 refine gas ?_
 refine gnt (hK53 _ _ ?_)
 refine gc_ret ?_
 refine ret_1 rfl rfl  (fun w M => ?_)
 obtain rfl : k = xs.length := by omega
 simp only [List.take_length] at M ⊢
 obtain ⟨S, hS2, hb⟩ := mem_2U (n := 1) M rfl
 exact ⟨_, rfl, Own2.at (S := S) ⟨_, hb⟩ hS2, M.1⟩
theorem impl_SubobjectsOf (w : World) (v : Value) (c : Cat) (x : Int) (h : RdC w v c) :
  Calls Try.prog 16 #[v, .int .i64 x] w (RetRI w (fSubobjectsOf c x).1 (fSubobjectsOf c x).2) := by
 have h0 := h
 obtain ⟨va, vb, vc, vd, ve, vf, vg, vh, rfl, h1, h2, h3, h4, _⟩ := h.lists
 go_enter func16, Try.ntmps16
 refine gc_enter (N := 27) rfl (look_cons (k := 0) rfl (look_cons (k := 1) rfl (look_nil _))) ?_
 refine gc_seqR fun K1 hK1 => ?_
 refine gc_region ?_
 refine gop fun K3 hK3 => ?_
 refine go_box rfl rfl rfl rfl rfl ?_
 intro B2
 refine hK3 _ _ ?_
 refine gas ?_
 refine gas ?_
 refine gnt (hK1 _ _ ?_)
 refine gc_seqR fun K4 hK4 => ?_
 refine gc_region ?_
 refine gv (qts underlying27 (n := 0)) ?_
 refine gm ?_
 refine gop fun K6 hK6 => ?_
 refine go_slice1 rfl rfl rfl rfl underlying24 ?_
 intro B5
 refine hK6 _ _ ?_
 refine gop fun K8 hK8 => ?_
 refine go_callCI rfl rfl rfl func39 rfl (by decide) rfl (fun w M => readObjects_any w _ _ _ _ (mem_rdC M h0) ((mem_own1 (n := 1) M rfl).rd)) ?_
 intro ca7 cb7 cc7 cd7 ce7 cf7 cg7 ch7 cu7
 refine hK8 _ _ ?_
 refine gm ?_
 refine gv (qt_extract rfl rfl rfl) ?_
 refine gv (qt_extract rfl rfl rfl) ?_
 refine gop fun K10 hK10 => ?_
 refine galC ?_
 intro B9
 refine hK10 _ _ ?_
 refine gop fun K11 hK11 => ?_
 refine gss 6 ?_
 refine hK11 _ _ ?_
 refine gas ?_
 refine gnt (hK4 _ _ ?_)
 refine gc_seqR fun K12 hK12 => ?_
 refine gc_seqR fun K13 hK13 => ?_
 refine gc_region ?_
 refine gm ?_
 refine gv (qt_neq rfl rfl rfl) ?_
 refine gnt (hK13 _ _ ?_)
 refine gc_cond rfl (fun hc0 => ?_) (fun hc0 => ?_)
 ·try simp only [sA] at hc0
  refine gc_seqR fun K14 hK14 => ?_
  refine gc_region ?_
  refine gm ?_
  refine gas ?_
  refine gas ?_
  refine gnt (hK14 _ _ ?_)
  refine gc_ret ?_
  refine gk_then_ret ?_
  refine ret_2 rfl rfl rfl  (fun w M => ?_)
  rw [SubobjectsOf_e hc0]; exact retRI5 M.1
 try simp only [sA] at hc0
 refine gc_skip ?_
 refine gk_then (hK12 _ _ ?_)
 refine gc_seqR fun K15 hK15 => ?_
 have hE := objErr_0 hc0
 have hC := hE.1
 have hS := hC.toShapeP
 have hn40 := hS.n40; have htl := hS.tl
 simp only [objCat_t hc0]
 refine gc_rebase fun w1 M1 => ?_
 have hb6 := bxV_of (n := 6) M1 rfl
 have hR6 := (rdC_mk ((mem_own1 (n := 2) M1 rfl).rd) ((mem_own1 (n := 3) M1 rfl).rd) ((mem_own1 (n := 4) M1 rfl).rd) (mem_rdU (n := 5) M1 rfl))
 have hR60 := hR6
 skip
 try simp only [sL]
 refine ga_start _ (fun w M => M) ?_
 refine gav 0 rfl (qtf underlying27 (z := 0) (off := 2)) ?_
 refine gav 1 rfl (qt_loadRB hb6 rfl rfl underlying24 rfl rfl) ?_
 refine gav 2 rfl (qt_move rfl rfl) ?_
 refine gav 3 rfl (qt_loadRS hb6 rfl rfl underlying27 rfl (by kernel_rfl)) ?_
 refine gav 6 rfl (qt_loadRS hb6 rfl rfl underlying27 rfl (by kernel_rfl)) ?_
 refine gat 4 7 (fun K16 hK16 => ?_) (fun K16 hK16 => ?_)
 ·refine gov (qt_makeB rfl rfl) ?_
  refine hK16 _ _ (fun w M => (mem_take 0 M :)) ?_
  refine gat 5 7 (fun K18 hK18 => ?_) (fun K18 hK18 => ?_)
  ·refine go_callL rfl rfl rfl func41 rfl (by decide) rfl (fun w M => arrowsWith_any w _ _ _ (_) (monoP c) (mem_rd M hR6.l2) (fun w' hb f f0 f1 => callsV_f (bnd := [_]) (vs := [_]) (caps := []) func24 rfl (by decide) (isMono_any w' _ c f (rdC_below (M.1.trans (hb.mono M.1.size)) hR6) hS f0 (by omega)))) ?_
   intro va19 vc19
   refine hK18 _ _ (fun w M => (mem_take 0 M :)) ?_
   refine gao 7 fun K21 hK21 => ?_
   refine gov (qt_makeB rfl rfl) ?_
   refine hK21 _ _ (fun w M => (mem_take 0 M :)) ?_
   refine gao 8 fun K23 hK23 => ?_
   refine go_callR rfl rfl rfl func40 rfl (by decide) rfl (fun w M => mutual_any w _ _ (_) (c.s.length) (belP c) ((mem_own1 (n := 0) M rfl).rd) (fun y hy => monL_mem (k := c.s.length) (by first | exact hy | (rw [← htl]; exact hy))) (Nat.le_trans (filTo_len _ _ _) (by omega)) (rfl) (fun w' hb a b a0 a1 b0 b1 => callsV_f (bnd := [_]) (vs := [_, _]) (caps := []) func42 rfl (by decide) (liftsThrough_any w' _ c a b (rdC_below (M.1.trans (hb.mono M.1.size)) hR6) hS b0 b1))) ?_
   intro va22 vc22 us22
   refine hK23 _ _ (fun w M => (mem_take 0 M :)) ?_
   refine gav 9 rfl (qt_assign rfl rfl) ?_
   refine gav 10 rfl (qt_assign rfl rfl) ?_
   refine ga_done (by kernel_rfl) ?_
   refine gk_then (hK15 _ _ ?_)
   refine gc_ret ?_
   refine ret_2 rfl rfl rfl  (fun w M => ?_)
   rw [SubobjectsOf_t hc0]
   obtain ⟨S, hS2, hb⟩ := mem_2U (n := 1) M rfl
   exact ⟨_, by first | rfl | (rw [htl]; rfl), Own2.at (S := S) ⟨_, by first | exact hb | (rw [← htl]; exact hb)⟩ (fun k hk => Nat.le_trans M1.1.size (hS2 k hk)), M1.1.trans (M.1.mono M1.1.size)⟩
  refine gov (qt_makeB rfl rfl) ?_
  refine hK18 _ _ (fun w M => (mem_take 0 M :)) ?_
  refine gao 5 fun K26 hK26 => ?_
  refine go_callL rfl rfl rfl func41 rfl (by decide) rfl (fun w M => arrowsWith_any w _ _ _ (_) (monoP c) (mem_rd M hR6.l2) (fun w' hb f f0 f1 => callsV_f (bnd := [_]) (vs := [_]) (caps := []) func24 rfl (by decide) (isMono_any w' _ c f (rdC_below (M.1.trans (hb.mono M.1.size)) hR6) hS f0 (by omega)))) ?_
  intro va25 vc25
  refine hK26 _ _ (fun w M => (mem_take 0 M :)) ?_
  refine gao 8 fun K28 hK28 => ?_
  refine go_callR rfl rfl rfl func40 rfl (by decide) rfl (fun w M => mutual_any w _ _ (_) (c.s.length) (belP c) ((mem_own1 (n := 0) M rfl).rd) (fun y hy => monL_mem (k := c.s.length) (by first | exact hy | (rw [← htl]; exact hy))) (Nat.le_trans (filTo_len _ _ _) (by omega)) (rfl) (fun w' hb a b a0 a1 b0 b1 => callsV_f (bnd := [_]) (vs := [_, _]) (caps := []) func42 rfl (by decide) (liftsThrough_any w' _ c a b (rdC_below (M.1.trans (hb.mono M.1.size)) hR6) hS b0 b1))) ?_
  intro va27 vc27 us27
  refine hK28 _ _ (fun w M => (mem_take 0 M :)) ?_
  refine gav 9 rfl (qt_assign rfl rfl) ?_
  refine gav 10 rfl (qt_assign rfl rfl) ?_
  refine ga_done (by kernel_rfl) ?_
  refine gk_then (hK15 _ _ ?_)
  refine gc_ret ?_
  refine ret_2 rfl rfl rfl  (fun w M => ?_)
  rw [SubobjectsOf_t hc0]
  obtain ⟨S, hS2, hb⟩ := mem_2U (n := 1) M rfl
  exact ⟨_, by first | rfl | (rw [htl]; rfl), Own2.at (S := S) ⟨_, by first | exact hb | (rw [← htl]; exact hb)⟩ (fun k hk => Nat.le_trans M1.1.size (hS2 k hk)), M1.1.trans (M.1.mono M1.1.size)⟩
 refine gov (qt_makeB rfl rfl) ?_
 refine hK16 _ _ (fun w M => (mem_take 0 M :)) ?_
 refine gao 4 fun K30 hK30 => ?_
 refine gov (qt_makeB rfl rfl) ?_
 refine hK30 _ _ (fun w M => (mem_take 0 M :)) ?_
 refine gao 5 fun K32 hK32 => ?_
 refine go_callL rfl rfl rfl func41 rfl (by decide) rfl (fun w M => arrowsWith_any w _ _ _ (_) (monoP c) (mem_rd M hR6.l2) (fun w' hb f f0 f1 => callsV_f (bnd := [_]) (vs := [_]) (caps := []) func24 rfl (by decide) (isMono_any w' _ c f (rdC_below (M.1.trans (hb.mono M.1.size)) hR6) hS f0 (by omega)))) ?_
 intro va31 vc31
 refine hK32 _ _ (fun w M => (mem_take 0 M :)) ?_
 refine gao 8 fun K34 hK34 => ?_
 refine go_callR rfl rfl rfl func40 rfl (by decide) rfl (fun w M => mutual_any w _ _ (_) (c.s.length) (belP c) ((mem_own1 (n := 0) M rfl).rd) (fun y hy => monL_mem (k := c.s.length) (by first | exact hy | (rw [← htl]; exact hy))) (Nat.le_trans (filTo_len _ _ _) (by omega)) (rfl) (fun w' hb a b a0 a1 b0 b1 => callsV_f (bnd := [_]) (vs := [_, _]) (caps := []) func42 rfl (by decide) (liftsThrough_any w' _ c a b (rdC_below (M.1.trans (hb.mono M.1.size)) hR6) hS b0 b1))) ?_
 intro va33 vc33 us33
 refine hK34 _ _ (fun w M => (mem_take 0 M :)) ?_
 refine gav 9 rfl (qt_assign rfl rfl) ?_
 refine gav 10 rfl (qt_assign rfl rfl) ?_
 refine ga_done (by kernel_rfl) ?_
 refine gk_then (hK15 _ _ ?_)
 refine gc_ret ?_
 refine ret_2 rfl rfl rfl  (fun w M => ?_)
 rw [SubobjectsOf_t hc0]
 obtain ⟨S, hS2, hb⟩ := mem_2U (n := 1) M rfl
 exact ⟨_, by first | rfl | (rw [htl]; rfl), Own2.at (S := S) ⟨_, by first | exact hb | (rw [← htl]; exact hb)⟩ (fun k hk => Nat.le_trans M1.1.size (hS2 k hk)), M1.1.trans (M.1.mono M1.1.size)⟩
end Go.Proofs.Ytbiplocgenppoaa
