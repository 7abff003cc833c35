
/- Hom sets: the model's and the program's. -/
import Derived.Test.YtgkfampgofjkfaaShort
import Derived.Test.YtgkfampgofjkfaaRul4
set_option linter.unusedSimpArgs false
set_option linter.unusedVariables false
set_option linter.unusedSectionVars false
namespace Go.Proofs.Ytgkfampgofjkfaa
open Go.RowKit


def homTo (c : Cat) (x y : Int) (k : Nat) : List Int := ((List.range k).filter fun (j : Nat) => decide (at0 c.s j = x ∧ at0 c.t j = y)).map fun (j : Nat) => (j : Int)
theorem homTo_succ_t {c : Cat} {x y : Int} {k : Nat} (h : at0 c.s k = x) (h' : at0 c.t k = y) : homTo c x y (k + 1) = homTo c x y k ++ [(k : Int)] := by
 simp [homTo, List.range_succ, List.filter_append, h, h']
theorem homTo_succ_f {c : Cat} {x y : Int} {k : Nat} (h : ¬ (at0 c.s k = x ∧ at0 c.t k = y)) : homTo c x y (k + 1) = homTo c x y k := by
 simp [homTo, List.range_succ, List.filter_append, h]
theorem homTo_len (c : Cat) (x y : Int) (k : Nat) : (homTo c x y k).length ≤ k := by
 have := List.length_filter_le (fun (j : Nat) => decide (at0 c.s j = x ∧ at0 c.t j = y)) (List.range k)
 simpa [homTo] using this

set_option maxHeartbeats 1000000 in
set_option maxRecDepth 100000 in
theorem specHom_any (w : World) (v : Value) (c : Cat) (x y : Int) (h : RdC w v c) (hS : ShapeP c) :
  Calls Try.prog 76 #[v, .int .i64 x, .int .i64 y] w (RetL w (homTo c x y c.s.length)) := by
 have h0 := h
 obtain ⟨va, vb, vc, vd, ve, vf, vg, vh, rfl, h1, h2, h3, h4, _⟩ := h.lists
 have hn40 := hS.n40; have htl := hS.tl
 go_enter Try.func76, Try.ntmps76
 refine gc_enter (N := 38) rfl (look_cons (k := 0) rfl (look_cons (k := 1) rfl (look_cons (k := 2) rfl (look_nil _)))) ?_
 refine gc_sr fun K1 hK1 => ?_
 refine gop fun K3 hK3 => ?_
 refine go_box rfl rfl rfl rfl rfl ?_
 intro B2
 refine hK3 _ _ ?_
 refine gas ?_
 refine gnt (hK1 _ _ ?_)
 refine gc_sr fun K4 hK4 => ?_
 refine gop fun K6 hK6 => ?_
 refine go_slice0 rfl rfl rfl Try.underlying22 ?_
 intro B5
 refine hK6 _ _ ?_
 refine gas ?_
 refine gnt (hK4 _ _ ?_)
 refine gc_seq fun K7 hK7 => ?_
 refine gc_sr fun K8 hK8 => ?_
 refine gas ?_
 refine gnt (hK8 _ _ ?_)
 refine gc_block ?_
 try simp only [sL]
 refine gc_loopT ([(0, _), (1, _), (2, _), (3, _), (6, _)] : Env) (fun s : Nat × (Option Addr) × Nat => (fun (k : Nat) (a : Option Addr) (q : Nat) => (([(7, .slice a (homTo c x y k).length q), (8, .int .i64 (k : Int))] : Env), ([(1, own1I (.slice a (homTo c x y k).length q) (homTo c x y k))] : List (Nat × Itm)), k ≤ c.s.length, c.s.length - k)) s.1 s.2.1 s.2.2) (0, _, _) (by repeat first | exact sub_nil | refine sub_cons rfl ?_) rfl (Nat.zero_le _) ?_
 rintro ⟨k, a, q⟩ hinv KL9 hKL9
 simp only [sU, sL] at hinv hKL9 ⊢
 obtain hk := hinv
 have hl := homTo_len c x y k
 refine gc_seq fun K10 hK10 => ?_
 refine gc_sr fun K11 hK11 => ?_
 refine gm ?_
 refine gv (qt_field (z := 0) rfl rfl Try.underlying27 rfl (by kernel_rfl) rfl) ?_
 refine gv (qtl Try.underlying22 (n := 0)) ?_
 refine gv (qln (fun w M => lenV_rd h1)) ?_
 refine gv (qt_lss rfl rfl rfl) ?_
 refine gnt (hK11 _ _ ?_)
 refine gc_cond rfl (fun hc0 => ?_) (fun hc0 => ?_)
 ·try simp only [decide_eq_true_eq, decide_eq_false_iff_not, Bool.not_eq_true', Bool.not_eq_false', Bool.not_eq_eq_eq_not, Bool.not_true, Bool.not_false] at hc0
  refine gc_skip ?_
  refine gk_then (hK10 _ _ ?_)
  refine gc_seq fun K12 hK12 => ?_
  refine gc_block ?_
  refine gc_sr fun K13 hK13 => ?_
  refine gv (qt_field (z := 0) rfl rfl Try.underlying27 rfl (by kernel_rfl) rfl) ?_
  refine gv (qtl Try.underlying22 (n := 0)) ?_
  refine gm ?_
  refine gv (qti (fun w M => lenA_rd h1)) ?_
  refine gv (qtd (fun w M => mem_rd M h1)) ?_
  refine gm ?_
  refine gv (qt_eql rfl rfl rfl) ?_
  refine g_splitv (.free rfl) rfl rfl (qt_move rfl rfl) (fun hs5_7 => ?_) (fun hs5_7 => ?_)
  ·try simp only [decide_eq_true_eq, decide_eq_false_iff_not, Bool.not_eq_true', Bool.not_eq_false', Bool.not_eq_eq_eq_not, Bool.not_true, Bool.not_false] at hs5_7
   refine gvh (qt_field (z := 0) rfl rfl Try.underlying27 rfl (by kernel_rfl) rfl) ?_
   refine gvh (qtl Try.underlying22 (n := 0)) ?_
   refine gvh (qt_move rfl rfl) ?_
   refine gvh (qti (fun w M => lenA_rd h2)) ?_
   refine gvh (qtd (fun w M => mem_rd M h2)) ?_
   refine gvh (qt_move rfl rfl) ?_
   refine gvh (qt_eql rfl rfl rfl) ?_
   refine gv (qt_pick_t rfl rfl rfl) ?_
   refine gnt (hK13 _ _ ?_)
   refine gc_cond rfl (fun hc1 => ?_) (fun hc1 => ?_)
   ·try simp only [decide_eq_true_eq, decide_eq_false_iff_not, Bool.not_eq_true', Bool.not_eq_false', Bool.not_eq_eq_eq_not, Bool.not_true, Bool.not_false] at hc1
    refine gc_region ?_
    refine gm ?_
    refine gm ?_
    refine gop fun K15 hK15 => ?_
    refine go_slice1 rfl rfl rfl rfl Try.underlying22 ?_
    intro B14
    refine hK15 _ _ ?_
    refine gop fun K17 hK17 => ?_
    refine go_append (n := 1) (m := 2) rfl rfl rfl Try.underlying22 rfl rfl rfl rfl (by omega) ?_
    intro va16 vc16
    refine hK17 _ _ ?_
    refine gas ?_
    refine g_nil ?_
    refine gk_block ?_
    refine gk_then (hK12 _ _ ?_)
    refine gc_region ?_
    refine gm ?_
    refine gv (qt_add rfl rfl rfl (by omega)) ?_
    refine gas ?_
    refine g_nil ?_
    rw [← homTo_succ_t hs5_7 hc1]
    refine gk_then (gk_take 2 ?_)
    refine gk_sub ?hs_18 (hKL9 (k + 1, _, _) ?hi_18 ?hm_18)
    case hs_18 => repeat first | exact sub_nil | refine sub_cons rfl ?_
    case hi_18 => omega
    case hm_18 => omega
   ·try simp only [decide_eq_true_eq, decide_eq_false_iff_not, Bool.not_eq_true', Bool.not_eq_false', Bool.not_eq_eq_eq_not, Bool.not_true, Bool.not_false] at hc1
    refine gc_skip ?_
    refine gk_block ?_
    refine gk_then (hK12 _ _ ?_)
    refine gc_region ?_
    refine gm ?_
    refine gv (qt_add rfl rfl rfl (by omega)) ?_
    refine gas ?_
    refine g_nil ?_
    rw [← homTo_succ_f (fun h => hc1 h.2)]
    refine gk_then (gk_take 2 ?_)
    refine gk_sub ?hs_19 (hKL9 (k + 1, _, _) ?hi_19 ?hm_19)
    case hs_19 => repeat first | exact sub_nil | refine sub_cons rfl ?_
    case hi_19 => omega
    case hm_19 => omega
  ·try simp only [decide_eq_true_eq, decide_eq_false_iff_not, Bool.not_eq_true', Bool.not_eq_false', Bool.not_eq_eq_eq_not, Bool.not_true, Bool.not_false] at hs5_7
   refine gsk ?_
   refine gsk ?_
   refine gsk ?_
   refine gsk ?_
   refine gsk ?_
   refine gsk ?_
   refine gsk ?_
   refine gv (qt_pick_f rfl rfl rfl) ?_
   refine gnt (hK13 _ _ ?_)
   refine gc_cond_f rfl ?_
   refine gc_skip ?_
   refine gk_block ?_
   refine gk_then (hK12 _ _ ?_)
   refine gc_region ?_
   refine gm ?_
   refine gv (qt_add rfl rfl rfl (by omega)) ?_
   refine gas ?_
   refine g_nil ?_
   rw [← homTo_succ_f (fun h => hs5_7 h.1)]
   refine gk_then (gk_take 2 ?_)
   refine gk_sub ?hs_20 (hKL9 (k + 1, _, _) ?hi_20 ?hm_20)
   case hs_20 => repeat first | exact sub_nil | refine sub_cons rfl ?_
   case hi_20 => omega
   case hm_20 => omega
 ·try simp only [decide_eq_true_eq, decide_eq_false_iff_not, Bool.not_eq_true', Bool.not_eq_false', Bool.not_eq_eq_eq_not, Bool.not_true, Bool.not_false] at hc0
  refine gc_exit ?_
  refine gk_then_exit ?_
  refine gk_then_exit ?_
  refine gk_block_hit ?_
  refine gk_then (hK7 _ _ ?_)
  refine gc_sr fun K21 hK21 => ?_
  refine gm ?_
  refine gas ?_
  refine gnt (hK21 _ _ ?_)
  refine gc_ret ?_
  refine ret_1 rfl rfl  (fun w M => ?_)
  have hkk : k = c.s.length := by omega
  subst hkk
  exact ⟨_, rfl, mem_own1 (n := 1) M rfl, M.1⟩

end Go.Proofs.Ytgkfampgofjkfaa
