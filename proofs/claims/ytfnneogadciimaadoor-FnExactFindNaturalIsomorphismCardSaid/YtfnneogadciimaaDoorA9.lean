import Derived.Test.YtfnneogadciimaaDoorA6
import Derived.Test.YtfnneogadciimaaDoorA5
import Derived.Test.YtfnneogadciimaaDoorA7
import Derived.Test.YtfnneogadciimaaDoorA8
import Derived.Test.YtfnneogadciimaaDoorA2
import Derived.Maps.AppendAt
import Derived.WideKeyRuns
import Derived.Deep.MidRow
set_option linter.unusedSimpArgs false
set_option linter.unusedVariables false
set_option linter.unusedSectionVars false
namespace Go.Proofs.YtfnneogadciimaaDoor
open Go.RowKit
theorem idFP_of {c : Cat} {k f g h : Int} (hp : FaultP c k f g h) : (k = 1 ∧ g = 0 ∧ h = 0 ∧ IdFP c 1 f) ∨ (IdFP c 0 0 ∧ AsP c k f g h) := by
 cases hp with
 | id m hm => exact .inl ⟨rfl, rfl, rfl, .inl ⟨rfl, m, rfl, hm.1, hm.2.1, hm.2.2⟩⟩
 | asc a b d h0 h1 => exact .inr ⟨.inr ⟨rfl, rfl, h0⟩, .asc a b d h1⟩
 | no h0 h1 => exact .inr ⟨.inr ⟨rfl, rfl, h0⟩, .no h1⟩
theorem shape_iff {c : Cat} : fIsShape c = true ↔ ShapeP c := bP_iff
theorem shape_no {c : Cat} (h : fIsShape c = false) : ¬ ShapeP c := fun h' => by rw [shape_iff.2 h'] at h; cases h
theorem isCat_t {c : Cat} (h : fIsShape c = true) (h' : (faultOf c).1 = 0) : fIsCategory c = true := bP_t (isCat_iff.2 ⟨shape_iff.1 h, h'⟩)
theorem isCat_f {c : Cat} (h : fIsShape c = false ∨ (faultOf c).1 ≠ 0) : fIsCategory c = false := bP_f fun hc => by
 obtain ⟨h1, h2⟩ := isCat_iff.1 hc
 rcases h with h | h
 ·exact shape_no h h1
 ·exact h h2
theorem fault_z {c : Cat} (h : (faultOf c).1 = 0) : (faultOf c).2.1 = 0 ∧ (faultOf c).2.2.1 = 0 ∧ (faultOf c).2.2.2 = 0 := by
 have hz := fault_zero.1 h
 rw [fault_no hz.1 hz.2]
 exact ⟨rfl, rfl, rfl⟩
set_option maxHeartbeats 1000000 in
set_option maxRecDepth 100000 in
theorem implFault_id (w : World) (v : Value) (c : Cat) (f : Int) (h : RdC w v c) (hS : ShapeP c) (hP : IdFP c 1 f) :
  Calls Tryd.prog 115 #[v] w (RetF w 1 f 0 0) := by
 have h0 := h
 obtain ⟨va, vb, vc, vd, ve, vf, vg, vh, rfl, h1, h2, h3, h4, _⟩ := h.lists
 go_enter Tryd.func115, Tryd.ntmps115
 refine gc_enter (N := 12) rfl (look_cons (k := 0) rfl (look_nil _)) ?_
 refine gc_sr fun K1 hK1 => ?_
 refine gop fun K3 hK3 => ?_
 refine go_box rfl rfl rfl rfl rfl ?_
 intro B2
 refine hK3 _ _ ?_
 refine gop fun K5 hK5 => ?_
 refine go_alloc (z := (.agg #[.int .i64 0, .int .i64 0, .int .i64 0, .int .i64 0])) (cs := [.int .i64 0, .int .i64 0, .int .i64 0, .int .i64 0]) rfl rfl rfl (fun w => by kernel_rfl) rfl ?_
 intro B4
 refine hK5 _ _ ?_
 refine gnt (hK1 _ _ ?_)
 refine gc_seq fun K6 hK6 => ?_
 refine gc_sr fun K7 hK7 => ?_
 refine gv (qts Tryd.underlying30 (n := 0)) ?_
 refine g_q (.free rfl) rfl rfl (qt_call rfl Tryd.func131 rfl (by decide) rfl (fun w M => idFault_any w _ _ _ _ (mem_rdC M h0) (hS) (hP))) ?_
 refine gop fun K9 hK9 => ?_
 refine go_alloc (z := (.agg #[.int .i64 0, .int .i64 0, .int .i64 0, .int .i64 0])) (cs := [.int .i64 0, .int .i64 0, .int .i64 0, .int .i64 0]) rfl rfl rfl (fun w => by kernel_rfl) rfl ?_
 intro B8
 refine hK9 _ _ ?_
 refine gop fun K10 hK10 => ?_
 refine go_storeS (n := 2) rfl rfl rfl rfl (by kernel_rfl) rfl rfl rfl ?_
 refine hK10 _ _ ?_
 refine gnt (hK7 _ _ ?_)
 refine gc_sr fun K11 hK11 => ?_
 refine gv (qts Tryd.underlying144 (n := 2)) ?_
 refine gv (qt_build rfl rfl bt0_fault) ?_
 refine gv (qt_neA rfl rfl rfl (fun w => eqA_fault _ _ _ _ _ _ _ _ w) eqG_fault) ?_
 refine gnt (hK11 _ _ ?_)
 refine gc_cond rfl (fun hc0 => ?_) (fun hc0 => ?_)
 ·try simp only [decide_eq_true_eq, decide_eq_false_iff_not, Bool.not_eq_true', Bool.not_eq_false', Bool.not_eq_eq_eq_not, Bool.not_true, Bool.not_false] at hc0
  refine gc_sr fun K12 hK12 => ?_
  refine gv (qts Tryd.underlying144 (n := 2)) ?_
  refine gop fun K13 hK13 => ?_
  refine go_storeS (n := 1) rfl rfl rfl rfl (by kernel_rfl) rfl rfl rfl ?_
  refine hK13 _ _ ?_
  refine gnt (hK12 _ _ ?_)
  refine gc_ret ?_
  refine gk_then_ret ?_
  refine ret_S (n := 1) rfl rfl Tryd.underlying144 rfl (by kernel_rfl) rfl (fun w M => ?_)
  exact ⟨rfl, M.1⟩
 ·try simp only [decide_eq_true_eq, decide_eq_false_iff_not, Bool.not_eq_true', Bool.not_eq_false', Bool.not_eq_eq_eq_not, Bool.not_true, Bool.not_false] at hc0
  exact absurd hc0.1 (by decide)
set_option maxHeartbeats 1000000 in
set_option maxRecDepth 100000 in
theorem implFault_as (w : World) (v : Value) (c : Cat) (k f g q : Int) (h : RdC w v c) (hS : ShapeP c) (hP : IdFP c 0 0) (hA : AsP c k f g q) :
  Calls Tryd.prog 115 #[v] w (RetF w k f g q) := by
 have h0 := h
 obtain ⟨va, vb, vc, vd, ve, vf, vg, vh, rfl, h1, h2, h3, h4, _⟩ := h.lists
 go_enter Tryd.func115, Tryd.ntmps115
 refine gc_enter (N := 12) rfl (look_cons (k := 0) rfl (look_nil _)) ?_
 refine gc_sr fun K1 hK1 => ?_
 refine gop fun K3 hK3 => ?_
 refine go_box rfl rfl rfl rfl rfl ?_
 intro B2
 refine hK3 _ _ ?_
 refine gop fun K5 hK5 => ?_
 refine go_alloc (z := (.agg #[.int .i64 0, .int .i64 0, .int .i64 0, .int .i64 0])) (cs := [.int .i64 0, .int .i64 0, .int .i64 0, .int .i64 0]) rfl rfl rfl (fun w => by kernel_rfl) rfl ?_
 intro B4
 refine hK5 _ _ ?_
 refine gnt (hK1 _ _ ?_)
 refine gc_seq fun K6 hK6 => ?_
 refine gc_sr fun K7 hK7 => ?_
 refine gv (qts Tryd.underlying30 (n := 0)) ?_
 refine g_q (.free rfl) rfl rfl (qt_call rfl Tryd.func131 rfl (by decide) rfl (fun w M => idFault_any w _ _ _ _ (mem_rdC M h0) (hS) (hP))) ?_
 refine gop fun K9 hK9 => ?_
 refine go_alloc (z := (.agg #[.int .i64 0, .int .i64 0, .int .i64 0, .int .i64 0])) (cs := [.int .i64 0, .int .i64 0, .int .i64 0, .int .i64 0]) rfl rfl rfl (fun w => by kernel_rfl) rfl ?_
 intro B8
 refine hK9 _ _ ?_
 refine gop fun K10 hK10 => ?_
 refine go_storeS (n := 2) rfl rfl rfl rfl (by kernel_rfl) rfl rfl rfl ?_
 refine hK10 _ _ ?_
 refine gnt (hK7 _ _ ?_)
 refine gc_sr fun K11 hK11 => ?_
 refine gv (qts Tryd.underlying144 (n := 2)) ?_
 refine gv (qt_build rfl rfl bt0_fault) ?_
 refine gv (qt_neA rfl rfl rfl (fun w => eqA_fault _ _ _ _ _ _ _ _ w) eqG_fault) ?_
 refine gnt (hK11 _ _ ?_)
 refine gc_cond rfl (fun hc0 => ?_) (fun hc0 => ?_)
 ·try simp only [decide_eq_true_eq, decide_eq_false_iff_not, Bool.not_eq_true', Bool.not_eq_false', Bool.not_eq_eq_eq_not, Bool.not_true, Bool.not_false] at hc0
  simp at hc0
 ·try simp only [decide_eq_true_eq, decide_eq_false_iff_not, Bool.not_eq_true', Bool.not_eq_false', Bool.not_eq_eq_eq_not, Bool.not_true, Bool.not_false] at hc0
  refine gc_skip ?_
  refine gk_then (hK6 _ _ ?_)
  refine gc_sr fun K12 hK12 => ?_
  refine gv (qts Tryd.underlying30 (n := 0)) ?_
  refine g_q (.free rfl) rfl rfl (qt_call rfl Tryd.func132 rfl (by decide) rfl (fun w M => asFault_any w _ _ _ _ _ _ (mem_rdC M h0) (hS) (hA))) ?_
  refine gop fun K13 hK13 => ?_
  refine go_storeS (n := 1) rfl rfl rfl rfl (by kernel_rfl) rfl rfl rfl ?_
  refine hK13 _ _ ?_
  refine gnt (hK12 _ _ ?_)
  refine gc_ret ?_
  refine ret_S (n := 1) rfl rfl Tryd.underlying144 rfl (by kernel_rfl) rfl (fun w M => ?_)
  exact ⟨rfl, M.1⟩
theorem implFault_any (w : World) (v : Value) (c : Cat) (h : RdC w v c) (hS : ShapeP c) :
  Calls Tryd.prog 115 #[v] w (RetF w (faultOf c).1 (faultOf c).2.1 (faultOf c).2.2.1 (faultOf c).2.2.2) := by
 have hp := faultP_of c
 generalize (faultOf c).1 = k at hp ⊢
 generalize (faultOf c).2.1 = f at hp ⊢
 generalize (faultOf c).2.2.1 = g at hp ⊢
 generalize (faultOf c).2.2.2 = q at hp ⊢
 rcases idFP_of hp with ⟨rfl, rfl, rfl, hi⟩ | ⟨hi, ha⟩
 ·exact implFault_id w v c f h hS hi
 ·exact implFault_as w v c k f g q h hS hi ha
set_option maxHeartbeats 1000000 in
set_option maxRecDepth 100000 in
theorem specIs_any (w : World) (v : Value) (c : Cat) (h : RdC w v c) :
  Calls Tryd.prog 34 #[v] w (RetB w (fIsCategory c)) := by
 have h0 := h
 obtain ⟨va, vb, vc, vd, ve, vf, vg, vh, rfl, h1, h2, h3, h4, _⟩ := h.lists
 go_enter Tryd.func34, Tryd.ntmps34
 refine gc_enter (N := 19) rfl (look_cons (k := 0) rfl (look_nil _)) ?_
 refine gc_sr fun K1 hK1 => ?_
 refine gop fun K3 hK3 => ?_
 refine go_box rfl rfl rfl rfl rfl ?_
 intro B2
 refine hK3 _ _ ?_
 refine gas ?_
 refine gnt (hK1 _ _ ?_)
 refine gc_seq fun K4 hK4 => ?_
 refine gc_sr fun K5 hK5 => ?_
 refine gv (qts Tryd.underlying30 (n := 0)) ?_
 refine g_q (.free rfl) rfl rfl (qt_call rfl Tryd.func52 rfl (by decide) rfl (fun w M => spec_IsShape w _ _ (mem_rdC M h0))) ?_
 refine gv (qt_not rfl rfl) ?_
 refine gnt (hK5 _ _ ?_)
 refine gc_cond rfl (fun hc0 => ?_) (fun hc0 => ?_)
 ·try simp only [decide_eq_true_eq, decide_eq_false_iff_not, Bool.not_eq_true', Bool.not_eq_false', Bool.not_eq_eq_eq_not, Bool.not_true, Bool.not_false] at hc0
  refine gc_sr fun K6 hK6 => ?_
  refine gas ?_
  refine gnt (hK6 _ _ ?_)
  refine gc_ret ?_
  refine gk_then_ret ?_
  refine ret_1 rfl rfl  (fun w M => ?_)
  rw [isCat_f (.inl hc0)]; exact ⟨rfl, M.1⟩
 ·try simp only [decide_eq_true_eq, decide_eq_false_iff_not, Bool.not_eq_true', Bool.not_eq_false', Bool.not_eq_eq_eq_not, Bool.not_true, Bool.not_false] at hc0
  refine gc_skip ?_
  refine gk_then (hK4 _ _ ?_)
  refine gc_sr fun K7 hK7 => ?_
  refine gv (qts Tryd.underlying30 (n := 0)) ?_
  refine g_q (.free rfl) rfl rfl (qt_call rfl Tryd.func53 rfl (by decide) rfl (fun w M => specFault_any w _ _ _ _ _ _ (mem_rdC M h0) (shape_iff.1 hc0) (faultP_of c))) ?_
  refine gm ?_
  refine gv (qt_extract rfl rfl rfl) ?_
  refine gv (qt_extract rfl rfl rfl) ?_
  refine gv (qt_extract rfl rfl rfl) ?_
  refine gv (qt_extract rfl rfl rfl) ?_
  refine gas ?_
  refine gas ?_
  refine gas ?_
  refine gas ?_
  refine gnt (hK7 _ _ ?_)
  refine gc_sr fun K8 hK8 => ?_
  refine gm ?_
  refine gv (qt_eql rfl rfl rfl) ?_
  refine gas ?_
  refine gnt (hK8 _ _ ?_)
  refine gc_ret ?_
  refine ret_1 rfl rfl  (fun w M => ?_)
  refine ⟨?_, M.1⟩; by_cases hz : (faultOf c).1 = 0
  ·rw [isCat_t hc0 hz, decide_eq_true hz]
  ·rw [isCat_f (.inr hz), decide_eq_false hz]
set_option maxHeartbeats 1000000 in
set_option maxRecDepth 100000 in
theorem impl_IsCategory (w : World) (v : Value) (c : Cat) (h : RdC w v c) :
  Calls Tryd.prog 85 #[v] w (RetB w (fIsCategory c)) := by
 have h0 := h
 obtain ⟨va, vb, vc, vd, ve, vf, vg, vh, rfl, h1, h2, h3, h4, _⟩ := h.lists
 go_enter Tryd.func85, Tryd.ntmps85
 refine gc_enter (N := 11) rfl (look_cons (k := 0) rfl (look_nil _)) ?_
 refine gc_sr fun K1 hK1 => ?_
 refine gop fun K3 hK3 => ?_
 refine go_box rfl rfl rfl rfl rfl ?_
 intro B2
 refine hK3 _ _ ?_
 refine gas ?_
 refine gnt (hK1 _ _ ?_)
 refine gc_sr fun K4 hK4 => ?_
 refine gv (qts Tryd.underlying30 (n := 0)) ?_
 refine g_q (.free rfl) rfl rfl (qt_call rfl Tryd.func114 rfl (by decide) rfl (fun w M => impl_IsShape w _ _ (mem_rdC M h0))) ?_
 refine g_splitv (.free rfl) rfl rfl (qt_move rfl rfl) (fun hs1_2 => ?_) (fun hs1_2 => ?_)
 ·try simp only [decide_eq_true_eq, decide_eq_false_iff_not, Bool.not_eq_true', Bool.not_eq_false', Bool.not_eq_eq_eq_not, Bool.not_true, Bool.not_false] at hs1_2
  refine gvh (qts Tryd.underlying30 (n := 0)) ?_
  refine g_q (.held _ _ _ rfl rfl rfl) rfl rfl (qt_call rfl Tryd.func115 rfl (by decide) rfl (fun w M => implFault_any w _ _ (mem_rdC M h0) (shape_iff.1 hs1_2))) ?_
  refine gvh (qt_build rfl rfl bt0_fault) ?_
  refine gvh (qt_eqA rfl rfl rfl (fun w => eqA_fault _ _ _ _ _ _ _ _ w) eqG_fault) ?_
  refine gv (qt_pick_t rfl rfl rfl) ?_
  refine gas ?_
  refine gnt (hK4 _ _ ?_)
  refine gc_ret ?_
  refine ret_1 rfl rfl  (fun w M => ?_)
  refine ⟨?_, M.1⟩
  by_cases hz : (faultOf c).1 = 0
  ·rw [isCat_t hs1_2 hz, decide_eq_true ⟨hz, (fault_z hz).1, (fault_z hz).2.1, (fault_z hz).2.2⟩]
  ·rw [isCat_f (.inr hz), decide_eq_false (fun h => hz h.1)]
 ·try simp only [decide_eq_true_eq, decide_eq_false_iff_not, Bool.not_eq_true', Bool.not_eq_false', Bool.not_eq_eq_eq_not, Bool.not_true, Bool.not_false] at hs1_2
  refine gsk ?_
  refine gsk ?_
  refine gsk ?_
  refine gsk ?_
  refine gv (qt_pick_f rfl rfl rfl) ?_
  refine gas ?_
  refine gnt (hK4 _ _ ?_)
  refine gc_ret ?_
  refine ret_1 rfl rfl  (fun w M => ?_)
  rw [isCat_f (.inl hs1_2)]; exact ⟨rfl, M.1⟩
end Go.Proofs.YtfnneogadciimaaDoor
set_option linter.unusedSimpArgs false
set_option linter.unusedVariables false
set_option linter.unusedSectionVars false
namespace Go.Proofs.YtfnneogadciimaaDoor
open Go.RowKit
theorem rd2_len {w : World} {v : Value} {rows : List (List Int)} (h : Rd2 w v rows) : rows.length ≤ 5000000000000 := by obtain ⟨_, _, _, hl, _⟩ := h; exact hl
theorem isCat_of {c : Cat} (h : fIsCategory c = true) : IsCat c := bP_iff.1 h
end Go.Proofs.YtfnneogadciimaaDoor
set_option linter.unusedSimpArgs false
set_option linter.unusedVariables false
set_option linter.unusedSectionVars false
namespace Go.Proofs.YtfnneogadciimaaDoor
open Go.RowKit
def homTo (c : Cat) (x y : Int) (k : Nat) : List Int := ((List.range k).filter fun (j : Nat) => decide (at0 c.s j = x ∧ at0 c.t j = y)).map fun (j : Nat) => (j : Int)
theorem homTo_succ_t {c : Cat} {x y : Int} {k : Nat} (h : at0 c.s k = x) (h' : at0 c.t k = y) : homTo c x y (k + 1) = homTo c x y k ++ [(k : Int)] := by
 simp [homTo, List.range_succ, List.filter_append, h, h']
theorem homTo_succ_f {c : Cat} {x y : Int} {k : Nat} (h : ¬ (at0 c.s k = x ∧ at0 c.t k = y)) : homTo c x y (k + 1) = homTo c x y k := by
 simp [homTo, List.range_succ, List.filter_append, h]
theorem homTo_len (c : Cat) (x y : Int) (k : Nat) : (homTo c x y k).length ≤ k := by
 have := List.length_filter_le (fun (j : Nat) => decide (at0 c.s j = x ∧ at0 c.t j = y)) (List.range k)
 simpa [homTo] using this
set_option maxHeartbeats 1000000 in
set_option maxRecDepth 100000 in
theorem specHom_any (w : World) (v : Value) (c : Cat) (x y : Int) (h : RdC w v c) (hS : ShapeP c) :
  Calls Tryd.prog 111 #[v, .int .i64 x, .int .i64 y] w (RetL w (homTo c x y c.s.length)) := by
 have h0 := h
 obtain ⟨va, vb, vc, vd, ve, vf, vg, vh, rfl, h1, h2, h3, h4, _⟩ := h.lists
 have hn40 := hS.n40; have htl := hS.tl
 go_enter Tryd.func111, Tryd.ntmps111
 refine gc_enter (N := 38) rfl (look_cons (k := 0) rfl (look_cons (k := 1) rfl (look_cons (k := 2) rfl (look_nil _)))) ?_
 refine gc_sr fun K1 hK1 => ?_
 refine gop fun K3 hK3 => ?_
 refine go_box rfl rfl rfl rfl rfl ?_
 intro B2
 refine hK3 _ _ ?_
 refine gas ?_
 refine gnt (hK1 _ _ ?_)
 refine gc_sr fun K4 hK4 => ?_
 refine gop fun K6 hK6 => ?_
 refine go_slice0 rfl rfl rfl Tryd.underlying22 ?_
 intro B5
 refine hK6 _ _ ?_
 refine gas ?_
 refine gnt (hK4 _ _ ?_)
 refine gc_seq fun K7 hK7 => ?_
 refine gc_sr fun K8 hK8 => ?_
 refine gas ?_
 refine gnt (hK8 _ _ ?_)
 refine gc_block ?_
 try simp only [sL]
 refine gc_loopT ([(0, _), (1, _), (2, _), (3, _), (6, _)] : Env) (fun s : Nat × (Option Addr) × Nat => (fun (k : Nat) (a : Option Addr) (q : Nat) => (([(7, .slice a (homTo c x y k).length q), (8, .int .i64 (k : Int))] : Env), ([(1, own1I (.slice a (homTo c x y k).length q) (homTo c x y k))] : List (Nat × Itm)), k ≤ c.s.length, c.s.length - k)) s.1 s.2.1 s.2.2) (0, _, _) (by repeat first | exact sub_nil | refine sub_cons rfl ?_) rfl (Nat.zero_le _) ?_
 rintro ⟨k, a, q⟩ hinv KL9 hKL9
 simp only [sU, sL] at hinv hKL9 ⊢
 obtain hk := hinv
 have hl := homTo_len c x y k
 refine gc_seq fun K10 hK10 => ?_
 refine gc_sr fun K11 hK11 => ?_
 refine gm ?_
 refine gv (qt_field (z := 0) rfl rfl Tryd.underlying30 rfl (by kernel_rfl) rfl) ?_
 refine gv (qtl Tryd.underlying22 (n := 0)) ?_
 refine gv (qln (fun w M => lenV_rd h1)) ?_
 refine gv (qt_lss rfl rfl rfl) ?_
 refine gnt (hK11 _ _ ?_)
 refine gc_cond rfl (fun hc0 => ?_) (fun hc0 => ?_)
 ·try simp only [decide_eq_true_eq, decide_eq_false_iff_not, Bool.not_eq_true', Bool.not_eq_false', Bool.not_eq_eq_eq_not, Bool.not_true, Bool.not_false] at hc0
  refine gc_skip ?_
  refine gk_then (hK10 _ _ ?_)
  refine gc_seq fun K12 hK12 => ?_
  refine gc_block ?_
  refine gc_sr fun K13 hK13 => ?_
  refine gv (qt_field (z := 0) rfl rfl Tryd.underlying30 rfl (by kernel_rfl) rfl) ?_
  refine gv (qtl Tryd.underlying22 (n := 0)) ?_
  refine gm ?_
  refine gv (qti (fun w M => lenA_rd h1)) ?_
  refine gv (qtd (fun w M => mem_rd M h1)) ?_
  refine gm ?_
  refine gv (qt_eql rfl rfl rfl) ?_
  refine g_splitv (.free rfl) rfl rfl (qt_move rfl rfl) (fun hs5_7 => ?_) (fun hs5_7 => ?_)
  ·try simp only [decide_eq_true_eq, decide_eq_false_iff_not, Bool.not_eq_true', Bool.not_eq_false', Bool.not_eq_eq_eq_not, Bool.not_true, Bool.not_false] at hs5_7
   refine gvh (qt_field (z := 0) rfl rfl Tryd.underlying30 rfl (by kernel_rfl) rfl) ?_
   refine gvh (qtl Tryd.underlying22 (n := 0)) ?_
   refine gvh (qt_move rfl rfl) ?_
   refine gvh (qti (fun w M => lenA_rd h2)) ?_
   refine gvh (qtd (fun w M => mem_rd M h2)) ?_
   refine gvh (qt_move rfl rfl) ?_
   refine gvh (qt_eql rfl rfl rfl) ?_
   refine gv (qt_pick_t rfl rfl rfl) ?_
   refine gnt (hK13 _ _ ?_)
   refine gc_cond rfl (fun hc1 => ?_) (fun hc1 => ?_)
   ·try simp only [decide_eq_true_eq, decide_eq_false_iff_not, Bool.not_eq_true', Bool.not_eq_false', Bool.not_eq_eq_eq_not, Bool.not_true, Bool.not_false] at hc1
    refine gc_region ?_
    refine gm ?_
    refine gm ?_
    refine gop fun K15 hK15 => ?_
    refine go_slice1 rfl rfl rfl rfl Tryd.underlying22 ?_
    intro B14
    refine hK15 _ _ ?_
    refine gop fun K17 hK17 => ?_
    refine go_append (n := 1) (m := 2) rfl rfl rfl Tryd.underlying22 rfl rfl rfl rfl (by omega) ?_
    intro va16 vc16
    refine hK17 _ _ ?_
    refine gas ?_
    refine g_nil ?_
    refine gk_block ?_
    refine gk_then (hK12 _ _ ?_)
    refine gc_region ?_
    refine gm ?_
    refine gv (qt_add rfl rfl rfl (by omega)) ?_
    refine gas ?_
    refine g_nil ?_
    rw [← homTo_succ_t hs5_7 hc1]
    refine gk_then (gk_take 2 ?_)
    refine gk_sub ?hs_18 (hKL9 (k + 1, _, _) ?hi_18 ?hm_18)
    case hs_18 => repeat first | exact sub_nil | refine sub_cons rfl ?_
    case hi_18 => omega
    case hm_18 => omega
   ·try simp only [decide_eq_true_eq, decide_eq_false_iff_not, Bool.not_eq_true', Bool.not_eq_false', Bool.not_eq_eq_eq_not, Bool.not_true, Bool.not_false] at hc1
    refine gc_skip ?_
    refine gk_block ?_
    refine gk_then (hK12 _ _ ?_)
    refine gc_region ?_
    refine gm ?_
    refine gv (qt_add rfl rfl rfl (by omega)) ?_
    refine gas ?_
    refine g_nil ?_
    rw [← homTo_succ_f (fun h => hc1 h.2)]
    refine gk_then (gk_take 2 ?_)
    refine gk_sub ?hs_19 (hKL9 (k + 1, _, _) ?hi_19 ?hm_19)
    case hs_19 => repeat first | exact sub_nil | refine sub_cons rfl ?_
    case hi_19 => omega
    case hm_19 => omega
  ·try simp only [decide_eq_true_eq, decide_eq_false_iff_not, Bool.not_eq_true', Bool.not_eq_false', Bool.not_eq_eq_eq_not, Bool.not_true, Bool.not_false] at hs5_7
   refine gsk ?_
   refine gsk ?_
   refine gsk ?_
   refine gsk ?_
   refine gsk ?_
   refine gsk ?_
   refine gsk ?_
   refine gv (qt_pick_f rfl rfl rfl) ?_
   refine gnt (hK13 _ _ ?_)
   refine gc_cond_f rfl ?_
   refine gc_skip ?_
   refine gk_block ?_
   refine gk_then (hK12 _ _ ?_)
   refine gc_region ?_
   refine gm ?_
   refine gv (qt_add rfl rfl rfl (by omega)) ?_
   refine gas ?_
   refine g_nil ?_
   rw [← homTo_succ_f (fun h => hs5_7 h.1)]
   refine gk_then (gk_take 2 ?_)
   refine gk_sub ?hs_20 (hKL9 (k + 1, _, _) ?hi_20 ?hm_20)
   case hs_20 => repeat first | exact sub_nil | refine sub_cons rfl ?_
   case hi_20 => omega
   case hm_20 => omega
 ·try simp only [decide_eq_true_eq, decide_eq_false_iff_not, Bool.not_eq_true', Bool.not_eq_false', Bool.not_eq_eq_eq_not, Bool.not_true, Bool.not_false] at hc0
  refine gc_exit ?_
  refine gk_then_exit ?_
  refine gk_then_exit ?_
  refine gk_block_hit ?_
  refine gk_then (hK7 _ _ ?_)
  refine gc_sr fun K21 hK21 => ?_
  refine gm ?_
  refine gas ?_
  refine gnt (hK21 _ _ ?_)
  refine gc_ret ?_
  refine ret_1 rfl rfl  (fun w M => ?_)
  have hkk : k = c.s.length := by omega
  subst hkk
  exact ⟨_, rfl, mem_own1 (n := 1) M rfl, M.1⟩
end Go.Proofs.YtfnneogadciimaaDoor
set_option linter.unusedSimpArgs false
set_option linter.unusedVariables false
set_option linter.unusedSectionVars false
namespace Go.Proofs.YtfnneogadciimaaDoor
open Go.RowKit
theorem th_none {c : Cat} (hS : ShapeP c) {f g : Int} (f0 : 0 ≤ f) (f1 : f < c.s.length) (g0 : 0 ≤ g) (g1 : g < c.s.length) : c.th f g = -1 ↔ at0 c.t f ≠ at0 c.s g := by
 obtain ⟨a, rfl⟩ := Int.eq_ofNat_of_zero_le f0
 obtain ⟨b, rfl⟩ := Int.eq_ofNat_of_zero_le g0
 have hc := hS.co a b (by omega) (by omega)
 constructor
 ·intro h he
  have := (hc.1 he).1.1
  omega
 ·exact hc.2
end Go.Proofs.YtfnneogadciimaaDoor
set_option linter.unusedSimpArgs false
set_option linter.unusedVariables false
set_option linter.unusedSectionVars false
namespace Go.Proofs.YtfnneogadciimaaDoor
open Go.RowKit
def pathGo (c : Cat) : Int → List Int → Int × Int
 | h, [] => (h, 0)
 | h, f :: r => if at0 c.t h = at0 c.s f then pathGo c (c.th h f) r else (0, 5)
structure PathI (c : Cat) (e0 : Int) (xs : List Int) (k : Nat) (h : Int) : Prop where
 kl : k ≤ xs.length
 h0 : 0 ≤ h
 h1 : h < c.s.length
 go : pathGo c h (xs.drop k) = pathGo c e0 xs
theorem bP_f' {p : Prop} (h : bP p = false) : ¬ p := fun hp => by rw [bP_t hp] at h; cases h
theorem bP_t' {p : Prop} (h : bP p = true) : p := bP_iff.1 h
set_option maxHeartbeats 1000000 in
set_option maxRecDepth 100000 in
theorem arrowsBetween_any (w : World) (v : Value) (c : Cat) (x y : Int) (h : RdC w v c) (hS : ShapeP c) :
  Calls Tryd.prog 104 #[v, .agg #[.int .i64 x, .int .i64 y]] w (RetL w (homTo c x y c.s.length)) := by
 have h0 := h
 obtain ⟨va, vb, vc, vd, ve, vf, vg, vh, rfl, h1, h2, h3, h4, _⟩ := h.lists
 have hn40 := hS.n40; have htl := hS.tl
 go_enter Tryd.func104, Tryd.ntmps104
 refine gc_enter (N := 23) rfl (look_cons (k := 0) rfl (look_cons (k := 1) rfl (look_nil _))) ?_
 refine gc_sr fun K1 hK1 => ?_
 refine gop fun K3 hK3 => ?_
 refine go_box rfl rfl rfl rfl rfl ?_
 intro B2
 refine hK3 _ _ ?_
 refine gop fun K5 hK5 => ?_
 refine go_box rfl rfl rfl rfl rfl ?_
 intro B4
 refine hK5 _ _ ?_
 refine gas ?_
 refine gnt (hK1 _ _ ?_)
 refine gc_sr fun K6 hK6 => ?_
 refine gas ?_
 refine gnt (hK6 _ _ ?_)
 refine gc_seq fun K7 hK7 => ?_
 refine gc_seq fun K8 hK8 => ?_
 refine gc_nilS ?_
 refine gc_region ?_
 refine gv (qts Tryd.underlying30 (n := 0)) ?_
 refine g_q (.free rfl) rfl rfl (qt_call rfl Tryd.func40 rfl (by decide) rfl (fun w M => arrows_any w _ _ (mem_rdC M h0))) ?_
 refine gm ?_
 refine gnt (hK8 _ _ ?_)
 refine gc_block ?_
 try simp only [sL]
 refine gc_loopT ([(0, _), (1, _), (2, _), (3, _), (4, _), (8, _)] : Env) (fun s : Nat × (Option Addr) × Nat => (fun (k : Nat) (a : Option Addr) (q : Nat) => (([(5, .slice a (homTo c x y k).length q), (9, .int .i64 (k : Int))] : Env), ([(2, own1I (.slice a (homTo c x y k).length q) (homTo c x y k))] : List (Nat × Itm)), k ≤ c.s.length, c.s.length - k)) s.1 s.2.1 s.2.2) (0, _, _) (by repeat first | exact sub_nil | refine sub_cons rfl ?_) rfl (Nat.zero_le _) ?_
 rintro ⟨k, a, q⟩ hinv KL9 hKL9
 simp only [sU, sL] at hinv hKL9 ⊢
 have hk := hinv
 have hl := homTo_len c x y k
 refine gc_sr fun K10 hK10 => ?_
 refine gv (qt_lss rfl rfl rfl) ?_
 refine gnt (hK10 _ _ ?_)
 refine gc_seq fun K11 hK11 => ?_
 refine gc_cond rfl (fun hc0 => ?_) (fun hc0 => ?_)
 ·try simp only [sA] at hc0
  refine gc_skip ?_
  refine gk_then (hK11 _ _ ?_)
  refine gc_seq fun K12 hK12 => ?_
  refine gc_block ?_
  refine gc_sr fun K13 hK13 => ?_
  refine gm ?_
  refine gas ?_
  refine gnt (hK13 _ _ ?_)
  refine gc_seq fun K14 hK14 => ?_
  refine gc_draw (by kernel_rfl) ?_
  refine gdv (qts Tryd.underlying30 (n := 0)) ?_
  refine gdv (qt_move rfl rfl) ?_
  refine gd_q (.free rfl) rfl rfl (qt_call rfl Tryd.func105 rfl (by decide) rfl (fun w M => ends_any w _ _ _ (mem_rdC M h0) (by first | assumption | omega) (by first | assumption | omega) (by first | assumption | omega))) ?_
  refine gdv (qts Tryd.underlying133 (n := 1)) ?_
  refine gdv (qt_eqA rfl rfl rfl (fun w => eqA_arrowEnds _ _ _ _ w) eqG_arrowEnds) ?_
  refine gd_nil ?_
  refine gk_then (hK14 _ _ ?_)
  refine gc_cond rfl (fun hc1 => ?_) (fun hc1 => ?_)
  ·try simp only [sA] at hc1
   refine gc_region ?_
   refine gm ?_
   refine gm ?_
   refine gop fun K16 hK16 => ?_
   refine go_slice1 rfl rfl rfl rfl Tryd.underlying22 ?_
   intro B15
   refine hK16 _ _ ?_
   refine gop fun K18 hK18 => ?_
   refine go_append (n := 2) (m := 3) rfl rfl rfl Tryd.underlying22 rfl rfl rfl rfl (by omega) ?_
   intro va17 vc17
   refine hK18 _ _ ?_
   refine gas ?_
   refine g_nil ?_
   refine gk_block ?_
   refine gk_then (hK12 _ _ ?_)
   refine gc_region ?_
   refine gv (qt_add rfl rfl rfl (by omega)) ?_
   refine gm ?_
   refine g_nil ?_
   rw [← homTo_succ_t hc1.1 hc1.2]
   refine gk_then (gk_take 3 ?_)
   refine gk_sub ?hs_19 (hKL9 (k + 1, _, _) ?hi_19 ?hm_19)
   case hs_19 => repeat first | exact sub_nil | refine sub_cons rfl ?_
   case hi_19 => omega
   case hm_19 => omega
  ·try simp only [sA] at hc1
   refine gc_skip ?_
   refine gk_block ?_
   refine gk_then (hK12 _ _ ?_)
   refine gc_region ?_
   refine gv (qt_add rfl rfl rfl (by omega)) ?_
   refine gm ?_
   refine g_nil ?_
   rw [← homTo_succ_f hc1]
   refine gk_then (gk_take 3 ?_)
   refine gk_sub ?hs_20 (hKL9 (k + 1, _, _) ?hi_20 ?hm_20)
   case hs_20 => repeat first | exact sub_nil | refine sub_cons rfl ?_
   case hi_20 => omega
   case hm_20 => omega
 ·try simp only [sA] at hc0
  refine gc_exit ?_
  refine gk_then_exit ?_
  refine gk_then_exit ?_
  refine gk_block_hit ?_
  refine gk_then (hK7 _ _ ?_)
  refine gc_sr fun K21 hK21 => ?_
  refine gm ?_
  refine gas ?_
  refine gnt (hK21 _ _ ?_)
  refine gc_ret ?_
  refine ret_1 rfl rfl  (fun w M => ?_)
  obtain rfl : k = c.s.length := by omega
  exact ⟨_, rfl, mem_own1 (n := 2) M rfl, M.1⟩
end Go.Proofs.YtfnneogadciimaaDoor
namespace Go.Proofs.YtfnneogadciimaaDoor
open Go.RowKit
theorem mem_homTo {c : Cat} {x y z : Int} {n : Nat} : z ∈ homTo c x y n ↔ ∃ j : Nat, j < n ∧ z = j ∧ at0 c.s j = x ∧ at0 c.t j = y := by
 simp only [homTo, List.mem_map, List.mem_filter, List.mem_range, decide_eq_true_eq]
 constructor
 ·rintro ⟨j, ⟨h1, h2, h3⟩, rfl⟩; exact ⟨j, h1, rfl, h2, h3⟩
 ·rintro ⟨j, h1, rfl, h2, h3⟩; exact ⟨j, ⟨h1, h2, h3⟩, rfl⟩
theorem homTo_at {c : Cat} {x y : Int} {n k : Nat} (hk : k < (homTo c x y n).length) : 0 ≤ at0 (homTo c x y n) k ∧ at0 (homTo c x y n) k < n ∧ at0 c.s (at0 (homTo c x y n) k) = x ∧ at0 c.t (at0 (homTo c x y n) k) = y := by
 have hm : at0 (homTo c x y n) k ∈ homTo c x y n := by rw [at0_nat]; exact mem_getD hk
 obtain ⟨j, h1, h2, h3, h4⟩ := mem_homTo.1 hm
 rw [h2]; exact ⟨by omega, by omega, h3, h4⟩
def invAt (c : Cat) (f g : Int) : Prop := c.th f g = at0 c.e (at0 c.s f) ∧ c.th g f = at0 c.e (at0 c.t f)
noncomputable def findGo (c : Cat) (f : Int) : List Int → Int
 | [] => -1
 | g :: r => @ite _ (invAt c f g) (Classical.propDecidable _) g (findGo c f r)
noncomputable def hasInv (c : Cat) (f : Int) : Prop := ∃ g ∈ homTo c (at0 c.t f) (at0 c.s f) c.s.length, invAt c f g
theorem th_ends {c : Cat} (hS : ShapeP c) {f g : Int} (f0 : 0 ≤ f) (f1 : f < c.s.length) (g0 : 0 ≤ g) (g1 : g < c.s.length) (h : at0 c.t f = at0 c.s g) : (0 ≤ c.th f g ∧ c.th f g < c.s.length) ∧ at0 c.s (c.th f g) = at0 c.s f ∧ at0 c.t (c.th f g) = at0 c.t g := by
 obtain ⟨a, rfl⟩ := Int.eq_ofNat_of_zero_le f0
 obtain ⟨b, rfl⟩ := Int.eq_ofNat_of_zero_le g0
 exact (hS.co a b (by omega) (by omega)).1 h
theorem all_next {p : Nat → Prop} {k : Nat} (h : ∀ j, j < k → p j) (hk : p k) : ∀ j, j < k + 1 → p j := fun j hj => by
 rcases Nat.lt_or_ge j k with h1 | h1
 ·exact h j h1
 ·rw [show j = k from by omega]; exact hk
end Go.Proofs.YtfnneogadciimaaDoor
set_option linter.unusedSimpArgs false
set_option linter.unusedVariables false
set_option linter.unusedSectionVars false
namespace Go.Proofs.YtfnneogadciimaaDoor
open Go.RowKit
theorem star_two' {is : List Itm} {n m m' : Nat} {i j : Itm} {w : World} {S : Nat → Prop} (h : Star is w S) (hi : is[n]? = some i) (hj : (is.eraseIdx n)[m']? = some j) (hE : (is.set m trivI).eraseIdx n = (is.eraseIdx n).set m' trivI) :
    ∃ S1 S2 : Nat → Prop, (∀ k, S1 k → S k) ∧ (∀ k, S2 k → S k) ∧ (∀ k, S1 k → ¬ S2 k) ∧ i.p w S1 ∧ j.p w S2 ∧
      ∀ (w' : World) (i' : Itm), FrS S1 w w' → i'.p w' (fun k => (S1 k ∨ S2 k) ∨ w.heap.size ≤ k) → Star ((is.set m trivI).set n i') w' (fun k => S k ∨ w.heap.size ≤ k) := by
  obtain ⟨S1, R, a1, a2, a3, a4, a5⟩ := star_pick is hi h
  obtain ⟨S2, R', b1, b2, b3, b4, b5⟩ := star_pick _ hj a5
  have hn : n < is.length := (List.getElem?_eq_some_iff.1 hi).1
  have hm : m' < (is.eraseIdx n).length := (List.getElem?_eq_some_iff.1 hj).1
  refine ⟨S1, S2, a1, fun k h => a2 k (b1 k h), fun k h h' => a3 k h (b1 k h'), a4, b4, fun w' i' hf hi' => ?_⟩
  refine star_unpick _ (by simpa using hn) ?_
  rw [hE]
  refine ⟨fun k => (S1 k ∨ S2 k) ∨ w.heap.size ≤ k, fun k => R' k ∧ k < w.heap.size, fun k h => h.elim (fun h => .inl (h.elim (a1 k) fun h => a2 k (b1 k h))) .inr, fun k h => .inl (a2 k (b2 k h.1)), fun k h h' => h.elim (fun h => h.elim (fun h => a3 k h (b2 k h'.1)) (fun h => b3 k h h'.1)) (fun h => by have := h'.2; omega), hi', ?_⟩
  refine star_unpick _ hm ⟨fun _ => False, fun k => R' k ∧ k < w.heap.size, fun k h => h.elim, fun k h => h, fun k h => h.elim, trivial, ?_⟩
  exact star_keep _ (fun k hk h => ⟨h, hk⟩) (fun k hk h => hf.block k hk fun e => a3 k e (b2 k h)) b5
section
variable {w0 : World} {is : List Itm} {ops : Array Oper} {Q : Exit → Act → World → Prop} {o : Oper} {rest : List Oper} {N : Frm} {e : Env} {v : Value} {d : Nat} {K : Act → World → Prop}
theorem go_sliceR0 {t : TypeId} (hd : o.dst = some d) (hN : Nat.blt d N = true) (hop : o.op = .buildSlice t 0 #[]) (ht : Tryd.prog.underlying t = some (.slice 22))
    (hk : ∀ B : Nat, GK w0 (is ++ [own2U (.slice (some ⟨B, 0, none⟩) 0 0) [] []]) N K ((d, .slice (some ⟨B, 0, none⟩) 0 0) :: e)) : GO w0 is N o e Q K := by
  intro w ac M F
  have hU : Own2U (.slice (some ⟨w.heap.size, 0, none⟩) 0 0) [] [] (w.alloc (.cells #[] 22)) (fun k => w.heap.size ≤ k) := by
    refine ⟨rfl, by decide, ⟨by simp, .inr ⟨w.heap.size, 0, #[], rfl, Nat.zero_le _, heap_alloc_new w _, Nat.le_refl _, by unfold maxLen; omega, by simp, by simp⟩⟩, fun i hi => absurd hi (by simp), fun i j hij hj => absurd hj (by simp), fun q hq => ?_⟩
    simp [Value.ownBlock] at hq; omega
  refine go_val (v := .slice (some ⟨w.heap.size, 0, none⟩) 0 0) (w' := w.alloc (.cells #[] 22)) hd hN F ?_ fun ac F => hk _ _ ac (mem_new M (below_alloc w _) hU) F
  intro ρ F
  obtain ⟨i, hi, hz, hs, hb⟩ := info_parts infoS
  simp [execOp, hop, Instr.buildSlice, run_underlying ht, sizeOf, typeInfo, hi, hs, Instr.fill, newRow, zeroValue, hz, Value.cells, Sem.run_bind, range0]
theorem go_sliceR1 {t : TypeId} {x : Operand} {m : Nat} {u : Value} {r : List Int} (hd : o.dst = some d) (hN : Nat.blt d N = true) (hop : o.op = .buildSlice t 1 #[(0, x)]) (hx : evo e x = some u) (ht : Tryd.prog.underlying t = some (.slice 22)) (hi : is[m]? = some (own1I u r))
    (hk : ∀ B : Nat, GK w0 (is.set m (own2U (.slice (some ⟨B, 0, none⟩) 1 1) [u] [r])) N K ((d, .slice (some ⟨B, 0, none⟩) 1 1) :: e)) : GO w0 is N o e Q K := by
  intro w ac M F
  obtain ⟨S, hS, hp, hset⟩ := mem_set M hi
  have hp' : Own1 u r w S := hp
  obtain ⟨ua, uc, rfl⟩ := rd_form hp'.rd
  have hU : Own2U (.slice (some ⟨w.heap.size, 0, none⟩) 1 1) [.slice ua r.length uc] [r] (w.alloc (.cells #[.slice ua r.length uc] 22)) (fun k => S k ∨ w.heap.size ≤ k) := by
    refine ⟨rfl, by simp, ⟨by simp, .inr ⟨w.heap.size, 1, #[.slice ua r.length uc], rfl, Nat.zero_le _, heap_alloc_new w _, Nat.le_refl _, by unfold maxLen; omega, by simp, by simp⟩⟩, fun i hi => ?_, fun i j hij hj => by simp at hj; omega, fun q hq => ?_⟩
    · obtain rfl : i = 0 := by simpa using hi
      refine ⟨sl_alloc hp'.1 _, fun q hq hv => ?_, fun q hq => .inl (hp'.2 q hq)⟩
      have := (hp'.1.1.lt q hq).2
      simp only [Value.ownBlock, Option.some.injEq] at hv
      omega
    · simp only [Value.ownBlock, Option.some.injEq] at hq; exact .inr (by omega)
  refine go_val (v := .slice (some ⟨w.heap.size, 0, none⟩) 1 1) (w' := w.alloc (.cells #[.slice ua r.length uc] 22)) hd hN F ?_ fun ac F => hk _ _ ac (hset _ _ (frS_new (below_alloc w _)) hU) F
  intro ρ F; have hx := F _ _ hx
  obtain ⟨i, hi, hz, hs, hb⟩ := info_parts infoS
  simp [execOp, hop, hx, Instr.buildSlice, run_underlying ht, sizeOf, typeInfo, hi, hs, Instr.fill, newRow, zeroValue, hz, Value.cells, Sem.run_bind, range1]
theorem go_appendRow {s x : Operand} {t : TypeId} {n m m' : Nat} {us : List Value} {rows : List (List Int)} {r : List Int} {u ru : Value} (hd : o.dst = some d) (hN : Nat.blt d N = true) (hop : o.op = .call { callee := .builtin .append, args := #[s, x], argTypes := #[t, t] }) (ht : Tryd.prog.underlying t = some (.slice 22))
    (hs : evo e s = some v) (hx : evo e x = some u) (hi : is[n]? = some (own2U v us rows)) (hj : (is.eraseIdx n)[m']? = some (own2U u [ru] [r])) (hE : (is.set m trivI).eraseIdx n = (is.eraseIdx n).set m' trivI) (hn : rows.length + 1 ≤ 5000000000000)
    (hk : ∀ a cap, GK w0 ((is.set m trivI).set n (own2U (.slice a (rows ++ [r]).length cap) (us ++ [ru]) (rows ++ [r]))) N K ((d, .slice a (rows ++ [r]).length cap) :: e)) : GO w0 is N o e Q K := by
  intro w ac M F
  obtain ⟨S1, S2, k1, k2, kd, hp, hq, hset⟩ := star_two' M.2 hi hj hE
  have hp' : Own2U v us rows w S1 := hp
  have hq' : Own2U u [ru] [r] w S2 := hq
  obtain ⟨i, hi', hz, hs1, hb⟩ := info_parts infoS
  obtain ⟨hul, hl2, hown, hrows, hpair, hvS⟩ := hp'
  have hr2 := hq'.2.2.2.1 0 (by simp)
  simp only [List.getD_cons_zero] at hr2
  have hown2 := hq'.2.2.1
  obtain ⟨ra, rc, hru, _⟩ := sl_form hr2.1
  rcases hown2.2 with ⟨_, h⟩ | ⟨g2, c2, cur2, rfl, _⟩
  · simp at h
  obtain ⟨v', w', hr, hown', hgrow, _, hat⟩ := run_append_own_at (P := Tryd.prog) w 0 t o.type 22 i (.slice none 0 0) 1 24 ht hi' hz hs1 hb rfl (by decide) v rows.length us hown ⟨g2, 0, none⟩ 1 c2 [ru] rfl (fun j z hz => by
    have hj0 : j < [ru].length := by
      rcases Nat.lt_or_ge j [ru].length with h | h
      · exact h
      · rw [List.getElem?_eq_none h] at hz; cases hz
    rw [Addr.add_lit, Nat.zero_add, hown2.cellAt j (by simpa using hj0)]; exact hz) (by rw [hru]; simp [Value.oneCell']) (by unfold maxLen; omega) (by omega) (Nat.zero_le _)
  have hvlt : ∀ q, v.ownBlock = some q → q < w.heap.size := fun q hq => (hown.lt q hq).2
  have hk1 : ∀ q, v'.ownBlock = some q → S1 q ∨ w.heap.size ≤ q := fun q hq => by
    rcases hat with h | h
    · exact .inl (hvS q (by rw [← h]; exact hq))
    · rw [h] at hq; simp only [Option.some.injEq] at hq; exact .inr (by omega)
  have hneR : ru.ownBlock = none ∨ ru.ownBlock ≠ v.ownBlock := by
    cases hb0 : ru.ownBlock with
    | none => exact .inl rfl
    | some q => exact .inr fun e => kd q (hvS q e.symm) (hr2.2.2 q hb0)
  have hfin : Own2U v' (us ++ [ru]) (rows ++ [r]) w' (fun k => (S1 k ∨ S2 k) ∨ w.heap.size ≤ k) := by
    refine ⟨by simp [hul], by simpa using hn, by simpa using hown', fun i hi => ?_, fun i j hij hj => ?_, fun q hq => (hk1 q hq).imp .inl id⟩
    · simp only [List.length_append, List.length_singleton] at hi
      rcases Nat.lt_or_ge i rows.length with h | h
      · rw [show (us ++ [ru]).getD i undef = us.getD i undef from by rw [List.getD_eq_getElem?_getD, List.getD_eq_getElem?_getD, List.getElem?_append_left (by omega)], show (rows ++ [r]).getD i [] = rows.getD i [] from by rw [List.getD_eq_getElem?_getD, List.getD_eq_getElem?_getD, List.getElem?_append_left h]]
        obtain ⟨h1, h2, h3⟩ := hrows i h
        refine ⟨sl_kept h1 hgrow (apart_ne h2), fun q hq hv => ?_, fun q hq => .inl (.inl (h3 q hq))⟩
        rcases hat with ha | ha
        · exact h2 q hq (by rw [← ha]; exact hv)
        · rw [ha] at hv; simp only [Option.some.injEq] at hv; have := (h1.1.lt q hq).2; omega
      · obtain rfl : i = rows.length := by omega
        rw [show (us ++ [ru]).getD rows.length undef = ru from by rw [List.getD_eq_getElem?_getD, List.getElem?_append_right (by omega)]; simp [hul], show (rows ++ [r]).getD rows.length [] = r from by rw [List.getD_eq_getElem?_getD, List.getElem?_append_right (by omega)]; simp]
        refine ⟨sl_kept hr2.1 hgrow hneR, fun q hq hv => ?_, fun q hq => .inl (.inr (hr2.2.2 q hq))⟩
        rcases hk1 q hv with h | h
        · exact kd q h (hr2.2.2 q hq)
        · have := (hr2.1.1.lt q hq).2; omega
    · simp only [List.length_append, List.length_singleton] at hj
      rw [show (us ++ [ru]).getD i undef = us.getD i undef from by rw [List.getD_eq_getElem?_getD, List.getD_eq_getElem?_getD, List.getElem?_append_left (by omega)]]
      rcases Nat.lt_or_ge j rows.length with h | h
      · rw [show (us ++ [ru]).getD j undef = us.getD j undef from by rw [List.getD_eq_getElem?_getD, List.getD_eq_getElem?_getD, List.getElem?_append_left (by omega)]]
        exact hpair i j hij h
      · obtain rfl : j = rows.length := by omega
        rw [show (us ++ [ru]).getD rows.length undef = ru from by rw [List.getD_eq_getElem?_getD, List.getElem?_append_right (by omega)]; simp [hul]]
        exact fun q hq hv => kd q ((hrows i hij).2.2 q hq) (hr2.2.2 q hv)
  obtain ⟨va, vc, rfl⟩ := rd2_form (Own2.rd (S := fun k => (S1 k ∨ S2 k) ∨ w.heap.size ≤ k) ⟨_, hfin⟩)
  have hf : FrS S1 w w' := frS_grown hgrow hvS
  refine go_val (v := .slice va (rows ++ [r]).length vc) (w' := w') hd hN F ?_ fun ac F => hk va vc w' ac ⟨below_frS M.1 hf (Nat.le_refl _) k1, star_keep _ (fun k _ hk => hk.elim id fun h => Nat.le_trans M.1.size h) agree_refl (hset w' (own2U (.slice va (rows ++ [r]).length vc) (us ++ [ru]) (rows ++ [r])) hf hfin)⟩ F
  intro ρ F; have hs := F _ _ hs; have hx := F _ _ hx
  simp only [execOp, hop, resolve, invoke, builtin, Sem.run_bind, Sem.run_pure, Result.andThen_ok, List.map_toArray, List.map_cons, List.map_nil, hs, hx]
  simp only [List.length_singleton] at hr ⊢
  rw [hr]
  rfl
variable {f : FuncId} {fn : Func} {ags : Array Operand} {ts : Array TypeId} {vs : List Value}
end
end Go.Proofs.YtfnneogadciimaaDoor
namespace Go.Proofs.YtfnneogadciimaaDoor
open Go.RowKit
section
variable {w0 : World} {is : List Itm} {ops : Array Oper} {Q : Exit → Act → World → Prop} {o : Oper} {rest : List Oper} {N : Frm} {e : Env} {v : Value} {d : Nat} {K : Act → World → Prop}
end
end Go.Proofs.YtfnneogadciimaaDoor
namespace Go.Proofs.YtfnneogadciimaaDoor
open Go.RowKit
section
variable {w0 : World} {is : List Itm} {ops : Array Oper} {Q : Exit → Act → World → Prop} {o : Oper} {rest : List Oper} {N : Frm} {e : Env} {v : Value} {d : Nat} {K : Act → World → Prop}
end
end Go.Proofs.YtfnneogadciimaaDoor
set_option linter.unusedSimpArgs false
set_option linter.unusedVariables false
set_option linter.unusedSectionVars false
namespace Go.Proofs.YtfnneogadciimaaDoor
open Go.RowKit
def tabTo (φ : Nat → Int) (k : Nat) : List Int := (List.range k).map φ
theorem tabTo_succ (φ : Nat → Int) (k : Nat) : tabTo φ k ++ [φ k] = tabTo φ (k + 1) := by simp [tabTo, List.range_succ]
theorem tabTo_len (φ : Nat → Int) (k : Nat) : (tabTo φ k).length = k := by simp [tabTo]
theorem tabTo_at (φ : Nat → Int) {k j : Nat} (h : j < k) : at0 (tabTo φ k) j = φ j := by
  rw [at0_nat]; simp [tabTo, List.getD_eq_getElem?_getD, List.getElem?_eq_getElem, h]
def rowsTo (ψ : Nat → List Int) (k : Nat) : List (List Int) := (List.range k).map ψ
theorem rowsTo_succ (ψ : Nat → List Int) (k : Nat) : rowsTo ψ k ++ [ψ k] = rowsTo ψ (k + 1) := by simp [rowsTo, List.range_succ]
noncomputable def filTo (p : Nat → Prop) (φ : Nat → Int) (k : Nat) : List Int := ((List.range k).filter fun j => bP (p j)).map φ
theorem filTo_t {p : Nat → Prop} {φ : Nat → Int} {k : Nat} (h : p k) : filTo p φ k ++ [φ k] = filTo p φ (k + 1) := by simp [filTo, List.range_succ, bP_t h]
theorem filTo_f {p : Nat → Prop} {φ : Nat → Int} {k : Nat} (h : ¬ p k) : filTo p φ k = filTo p φ (k + 1) := by simp [filTo, List.range_succ, bP_f h]
theorem filTo_len (p : Nat → Prop) (φ : Nat → Int) (k : Nat) : (filTo p φ k).length ≤ k := by
  simp only [filTo, List.length_map]; exact Nat.le_trans (List.length_filter_le _ _) (by simp)
theorem filTo_mem {p : Nat → Prop} {φ : Nat → Int} {k : Nat} {x : Int} : x ∈ filTo p φ k ↔ ∃ j, j < k ∧ p j ∧ φ j = x := by
  simp only [filTo, List.mem_map, List.mem_filter, List.mem_range]
  exact ⟨fun ⟨j, ⟨h1, h2⟩, h3⟩ => ⟨j, h1, bP_iff.1 h2, h3⟩, fun ⟨j, h1, h2, h3⟩ => ⟨j, ⟨h1, bP_t h2⟩, h3⟩⟩
theorem at0_mem {xs : List Int} {j : Nat} (h : j < xs.length) : at0 xs j ∈ xs := by rw [at0_nat]; exact mem_getD h
end Go.Proofs.YtfnneogadciimaaDoor
set_option linter.unusedSimpArgs false
set_option linter.unusedVariables false
set_option linter.unusedSectionVars false
namespace Go.Proofs.YtfnneogadciimaaDoor
open Go.RowKit
abbrev Ent (α : Type) := Int × Int × α
structure Lab (α : Type) where
  z : Nat
  lc : α → List Value
  tE : TypeId
  tS : TypeId
  tM : TypeId
  bts : Nat
  zc : Value
  td : TypeDesc
  len : ∀ l, (lc l).length = z
  one : ∀ l, (lc l).all (·.oneCell') = true
  inf : (Tryd.prog.info? tE).map (fun i => (i.zero, i.size, i.bytes)) = some (some zc, z + 2, bts)
  zl : zc.cells.size = z + 2
  cap : Nat
  hc1 : 1 ≤ cap
  hc2 : cap ≤ 17592186044415
  hcb : cap * bts ≤ 140737488355328
  hz : z ≤ 64
  ud : Tryd.prog.underlying tE = some td
  row : td.isRow = true
  ul : Tryd.prog.underlying tS = some (.slice tE)
  el : Tryd.prog.elem tS = tE
  um : Tryd.prog.underlying tM = some (.map tE 2)
  chk : ∀ (a b : Int) (l : α) (em : Bool) (w : World), (Instr.checkKey em 10000 tE (.agg (Value.int .i64 a :: Value.int .i64 b :: lc l).toArray)).run Tryd.prog w = .ok () w
  eqk : ∀ (a b a' b' : Int) (l l' : α) (w : World), (Op.equal tE (.agg (Value.int .i64 a :: Value.int .i64 b :: lc l).toArray) (.agg (Value.int .i64 a' :: Value.int .i64 b' :: lc l').toArray)).run Tryd.prog w = .ok (bP (a = a' ∧ b = b' ∧ l = l')) w
variable {α : Type}
def enc (L : Lab α) (e : Ent α) : List Value := Value.int .i64 e.1 :: Value.int .i64 e.2.1 :: L.lc e.2.2
@[irreducible] def atE [Inhabited α] (es : List (Ent α)) (i : Int) : Ent α := es.getD i.toNat default
def eltE (z : Nat) (v : Value) (i : Int) : Value := match v with | .slice (some a) _ _ => .pointer (some ⟨a.block, a.off + i.toNat * z, none⟩) | _ => .pointer none
section
variable {w0 : World} {is : List Itm} {ops : Array Oper} {Q : Exit → Act → World → Prop} {o : Oper} {rest : List Oper} {N : Frm} {e : Env} {v : Value} {d : Nat} {K : Act → World → Prop}
end
section
variable {w0 : World} {is : List Itm} {ops : Array Oper} {Q : Exit → Act → World → Prop} {o : Oper} {rest : List Oper} {N : Frm} {e : Env} {v : Value} {d : Nat} {K : Act → World → Prop}
end
end Go.Proofs.YtfnneogadciimaaDoor
set_option linter.unusedSimpArgs false
set_option linter.unusedVariables false
set_option linter.unusedSectionVars false
namespace Go.Proofs.YtfnneogadciimaaDoor
open Go.RowKit
section
variable {w0 : World} {is is0 : List Itm} {ops : Array Oper} {Q : Exit → Act → World → Prop} {o : Oper} {rest : List Oper} {N : Frm} {e : Env} {v : Value} {d : Nat} {K : Act → World → Prop}
variable {f : FuncId} {fn : Func} {ags : Array Operand} {ts : Array TypeId} {vs caps : List Value}
theorem ga_two {fuel : Nat} {listed : Array Bool} {oi oj : Oper} (i j : Nat) (hr : Region.ready .any ops listed = [i, j]) (hi : ops[i]? = some oi) (hj : ops[j]? = some oj) (wi : Want ops e oi true) (wj : Want ops e oj true)
    (h1 : ∀ K : Act → World → Prop, (∀ is e, (∀ w, Mem w0 w is → Mem w0 w is0) → GA w0 is0 is N ops Q fuel (listed.setIfInBounds i true) e → GK w0 is N K e) → GO w0 is N oi e Q K)
    (h2 : ∀ K : Act → World → Prop, (∀ is e, (∀ w, Mem w0 w is → Mem w0 w is0) → GA w0 is0 is N ops Q fuel (listed.setIfInBounds j true) e → GK w0 is N K e) → GO w0 is N oj e Q K) : GA w0 is0 is N ops Q (fuel + 1) listed e := by
  intro w a h0 M F
  refine wpAnyH_ready hr (by simp) (AllReadyH.cons hi (fun K' hK => ?_) (AllReadyH.cons hj (fun K' hK => ?_) AllReadyH.nil))
  · rw [if_pos (want_eq wi F)]
    exact h1 K' (fun is' e' hS hg w' a' M' F' => hK.out a' w' (hS w' M') fun h0' => hg w' a' h0' M' F') w a M F
  · rw [if_pos (want_eq wj F)]
    exact h2 K' (fun is' e' hS hg w' a' M' F' => hK.out a' w' (hS w' M') fun h0' => hg w' a' h0' M' F') w a M F
theorem ga_three {fuel : Nat} {listed : Array Bool} {oa ob oc : Oper} (ia ib ic : Nat) (hr : Region.ready .any ops listed = [ia, ib, ic]) (ha : ops[ia]? = some oa) (wa : Want ops e oa true) (hb : ops[ib]? = some ob) (wb : Want ops e ob true) (hc : ops[ic]? = some oc) (wc : Want ops e oc true) 
    (ka : ∀ K : Act → World → Prop, (∀ is e, (∀ w, Mem w0 w is → Mem w0 w is0) → GA w0 is0 is N ops Q fuel (listed.setIfInBounds ia true) e → GK w0 is N K e) → GO w0 is N oa e Q K)
    (kb : ∀ K : Act → World → Prop, (∀ is e, (∀ w, Mem w0 w is → Mem w0 w is0) → GA w0 is0 is N ops Q fuel (listed.setIfInBounds ib true) e → GK w0 is N K e) → GO w0 is N ob e Q K)
    (kc : ∀ K : Act → World → Prop, (∀ is e, (∀ w, Mem w0 w is → Mem w0 w is0) → GA w0 is0 is N ops Q fuel (listed.setIfInBounds ic true) e → GK w0 is N K e) → GO w0 is N oc e Q K) : GA w0 is0 is N ops Q (fuel + 1) listed e := by
  intro w a h0 M F
  refine wpAnyH_ready hr (by simp) (AllReadyH.cons ha (fun K' hK => ?_) (AllReadyH.cons hb (fun K' hK => ?_) (AllReadyH.cons hc (fun K' hK => ?_) AllReadyH.nil)))
  · rw [if_pos (want_eq wa F)]
    exact ka K' (fun is' e' hS hg w' a' M' F' => hK.out a' w' (hS w' M') fun h0' => hg w' a' h0' M' F') w a M F
  · rw [if_pos (want_eq wb F)]
    exact kb K' (fun is' e' hS hg w' a' M' F' => hK.out a' w' (hS w' M') fun h0' => hg w' a' h0' M' F') w a M F
  · rw [if_pos (want_eq wc F)]
    exact kc K' (fun is' e' hS hg w' a' M' F' => hK.out a' w' (hS w' M') fun h0' => hg w' a' h0' M' F') w a M F
theorem gc_cut {σ : Type} {c : Code} (C : Env) (E : σ → Env) (ch : σ → List (Nat × Itm)) (nw : σ → List Itm) (hC : Sub C e) (h1 : ∀ s, GK w0 (updL is (ch s) ++ nw s) N (Q .normal) (E s ++ C)) (h2 : (∀ s, GK w0 (updL is (ch s) ++ nw s) N (Q .normal) (E s ++ C)) → GC w0 is N c Q e) : GC w0 is N c Q e := h2 h1
def pickL : List Itm → List Nat → List Itm
  | _, [] => []
  | is, k :: ks => match is[k]? with
    | some i => i :: pickL (is.eraseIdx k) ks
    | none => pickL is ks
theorem star_pickL : ∀ (ks : List Nat) (is : List Itm) {w : World} {S : Nat → Prop}, Star is w S → Star (pickL is ks) w S
  | [], _, _, _, _ => trivial
  | k :: ks, is, w, S, h => by
    unfold pickL
    cases hi : is[k]? with
    | none => exact star_pickL ks is h
    | some i =>
      obtain ⟨S1, S2, k1, k2, hd, h1, h2⟩ := star_pick is hi h
      exact ⟨S1, S2, k1, k2, hd, h1, star_pickL ks _ h2⟩
theorem gk_pickL (ks : List Nat) (h : GK w0 (pickL is ks) N K e) : GK w0 is N K e := fun w a M F => h w a ⟨M.1, star_pickL ks is M.2⟩ F
theorem qt_nilP {x : Operand} {a : Addr} (hop : o.op = .nilCheck x) (hx : evo e x = some (.pointer (some a))) : QV w0 is o e (.pointer (some a)) := fun w ac M F => by
  have hx := F _ _ hx
  simp [execOp, hop, hx]
theorem qt_makeF {f : Fn} {cs : Array Operand} {us : List Value} (hop : o.op = .makeFunc f #[] cs) (hc : evoL e cs.toList = some us) : QV w0 is o e (.func f #[] us.toArray) := fun w ρ M F => by
  have : cs.map ρ = us.toArray := by
    have h : ∀ {xs : List Operand} {vs : List Value}, evoL e xs = some vs → xs.map ρ = vs := by
      intro xs
      induction xs with
      | nil => intro vs hv; simpa [evoL] using hv
      | cons x xs ih =>
        intro vs hv
        unfold evoL at hv
        cases h1 : evo e x with
        | none => rw [h1] at hv; simp at hv
        | some v =>
          cases h2 : evoL e xs with
          | none => rw [h1, h2] at hv; simp at hv
          | some us =>
            rw [h1, h2] at hv
            simp only [Option.some.injEq] at hv
            rw [← hv, List.map_cons, F x v h1, ih h2]
    have := h hc
    rw [← this]; apply Array.toList_inj.1; simp
  simp [execOp, hop, Instr.makeFunc, this]
theorem mem_nilU {w : World} (M : Mem w0 w is) : Mem w0 w (is ++ [own2U (.slice none 0 0) [] []]) :=
  mem_new M (Below.refl _ _) ⟨rfl, by simp, World.ownsRow_nil w 0 _ 1, fun i hi => by simp at hi, fun i j _ hj => by simp at hj, fun q hq => by simp [Value.ownBlock] at hq⟩
theorem gc_nilU {c : Code} (hk : GC w0 (is ++ [own2U (.slice none 0 0) [] []]) N c Q e) : GC w0 is N c Q e := fun w a M F => hk w a (mem_nilU M) F
theorem ret_0 {fn : Func} {R : Ending → World → Prop} (h : fn.results = #[]) (hR : ∀ w, Mem w0 w is → R (.returned (.tuple #[])) w) (hds : N.ds = [] := by rfl) : GK w0 is N (bodyPost Tryd.prog fn R .ret) e :=
  fun w ac M F => bodyPost_ret (v := .tuple #[]) (by simp [results, h]) (F.nil hds) (hR w M)
theorem ret_0n {fn : Func} {R : Ending → World → Prop} (h : fn.results = #[]) (hR : ∀ w, Mem w0 w is → R (.returned (.tuple #[])) w) (hds : N.ds = [] := by rfl) : GK w0 is N (bodyPost Tryd.prog fn R .normal) e :=
  fun w ac M F => bodyPost_end (v := .tuple #[]) (by simp [results, h]) (F.nil hds) (hR w M)
theorem gc_enterM {N : Nat} {c : Code} {w : World} {l : List Value} (M : Mem w0 w is) (hN : l.length = N) (he : ∀ t v, look e t = some v → l[t]? = some v) (h : GC w0 is (Frm.of N) c Q e) : c.wp Tryd.prog Q ⟨l.toArray, []⟩ w := wp_out (h w _ M (fit_enter hN he) rdy_of)
def packI (F : List Itm) : Itm := ⟨fun w S => Star F w S, ⟨fun hs ha h => star_keep F hs ha h⟩⟩
theorem star_pack {i j : Itm} {F : List Itm} {w : World} {S : Nat → Prop} (h : Star (i :: j :: F) w S) : Star [i, j, packI F] w S := by
  obtain ⟨S1, S2, k1, k2, hd, h1, T1, T2, t1, t2, td, a1, a2⟩ := h
  exact ⟨S1, S2, k1, k2, hd, h1, T1, T2, t1, t2, td, a1, T2, fun _ => False, fun k h => h, fun k h => h.elim, fun k _ h => h, a2, trivial⟩
theorem star_unpack {i j : Itm} {F : List Itm} {w : World} {S : Nat → Prop} (h : Star [i, j, packI F] w S) : Star (i :: j :: F) w S := by
  obtain ⟨S1, S2, k1, k2, hd, h1, T1, T2, t1, t2, td, a1, U1, U2, u1, u2, ud, b1, _⟩ := h
  exact ⟨S1, S2, k1, k2, hd, h1, T1, T2, t1, t2, td, a1, star_keep F (fun k _ hk => u1 k hk) agree_refl b1⟩
theorem mem_two_out {w : World} {i j : Itm} {n m' : Nat} (M : Mem w0 w is) (hi : is[n]? = some i) (hj : (is.eraseIdx n)[m']? = some j) : Mem w0 w [i, j, packI ((is.eraseIdx n).eraseIdx m')] := by
  refine ⟨M.1, star_pack ?_⟩
  obtain ⟨S1, R, a1, a2, a3, a4, a5⟩ := star_pick is hi M.2
  exact ⟨S1, R, a1, a2, a3, a4, star_pick _ hj a5⟩
theorem mem_two_in {w : World} {i' j' : Itm} {n m m' : Nat} (hn : n < is.length) (hm : m' < (is.eraseIdx n).length) (hE : (is.set m j').eraseIdx n = (is.eraseIdx n).set m' j') (M : Mem w0 w [i', j', packI ((is.eraseIdx n).eraseIdx m')]) : Mem w0 w ((is.set m j').set n i') := by
  refine ⟨M.1, star_unpick _ (by simpa using hn) ?_⟩
  rw [hE]
  obtain ⟨S1, R, a1, a2, a3, a4, a5⟩ := star_unpack M.2
  exact ⟨S1, R, a1, a2, a3, a4, star_unpick _ hm a5⟩
theorem go_two {σ : Type} {i j : Itm} {i' j' : σ → Itm} {n m m' : Nat} {r : Value} (hd : o.dst = some d) (hN : Nat.blt d N = true) (hop : o.op = .call { callee := .value (.func f), args := ags, argTypes := ts }) (hfn : Tryd.prog.funcs[f]? = some fn) (hb : fn.body.isNone = false) (hnm : (fn.name == "runtime.NumGoroutine") = false)
    (hargs : evoL e ags.toList = some vs) (hi : is[n]? = some i) (hj : (is.eraseIdx n)[m']? = some j) (hE : ∀ z, (is.set m z).eraseIdx n = (is.eraseIdx n).set m' z)
    (hc : ∀ (R : Itm) w, Mem w0 w [i, j, R] → Calls Tryd.prog f vs.toArray w (fun e w' => ∃ s, e = .returned r ∧ Mem w0 w' [i' s, j' s, R]))
    (hk : ∀ s, GK w0 ((is.set m (j' s)).set n (i' s)) N K ((d, r) :: e)) : GO w0 is N o e Q K := by
  intro w a M F
  have hn : n < is.length := (List.getElem?_eq_some_iff.1 hi).1
  have hm : m' < (is.eraseIdx n).length := (List.getElem?_eq_some_iff.1 hj).1
  refine go_call hd hN F hop hfn hb hnm hargs (hc _ w (mem_two_out M hi hj)) fun e' w' hR => ?_
  obtain ⟨s, rfl, M'⟩ := hR
  exact ⟨r, rfl, fun a F => hk s w' a (mem_two_in hn hm (hE _) M') F⟩
end
section
variable {w0 : World} {is : List Itm} {o : Oper} {e : Env}
theorem qt_loadP {x : Operand} {t tb : TypeId} {n B j z : Nat} {cs : List Value} {td : TypeDesc} (hop : o.op = .load t x) (hx : evo e x = some (.pointer (some ⟨B, j, none⟩))) (ht : Tryd.prog.underlying t = some td) (hd : td.isRow = true)
    (hs : (Tryd.prog.info? t).map (·.size) = some z) (hi : is[n]? = some (bxI B tb cs)) (hl : j + z ≤ cs.length) : QV w0 is o e (.agg ((cs.drop j).take z).toArray) :=
  fun w ac M F => by
    have hx := F _ _ hx
    have hb := mem_bx M hi
    have hc : w.rangeAt B j ((cs.drop j).take z) := fun i u hu => by
      refine bx_cell hb (j + i) ?_
      rw [List.getElem?_take] at hu
      split at hu
      · rw [List.getElem?_drop] at hu; exact hu
      · cases hu
    have hlen : ((cs.drop j).take z).length = z := by simp; omega
    simp only [execOp, hop, hx, Sem.run_bind, run_loadAt_mid w B j t _ td hc ht hd (by rw [hs, hlen]), Result.andThen_ok]
    rfl
end
end Go.Proofs.YtfnneogadciimaaDoor
