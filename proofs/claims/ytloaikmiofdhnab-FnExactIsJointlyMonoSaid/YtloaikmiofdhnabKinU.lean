
/- Arrows that are cancelled jointly: the program's. -/
import Derived.Test.YtloaikmiofdhnabKinT
set_option linter.unusedSimpArgs false
set_option linter.unusedVariables false
set_option linter.unusedSectionVars false
namespace Go.Proofs.Ytloaikmiofdhnab
open Go.RowKit

set_option maxHeartbeats 1000000 in
set_option maxRecDepth 100000 in
theorem otherEnd_any (w : World) (f : Int) (B D : Nat) (tB tD : TypeId) (ue uf : Value) (es fs : List Int) (hbB : BxV w B tB (.agg [ue].toArray)) (hbD : BxV w D tD (.agg [uf].toArray)) (he : Rd w ue es) (hu : Rd w uf fs) (hp : 0 < fs.length) (hx : AllP es.length fs) (f0 : 0 ≤ f) (f1 : f < es.length) :
    Calls Try.prog 128 #[.int .i64 f, .pointer (some ⟨B, 0, none⟩), .pointer (some ⟨D, 0, none⟩)] w (RetB w (decide (at0 es f ≠ at0 es (at0 fs 0)))) := by
  have hx0 : 0 ≤ at0 fs 0 ∧ at0 fs 0 < es.length := allP_at hx (k := 0) hp
  go_enter Try.func128, Try.ntmps128
  refine gc_enter (N := 16) rfl (look_cons (k := 0) rfl (look_cons (k := 1) rfl (look_cons (k := 2) rfl (look_nil _)))) ?_
  refine gc_seq fun K1 hK1 => ?_
  refine gc_region ?_
  refine g_v (.free rfl) rfl rfl (qt_assign rfl rfl) ?_
  refine g_nil ?_
  refine gk_then (hK1 _ _ ?_)
  refine gc_seq fun K2 hK2 => ?_
  refine gc_draw (by kernel_rfl) ?_
  refine gd_v (.free rfl) rfl rfl (qt_loadRB hbB rfl rfl Try.underlying22 rfl rfl) ?_
  refine gd_v (.free rfl) rfl rfl (qt_move rfl rfl) ?_
  refine gd_v (.free rfl) rfl rfl (qt_index rfl rfl rfl ulE1 szE1 (fun w M => lenA_rd he) (by omega) (by omega)) ?_
  refine gd_v (.free rfl) rfl rfl (qt_load1 rfl rfl Try.underlying2 rfl (fun w M => mem_rd M he) (by omega) (by omega)) ?_
  refine gd_v (.free rfl) rfl rfl (qt_loadRB hbB rfl rfl Try.underlying22 rfl rfl) ?_
  refine gd_v (.free rfl) rfl rfl (qt_loadRB hbD rfl rfl Try.underlying22 rfl rfl) ?_
  refine gd_v (.free rfl) rfl rfl (qt_index rfl rfl rfl ulE1 szE1 (fun w M => lenA_rd hu) (by omega) (by omega)) ?_
  refine gd_v (.free rfl) rfl rfl (qt_load1 rfl rfl Try.underlying2 rfl (fun w M => mem_rd M hu) (by omega) (by omega)) ?_
  refine gd_v (.free rfl) rfl rfl (qt_index rfl rfl rfl ulE1 szE1 (fun w M => lenA_rd he) (by omega) (by omega)) ?_
  refine gd_v (.free rfl) rfl rfl (qt_load1 rfl rfl Try.underlying2 rfl (fun w M => mem_rd M he) (by omega) (by omega)) ?_
  refine gd_v (.free rfl) rfl rfl (qt_neq rfl rfl rfl) ?_
  refine gd_v (.free rfl) rfl rfl (qt_assign rfl rfl) ?_
  refine gd_nil ?_
  refine gk_then (hK2 _ _ ?_)
  refine gc_ret ?_
  refine ret_1 rfl rfl  (fun w M => ?_)
  exact ⟨rfl, M.1⟩

set_option maxHeartbeats 1000000 in
set_option maxRecDepth 100000 in
theorem idxInts_any (w : World) (u : Value) (xs : List Int) (fv : Value) (p : Nat → Prop) (hu : Rd w u xs) (hf : ∀ w', Below w.heap.size w w' → ∀ i : Nat, i < xs.length → CallsV fv [.int .i64 (at0 xs (i : Int))] w' (RetB w' (bP (p i)))) :
    Calls Try.prog 177 #[u, fv] w (RetI w (idxF p xs.length)) := by
  obtain ⟨ua, uc, rfl⟩ := rd_form hu
  have hul : xs.length ≤ 17592186044415 := by obtain ⟨_, _, _, hl, _⟩ := hu; exact hl
  go_enter Try.func177, Try.ntmps177
  refine gc_enter (N := 19) rfl (look_cons (k := 0) rfl (look_cons (k := 1) rfl (look_nil _))) ?_
  refine gc_seq fun K1 hK1 => ?_
  refine gc_region ?_
  refine g_v (.free rfl) rfl rfl (qt_assign rfl rfl) ?_
  refine g_nil ?_
  refine gk_then (hK1 _ _ ?_)
  refine gc_seq fun K2 hK2 => ?_
  refine gc_seq fun K3 hK3 => ?_
  refine gc_region ?_
  refine g_v (.free rfl) rfl rfl (qt_move rfl rfl) ?_
  refine g_v (.free rfl) rfl rfl (qt_len rfl rfl ulE1 (fun w M => lenV_rd hu)) ?_
  refine g_v (.free rfl) rfl rfl (qt_move rfl rfl) ?_
  refine g_nil ?_
  refine gk_then (hK3 _ _ ?_)
  refine gc_block ?_
  try simp only [List.nil_append, List.cons_append, List.append_assoc, List.set_cons_succ, List.set_cons_zero]
  refine gc_loop ([(0, _), (1, _), (7, _)] : Env) (fun s : Nat => (fun (k : Nat) => ([(8, .int .i64 (k : Int))] : Env)) s) (fun s : Nat => (fun (k : Nat) => ([] : List (Nat × Itm))) s) (fun s : Nat => (fun (k : Nat) => k ≤ xs.length ∧ ∀ j : Nat, j < k → ¬ p j) s) (fun s : Nat => (fun (k : Nat) => xs.length - k) s) (0) (sub_cons rfl (sub_cons rfl (sub_cons rfl (sub_cons rfl sub_nil)))) rfl ⟨Nat.zero_le _, fun j hj => absurd hj (by omega)⟩ ?_
  rintro k hinv KL4 hKL4
  simp only [updL, List.foldl_cons, List.foldl_nil, List.set_cons_succ, List.set_cons_zero, List.cons_append, List.nil_append] at hinv hKL4 ⊢
  obtain ⟨hk, hno⟩ := hinv
  refine gc_seq fun K5 hK5 => ?_
  refine gc_region ?_
  refine g_v (.free rfl) rfl rfl (qt_lss rfl rfl rfl) ?_
  refine g_nil ?_
  refine gk_then (hK5 _ _ ?_)
  refine gc_seq fun K6 hK6 => ?_
  refine gc_cond rfl (fun hc0 => ?_) (fun hc0 => ?_)
  · try simp only [decide_eq_true_eq, decide_eq_false_iff_not, Bool.not_eq_true', Bool.not_eq_false', Bool.not_eq_eq_eq_not, Bool.not_true, Bool.not_false, ne_eq, Decidable.not_not, Classical.not_not] at hc0
    refine gc_skip ?_
    refine gk_then (hK6 _ _ ?_)
    refine gc_seq fun K7 hK7 => ?_
    refine gc_block ?_
    refine gc_seq fun K8 hK8 => ?_
    refine gc_region ?_
    refine g_v (.free rfl) rfl rfl (qt_move rfl rfl) ?_
    refine g_v (.free rfl) rfl rfl (qt_assign rfl rfl) ?_
    refine g_nil ?_
    refine gk_then (hK8 _ _ ?_)
    refine gc_seq fun K9 hK9 => ?_
    refine gc_region ?_
    refine g_v (.free rfl) rfl rfl (qt_move rfl rfl) ?_
    refine g_v (.free rfl) rfl rfl (qt_move rfl rfl) ?_
    refine g_v (.free rfl) rfl rfl (qt_move rfl rfl) ?_
    refine g_v (.free rfl) rfl rfl (qt_index rfl rfl rfl ulE1 szE1 (fun w M => lenA_rd hu) (by omega) (by omega)) ?_
    refine g_v (.free rfl) rfl rfl (qt_load1 rfl rfl Try.underlying2 rfl (fun w M => mem_rd M hu) (by omega) (by omega)) ?_
    refine g_q (.free rfl) rfl rfl (qt_callV rfl rfl rfl (fun w M => hf w M.1 k (by omega))) ?_
    refine g_nil ?_
    refine gk_then (hK9 _ _ ?_)
    refine gc_cond rfl (fun hc1 => ?_) (fun hc1 => ?_)
    · try simp only [decide_eq_true_eq, decide_eq_false_iff_not, Bool.not_eq_true', Bool.not_eq_false', Bool.not_eq_eq_eq_not, Bool.not_true, Bool.not_false, ne_eq, Decidable.not_not, Classical.not_not] at hc1
      refine gc_seq fun K10 hK10 => ?_
      refine gc_region ?_
      refine g_v (.free rfl) rfl rfl (qt_move rfl rfl) ?_
      refine g_v (.free rfl) rfl rfl (qt_assign rfl rfl) ?_
      refine g_nil ?_
      refine gk_then (hK10 _ _ ?_)
      refine gc_ret ?_
      refine gk_block_ret ?_
      refine gk_then_ret ?_
      refine gk_then_ret ?_
      refine gk_block_ret ?_
      refine gk_then_ret ?_
      refine ret_1 rfl rfl  (fun w M => ?_)
      rw [idxF_t (by omega) (bP_t' hc1) hno]; exact ⟨rfl, M.1⟩
    · try simp only [decide_eq_true_eq, decide_eq_false_iff_not, Bool.not_eq_true', Bool.not_eq_false', Bool.not_eq_eq_eq_not, Bool.not_true, Bool.not_false, ne_eq, Decidable.not_not, Classical.not_not] at hc1
      refine gc_skip ?_
      refine gk_block ?_
      refine gk_then (hK7 _ _ ?_)
      refine gc_region ?_
      refine g_v (.free rfl) rfl rfl (qt_add rfl rfl rfl (by omega)) ?_
      refine g_v (.free rfl) rfl rfl (qt_move rfl rfl) ?_
      refine g_nil ?_
      refine gk_then (gk_take 0 ?_)
      refine gk_sub ?hs_11 (hKL4 (k + 1) ?hi_11 ?hm_11)
      case hs_11 => exact (sub_cons rfl (sub_cons rfl (sub_cons rfl (sub_cons rfl sub_nil))))
      case hi_11 => exact ⟨by omega, all_next hno (bP_f' hc1)⟩
      case hm_11 => omega
  · try simp only [decide_eq_true_eq, decide_eq_false_iff_not, Bool.not_eq_true', Bool.not_eq_false', Bool.not_eq_eq_eq_not, Bool.not_true, Bool.not_false, ne_eq, Decidable.not_not, Classical.not_not] at hc0
    refine gc_exit ?_
    refine gk_then_exit ?_
    refine gk_then_exit ?_
    refine gk_block_hit ?_
    refine gk_then (hK2 _ _ ?_)
    refine gc_seq fun K12 hK12 => ?_
    refine gc_region ?_
    refine g_v (.free rfl) rfl rfl (qt_assign rfl rfl) ?_
    refine g_nil ?_
    refine gk_then (hK12 _ _ ?_)
    refine gc_ret ?_
    refine ret_1 rfl rfl  (fun w M => ?_)
    rw [idxF_f fun j hj => hno j (by omega)]; exact ⟨rfl, M.1⟩

set_option maxHeartbeats 1000000 in
set_option maxRecDepth 100000 in
theorem conInts_any (w : World) (u : Value) (xs : List Int) (fv : Value) (p : Nat → Prop) (hu : Rd w u xs) (hf : ∀ w', Below w.heap.size w w' → ∀ i : Nat, i < xs.length → CallsV fv [.int .i64 (at0 xs (i : Int))] w' (RetB w' (bP (p i)))) :
    Calls Try.prog 129 #[u, fv] w (RetB w (bP (∃ i, i < xs.length ∧ p i))) := by
  obtain ⟨ua, uc, rfl⟩ := rd_form hu
  go_enter Try.func129, Try.ntmps129
  refine gc_enter (N := 9) rfl (look_cons (k := 0) rfl (look_cons (k := 1) rfl (look_nil _))) ?_
  refine gc_seq fun K1 hK1 => ?_
  refine gc_region ?_
  refine g_v (.free rfl) rfl rfl (qt_assign rfl rfl) ?_
  refine g_nil ?_
  refine gk_then (hK1 _ _ ?_)
  refine gc_seq fun K2 hK2 => ?_
  refine gc_region ?_
  refine g_v (.free rfl) rfl rfl (qt_move rfl rfl) ?_
  refine g_v (.free rfl) rfl rfl (qt_move rfl rfl) ?_
  refine g_q (.free rfl) rfl rfl (qt_call rfl Try.func177 rfl (by decide) rfl (fun w M => idxInts_any w _ (xs) _ (p) (mem_rd M hu) (fun w' hb i hi => hf w' (M.1.trans (hb.mono M.1.size)) i hi))) ?_
  refine g_v (.free rfl) rfl rfl (qt_geq rfl rfl rfl) ?_
  refine g_v (.free rfl) rfl rfl (qt_assign rfl rfl) ?_
  refine g_nil ?_
  refine gk_then (hK2 _ _ ?_)
  refine gc_ret ?_
  refine ret_1 rfl rfl  (fun w M => ?_)
  rw [idxF_ex]; exact ⟨rfl, M.1⟩


noncomputable def famG (n : Nat) (es fs : List Int) : List Int := if famErr es fs = 0 then imgL n fs else []
theorem famG_t {n : Nat} {es fs : List Int} (h : famErr es fs = 0) : famG n es fs = imgL n fs := if_pos h
theorem famG_f {n : Nat} {es fs : List Int} (h : famErr es fs = 5) : famG n es fs = [] := if_neg (by rw [h]; decide)
theorem ends_dec {es fs : List Int} : bP (∃ i, i < fs.length ∧ at0 es (at0 fs (i : Int)) ≠ at0 es (at0 fs 0)) = !bP (endsP es fs) := by
  by_cases h : endsP es fs
  · rw [bP_t h, bP_f fun ⟨i, hi, hn⟩ => hn (h i hi)]; rfl
  · rw [bP_f h, bP_t]
    · rfl
    · refine Classical.byContradiction fun hn => h fun j hj => Classical.byContradiction fun he => hn ⟨j, hj, he⟩
theorem map_getD {G : List Int} {F : Int → Int → Int} {i : Nat} (hi : i < G.length) : (G.map F).getD i id = F (at0 G (i : Int)) := by
  rw [at0_nat, List.getD_eq_getElem?_getD, List.getD_eq_getElem?_getD, List.getElem?_map, List.getElem?_eq_getElem hi]; rfl
theorem img_at {n : Nat} {fs : List Int} (hx : AllP n fs) {k : Nat} (hk : k < (imgL n fs).length) : 0 ≤ at0 (imgL n fs) (k : Int) ∧ at0 (imgL n fs) (k : Int) < n := by
  exact hx _ ((mem_imgL hx _).1 (at0_mem hk))
theorem img_len (n : Nat) (fs : List Int) : (imgL n fs).length ≤ n := by
  have := List.length_filter_le (fun y => decide (y ∈ fs)) (upTo 0 n)
  rw [upTo_length] at this
  exact this

set_option maxHeartbeats 4000000 in
set_option maxRecDepth 100000 in
theorem familyOf_any (w : World) (W0 : World) (u : Value) (fs : List Int) (ue : Value) (es : List Int) (g : Value) (n : Nat) (φ : Int → Int → Int) (hB : Below W0.heap.size W0 w) (hu : Rd w u fs) (he : Rd w ue es) (hx : AllP n fs) (hen : es.length = n) (hn : n ≤ 40) (hs : ∀ w', Below W0.heap.size W0 w' → ∀ f : Int, 0 ≤ f → f < n → CallsV g [.int .i64 f] w' (RetFv W0 w' (SpI n (φ f)))) :
    Calls Try.prog 71 #[u, ue, g] w (RetFam W0 w (famErr es fs) (famG n es fs).length (fun w us => ∀ i : Nat, i < (famG n es fs).length → SpI n (φ (at0 (famG n es fs) (i : Int))) w (us.getD i undef))) := by
  obtain ⟨ua, uc, rfl⟩ := rd_form hu
  obtain ⟨uea, uec, rfl⟩ := rd_form he
  have hul : fs.length ≤ 17592186044415 := by obtain ⟨_, _, _, hl, _⟩ := hu; exact hl
  have hxe : AllP es.length fs := by rw [hen]; exact hx
  go_enter Try.func71, Try.ntmps71
  refine gc_enter (N := 41) rfl (look_cons (k := 0) rfl (look_cons (k := 1) rfl (look_cons (k := 2) rfl (look_nil _)))) ?_
  refine gc_seq fun K1 hK1 => ?_
  refine gc_region ?_
  refine g_op (.free rfl) fun K3 hK3 => ?_
  refine go_box rfl rfl rfl rfl rfl ?_
  intro B2
  refine hK3 _ _ ?_
  refine g_op (.free rfl) fun K5 hK5 => ?_
  refine go_box rfl rfl rfl rfl rfl ?_
  intro B4
  refine hK5 _ _ ?_
  refine g_v (.free rfl) rfl rfl (qt_assign rfl rfl) ?_
  refine g_v (.free rfl) rfl rfl (qt_assign rfl rfl) ?_
  refine g_nil ?_
  refine gk_then (hK1 _ _ ?_)
  refine gc_seq fun K6 hK6 => ?_
  refine gc_region ?_
  refine g_v (.free rfl) rfl rfl (qt_makeF rfl rfl) ?_
  refine g_v (.free rfl) rfl rfl (qt_assign rfl rfl) ?_
  refine g_nil ?_
  refine gk_then (hK6 _ _ ?_)
  refine gc_seq fun K7 hK7 => ?_
  refine gc_seq fun K8 hK8 => ?_
  refine gc_region ?_
  refine g_v (.free rfl) rfl rfl (qt_loadB (n := 0) rfl rfl Try.underlying22 rfl rfl rfl) ?_
  refine g_v (.free rfl) rfl rfl (qt_len rfl rfl ulE1 (fun w M => lenV_rd hu)) ?_
  refine g_v (.free rfl) rfl rfl (qt_eql rfl rfl rfl) ?_
  refine g_splitv (.free rfl) rfl rfl (qt_move rfl rfl) (fun hs2_3 => ?_) (fun hs2_3 => ?_)
  · try simp only [decide_eq_true_eq, decide_eq_false_iff_not, Bool.not_eq_true', Bool.not_eq_false', Bool.not_eq_eq_eq_not, Bool.not_true, Bool.not_false, ne_eq, Decidable.not_not, Classical.not_not] at hs2_3
    refine g_skip (.not _ _ _ _ rfl rfl rfl rfl) rfl rfl ?_
    refine g_skip (.not _ _ _ _ rfl rfl rfl rfl) rfl rfl ?_
    refine g_skip (.not _ _ _ _ rfl rfl rfl rfl) rfl rfl ?_
    refine g_v (.free rfl) rfl rfl (qt_pick_t rfl rfl rfl) ?_
    refine g_nil ?_
    refine gk_then (hK8 _ _ ?_)
    refine gc_cond_t rfl ?_
    refine gc_seq fun K9 hK9 => ?_
    refine gc_region ?_
    refine g_v (.free rfl) rfl rfl (qt_assign rfl rfl) ?_
    refine g_v (.free rfl) rfl rfl (qt_assign rfl rfl) ?_
    refine g_nil ?_
    refine gk_then (hK9 _ _ ?_)
    refine gc_ret ?_
    refine gk_then_ret ?_
    refine ret_2 rfl rfl rfl  (fun w M => ?_)
    have he0 : fs = [] := List.eq_nil_of_length_eq_zero (by omega)
    rw [famErr_n he0, famG_f (famErr_n he0)]
    exact ⟨_, [], rfl, rfl, fun w2 hb hk => ⟨⟨none, 0, rfl, by simp, fun j hj => absurd hj (by simp)⟩, fun i hi => absurd hi (by simp)⟩, M.1⟩
  · try simp only [decide_eq_true_eq, decide_eq_false_iff_not, Bool.not_eq_true', Bool.not_eq_false', Bool.not_eq_eq_eq_not, Bool.not_true, Bool.not_false, ne_eq, Decidable.not_not, Classical.not_not] at hs2_3
    refine g_v (.held _ _ _ rfl rfl rfl) rfl rfl (qt_loadB (n := 0) rfl rfl Try.underlying22 rfl rfl rfl) ?_
    refine g_v (.held _ _ _ rfl rfl rfl) rfl rfl (qt_move rfl rfl) ?_
    refine g_q (.held _ _ _ rfl rfl rfl) rfl rfl (qt_call rfl Try.func129 rfl (by decide) rfl (fun w M => conInts_any w _ (fs) (_) (fun i => at0 es (at0 fs (i : Int)) ≠ at0 es (at0 fs 0)) (mem_rd M hu) (fun w' hb i hi => by
      rw [bP_dec]
      exact callsV_f (bnd := []) (vs := [_]) (caps := [_, _]) Try.func128 rfl (by decide) (otherEnd_any w' _ _ _ _ _ _ _ es fs (bxV_below hb (bxV_of (n := 1) M rfl)) (bxV_below hb (bxV_of (n := 0) M rfl)) (rd_below hb (mem_rd M he)) (rd_below hb (mem_rd M hu)) (by omega) hxe (allP_at hxe hi).1 (allP_at hxe hi).2)))) ?_
    refine g_v (.free rfl) rfl rfl (qt_pick_f rfl rfl rfl) ?_
    refine g_nil ?_
    refine gk_then (hK8 _ _ ?_)
    refine gc_cond rfl (fun hc0 => ?_) (fun hc0 => ?_)
    · try simp only [decide_eq_true_eq, decide_eq_false_iff_not, Bool.not_eq_true', Bool.not_eq_false', Bool.not_eq_eq_eq_not, Bool.not_true, Bool.not_false, ne_eq, Decidable.not_not, Classical.not_not] at hc0
      refine gc_seq fun K10 hK10 => ?_
      refine gc_region ?_
      refine g_v (.free rfl) rfl rfl (qt_assign rfl rfl) ?_
      refine g_v (.free rfl) rfl rfl (qt_assign rfl rfl) ?_
      refine g_nil ?_
      refine gk_then (hK10 _ _ ?_)
      refine gc_ret ?_
      refine gk_then_ret ?_
      refine ret_2 rfl rfl rfl  (fun w M => ?_)
      have hne : ¬ fs = [] := fun h => by rw [h] at hs2_3; exact hs2_3 rfl
      rw [ends_dec] at hc0
      have hes : ¬ endsP es fs := bP_f' (by simpa using hc0)
      rw [famErr_e hne hes, famG_f (famErr_e hne hes)]
      exact ⟨_, [], rfl, rfl, fun w2 hb hk => ⟨⟨none, 0, rfl, by simp, fun j hj => absurd hj (by simp)⟩, fun i hi => absurd hi (by simp)⟩, M.1⟩
    · try simp only [decide_eq_true_eq, decide_eq_false_iff_not, Bool.not_eq_true', Bool.not_eq_false', Bool.not_eq_eq_eq_not, Bool.not_true, Bool.not_false, ne_eq, Decidable.not_not, Classical.not_not] at hc0
      refine gc_skip ?_
      refine gk_then (hK7 _ _ ?_)
      refine gc_seq fun K11 hK11 => ?_
      have hne : ¬ fs = [] := fun h => by rw [h] at hs2_3; exact hs2_3 rfl
      rw [ends_dec] at hc0
      have hes : endsP es fs := bP_t' (by simpa using hc0)
      have hgl := img_len n fs
      refine gc_region ?_
      refine g_v (.free rfl) rfl rfl (qt_loadB (n := 0) rfl rfl Try.underlying22 rfl rfl rfl) ?_
      refine g_op (.free rfl) fun K13 hK13 => ?_
      refine go_callL rfl rfl rfl Try.func130 rfl (by decide) rfl (fun w M => clone_any w _ _ (mem_rd M hu)) ?_
      intro va12 vc12
      refine hK13 _ _ ?_
      refine g_v (.free rfl) rfl rfl (qt_assign rfl rfl) ?_
      refine g_nil ?_
      refine gk_then (hK11 _ _ ?_)
      refine gc_seq fun K14 hK14 => ?_
      refine gc_region ?_
      refine g_v (.free rfl) rfl rfl (qt_move rfl rfl) ?_
      refine g_op (.free rfl) fun K16 hK16 => ?_
      refine go_sort5 (n := 2) rfl rfl rfl Try.func131 rfl (by decide) rfl rfl rfl ?_
      refine hK16 _ _ ?_
      refine g_nil ?_
      refine gk_then (hK14 _ _ ?_)
      refine gc_seq fun K17 hK17 => ?_
      refine gc_region ?_
      refine g_v (.free rfl) rfl rfl (qt_assign rfl rfl) ?_
      refine g_nil ?_
      refine gk_then (hK17 _ _ ?_)
      refine gc_seq fun K18 hK18 => ?_
      refine gc_seq fun K19 hK19 => ?_
      refine gc_nilV ?_
      refine gc_fvnew (W0 := W0) (A := fun w => ∀ i : Nat, i < 0 → SpI n (φ (at0 (imgL n fs) (i : Int))) w (([] : List Value).getD i undef)) (fun w i hi => absurd hi (by omega)) ?_
      refine gc_region ?_
      refine g_v (.free rfl) rfl rfl (qt_move rfl rfl) ?_
      refine g_op (.free rfl) fun K21 hK21 => ?_
      refine go_compact5 (n := 2) rfl rfl rfl Try.func132 rfl (by decide) rfl rfl rfl ?_
      intro ca cc; rw [sort_compact hx]
      refine hK21 _ _ ?_
      refine g_v (.free rfl) rfl rfl (qt_len rfl rfl ulE1 (fun w M => lenV_own1 (n := 2) rfl M)) ?_
      refine g_v (.free rfl) rfl rfl (qt_move rfl rfl) ?_
      refine g_nil ?_
      refine gk_then (hK19 _ _ ?_)
      refine gc_block ?_
      try simp only [List.nil_append, List.cons_append, List.append_assoc, List.set_cons_succ, List.set_cons_zero]
      refine gc_loop ([(0, _), (1, _), (2, _), (3, _), (4, _), (6, _), (7, _), (8, _), (9, _), (21, _), (27, _), (28, _)] : Env) (fun s : Nat × (Option Addr) × Nat × (List Value) => (fun (k : Nat) (a : Option Addr) (q : Nat) (us : List Value) => ([(10, .slice a us.length q), (29, .int .i64 (k : Int))] : Env)) s.1 s.2.1 s.2.2.1 s.2.2.2) (fun s : Nat × (Option Addr) × Nat × (List Value) => (fun (k : Nat) (a : Option Addr) (q : Nat) (us : List Value) => ([(3, ownVI (.slice a us.length q) us), (4, fvI W0 (fun w => ∀ i : Nat, i < k → SpI n (φ (at0 (imgL n fs) (i : Int))) w (us.getD i undef)))] : List (Nat × Itm))) s.1 s.2.1 s.2.2.1 s.2.2.2) (fun s : Nat × (Option Addr) × Nat × (List Value) => (fun (k : Nat) (a : Option Addr) (q : Nat) (us : List Value) => k ≤ (imgL n fs).length ∧ us.length = k) s.1 s.2.1 s.2.2.1 s.2.2.2) (fun s : Nat × (Option Addr) × Nat × (List Value) => (fun (k : Nat) (a : Option Addr) (q : Nat) (us : List Value) => (imgL n fs).length - k) s.1 s.2.1 s.2.2.1 s.2.2.2) (0, _, _, []) (sub_cons rfl (sub_cons rfl (sub_cons rfl (sub_cons rfl (sub_cons rfl (sub_cons rfl (sub_cons rfl (sub_cons rfl (sub_cons rfl (sub_cons rfl (sub_cons rfl (sub_cons rfl (sub_cons rfl (sub_cons rfl sub_nil)))))))))))))) rfl ⟨Nat.zero_le _, rfl⟩ ?_
      rintro ⟨k, a, q, us⟩ hinv KL22 hKL22
      simp only [updL, List.foldl_cons, List.foldl_nil, List.set_cons_succ, List.set_cons_zero, List.cons_append, List.nil_append] at hinv hKL22 ⊢
      obtain ⟨hk, hus⟩ := hinv
      refine gc_seq fun K23 hK23 => ?_
      refine gc_region ?_
      refine g_v (.free rfl) rfl rfl (qt_lss rfl rfl rfl) ?_
      refine g_nil ?_
      refine gk_then (hK23 _ _ ?_)
      refine gc_seq fun K24 hK24 => ?_
      refine gc_cond rfl (fun hc1 => ?_) (fun hc1 => ?_)
      · try simp only [decide_eq_true_eq, decide_eq_false_iff_not, Bool.not_eq_true', Bool.not_eq_false', Bool.not_eq_eq_eq_not, Bool.not_true, Bool.not_false, ne_eq, Decidable.not_not, Classical.not_not] at hc1
        refine gc_skip ?_
        refine gk_then (hK24 _ _ ?_)
        refine gc_seq fun K25 hK25 => ?_
        refine gc_block ?_
        refine gc_seq fun K26 hK26 => ?_
        refine gc_region ?_
        refine g_v (.free rfl) rfl rfl (qt_index rfl rfl rfl ulE1 szE1 (fun w M => lenA_own1 (n := 2) rfl M) (by omega) (by omega)) ?_
        refine g_v (.free rfl) rfl rfl (qt_load1 rfl rfl Try.underlying2 rfl (fun w M => (mem_own1 (n := 2) M rfl).rd) (by omega) (by omega)) ?_
        refine g_v (.free rfl) rfl rfl (qt_assign rfl rfl) ?_
        refine g_nil ?_
        refine gk_then (hK26 _ _ ?_)
        refine gc_region ?_
        refine g_v (.free rfl) rfl rfl (qt_move rfl rfl) ?_
        refine g_v (.free rfl) rfl rfl (qt_move rfl rfl) ?_
        refine g_v (.free rfl) rfl rfl (qt_move rfl rfl) ?_
        refine g_op (.free rfl) fun K28 hK28 => ?_
        refine go_callVFvW (W0 := W0) (Sp := SpI n (φ (at0 (imgL n fs) (k : Int)))) rfl rfl rfl rfl rfl (fun w M => hs w (hB.trans (M.1.mono hB.size)) _ (img_at hx (by omega)).1 (img_at hx (by omega)).2) ?_
        intro fv27
        refine hK28 _ _ ?_
        refine g_op (.free rfl) fun K30 hK30 => ?_
        refine go_sliceV1W rfl rfl rfl rfl ulSV (fun w M => (mem_fvW hB M (n := 5) rfl (Below.refl _ _)).1) ?_
        intro B29 hfn29
        refine hK30 _ _ ?_
        refine g_op (.free rfl) fun K32 hK32 => ?_
        refine go_appendV (n := 3) (m := 6) rfl rfl rfl ulSV rfl rfl rfl rfl hfn29 (by omega) ?_
        intro va31 vc31
        refine hK32 _ _ ?_
        refine g_v (.free rfl) rfl rfl (qt_assign rfl rfl) ?_
        refine g_nil ?_
        refine gk_block ?_
        refine gk_then (hK25 _ _ ?_)
        refine gc_region ?_
        refine g_v (.free rfl) rfl rfl (qt_add rfl rfl rfl (by omega)) ?_
        refine g_v (.free rfl) rfl rfl (qt_move rfl rfl) ?_
        refine g_nil ?_
        refine gk_take 6 ?_
        refine gk_fvstep (L := [_, _, _, _, _]) 4 rfl rfl (fun w => ∀ i : Nat, i < k + 1 → SpI n (φ (at0 (imgL n fs) (i : Int))) w ((us ++ [fv27]).getD i undef)) (fun w hA hB => sp_step (Q := fun i w u => SpI n (φ (at0 (imgL n fs) (i : Int))) w u) hus hA hB) ?_
        refine gk_then (gk_take 5 ?_)
        refine gk_sub ?hs_33 (hKL22 (k + 1, _, _, _) ?hi_33 ?hm_33)
        case hs_33 => exact (sub_cons rfl (sub_cons rfl (sub_cons rfl (sub_cons rfl (sub_cons rfl (sub_cons rfl (sub_cons rfl (sub_cons rfl (sub_cons rfl (sub_cons rfl (sub_cons rfl (sub_cons rfl (sub_cons rfl (sub_cons rfl sub_nil))))))))))))))
        case hi_33 => exact ⟨by omega, by simp [hus]⟩
        case hm_33 => omega
      · try simp only [decide_eq_true_eq, decide_eq_false_iff_not, Bool.not_eq_true', Bool.not_eq_false', Bool.not_eq_eq_eq_not, Bool.not_true, Bool.not_false, ne_eq, Decidable.not_not, Classical.not_not] at hc1
        refine gc_exit ?_
        refine gk_then_exit ?_
        refine gk_then_exit ?_
        refine gk_block_hit ?_
        refine gk_then (hK18 _ _ ?_)
        refine gc_seq fun K34 hK34 => ?_
        refine gc_region ?_
        refine g_v (.free rfl) rfl rfl (qt_move rfl rfl) ?_
        refine g_v (.free rfl) rfl rfl (qt_assign rfl rfl) ?_
        refine g_v (.free rfl) rfl rfl (qt_assign rfl rfl) ?_
        refine g_nil ?_
        refine gk_then (hK34 _ _ ?_)
        refine gc_ret ?_
        refine ret_2 rfl rfl rfl  (fun w M => ?_)
        obtain rfl : k = (imgL n fs).length := by omega
        have hz := famErr_z hne hes
        rw [hz, famG_t hz]
        exact ⟨_, us, rfl, hus, fun w2 hb hk => ⟨ownV_kept (n := 3) M rfl hk, fv_kept (n := 4) M rfl hb hk⟩, M.1⟩

set_option maxHeartbeats 1000000 in
set_option maxRecDepth 100000 in
theorem impl_IsJointlyMono (w : World) (v : Value) (c : Cat) (u : Value) (fs : List Int) (h : RdC w v c) (hu : Rd w u fs) :
    Calls Try.prog 17 #[v, u] w (RetBI w (fIsJointlyMono c fs).1 (fIsJointlyMono c fs).2) := by
  have h0 := h
  obtain ⟨va, vb, vc, vd, ve, vf, vg, vh, rfl, h1, h2, h3, h4, _⟩ := h.lists
  obtain ⟨ua, uc, rfl⟩ := rd_form hu
  go_enter Try.func17, Try.ntmps17
  refine gc_enter (N := 33) rfl (look_cons (k := 0) rfl (look_cons (k := 1) rfl (look_nil _))) ?_
  refine gc_seqR fun K1 hK1 => ?_
  refine gc_region ?_
  refine g_op (.free rfl) fun K3 hK3 => ?_
  refine go_box rfl rfl rfl rfl rfl ?_
  intro B2
  refine hK3 _ _ ?_
  refine g_v (.free rfl) rfl rfl (qt_assign rfl rfl) ?_
  refine g_v (.free rfl) rfl rfl (qt_assign rfl rfl) ?_
  refine g_nil ?_
  refine gk_then (hK1 _ _ ?_)
  refine gc_seqR fun K4 hK4 => ?_
  refine gc_region ?_
  refine g_v (.free rfl) rfl rfl (qt_loadS (n := 0) rfl rfl Try.underlying29 rfl (by kernel_rfl) rfl) ?_
  refine g_v (.free rfl) rfl rfl (qt_move rfl rfl) ?_
  refine g_op (.free rfl) fun K6 hK6 => ?_
  refine go_callCI rfl rfl rfl Try.func70 rfl (by decide) rfl (fun w M => readArrows_any w _ _ _ _ (mem_rdC M h0) (mem_rd M hu)) ?_
  intro ca5 cb5 cc5 cd5 ce5 cf5 cg5 ch5 cu5
  refine hK6 _ _ ?_
  refine g_v (.free rfl) rfl rfl (qt_move rfl rfl) ?_
  refine g_v (.free rfl) rfl rfl (qt_extract rfl rfl rfl) ?_
  refine g_v (.free rfl) rfl rfl (qt_extract rfl rfl rfl) ?_
  refine g_op (.free rfl) fun K8 hK8 => ?_
  refine go_alloc (z := (.agg #[.int .i64 0, .slice none 0 0, .slice none 0 0, .slice none 0 0, .slice none 0 0])) (cs := [.int .i64 0, .slice none 0 0, .slice none 0 0, .slice none 0 0, .slice none 0 0]) rfl rfl rfl (fun w => by kernel_rfl) rfl ?_
  intro B7
  refine hK8 _ _ ?_
  refine g_op (.free rfl) fun K9 hK9 => ?_
  refine go_storeS (n := 5) rfl rfl rfl rfl (by kernel_rfl) rfl rfl rfl ?_
  refine hK9 _ _ ?_
  refine g_v (.free rfl) rfl rfl (qt_assign rfl rfl) ?_
  refine g_nil ?_
  refine gk_then (hK4 _ _ ?_)
  refine gc_seqR fun K10 hK10 => ?_
  refine gc_seqR fun K11 hK11 => ?_
  refine gc_region ?_
  refine g_v (.free rfl) rfl rfl (qt_move rfl rfl) ?_
  refine g_v (.free rfl) rfl rfl (qt_neq rfl rfl rfl) ?_
  refine g_nil ?_
  refine gk_then (hK11 _ _ ?_)
  refine gc_cond rfl (fun hc0 => ?_) (fun hc0 => ?_)
  · try simp only [decide_eq_true_eq, decide_eq_false_iff_not, Bool.not_eq_true', Bool.not_eq_false', Bool.not_eq_eq_eq_not, Bool.not_true, Bool.not_false, ne_eq, Decidable.not_not, Classical.not_not] at hc0
    refine gc_seqR fun K12 hK12 => ?_
    refine gc_region ?_
    refine g_v (.free rfl) rfl rfl (qt_move rfl rfl) ?_
    refine g_v (.free rfl) rfl rfl (qt_assign rfl rfl) ?_
    refine g_v (.free rfl) rfl rfl (qt_assign rfl rfl) ?_
    refine g_nil ?_
    refine gk_then (hK12 _ _ ?_)
    refine gc_ret ?_
    refine gk_then_ret ?_
    refine ret_2 rfl rfl rfl  (fun w M => ?_)
    rw [jMono_eq, jAns_a hc0]; exact ⟨rfl, M.1⟩
  · try simp only [decide_eq_true_eq, decide_eq_false_iff_not, Bool.not_eq_true', Bool.not_eq_false', Bool.not_eq_eq_eq_not, Bool.not_true, Bool.not_false, ne_eq, Decidable.not_not, Classical.not_not] at hc0
    refine gc_skip ?_
    refine gk_then (hK10 _ _ ?_)
    refine gc_seqR fun K13 hK13 => ?_
    have hE := arrErr_0 hc0
    have hC := hE.1
    have hS := hC.toShapeP
    have hx := hE.2
    have htl := hS.tl
    have hn40 := hS.n40
    simp only [arrCat_t hc0]
    replace hu := hu
    refine gc_rebase fun w1 M1 => ?_
    have hb6 := bxV_of (n := 5) M1 rfl
    have hR6 := (rdC_mk ((mem_own1 (n := 1) M1 rfl).rd) ((mem_own1 (n := 2) M1 rfl).rd) ((mem_own1 (n := 3) M1 rfl).rd) (mem_rdU (n := 4) M1 rfl))
    have hR60 := hR6
    skip
    refine gc_region ?_
    refine g_v (.free rfl) rfl rfl (qt_move rfl rfl) ?_
    refine g_v (.free rfl) rfl rfl (qt_field (z := 0) (off := 1) rfl rfl Try.underlying29 rfl (by kernel_rfl) rfl) ?_
    refine g_v (.free rfl) rfl rfl (qt_loadRB hb6 rfl rfl Try.underlying22 rfl rfl) ?_
    refine g_v (.free rfl) rfl rfl (qt_loadRS hb6 rfl rfl Try.underlying29 rfl (by kernel_rfl)) ?_
    refine g_v (.free rfl) rfl rfl (qt_makeB rfl rfl) ?_
    refine g_op (.free rfl) fun K15 hK15 => ?_
    refine go_callFam rfl rfl rfl Try.func71 rfl (by decide) rfl (fun w M => familyOf_any w _ _ fs _ c.s _ c.s.length (bef c) M.1 (mem_rd M (rd_below M1.1 hu)) (mem_rd M hR6.l1) hx (by first | rfl | exact htl) hn40 (fun w' hb f f0 f1 => callsV_f (bnd := [_]) (vs := [_]) (caps := []) Try.func72 rfl (by decide) (before_any w' _ _ c f hR6 hb hS f0 f1))) ?_
    intro fl fus hfl
    refine hK15 _ _ ?_
    refine g_v (.free rfl) rfl rfl (qt_move rfl rfl) ?_
    refine g_v (.free rfl) rfl rfl (qt_extract rfl rfl rfl) ?_
    refine g_v (.free rfl) rfl rfl (qt_extract rfl rfl rfl) ?_
    refine g_v (.free rfl) rfl rfl (qt_assign rfl rfl) ?_
    refine g_v (.free rfl) rfl rfl (qt_assign rfl rfl) ?_
    refine g_nil ?_
    refine gk_then (hK13 _ _ ?_)
    refine gc_seqR fun K16 hK16 => ?_
    refine gc_seqR fun K17 hK17 => ?_
    refine gc_region ?_
    refine g_v (.free rfl) rfl rfl (qt_move rfl rfl) ?_
    refine g_v (.free rfl) rfl rfl (qt_neq rfl rfl rfl) ?_
    refine g_nil ?_
    refine gk_then (hK17 _ _ ?_)
    refine gc_cond rfl (fun hc1 => ?_) (fun hc1 => ?_)
    · try simp only [decide_eq_true_eq, decide_eq_false_iff_not, Bool.not_eq_true', Bool.not_eq_false', Bool.not_eq_eq_eq_not, Bool.not_true, Bool.not_false, ne_eq, Decidable.not_not, Classical.not_not] at hc1
      refine gc_seqR fun K18 hK18 => ?_
      refine gc_region ?_
      refine g_v (.free rfl) rfl rfl (qt_move rfl rfl) ?_
      refine g_v (.free rfl) rfl rfl (qt_assign rfl rfl) ?_
      refine g_v (.free rfl) rfl rfl (qt_assign rfl rfl) ?_
      refine g_nil ?_
      refine gk_then (hK18 _ _ ?_)
      refine gc_ret ?_
      refine gk_then_ret ?_
      refine ret_2 rfl rfl rfl  (fun w M => ?_)
      have h5 := famErr_5 hc1
      rw [jMono_eq, jAns_f hc0 hc1, ← h5]; exact ⟨rfl, M1.1.trans (M.1.mono M1.1.size)⟩
    · try simp only [decide_eq_true_eq, decide_eq_false_iff_not, Bool.not_eq_true', Bool.not_eq_false', Bool.not_eq_eq_eq_not, Bool.not_true, Bool.not_false, ne_eq, Decidable.not_not, Classical.not_not] at hc1
      refine gc_skip ?_
      refine gk_then (hK16 _ _ ?_)
      refine gc_seqR fun K19 hK19 => ?_
      have hG := famG_t (n := c.s.length) hc1
      have hes := famErr_0 hc1
      refine gc_region ?_
      refine g_v (.free rfl) rfl rfl (qt_loadRS hb6 rfl rfl Try.underlying29 rfl (by kernel_rfl)) ?_
      refine g_v (.free rfl) rfl rfl (qt_move rfl rfl) ?_
      refine g_q (.free rfl) rfl rfl (qt_call rfl Try.func73 rfl (by decide) rfl (fun w M => isCancelled_any w _ _ _ (fus) ((famG c.s.length c.s fs).map (bef c)) (mem_rdC M hR6) (by first | assumption | omega) (mem_fv0 (n := 0) M rfl).1 (by rw [hfl, List.length_map]) (fun w' hb i hi => by rw [map_getD (by omega)]; exact (mem_fv (n := 0) M rfl hb).2 i (by omega)))) ?_
      refine g_v (.free rfl) rfl rfl (qt_assign rfl rfl) ?_
      refine g_v (.free rfl) rfl rfl (qt_assign rfl rfl) ?_
      refine g_nil ?_
      refine gk_then (hK19 _ _ ?_)
      refine gc_ret ?_
      refine ret_2 rfl rfl rfl  (fun w M => ?_)
      rw [jMono_eq, jAns_t hc0 hc1, hG]
      have hcm : cancP ((imgL c.s.length fs).map (bef c)) c.s.length ↔ joinP c fs := canc_mem (fun x => mem_imgL hx x)
      rw [← bP_congr hcm]; exact ⟨rfl, M1.1.trans (M.1.mono M1.1.size)⟩

set_option maxHeartbeats 1000000 in
set_option maxRecDepth 100000 in
theorem impl_IsJointlyEpi (w : World) (v : Value) (c : Cat) (u : Value) (fs : List Int) (h : RdC w v c) (hu : Rd w u fs) :
    Calls Try.prog 21 #[v, u] w (RetBI w (fIsJointlyEpi c fs).1 (fIsJointlyEpi c fs).2) := by
  have h0 := h
  obtain ⟨va, vb, vc, vd, ve, vf, vg, vh, rfl, h1, h2, h3, h4, _⟩ := h.lists
  obtain ⟨ua, uc, rfl⟩ := rd_form hu
  go_enter Try.func21, Try.ntmps21
  refine gc_enter (N := 33) rfl (look_cons (k := 0) rfl (look_cons (k := 1) rfl (look_nil _))) ?_
  refine gc_seqR fun K1 hK1 => ?_
  refine gc_region ?_
  refine g_op (.free rfl) fun K3 hK3 => ?_
  refine go_box rfl rfl rfl rfl rfl ?_
  intro B2
  refine hK3 _ _ ?_
  refine g_v (.free rfl) rfl rfl (qt_assign rfl rfl) ?_
  refine g_v (.free rfl) rfl rfl (qt_assign rfl rfl) ?_
  refine g_nil ?_
  refine gk_then (hK1 _ _ ?_)
  refine gc_seqR fun K4 hK4 => ?_
  refine gc_region ?_
  refine g_v (.free rfl) rfl rfl (qt_loadS (n := 0) rfl rfl Try.underlying29 rfl (by kernel_rfl) rfl) ?_
  refine g_v (.free rfl) rfl rfl (qt_move rfl rfl) ?_
  refine g_op (.free rfl) fun K6 hK6 => ?_
  refine go_callCI rfl rfl rfl Try.func70 rfl (by decide) rfl (fun w M => readArrows_any w _ _ _ _ (mem_rdC M h0) (mem_rd M hu)) ?_
  intro ca5 cb5 cc5 cd5 ce5 cf5 cg5 ch5 cu5
  refine hK6 _ _ ?_
  refine g_v (.free rfl) rfl rfl (qt_move rfl rfl) ?_
  refine g_v (.free rfl) rfl rfl (qt_extract rfl rfl rfl) ?_
  refine g_v (.free rfl) rfl rfl (qt_extract rfl rfl rfl) ?_
  refine g_op (.free rfl) fun K8 hK8 => ?_
  refine go_alloc (z := (.agg #[.int .i64 0, .slice none 0 0, .slice none 0 0, .slice none 0 0, .slice none 0 0])) (cs := [.int .i64 0, .slice none 0 0, .slice none 0 0, .slice none 0 0, .slice none 0 0]) rfl rfl rfl (fun w => by kernel_rfl) rfl ?_
  intro B7
  refine hK8 _ _ ?_
  refine g_op (.free rfl) fun K9 hK9 => ?_
  refine go_storeS (n := 5) rfl rfl rfl rfl (by kernel_rfl) rfl rfl rfl ?_
  refine hK9 _ _ ?_
  refine g_v (.free rfl) rfl rfl (qt_assign rfl rfl) ?_
  refine g_nil ?_
  refine gk_then (hK4 _ _ ?_)
  refine gc_seqR fun K10 hK10 => ?_
  refine gc_seqR fun K11 hK11 => ?_
  refine gc_region ?_
  refine g_v (.free rfl) rfl rfl (qt_move rfl rfl) ?_
  refine g_v (.free rfl) rfl rfl (qt_neq rfl rfl rfl) ?_
  refine g_nil ?_
  refine gk_then (hK11 _ _ ?_)
  refine gc_cond rfl (fun hc0 => ?_) (fun hc0 => ?_)
  · try simp only [decide_eq_true_eq, decide_eq_false_iff_not, Bool.not_eq_true', Bool.not_eq_false', Bool.not_eq_eq_eq_not, Bool.not_true, Bool.not_false, ne_eq, Decidable.not_not, Classical.not_not] at hc0
    refine gc_seqR fun K12 hK12 => ?_
    refine gc_region ?_
    refine g_v (.free rfl) rfl rfl (qt_move rfl rfl) ?_
    refine g_v (.free rfl) rfl rfl (qt_assign rfl rfl) ?_
    refine g_v (.free rfl) rfl rfl (qt_assign rfl rfl) ?_
    refine g_nil ?_
    refine gk_then (hK12 _ _ ?_)
    refine gc_ret ?_
    refine gk_then_ret ?_
    refine ret_2 rfl rfl rfl  (fun w M => ?_)
    rw [jEpi_eq, jAns_a hc0]; exact ⟨rfl, M.1⟩
  · try simp only [decide_eq_true_eq, decide_eq_false_iff_not, Bool.not_eq_true', Bool.not_eq_false', Bool.not_eq_eq_eq_not, Bool.not_true, Bool.not_false, ne_eq, Decidable.not_not, Classical.not_not] at hc0
    refine gc_skip ?_
    refine gk_then (hK10 _ _ ?_)
    refine gc_seqR fun K13 hK13 => ?_
    have hE := arrErr_0 hc0
    have hC := hE.1
    have hS := hC.toShapeP
    have hx := hE.2
    have htl := hS.tl
    have hn40 := hS.n40
    simp only [arrCat_t hc0]
    replace hu := hu
    refine gc_rebase fun w1 M1 => ?_
    have hb6 := bxV_of (n := 5) M1 rfl
    have hR6 := (rdC_mk ((mem_own1 (n := 1) M1 rfl).rd) ((mem_own1 (n := 2) M1 rfl).rd) ((mem_own1 (n := 3) M1 rfl).rd) (mem_rdU (n := 4) M1 rfl))
    have hR60 := hR6
    skip
    refine gc_region ?_
    refine g_v (.free rfl) rfl rfl (qt_move rfl rfl) ?_
    refine g_v (.free rfl) rfl rfl (qt_field (z := 0) (off := 2) rfl rfl Try.underlying29 rfl (by kernel_rfl) rfl) ?_
    refine g_v (.free rfl) rfl rfl (qt_loadRB hb6 rfl rfl Try.underlying22 rfl rfl) ?_
    refine g_v (.free rfl) rfl rfl (qt_loadRS hb6 rfl rfl Try.underlying29 rfl (by kernel_rfl)) ?_
    refine g_v (.free rfl) rfl rfl (qt_makeB rfl rfl) ?_
    refine g_op (.free rfl) fun K15 hK15 => ?_
    refine go_callFam rfl rfl rfl Try.func71 rfl (by decide) rfl (fun w M => familyOf_any w _ _ fs _ c.t _ c.s.length (beh c) M.1 (mem_rd M (rd_below M1.1 hu)) (mem_rd M hR6.l2) hx (by first | rfl | exact htl) hn40 (fun w' hb f f0 f1 => callsV_f (bnd := [_]) (vs := [_]) (caps := []) Try.func75 rfl (by decide) (behind_any w' _ _ c f hR6 hb hS f0 f1))) ?_
    intro fl fus hfl
    refine hK15 _ _ ?_
    refine g_v (.free rfl) rfl rfl (qt_move rfl rfl) ?_
    refine g_v (.free rfl) rfl rfl (qt_extract rfl rfl rfl) ?_
    refine g_v (.free rfl) rfl rfl (qt_extract rfl rfl rfl) ?_
    refine g_v (.free rfl) rfl rfl (qt_assign rfl rfl) ?_
    refine g_v (.free rfl) rfl rfl (qt_assign rfl rfl) ?_
    refine g_nil ?_
    refine gk_then (hK13 _ _ ?_)
    refine gc_seqR fun K16 hK16 => ?_
    refine gc_seqR fun K17 hK17 => ?_
    refine gc_region ?_
    refine g_v (.free rfl) rfl rfl (qt_move rfl rfl) ?_
    refine g_v (.free rfl) rfl rfl (qt_neq rfl rfl rfl) ?_
    refine g_nil ?_
    refine gk_then (hK17 _ _ ?_)
    refine gc_cond rfl (fun hc1 => ?_) (fun hc1 => ?_)
    · try simp only [decide_eq_true_eq, decide_eq_false_iff_not, Bool.not_eq_true', Bool.not_eq_false', Bool.not_eq_eq_eq_not, Bool.not_true, Bool.not_false, ne_eq, Decidable.not_not, Classical.not_not] at hc1
      refine gc_seqR fun K18 hK18 => ?_
      refine gc_region ?_
      refine g_v (.free rfl) rfl rfl (qt_move rfl rfl) ?_
      refine g_v (.free rfl) rfl rfl (qt_assign rfl rfl) ?_
      refine g_v (.free rfl) rfl rfl (qt_assign rfl rfl) ?_
      refine g_nil ?_
      refine gk_then (hK18 _ _ ?_)
      refine gc_ret ?_
      refine gk_then_ret ?_
      refine ret_2 rfl rfl rfl  (fun w M => ?_)
      have h5 := famErr_5 hc1
      rw [jEpi_eq, jAns_f hc0 hc1, ← h5]; exact ⟨rfl, M1.1.trans (M.1.mono M1.1.size)⟩
    · try simp only [decide_eq_true_eq, decide_eq_false_iff_not, Bool.not_eq_true', Bool.not_eq_false', Bool.not_eq_eq_eq_not, Bool.not_true, Bool.not_false, ne_eq, Decidable.not_not, Classical.not_not] at hc1
      refine gc_skip ?_
      refine gk_then (hK16 _ _ ?_)
      refine gc_seqR fun K19 hK19 => ?_
      have hG := famG_t (n := c.s.length) hc1
      have hes := famErr_0 hc1
      refine gc_region ?_
      refine g_v (.free rfl) rfl rfl (qt_loadRS hb6 rfl rfl Try.underlying29 rfl (by kernel_rfl)) ?_
      refine g_v (.free rfl) rfl rfl (qt_move rfl rfl) ?_
      refine g_q (.free rfl) rfl rfl (qt_call rfl Try.func73 rfl (by decide) rfl (fun w M => isCancelled_any w _ _ _ (fus) ((famG c.s.length c.t fs).map (beh c)) (mem_rdC M hR6) (by first | assumption | omega) (mem_fv0 (n := 0) M rfl).1 (by rw [hfl, List.length_map]) (fun w' hb i hi => by rw [map_getD (by omega)]; exact (mem_fv (n := 0) M rfl hb).2 i (by omega)))) ?_
      refine g_v (.free rfl) rfl rfl (qt_assign rfl rfl) ?_
      refine g_v (.free rfl) rfl rfl (qt_assign rfl rfl) ?_
      refine g_nil ?_
      refine gk_then (hK19 _ _ ?_)
      refine gc_ret ?_
      refine ret_2 rfl rfl rfl  (fun w M => ?_)
      rw [jEpi_eq, jAns_t hc0 hc1, hG]
      have hcm : cancP ((imgL c.s.length fs).map (beh c)) c.s.length ↔ jeinP c fs := canc_mem (fun x => mem_imgL hx x)
      rw [← bP_congr hcm]; exact ⟨rfl, M1.1.trans (M.1.mono M1.1.size)⟩

end Go.Proofs.Ytloaikmiofdhnab
