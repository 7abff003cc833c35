import Derived.Test.YtfnneogadciimaaDoorA23
set_option linter.unusedSimpArgs false
set_option linter.unusedVariables false
set_option linter.unusedSectionVars false
namespace Go.Proofs.YtfnneogadciimaaDoor
open Go.RowKit
theorem range_filter {q : Nat → Bool} {n : Nat} : ∀ m : Nat, n ≤ m → (∀ i, n ≤ i → i < m → q i = false) → (List.range m).filter q = (List.range n).filter q
  | 0, h, _ => by obtain rfl : n = 0 := by omega
                  rfl
  | m + 1, h, hq => by
    by_cases e : n = m + 1
    · subst e; rfl
    · rw [List.range_succ, List.filter_append, range_filter m (by omega) (fun i h1 h2 => hq i h1 (by omega)), List.filter_cons, if_neg (by rw [hq m (by omega) (by omega)]; decide)]; simp
theorem bits_acc {c : Cat} {x y : Int} {κ : Int → Bool} (h40 : c.s.length ≤ 40) : bitsI (accK κ (homTo c x y c.s.length)) = (homTo c x y c.s.length).filter κ := by
  have hb : ∀ p ∈ homTo c x y c.s.length, 0 ≤ p ∧ p < 64 := fun p hp => by have := homTo_in p hp; omega
  have hm : ∀ i : Nat, (i : Int) ∈ homTo c x y c.s.length ↔ i < c.s.length ∧ decide (at0 c.s (i : Int) = x ∧ at0 c.t (i : Int) = y) = true := fun i => by
    unfold homTo
    rw [List.mem_map]
    constructor
    · rintro ⟨j, hj, e⟩
      obtain rfl : j = i := by omega
      have := List.mem_filter.1 hj
      exact ⟨List.mem_range.1 this.1, this.2⟩
    · rintro ⟨h1, h2⟩; exact ⟨i, List.mem_filter.2 ⟨List.mem_range.2 h1, h2⟩, rfl⟩
  have hq : ∀ i : Nat, (accK κ (homTo c x y c.s.length)).testBit i = (decide (i < c.s.length) && (decide (at0 c.s (i : Int) = x ∧ at0 c.t (i : Int) = y) && κ (i : Int))) := fun i => by
    rw [Bool.eq_iff_iff, accK_bit _ hb i]
    constructor
    · rintro ⟨p, h1, h2, rfl⟩
      have := (hm i).1 h1
      rw [decide_eq_true this.1, this.2, h2]; rfl
    · intro h
      rw [Bool.and_eq_true, Bool.and_eq_true] at h
      exact ⟨(i : Int), (hm i).2 ⟨of_decide_eq_true h.1, h.2.1⟩, h.2.2, rfl⟩
  unfold bitsI bitsN
  rw [List.filter_congr (fun i _ => hq i), range_filter (n := c.s.length) 64 (by omega) (fun i h1 _ => by rw [decide_eq_false (by omega)]; rfl)]
  conv => rhs; unfold homTo
  rw [List.filter_map, List.filter_filter]
  congr 1
  refine List.filter_congr fun i hi => ?_
  rw [decide_eq_true (List.mem_range.1 hi), Bool.true_and, Bool.and_comm]; rfl
theorem prodW_L : ∀ ss : List Nat, prodW ss = prodL (ss.map bitsI)
  | [] => rfl
  | s :: ss => by rw [prodW, List.map_cons, prodL, prodW_L ss]
theorem comp_dom {F G : Fct} {κ : Int → Bool} (h40 : F.T.s.length ≤ 40) : (compW F G κ).map bitsI = domL F G κ (allN F.o.length) := by
  unfold compW domL
  rw [List.map_map, allN_len]
  refine List.map_congr_left fun i hi => ?_
  have hi := List.mem_range.1 hi
  show bitsI (compA F.T κ (at0 F.o (i : Int)) (at0 G.o (i : Int))) = _
  unfold domA compA; rw [allN_at hi, if_pos rfl]
  exact bits_acc h40
theorem nat_sol {F G : Fct} {κ : Int → Bool} (hF : IsFct F) : natL F G κ = solE F G κ (allN F.o.length) := by
  have hT := (isCat_of hF.ct).toShapeP; have hS := (isCat_of hF.cs).toShapeP
  have lo := hF.lo
  unfold natL sols solE
  rw [prodW_L, comp_dom hT.n40]
  refine List.filter_congr fun l hl => ?_
  obtain ⟨h1, h2⟩ := (mem_prodL _ _).1 hl
  rw [domL_len, allN_len] at h1 h2
  have hn : ∀ i : Int, 0 ≤ i → i < F.o.length → ¬ at0 l i < 0 := fun i i0 i1 => by
    obtain ⟨j, rfl⟩ := Int.eq_ofNat_of_zero_le i0
    have := h2 j (by omega)
    rw [domL_at (by rw [allN_len]; omega)] at this
    unfold domA at this; rw [allN_at (by omega), if_pos rfl] at this
    have := homK_nn this; omega
  have key : NatP F G l ↔ ∀ a : Nat, a < F.S.s.length → okA F G l a := by
    unfold NatP okA
    refine ⟨fun h a ha => .inr (.inr (h a ha)), fun h a ha => ?_⟩
    have hs := allP_at hS.sa (k := a) ha
    have ht := allP_at hS.ta (k := a) (by have := hS.tl; omega)
    rcases h a ha with h3 | h3 | h3
    · exact absurd h3 (hn _ hs.1 (by omega))
    · exact absurd h3 (hn _ ht.1 (by omega))
    · exact h3
  by_cases h : NatP F G l
  · rw [bP_t h, bP_t (key.1 h)]
  · rw [bP_f h, bP_f (fun h2 => h (key.2 h2))]
theorem kap_0 (F : Fct) : kapS F false = fun _ => true := by funext p; unfold kapS; rfl
theorem find_0 {F G : Fct} {mo : Int} (hF : IsFct F) : findN F G false mo = (natL F G fun _ => true).take mo.toNat := by unfold findN; rw [kap_0, nat_sol hF]
theorem specFindA_any (w : World) (v : Value) (F : Fct) (u : Value) (G : Fct) (iso : Bool) (mo : Int) (h : RdF w v F) (e : RdF w u G) (hF : IsFct F) (hG : IsFct G) (hp : ParP F G) (hm0 : 0 < mo) (hm9 : mo ≤ 1000) : Calls Tryd.prog 50 #[v, u, .bool iso, .int .i64 mo] w (RetR w (findN F G iso mo)) := specFind_any w v F u G iso mo h e hF hG hp hm0 hm9
set_option maxHeartbeats 1000000 in
set_option maxRecDepth 100000 in
theorem specCode7_any (w : World) (v : Value) (F : Fct) (u : Value) (G : Fct) (h : RdF w v F) (e : RdF w u G) :
    Calls Tryd.prog 45 #[v, u] w (RetI w (parE F G)) := by
  have h0 := h
  obtain ⟨vx1, vx2, vx3, vx4, vx5, vx6, vx7, vx8, vx9, vx10, vk1, vk2, vk3, vk4, vk5, vk6, vk7, vk8, vk9, vk10, rfl, h1, h2, h3, h4, h5, h6, h7, h8, h9, h10⟩ := h.lists
  have e0 := e
  obtain ⟨ux1, ux2, ux3, ux4, ux5, ux6, ux7, ux8, ux9, ux10, uk1, uk2, uk3, uk4, uk5, uk6, uk7, uk8, uk9, uk10, rfl, e1, e2, e3, e4, e5, e6, e7, e8, e9, e10⟩ := e.lists
  go_enter Tryd.func45, Tryd.ntmps45
  refine gc_enter (N := 19) rfl (look_cons (k := 0) rfl (look_cons (k := 1) rfl (look_nil _))) ?_
  refine gc_seq fun K1 hK1 => ?_
  refine gc_region ?_
  refine g_op (.free rfl) fun K3 hK3 => ?_
  refine go_box rfl rfl rfl rfl rfl ?_
  intro B2
  refine hK3 _ _ ?_
  refine g_op (.free rfl) fun K5 hK5 => ?_
  refine go_box rfl rfl rfl rfl rfl ?_
  intro B4
  refine hK5 _ _ ?_
  refine g_v (.free rfl) rfl rfl (qt_assign rfl rfl) ?_
  refine g_nil ?_
  refine gk_then (hK1 _ _ ?_)
  refine gc_seq fun K6 hK6 => ?_
  refine gc_block ?_
  refine gc_seq fun K7 hK7 => ?_
  refine gc_region ?_
  refine g_v (.free rfl) rfl rfl (qt_loadS (n := 0) rfl rfl Tryd.underlying45 rfl (by kernel_rfl) rfl) ?_
  refine g_q (.free rfl) rfl rfl (qt_call rfl Tryd.func66 rfl (by decide) rfl (fun w M => specIsF_any w _ _ (mem_rdF M h0))) ?_
  refine g_v (.free rfl) rfl rfl (qt_not rfl rfl) ?_
  refine g_splitv (.free rfl) rfl rfl (qt_move rfl rfl) (fun hs1_3 => ?_) (fun hs1_3 => ?_)
  · try simp only [decide_eq_true_eq, decide_eq_false_iff_not, Bool.not_eq_true', Bool.not_eq_false', Bool.not_eq_eq_eq_not, Bool.not_true, Bool.not_false, ne_eq, Decidable.not_not, Classical.not_not] at hs1_3
    refine g_skip (.not _ _ _ _ rfl rfl rfl rfl) rfl rfl ?_
    refine g_skip (.not _ _ _ _ rfl rfl rfl rfl) rfl rfl ?_
    refine g_skip (.not _ _ _ _ rfl rfl rfl rfl) rfl rfl ?_
    refine g_v (.free rfl) rfl rfl (qt_pick_t rfl rfl rfl) ?_
    refine g_v (.free rfl) rfl rfl (qt_assign rfl rfl) ?_
    refine g_nil ?_
    refine gk_then (hK7 _ _ ?_)
    refine gc_cond_t rfl ?_
    refine gc_seq fun K8 hK8 => ?_
    refine gc_region ?_
    refine g_v (.free rfl) rfl rfl (qt_assign rfl rfl) ?_
    refine g_nil ?_
    refine gk_then (hK8 _ _ ?_)
    refine gc_ret ?_
    refine gk_block_ret ?_
    refine gk_then_ret ?_
    refine ret_1 rfl rfl  (fun w M => ?_)
    first | (rw [parE_f (by intro hh; have h1 := hh.1; have h2 := hh.2; simp_all)]; exact ⟨rfl, M.1⟩) | (rw [parE_s ⟨by simp_all, by simp_all⟩ (by first | exact bP_f' (by assumption) | simp_all)]; exact ⟨rfl, M.1⟩) | (rw [parE_0 ⟨by simp_all, by simp_all⟩ (by first | exact bP_t' (by assumption) | simp_all)]; exact ⟨rfl, M.1⟩)
  · try simp only [decide_eq_true_eq, decide_eq_false_iff_not, Bool.not_eq_true', Bool.not_eq_false', Bool.not_eq_eq_eq_not, Bool.not_true, Bool.not_false, ne_eq, Decidable.not_not, Classical.not_not] at hs1_3
    refine g_v (.held _ _ _ rfl rfl rfl) rfl rfl (qt_loadS (n := 1) rfl rfl Tryd.underlying45 rfl (by kernel_rfl) rfl) ?_
    refine g_q (.held _ _ _ rfl rfl rfl) rfl rfl (qt_call rfl Tryd.func66 rfl (by decide) rfl (fun w M => specIsF_any w _ _ (mem_rdF M e0))) ?_
    refine g_v (.held _ _ _ rfl rfl rfl) rfl rfl (qt_not rfl rfl) ?_
    refine g_v (.free rfl) rfl rfl (qt_pick_f rfl rfl rfl) ?_
    refine g_v (.free rfl) rfl rfl (qt_assign rfl rfl) ?_
    refine g_nil ?_
    refine gk_then (hK7 _ _ ?_)
    refine gc_cond rfl (fun hc0 => ?_) (fun hc0 => ?_)
    · try simp only [decide_eq_true_eq, decide_eq_false_iff_not, Bool.not_eq_true', Bool.not_eq_false', Bool.not_eq_eq_eq_not, Bool.not_true, Bool.not_false, ne_eq, Decidable.not_not, Classical.not_not] at hc0
      refine gc_seq fun K9 hK9 => ?_
      refine gc_region ?_
      refine g_v (.free rfl) rfl rfl (qt_assign rfl rfl) ?_
      refine g_nil ?_
      refine gk_then (hK9 _ _ ?_)
      refine gc_ret ?_
      refine gk_block_ret ?_
      refine gk_then_ret ?_
      refine ret_1 rfl rfl  (fun w M => ?_)
      first | (rw [parE_f (by intro hh; have h1 := hh.1; have h2 := hh.2; simp_all)]; exact ⟨rfl, M.1⟩) | (rw [parE_s ⟨by simp_all, by simp_all⟩ (by first | exact bP_f' (by assumption) | simp_all)]; exact ⟨rfl, M.1⟩) | (rw [parE_0 ⟨by simp_all, by simp_all⟩ (by first | exact bP_t' (by assumption) | simp_all)]; exact ⟨rfl, M.1⟩)
    · try simp only [decide_eq_true_eq, decide_eq_false_iff_not, Bool.not_eq_true', Bool.not_eq_false', Bool.not_eq_eq_eq_not, Bool.not_true, Bool.not_false, ne_eq, Decidable.not_not, Classical.not_not] at hc0
      refine gc_seq fun K10 hK10 => ?_
      refine gc_region ?_
      refine g_v (.free rfl) rfl rfl (qt_loadS (n := 0) rfl rfl Tryd.underlying45 rfl (by kernel_rfl) rfl) ?_
      refine g_v (.free rfl) rfl rfl (qt_loadS (n := 1) rfl rfl Tryd.underlying45 rfl (by kernel_rfl) rfl) ?_
      refine g_q (.free rfl) rfl rfl (qt_call rfl Tryd.func67 rfl (by decide) rfl (fun w M => specParallel_any w _ _ _ _ (mem_rdF M h0) (mem_rdF M e0))) ?_
      refine g_v (.free rfl) rfl rfl (qt_not rfl rfl) ?_
      refine g_v (.free rfl) rfl rfl (qt_assign rfl rfl) ?_
      refine g_nil ?_
      refine gk_then (hK10 _ _ ?_)
      refine gc_cond rfl (fun hc1 => ?_) (fun hc1 => ?_)
      · try simp only [decide_eq_true_eq, decide_eq_false_iff_not, Bool.not_eq_true', Bool.not_eq_false', Bool.not_eq_eq_eq_not, Bool.not_true, Bool.not_false, ne_eq, Decidable.not_not, Classical.not_not] at hc1
        refine gc_seq fun K11 hK11 => ?_
        refine gc_region ?_
        refine g_v (.free rfl) rfl rfl (qt_assign rfl rfl) ?_
        refine g_nil ?_
        refine gk_then (hK11 _ _ ?_)
        refine gc_ret ?_
        refine gk_block_ret ?_
        refine gk_then_ret ?_
        refine ret_1 rfl rfl  (fun w M => ?_)
        first | (rw [parE_f (by intro hh; have h1 := hh.1; have h2 := hh.2; simp_all)]; exact ⟨rfl, M.1⟩) | (rw [parE_s ⟨by simp_all, by simp_all⟩ (by first | exact bP_f' (by assumption) | simp_all)]; exact ⟨rfl, M.1⟩) | (rw [parE_0 ⟨by simp_all, by simp_all⟩ (by first | exact bP_t' (by assumption) | simp_all)]; exact ⟨rfl, M.1⟩)
      · try simp only [decide_eq_true_eq, decide_eq_false_iff_not, Bool.not_eq_true', Bool.not_eq_false', Bool.not_eq_eq_eq_not, Bool.not_true, Bool.not_false, ne_eq, Decidable.not_not, Classical.not_not] at hc1
        refine gc_skip ?_
        refine gk_block ?_
        refine gk_then (hK6 _ _ ?_)
        refine gc_seq fun K12 hK12 => ?_
        refine gc_region ?_
        refine g_v (.free rfl) rfl rfl (qt_assign rfl rfl) ?_
        refine g_nil ?_
        refine gk_then (hK12 _ _ ?_)
        refine gc_ret ?_
        refine ret_1 rfl rfl  (fun w M => ?_)
        first | (rw [parE_f (by intro hh; have h1 := hh.1; have h2 := hh.2; simp_all)]; exact ⟨rfl, M.1⟩) | (rw [parE_s ⟨by simp_all, by simp_all⟩ (by first | exact bP_f' (by assumption) | simp_all)]; exact ⟨rfl, M.1⟩) | (rw [parE_0 ⟨by simp_all, by simp_all⟩ (by first | exact bP_t' (by assumption) | simp_all)]; exact ⟨rfl, M.1⟩)
set_option maxHeartbeats 1000000 in
set_option maxRecDepth 100000 in
theorem specAll7_any (w : World) (v : Value) (F : Fct) (u : Value) (G : Fct) (mo : Int) (h : RdF w v F) (e : RdF w u G) (hF : IsFct F) (hG : IsFct G) (hp : ParP F G) (hm0 : 0 < mo) (hm9 : mo ≤ 1000) :
    Calls Tryd.prog 46 #[v, u, .int .i64 mo] w (RetR w (findN F G false mo)) := by
  have h0 := h
  obtain ⟨vx1, vx2, vx3, vx4, vx5, vx6, vx7, vx8, vx9, vx10, vk1, vk2, vk3, vk4, vk5, vk6, vk7, vk8, vk9, vk10, rfl, h1, h2, h3, h4, h5, h6, h7, h8, h9, h10⟩ := h.lists
  have e0 := e
  obtain ⟨ux1, ux2, ux3, ux4, ux5, ux6, ux7, ux8, ux9, ux10, uk1, uk2, uk3, uk4, uk5, uk6, uk7, uk8, uk9, uk10, rfl, e1, e2, e3, e4, e5, e6, e7, e8, e9, e10⟩ := e.lists
  go_enter Tryd.func46, Tryd.ntmps46
  refine gc_enter (N := 11) rfl (look_cons (k := 0) rfl (look_cons (k := 1) rfl (look_cons (k := 2) rfl (look_nil _)))) ?_
  refine gc_seq fun K1 hK1 => ?_
  refine gc_region ?_
  refine g_op (.free rfl) fun K3 hK3 => ?_
  refine go_box rfl rfl rfl rfl rfl ?_
  intro B2
  refine hK3 _ _ ?_
  refine g_op (.free rfl) fun K5 hK5 => ?_
  refine go_box rfl rfl rfl rfl rfl ?_
  intro B4
  refine hK5 _ _ ?_
  refine g_v (.free rfl) rfl rfl (qt_assign rfl rfl) ?_
  refine g_nil ?_
  refine gk_then (hK1 _ _ ?_)
  refine gc_seq fun K6 hK6 => ?_
  refine gc_region ?_
  refine g_v (.free rfl) rfl rfl (qt_loadS (n := 0) rfl rfl Tryd.underlying45 rfl (by kernel_rfl) rfl) ?_
  refine g_v (.free rfl) rfl rfl (qt_loadS (n := 1) rfl rfl Tryd.underlying45 rfl (by kernel_rfl) rfl) ?_
  refine g_v (.free rfl) rfl rfl (qt_move rfl rfl) ?_
  refine g_op (.free rfl) fun K8 hK8 => ?_
  refine go_callR rfl rfl rfl Tryd.func50 rfl (by decide) rfl (fun w M => specFindA_any w _ _ _ _ _ _ (mem_rdF M h0) (mem_rdF M e0) (by first | assumption | omega) (by first | assumption | omega) (by first | assumption | omega) (by first | assumption | omega) (by first | assumption | omega)) ?_
  intro va7 vc7 us7
  refine hK8 _ _ ?_
  refine g_v (.free rfl) rfl rfl (qt_assign rfl rfl) ?_
  refine g_nil ?_
  refine gk_then (hK6 _ _ ?_)
  refine gc_ret ?_
  refine ret_1 rfl rfl  (fun w M => ?_)
  exact ⟨_, rfl, sl2_U (n := 2) M rfl, M.1⟩
set_option maxHeartbeats 1000000 in
set_option maxRecDepth 100000 in
theorem spec_AllT (w : World) (v : Value) (F : Fct) (u : Value) (G : Fct) (h : RdF w v F) (e : RdF w u G) :
    Calls Tryd.prog 19 #[v, u] w (RetRI w (fAllTransformations F G).1 (fAllTransformations F G).2) := by
  have h0 := h
  obtain ⟨vx1, vx2, vx3, vx4, vx5, vx6, vx7, vx8, vx9, vx10, vk1, vk2, vk3, vk4, vk5, vk6, vk7, vk8, vk9, vk10, rfl, h1, h2, h3, h4, h5, h6, h7, h8, h9, h10⟩ := h.lists
  have e0 := e
  obtain ⟨ux1, ux2, ux3, ux4, ux5, ux6, ux7, ux8, ux9, ux10, uk1, uk2, uk3, uk4, uk5, uk6, uk7, uk8, uk9, uk10, rfl, e1, e2, e3, e4, e5, e6, e7, e8, e9, e10⟩ := e.lists
  go_enter Tryd.func19, Tryd.ntmps19
  refine gc_enter (N := 21) rfl (look_cons (k := 0) rfl (look_cons (k := 1) rfl (look_nil _))) ?_
  refine gc_seq fun K1 hK1 => ?_
  refine gc_region ?_
  refine g_op (.free rfl) fun K3 hK3 => ?_
  refine go_box rfl rfl rfl rfl rfl ?_
  intro B2
  refine hK3 _ _ ?_
  refine g_op (.free rfl) fun K5 hK5 => ?_
  refine go_box rfl rfl rfl rfl rfl ?_
  intro B4
  refine hK5 _ _ ?_
  refine g_v (.free rfl) rfl rfl (qt_assign rfl rfl) ?_
  refine g_v (.free rfl) rfl rfl (qt_assign rfl rfl) ?_
  refine g_nil ?_
  refine gk_then (hK1 _ _ ?_)
  refine gc_seq fun K6 hK6 => ?_
  refine gc_region ?_
  refine g_v (.free rfl) rfl rfl (qt_loadS (n := 0) rfl rfl Tryd.underlying45 rfl (by kernel_rfl) rfl) ?_
  refine g_v (.free rfl) rfl rfl (qt_loadS (n := 1) rfl rfl Tryd.underlying45 rfl (by kernel_rfl) rfl) ?_
  refine g_q (.free rfl) rfl rfl (qt_call rfl Tryd.func45 rfl (by decide) rfl (fun w M => specCode7_any w _ _ _ _ (mem_rdF M h0) (mem_rdF M e0))) ?_
  refine g_v (.free rfl) rfl rfl (qt_assign rfl rfl) ?_
  refine g_nil ?_
  refine gk_then (hK6 _ _ ?_)
  refine gc_seq fun K7 hK7 => ?_
  refine gc_seq fun K8 hK8 => ?_
  refine gc_region ?_
  refine g_v (.free rfl) rfl rfl (qt_move rfl rfl) ?_
  refine g_v (.free rfl) rfl rfl (qt_neq rfl rfl rfl) ?_
  refine g_nil ?_
  refine gk_then (hK8 _ _ ?_)
  refine gc_cond rfl (fun hc0 => ?_) (fun hc0 => ?_)
  · try simp only [decide_eq_true_eq, decide_eq_false_iff_not, Bool.not_eq_true', Bool.not_eq_false', Bool.not_eq_eq_eq_not, Bool.not_true, Bool.not_false, ne_eq, Decidable.not_not, Classical.not_not] at hc0
    refine gc_seq fun K9 hK9 => ?_
    refine gc_region ?_
    refine g_v (.free rfl) rfl rfl (qt_move rfl rfl) ?_
    refine g_v (.free rfl) rfl rfl (qt_assign rfl rfl) ?_
    refine g_v (.free rfl) rfl rfl (qt_assign rfl rfl) ?_
    refine g_nil ?_
    refine gk_then (hK9 _ _ ?_)
    refine gc_ret ?_
    refine gk_then_ret ?_
    refine ret_2 rfl rfl rfl  (fun w M => ?_)
    rw [alt_f hc0]; exact retRI_n M.1
  · try simp only [decide_eq_true_eq, decide_eq_false_iff_not, Bool.not_eq_true', Bool.not_eq_false', Bool.not_eq_eq_eq_not, Bool.not_true, Bool.not_false, ne_eq, Decidable.not_not, Classical.not_not] at hc0
    refine gc_skip ?_
    refine gk_then (hK7 _ _ ?_)
    refine gc_seq fun K10 hK10 => ?_
    have hz := parE_z hc0
    have hF := isf_of hz.1.1; have hG := isf_of hz.1.2; have hp := hz.2
    skip
    refine gc_region ?_
    refine g_v (.free rfl) rfl rfl (qt_loadS (n := 0) rfl rfl Tryd.underlying45 rfl (by kernel_rfl) rfl) ?_
    refine g_v (.free rfl) rfl rfl (qt_loadS (n := 1) rfl rfl Tryd.underlying45 rfl (by kernel_rfl) rfl) ?_
    refine g_op (.free rfl) fun K12 hK12 => ?_
    refine go_callR rfl rfl rfl Tryd.func46 rfl (by decide) rfl (fun w M => specAll7_any w _ _ _ _ _ (mem_rdF M h0) (mem_rdF M e0) (by first | assumption | omega) (by first | assumption | omega) (by first | assumption | omega) (by decide) (by decide)) ?_
    intro va11 vc11 us11
    refine hK12 _ _ ?_
    refine g_v (.free rfl) rfl rfl (qt_assign rfl rfl) ?_
    refine g_nil ?_
    refine gk_then (hK10 _ _ ?_)
    refine gc_seq fun K13 hK13 => ?_
    refine gc_seq fun K14 hK14 => ?_
    refine gc_region ?_
    refine g_v (.free rfl) rfl rfl (qt_move rfl rfl) ?_
    refine g_v (.free rfl) rfl rfl (qt_len rfl rfl ulE2 (fun w M => lenV_U (n := 2) rfl M)) ?_
    refine g_v (.free rfl) rfl rfl (qt_gtr rfl rfl rfl) ?_
    refine g_nil ?_
    refine gk_then (hK14 _ _ ?_)
    refine gc_cond rfl (fun hc1 => ?_) (fun hc1 => ?_)
    · try simp only [decide_eq_true_eq, decide_eq_false_iff_not, Bool.not_eq_true', Bool.not_eq_false', Bool.not_eq_eq_eq_not, Bool.not_true, Bool.not_false, ne_eq, Decidable.not_not, Classical.not_not] at hc1
      refine gc_seq fun K15 hK15 => ?_
      refine gc_region ?_
      refine g_v (.free rfl) rfl rfl (qt_assign rfl rfl) ?_
      refine g_v (.free rfl) rfl rfl (qt_assign rfl rfl) ?_
      refine g_nil ?_
      refine gk_then (hK15 _ _ ?_)
      refine gc_ret ?_
      refine gk_then_ret ?_
      refine ret_2 rfl rfl rfl  (fun w M => ?_)
      rw [find_0 hF, List.length_take] at hc1
      rw [alt_l hc0 (by omega)]
      exact retRI_n M.1
    · try simp only [decide_eq_true_eq, decide_eq_false_iff_not, Bool.not_eq_true', Bool.not_eq_false', Bool.not_eq_eq_eq_not, Bool.not_true, Bool.not_false, ne_eq, Decidable.not_not, Classical.not_not] at hc1
      refine gc_skip ?_
      refine gk_then (hK13 _ _ ?_)
      refine gc_seq fun K16 hK16 => ?_
      refine gc_region ?_
      refine g_v (.free rfl) rfl rfl (qt_move rfl rfl) ?_
      refine g_v (.free rfl) rfl rfl (qt_assign rfl rfl) ?_
      refine g_v (.free rfl) rfl rfl (qt_assign rfl rfl) ?_
      refine g_nil ?_
      refine gk_then (hK16 _ _ ?_)
      refine gc_ret ?_
      refine ret_2 rfl rfl rfl  (fun w M => ?_)
      rw [find_0 hF, List.length_take] at hc1
      have h200 : (natL F G fun _ => true).length ≤ 200 := by omega
      have e1 : findN F G false 201 = natL F G fun _ => true := by rw [find_0 hF]; exact List.take_of_length_le (by omega)
      rw [alt_t hc0 h200, ← e1]
      exact ⟨_, rfl, sl2_U (n := 2) M rfl, M.1⟩
theorem spec_AllTransformations (w : World) (v : Value) (F : Fct) (u : Value) (G : Fct) (h : RdF w v F) (e : RdF w u G) : Calls Tryd.prog 19 #[v, u] w (RetRI w (fAllTransformations F G).1 (fAllTransformations F G).2) := spec_AllT w v F u G h e
theorem impl_AllTransformations (w : World) (v : Value) (F : Fct) (u : Value) (G : Fct) (h : RdF w v F) (e : RdF w u G) (hT : TabW w) : Calls Tryd.prog 21 #[v, u] w (RetRI w (fAllTransformations F G).1 (fAllTransformations F G).2) := impl_AllT w v F u G h e hT
theorem natL_len {F G : Fct} {κ : Int → Bool} (hF : IsFct F) : ∀ l ∈ natL F G κ, l.length ≤ 8 := fun l hl => by
  have hT := (isCat_of hF.ct).toShapeP; have s8 := (isCat_of hF.cs).toShapeP.ob8; have lo := hF.lo
  unfold natL sols at hl
  have := (mem_prodW _ (comp_F hT.n40).w l).1 (List.mem_filter.1 hl).1
  have h1 := this.1
  rw [comp_len] at h1
  omega
theorem bound_AllTransformations (F G : Fct) : offR (fAllTransformations F G).1 (fAllTransformations F G).1.length ≤ 1152921504606846 := by
  by_cases h : parE F G = 0
  · by_cases h2 : (natL F G fun _ => true).length ≤ 200
    · rw [alt_t h h2]
      have hF := isf_of (parE_z h).1.1
      have := offR_le (rows := natL F G fun _ => true) (b := 8) (natL F G fun _ => true).length (Nat.le_refl _) fun i hi => natL_len hF _ (by
        show (natL F G fun _ => true).getD (i : Int).toNat [] ∈ _
        rw [Int.toNat_natCast, List.getD_eq_getElem?_getD, List.getElem?_eq_getElem hi]; exact List.getElem_mem hi)
      show offR (natL F G fun _ => true) (natL F G fun _ => true).length ≤ _
      omega
    · rw [alt_l h (by omega)]; decide
  · rw [alt_f h]; show offR [] 0 ≤ _; decide
end Go.Proofs.YtfnneogadciimaaDoor
