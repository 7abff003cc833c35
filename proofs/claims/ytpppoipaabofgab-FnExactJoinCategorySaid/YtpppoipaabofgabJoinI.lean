
/- The join of two categories: the program's. -/
import Derived.Test.YtpppoipaabofgabJoinS
import Derived.Test.YtpppoipaabofgabPlanI
set_option linter.unusedSimpArgs false
set_option linter.unusedVariables false
set_option linter.unusedSectionVars false
namespace Go.Proofs.Ytpppoipaabofgab
open Go.RowKit


def entJ (c d : Cat) (k : Nat) : Ent Int := if k < (sumM c d).s.length then (at0 (sumM c d).s (k : Int), at0 (sumM c d).t (k : Int), (k : Int)) else ((((k - (sumM c d).s.length) / d.ob.toNat : Nat) : Int), c.ob + (((k - (sumM c d).s.length) % d.ob.toNat : Nat) : Int), -1)
theorem entJ_l {c d : Cat} {k : Nat} (h : k < (sumM c d).s.length) : (at0 (sumM c d).s (k : Int), at0 (sumM c d).t (k : Int), (k : Int)) = entJ c d k := (if_pos h).symm
theorem entJ_r {c d : Cat} {x y : Nat} (h : y < d.ob.toNat) : ((x : Int), c.ob + (y : Int), (-1 : Int)) = entJ c d ((sumM c d).s.length + (d.ob.toNat * x + y)) := by
  unfold entJ
  rw [if_neg (by omega), show (sumM c d).s.length + (d.ob.toNat * x + y) - (sumM c d).s.length = d.ob.toNat * x + y from by omega, grid_div h, grid_mod h]
theorem entJ_cases {c d : Cat} (hS : ShapeP c) (gS : ShapeP d) {k : Nat} (hk : k < jN c d) : (k < (sumM c d).s.length ∧ entJ c d k = ((entS c d k).1, (entS c d k).2.1, (k : Int))) ∨ ∃ x y : Nat, (x : Int) < c.ob ∧ (y : Int) < d.ob ∧ k = (sumM c d).s.length + (d.ob.toNat * x + y) ∧ entJ c d k = ((x : Int), c.ob + (y : Int), (-1 : Int)) := by
  have hP := sumP hS gS
  have hsl := hP.sl
  have hob0 := hS.ob0; have gob0 := gS.ob0
  rcases jn_at hS gS hk with ⟨h, _⟩ | ⟨x, y, hx, hy, e, _⟩
  · refine .inl ⟨h, ?_⟩
    rw [← entJ_l h, hP.s k (by omega), hP.t k (by omega)]
  · refine .inr ⟨x, y, hx, hy, e, ?_⟩
    rw [e, ← entJ_r (by omega)]
theorem entJ_inj {c d : Cat} (hS : ShapeP c) (gS : ShapeP d) (i j : Nat) (hi : i < jN c d) (hj : j < jN c d) (h : entJ c d i = entJ c d j) : i = j := by
  rcases entJ_cases hS gS hi with ⟨_, e1⟩ | ⟨x, y, _, _, r1, e1⟩ <;> rcases entJ_cases hS gS hj with ⟨_, e2⟩ | ⟨x', y', _, _, r2, e2⟩ <;> rw [e1, e2] at h <;> simp only [Prod.mk.injEq] at h
  · omega
  · omega
  · omega
  · have hx : x = x' := by omega
    have hy : y = y' := by omega
    subst hx; subst hy; rw [r1, r2]
theorem entsJ_len (c d : Cat) (k : Nat) : (entsTo (entJ c d) k).length = k := entsTo_len _ _
def thJ (c : Cat) (f g : Int) : Int := if f = -1 ∨ g = -1 then -1 else c.th f g
theorem thJ_t {c : Cat} {f g : Int} (h : f = -1 ∨ g = -1) : thJ c f g = -1 := if_pos h
theorem thJ_f {c : Cat} {f g : Int} (h : ¬ (f = -1 ∨ g = -1)) : thJ c f g = c.th f g := if_neg h
theorem jn_idx {c d : Cat} (hS : ShapeP c) {x y : Nat} (hx : (x : Int) < c.ob) (hy : (y : Int) < d.ob) : (sumM c d).s.length + (d.ob.toNat * x + y) < jN c d := by
  have := grid_lt (n := c.ob.toNat) (m := d.ob.toNat) (a := x) (b := y) (by omega) (by omega)
  unfold jN jW; omega
theorem jn_num {c d : Cat} (gS : ShapeP d) {x y : Nat} : (((sumM c d).s.length + (d.ob.toNat * x + y) : Nat) : Int) = ((sumM c d).s.length : Int) + (x : Int) * d.ob + (c.ob + (y : Int)) - c.ob := by
  have gob0 := gS.ob0
  obtain ⟨q, hq⟩ := Int.eq_ofNat_of_zero_le gob0
  rw [hq]
  simp only [Int.toNat_natCast, Int.natCast_add, Int.natCast_mul]
  rw [Int.mul_comm (q : Int) (x : Int)]; omega
theorem jn_build {c d : Cat} (hS : ShapeP c) (gS : ShapeP d) : buildE (sumM c d).ob (entsTo (entJ c d) (jN c d)) (fun x => at0 (sumM c d).e (x : Int)) (thJ (sumM c d)) = joinM c d := by
  have hP := sumP hS gS
  have hsl := hP.sl; have htl := hP.tl; have hel := hP.el
  have hob0 := hS.ob0; have gob0 := gS.ob0
  have hinj := entJ_inj hS gS
  have hN : (sumM c d).s.length ≤ jN c d := Nat.le_add_right _ _
  refine buildE_to rfl (jS_len _ _ _) ((jT_len _ _ _).trans (by unfold jN; omega)) (by show (sumM c d).e.length = (c.ob + d.ob).toNat; omega) (rowsTo_len _ _) (fun i hi => ?_) (fun i hi => ?_) (fun i hi => ?_) (fun x hx => ?_) (fun i j hi hj => ?_)
  · rw [show row2 (joinM c d).m (i : Int) = _ from rowsTo_at _ hi]; exact tabTo_len _ _
  · rcases jn_at hS gS hi with ⟨h, e1, _⟩ | ⟨x, y, hx, hy, r, e1, _⟩
    · rw [show at0 (joinM c d).s (i : Int) = _ from e1, ← entJ_l h, hP.s i (by omega)]
    · rw [show at0 (joinM c d).s (i : Int) = _ from e1, r, ← entJ_r (by omega)]
  · rcases jn_at hS gS hi with ⟨h, _, e1⟩ | ⟨x, y, hx, hy, r, _, e1⟩
    · rw [show at0 (joinM c d).t (i : Int) = _ from e1, ← entJ_l h, hP.t i (by omega)]
    · rw [show at0 (joinM c d).t (i : Int) = _ from e1, r, ← entJ_r (by omega)]
  · obtain ⟨k, hk, e, e1, e2⟩ := hP.id x (by have : x < (c.ob + d.ob).toNat := hx; omega)
    show at0 (sumM c d).e (x : Int) = _
    rw [e]
    refine (posE_to (fun i j hi hj he => hinj i j hi hj he) (by omega) ?_).symm
    rw [← entJ_l (by omega), hP.s k hk, hP.t k hk, e1, e2]
  · rw [show row2 (joinM c d).m (i : Int) = _ from rowsTo_at _ hi, show at0 (jR c d i) (j : Int) = _ from tabTo_at _ hj]
    unfold cellE
    rcases entJ_cases hS gS hi with ⟨hi', e1⟩ | ⟨x, y, hx, hy, r1, e1⟩
    · have ri := entS_rng hS gS (i := i) (by omega)
      have a1 : at0 (jS c d (jW c d)) (i : Int) = (entS c d i).1 ∧ at0 (jT c d (jW c d)) (i : Int) = (entS c d i).2.1 := by
        rcases jn_at hS gS hi with ⟨_, h1, h2⟩ | ⟨_, _, _, _, r, _⟩
        · exact ⟨h1, h2⟩
        · omega
      rcases entJ_cases hS gS hj with ⟨hj', e2⟩ | ⟨x', y', hx', hy', r2, e2⟩
      · have a2 : at0 (jS c d (jW c d)) (j : Int) = (entS c d j).1 := by
          rcases jn_at hS gS hj with ⟨_, h1, h2⟩ | ⟨_, _, _, _, r, _⟩
          · exact h1
          · omega
        rw [e1, e2]
        by_cases he : (entS c d i).2.1 = (entS c d j).1
        · obtain ⟨k, hk, ek, s1, s2⟩ := hP.co i j (by omega) (by omega) he
          rw [if_pos (show (entS c d i).2.1 = (entS c d j).1 from he), ← jM_s (by rw [a1.2, a2]; exact he) hi' hj', ek]
          refine (posE_to (fun i j hi hj he => hinj i j hi hj he) (by omega) ?_).symm
          rw [← entJ_l (by omega), hP.s k hk, hP.t k hk, s1, s2]
          show _ = (_, _, thJ (sumM c d) (i : Int) (j : Int))
          rw [thJ_f (by omega), ← ek]; rfl
        · rw [if_neg (show ¬ (entS c d i).2.1 = (entS c d j).1 from he)]
          exact (jM_n (by rw [a1.2, a2]; exact he)).symm
      · have a2 : at0 (jS c d (jW c d)) (j : Int) = x' ∧ at0 (jT c d (jW c d)) (j : Int) = c.ob + y' := by
          rcases jn_at hS gS hj with ⟨h, _⟩ | ⟨x2, y2, hx2, hy2, r, h1, h2⟩
          · omega
          · have hg := grid_inj (m := d.ob.toNat) (k := d.ob.toNat * x' + y') (l := d.ob.toNat * x2 + y2)
            have hd : d.ob.toNat * x' + y' = d.ob.toNat * x2 + y2 := by omega
            have q1 := grid_div (m := d.ob.toNat) (a := x') (b := y') (by omega); have q2 := grid_div (m := d.ob.toNat) (a := x2) (b := y2) (by omega)
            have q3 := grid_mod (m := d.ob.toNat) (a := x') (b := y') (by omega); have q4 := grid_mod (m := d.ob.toNat) (a := x2) (b := y2) (by omega)
            rw [hd] at q1 q3
            rw [h1, h2]; omega
        rw [e1, e2]
        by_cases he : (entS c d i).2.1 = (x' : Int)
        · rw [if_pos (show (entS c d i).2.1 = (x' : Int) from he), ← jM_a (by rw [a1.2, a2.1]; exact he) (by omega), a1.1, a2.2]
          obtain ⟨p, hp⟩ := Int.eq_ofNat_of_zero_le ri.1.1
          have hpc : (p : Int) < c.ob := by rw [← hp]; exact ri.2.2.2 (by omega)
          rw [hp, ← jn_num gS]
          refine (posE_to (fun i j hi hj he => hinj i j hi hj he) (jn_idx hS hpc hy') ?_).symm
          rw [← entJ_r (by omega)]
          show _ = (_, _, thJ (sumM c d) (i : Int) (-1))
          rw [thJ_t (.inr rfl)]
        · rw [if_neg (show ¬ (entS c d i).2.1 = (x' : Int) from he)]
          exact (jM_n (by rw [a1.2, a2.1]; exact he)).symm
    · have a1 : at0 (jS c d (jW c d)) (i : Int) = x ∧ at0 (jT c d (jW c d)) (i : Int) = c.ob + y := by
        rcases jn_at hS gS hi with ⟨h, _⟩ | ⟨x2, y2, hx2, hy2, r, h1, h2⟩
        · omega
        · have hd : d.ob.toNat * x + y = d.ob.toNat * x2 + y2 := by omega
          have q1 := grid_div (m := d.ob.toNat) (a := x) (b := y) (by omega); have q2 := grid_div (m := d.ob.toNat) (a := x2) (b := y2) (by omega)
          have q3 := grid_mod (m := d.ob.toNat) (a := x) (b := y) (by omega); have q4 := grid_mod (m := d.ob.toNat) (a := x2) (b := y2) (by omega)
          rw [hd] at q1 q3
          rw [h1, h2]; omega
      rcases entJ_cases hS gS hj with ⟨hj', e2⟩ | ⟨x', y', hx', hy', r2, e2⟩
      · have rj := entS_rng hS gS (i := j) (by omega)
        have a2 : at0 (jS c d (jW c d)) (j : Int) = (entS c d j).1 ∧ at0 (jT c d (jW c d)) (j : Int) = (entS c d j).2.1 := by
          rcases jn_at hS gS hj with ⟨_, h1, h2⟩ | ⟨_, _, _, _, r, _⟩
          · exact ⟨h1, h2⟩
          · omega
        rw [e1, e2]
        by_cases he : c.ob + (y : Int) = (entS c d j).1
        · rw [if_pos (show c.ob + (y : Int) = (entS c d j).1 from he), ← jM_a (by rw [a1.2, a2.1]; exact he) (by omega), a1.1, a2.2]
          have hge : c.ob ≤ (entS c d j).2.1 := by
            rcases Int.lt_or_le (entS c d j).2.1 c.ob with h | h
            · have := rj.2.2.2 h; omega
            · exact h
          obtain ⟨p, hp⟩ := Int.eq_ofNat_of_zero_le (show 0 ≤ (entS c d j).2.1 - c.ob by omega)
          have hp2 : (entS c d j).2.1 = c.ob + (p : Int) := by omega
          have hpd : (p : Int) < d.ob := by have := rj.2.1.2; omega
          rw [hp2, ← jn_num gS]
          refine (posE_to (fun i j hi hj he => hinj i j hi hj he) (jn_idx hS hx hpd) ?_).symm
          rw [← entJ_r (by omega)]
          show _ = (_, _, thJ (sumM c d) (-1) (j : Int))
          rw [thJ_t (.inl rfl)]
        · rw [if_neg (show ¬ c.ob + (y : Int) = (entS c d j).1 from he)]
          exact (jM_n (by rw [a1.2, a2.1]; exact he)).symm
      · have a2 : at0 (jS c d (jW c d)) (j : Int) < c.ob := by
          rcases jn_at hS gS hj with ⟨h, _⟩ | ⟨x2, y2, hx2, hy2, r, h1, h2⟩
          · omega
          · rw [h1]; exact hx2
        rw [e1, e2, if_neg (show ¬ c.ob + (y : Int) = (x' : Int) by omega)]
        exact (jM_n (by rw [a1.2]; omega)).symm
theorem entJ_ok {c d : Cat} (hS : ShapeP c) (gS : ShapeP d) {i j : Nat} (hi : i < jN c d) (hj : j < jN c d) : ¬ ((entJ c d i).2.2 = -1 ∨ (entJ c d j).2.2 = -1) → (0 ≤ (entJ c d i).2.2 ∧ (entJ c d i).2.2 < (sumM c d).m.length) ∧ 0 ≤ (entJ c d j).2.2 ∧ (entJ c d j).2.2 < (row2 (sumM c d).m (entJ c d i).2.2).length := by
  have hP := sumP hS gS
  have hsl := hP.sl; have hml := hP.ml
  intro hn
  rcases entJ_cases hS gS hi with ⟨h1, e1⟩ | ⟨x, y, _, _, _, e1⟩
  · rcases entJ_cases hS gS hj with ⟨h2, e2⟩ | ⟨x, y, _, _, _, e2⟩
    · rw [e1, e2]
      show (0 ≤ (i : Int) ∧ (i : Int) < (sumM c d).m.length) ∧ 0 ≤ (j : Int) ∧ (j : Int) < (row2 (sumM c d).m (i : Int)).length
      rw [hP.rl i (by omega)]; omega
    · exact absurd (.inr (by rw [e2])) hn
  · exact absurd (.inl (by rw [e1])) hn
theorem sum_0 {c d : Cat} (h : (fSumCategory c d).2 = 0) : (fIsCategory c = true ∧ fIsCategory d = true) ∧ (fSumCategory c d).1 = sumM c d ∧ FitP (sumM c d) := by
  by_cases hT : fIsCategory c = true ∧ fIsCategory d = true
  · by_cases hf : FitP (sumM c d)
    · exact ⟨hT, by rw [sum_t hT.1 hT.2 hf], hf⟩
    · rw [sum_l hT.1 hT.2 hf] at h; exact absurd h (by decide)
  · rw [sum_n hT] at h; exact absurd h (by decide)
theorem sum_nz {c d : Cat} (h : ¬ (fSumCategory c d).2 = 0) : fJoinCategory c d = (cat0, (fSumCategory c d).2) := by
  by_cases hT : fIsCategory c = true ∧ fIsCategory d = true
  · by_cases hf : FitP (sumM c d)
    · exact absurd (by rw [sum_t hT.1 hT.2 hf]) h
    · rw [sum_l hT.1 hT.2 hf]
      refine jn_l hT.1 hT.2 fun hj => hf ⟨hj.1, ?_⟩
      have h2 : (jS c d (jW c d)).length ≤ 40 := hj.2
      rw [jS_len] at h2; omega
  · rw [sum_n hT]; exact jn_n hT
theorem jn_made {c d : Cat} (h : fIsCategory c = true) (h' : fIsCategory d = true) : madeE (sumM c d).ob (entsTo (entJ c d) (jN c d)) (fun x => at0 (sumM c d).e (x : Int)) (thJ (sumM c d)) = (fJoinCategory c d).1 ∧ madeEc (α := Int) (sumM c d).ob (entsTo (entJ c d) (jN c d)) = (fJoinCategory c d).2 := by
  by_cases hf : FitP (joinM c d)
  · have h2 : (jS c d (jW c d)).length ≤ 40 := hf.2
    rw [jS_len] at h2
    have hm := madeE_t (n := (sumM c d).ob) (es := entsTo (entJ c d) (jN c d)) (u := fun x => at0 (sumM c d).e (x : Int)) (th := thJ (sumM c d)) hf.1 (by rw [entsTo_len]; exact h2)
    rw [jn_t h h' hf, hm.1, hm.2, jn_build (isCat_of h).toShapeP (isCat_of h').toShapeP]; exact ⟨rfl, rfl⟩
  · have hm := madeE_f (n := (sumM c d).ob) (es := entsTo (entJ c d) (jN c d)) (u := fun x => at0 (sumM c d).e (x : Int)) (th := thJ (sumM c d)) (fun hh => hf ⟨hh.1, by show (jS c d (jW c d)).length ≤ 40; rw [jS_len]; have := hh.2; rwa [entsTo_len] at this⟩)
    rw [jn_l h h' hf, hm.1, hm.2]; exact ⟨rfl, rfl⟩
theorem bound_JoinCategory (c d : Cat) : mzC (fJoinCategory c d).1 ≤ 1152921504606846 := by
  by_cases h : fIsCategory c = true ∧ fIsCategory d = true
  · by_cases hf : FitP (joinM c d)
    · have hP := sumP (isCat_of h.1).toShapeP (isCat_of h.2).toShapeP
      have hsl := hP.sl; have htl := hP.tl; have hel := hP.el
      rw [jn_t h.1 h.2 hf]
      have h1 : c.ob + d.ob ≤ 8 := hf.1
      have h2 : (jS c d (jW c d)).length ≤ 40 := hf.2
      rw [jS_len] at h2
      refine mz_small (show (jS _ _ _).length ≤ 40 by rw [jS_len]; exact h2) (show (jT _ _ _).length ≤ 40 by rw [jT_len]; omega) (show (sumM c d).e.length ≤ 40 by omega) (show (rowsTo _ _).length ≤ 40 by rw [rowsTo_len]; exact h2) fun i hi => ?_
      have hi : i < (rowsTo (jR c d) (jN c d)).length := hi
      rw [rowsTo_len] at hi
      rw [show row2 (joinM c d, (0 : Int)).1.m (i : Int) = _ from rowsTo_at _ hi]
      show (tabTo _ _).length ≤ 40
      rw [tabTo_len]; exact h2
    · rw [jn_l h.1 h.2 hf]; show mzC cat0 ≤ _; decide
  · rw [jn_n h]; show mzC cat0 ≤ _; decide

set_option maxHeartbeats 1000000 in
set_option maxRecDepth 100000 in
theorem jnC1_any (w : World) (x : Int) (B : Nat) (v : Value) (c : Cat) (h : RdC w v c) (hbB : BxV w B 29 v) (x0 : 0 ≤ x) (x1 : x < c.e.length) :
    Calls Try.prog 57 #[.int .i64 x, .pointer (some ⟨B, 0, none⟩)] w (RetV w (.int .i64 (at0 c.e x))) := by
  have h0 := h
  obtain ⟨va, vb, vc, vd, ve, vf, vg, vh, rfl, h1, h2, h3, h4, _⟩ := h.lists
  go_enter Try.func57, Try.ntmps57
  refine gc_enter (N := 9) rfl (look_cons (k := 0) rfl (look_cons (k := 1) rfl (look_nil _))) ?_
  refine gc_seq fun K1 hK1 => ?_
  refine gc_region ?_
  refine g_v (.free rfl) rfl rfl (qt_assign rfl rfl) ?_
  refine g_nil ?_
  refine gk_then (hK1 _ _ ?_)
  refine gc_seq fun K2 hK2 => ?_
  refine gc_region ?_
  refine g_v (.free rfl) rfl rfl (qt_field (z := 0) (off := 3) rfl rfl Try.underlying29 rfl (by kernel_rfl) rfl) ?_
  refine g_v (.free rfl) rfl rfl (qt_loadRB hbB rfl rfl Try.underlying22 rfl rfl) ?_
  refine g_v (.free rfl) rfl rfl (qt_move rfl rfl) ?_
  refine g_v (.free rfl) rfl rfl (qt_index rfl rfl rfl ulE1 szE1 (fun w M => lenA_rd h3) (by omega) (by omega)) ?_
  refine g_v (.free rfl) rfl rfl (qt_load1 rfl rfl Try.underlying2 rfl (fun w M => mem_rd M h3) (by omega) (by omega)) ?_
  refine g_v (.free rfl) rfl rfl (qt_assign rfl rfl) ?_
  refine g_nil ?_
  refine gk_then (hK2 _ _ ?_)
  refine gc_ret ?_
  refine ret_1 rfl rfl  (fun w M => ?_)
  exact ⟨rfl, M.1⟩

set_option maxHeartbeats 1000000 in
set_option maxRecDepth 100000 in
theorem jnC2_any (w : World) (f g : Int) (B : Nat) (v : Value) (c : Cat) (h : RdC w v c) (hbB : BxV w B 29 v) (hr : ¬ (f = -1 ∨ g = -1) → (0 ≤ f ∧ f < c.m.length) ∧ 0 ≤ g ∧ g < (row2 c.m f).length) :
    Calls Try.prog 58 #[.int .i64 f, .int .i64 g, .pointer (some ⟨B, 0, none⟩)] w (RetV w (.int .i64 (thJ c f g))) := by
  have h0 := h
  obtain ⟨va, vb, vc, vd, ve, vf, vg, vh, rfl, h1, h2, h3, h4, _⟩ := h.lists
  go_enter Try.func58, Try.ntmps58
  refine gc_enter (N := 16) rfl (look_cons (k := 0) rfl (look_cons (k := 1) rfl (look_cons (k := 2) rfl (look_nil _)))) ?_
  refine gc_seq fun K1 hK1 => ?_
  refine gc_region ?_
  refine g_v (.free rfl) rfl rfl (qt_assign rfl rfl) ?_
  refine g_nil ?_
  refine gk_then (hK1 _ _ ?_)
  refine gc_seq fun K2 hK2 => ?_
  refine gc_seq fun K3 hK3 => ?_
  refine gc_region ?_
  refine g_v (.free rfl) rfl rfl (qt_move rfl rfl) ?_
  refine g_v (.free rfl) rfl rfl (qt_eql rfl rfl rfl) ?_
  refine g_splitv (.free rfl) rfl rfl (qt_move rfl rfl) (fun hs1_2 => ?_) (fun hs1_2 => ?_)
  · try simp only [decide_eq_true_eq, decide_eq_false_iff_not, Bool.not_eq_true', Bool.not_eq_false', Bool.not_eq_eq_eq_not, Bool.not_true, Bool.not_false, ne_eq, Decidable.not_not, Classical.not_not] at hs1_2
    refine g_skip (.not _ _ _ _ rfl rfl rfl rfl) rfl rfl ?_
    refine g_skip (.not _ _ _ _ rfl rfl rfl rfl) rfl rfl ?_
    refine g_v (.free rfl) rfl rfl (qt_pick_t rfl rfl rfl) ?_
    refine g_nil ?_
    refine gk_then (hK3 _ _ ?_)
    refine gc_cond_t rfl ?_
    refine gc_seq fun K4 hK4 => ?_
    refine gc_region ?_
    refine g_v (.free rfl) rfl rfl (qt_assign rfl rfl) ?_
    refine g_nil ?_
    refine gk_then (hK4 _ _ ?_)
    refine gc_ret ?_
    refine gk_then_ret ?_
    refine ret_1 rfl rfl  (fun w M => ?_)
    rw [thJ_t (.inl hs1_2)]; exact ⟨rfl, M.1⟩
  · try simp only [decide_eq_true_eq, decide_eq_false_iff_not, Bool.not_eq_true', Bool.not_eq_false', Bool.not_eq_eq_eq_not, Bool.not_true, Bool.not_false, ne_eq, Decidable.not_not, Classical.not_not] at hs1_2
    refine g_v (.held _ _ _ rfl rfl rfl) rfl rfl (qt_move rfl rfl) ?_
    refine g_v (.held _ _ _ rfl rfl rfl) rfl rfl (qt_eql rfl rfl rfl) ?_
    refine g_v (.free rfl) rfl rfl (qt_pick_f rfl rfl rfl) ?_
    refine g_nil ?_
    refine gk_then (hK3 _ _ ?_)
    refine gc_cond rfl (fun hc0 => ?_) (fun hc0 => ?_)
    · try simp only [decide_eq_true_eq, decide_eq_false_iff_not, Bool.not_eq_true', Bool.not_eq_false', Bool.not_eq_eq_eq_not, Bool.not_true, Bool.not_false, ne_eq, Decidable.not_not, Classical.not_not] at hc0
      refine gc_seq fun K5 hK5 => ?_
      refine gc_region ?_
      refine g_v (.free rfl) rfl rfl (qt_assign rfl rfl) ?_
      refine g_nil ?_
      refine gk_then (hK5 _ _ ?_)
      refine gc_ret ?_
      refine gk_then_ret ?_
      refine ret_1 rfl rfl  (fun w M => ?_)
      rw [thJ_t (.inr hc0)]; exact ⟨rfl, M.1⟩
    · try simp only [decide_eq_true_eq, decide_eq_false_iff_not, Bool.not_eq_true', Bool.not_eq_false', Bool.not_eq_eq_eq_not, Bool.not_true, Bool.not_false, ne_eq, Decidable.not_not, Classical.not_not] at hc0
      refine gc_skip ?_
      refine gk_then (hK2 _ _ ?_)
      refine gc_seq fun K6 hK6 => ?_
      have hr := hr (by omega)
      have r1 := hr.1.1; have r2 := hr.1.2; have r3 := hr.2.1; have r4 := hr.2.2
      refine gc_region ?_
      refine g_v (.free rfl) rfl rfl (qt_loadRS hbB rfl rfl Try.underlying29 rfl (by kernel_rfl)) ?_
      refine g_v (.free rfl) rfl rfl (qt_move rfl rfl) ?_
      refine g_v (.free rfl) rfl rfl (qt_move rfl rfl) ?_
      refine g_q (.free rfl) rfl rfl (qt_call rfl Try.func59 rfl (by decide) rfl (fun w M => then_any w _ _ _ _ (mem_rdC M h0) (by first | assumption | omega) (by first | assumption | omega) (by first | assumption | omega) (by first | assumption | omega))) ?_
      refine g_v (.free rfl) rfl rfl (qt_assign rfl rfl) ?_
      refine g_nil ?_
      refine gk_then (hK6 _ _ ?_)
      refine gc_ret ?_
      refine ret_1 rfl rfl  (fun w M => ?_)
      rw [thJ_f (by omega)]; exact ⟨rfl, M.1⟩

set_option maxHeartbeats 1000000 in
set_option maxRecDepth 100000 in
theorem impl_JoinCategory (w : World) (v : Value) (c : Cat) (u : Value) (d : Cat) (h : RdC w v c) (e : RdC w u d) :
    Calls Try.prog 17 #[v, u] w (RetCI w (fJoinCategory c d).1 (fJoinCategory c d).2) := by
  have h0 := h
  obtain ⟨va, vb, vc, vd, ve, vf, vg, vh, rfl, h1, h2, h3, h4, _⟩ := h.lists
  have e0 := e
  obtain ⟨ua, ub, uc, ud, ue, uf, ug, uh, rfl, e1, e2, e3, e4, _⟩ := e.lists
  go_enter Try.func17, Try.ntmps17
  refine gc_enter (N := 60) rfl (look_cons (k := 0) rfl (look_cons (k := 1) rfl (look_nil _))) ?_
  refine gc_seq fun K1 hK1 => ?_
  refine gc_region ?_
  refine g_op (.free rfl) fun K3 hK3 => ?_
  refine go_box rfl rfl rfl rfl rfl ?_
  intro B2
  refine hK3 _ _ ?_
  refine g_op (.free rfl) fun K5 hK5 => ?_
  refine go_box rfl rfl rfl rfl rfl ?_
  intro B4
  refine hK5 _ _ ?_
  refine g_op (.free rfl) fun K7 hK7 => ?_
  refine go_alloc (z := (.agg #[.int .i64 0, .slice none 0 0, .slice none 0 0, .slice none 0 0, .slice none 0 0])) (cs := [.int .i64 0, .slice none 0 0, .slice none 0 0, .slice none 0 0, .slice none 0 0]) rfl rfl rfl (fun w => by kernel_rfl) rfl ?_
  intro B6
  refine hK7 _ _ ?_
  refine g_v (.free rfl) rfl rfl (qt_assign rfl rfl) ?_
  refine g_nil ?_
  refine gk_then (hK1 _ _ ?_)
  refine gc_seq fun K8 hK8 => ?_
  refine gc_region ?_
  refine g_v (.free rfl) rfl rfl (qt_loadS (n := 0) rfl rfl Try.underlying29 rfl (by kernel_rfl) rfl) ?_
  refine g_v (.free rfl) rfl rfl (qt_loadS (n := 1) rfl rfl Try.underlying29 rfl (by kernel_rfl) rfl) ?_
  refine g_op (.free rfl) fun K10 hK10 => ?_
  refine go_callCI rfl rfl rfl Try.func47 rfl (by decide) rfl (fun w M => impl_SumCategory w _ _ _ _ (mem_rdC M h0) (mem_rdC M e0)) ?_
  intro ca9 cb9 cc9 cd9 ce9 cf9 cg9 ch9 cu9
  refine hK10 _ _ ?_
  refine g_v (.free rfl) rfl rfl (qt_move rfl rfl) ?_
  refine g_v (.free rfl) rfl rfl (qt_extract rfl rfl rfl) ?_
  refine g_v (.free rfl) rfl rfl (qt_extract rfl rfl rfl) ?_
  refine g_op (.free rfl) fun K12 hK12 => ?_
  refine go_alloc (z := (.agg #[.int .i64 0, .slice none 0 0, .slice none 0 0, .slice none 0 0, .slice none 0 0])) (cs := [.int .i64 0, .slice none 0 0, .slice none 0 0, .slice none 0 0, .slice none 0 0]) rfl rfl rfl (fun w => by kernel_rfl) rfl ?_
  intro B11
  refine hK12 _ _ ?_
  refine g_op (.free rfl) fun K13 hK13 => ?_
  refine go_storeS (n := 7) rfl rfl rfl rfl (by kernel_rfl) rfl rfl rfl ?_
  refine hK13 _ _ ?_
  refine g_v (.free rfl) rfl rfl (qt_assign rfl rfl) ?_
  refine g_nil ?_
  refine gk_then (hK8 _ _ ?_)
  refine gc_seq fun K14 hK14 => ?_
  refine gc_seq fun K15 hK15 => ?_
  refine gc_region ?_
  refine g_v (.free rfl) rfl rfl (qt_move rfl rfl) ?_
  refine g_v (.free rfl) rfl rfl (qt_neq rfl rfl rfl) ?_
  refine g_nil ?_
  refine gk_then (hK15 _ _ ?_)
  refine gc_cond rfl (fun hc0 => ?_) (fun hc0 => ?_)
  · try simp only [decide_eq_true_eq, decide_eq_false_iff_not, Bool.not_eq_true', Bool.not_eq_false', Bool.not_eq_eq_eq_not, Bool.not_true, Bool.not_false, ne_eq, Decidable.not_not, Classical.not_not] at hc0
    refine gc_seq fun K16 hK16 => ?_
    refine gc_region ?_
    refine g_v (.free rfl) rfl rfl (qt_build rfl rfl bt0_Category) ?_
    refine g_v (.free rfl) rfl rfl (qt_move rfl rfl) ?_
    refine g_op (.free rfl) fun K17 hK17 => ?_
    refine go_storeS (n := 2) rfl rfl rfl rfl (by kernel_rfl) rfl rfl rfl ?_
    refine hK17 _ _ ?_
    refine g_v (.free rfl) rfl rfl (qt_assign rfl rfl) ?_
    refine g_nil ?_
    refine gk_then (hK16 _ _ ?_)
    refine gc_ret ?_
    refine gk_then_ret ?_
    refine ret_SI (n := 2) rfl rfl rfl Try.underlying29 rfl (by kernel_rfl) rfl (fun w M => ?_)
    rw [sum_nz hc0]; exact ⟨_, rfl, ownC_zero _ _, M.1⟩
  · try simp only [decide_eq_true_eq, decide_eq_false_iff_not, Bool.not_eq_true', Bool.not_eq_false', Bool.not_eq_eq_eq_not, Bool.not_true, Bool.not_false, ne_eq, Decidable.not_not, Classical.not_not] at hc0
    refine gc_skip ?_
    refine gk_then (hK14 _ _ ?_)
    refine gc_seq fun K18 hK18 => ?_
    have hz := sum_0 hc0
    simp only [hz.2.1]
    have hT := hz.1
    have hS := (isCat_of hT.1).toShapeP
    have gS := (isCat_of hT.2).toShapeP
    have hn40 := hS.n40; have htl := hS.tl; have hel := hS.el; have hob0 := hS.ob0; have hob8 := hS.ob8; have hml := hS.ml
    have gn40 := gS.n40; have gtl := gS.tl; have gel := gS.el; have gob0 := gS.ob0; have gob8 := gS.ob8; have gml := gS.ml
    have hP := sumP hS gS
    have psl := hP.sl; have ptl := hP.tl; have pel := hP.el; have pml := hP.ml
    have hw := jW_le hS gS
    have hjn : jN c d = (sumM c d).s.length + jW c d := rfl
    have pob : (sumM c d).ob = c.ob + d.ob := rfl
    refine gc_region ?_
    refine g_v (.free rfl) rfl rfl (qt_field (z := 0) (off := 0) rfl rfl Try.underlying29 rfl (by kernel_rfl) rfl) ?_
    refine g_v (.free rfl) rfl rfl (qt_loadB (n := 7) rfl rfl Try.underlying2 rfl rfl rfl) ?_
    refine g_v (.free rfl) rfl rfl (qt_makeF rfl rfl) ?_
    refine g_v (.free rfl) rfl rfl (qt_makeF rfl rfl) ?_
    refine g_v (.free rfl) rfl rfl (qt_build rfl rfl bt023_plan_int64) ?_
    refine g_op (.free rfl) fun K20 hK20 => ?_
    refine go_alloc (z := (.agg #[.int .i64 0, .slice none 0 0, .nilFunc, .nilFunc])) (cs := [.int .i64 0, .slice none 0 0, .nilFunc, .nilFunc]) rfl rfl rfl (fun w => by kernel_rfl) rfl ?_
    intro B19
    refine hK20 _ _ ?_
    refine g_op (.free rfl) fun K21 hK21 => ?_
    refine go_storeS (n := 8) rfl rfl rfl rfl (by kernel_rfl) rfl rfl rfl ?_
    refine hK21 _ _ ?_
    refine g_nil ?_
    refine gk_then (hK18 _ _ ?_)
    refine gc_seq fun K22 hK22 => ?_
    refine gc_seq fun K23 hK23 => ?_
    refine gc_region ?_
    refine g_v (.free rfl) rfl rfl (qt_loadS (n := 7) rfl rfl Try.underlying29 rfl (by kernel_rfl) rfl) ?_
    refine g_q (.free rfl) rfl rfl (qt_call rfl Try.func60 rfl (by decide) rfl (fun w M => arrows_any w _ _ (rdC_mk ((mem_own1 (n := 3) M rfl).rd) ((mem_own1 (n := 4) M rfl).rd) ((mem_own1 (n := 5) M rfl).rd) (mem_rdU (n := 6) M rfl)))) ?_
    refine g_v (.free rfl) rfl rfl (qt_move rfl rfl) ?_
    refine g_nil ?_
    refine gk_then (hK23 _ _ ?_)
    refine gc_block ?_
    refine gc_nilE lab_int ?_
    try simp only [List.nil_append, List.cons_append, List.append_assoc, List.set_cons_succ, List.set_cons_zero]
    refine gc_loop ([(0, _), (1, _), (2, _), (3, _), (4, _), (5, _), (6, _), (7, _), (8, _), (19, _), (28, _)] : Env) (fun s : Nat × (Option Addr) × Nat => (fun (k : Nat) (a : Option Addr) (q : Nat) => ([(29, .int .i64 (k : Int))] : Env)) s.1 s.2.1 s.2.2) (fun s : Nat × (Option Addr) × Nat => (fun (k : Nat) (a : Option Addr) (q : Nat) => ([(8, bxI B19 79 [.int .i64 (sumM c d).ob, .slice a (entsTo (entJ c d) (k)).length q, .func (.func 57) #[] #[.pointer (some ⟨B11, 0, none⟩)], .func (.func 58) #[] #[.pointer (some ⟨B11, 0, none⟩)]]), (9, ownEI lab_int (.slice a (entsTo (entJ c d) (k)).length q) (entsTo (entJ c d) (k)))] : List (Nat × Itm))) s.1 s.2.1 s.2.2) (fun s : Nat × (Option Addr) × Nat => (fun (k : Nat) (a : Option Addr) (q : Nat) => k ≤ (sumM c d).s.length) s.1 s.2.1 s.2.2) (fun s : Nat × (Option Addr) × Nat => (fun (k : Nat) (a : Option Addr) (q : Nat) => (sumM c d).s.length - k) s.1 s.2.1 s.2.2) (0, _, _) (sub_cons rfl (sub_cons rfl (sub_cons rfl (sub_cons rfl (sub_cons rfl (sub_cons rfl (sub_cons rfl (sub_cons rfl (sub_cons rfl (sub_cons rfl (sub_cons rfl (sub_cons rfl sub_nil)))))))))))) rfl (Nat.zero_le _) ?_
    rintro ⟨k, a, q⟩ hinv KL24 hKL24
    simp only [updL, List.foldl_cons, List.foldl_nil, List.set_cons_succ, List.set_cons_zero, List.cons_append, List.nil_append] at hinv hKL24 ⊢
    have hk := hinv
    have hl := entsJ_len c d k
    refine gc_seq fun K25 hK25 => ?_
    refine gc_region ?_
    refine g_v (.free rfl) rfl rfl (qt_lss rfl rfl rfl) ?_
    refine g_nil ?_
    refine gk_then (hK25 _ _ ?_)
    refine gc_seq fun K26 hK26 => ?_
    refine gc_cond rfl (fun hc1 => ?_) (fun hc1 => ?_)
    · try simp only [decide_eq_true_eq, decide_eq_false_iff_not, Bool.not_eq_true', Bool.not_eq_false', Bool.not_eq_eq_eq_not, Bool.not_true, Bool.not_false, ne_eq, Decidable.not_not, Classical.not_not] at hc1
      refine gc_skip ?_
      refine gk_then (hK26 _ _ ?_)
      refine gc_seq fun K27 hK27 => ?_
      refine gc_block ?_
      refine gc_seq fun K28 hK28 => ?_
      refine gc_region ?_
      refine g_v (.free rfl) rfl rfl (qt_move rfl rfl) ?_
      refine g_v (.free rfl) rfl rfl (qt_assign rfl rfl) ?_
      refine g_nil ?_
      refine gk_then (hK28 _ _ ?_)
      refine gc_region ?_
      refine g_v (.free rfl) rfl rfl (qt_loadS (n := 7) rfl rfl Try.underlying29 rfl (by kernel_rfl) rfl) ?_
      refine g_v (.free rfl) rfl rfl (qt_move rfl rfl) ?_
      refine g_q (.free rfl) rfl rfl (qt_call rfl Try.func62 rfl (by decide) rfl (fun w M => ends_any w _ _ _ (rdC_mk ((mem_own1 (n := 3) M rfl).rd) ((mem_own1 (n := 4) M rfl).rd) ((mem_own1 (n := 5) M rfl).rd) (mem_rdU (n := 6) M rfl)) (by first | assumption | omega) (by first | assumption | omega) (by first | assumption | omega))) ?_
      refine g_v (.free rfl) rfl rfl (qt_move rfl rfl) ?_
      refine g_op (.free rfl) fun K30 hK30 => ?_
      refine go_two (n := 8) (m := 9) (m' := 8) (σ := Option Addr × Nat) rfl rfl rfl Try.func61 rfl (by decide) rfl rfl rfl (fun z => rfl) (fun R w M => add_int _ w R _ _ _ _ _ _ _ _ _ _ (by omega) M) ?_
      intro ⟨sa29, sq29⟩
      refine hK30 _ _ ?_
      refine g_nil ?_
      refine gk_block ?_
      refine gk_then (hK27 _ _ ?_)
      refine gc_region ?_
      refine g_v (.free rfl) rfl rfl (qt_add rfl rfl rfl (by omega)) ?_
      refine g_v (.free rfl) rfl rfl (qt_move rfl rfl) ?_
      refine g_nil ?_
      rw [entJ_l (c := c) (d := d) (k := k) (by omega), entsTo_succ]
      refine gk_then (gk_take 10 ?_)
      refine gk_sub ?hs_31 (hKL24 (k + 1, _, _) ?hi_31 ?hm_31)
      case hs_31 => exact (sub_cons rfl (sub_cons rfl (sub_cons rfl (sub_cons rfl (sub_cons rfl (sub_cons rfl (sub_cons rfl (sub_cons rfl (sub_cons rfl (sub_cons rfl (sub_cons rfl (sub_cons rfl sub_nil))))))))))))
      case hi_31 => omega
      case hm_31 => omega
    · try simp only [decide_eq_true_eq, decide_eq_false_iff_not, Bool.not_eq_true', Bool.not_eq_false', Bool.not_eq_eq_eq_not, Bool.not_true, Bool.not_false, ne_eq, Decidable.not_not, Classical.not_not] at hc1
      refine gc_exit ?_
      refine gk_then_exit ?_
      refine gk_then_exit ?_
      refine gk_block_hit ?_
      refine gk_then (hK22 _ _ ?_)
      refine gc_seq fun K32 hK32 => ?_
      refine gc_seq fun K33 hK33 => ?_
      obtain rfl : k = (sumM c d).s.length := by omega
      refine gc_region ?_
      refine g_v (.free rfl) rfl rfl (qt_field (z := 0) (off := 0) rfl rfl Try.underlying29 rfl (by kernel_rfl) rfl) ?_
      refine g_v (.free rfl) rfl rfl (qt_loadB (n := 0) rfl rfl Try.underlying2 rfl rfl rfl) ?_
      refine g_v (.free rfl) rfl rfl (qt_move rfl rfl) ?_
      refine g_nil ?_
      refine gk_then (hK33 _ _ ?_)
      refine gc_block ?_
      try simp only [List.nil_append, List.cons_append, List.append_assoc, List.set_cons_succ, List.set_cons_zero]
      refine gc_loop ([(0, _), (1, _), (2, _), (3, _), (4, _), (5, _), (6, _), (7, _), (8, _), (19, _), (28, _), (29, _), (30, _), (39, _)] : Env) (fun s : Nat × (Option Addr) × Nat => (fun (x : Nat) (a : Option Addr) (q : Nat) => ([(40, .int .i64 (x : Int))] : Env)) s.1 s.2.1 s.2.2) (fun s : Nat × (Option Addr) × Nat => (fun (x : Nat) (a : Option Addr) (q : Nat) => ([(8, bxI B19 79 [.int .i64 (sumM c d).ob, .slice a (entsTo (entJ c d) ((sumM c d).s.length + d.ob.toNat * x)).length q, .func (.func 57) #[] #[.pointer (some ⟨B11, 0, none⟩)], .func (.func 58) #[] #[.pointer (some ⟨B11, 0, none⟩)]]), (9, ownEI lab_int (.slice a (entsTo (entJ c d) ((sumM c d).s.length + d.ob.toNat * x)).length q) (entsTo (entJ c d) ((sumM c d).s.length + d.ob.toNat * x)))] : List (Nat × Itm))) s.1 s.2.1 s.2.2) (fun s : Nat × (Option Addr) × Nat => (fun (x : Nat) (a : Option Addr) (q : Nat) => x ≤ c.ob.toNat) s.1 s.2.1 s.2.2) (fun s : Nat × (Option Addr) × Nat => (fun (x : Nat) (a : Option Addr) (q : Nat) => c.ob.toNat - x) s.1 s.2.1 s.2.2) (0, _, _) (sub_cons rfl (sub_cons rfl (sub_cons rfl (sub_cons rfl (sub_cons rfl (sub_cons rfl (sub_cons rfl (sub_cons rfl (sub_cons rfl (sub_cons rfl (sub_cons rfl (sub_cons rfl (sub_cons rfl (sub_cons rfl (sub_cons rfl sub_nil))))))))))))))) rfl (Nat.zero_le _) ?_
      rintro ⟨x, a, q⟩ hinv KL34 hKL34
      simp only [updL, List.foldl_cons, List.foldl_nil, List.set_cons_succ, List.set_cons_zero, List.cons_append, List.nil_append] at hinv hKL34 ⊢
      have hx := hinv
      refine gc_seq fun K35 hK35 => ?_
      refine gc_region ?_
      refine g_v (.free rfl) rfl rfl (qt_lss rfl rfl rfl) ?_
      refine g_nil ?_
      refine gk_then (hK35 _ _ ?_)
      refine gc_seq fun K36 hK36 => ?_
      refine gc_cond rfl (fun hc2 => ?_) (fun hc2 => ?_)
      · try simp only [decide_eq_true_eq, decide_eq_false_iff_not, Bool.not_eq_true', Bool.not_eq_false', Bool.not_eq_eq_eq_not, Bool.not_true, Bool.not_false, ne_eq, Decidable.not_not, Classical.not_not] at hc2
        refine gc_skip ?_
        refine gk_then (hK36 _ _ ?_)
        refine gc_seq fun K37 hK37 => ?_
        refine gc_block ?_
        refine gc_seq fun K38 hK38 => ?_
        refine gc_region ?_
        refine g_v (.free rfl) rfl rfl (qt_move rfl rfl) ?_
        refine g_v (.free rfl) rfl rfl (qt_assign rfl rfl) ?_
        refine g_nil ?_
        refine gk_then (hK38 _ _ ?_)
        refine gc_seq fun K39 hK39 => ?_
        refine gc_region ?_
        refine g_v (.free rfl) rfl rfl (qt_field (z := 0) (off := 0) rfl rfl Try.underlying29 rfl (by kernel_rfl) rfl) ?_
        refine g_v (.free rfl) rfl rfl (qt_loadB (n := 0) rfl rfl Try.underlying2 rfl rfl rfl) ?_
        refine g_v (.free rfl) rfl rfl (qt_assign rfl rfl) ?_
        refine g_nil ?_
        refine gk_then (hK39 _ _ ?_)
        refine gc_block ?_
        try simp only [List.nil_append, List.cons_append, List.append_assoc, List.set_cons_succ, List.set_cons_zero]
        refine gc_loop ([(0, _), (1, _), (2, _), (3, _), (4, _), (5, _), (6, _), (7, _), (8, _), (10, _), (19, _), (28, _), (29, _), (30, _), (39, _), (40, _), (41, _)] : Env) (fun s : Nat × Int × (Option Addr) × Nat => (fun (y : Nat) (z : Int) (a : Option Addr) (q : Nat) => ([(11, .int .i64 z)] : Env)) s.1 s.2.1 s.2.2.1 s.2.2.2) (fun s : Nat × Int × (Option Addr) × Nat => (fun (y : Nat) (z : Int) (a : Option Addr) (q : Nat) => ([(8, bxI B19 79 [.int .i64 (sumM c d).ob, .slice a (entsTo (entJ c d) ((sumM c d).s.length + (d.ob.toNat * x + y))).length q, .func (.func 57) #[] #[.pointer (some ⟨B11, 0, none⟩)], .func (.func 58) #[] #[.pointer (some ⟨B11, 0, none⟩)]]), (9, ownEI lab_int (.slice a (entsTo (entJ c d) ((sumM c d).s.length + (d.ob.toNat * x + y))).length q) (entsTo (entJ c d) ((sumM c d).s.length + (d.ob.toNat * x + y))))] : List (Nat × Itm))) s.1 s.2.1 s.2.2.1 s.2.2.2) (fun s : Nat × Int × (Option Addr) × Nat => (fun (y : Nat) (z : Int) (a : Option Addr) (q : Nat) => y ≤ d.ob.toNat ∧ z = c.ob + y) s.1 s.2.1 s.2.2.1 s.2.2.2) (fun s : Nat × Int × (Option Addr) × Nat => (fun (y : Nat) (z : Int) (a : Option Addr) (q : Nat) => d.ob.toNat - y) s.1 s.2.1 s.2.2.1 s.2.2.2) (0, c.ob, _, _) (sub_cons rfl (sub_cons rfl (sub_cons rfl (sub_cons rfl (sub_cons rfl (sub_cons rfl (sub_cons rfl (sub_cons rfl (sub_cons rfl (sub_cons rfl (sub_cons rfl (sub_cons rfl (sub_cons rfl (sub_cons rfl (sub_cons rfl (sub_cons rfl (sub_cons rfl (sub_cons rfl sub_nil)))))))))))))))))) rfl ⟨Nat.zero_le _, by simp⟩ ?_
        rintro ⟨y, z, a, q⟩ hinv KL40 hKL40
        simp only [updL, List.foldl_cons, List.foldl_nil, List.set_cons_succ, List.set_cons_zero, List.cons_append, List.nil_append] at hinv hKL40 ⊢
        obtain ⟨hy, rfl⟩ := hinv
        refine gc_seq fun K41 hK41 => ?_
        refine gc_seq fun K42 hK42 => ?_
        refine gc_region ?_
        refine g_v (.free rfl) rfl rfl (qt_move rfl rfl) ?_
        refine g_v (.free rfl) rfl rfl (qt_field (z := 0) (off := 0) rfl rfl Try.underlying29 rfl (by kernel_rfl) rfl) ?_
        refine g_v (.free rfl) rfl rfl (qt_loadB (n := 7) rfl rfl Try.underlying2 rfl rfl rfl) ?_
        refine g_v (.free rfl) rfl rfl (qt_lss rfl rfl rfl) ?_
        refine g_nil ?_
        refine gk_then (hK42 _ _ ?_)
        refine gc_cond rfl (fun hc3 => ?_) (fun hc3 => ?_)
        · try simp only [decide_eq_true_eq, decide_eq_false_iff_not, Bool.not_eq_true', Bool.not_eq_false', Bool.not_eq_eq_eq_not, Bool.not_true, Bool.not_false, ne_eq, Decidable.not_not, Classical.not_not] at hc3
          refine gc_skip ?_
          refine gk_then (hK41 _ _ ?_)
          refine gc_seq fun K43 hK43 => ?_
          refine gc_block ?_
          have hg := grid_small3 (n := c.ob.toNat) (m := d.ob.toNat) (a := x) (b := y) (by omega) (by omega) (by omega) (by omega)
          have hl2 := entsJ_len c d ((sumM c d).s.length + (d.ob.toNat * x + y))
          refine gc_region ?_
          refine g_v (.free rfl) rfl rfl (qt_move rfl rfl) ?_
          refine g_v (.free rfl) rfl rfl (qt_move rfl rfl) ?_
          refine g_v (.free rfl) rfl rfl (qt_build rfl rfl bt_arrowEnds) ?_
          refine g_op (.free rfl) fun K45 hK45 => ?_
          refine go_two (n := 8) (m := 9) (m' := 8) (σ := Option Addr × Nat) rfl rfl rfl Try.func61 rfl (by decide) rfl rfl rfl (fun z => rfl) (fun R w M => add_int _ w R _ _ _ _ _ _ _ _ _ _ (by omega) M) ?_
          intro ⟨sa44, sq44⟩
          refine hK45 _ _ ?_
          refine g_nil ?_
          refine gk_block ?_
          refine gk_then (hK43 _ _ ?_)
          refine gc_region ?_
          refine g_v (.free rfl) rfl rfl (qt_move rfl rfl) ?_
          refine g_v (.free rfl) rfl rfl (qt_add rfl rfl rfl (by omega)) ?_
          refine g_v (.free rfl) rfl rfl (qt_assign rfl rfl) ?_
          refine g_nil ?_
          rw [entJ_r (c := c) (d := d) (x := x) (y := y) (by omega), entsTo_succ]
          refine gk_then (gk_take 10 ?_)
          refine gk_sub ?hs_46 (hKL40 (y + 1, c.ob + (y : Int) + 1, _, _) ?hi_46 ?hm_46)
          case hs_46 => exact (sub_cons rfl (sub_cons rfl (sub_cons rfl (sub_cons rfl (sub_cons rfl (sub_cons rfl (sub_cons rfl (sub_cons rfl (sub_cons rfl (sub_cons rfl (sub_cons rfl (sub_cons rfl (sub_cons rfl (sub_cons rfl (sub_cons rfl (sub_cons rfl (sub_cons rfl (sub_cons rfl sub_nil))))))))))))))))))
          case hi_46 => (show (y + 1 ≤ d.ob.toNat ∧ c.ob + (y : Int) + 1 = c.ob + ((y + 1 : Nat) : Int)); omega)
          case hm_46 => omega
        · try simp only [decide_eq_true_eq, decide_eq_false_iff_not, Bool.not_eq_true', Bool.not_eq_false', Bool.not_eq_eq_eq_not, Bool.not_true, Bool.not_false, ne_eq, Decidable.not_not, Classical.not_not] at hc3
          refine gc_exit ?_
          refine gk_then_exit ?_
          refine gk_then_exit ?_
          refine gk_block_hit ?_
          refine gk_block ?_
          refine gk_then (hK37 _ _ ?_)
          refine gc_region ?_
          refine g_v (.free rfl) rfl rfl (qt_add rfl rfl rfl (by omega)) ?_
          refine g_v (.free rfl) rfl rfl (qt_move rfl rfl) ?_
          refine g_nil ?_
          obtain rfl : y = d.ob.toNat := by omega
          rw [show (sumM c d).s.length + (d.ob.toNat * x + d.ob.toNat) = (sumM c d).s.length + d.ob.toNat * (x + 1) from rfl]
          refine gk_then (gk_take 10 ?_)
          refine gk_sub ?hs_47 (hKL34 (x + 1, _, _) ?hi_47 ?hm_47)
          case hs_47 => exact (sub_cons rfl (sub_cons rfl (sub_cons rfl (sub_cons rfl (sub_cons rfl (sub_cons rfl (sub_cons rfl (sub_cons rfl (sub_cons rfl (sub_cons rfl (sub_cons rfl (sub_cons rfl (sub_cons rfl (sub_cons rfl (sub_cons rfl sub_nil)))))))))))))))
          case hi_47 => omega
          case hm_47 => omega
      · try simp only [decide_eq_true_eq, decide_eq_false_iff_not, Bool.not_eq_true', Bool.not_eq_false', Bool.not_eq_eq_eq_not, Bool.not_true, Bool.not_false, ne_eq, Decidable.not_not, Classical.not_not] at hc2
        refine gc_exit ?_
        refine gk_then_exit ?_
        refine gk_then_exit ?_
        refine gk_block_hit ?_
        refine gk_then (hK32 _ _ ?_)
        refine gc_seq fun K48 hK48 => ?_
        obtain rfl : x = c.ob.toNat := by omega
        simp only [show (sumM c d).s.length + d.ob.toNat * c.ob.toNat = jN c d from rfl]
        refine gc_region ?_
        refine g_v (.free rfl) rfl rfl (qt_loadS (n := 8) rfl rfl Try.underlying79 rfl (by kernel_rfl) rfl) ?_
        refine g_op (.free rfl) fun K50 hK50 => ?_
        refine go_callCI rfl rfl rfl Try.func63 rfl (by decide) rfl (fun w M => build_int w (sumM c d).ob _ (entsTo (entJ c d) (jN c d)) (mem_ownE (n := 9) M rfl) (entsTo_nodup (entJ_inj hS gS)) (by omega) _ _ (fun x => at0 (sumM c d).e (x : Int)) (⟨_, Try.func57, rfl, by decide⟩) (fun w' hb x hx => jnC1_any w' (x : Int) _ _ (sumM c d) (rdC_below hb (rdC_mk ((mem_own1 (n := 3) M rfl).rd) ((mem_own1 (n := 4) M rfl).rd) ((mem_own1 (n := 5) M rfl).rd) (mem_rdU (n := 6) M rfl))) (bxV_below hb (bxV_of (n := 7) M rfl)) (by omega) (by omega)) _ _ (thJ (sumM c d)) (⟨_, Try.func58, rfl, by decide⟩) (fun w' hb f hf g hg _ => by obtain ⟨i, hi, rfl⟩ := entsTo_mem.1 hf; obtain ⟨j, hj, rfl⟩ := entsTo_mem.1 hg; exact jnC2_any w' _ _ _ _ (sumM c d) (rdC_below hb (rdC_mk ((mem_own1 (n := 3) M rfl).rd) ((mem_own1 (n := 4) M rfl).rd) ((mem_own1 (n := 5) M rfl).rd) (mem_rdU (n := 6) M rfl))) (bxV_below hb (bxV_of (n := 7) M rfl)) (entJ_ok hS gS hi hj))) ?_
        intro ca49 cb49 cc49 cd49 ce49 cf49 cg49 ch49 cu49
        refine hK50 _ _ ?_
        refine g_v (.free rfl) rfl rfl (qt_extract rfl rfl rfl) ?_
        refine g_v (.free rfl) rfl rfl (qt_extract rfl rfl rfl) ?_
        refine g_op (.free rfl) fun K51 hK51 => ?_
        refine go_storeS (n := 2) rfl rfl rfl rfl (by kernel_rfl) rfl rfl rfl ?_
        refine hK51 _ _ ?_
        refine g_v (.free rfl) rfl rfl (qt_assign rfl rfl) ?_
        refine g_nil ?_
        refine gk_then (hK48 _ _ ?_)
        refine gc_ret ?_
        refine ret_SI (n := 2) rfl rfl rfl Try.underlying29 rfl (by kernel_rfl) rfl (fun w M => ?_)
        have hm := jn_made hT.1 hT.2
        exact retCI_eq hm.1 hm.2 ⟨_, rfl, ownC_star (mem_pick (n := 13) (mem_pick (n := 13) (mem_pick (n := 13) (mem_pick (n := 13) (M) rfl) rfl) rfl) rfl).2, M.1⟩

end Go.Proofs.Ytpppoipaabofgab
