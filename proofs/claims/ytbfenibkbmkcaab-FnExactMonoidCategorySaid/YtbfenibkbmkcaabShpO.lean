
/- A shape told pointwise; the opposite of a shape is one. -/
import Derived.Test.YtbfenibkbmkcaabOppS
set_option linter.unusedSimpArgs false
set_option linter.unusedVariables false
set_option linter.unusedSectionVars false
namespace Go.Proofs.Ytbfenibkbmkcaab
open Go.RowKit
theorem allP_ext {n : Int} {l : List Int} (h : ∀ k : Nat, k < l.length → 0 ≤ at0 l (k : Int) ∧ at0 l (k : Int) < n) : AllP n l := fun x hx => by
  obtain ⟨k, hk, rfl⟩ := List.getElem_of_mem hx
  have := h k hk
  rw [at0_nat, List.getD_eq_getElem?_getD, List.getElem?_eq_getElem hk] at this
  exact this
/-- A shape, told by what its lists have at each place. -/
theorem shape_by {c : Cat} {N m : Nat} {S T E : Nat → Int} {M : Nat → Nat → Int} (hob : c.ob = (N : Int)) (hn : N ≤ 8) (hm : m ≤ 40) (ls : c.s.length = m) (lt : c.t.length = m) (le : c.e.length = N) (lm : c.m.length = m)
    (lr : ∀ f : Nat, f < m → (row2 c.m (f : Int)).length = m) (hS : ∀ f : Nat, f < m → at0 c.s (f : Int) = S f) (hT : ∀ f : Nat, f < m → at0 c.t (f : Int) = T f) (hE : ∀ x : Nat, x < N → at0 c.e (x : Int) = E x) (hM : ∀ f g : Nat, f < m → g < m → at0 (row2 c.m (f : Int)) (g : Int) = M f g)
    (rS : ∀ f : Nat, f < m → 0 ≤ S f ∧ S f < N) (rT : ∀ f : Nat, f < m → 0 ≤ T f ∧ T f < N) (hid : ∀ x : Nat, x < N → 0 ≤ E x ∧ E x < m ∧ S (E x).toNat = x ∧ T (E x).toNat = x)
    (hco : ∀ f g : Nat, f < m → g < m → (T f = S g → 0 ≤ M f g ∧ M f g < m ∧ S (M f g).toNat = S f ∧ T (M f g).toNat = T g) ∧ (T f ≠ S g → M f g = -1)) : ShapeP c where
  ob0 := by omega
  ob8 := by omega
  n40 := by omega
  el := by omega
  tl := by omega
  ml := by omega
  rl j hj := by
    have := lr j (by omega)
    rw [row2_of, Int.toNat_natCast] at this
    omega
  sa := allP_ext fun k hk => by rw [hS k (by omega), hob]; exact rS k (by omega)
  ta := allP_ext fun k hk => by rw [hT k (by omega), hob]; exact rT k (by omega)
  id x hx := by
    have h := hid x (by omega)
    have hk : ((E x).toNat : Int) = E x := Int.toNat_of_nonneg h.1
    unfold okIdent Cat.arr
    rw [hE x (by omega), ls]
    refine ⟨⟨h.1, h.2.1⟩, ?_, ?_⟩
    · rw [← hk, hS _ (by omega)]; exact h.2.2.1
    · rw [← hk, hT _ (by omega)]; exact h.2.2.2
  co f g hf hg := by
    have h := hco f g (by omega) (by omega)
    unfold okComp Cat.arr Cat.th
    rw [hM f g (by omega) (by omega), hS f (by omega), hS g (by omega), hT f (by omega), hT g (by omega), ls]
    refine ⟨fun he => ?_, h.2⟩
    have h := h.1 he
    have hk : ((M f g).toNat : Int) = M f g := Int.toNat_of_nonneg h.1
    refine ⟨⟨h.1, h.2.1⟩, ?_, ?_⟩
    · rw [← hk, hS _ (by omega)]; exact h.2.2.1
    · rw [← hk, hT _ (by omega)]; exact h.2.2.2
/-- What a shape has, as the conditions of 'shape_by' want it. -/
theorem shape_id {c : Cat} (hS : ShapeP c) {x : Nat} (hx : x < c.e.length) : ∃ k : Nat, at0 c.e (x : Int) = (k : Int) ∧ k < c.s.length ∧ at0 c.s (k : Int) = x ∧ at0 c.t (k : Int) = x := by
  obtain ⟨⟨h0, h1⟩, h2, h3⟩ := hS.id x hx
  obtain ⟨k, hk⟩ := Int.eq_ofNat_of_zero_le h0
  rw [hk] at h1 h2 h3
  exact ⟨k, hk, by omega, h2, h3⟩
theorem shape_co {c : Cat} (hS : ShapeP c) {f g : Nat} (hf : f < c.s.length) (hg : g < c.s.length) (h : at0 c.t (f : Int) = at0 c.s (g : Int)) : ∃ k : Nat, at0 (row2 c.m (f : Int)) (g : Int) = (k : Int) ∧ k < c.s.length ∧ at0 c.s (k : Int) = at0 c.s (f : Int) ∧ at0 c.t (k : Int) = at0 c.t (g : Int) := by
  obtain ⟨⟨h0, h1⟩, h2, h3⟩ := (hS.co f g hf hg).1 h
  obtain ⟨k, hk⟩ := Int.eq_ofNat_of_zero_le h0
  rw [hk] at h1 h2 h3
  exact ⟨k, hk, by omega, h2, h3⟩
theorem opp_shape {c : Cat} (hS : ShapeP c) : ShapeP (oppM c) := by
  have ob0 := hS.ob0; have ob8 := hS.ob8; have n40 := hS.n40; have el := hS.el; have tl := hS.tl
  refine shape_by (N := c.ob.toNat) (m := c.s.length) (S := fun f => at0 c.t (f : Int)) (T := fun f => at0 c.s (f : Int)) (E := fun x => at0 c.e (x : Int)) (M := fun f g => at0 (row2 c.m (g : Int)) (f : Int)) (by show c.ob = _; omega) (by omega) n40 tl rfl (by show c.e.length = _; omega) (rowsTo_len _ _)
    (fun f hf => by show (row2 (rowsTo _ _) _).length = _; rw [rowsTo_at _ hf, tabTo_len]) (fun f hf => rfl) (fun f hf => rfl) (fun x hx => rfl) (fun f g hf hg => by show at0 (row2 (rowsTo _ _) _) _ = _; rw [rowsTo_at _ hf, tabTo_at _ hg]; rfl)
    (fun f hf => by have := allP_at hS.ta (k := f) (by omega); omega) (fun f hf => by have := allP_at hS.sa (k := f) (by omega); omega) (fun x hx => ?_) (fun f g hf hg => ?_)
  · obtain ⟨k, hk, h1, h2, h3⟩ := shape_id hS (x := x) (by omega)
    rw [hk, Int.toNat_natCast]
    exact ⟨by omega, by omega, h3, h2⟩
  · refine ⟨fun he => ?_, fun he => ?_⟩
    · obtain ⟨k, hk, h1, h2, h3⟩ := shape_co hS hg hf he.symm
      rw [hk, Int.toNat_natCast]
      exact ⟨by omega, by omega, h3, h2⟩
    · exact (hS.co g f hg hf).2 fun e => he e.symm
end Go.Proofs.Ytbfenibkbmkcaab
