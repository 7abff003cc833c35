
/- The sum of two categories: what it is, and the model's. -/
import Derived.Test.YtbfenibkbmkcaabShort
import Derived.Test.YtbfenibkbmkcaabHole
import Derived.Test.YtbfenibkbmkcaabOwnL
set_option linter.unusedSimpArgs false
set_option linter.unusedVariables false
set_option linter.unusedSectionVars false
namespace Go.Proofs.Ytbfenibkbmkcaab
open Go.RowKit


/-- A list that grows behind another one, by a rule. -/
def grow (xs : List Int) (φ : Nat → Int) : Nat → List Int
 | 0 => xs
 | k + 1 => grow xs φ k ++ [φ k]
theorem grow_eq (xs : List Int) (φ : Nat → Int) : ∀ k, grow xs φ k = xs ++ tabTo φ k
 | 0 => by simp [grow, tabTo]
 | k + 1 => by rw [grow, grow_eq xs φ k, ← tabTo_succ, List.append_assoc]
theorem grow_succ (xs : List Int) (φ : Nat → Int) (k : Nat) : grow xs φ k ++ [φ k] = grow xs φ (k + 1) := rfl
theorem grow_len (xs : List Int) (φ : Nat → Int) (k : Nat) : (grow xs φ k).length = xs.length + k := by rw [grow_eq, List.length_append, tabTo_len]
theorem app_l {xs ys : List Int} {j : Nat} (h : j < xs.length) : at0 (xs ++ ys) (j : Int) = at0 xs (j : Int) := by
 rw [at0_nat, at0_nat, List.getD_eq_getElem?_getD, List.getD_eq_getElem?_getD, List.getElem?_append_left h]
theorem app_r {xs ys : List Int} {j : Nat} (h : xs.length ≤ j) : at0 (xs ++ ys) (j : Int) = at0 ys ((j - xs.length : Nat) : Int) := by
 rw [at0_nat, at0_nat, List.getD_eq_getElem?_getD, List.getD_eq_getElem?_getD, List.getElem?_append_right h]
theorem grow_l {xs : List Int} {φ : Nat → Int} {k j : Nat} (h : j < xs.length) : at0 (grow xs φ k) (j : Int) = at0 xs (j : Int) := by rw [grow_eq, app_l h]
theorem grow_r {xs : List Int} {φ : Nat → Int} {k j : Nat} (h : xs.length ≤ j) (h2 : j < xs.length + k) : at0 (grow xs φ k) (j : Int) = φ (j - xs.length) := by rw [grow_eq, app_r h, tabTo_at _ (by omega)]
def growR (xs : List (List Int)) (ψ : Nat → List Int) : Nat → List (List Int)
 | 0 => xs
 | k + 1 => growR xs ψ k ++ [ψ k]
theorem growR_succ (xs : List (List Int)) (ψ : Nat → List Int) (k : Nat) : growR xs ψ k ++ [ψ k] = growR xs ψ (k + 1) := rfl
theorem growR_len (xs : List (List Int)) (ψ : Nat → List Int) (k : Nat) : (growR xs ψ k).length = xs.length + k := by
 induction k with
 | zero => rfl
 | succ k ih => rw [← growR_succ, List.length_append, ih]; rfl
theorem growR_l {xs : List (List Int)} {ψ : Nat → List Int} {j : Nat} (h : j < xs.length) (k : Nat) : row2 (growR xs ψ k) (j : Int) = row2 xs (j : Int) := by
 induction k with
 | zero => rfl
 | succ k ih =>
  rw [← growR_succ, ← ih]
  have := growR_len xs ψ k
  simp only [row2, Int.toNat_natCast, List.getD_eq_getElem?_getD]
  rw [List.getElem?_append_left (by omega)]
theorem growR_r {xs : List (List Int)} {ψ : Nat → List Int} {j : Nat} (h : xs.length ≤ j) (k : Nat) (h2 : j < xs.length + k) : row2 (growR xs ψ k) (j : Int) = ψ (j - xs.length) := by
 induction k with
 | zero => omega
 | succ k ih =>
  have hl := growR_len xs ψ k
  by_cases hj : j < xs.length + k
  ·rw [← ih hj, ← growR_succ]
   simp only [row2, Int.toNat_natCast, List.getD_eq_getElem?_getD]
   rw [List.getElem?_append_left (by omega)]
  ·obtain rfl : j = xs.length + k := by omega
   rw [← growR_succ]
   simp only [row2, Int.toNat_natCast, List.getD_eq_getElem?_getD]
   rw [List.getElem?_append_right (by omega), hl]
   simp
/-! ### Rows that grow in place -/
def stepR (f : Nat) (R : List (List Int)) : List (List Int) := R.set f (row2 R (f : Int) ++ [-1])
def iterR (f : Nat) : Nat → List (List Int) → List (List Int)
 | 0, R => R
 | g + 1, R => stepR f (iterR f g R)
def rowsF (R : List (List Int)) (m : Nat) : Nat → List (List Int)
 | 0 => R
 | f + 1 => iterR f m (rowsF R m f)
theorem iterR_step (f g : Nat) (R : List (List Int)) : (iterR f g R).set f (row2 (iterR f g R) (f : Int) ++ [-1]) = iterR f (g + 1) R := rfl
theorem iterR_len (f g : Nat) (R : List (List Int)) : (iterR f g R).length = R.length := by
 induction g with
 | zero => rfl
 | succ g ih => rw [← iterR_step, List.length_set, ih]
theorem rowsF_len (R : List (List Int)) (m f : Nat) : (rowsF R m f).length = R.length := by
 induction f with
 | zero => rfl
 | succ f ih => rw [rowsF, iterR_len, ih]
theorem set_row {R : List (List Int)} {f i : Nat} (x : List Int) (hf : f < R.length) : row2 (R.set f x) (i : Int) = if i = f then x else row2 R (i : Int) := by
 simp only [row2, Int.toNat_natCast]
 exact getD_set2 R f x [] i hf
theorem iterR_row {f g : Nat} {R : List (List Int)} (hf : f < R.length) (i : Nat) : row2 (iterR f g R) (i : Int) = if i = f then row2 R (f : Int) ++ List.replicate g (-1) else row2 R (i : Int) := by
 induction g generalizing i with
 | zero =>
  by_cases h : i = f
  ·subst h; simp [iterR]
  ·simp only [iterR, if_neg h]
 | succ g ih =>
  rw [← iterR_step, set_row _ (by rw [iterR_len]; exact hf), ih f, ih i, if_pos rfl]
  by_cases h : i = f
  ·rw [if_pos h, if_pos h, List.append_assoc, List.replicate_succ']
  ·rw [if_neg h, if_neg h, if_neg h]
theorem rowsF_row {R : List (List Int)} {m : Nat} : ∀ f : Nat, f ≤ R.length → ∀ i : Nat, row2 (rowsF R m f) (i : Int) = if i < f then row2 R (i : Int) ++ List.replicate m (-1) else row2 R (i : Int)
 | 0, _, i => by simp [rowsF]
 | f + 1, hf, i => by
  rw [rowsF, iterR_row (by rw [rowsF_len]; omega), rowsF_row f (by omega), rowsF_row f (by omega)]
  by_cases h : i = f
  ·subst h; rw [if_pos rfl, if_neg (by omega), if_pos (by omega)]
  ·rw [if_neg h]
   by_cases h2 : i < f
   ·rw [if_pos h2, if_pos (by omega)]
   ·rw [if_neg h2, if_neg (by omega)]
/-! ### The sum -/
def smC (c d : Cat) (j l : Nat) : Int := if 0 ≤ at0 (row2 d.m (j : Int)) (l : Int) then at0 (row2 d.m (j : Int)) (l : Int) + c.s.length else at0 (row2 d.m (j : Int)) (l : Int)
theorem smC_t {c d : Cat} {j l : Nat} (h : 0 ≤ at0 (row2 d.m (j : Int)) (l : Int)) : at0 (row2 d.m (j : Int)) (l : Int) + c.s.length = smC c d j l := (if_pos h).symm
theorem smC_f {c d : Cat} {j l : Nat} (h : ¬ 0 ≤ at0 (row2 d.m (j : Int)) (l : Int)) : at0 (row2 d.m (j : Int)) (l : Int) = smC c d j l := (if_neg h).symm
def smX (c d : Cat) (j l : Nat) : Int := if l < c.s.length then -1 else smC c d j (l - c.s.length)
theorem smX_t {c d : Cat} {j l : Nat} (h : l < c.s.length) : (-1 : Int) = smX c d j l := (if_pos h).symm
theorem smX_f {c d : Cat} {j l : Nat} : smC c d j l = smX c d j (c.s.length + l) := by unfold smX; rw [if_neg (by omega), show c.s.length + l - c.s.length = l from by omega]
def smR (c d : Cat) (j : Nat) : List Int := tabTo (smX c d j) (c.s.length + d.s.length)
theorem smR_def (c d : Cat) (j : Nat) : tabTo (smX c d j) (c.s.length + d.s.length) = smR c d j := rfl
def smS (c d : Cat) (j : Nat) : Int := at0 d.s (j : Int) + c.ob
def smT (c d : Cat) (j : Nat) : Int := at0 d.t (j : Int) + c.ob
def smE (c d : Cat) (y : Nat) : Int := at0 d.e (y : Int) + c.s.length
theorem smS_def (c d : Cat) (j : Nat) : at0 d.s (j : Int) + c.ob = smS c d j := rfl
theorem smT_def (c d : Cat) (j : Nat) : at0 d.t (j : Int) + c.ob = smT c d j := rfl
theorem smE_def (c d : Cat) (j : Nat) : at0 d.e (j : Int) + c.s.length = smE c d j := rfl
def sumM (c d : Cat) : Cat := ⟨c.ob + d.ob, grow c.s (smS c d) d.s.length, grow c.t (smT c d) d.s.length, grow c.e (smE c d) d.ob.toNat, growR (rowsF c.m d.s.length c.s.length) (smR c d) d.s.length⟩
noncomputable def fSumCategory (c d : Cat) : Cat × Int := if fIsCategory c = true ∧ fIsCategory d = true then (if bP (FitP (sumM c d)) = true then (sumM c d, 0) else (cat0, 3)) else (cat0, 1)
theorem sum_n {c d : Cat} (h : ¬ (fIsCategory c = true ∧ fIsCategory d = true)) : fSumCategory c d = (cat0, 1) := if_neg h
theorem sum_t {c d : Cat} (h : fIsCategory c = true) (h' : fIsCategory d = true) (hf : FitP (sumM c d)) : fSumCategory c d = (sumM c d, 0) := by unfold fSumCategory; rw [if_pos ⟨h, h'⟩, if_pos (bP_t hf)]
theorem sum_l {c d : Cat} (h : fIsCategory c = true) (h' : fIsCategory d = true) (hf : ¬ FitP (sumM c d)) : fSumCategory c d = (cat0, 3) := by unfold fSumCategory; rw [if_pos ⟨h, h'⟩, if_neg (by rw [bP_f hf]; decide)]
theorem at_lt2 {n : Int} {l : List Int} (h : AllP n l) {k : Nat} (hk : k < l.length) : 0 ≤ at0 l (k : Int) ∧ at0 l (k : Int) < n := allP_at h hk
theorem th_lt2 {c : Cat} (hS : ShapeP c) {f g : Nat} (hf : f < c.s.length) (hg : g < c.s.length) : -1 ≤ at0 (row2 c.m (f : Int)) (g : Int) ∧ at0 (row2 c.m (f : Int)) (g : Int) < (c.s.length : Int) := by
 by_cases he : at0 c.t (f : Int) = at0 c.s (g : Int)
 ·have h := (th_ends hS (f := (f : Int)) (g := (g : Int)) (by omega) (by omega) (by omega) (by omega) he).1
  have h1 : 0 ≤ at0 (row2 c.m (f : Int)) (g : Int) := h.1
  exact ⟨by omega, h.2⟩
 ·have h2 : at0 (row2 c.m (f : Int)) (g : Int) = -1 := (th_none hS (f := (f : Int)) (g := (g : Int)) (by omega) (by omega) (by omega) (by omega)).2 he
  omega

end Go.Proofs.Ytbfenibkbmkcaab
