
/- Lists and rows that a loop builds entry by entry, by a rule; no memory. -/
import Derived.Test.YtgkfampgofjkfaaHomL
import Derived.Test.YtgkfampgofjkfaaRul7
set_option linter.unusedSimpArgs false
set_option linter.unusedVariables false
set_option linter.unusedSectionVars false
namespace Go.Proofs.Ytgkfampgofjkfaa
open Go.RowKit
def tabTo (φ : Nat → Int) (k : Nat) : List Int := (List.range k).map φ
theorem tabTo_succ (φ : Nat → Int) (k : Nat) : tabTo φ k ++ [φ k] = tabTo φ (k + 1) := by simp [tabTo, List.range_succ]
theorem tabTo_len (φ : Nat → Int) (k : Nat) : (tabTo φ k).length = k := by simp [tabTo]
theorem tabTo_zero (φ : Nat → Int) : tabTo φ 0 = [] := rfl
theorem tabTo_congr {φ ψ : Nat → Int} {k : Nat} (h : ∀ j, j < k → φ j = ψ j) : tabTo φ k = tabTo ψ k := List.map_congr_left fun j hj => h j (List.mem_range.1 hj)
theorem tabTo_at (φ : Nat → Int) {k j : Nat} (h : j < k) : at0 (tabTo φ k) j = φ j := by
  rw [at0_nat]; simp [tabTo, List.getD_eq_getElem?_getD, List.getElem?_eq_getElem, h]
theorem tabTo_ext {xs : List Int} {φ : Nat → Int} {n : Nat} (hl : xs.length = n) (h : ∀ j, j < n → at0 xs (j : Int) = φ j) : xs = tabTo φ n := by
  subst hl
  refine List.ext_getElem (by simp [tabTo]) fun j h1 h2 => ?_
  have := h j h1
  rw [at0_nat, List.getD_eq_getElem?_getD, List.getElem?_eq_getElem h1] at this
  simpa [tabTo] using this
theorem tabTo_self (xs : List Int) : tabTo (fun j => at0 xs j) xs.length = xs := (tabTo_ext rfl fun _ _ => rfl).symm
theorem tabTo_self' {xs : List Int} {n : Nat} (h : xs.length = n) : tabTo (fun j => at0 xs j) n = xs := by subst h; exact tabTo_self xs
theorem mem_tabTo {φ : Nat → Int} {k : Nat} {x : Int} : x ∈ tabTo φ k ↔ ∃ j, j < k ∧ φ j = x := by simp [tabTo]
def rowsTo (ψ : Nat → List Int) (k : Nat) : List (List Int) := (List.range k).map ψ
theorem rowsTo_succ (ψ : Nat → List Int) (k : Nat) : rowsTo ψ k ++ [ψ k] = rowsTo ψ (k + 1) := by simp [rowsTo, List.range_succ]
theorem rowsTo_len (ψ : Nat → List Int) (k : Nat) : (rowsTo ψ k).length = k := by simp [rowsTo]
theorem rowsTo_zero (ψ : Nat → List Int) : rowsTo ψ 0 = [] := rfl
theorem rowsTo_congr {φ ψ : Nat → List Int} {k : Nat} (h : ∀ j, j < k → φ j = ψ j) : rowsTo φ k = rowsTo ψ k := List.map_congr_left fun j hj => h j (List.mem_range.1 hj)
theorem rowsTo_at (ψ : Nat → List Int) {k j : Nat} (h : j < k) : row2 (rowsTo ψ k) j = ψ j := by
  simp [row2, rowsTo, List.getD_eq_getElem?_getD, List.getElem?_eq_getElem, h]
theorem rowsTo_ext {xs : List (List Int)} {ψ : Nat → List Int} {n : Nat} (hl : xs.length = n) (h : ∀ j, j < n → row2 xs (j : Int) = ψ j) : xs = rowsTo ψ n := by
  subst hl
  refine List.ext_getElem (by simp [rowsTo]) fun j h1 h2 => ?_
  have := h j h1
  simp only [row2, Int.toNat_natCast, List.getD_eq_getElem?_getD, List.getElem?_eq_getElem h1, Option.getD_some] at this
  simpa [rowsTo] using this
/-- A list of n places, the first k of them filled by a rule. -/
def fillTo (φ : Nat → Int) (n k : Nat) : List Int := (List.range n).map fun j => if j < k then φ j else 0
theorem fillTo_len (φ : Nat → Int) (n k : Nat) : (fillTo φ n k).length = n := by simp [fillTo]
theorem fillTo_zero (φ : Nat → Int) (n : Nat) : List.replicate n 0 = fillTo φ n 0 := by
  refine List.ext_getElem (by simp [fillTo]) fun j h1 h2 => by simp [fillTo]
theorem fillTo_end (φ : Nat → Int) (n : Nat) : fillTo φ n n = tabTo φ n := List.map_congr_left fun j hj => if_pos (List.mem_range.1 hj)
theorem fillTo_set (φ : Nat → Int) {n k : Nat} (h : k < n) : (fillTo φ n k).set ((k : Int)).toNat (φ k) = fillTo φ n (k + 1) := by
  refine List.ext_getElem (by simp [fillTo]) fun j h1 h2 => ?_
  simp only [fillTo, List.length_set, List.length_map, List.length_range] at h1
  simp only [fillTo, List.getElem_set, List.getElem_map, List.getElem_range, Int.toNat_natCast]
  by_cases e : k = j
  · subst e; rw [if_pos rfl, if_pos (by omega)]
  · rw [if_neg e]
    by_cases hj : j < k
    · rw [if_pos hj, if_pos (by omega)]
    · rw [if_neg hj, if_neg (by omega)]
/-- What a rule gives of the first k numbers that a test lets by. -/
noncomputable def filTo (p : Nat → Prop) (φ : Nat → Int) (k : Nat) : List Int := ((List.range k).filter fun j => bP (p j)).map φ
theorem filTo_t {p : Nat → Prop} {φ : Nat → Int} {k : Nat} (h : p k) : filTo p φ k ++ [φ k] = filTo p φ (k + 1) := by simp [filTo, List.range_succ, bP_t h]
theorem filTo_f {p : Nat → Prop} {φ : Nat → Int} {k : Nat} (h : ¬ p k) : filTo p φ k = filTo p φ (k + 1) := by simp [filTo, List.range_succ, bP_f h]
theorem filTo_len (p : Nat → Prop) (φ : Nat → Int) (k : Nat) : (filTo p φ k).length ≤ k := by
  simp only [filTo, List.length_map]; exact Nat.le_trans (List.length_filter_le _ _) (by simp)
theorem filTo_lenEq (p : Nat → Prop) (φ ψ : Nat → Int) (k : Nat) : (filTo p φ k).length = (filTo p ψ k).length := by simp [filTo]
theorem filTo_map (p : Nat → Prop) (φ : Nat → Int) (g : Int → Int) (k : Nat) : (filTo p φ k).map g = filTo p (fun j => g (φ j)) k := by simp [filTo]
theorem filTo_mem {p : Nat → Prop} {φ : Nat → Int} {k : Nat} {x : Int} : x ∈ filTo p φ k ↔ ∃ j, j < k ∧ p j ∧ φ j = x := by
  simp only [filTo, List.mem_map, List.mem_filter, List.mem_range]
  exact ⟨fun ⟨j, ⟨h1, h2⟩, h3⟩ => ⟨j, h1, bP_iff.1 h2, h3⟩, fun ⟨j, h1, h2, h3⟩ => ⟨j, ⟨h1, bP_t h2⟩, h3⟩⟩
theorem filTo_congr {p q : Nat → Prop} {φ : Nat → Int} {k : Nat} (h : ∀ j, j < k → (p j ↔ q j)) : filTo p φ k = filTo q φ k := by
  unfold filTo; congr 1; exact List.filter_congr fun j hj => bP_congr (h j (List.mem_range.1 hj))
theorem tab_map (g : Int → Int) (xs : List Int) : tabTo (fun i => g (at0 xs i)) xs.length = xs.map g := by
  refine (tabTo_ext (by simp) fun j hj => ?_).symm
  rw [at0_nat, at0_nat]; simp [List.getD_eq_getElem?_getD, List.getElem?_eq_getElem, hj]
theorem at0_mem {xs : List Int} {j : Nat} (h : j < xs.length) : at0 xs j ∈ xs := by rw [at0_nat]; exact mem_getD h
end Go.Proofs.Ytgkfampgofjkfaa
