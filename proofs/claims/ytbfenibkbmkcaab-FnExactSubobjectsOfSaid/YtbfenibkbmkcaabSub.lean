
/- Places in lists; lists that rise; the arrows between some objects: the model's and the program's. -/
import Derived.Test.YtbfenibkbmkcaabHomL
import Derived.Test.YtbfenibkbmkcaabRul7
set_option linter.unusedSimpArgs false
set_option linter.unusedVariables false
set_option linter.unusedSectionVars false
namespace Go.Proofs.Ytbfenibkbmkcaab
open Go.RowKit


theorem idxI_t {xs : List Int} {x : Int} {k : Nat} (hk : k < xs.length) (h : at0 xs k = x) (hno : ∀ j : Nat, j < k → ¬ at0 xs j = x) : idxI xs x = k := by
  rw [at0_nat] at h
  rw [idxI, if_pos (mem_of_getD hk h), idx_hit hk h fun j hj e => hno j hj (by rw [at0_nat]; exact e)]
theorem idxI_f {xs : List Int} {x : Int} (hno : ∀ j : Nat, j < xs.length → ¬ at0 xs j = x) : x ∉ xs := not_mem_of fun j hj e => hno j hj (by rw [at0_nat]; exact e)
theorem idxI_neg {xs : List Int} {x : Int} (h : x ∉ xs) : idxI xs x = -1 := by rw [idxI, if_neg h]
theorem idxI_0 {xs : List Int} {x : Int} : 0 ≤ idxI xs x ↔ x ∈ xs := by
  unfold idxI
  split
  · next h => exact ⟨fun _ => h, fun _ => by omega⟩
  · next h => exact ⟨fun h2 => by omega, fun h2 => absurd h2 h⟩
def risesTo (xs : List Int) (k : Nat) : Prop := ∀ j : Nat, 1 ≤ j → j < k → at0 xs ((j : Int) - 1) < at0 xs (j : Int)
theorem rises_next {xs : List Int} {k : Nat} (h : risesTo xs k) (hn : at0 xs ((k : Int) - 1) < at0 xs (k : Int)) : risesTo xs (k + 1) := fun j h1 h2 => by
  rcases Nat.lt_or_ge j k with h3 | h3
  · exact h j h1 h3
  · obtain rfl : j = k := by omega
    exact hn
theorem rises_mono {xs : List Int} {k : Nat} (h : risesTo xs k) (hk : xs.length ≤ k) : risesTo xs xs.length := fun j h1 h2 => h j h1 (by omega)
def betw (c : Cat) (xs : List Int) (f : Nat) : Prop := at0 c.s f ∈ xs ∧ at0 c.t f ∈ xs
noncomputable def fullL (c : Cat) (xs : List Int) (k : Nat) : List Int := ((List.range k).filter fun f => bP (betw c xs f)).map fun (f : Nat) => (f : Int)
theorem fullL_len (c : Cat) (xs : List Int) (k : Nat) : (fullL c xs k).length ≤ k := by
  simp only [fullL, List.length_map]; exact Nat.le_trans (List.length_filter_le _ _) (by simp)
theorem fullL_t {c : Cat} {xs : List Int} {k : Nat} (h : betw c xs k) : fullL c xs k ++ [(k : Int)] = fullL c xs (k + 1) := by
  simp [fullL, List.range_succ, bP_t h]
theorem fullL_f {c : Cat} {xs : List Int} {k : Nat} (h : ¬ betw c xs k) : fullL c xs k = fullL c xs (k + 1) := by
  simp [fullL, List.range_succ, bP_f h]

end Go.Proofs.Ytbfenibkbmkcaab
