
/- The program's ThenMaps. -/
import Derived.Test.YtgkfampgofjkfaaThen
import Derived.Test.YtgkfampgofjkfaaLawC
import Derived.Test.YtgkfampgofjkfaaRul4
import Derived.Test.YtgkfampgofjkfaaRul7
set_option linter.unusedSimpArgs false
set_option linter.unusedVariables false
set_option linter.unusedSectionVars false
namespace Go.Proofs.Ytgkfampgofjkfaa
open Go.RowKit


theorem implSizeB_any (w : World) (n : Int) : Calls Try.prog 62 #[.int .i64 n] w (RetB w (decide (SizeP n))) := (implSize_any w n _ rfl).mono fun e w' h => by obtain ⟨rfl, rfl⟩ := h; exact ⟨rfl, Below.refl _ _⟩
theorem implMapB_any (w : World) (n : Int) (v : Value) (xs : List Int) (h : Rd w v xs) : Calls Try.prog 63 #[.int .i64 n, v] w (RetB w (decide (MapP n xs))) := implIsMap_any w n v xs _ h rfl
def fillTo2 (φ : Nat → Int) (n k : Nat) : List Int := (List.range n).map fun j => if j < k then φ j else 0
theorem fillTo2_len (φ : Nat → Int) (n k : Nat) : (fillTo2 φ n k).length = n := by simp [fillTo2]
theorem fillTo2_zero (φ : Nat → Int) (n : Nat) : List.replicate n 0 = fillTo2 φ n 0 := by
  symm
  refine List.eq_replicate_iff.2 ⟨by simp [fillTo2], fun b hb => ?_⟩
  unfold fillTo2 at hb
  obtain ⟨j, _, rfl⟩ := List.mem_map.1 hb
  simp
theorem fillTo2_end (φ : Nat → Int) (n : Nat) : fillTo2 φ n n = (List.range n).map φ := by
  unfold fillTo2
  apply List.map_congr_left
  intro j hj
  rw [if_pos (List.mem_range.1 hj)]
theorem fillTo2_get {φ : Nat → Int} {n k j : Nat} (hj : j < n) : (fillTo2 φ n k)[j]? = some (if j < k then φ j else 0) := by simp [fillTo2, List.getElem?_map, List.getElem?_range hj]
theorem fillTo2_set {φ : Nat → Int} {n k : Nat} (hk : k < n) : (fillTo2 φ n k).set k (φ k) = fillTo2 φ n (k + 1) := by
  apply List.ext_getElem?
  intro j
  rw [List.getElem?_set]
  by_cases hj : j < n
  · rw [fillTo2_get hj, fillTo2_get hj]
    by_cases e : k = j
    · subst e; simp [fillTo2_len, hk]
    · rw [if_neg e]
      by_cases h : j < k
      · rw [if_pos h, if_pos (by omega)]
      · rw [if_neg h, if_neg (by omega)]
  · have h1 : (fillTo2 φ n k)[j]? = none := by simp [fillTo2_len]; omega
    have h2 : (fillTo2 φ n (k + 1))[j]? = none := by simp [fillTo2_len]; omega
    rw [h1, h2, if_neg (by omega)]
theorem thenL_tab2 (f g : List Int) : (List.range f.length).map (fun j : Nat => at0 g (at0 f (j : Int))) = thenL f g := by
  apply List.ext_getElem?
  intro j
  unfold thenL
  by_cases hj : j < f.length
  · simp [List.getElem?_map, List.getElem?_range hj, hj, at0, List.getD_eq_getElem?_getD]
  · simp [List.getElem?_eq_none (by simpa using hj : (List.range f.length).length ≤ j), List.getElem?_eq_none (by simpa using hj : f.length ≤ j), List.getElem?_map]
theorem thm_ha {n : Int} {f g : List Int} (h1 : MapP n f) (h2 : (g.length : Int) = n) : AllP g.length f := by rw [h2]; exact h1.2.2
theorem thm_s {n k : Int} {f g : List Int} (h : ¬ (SizeP n ∧ SizeP k)) : fThenMaps n f k g = ([], 2) := if_neg h
theorem thm_n {n k : Int} {f g : List Int} (h : SizeP n) (h' : SizeP k) (hn : ¬ (MapP n f ∧ MapP k g ∧ (g.length : Int) = n)) : fThenMaps n f k g = ([], 1) := by unfold fThenMaps; rw [if_pos ⟨h, h'⟩, if_neg hn]
theorem thm_t {n k : Int} {f g : List Int} (h : SizeP n) (h' : SizeP k) (h1 : MapP n f) (h2 : MapP k g) (h3 : (g.length : Int) = n) : fThenMaps n f k g = (thenL f g, 0) := by unfold fThenMaps; rw [if_pos ⟨h, h'⟩, if_pos ⟨h1, h2, h3⟩]

end Go.Proofs.Ytgkfampgofjkfaa
