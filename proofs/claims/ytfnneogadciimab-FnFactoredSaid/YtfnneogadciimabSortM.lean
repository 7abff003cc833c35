
/- Plain facts on sorted lists: what sorting and striking doubles leave is the ascending list of the members. -/
import Derived.Lib.SlicesCompact
import Derived.Test.YtfnneogadciimabMap
import Derived.Test.YtfnneogadciimabBase
set_option linter.unusedSimpArgs false
set_option linter.unusedVariables false
set_option linter.unusedSectionVars false
namespace Go.Proofs.Ytfnneogadciimab
open Go.RowKit

theorem asc_ext : ∀ (l1 l2 : List Int), l1.Pairwise (· < ·) → l2.Pairwise (· < ·) → (∀ x, x ∈ l1 ↔ x ∈ l2) → l1 = l2
  | [], [], _, _, _ => rfl
  | [], b :: l2, _, _, h => absurd ((h b).2 (List.mem_cons_self ..)) (by simp)
  | a :: l1, [], _, _, h => absurd ((h a).1 (List.mem_cons_self ..)) (by simp)
  | a :: l1, b :: l2, h1, h2, h => by
    rw [List.pairwise_cons] at h1 h2
    have hab : a = b := by
      have ha := (h a).1 (List.mem_cons_self ..)
      have hb := (h b).2 (List.mem_cons_self ..)
      rcases List.mem_cons.1 ha with e | e
      · exact e
      · rcases List.mem_cons.1 hb with e2 | e2
        · exact e2.symm
        · have := h2.1 _ e
          have := h1.1 _ e2
          omega
    subst hab
    rw [asc_ext l1 l2 h1.2 h2.2 fun x => ?_]
    have := h x
    simp only [List.mem_cons] at this
    constructor
    · intro hx
      have hlt := h1.1 x hx
      rcases this.1 (.inr hx) with e | e
      · omega
      · exact e
    · intro hx
      have hlt := h2.1 x hx
      rcases this.2 (.inr hx) with e | e
      · omega
      · exact e

theorem compact_inv (d : Array Int) (hs : ∀ i j, i ≤ j → j < d.size → d[i]! ≤ d[j]!) : ∀ m, m ≤ d.size →
    (Lib.compactUpTo d m).Pairwise (· < ·) ∧ ∀ x, x ∈ Lib.compactUpTo d m ↔ ∃ j, j < m ∧ d[j]! = x := by
  intro m
  induction m with
  | zero => intro _; simp [Lib.compactUpTo]
  | succ m ih =>
    intro hm
    obtain ⟨h1, h2⟩ := ih (by omega)
    rw [Lib.compactUpTo_succ]
    by_cases hk : Lib.keeps d m = true
    · rw [if_pos hk]
      refine ⟨?_, fun x => ?_⟩
      · rw [List.pairwise_append]
        refine ⟨h1, by simp, fun a ha b hb => ?_⟩
        simp only [List.mem_singleton] at hb
        subst hb
        obtain ⟨j, hj, rfl⟩ := (h2 a).1 ha
        have hle := hs j (m - 1) (by omega) (by omega)
        have hle2 := hs (m - 1) m (by omega) (by omega)
        have hne : d[m]! ≠ d[m - 1]! := fun e => by
          have := Lib.keeps_neg (show 0 < m by omega) e
          rw [this] at hk
          cases hk
        omega
      · simp only [List.mem_append, List.mem_singleton, h2]
        constructor
        · rintro (⟨j, hj, e⟩ | e)
          · exact ⟨j, by omega, e⟩
          · exact ⟨m, by omega, e.symm⟩
        · rintro ⟨j, hj, e⟩
          by_cases hjm : j = m
          · subst hjm; exact .inr e.symm
          · exact .inl ⟨j, by omega, e⟩
    · have hkf : Lib.keeps d m = false := by simpa using hk
      rw [hkf]
      simp only [Bool.false_eq_true, if_false, List.append_nil]
      refine ⟨h1, fun x => (h2 x).trans ?_⟩
      constructor
      · rintro ⟨j, hj, e⟩; exact ⟨j, by omega, e⟩
      · rintro ⟨j, hj, e⟩
        by_cases hjm : j = m
        · subst hjm
          have hpos : 0 < j := by
            rcases Nat.eq_zero_or_pos j with h | h
            · subst h
              rw [Lib.keeps_lt_one d 0 (by omega)] at hkf
              cases hkf
            · exact h
          have heq : d[j]! = d[j - 1]! := Classical.byContradiction fun hne => by
            rw [Lib.keeps_pos hne] at hkf
            cases hkf
          exact ⟨j - 1, by omega, by rw [← heq]; exact e⟩
        · exact ⟨j, by omega, e⟩

/-- The images below n, ascending. -/
def imgL (n : Nat) (f : List Int) : List Int := (upTo 0 n).filter fun y => decide (y ∈ f)

theorem upTo_asc (n : Nat) : (upTo 0 n).Pairwise (· < ·) := by
  induction n with
  | zero => simp [upTo]
  | succ n ih =>
    have h : upTo 0 (n + 1) = upTo 0 n ++ [(n : Int)] := by simp [upTo, List.range_succ]
    rw [h, List.pairwise_append]
    refine ⟨ih, by simp, fun a ha b hb => ?_⟩
    simp only [upTo, List.mem_map, List.mem_range] at ha
    obtain ⟨j, hj, rfl⟩ := ha
    simp only [List.mem_singleton] at hb
    omega

theorem imgL_asc (n : Nat) (f : List Int) : (imgL n f).Pairwise (· < ·) := (upTo_asc n).filter _

theorem mem_imgL {n : Nat} {f : List Int} (h : AllP n f) (x : Int) : x ∈ imgL n f ↔ x ∈ f := by
  simp only [imgL, List.mem_filter, decide_eq_true_eq]
  constructor
  · exact fun h => h.2
  · intro hx
    have := h x hx
    refine ⟨?_, hx⟩
    simp only [upTo, List.mem_map, List.mem_range]
    exact ⟨x.toNat, by omega, by omega⟩

theorem sorted_get {l : List Int} (h : l.Pairwise (· ≤ ·)) : ∀ i j, i ≤ j → j < l.toArray.size → l.toArray[i]! ≤ l.toArray[j]! := by
  intro i j hij hj
  have hj' : j < l.length := by simpa using hj
  by_cases he : i = j
  · subst he; omega
  · have := List.pairwise_iff_getElem.1 h i j (by omega) hj' (by omega)
    simpa [getElem!_def, List.getElem?_eq_getElem hj', List.getElem?_eq_getElem (show i < l.length by omega)] using this

theorem sort_compact {n : Nat} {f : List Int} (h : AllP n f) : Lib.compact (f.mergeSort fun x y => decide (x ≤ y)) = imgL n f := by
  have hs : (f.mergeSort fun x y => decide (x ≤ y)).Pairwise (· ≤ ·) := by
    have := List.pairwise_mergeSort (le := fun x y : Int => decide (x ≤ y)) (fun a b c h1 h2 => by simp at *; omega) (fun a b => by simp; omega) f
    exact this.imp (by simp)
  have hi := compact_inv (f.mergeSort fun x y => decide (x ≤ y)).toArray (sorted_get hs) _ (Nat.le_refl _)
  refine asc_ext _ _ (by simpa [Lib.compact] using hi.1) (imgL_asc n f) fun x => ?_
  rw [mem_imgL h]
  have h2 := hi.2 x
  unfold Lib.compact
  have hsz : (f.mergeSort fun x y => decide (x ≤ y)).toArray.size = (f.mergeSort fun x y => decide (x ≤ y)).length := by simp
  rw [hsz] at h2
  rw [h2]
  constructor
  · rintro ⟨j, hj, rfl⟩
    have : (f.mergeSort fun x y => decide (x ≤ y)).toArray[j]! = (f.mergeSort fun x y => decide (x ≤ y))[j] := by simp [getElem!_def, List.getElem?_eq_getElem hj]
    rw [this]
    exact (List.mem_mergeSort).1 (List.getElem_mem hj)
  · intro hx
    obtain ⟨j, hj, he⟩ := List.getElem_of_mem ((List.mem_mergeSort (le := fun x y : Int => decide (x ≤ y))).2 hx)
    exact ⟨j, hj, by simp [getElem!_def, List.getElem?_eq_getElem hj, he]⟩

end Go.Proofs.Ytfnneogadciimab
