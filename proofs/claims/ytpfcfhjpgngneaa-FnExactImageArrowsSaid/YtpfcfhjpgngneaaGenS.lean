
/- The least subcategory: the model's statements that speak of it. -/
import Derived.Test.YtpfcfhjpgngneaaGen
import Derived.Test.YtpfcfhjpgngneaaComp
set_option linter.unusedSimpArgs false
set_option linter.unusedVariables false
set_option linter.unusedSectionVars false
namespace Go.Proofs.Ytpfcfhjpgngneaa
open Go.RowKit


noncomputable def fGeneratedArrows (c : Cat) (xs : List Int) : List Int × Int := if arrErr c xs = 0 then (genL c xs c.s.length, 0) else ([], arrErr c xs)
noncomputable def fIsSubcategory (c : Cat) (xs : List Int) : Bool × Int := if arrErr c xs = 0 then (decide (xs = genL c xs c.s.length), 0) else (false, arrErr c xs)
theorem gens_e {c : Cat} {xs : List Int} (h : ¬ arrErr c xs = 0) : fGeneratedArrows c xs = ([], arrErr c xs) := if_neg h
theorem gens_t {c : Cat} {xs : List Int} (h : arrErr c xs = 0) : fGeneratedArrows c xs = (genL c xs c.s.length, 0) := if_pos h
theorem isub_e {c : Cat} {xs : List Int} (h : ¬ arrErr c xs = 0) : fIsSubcategory c xs = (false, arrErr c xs) := if_neg h
theorem isub_t {c : Cat} {xs : List Int} (h : arrErr c xs = 0) : fIsSubcategory c xs = (decide (xs = genL c xs c.s.length), 0) := if_pos h

/-! ### What is sorted and has the generated arrows is their list -/
theorem asc_extG : ∀ {xs ys : List Int}, xs.Pairwise (· < ·) → ys.Pairwise (· < ·) → (∀ x, x ∈ xs ↔ x ∈ ys) → xs = ys
  | [], [], _, _, _ => rfl
  | [], y :: ys, _, _, h => absurd ((h y).2 (List.mem_cons_self ..)) (by simp)
  | x :: xs, [], _, _, h => absurd ((h x).1 (List.mem_cons_self ..)) (by simp)
  | x :: xs, y :: ys, hx, hy, h => by
    rw [List.pairwise_cons] at hx hy
    have h1 := (h x).1 (List.mem_cons_self ..)
    have h2 := (h y).2 (List.mem_cons_self ..)
    have e : x = y := by
      rcases List.mem_cons.1 h1 with e | e
      · exact e
      · rcases List.mem_cons.1 h2 with e2 | e2
        · exact e2.symm
        · have a := hy.1 x e; have b := hx.1 y e2; omega
    subst e
    congr 1
    refine asc_extG hx.2 hy.2 fun z => ⟨fun hz => ?_, fun hz => ?_⟩
    · rcases List.mem_cons.1 ((h z).1 (List.mem_cons_of_mem _ hz)) with e | e
      · have := hx.1 z hz; omega
      · exact e
    · rcases List.mem_cons.1 ((h z).2 (List.mem_cons_of_mem _ hz)) with e | e
      · have := hy.1 z hz; omega
      · exact e
theorem genL_mem {c : Cat} {xs : List Int} {m : Nat} {x : Int} : x ∈ genL c xs m ↔ ∃ j : Nat, j < m ∧ Gen c xs (j : Int) ∧ (j : Int) = x := filTo_mem
theorem genL_asc (c : Cat) (xs : List Int) : ∀ m, (genL c xs m).Pairwise (· < ·)
  | 0 => by simp [genL, filTo]
  | m + 1 => by
    have ih := genL_asc c xs m
    by_cases h : Gen c xs (m : Int)
    · rw [← gen_t h, List.pairwise_append]
      refine ⟨ih, List.pairwise_singleton _ _, fun a ha b hb => ?_⟩
      obtain ⟨j, hj, _, rfl⟩ := genL_mem.1 ha
      rw [List.mem_singleton.1 hb]; omega
    · rw [← gen_f h]; exact ih
theorem genL_of {c : Cat} {xs found ys : List Int} (hp : ys.Perm found) (hs : ys.Pairwise (· ≤ ·)) (hn : found.Nodup) (hm : ∀ x, x ∈ found ↔ Gen c xs x ∧ 0 ≤ x ∧ x < c.s.length) : ys = genL c xs c.s.length := by
  refine asc_extG ?_ (genL_asc c xs _) fun x => ?_
  · have hy : ys.Nodup := hp.nodup_iff.2 hn
    refine (List.pairwise_and_iff.2 ⟨hs, hy⟩).imp fun h => ?_
    have := h.1; have h2 := h.2; omega
  · rw [hp.mem_iff, hm, genL_mem]
    constructor
    · rintro ⟨hg, h0, h1⟩
      obtain ⟨j, rfl⟩ := Int.eq_ofNat_of_zero_le h0
      exact ⟨j, by omega, hg, rfl⟩
    · rintro ⟨j, hj, hg, rfl⟩
      exact ⟨hg, by omega, by omega⟩

end Go.Proofs.Ytpfcfhjpgngneaa
