
/- What joining pairs comes to: the least equivalence that has them; no memory. -/
import Derived.Test.YtgkfampgofjkfaaJoin
set_option linter.unusedSimpArgs false
set_option linter.unusedVariables false
set_option linter.unusedSectionVars false
namespace Go.Proofs.Ytgkfampgofjkfaa
open Go.RowKit
def pa (q : List Int) : Nat := (q.getD 0 0).toNat
def pb (q : List Int) : Nat := (q.getD 1 0).toNat
/-- Two places have one label when the pairs are joined. -/
def RelL (n : Nat) (ps : List (List Int)) (i j : Nat) : Prop := (specL n ps).getD i 0 = (specL n ps).getD j 0
theorem step_len (L r : List Int) : (specStep L r).length = L.length := by simp [specStep, relab]
theorem step_at {L r : List Int} {i : Nat} (hi : i < L.length) : (specStep L r).getD i 0 = if L.getD i 0 = L.getD (pb r) 0 then L.getD (pa r) 0 else L.getD i 0 := by
  unfold specStep relab; rw [getD_map hi]; rfl
theorem fold_len (ps : List (List Int)) : ∀ L : List Int, (ps.foldl specStep L).length = L.length := by
  induction ps with
  | nil => intro L; rfl
  | cons r ps ih => intro L; rw [List.foldl_cons, ih, step_len]
theorem fold_mono {n : Nat} (ps : List (List Int)) : ∀ L : List Int, L.length = n → ∀ i j, i < n → j < n → L.getD i 0 = L.getD j 0 → (ps.foldl specStep L).getD i 0 = (ps.foldl specStep L).getD j 0 := by
  induction ps with
  | nil => intro L _ i j _ _ h; exact h
  | cons r ps ih =>
    intro L hL i j hi hj h
    refine ih _ (by rw [step_len, hL]) i j hi hj ?_
    rw [step_at (by omega), step_at (by omega), h]
theorem fold_has {n : Nat} (ps : List (List Int)) : ∀ L : List Int, L.length = n → (∀ q ∈ ps, PairP n q) → ∀ q ∈ ps, (ps.foldl specStep L).getD (pa q) 0 = (ps.foldl specStep L).getD (pb q) 0 := by
  induction ps with
  | nil => intro L _ _ q hq; cases hq
  | cons r ps ih =>
    intro L hL hps q hq
    rcases List.mem_cons.1 hq with rfl | hq
    · have hr := pair_range (hps q (List.mem_cons_self ..))
      refine fold_mono ps _ (by rw [step_len, hL]) _ _ hr.1 hr.2.1 ?_
      rw [step_at (show pa q < L.length by rw [hL]; exact hr.1), step_at (show pb q < L.length by rw [hL]; exact hr.2.1), if_pos rfl]
      split <;> rfl
    · exact ih _ (by rw [step_len, hL]) (fun q hq => hps q (List.mem_cons_of_mem _ hq)) q hq
theorem fold_univ {n : Nat} {r : Nat → Nat → Prop} (hr : Equivalence r) (ps : List (List Int)) : ∀ L : List Int, L.length = n → (∀ q ∈ ps, PairP n q) → (∀ i j, i < n → j < n → L.getD i 0 = L.getD j 0 → r i j) → (∀ q ∈ ps, r (pa q) (pb q)) →
    ∀ i j, i < n → j < n → (ps.foldl specStep L).getD i 0 = (ps.foldl specStep L).getD j 0 → r i j := by
  induction ps with
  | nil => intro L _ _ h _ i j hi hj he; exact h i j hi hj he
  | cons q ps ih =>
    intro L hL hps h hq
    have hpr := pair_range (hps q (List.mem_cons_self ..))
    have ha : pa q < n := hpr.1
    have hb : pb q < n := hpr.2.1
    have hab := hq q (List.mem_cons_self ..)
    refine ih _ (by rw [step_len, hL]) (fun q hq => hps q (List.mem_cons_of_mem _ hq)) (fun i j hi hj he => ?_) (fun q h => hq q (List.mem_cons_of_mem _ h))
    rw [step_at (by omega), step_at (by omega)] at he
    by_cases h1 : L.getD i 0 = L.getD (pb q) 0
    · rw [if_pos h1] at he
      by_cases h2 : L.getD j 0 = L.getD (pb q) 0
      · exact h i j hi hj (h1.trans h2.symm)
      · rw [if_neg h2] at he
        exact hr.trans (h i _ hi hb h1) (hr.trans (hr.symm hab) (h _ j ha hj he))
    · rw [if_neg h1] at he
      by_cases h2 : L.getD j 0 = L.getD (pb q) 0
      · rw [if_pos h2] at he
        exact hr.trans (h i _ hi ha he) (hr.trans hab (hr.symm (h j _ hj hb h2)))
      · rw [if_neg h2] at he
        exact h i j hi hj he
theorem relL_has {n : Nat} {ps : List (List Int)} (hps : ∀ q ∈ ps, PairP n q) {q : List Int} (hq : q ∈ ps) : RelL n ps (pa q) (pb q) := fold_has ps _ (upTo_length 0 n) hps q hq
theorem relL_univ {n : Nat} {ps : List (List Int)} (hps : ∀ q ∈ ps, PairP n q) {r : Nat → Nat → Prop} (hr : Equivalence r) (h : ∀ q ∈ ps, r (pa q) (pb q)) {i j : Nat} (hi : i < n) (hj : j < n) (he : RelL n ps i j) : r i j :=
  fold_univ hr ps _ (upTo_length 0 n) hps (fun i j hi hj he => by
    have h1 : (upTo 0 n).getD i 0 = (i : Int) := by simp [upTo, List.getD_eq_getElem?_getD, hi]
    have h2 : (upTo 0 n).getD j 0 = (j : Int) := by simp [upTo, List.getD_eq_getElem?_getD, hj]
    rw [h1, h2] at he
    have : i = j := by omega
    subst this; exact hr.refl i) h i j hi hj he
theorem relL_eqv (n : Nat) (ps : List (List Int)) : Equivalence (RelL n ps) := ⟨fun _ => rfl, fun h => Eq.symm h, fun h h' => Eq.trans h h'⟩
/-- More pairs, more is joined. -/
theorem relL_sub {n : Nat} {ps qs : List (List Int)} (hps : ∀ q ∈ ps, PairP n q) (h : ∀ q ∈ ps, RelL n qs (pa q) (pb q)) {i j : Nat} (hi : i < n) (hj : j < n) (he : RelL n ps i j) : RelL n qs i j := relL_univ hps (relL_eqv n qs) h hi hj he
theorem cls_rel {n : Nat} {ps qs : List (List Int)} (h : ∀ i j, i < n → j < n → (RelL n ps i j ↔ RelL n qs i j)) : clsOf (specL n ps) = clsOf (specL n qs) :=
  cls_ker ⟨by rw [specL_len, specL_len], fun i j hi hj => by rw [specL_len] at hi hj; exact h i j hi hj⟩
theorem cls_self {n : Nat} {ps : List (List Int)} {p : List Int} (hl : p.length = n) (hp : p = clsOf p) (h : ∀ i j, i < n → j < n → (RelL n ps i j ↔ p.getD i 0 = p.getD j 0)) : clsOf (specL n ps) = p := by
  rw [hp]
  exact cls_ker ⟨by rw [specL_len, hl], fun i j hi hj => by rw [specL_len] at hi hj; exact h i j hi hj⟩
end Go.Proofs.Ytgkfampgofjkfaa
