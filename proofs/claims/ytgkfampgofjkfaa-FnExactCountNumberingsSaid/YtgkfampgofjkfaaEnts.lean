
/- Entries by a rule, their numbers; boxes that a function value has caught. -/
import Derived.Test.YtgkfampgofjkfaaPlan
import Derived.Test.YtgkfampgofjkfaaBxv
set_option linter.unusedSimpArgs false
set_option linter.unusedVariables false
set_option linter.unusedSectionVars false
namespace Go.Proofs.Ytgkfampgofjkfaa
open Go.RowKit
section
variable {α : Type} [Inhabited α]
def entsTo (φ : Nat → Ent α) (k : Nat) : List (Ent α) := (List.range k).map φ
theorem entsTo_len (φ : Nat → Ent α) (k : Nat) : (entsTo φ k).length = k := by simp [entsTo]
theorem entsTo_succ (φ : Nat → Ent α) (k : Nat) : entsTo φ k ++ [φ k] = entsTo φ (k + 1) := by simp [entsTo, List.range_succ]
theorem entsTo_zero (φ : Nat → Ent α) : entsTo φ 0 = [] := rfl
theorem entsTo_at (φ : Nat → Ent α) {k j : Nat} (h : j < k) : atE (entsTo φ k) (j : Int) = φ j := by
  rw [atE_eq (by rw [entsTo_len]; exact h)]; simp [entsTo]
theorem entsTo_mem {φ : Nat → Ent α} {k : Nat} {e : Ent α} : e ∈ entsTo φ k ↔ ∃ j, j < k ∧ φ j = e := by simp [entsTo]
theorem entsTo_nodup {φ : Nat → Ent α} {k : Nat} (h : ∀ i j, i < k → j < k → φ i = φ j → i = j) : (entsTo φ k).Nodup := by
  unfold entsTo List.Nodup
  rw [List.pairwise_map]
  refine List.Pairwise.imp_of_mem (fun {a b} ha hb hab he => hab (h a b (List.mem_range.1 ha) (List.mem_range.1 hb) he)) (List.nodup_range (n := k))
variable [DecidableEq α]
theorem idx_nodup {β : Type} [BEq β] [LawfulBEq β] : ∀ (es : List β) (j : Nat) (h : j < es.length), es.Nodup → es.idxOf es[j] = j
  | [], j, h, _ => by simp at h
  | e :: es, 0, h, _ => by simp
  | e :: es, j + 1, h, hn => by
    have hn' := List.nodup_cons.1 hn
    have hj : j < es.length := by simpa using h
    have hne : (e == es[j]) = false := by
      simp only [beq_eq_false_iff_ne, ne_eq]
      intro he
      exact hn'.1 (by rw [he]; exact List.getElem_mem hj)
    simp only [List.getElem_cons_succ, List.idxOf_cons, hne, idx_nodup es j hj hn'.2]
    rfl
theorem posE_at {es : List (Ent α)} (hn : es.Nodup) {j : Nat} (h : j < es.length) {e : Ent α} (he : atE es (j : Int) = e) : posE es e = j := by
  subst he
  have hm := atE_mem h
  unfold posE
  rw [if_pos hm, atE_eq h]
  rw [idx_nodup es j h hn]
theorem posE_to {φ : Nat → Ent α} {k : Nat} (hi : ∀ i j, i < k → j < k → φ i = φ j → i = j) {j : Nat} (h : j < k) {e : Ent α} (he : φ j = e) : posE (entsTo φ k) e = j :=
  posE_at (entsTo_nodup hi) (by rw [entsTo_len]; exact h) (by rw [entsTo_at φ h, he])
theorem posE_int {φ : Nat → Ent α} {k : Nat} (hi : ∀ i j, i < k → j < k → φ i = φ j → i = j) {j : Int} (h0 : 0 ≤ j) (h1 : j < k) {e : Ent α} (he : φ j.toNat = e) : posE (entsTo φ k) e = j := by
  obtain ⟨n, rfl⟩ := Int.eq_ofNat_of_zero_le h0
  exact posE_to hi (by omega) he
/-- What is built of entries by a rule, entry by entry. -/
theorem buildE_to {n : Int} {φ : Nat → Ent α} {k : Nat} {u : Nat → α} {th : α → α → α} {c : Cat} (ho : c.ob = n) (hs : c.s.length = k) (ht : c.t.length = k) (he : c.e.length = n.toNat) (hm : c.m.length = k) (hr : ∀ i, i < k → (row2 c.m (i : Int)).length = k)
    (h1 : ∀ i, i < k → at0 c.s (i : Int) = (φ i).1) (h2 : ∀ i, i < k → at0 c.t (i : Int) = (φ i).2.1) (h3 : ∀ x, x < n.toNat → at0 c.e (x : Int) = posE (entsTo φ k) ((x : Int), (x : Int), u x))
    (h4 : ∀ i j, i < k → j < k → at0 (row2 c.m (i : Int)) (j : Int) = cellE (entsTo φ k) th (φ i) (φ j)) : buildE n (entsTo φ k) u th = c := by
  have e1 : c.s = tabTo (fun i => (atE (entsTo φ k) (i : Int)).1) k := tabTo_ext hs fun j hj => by rw [h1 j hj, entsTo_at φ hj]
  have e2 : c.t = tabTo (fun i => (atE (entsTo φ k) (i : Int)).2.1) k := tabTo_ext ht fun j hj => by rw [h2 j hj, entsTo_at φ hj]
  have e3 : c.e = tabTo (fun x => posE (entsTo φ k) ((x : Int), (x : Int), u x)) n.toNat := tabTo_ext he fun j hj => h3 j hj
  have e4 : c.m = rowsTo (fun i => rowE (entsTo φ k) th (atE (entsTo φ k) (i : Int))) k := rowsTo_ext hm fun i hi => by
    unfold rowE
    rw [entsTo_len]
    refine tabTo_ext (hr i hi) fun j hj => ?_
    rw [h4 i j hi hj, entsTo_at φ hi, entsTo_at φ hj]
  obtain ⟨ob, s, t, e, m⟩ := c
  simp only at ho e1 e2 e3 e4
  unfold buildE
  rw [entsTo_len, ← e1, ← e2, ← e3, ← e4, ho]
end
theorem offR_le {rows : List (List Int)} {b : Nat} : ∀ k, k ≤ rows.length → (∀ i, i < rows.length → (row2 rows (i : Int)).length ≤ b) → offR rows k ≤ k * b := by
  intro k
  induction k with
  | zero => intro _ _; simp [offR]
  | succ k ih =>
    intro hk h
    have h1 := ih (by omega) h
    have h2 := h k (by omega)
    simp only [row2, Int.toNat_natCast] at h2
    rw [Nat.succ_mul]
    show offR rows k + (rows.getD k []).length ≤ _
    omega
theorem mz_small {c : Cat} (h1 : c.s.length ≤ 40) (h2 : c.t.length ≤ 40) (h3 : c.e.length ≤ 40) (h4 : c.m.length ≤ 40) (h5 : ∀ i, i < c.m.length → (row2 c.m (i : Int)).length ≤ 40) : mzC c ≤ 1152921504606846 := by
  have h := offR_le (rows := c.m) (b := 40) c.m.length (Nat.le_refl _) h5
  have h6 : c.m.length * 40 ≤ 40 * 40 := Nat.mul_le_mul_right _ h4
  unfold mzC; omega
theorem retCI_eq {W w' : World} {c c' : Cat} {n n' : Int} {e : Ending} (hc : c = c') (hn : n = n') (h : RetCI W c n e w') : RetCI W c' n' e w' := by subst hc; subst hn; exact h
end Go.Proofs.Ytgkfampgofjkfaa
