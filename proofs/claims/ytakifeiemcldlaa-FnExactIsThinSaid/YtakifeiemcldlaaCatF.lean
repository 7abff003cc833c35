
/- The first fault of a shape, by what it satisfies; no memory. -/
import Derived.Test.YtakifeiemcldlaaCat
namespace Go.Proofs.Ytakifeiemcldlaa
open Go.RowKit

theorem firstN_spec {p : Nat → Prop} {n k : Nat} (h : firstN p n = some k) : k < n ∧ p k ∧ ∀ j, j < k → ¬ p j := by
  have hp := firstN_prop h
  unfold firstN at h
  have hm := List.mem_of_find?_eq_some h
  refine ⟨by simpa using hm, hp, fun j hj hpj => ?_⟩
  rw [List.find?_eq_some_iff_append] at h
  obtain ⟨_, la, lb, he, hno⟩ := h
  have hk : k = la.length := by
    have h1 : (List.range n)[la.length]? = some k := by rw [he]; simp
    rw [List.getElem?_eq_some_iff] at h1
    obtain ⟨_, h2⟩ := h1
    simpa using h2.symm
  have hj2 : j ∈ la := by
    have h3 : j < la.length := by omega
    have h1 : (List.range n)[j]? = some (la[j]) := by rw [he, List.getElem?_append_left h3, List.getElem?_eq_getElem h3]
    rw [List.getElem?_eq_some_iff] at h1
    obtain ⟨_, h2⟩ := h1
    have h4 : j = la[j] := by rw [List.getElem_range] at h2; exact h2
    rw [h4]; exact List.getElem_mem h3
  have := hno j hj2
  rw [bP_t hpj] at this
  simp at this

def noBadId (c : Cat) : Prop := ∀ j : Nat, j < c.s.length → ¬ badId c j
def noBadAs (c : Cat) : Prop := ∀ f g k : Nat, f < c.s.length → g < c.s.length → k < c.s.length → ¬ badAs c f g k
def FirstId (c : Cat) (m : Nat) : Prop := m < c.s.length ∧ badId c m ∧ ∀ j : Nat, j < m → ¬ badId c j
def FirstAs (c : Cat) (f g k : Nat) : Prop :=
  f < c.s.length ∧ g < c.s.length ∧ k < c.s.length ∧ badAs c f g k ∧ (∀ f' g' k' : Nat, f' < f → g' < c.s.length → k' < c.s.length → ¬ badAs c f' g' k') ∧
    (∀ g' k' : Nat, g' < g → k' < c.s.length → ¬ badAs c f g' k') ∧ ∀ k' : Nat, k' < k → ¬ badAs c f g k'
/-- What the fault at the front satisfies. -/
inductive FaultP (c : Cat) : Int → Int → Int → Int → Prop
  | id (m : Nat) (h : FirstId c m) : FaultP c 1 m 0 0
  | asc (f g k : Nat) (h0 : noBadId c) (h : FirstAs c f g k) : FaultP c 2 f g k
  | no (h0 : noBadId c) (h : noBadAs c) : FaultP c 0 0 0 0

theorem faultP_of (c : Cat) : FaultP c (faultOf c).1 (faultOf c).2.1 (faultOf c).2.2.1 (faultOf c).2.2.2 := by
  unfold faultOf
  cases h1 : firstN (fun f => badId c f) c.s.length with
  | some f => exact .id f (firstN_spec h1)
  | none =>
    have hn : noBadId c := fun j hj => firstN_no h1 hj
    simp only
    cases h2 : first3 (fun f g h : Nat => badAs c f g h) c.s.length with
    | none =>
      refine .no hn fun f g k hf hg hk hb => ?_
      have h0 : (faultOf c).1 = 0 := by
        unfold faultOf
        rw [h1]
        simp only
        rw [h2]
      exact (fault_zero.1 h0).2 f g k hf hg hk hb
    | some r =>
      obtain ⟨f, g, k⟩ := r
      simp only
      unfold first3 at h2
      cases e1 : firstN (fun f : Nat => ∃ g h : Nat, g < c.s.length ∧ h < c.s.length ∧ badAs c f g h) c.s.length with
      | none => rw [e1] at h2; simp at h2
      | some f1 =>
        rw [e1] at h2
        simp only at h2
        cases e2 : firstN (fun g : Nat => ∃ h : Nat, h < c.s.length ∧ badAs c f1 g h) c.s.length with
        | none => rw [e2] at h2; simp at h2
        | some g1 =>
          rw [e2] at h2
          simp only at h2
          cases e3 : firstN (fun h : Nat => badAs c f1 g1 h) c.s.length with
          | none => rw [e3] at h2; simp at h2
          | some k1 =>
            rw [e3] at h2
            simp only [Option.some.injEq, Prod.mk.injEq] at h2
            obtain ⟨rfl, rfl, rfl⟩ := h2
            obtain ⟨a1, _, a3⟩ := firstN_spec e1
            obtain ⟨b1, _, b3⟩ := firstN_spec e2
            obtain ⟨c1, c2, c3⟩ := firstN_spec e3
            exact .asc _ _ _ hn ⟨a1, b1, c1, c2, fun f' g' k' hf' hg' hk' hb => a3 f' hf' ⟨g', k', hg', hk', hb⟩, fun g' k' hg' hk' hb => b3 g' hg' ⟨k', hk', hb⟩, c3⟩

theorem firstAs_unique {c : Cat} {f g k f' g' k' : Nat} (h : FirstAs c f g k) (h' : FirstAs c f' g' k') : f = f' ∧ g = g' ∧ k = k' := by
  obtain ⟨a1, a2, a3, a4, a5, a6, a7⟩ := h
  obtain ⟨b1, b2, b3, b4, b5, b6, b7⟩ := h'
  have e1 : f = f' := by
    rcases Nat.lt_trichotomy f f' with h | h | h
    · exact absurd a4 (b5 f g k h a2 a3)
    · exact h
    · exact absurd b4 (a5 f' g' k' h b2 b3)
  subst e1
  have e2 : g = g' := by
    rcases Nat.lt_trichotomy g g' with h | h | h
    · exact absurd a4 (b6 g k h a3)
    · exact h
    · exact absurd b4 (a6 g' k' h b3)
  subst e2
  refine ⟨rfl, rfl, ?_⟩
  rcases Nat.lt_trichotomy k k' with h | h | h
  · exact absurd a4 (b7 k h)
  · exact h
  · exact absurd b4 (a7 k' h)

theorem faultP_id {c : Cat} {k f g h : Int} (hp : FaultP c k f g h) {m : Nat} (hm : FirstId c m) : k = 1 ∧ f = m ∧ g = 0 ∧ h = 0 := by
  obtain ⟨h1, h2, h3⟩ := hm
  cases hp with
  | id m' h' =>
    obtain ⟨g1, g2, g3⟩ := h'
    rcases Nat.lt_trichotomy m m' with h | h | h
    · exact absurd h2 (g3 m h)
    · subst h; exact ⟨rfl, rfl, rfl, rfl⟩
    · exact absurd g2 (h3 m' h)
  | asc _ _ _ h0 _ => exact absurd h2 (h0 m h1)
  | no h0 _ => exact absurd h2 (h0 m h1)
theorem faultP_as {c : Cat} {k f g h : Int} (hp : FaultP c k f g h) (h0 : noBadId c) {f' g' k' : Nat} (hm : FirstAs c f' g' k') : k = 2 ∧ f = f' ∧ g = g' ∧ h = k' := by
  cases hp with
  | id m h' => exact absurd h'.2.1 (h0 m h'.1)
  | asc a b d _ h1 =>
    obtain ⟨rfl, rfl, rfl⟩ := firstAs_unique h1 hm
    exact ⟨rfl, rfl, rfl, rfl⟩
  | no _ h1 => exact absurd hm.2.2.2.1 (h1 _ _ _ hm.1 hm.2.1 hm.2.2.1)
theorem faultP_no {c : Cat} {k f g h : Int} (hp : FaultP c k f g h) (h0 : noBadId c) (h1 : noBadAs c) : k = 0 ∧ f = 0 ∧ g = 0 ∧ h = 0 := by
  cases hp with
  | id m h' => exact absurd h'.2.1 (h0 m h'.1)
  | asc a b d _ h2 => exact absurd h2.2.2.2.1 (h1 _ _ _ h2.1 h2.2.1 h2.2.2.1)
  | no _ _ => exact ⟨rfl, rfl, rfl, rfl⟩

end Go.Proofs.Ytakifeiemcldlaa
