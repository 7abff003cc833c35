
/- Categories as tables: what a shape is and its first fault; no memory. -/
import Derived.Test.YtgkfampgofjkfaaIdx
set_option linter.unusedSimpArgs false
set_option linter.unusedVariables false
set_option linter.unusedSectionVars false
namespace Go.Proofs.Ytgkfampgofjkfaa
open Go.RowKit

structure Cat where
  ob : Int
  s : List Int
  t : List Int
  e : List Int
  m : List (List Int)

def at0 (l : List Int) (x : Int) : Int := l.getD x.toNat 0
def row2 (m : List (List Int)) (x : Int) : List Int := m.getD x.toNat []
def Cat.th (c : Cat) (f g : Int) : Int := at0 (row2 c.m f) g
def Cat.n (c : Cat) : Nat := c.s.length

noncomputable def bP (p : Prop) : Bool := @decide p (Classical.propDecidable p)
theorem bP_t {p : Prop} (h : p) : bP p = true := by unfold bP; exact @decide_eq_true p (Classical.propDecidable p) h
theorem bP_f {p : Prop} (h : ¬ p) : bP p = false := by unfold bP; exact @decide_eq_false p (Classical.propDecidable p) h
theorem bP_iff {p : Prop} : bP p = true ↔ p := by
  unfold bP; exact @decide_eq_true_iff p (Classical.propDecidable p)
theorem bP_dec {p : Prop} [Decidable p] : bP p = decide p := by
  by_cases h : p
  · rw [bP_t h, decide_eq_true h]
  · rw [bP_f h, decide_eq_false h]
theorem bP_congr {p q : Prop} (h : p ↔ q) : bP p = bP q := by rw [propext h]

def Cat.arr (c : Cat) (f : Int) : Prop := 0 ≤ f ∧ f < c.s.length
def Cat.obj (c : Cat) (x : Int) : Prop := 0 ≤ x ∧ x < c.ob
def okIdent (c : Cat) (x : Nat) : Prop := c.arr (at0 c.e x) ∧ at0 c.s (at0 c.e x) = x ∧ at0 c.t (at0 c.e x) = x
def okComp (c : Cat) (f g : Int) : Prop :=
  (at0 c.t f = at0 c.s g → c.arr (c.th f g) ∧ at0 c.s (c.th f g) = at0 c.s f ∧ at0 c.t (c.th f g) = at0 c.t g) ∧ (at0 c.t f ≠ at0 c.s g → c.th f g = -1)

structure LenP (c : Cat) : Prop where
  ob0 : 0 ≤ c.ob
  ob8 : c.ob ≤ 8
  n40 : c.s.length ≤ 40
  el : (c.e.length : Int) = c.ob
  tl : c.t.length = c.s.length
  ml : c.m.length = c.s.length

structure ShapeP (c : Cat) : Prop extends LenP c where
  rl : ∀ j, j < c.m.length → (c.m.getD j []).length = c.s.length
  sa : AllP c.ob c.s
  ta : AllP c.ob c.t
  id : ∀ x : Nat, x < c.e.length → okIdent c x
  co : ∀ f g : Nat, f < c.s.length → g < c.s.length → okComp c f g

/-- An arrow with a fault at an identity. -/
def badId (c : Cat) (f : Int) : Prop := ¬ (c.th (at0 c.e (at0 c.s f)) f = f ∧ c.th f (at0 c.e (at0 c.t f)) = f)
def badAs (c : Cat) (f g h : Int) : Prop := at0 c.t f = at0 c.s g ∧ at0 c.t g = at0 c.s h ∧ c.th (c.th f g) h ≠ c.th f (c.th g h)

/-- The first number below n with a property. -/
noncomputable def firstN (p : Nat → Prop) (n : Nat) : Option Nat := (List.range n).find? fun k => bP (p k)
theorem firstN_none {p : Nat → Prop} {n : Nat} (h : ∀ k, k < n → ¬ p k) : firstN p n = none := by
  unfold firstN
  rw [List.find?_eq_none]
  intro x hx
  rw [bP_f (h x (by simpa using hx))]
  simp
theorem firstN_some {p : Nat → Prop} {n k : Nat} (hk : k < n) (hp : p k) (h : ∀ j, j < k → ¬ p j) : firstN p n = some k := by
  unfold firstN
  rw [List.find?_eq_some_iff_append]
  refine ⟨bP_t hp, List.range k, (List.range' (k + 1) (n - (k + 1))), ?_, fun a ha => ?_⟩
  · rw [List.range_eq_range', List.range_eq_range', show k :: List.range' (k + 1) (n - (k + 1)) = List.range' k (n - (k + 1) + 1) from rfl]
    have e : List.range' 0 n = List.range' 0 (k + (n - (k + 1) + 1)) := by congr 1; omega
    rw [e, ← List.range'_append_1]
    simp
  · rw [bP_f (h a (by simpa using ha))]; rfl

theorem firstN_prop {p : Nat → Prop} {n k : Nat} (h : firstN p n = some k) : p k := by
  unfold firstN at h
  exact bP_iff.1 (List.find?_some (p := fun k => bP (p k)) h)
theorem firstN_no {p : Nat → Prop} {n : Nat} (h : firstN p n = none) {k : Nat} (hk : k < n) : ¬ p k := fun hp => by
  unfold firstN at h
  rw [List.find?_eq_none] at h
  exact h k (by simpa using hk) (bP_t hp)

/-- The first (f, g, h) in the order of the lists. -/
noncomputable def first3 (p : Nat → Nat → Nat → Prop) (n : Nat) : Option (Nat × Nat × Nat) :=
  match firstN (fun f => ∃ g h, g < n ∧ h < n ∧ p f g h) n with
  | none => none
  | some f => match firstN (fun g => ∃ h, h < n ∧ p f g h) n with
    | none => none
    | some g => match firstN (fun h => p f g h) n with
      | none => none
      | some h => some (f, g, h)
theorem first3_none {p : Nat → Nat → Nat → Prop} {n : Nat} (h : ∀ f g k, f < n → g < n → k < n → ¬ p f g k) : first3 p n = none := by
  unfold first3
  rw [firstN_none fun f hf ⟨g, k, hg, hk, hp⟩ => h f g k hf hg hk hp]
theorem first3_some {p : Nat → Nat → Nat → Prop} {n f g k : Nat} (hf : f < n) (hg : g < n) (hk : k < n) (hp : p f g k)
    (h1 : ∀ f' g' k', f' < f → g' < n → k' < n → ¬ p f' g' k') (h2 : ∀ g' k', g' < g → k' < n → ¬ p f g' k') (h3 : ∀ k', k' < k → ¬ p f g k') : first3 p n = some (f, g, k) := by
  unfold first3
  rw [firstN_some hf ⟨g, k, hg, hk, hp⟩ fun f' hf' ⟨g', k', a, b, c⟩ => h1 f' g' k' hf' a b c]
  simp only
  rw [firstN_some hg ⟨k, hk, hp⟩ fun g' hg' ⟨k', b, c⟩ => h2 g' k' hg' b c]
  simp only
  rw [firstN_some hk hp h3]

/-- The first fault: its kind and three arrows. -/
noncomputable def faultOf (c : Cat) : Int × Int × Int × Int :=
  match firstN (fun f => badId c f) c.s.length with
  | some f => (1, f, 0, 0)
  | none => match first3 (fun f g h => badAs c f g h) c.s.length with
    | some (f, g, h) => (2, f, g, h)
    | none => (0, 0, 0, 0)

structure IsCat (c : Cat) : Prop extends ShapeP c where
  idl : ∀ f : Nat, f < c.s.length → c.th (at0 c.e (at0 c.s f)) f = f ∧ c.th f (at0 c.e (at0 c.t f)) = f
  assoc : ∀ f g h : Nat, f < c.s.length → g < c.s.length → h < c.s.length → ¬ badAs c f g h

theorem fault_id {c : Cat} {f : Nat} (hf : f < c.s.length) (hb : badId c f) (h : ∀ j : Nat, j < f → ¬ badId c j) : faultOf c = (1, (f : Int), 0, 0) := by
  unfold faultOf
  rw [firstN_some hf hb h]
theorem fault_as {c : Cat} {f g k : Nat} (h0 : ∀ j : Nat, j < c.s.length → ¬ badId c j) (hf : f < c.s.length) (hg : g < c.s.length) (hk : k < c.s.length) (hp : badAs c f g k)
    (h1 : ∀ f' g' k' : Nat, f' < f → g' < c.s.length → k' < c.s.length → ¬ badAs c f' g' k') (h2 : ∀ g' k' : Nat, g' < g → k' < c.s.length → ¬ badAs c f g' k') (h3 : ∀ k' : Nat, k' < k → ¬ badAs c f g k') : faultOf c = (2, (f : Int), (g : Int), (k : Int)) := by
  unfold faultOf
  rw [firstN_none h0]
  simp only
  rw [first3_some (p := fun f g h : Nat => badAs c f g h) hf hg hk hp h1 h2 h3]
theorem fault_no {c : Cat} (h0 : ∀ j : Nat, j < c.s.length → ¬ badId c j) (h1 : ∀ f g k : Nat, f < c.s.length → g < c.s.length → k < c.s.length → ¬ badAs c f g k) : faultOf c = (0, 0, 0, 0) := by
  unfold faultOf
  rw [firstN_none h0]
  simp only
  rw [first3_none h1]

theorem fault_cases (c : Cat) : (∃ f : Nat, f < c.s.length ∧ badId c f ∧ (∀ j : Nat, j < f → ¬ badId c j)) ∨ ((∀ j : Nat, j < c.s.length → ¬ badId c j) ∧ ∃ f g k : Nat, f < c.s.length ∧ g < c.s.length ∧ k < c.s.length ∧ badAs c f g k) ∨ ((∀ j : Nat, j < c.s.length → ¬ badId c j) ∧ ∀ f g k : Nat, f < c.s.length → g < c.s.length → k < c.s.length → ¬ badAs c f g k) := by
  by_cases h : ∃ f : Nat, f < c.s.length ∧ badId c f
  · left
    have hx : ∀ n : Nat, (∃ f : Nat, f ≤ n ∧ f < c.s.length ∧ badId c f) → ∃ f : Nat, f < c.s.length ∧ badId c f ∧ (∀ j : Nat, j < f → ¬ badId c j) := by
      intro n
      induction n with
      | zero =>
        rintro ⟨f, h1, h2, h3⟩
        obtain rfl : f = 0 := by omega
        exact ⟨0, h2, h3, fun j hj => absurd hj (by omega)⟩
      | succ n ih =>
        rintro ⟨f, h1, h2, h3⟩
        by_cases h4 : ∃ f : Nat, f ≤ n ∧ f < c.s.length ∧ badId c f
        · exact ih h4
        · refine ⟨f, h2, h3, fun j hj hb => h4 ⟨j, by omega, by omega, hb⟩⟩
    obtain ⟨f, h1, h2⟩ := h
    exact hx f ⟨f, Nat.le_refl _, h1, h2⟩
  · right
    have h0 : ∀ j : Nat, j < c.s.length → ¬ badId c j := fun j hj hb => h ⟨j, hj, hb⟩
    by_cases h2 : ∃ f g k : Nat, f < c.s.length ∧ g < c.s.length ∧ k < c.s.length ∧ badAs c f g k
    · exact .inl ⟨h0, h2⟩
    · exact .inr ⟨h0, fun f g k hf hg hk hb => h2 ⟨f, g, k, hf, hg, hk, hb⟩⟩

/-- The kind of the first fault is 0 exactly of a category. -/
theorem fault_zero {c : Cat} : (faultOf c).1 = 0 ↔ (∀ j : Nat, j < c.s.length → ¬ badId c j) ∧ ∀ f g k : Nat, f < c.s.length → g < c.s.length → k < c.s.length → ¬ badAs c f g k := by
  constructor
  · intro h
    unfold faultOf at h
    cases h1 : firstN (fun f => badId c f) c.s.length with
    | some f => rw [h1] at h; simp at h
    | none =>
      rw [h1] at h
      simp only at h
      refine ⟨fun j hj => firstN_no h1 hj, fun f g k hf hg hk hb => ?_⟩
      have hex : ∃ r, first3 (fun f g h : Nat => badAs c f g h) c.s.length = some r := by
        unfold first3
        cases e1 : firstN (fun f : Nat => ∃ g h : Nat, g < c.s.length ∧ h < c.s.length ∧ badAs c f g h) c.s.length with
        | none => exact absurd ⟨g, k, hg, hk, hb⟩ (firstN_no e1 hf)
        | some f1 =>
          obtain ⟨g1, k1, hg1, hk1, hb1⟩ := firstN_prop e1
          simp only
          cases e2 : firstN (fun g : Nat => ∃ h : Nat, h < c.s.length ∧ badAs c f1 g h) c.s.length with
          | none => exact absurd ⟨k1, hk1, hb1⟩ (firstN_no e2 hg1)
          | some g2 =>
            obtain ⟨k2, hk2, hb2⟩ := firstN_prop e2
            simp only
            cases e3 : firstN (fun h : Nat => badAs c f1 g2 h) c.s.length with
            | none => exact absurd hb2 (firstN_no e3 hk2)
            | some k3 => exact ⟨_, rfl⟩
      obtain ⟨⟨r1, r2, r3⟩, hr⟩ := hex
      rw [hr] at h
      simp at h
  · rintro ⟨h1, h2⟩
    rw [fault_no h1 h2]

noncomputable def fIsShape (c : Cat) : Bool := bP (ShapeP c)
noncomputable def fIsCategory (c : Cat) : Bool := bP (IsCat c)
noncomputable def fFirstFault (c : Cat) : Int × Int × Int × Int × Int := if fIsShape c = true then ((faultOf c).1, (faultOf c).2.1, (faultOf c).2.2.1, (faultOf c).2.2.2, 0) else (0, 0, 0, 0, 1)

theorem isCat_iff {c : Cat} : IsCat c ↔ ShapeP c ∧ (faultOf c).1 = 0 := by
  rw [fault_zero]
  constructor
  · intro h
    exact ⟨h.toShapeP, fun j hj hb => hb (h.idl j hj), h.assoc⟩
  · rintro ⟨h1, h2, h3⟩
    exact ⟨h1, fun f hf => Classical.not_not.1 (h2 f hf), h3⟩

theorem at0_nat (l : List Int) (k : Nat) : at0 l (k : Int) = l.getD k 0 := by simp [at0]
theorem allP_at {n : Int} {l : List Int} (h : AllP n l) {k : Nat} (hk : k < l.length) : 0 ≤ at0 l k ∧ at0 l k < n := by
  rw [at0_nat]; exact h _ (mem_getD hk)

/-- What a shape has at its arrows, all as inequalities. -/
theorem ShapeP.src {c : Cat} (h : ShapeP c) {f : Nat} (hf : f < c.s.length) : 0 ≤ at0 c.s f ∧ at0 c.s f < c.ob := allP_at h.sa hf
theorem ShapeP.tgt {c : Cat} (h : ShapeP c) {f : Nat} (hf : f < c.s.length) : 0 ≤ at0 c.t f ∧ at0 c.t f < c.ob := allP_at h.ta (by rw [h.tl]; exact hf)
theorem ShapeP.idn {c : Cat} (h : ShapeP c) {x : Int} (h0 : 0 ≤ x) (h1 : x < c.ob) : 0 ≤ at0 c.e x ∧ at0 c.e x < c.s.length ∧ at0 c.s (at0 c.e x) = x ∧ at0 c.t (at0 c.e x) = x := by
  obtain ⟨k, rfl⟩ := Int.eq_ofNat_of_zero_le h0
  have := h.el
  have hk := h.id k (by omega)
  exact ⟨hk.1.1, hk.1.2, hk.2.1, hk.2.2⟩

end Go.Proofs.Ytgkfampgofjkfaa
