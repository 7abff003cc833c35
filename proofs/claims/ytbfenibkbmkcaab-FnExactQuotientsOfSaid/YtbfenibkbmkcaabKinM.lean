
/- Kinds of arrows: what they are. -/
import Derived.Test.YtbfenibkbmkcaabInv
import Derived.Test.YtbfenibkbmkcaabTab
set_option linter.unusedSimpArgs false
set_option linter.unusedVariables false
set_option linter.unusedSectionVars false
namespace Go.Proofs.Ytbfenibkbmkcaab
open Go.RowKit


/-- Different arrows always differ in one of some composites, which both have. -/
def cancP (fs : List (Int → Int)) (m : Nat) : Prop := ∀ g h : Nat, h < g → g < m → ∃ φ ∈ fs, φ g = -1 ∨ φ g ≠ φ h
def bef (c : Cat) (f : Int) : Int → Int := fun g => c.th g f
def beh (c : Cat) (f : Int) : Int → Int := fun g => c.th f g
def monoP (c : Cat) (f : Int) : Prop := cancP [bef c f] c.s.length
def epiP (c : Cat) (f : Int) : Prop := cancP [beh c f] c.s.length
noncomputable def solL (φ : Int → Int) (v : Int) (k : Nat) : List Int := filTo (fun g => φ (g : Int) = v) (fun g => (g : Int)) k
theorem sol_t {φ : Int → Int} {v : Int} {k : Nat} (h : φ (k : Int) = v) : solL φ v k ++ [(k : Int)] = solL φ v (k + 1) := filTo_t (p := fun g => φ (g : Int) = v) h
theorem sol_f {φ : Int → Int} {v : Int} {k : Nat} (h : ¬ φ (k : Int) = v) : solL φ v k = solL φ v (k + 1) := filTo_f (p := fun g => φ (g : Int) = v) h
theorem sol_len (φ : Int → Int) (v : Int) (k : Nat) : (solL φ v k).length ≤ k := filTo_len _ _ _
theorem sol_zero (φ : Int → Int) (v : Int) : solL φ v 0 = [] := rfl
theorem sol_mem {φ : Int → Int} {v : Int} {k : Nat} {x : Int} : x ∈ solL φ v k ↔ ∃ j : Nat, j < k ∧ φ (j : Int) = v ∧ (j : Int) = x := filTo_mem
noncomputable def retL (c : Cat) (f : Int) : List Int := solL (beh c f) (at0 c.e (at0 c.s f)) c.s.length
noncomputable def secL (c : Cat) (f : Int) : List Int := solL (bef c f) (at0 c.e (at0 c.t f)) c.s.length
theorem mem_atK {xs : List Int} {x : Int} (h : x ∈ xs) : ∃ j : Nat, j < xs.length ∧ at0 xs (j : Int) = x := by
  obtain ⟨j, hj, rfl⟩ := List.getElem_of_mem h
  exact ⟨j, hj, by rw [at0_nat, List.getD_eq_getElem?_getD, List.getElem?_eq_getElem hj]; rfl⟩
theorem th_m1 {c : Cat} (hS : ShapeP c) {f g : Int} (f0 : 0 ≤ f) (f1 : f < c.s.length) (g0 : 0 ≤ g) (g1 : g < c.s.length) (h : c.th f g ≠ -1) : at0 c.t f = at0 c.s g :=
  Classical.byContradiction fun hn => h ((th_none hS f0 f1 g0 g1).2 hn)
theorem ret_iff {c : Cat} (hS : ShapeP c) {f g : Int} (f0 : 0 ≤ f) (f1 : f < c.s.length) (g0 : 0 ≤ g) (g1 : g < c.s.length) :
    (at0 c.s g = at0 c.t f ∧ at0 c.t g = at0 c.s f ∧ c.th f g = at0 c.e (at0 c.s f)) ↔ beh c f g = at0 c.e (at0 c.s f) := by
  refine ⟨fun h => h.2.2, fun h => ?_⟩
  have hA := arrP hS f0 f1
  have hi := hS.idn (x := at0 c.s f) hA.s0 (by have := hA.s1; have := hS.el; omega)
  have h' : c.th f g = at0 c.e (at0 c.s f) := h
  have he := th_m1 hS f0 f1 g0 g1 (by rw [h']; have := hi.1; omega)
  have ht := th_ends hS f0 f1 g0 g1 he
  rw [h'] at ht
  exact ⟨he.symm, by rw [← ht.2.2, hi.2.2.2], h'⟩
theorem sec_iff {c : Cat} (hS : ShapeP c) {f g : Int} (f0 : 0 ≤ f) (f1 : f < c.s.length) (g0 : 0 ≤ g) (g1 : g < c.s.length) :
    (at0 c.s g = at0 c.t f ∧ at0 c.t g = at0 c.s f ∧ c.th g f = at0 c.e (at0 c.t f)) ↔ bef c f g = at0 c.e (at0 c.t f) := by
  refine ⟨fun h => h.2.2, fun h => ?_⟩
  have hA := arrP hS f0 f1
  have hi := hS.idn (x := at0 c.t f) hA.t0 (by have := hA.t1; have := hS.el; omega)
  have h' : c.th g f = at0 c.e (at0 c.t f) := h
  have he := th_m1 hS g0 g1 f0 f1 (by rw [h']; have := hi.1; omega)
  have ht := th_ends hS g0 g1 f0 f1 he
  rw [h'] at ht
  exact ⟨by rw [← ht.2.1, hi.2.2.1], he, h'⟩
theorem lift_iff {c : Cat} (hS : ShapeP c) {f g h : Int} (f0 : 0 ≤ f) (g0 : 0 ≤ g) (g1 : g < c.s.length) (h0 : 0 ≤ h) (h1 : h < c.s.length) :
    (at0 c.s h = at0 c.s f ∧ at0 c.t h = at0 c.s g ∧ c.th h g = f) ↔ bef c g h = f := by
  refine ⟨fun h => h.2.2, fun hh => ?_⟩
  have h' : c.th h g = f := hh
  have he := th_m1 hS h0 h1 g0 g1 (by rw [h']; omega)
  have ht := th_ends hS h0 h1 g0 g1 he
  rw [h'] at ht
  exact ⟨ht.2.1.symm, he, h'⟩
theorem ext_iff {c : Cat} (hS : ShapeP c) {f g h : Int} (f0 : 0 ≤ f) (g0 : 0 ≤ g) (g1 : g < c.s.length) (h0 : 0 ≤ h) (h1 : h < c.s.length) :
    (at0 c.s h = at0 c.t g ∧ at0 c.t h = at0 c.t f ∧ c.th g h = f) ↔ beh c g h = f := by
  refine ⟨fun h => h.2.2, fun hh => ?_⟩
  have h' : c.th g h = f := hh
  have he := th_m1 hS g0 g1 h0 h1 (by rw [h']; omega)
  have ht := th_ends hS g0 g1 h0 h1 he
  rw [h'] at ht
  exact ⟨he.symm, ht.2.2.symm, h'⟩
/-- Two arrows that f makes equal. -/
def badM (c : Cat) (f : Int) (g h : Nat) : Prop := at0 c.s g = at0 c.s h ∧ at0 c.t g = at0 c.s f ∧ at0 c.t h = at0 c.s f ∧ c.th g f = c.th h f
def badE (c : Cat) (f : Int) (g h : Nat) : Prop := at0 c.t g = at0 c.t h ∧ at0 c.s g = at0 c.t f ∧ at0 c.s h = at0 c.t f ∧ c.th f g = c.th f h
def noB (p : Nat → Nat → Prop) (m k l : Nat) : Prop := ∀ g h : Nat, (g < k ∨ g = k ∧ h < l) → g < h → h < m → ¬ p g h
theorem noB_zero (p : Nat → Nat → Prop) (m : Nat) : noB p m 0 0 := fun g h h1 => absurd h1 (by omega)
theorem noB_row {p : Nat → Nat → Prop} {m k : Nat} (h : noB p m k 0) : noB p m k (k + 1) := fun g x h1 h2 h3 => by
  rcases h1 with h1 | ⟨rfl, h1⟩
  · exact h g x (.inl h1) h2 h3
  · omega
theorem noB_next {p : Nat → Nat → Prop} {m k l : Nat} (h : noB p m k l) (hn : ¬ p k l) : noB p m k (l + 1) := fun g x h1 h2 h3 => by
  by_cases he : g = k ∧ x = l
  · obtain ⟨rfl, rfl⟩ := he; exact hn
  · exact h g x (by omega) h2 h3
theorem noB_end {p : Nat → Nat → Prop} {m k l : Nat} (h : noB p m k l) (hl : m ≤ l) : noB p m (k + 1) 0 := fun g x h1 h2 h3 => by
  rcases h1 with h1 | ⟨rfl, h1⟩
  · exact h g x (by omega) h2 h3
  · omega
theorem badM_iff {c : Cat} (hS : ShapeP c) {f : Int} (f0 : 0 ≤ f) (f1 : f < c.s.length) {g h : Nat} (hg : g < c.s.length) (hh : h < c.s.length) : badM c f g h ↔ ¬ (bef c f h = -1 ∨ bef c f h ≠ bef c f g) := by
  unfold bef
  have k1 := th_none hS (f := (h : Int)) (g := f) (by omega) (by omega) f0 f1
  constructor
  · rintro ⟨h1, h2, h3, h4⟩ (h5 | h5)
    · exact k1.1 h5 h3
    · exact h5 h4.symm
  · intro hn
    have e1 : c.th h f = c.th g f := Classical.byContradiction fun h => hn (.inr h)
    have e2 := th_m1 hS (f := (h : Int)) (g := f) (by omega) (by omega) f0 f1 fun h => hn (.inl h)
    have e3 := th_m1 hS (f := (g : Int)) (g := f) (by omega) (by omega) f0 f1 fun h => hn (.inl (e1.trans h))
    have t1 := th_ends hS (f := (h : Int)) (g := f) (by omega) (by omega) f0 f1 e2
    have t2 := th_ends hS (f := (g : Int)) (g := f) (by omega) (by omega) f0 f1 e3
    exact ⟨by rw [← t1.2.1, ← t2.2.1, e1], e3, e2, e1.symm⟩
theorem badE_iff {c : Cat} (hS : ShapeP c) {f : Int} (f0 : 0 ≤ f) (f1 : f < c.s.length) {g h : Nat} (hg : g < c.s.length) (hh : h < c.s.length) : badE c f g h ↔ ¬ (beh c f h = -1 ∨ beh c f h ≠ beh c f g) := by
  unfold beh
  have k1 := th_none hS (f := f) (g := (h : Int)) f0 f1 (by omega) (by omega)
  constructor
  · rintro ⟨h1, h2, h3, h4⟩ (h5 | h5)
    · exact k1.1 h5 h3.symm
    · exact h5 h4.symm
  · intro hn
    have e1 : c.th f h = c.th f g := Classical.byContradiction fun h => hn (.inr h)
    have e2 := th_m1 hS (f := f) (g := (h : Int)) f0 f1 (by omega) (by omega) fun h => hn (.inl h)
    have e3 := th_m1 hS (f := f) (g := (g : Int)) f0 f1 (by omega) (by omega) fun h => hn (.inl (e1.trans h))
    have t1 := th_ends hS (f := f) (g := (h : Int)) f0 f1 (by omega) (by omega) e2
    have t2 := th_ends hS (f := f) (g := (g : Int)) f0 f1 (by omega) (by omega) e3
    exact ⟨by rw [← t1.2.2, ← t2.2.2, e1], e3.symm, e2.symm, e1.symm⟩
theorem mono_of {c : Cat} (hS : ShapeP c) {f : Int} (f0 : 0 ≤ f) (f1 : f < c.s.length) (h : noB (badM c f) c.s.length c.s.length 0) : monoP c f := fun g x hx hg =>
  ⟨bef c f, by simp, Classical.byContradiction fun hn => h x g (.inl (by omega)) hx hg ((badM_iff hS f0 f1 (by omega) hg).2 hn)⟩
theorem mono_not {c : Cat} (hS : ShapeP c) {f : Int} (f0 : 0 ≤ f) (f1 : f < c.s.length) {g h : Nat} (hgh : g < h) (hh : h < c.s.length) (hb : badM c f g h) : ¬ monoP c f := fun hm => by
  obtain ⟨φ, h1, h2⟩ := hm h g hgh hh
  rw [List.mem_singleton] at h1; subst h1
  exact (badM_iff hS f0 f1 (by omega) hh).1 hb h2
theorem epi_of {c : Cat} (hS : ShapeP c) {f : Int} (f0 : 0 ≤ f) (f1 : f < c.s.length) (h : noB (badE c f) c.s.length c.s.length 0) : epiP c f := fun g x hx hg =>
  ⟨beh c f, by simp, Classical.byContradiction fun hn => h x g (.inl (by omega)) hx hg ((badE_iff hS f0 f1 (by omega) hg).2 hn)⟩
theorem epi_not {c : Cat} (hS : ShapeP c) {f : Int} (f0 : 0 ≤ f) (f1 : f < c.s.length) {g h : Nat} (hgh : g < h) (hh : h < c.s.length) (hb : badE c f g h) : ¬ epiP c f := fun hm => by
  obtain ⟨φ, h1, h2⟩ := hm h g hgh hh
  rw [List.mem_singleton] at h1; subst h1
  exact (badE_iff hS f0 f1 (by omega) hh).1 hb h2
theorem assocI {c : Cat} (hC : IsCat c) {f g h : Int} (f0 : 0 ≤ f) (f1 : f < c.s.length) (g0 : 0 ≤ g) (g1 : g < c.s.length) (h0 : 0 ≤ h) (h1 : h < c.s.length) (e1 : at0 c.t f = at0 c.s g) (e2 : at0 c.t g = at0 c.s h) : c.th (c.th f g) h = c.th f (c.th g h) := by
  obtain ⟨a, rfl⟩ := Int.eq_ofNat_of_zero_le f0
  obtain ⟨b, rfl⟩ := Int.eq_ofNat_of_zero_le g0
  obtain ⟨d, rfl⟩ := Int.eq_ofNat_of_zero_le h0
  have := hC.assoc a b d (by omega) (by omega) (by omega)
  exact Classical.byContradiction fun hn => this ⟨e1, e2, hn⟩
theorem unitL {c : Cat} (hC : IsCat c) {f : Int} (f0 : 0 ≤ f) (f1 : f < c.s.length) : c.th (at0 c.e (at0 c.s f)) f = f ∧ c.th f (at0 c.e (at0 c.t f)) = f := by
  obtain ⟨a, rfl⟩ := Int.eq_ofNat_of_zero_le f0
  exact hC.idl a (by omega)
theorem inv_uniq {c : Cat} (hC : IsCat c) {f g h : Int} (f0 : 0 ≤ f) (f1 : f < c.s.length) (g0 : 0 ≤ g) (g1 : g < c.s.length) (h0 : 0 ≤ h) (h1 : h < c.s.length) (s1 : at0 c.s g = at0 c.t f) (t1 : at0 c.t g = at0 c.s f) (s2 : at0 c.s h = at0 c.t f) (t2 : at0 c.t h = at0 c.s f)
    (e1 : c.th g f = at0 c.e (at0 c.t f)) (e2 : c.th f h = at0 c.e (at0 c.s f)) : g = h := by
  have a := assocI hC g0 g1 f0 f1 h0 h1 t1 s2.symm
  rw [e1, e2] at a
  have u1 := (unitL hC h0 h1).1
  have u2 := (unitL hC g0 g1).2
  rw [s2] at u1; rw [t1] at u2
  rw [u1, u2] at a
  exact a.symm
theorem findGo_in {c : Cat} {f : Int} : ∀ {xs : List Int}, (∃ g ∈ xs, invAt c f g) → findGo c f xs ∈ xs ∧ invAt c f (findGo c f xs)
  | [], h => by obtain ⟨g, h, _⟩ := h; simp at h
  | g :: r, h => by
    by_cases hi : invAt c f g
    · have : findGo c f (g :: r) = g := if_pos hi
      rw [this]; exact ⟨List.mem_cons_self .., hi⟩
    · have : findGo c f (g :: r) = findGo c f r := if_neg hi
      rw [this]
      obtain ⟨x, hx, hx2⟩ := h
      have ih := findGo_in (c := c) (f := f) (xs := r) (by
        rcases List.mem_cons.1 hx with rfl | hx
        · exact absurd hx2 hi
        · exact ⟨x, hx, hx2⟩)
      exact ⟨List.mem_cons_of_mem _ ih.1, ih.2⟩
/-- The inverse of an arrow, or -1. -/
noncomputable def invN (c : Cat) (f : Int) : Int := findGo c f (homTo c (at0 c.t f) (at0 c.s f) c.s.length)
theorem invN_neg {c : Cat} {f : Int} : invN c f < 0 ↔ ¬ hasInv c f := inv_neg
theorem invN_in {c : Cat} {f : Int} (h : hasInv c f) : 0 ≤ invN c f ∧ invN c f < c.s.length ∧ at0 c.s (invN c f) = at0 c.t f ∧ at0 c.t (invN c f) = at0 c.s f ∧ invAt c f (invN c f) := by
  have := findGo_in h
  obtain ⟨j, h1, h2, h3, h4⟩ := mem_homTo.1 this.1
  exact ⟨by show 0 ≤ findGo _ _ _; omega, by show findGo _ _ _ < _; omega, by show at0 c.s (findGo _ _ _) = _; rw [h2]; exact h3, by show at0 c.t (findGo _ _ _) = _; rw [h2]; exact h4, this.2⟩
theorem hasInv_of {c : Cat} {f g : Int} (g0 : 0 ≤ g) (g1 : g < c.s.length) (h1 : at0 c.s g = at0 c.t f) (h2 : at0 c.t g = at0 c.s f) (h : invAt c f g) : hasInv c f := by
  obtain ⟨j, rfl⟩ := Int.eq_ofNat_of_zero_le g0
  exact ⟨j, mem_homTo.2 ⟨j, by omega, rfl, h1, h2⟩, h⟩
theorem invN_eq {c : Cat} (hC : IsCat c) {f g : Int} (f0 : 0 ≤ f) (f1 : f < c.s.length) (g0 : 0 ≤ g) (g1 : g < c.s.length) (h1 : at0 c.s g = at0 c.t f) (h2 : at0 c.t g = at0 c.s f) (h : invAt c f g) : invN c f = g := by
  have hi := invN_in (hasInv_of g0 g1 h1 h2 h)
  exact inv_uniq hC f0 f1 hi.1 hi.2.1 g0 g1 hi.2.2.1 hi.2.2.2.1 h1 h2 hi.2.2.2.2.2 h.1
theorem both_inv {c : Cat} (hS : ShapeP c) {f g : Int} (f0 : 0 ≤ f) (f1 : f < c.s.length) (h1 : g ∈ retL c f) (h2 : g ∈ secL c f) : 0 ≤ g ∧ g < c.s.length ∧ at0 c.s g = at0 c.t f ∧ at0 c.t g = at0 c.s f ∧ invAt c f g := by
  obtain ⟨j, h3, h4, rfl⟩ := sol_mem.1 h1
  obtain ⟨i, h5, h6, h7⟩ := sol_mem.1 h2
  rw [h7] at h6
  have a := (ret_iff hS f0 f1 (g := (j : Int)) (by omega) (by omega)).2 h4
  have b := (sec_iff hS f0 f1 (g := (j : Int)) (by omega) (by omega)).2 h6
  exact ⟨by omega, by omega, a.1, a.2.1, a.2.2, b.2.2⟩
theorem inv_both {c : Cat} {f : Int} (h : hasInv c f) : ∃ g : Int, g ∈ retL c f ∧ g ∈ secL c f := by
  have hi := invN_in h
  obtain ⟨j, hj⟩ := Int.eq_ofNat_of_zero_le hi.1
  rw [hj] at hi
  exact ⟨j, sol_mem.2 ⟨j, by omega, hi.2.2.2.2.1, rfl⟩, sol_mem.2 ⟨j, by omega, hi.2.2.2.2.2, rfl⟩⟩
/-- What the look for an inverse has found. -/
theorem invN_found {c : Cat} (hC : IsCat c) {f : Int} (f0 : 0 ≤ f) (f1 : f < c.s.length) {k : Nat} (hk : k < (retL c f).length) (h : at0 (retL c f) (k : Int) ∈ secL c f) : invN c f = at0 (retL c f) (k : Int) := by
  have hb := both_inv hC.toShapeP f0 f1 (at0_mem hk) h
  exact invN_eq hC f0 f1 hb.1 hb.2.1 hb.2.2.1 hb.2.2.2.1 hb.2.2.2.2
theorem invN_none {c : Cat} {f : Int} (h : ∀ j : Nat, j < (retL c f).length → ¬ at0 (retL c f) (j : Int) ∈ secL c f) : invN c f = -1 := by
  have hn : ¬ hasInv c f := fun hh => by
    obtain ⟨g, h1, h2⟩ := inv_both hh
    obtain ⟨j, hj, rfl⟩ := List.getElem_of_mem h1
    exact h j hj (by rw [at0_nat, List.getD_eq_getElem?_getD, List.getElem?_eq_getElem hj]; exact h2)
  have key : ∀ xs : List Int, (∀ g ∈ xs, ¬ invAt c f g) → findGo c f xs = -1 := by
    intro xs
    induction xs with
    | nil => intro _; rfl
    | cons g r ih =>
      intro h
      have : findGo c f (g :: r) = findGo c f r := if_neg (h g (List.mem_cons_self ..))
      rw [this]; exact ih fun x hx => h x (List.mem_cons_of_mem _ hx)
  exact key _ fun g hg hi => hn ⟨g, hg, hi⟩
def addK (s k : Int) (b : Bool) : Int := bif b then s + k else s
theorem addK_t {s k : Int} {b : Bool} (h : b = true) : addK s k b = s + k := by rw [h]; rfl
theorem addK_f {s k : Int} {b : Bool} (h : b = false) : addK s k b = s := by rw [h]; rfl
/-- The number of the kinds of an arrow. -/
noncomputable def kindN (c : Cat) (f : Int) : Int := addK (addK (addK (addK (addK 0 1 (bP (monoP c f))) 2 (bP (epiP c f))) 4 (decide (0 < ((retL c f).length : Int)))) 8 (decide (0 < ((secL c f).length : Int)))) 16 (bP (hasInv c f))
noncomputable def fIsMono (c : Cat) (f : Int) : Bool × Int := if arrErr c [f] = 0 then (bP (monoP c f), 0) else (false, arrErr c [f])
noncomputable def fIsEpi (c : Cat) (f : Int) : Bool × Int := if arrErr c [f] = 0 then (bP (epiP c f), 0) else (false, arrErr c [f])
noncomputable def fIsIso (c : Cat) (f : Int) : Bool × Int := if arrErr c [f] = 0 then (bP (hasInv c f), 0) else (false, arrErr c [f])
def idemP (c : Cat) (e : Int) : Prop := c.th e e = e
noncomputable def fIsIdempotent (c : Cat) (f : Int) : Bool × Int := if arrErr c [f] = 0 then (bP (idemP c f), 0) else (false, arrErr c [f])
noncomputable def fRetractionsOf (c : Cat) (f : Int) : List Int × Int := if arrErr c [f] = 0 then (retL c f, 0) else ([], arrErr c [f])
noncomputable def fSectionsOf (c : Cat) (f : Int) : List Int × Int := if arrErr c [f] = 0 then (secL c f, 0) else ([], arrErr c [f])
noncomputable def fInverseArrow (c : Cat) (f : Int) : Int × Int := if arrErr c [f] = 0 then (if bP (hasInv c f) = true then (invN c f, 0) else (0, 4)) else (0, arrErr c [f])
noncomputable def fLiftsOf (c : Cat) (f g : Int) : List Int × Int := if arrErr c [f, g] = 0 then (if at0 c.t f = at0 c.t g then (solL (bef c g) f c.s.length, 0) else ([], 5)) else ([], arrErr c [f, g])
noncomputable def fExtensionsOf (c : Cat) (f g : Int) : List Int × Int := if arrErr c [f, g] = 0 then (if at0 c.s f = at0 c.s g then (solL (beh c g) f c.s.length, 0) else ([], 5)) else ([], arrErr c [f, g])
noncomputable def fArrowKinds (c : Cat) : List Int × Int := if fIsCategory c = true then (tabTo (fun f => kindN c (f : Int)) c.s.length, 0) else ([], 1)
def balP (c : Cat) : Prop := ∀ f : Nat, f < c.s.length → monoP c f → epiP c f → hasInv c f
noncomputable def fIsBalanced (c : Cat) : Bool × Int := if fIsCategory c = true then (bP (balP c), 0) else (false, 1)
theorem IsMono_e {c : Cat} {f : Int} (h : ¬ arrErr c [f] = 0) : fIsMono c f = (false, arrErr c [f]) := if_neg h
theorem IsMono_t {c : Cat} {f : Int} (h : arrErr c [f] = 0) : fIsMono c f = (bP (monoP c f), 0) := if_pos h
theorem IsEpi_e {c : Cat} {f : Int} (h : ¬ arrErr c [f] = 0) : fIsEpi c f = (false, arrErr c [f]) := if_neg h
theorem IsEpi_t {c : Cat} {f : Int} (h : arrErr c [f] = 0) : fIsEpi c f = (bP (epiP c f), 0) := if_pos h
theorem IsIso_e {c : Cat} {f : Int} (h : ¬ arrErr c [f] = 0) : fIsIso c f = (false, arrErr c [f]) := if_neg h
theorem IsIso_t {c : Cat} {f : Int} (h : arrErr c [f] = 0) : fIsIso c f = (bP (hasInv c f), 0) := if_pos h
theorem IsIdempotent_e {c : Cat} {f : Int} (h : ¬ arrErr c [f] = 0) : fIsIdempotent c f = (false, arrErr c [f]) := if_neg h
theorem IsIdempotent_t {c : Cat} {f : Int} (h : arrErr c [f] = 0) : fIsIdempotent c f = (bP (idemP c f), 0) := if_pos h
theorem RetractionsOf_e {c : Cat} {f : Int} (h : ¬ arrErr c [f] = 0) : fRetractionsOf c f = ([], arrErr c [f]) := if_neg h
theorem RetractionsOf_t {c : Cat} {f : Int} (h : arrErr c [f] = 0) : fRetractionsOf c f = (retL c f, 0) := if_pos h
theorem SectionsOf_e {c : Cat} {f : Int} (h : ¬ arrErr c [f] = 0) : fSectionsOf c f = ([], arrErr c [f]) := if_neg h
theorem SectionsOf_t {c : Cat} {f : Int} (h : arrErr c [f] = 0) : fSectionsOf c f = (secL c f, 0) := if_pos h
theorem LiftsOf_e {c : Cat} {f g : Int} (h : ¬ arrErr c [f, g] = 0) : fLiftsOf c f g = ([], arrErr c [f, g]) := if_neg h
theorem LiftsOf_s {c : Cat} {f g : Int} (h : arrErr c [f, g] = 0) (h2 : ¬ at0 c.t f = at0 c.t g) : fLiftsOf c f g = ([], 5) := by unfold fLiftsOf; rw [if_pos h, if_neg h2]
theorem LiftsOf_t {c : Cat} {f g : Int} (h : arrErr c [f, g] = 0) (h2 : at0 c.t f = at0 c.t g) : fLiftsOf c f g = (solL (bef c g) f c.s.length, 0) := by unfold fLiftsOf; rw [if_pos h, if_pos h2]
theorem ExtensionsOf_e {c : Cat} {f g : Int} (h : ¬ arrErr c [f, g] = 0) : fExtensionsOf c f g = ([], arrErr c [f, g]) := if_neg h
theorem ExtensionsOf_s {c : Cat} {f g : Int} (h : arrErr c [f, g] = 0) (h2 : ¬ at0 c.s f = at0 c.s g) : fExtensionsOf c f g = ([], 5) := by unfold fExtensionsOf; rw [if_pos h, if_neg h2]
theorem ExtensionsOf_t {c : Cat} {f g : Int} (h : arrErr c [f, g] = 0) (h2 : at0 c.s f = at0 c.s g) : fExtensionsOf c f g = (solL (beh c g) f c.s.length, 0) := by unfold fExtensionsOf; rw [if_pos h, if_pos h2]
theorem InverseArrow_e {c : Cat} {f : Int} (h : ¬ arrErr c [f] = 0) : fInverseArrow c f = (0, arrErr c [f]) := if_neg h
theorem InverseArrow_n {c : Cat} {f : Int} (h : arrErr c [f] = 0) (h2 : bP (hasInv c f) = false) : fInverseArrow c f = (0, 4) := by unfold fInverseArrow; rw [if_pos h, if_neg (by rw [h2]; decide)]
theorem InverseArrow_t {c : Cat} {f : Int} (h : arrErr c [f] = 0) (h2 : bP (hasInv c f) = true) : fInverseArrow c f = (invN c f, 0) := by unfold fInverseArrow; rw [if_pos h, if_pos h2]
theorem ArrowKinds_e {c : Cat} (h : fIsCategory c = false) : fArrowKinds c = ([], 1) := if_neg (by rw [h]; decide)
theorem ArrowKinds_t {c : Cat} (h : fIsCategory c = true) : fArrowKinds c = (tabTo (fun f => kindN c (f : Int)) c.s.length, 0) := if_pos h
theorem IsBalanced_e {c : Cat} (h : fIsCategory c = false) : fIsBalanced c = (false, 1) := if_neg (by rw [h]; decide)
theorem IsBalanced_t {c : Cat} (h : fIsCategory c = true) (h2 : balP c) : fIsBalanced c = (true, 0) := by unfold fIsBalanced; rw [if_pos h, bP_t h2]
theorem IsBalanced_n {c : Cat} (h : fIsCategory c = true) (h2 : ¬ balP c) : fIsBalanced c = (false, 0) := by unfold fIsBalanced; rw [if_pos h, bP_f h2]
theorem inv_dec {c : Cat} {f : Int} : bP (hasInv c f) = decide (0 ≤ invN c f) := by
  rw [← bP_dec]; exact bP_congr ⟨fun h => (invN_in h).1, fun h => Classical.byContradiction fun hn => absurd (invN_neg.2 hn) (by omega)⟩
theorem inv_decN {c : Cat} {f : Int} : decide (invN c f < 0) = !bP (hasInv c f) := by rw [inv_dec]; by_cases h : 0 ≤ invN c f <;> simp [h] <;> omega
theorem kind_is {c : Cat} {f y : Int} {m e r s i : Bool} (h1 : bP (monoP c f) = m) (h2 : bP (epiP c f) = e) (h3 : decide (0 < ((retL c f).length : Int)) = r) (h4 : decide (0 < ((secL c f).length : Int)) = s) (h5 : decide (0 ≤ invN c f) = i) (hy : y = addK (addK (addK (addK (addK 0 1 m) 2 e) 4 r) 8 s) 16 i) : y = kindN c f := by
  unfold kindN; rw [inv_dec, h1, h2, h3, h4, h5, hy]
theorem tabTo_put {φ : Nat → Int} {k : Nat} {y : Int} (h : y = φ k) : tabTo φ k ++ [y] = tabTo φ (k + 1) := by rw [h, tabTo_succ]
theorem idem_iff {c : Cat} (hS : ShapeP c) {e : Int} (e0 : 0 ≤ e) (e1 : e < c.s.length) : (at0 c.s e = at0 c.t e ∧ c.th e e = e) ↔ idemP c e := by
  refine ⟨fun h => h.2, fun h => ⟨?_, h⟩⟩
  exact (th_m1 hS e0 e1 e0 e1 (by rw [show c.th e e = e from h]; omega)).symm

end Go.Proofs.Ytbfenibkbmkcaab
