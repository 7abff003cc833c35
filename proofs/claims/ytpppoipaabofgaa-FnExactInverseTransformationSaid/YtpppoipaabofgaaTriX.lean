
/- What KinM, KinW, TrI hold, one behind the other. -/
import Derived.Test.YtpppoipaabofgaaShort
import Derived.Test.YtpppoipaabofgaaInv
import Derived.Test.YtpppoipaabofgaaTab
import Derived.Test.YtpppoipaabofgaaClo
import Derived.Test.YtpppoipaabofgaaTrM
set_option linter.unusedSimpArgs false
set_option linter.unusedVariables false
set_option linter.unusedSectionVars false
namespace Go.Proofs.Ytpppoipaabofgaa
open Go.RowKit
section
/-- Different arrows always differ in one of some composites, which both have. -/
def cancP (fs : List (Int → Int)) (m : Nat) : Prop := ∀ g h : Nat, h < g → g < m → ∃ φ ∈ fs, φ g = -1 ∨ φ g ≠ φ h
def bef (c : Cat) (f : Int) : Int → Int := fun g => c.th g f
def beh (c : Cat) (f : Int) : Int → Int := fun g => c.th f g
def monoP (c : Cat) (f : Int) : Prop := cancP [bef c f] c.s.length
def epiP (c : Cat) (f : Int) : Prop := cancP [beh c f] c.s.length
noncomputable def solL (φ : Int → Int) (v : Int) (k : Nat) : List Int := filTo (fun g => φ (g : Int) = v) (fun g => (g : Int)) k
theorem sol_t {φ : Int → Int} {v : Int} {k : Nat} (h : φ (k : Int) = v) : solL φ v k ++ [(k : Int)] = solL φ v (k + 1) := filTo_t (p := fun g => φ (g : Int) = v) h
theorem sol_f {φ : Int → Int} {v : Int} {k : Nat} (h : ¬ φ (k : Int) = v) : solL φ v k = solL φ v (k + 1) := filTo_f (p := fun g => φ (g : Int) = v) h
theorem sol_len (φ : Int → Int) (v : Int) (k : Nat) : (solL φ v k).length ≤ k := filTo_len _ _ _
theorem sol_zero (φ : Int → Int) (v : Int) : solL φ v 0 = [] := rfl
theorem sol_mem {φ : Int → Int} {v : Int} {k : Nat} {x : Int} : x ∈ solL φ v k ↔ ∃ j : Nat, j < k ∧ φ (j : Int) = v ∧ (j : Int) = x := filTo_mem
noncomputable def retL (c : Cat) (f : Int) : List Int := solL (beh c f) (at0 c.e (at0 c.s f)) c.s.length
noncomputable def secL (c : Cat) (f : Int) : List Int := solL (bef c f) (at0 c.e (at0 c.t f)) c.s.length
theorem mem_atK {xs : List Int} {x : Int} (h : x ∈ xs) : ∃ j : Nat, j < xs.length ∧ at0 xs (j : Int) = x := by
  obtain ⟨j, hj, rfl⟩ := List.getElem_of_mem h
  exact ⟨j, hj, by rw [at0_nat, List.getD_eq_getElem?_getD, List.getElem?_eq_getElem hj]; rfl⟩
theorem th_m1 {c : Cat} (hS : ShapeP c) {f g : Int} (f0 : 0 ≤ f) (f1 : f < c.s.length) (g0 : 0 ≤ g) (g1 : g < c.s.length) (h : c.th f g ≠ -1) : at0 c.t f = at0 c.s g :=
  Classical.byContradiction fun hn => h ((th_none hS f0 f1 g0 g1).2 hn)
theorem ret_iff {c : Cat} (hS : ShapeP c) {f g : Int} (f0 : 0 ≤ f) (f1 : f < c.s.length) (g0 : 0 ≤ g) (g1 : g < c.s.length) :
    (at0 c.s g = at0 c.t f ∧ at0 c.t g = at0 c.s f ∧ c.th f g = at0 c.e (at0 c.s f)) ↔ beh c f g = at0 c.e (at0 c.s f) := by
  refine ⟨fun h => h.2.2, fun h => ?_⟩
  have hA := arrP hS f0 f1
  have hi := hS.idn (x := at0 c.s f) hA.s0 (by have := hA.s1; have := hS.el; omega)
  have h' : c.th f g = at0 c.e (at0 c.s f) := h
  have he := th_m1 hS f0 f1 g0 g1 (by rw [h']; have := hi.1; omega)
  have ht := th_ends hS f0 f1 g0 g1 he
  rw [h'] at ht
  exact ⟨he.symm, by rw [← ht.2.2, hi.2.2.2], h'⟩
theorem sec_iff {c : Cat} (hS : ShapeP c) {f g : Int} (f0 : 0 ≤ f) (f1 : f < c.s.length) (g0 : 0 ≤ g) (g1 : g < c.s.length) :
    (at0 c.s g = at0 c.t f ∧ at0 c.t g = at0 c.s f ∧ c.th g f = at0 c.e (at0 c.t f)) ↔ bef c f g = at0 c.e (at0 c.t f) := by
  refine ⟨fun h => h.2.2, fun h => ?_⟩
  have hA := arrP hS f0 f1
  have hi := hS.idn (x := at0 c.t f) hA.t0 (by have := hA.t1; have := hS.el; omega)
  have h' : c.th g f = at0 c.e (at0 c.t f) := h
  have he := th_m1 hS g0 g1 f0 f1 (by rw [h']; have := hi.1; omega)
  have ht := th_ends hS g0 g1 f0 f1 he
  rw [h'] at ht
  exact ⟨by rw [← ht.2.1, hi.2.2.1], he, h'⟩
theorem lift_iff {c : Cat} (hS : ShapeP c) {f g h : Int} (f0 : 0 ≤ f) (g0 : 0 ≤ g) (g1 : g < c.s.length) (h0 : 0 ≤ h) (h1 : h < c.s.length) :
    (at0 c.s h = at0 c.s f ∧ at0 c.t h = at0 c.s g ∧ c.th h g = f) ↔ bef c g h = f := by
  refine ⟨fun h => h.2.2, fun hh => ?_⟩
  have h' : c.th h g = f := hh
  have he := th_m1 hS h0 h1 g0 g1 (by rw [h']; omega)
  have ht := th_ends hS h0 h1 g0 g1 he
  rw [h'] at ht
  exact ⟨ht.2.1.symm, he, h'⟩
theorem ext_iff {c : Cat} (hS : ShapeP c) {f g h : Int} (f0 : 0 ≤ f) (g0 : 0 ≤ g) (g1 : g < c.s.length) (h0 : 0 ≤ h) (h1 : h < c.s.length) :
    (at0 c.s h = at0 c.t g ∧ at0 c.t h = at0 c.t f ∧ c.th g h = f) ↔ beh c g h = f := by
  refine ⟨fun h => h.2.2, fun hh => ?_⟩
  have h' : c.th g h = f := hh
  have he := th_m1 hS g0 g1 h0 h1 (by rw [h']; omega)
  have ht := th_ends hS g0 g1 h0 h1 he
  rw [h'] at ht
  exact ⟨he.symm, ht.2.2.symm, h'⟩
/-- Two arrows that f makes equal. -/
def badM (c : Cat) (f : Int) (g h : Nat) : Prop := at0 c.s g = at0 c.s h ∧ at0 c.t g = at0 c.s f ∧ at0 c.t h = at0 c.s f ∧ c.th g f = c.th h f
def badE (c : Cat) (f : Int) (g h : Nat) : Prop := at0 c.t g = at0 c.t h ∧ at0 c.s g = at0 c.t f ∧ at0 c.s h = at0 c.t f ∧ c.th f g = c.th f h
def noB (p : Nat → Nat → Prop) (m k l : Nat) : Prop := ∀ g h : Nat, (g < k ∨ g = k ∧ h < l) → g < h → h < m → ¬ p g h
theorem noB_zero (p : Nat → Nat → Prop) (m : Nat) : noB p m 0 0 := fun g h h1 => absurd h1 (by omega)
theorem noB_row {p : Nat → Nat → Prop} {m k : Nat} (h : noB p m k 0) : noB p m k (k + 1) := fun g x h1 h2 h3 => by
  rcases h1 with h1 | ⟨rfl, h1⟩
  · exact h g x (.inl h1) h2 h3
  · omega
theorem noB_next {p : Nat → Nat → Prop} {m k l : Nat} (h : noB p m k l) (hn : ¬ p k l) : noB p m k (l + 1) := fun g x h1 h2 h3 => by
  by_cases he : g = k ∧ x = l
  · obtain ⟨rfl, rfl⟩ := he; exact hn
  · exact h g x (by omega) h2 h3
theorem noB_end {p : Nat → Nat → Prop} {m k l : Nat} (h : noB p m k l) (hl : m ≤ l) : noB p m (k + 1) 0 := fun g x h1 h2 h3 => by
  rcases h1 with h1 | ⟨rfl, h1⟩
  · exact h g x (by omega) h2 h3
  · omega
theorem badM_iff {c : Cat} (hS : ShapeP c) {f : Int} (f0 : 0 ≤ f) (f1 : f < c.s.length) {g h : Nat} (hg : g < c.s.length) (hh : h < c.s.length) : badM c f g h ↔ ¬ (bef c f h = -1 ∨ bef c f h ≠ bef c f g) := by
  unfold bef
  have k1 := th_none hS (f := (h : Int)) (g := f) (by omega) (by omega) f0 f1
  constructor
  · rintro ⟨h1, h2, h3, h4⟩ (h5 | h5)
    · exact k1.1 h5 h3
    · exact h5 h4.symm
  · intro hn
    have e1 : c.th h f = c.th g f := Classical.byContradiction fun h => hn (.inr h)
    have e2 := th_m1 hS (f := (h : Int)) (g := f) (by omega) (by omega) f0 f1 fun h => hn (.inl h)
    have e3 := th_m1 hS (f := (g : Int)) (g := f) (by omega) (by omega) f0 f1 fun h => hn (.inl (e1.trans h))
    have t1 := th_ends hS (f := (h : Int)) (g := f) (by omega) (by omega) f0 f1 e2
    have t2 := th_ends hS (f := (g : Int)) (g := f) (by omega) (by omega) f0 f1 e3
    exact ⟨by rw [← t1.2.1, ← t2.2.1, e1], e3, e2, e1.symm⟩
theorem badE_iff {c : Cat} (hS : ShapeP c) {f : Int} (f0 : 0 ≤ f) (f1 : f < c.s.length) {g h : Nat} (hg : g < c.s.length) (hh : h < c.s.length) : badE c f g h ↔ ¬ (beh c f h = -1 ∨ beh c f h ≠ beh c f g) := by
  unfold beh
  have k1 := th_none hS (f := f) (g := (h : Int)) f0 f1 (by omega) (by omega)
  constructor
  · rintro ⟨h1, h2, h3, h4⟩ (h5 | h5)
    · exact k1.1 h5 h3.symm
    · exact h5 h4.symm
  · intro hn
    have e1 : c.th f h = c.th f g := Classical.byContradiction fun h => hn (.inr h)
    have e2 := th_m1 hS (f := f) (g := (h : Int)) f0 f1 (by omega) (by omega) fun h => hn (.inl h)
    have e3 := th_m1 hS (f := f) (g := (g : Int)) f0 f1 (by omega) (by omega) fun h => hn (.inl (e1.trans h))
    have t1 := th_ends hS (f := f) (g := (h : Int)) f0 f1 (by omega) (by omega) e2
    have t2 := th_ends hS (f := f) (g := (g : Int)) f0 f1 (by omega) (by omega) e3
    exact ⟨by rw [← t1.2.2, ← t2.2.2, e1], e3.symm, e2.symm, e1.symm⟩
theorem mono_of {c : Cat} (hS : ShapeP c) {f : Int} (f0 : 0 ≤ f) (f1 : f < c.s.length) (h : noB (badM c f) c.s.length c.s.length 0) : monoP c f := fun g x hx hg =>
  ⟨bef c f, by simp, Classical.byContradiction fun hn => h x g (.inl (by omega)) hx hg ((badM_iff hS f0 f1 (by omega) hg).2 hn)⟩
theorem mono_not {c : Cat} (hS : ShapeP c) {f : Int} (f0 : 0 ≤ f) (f1 : f < c.s.length) {g h : Nat} (hgh : g < h) (hh : h < c.s.length) (hb : badM c f g h) : ¬ monoP c f := fun hm => by
  obtain ⟨φ, h1, h2⟩ := hm h g hgh hh
  rw [List.mem_singleton] at h1; subst h1
  exact (badM_iff hS f0 f1 (by omega) hh).1 hb h2
theorem epi_of {c : Cat} (hS : ShapeP c) {f : Int} (f0 : 0 ≤ f) (f1 : f < c.s.length) (h : noB (badE c f) c.s.length c.s.length 0) : epiP c f := fun g x hx hg =>
  ⟨beh c f, by simp, Classical.byContradiction fun hn => h x g (.inl (by omega)) hx hg ((badE_iff hS f0 f1 (by omega) hg).2 hn)⟩
theorem epi_not {c : Cat} (hS : ShapeP c) {f : Int} (f0 : 0 ≤ f) (f1 : f < c.s.length) {g h : Nat} (hgh : g < h) (hh : h < c.s.length) (hb : badE c f g h) : ¬ epiP c f := fun hm => by
  obtain ⟨φ, h1, h2⟩ := hm h g hgh hh
  rw [List.mem_singleton] at h1; subst h1
  exact (badE_iff hS f0 f1 (by omega) hh).1 hb h2
theorem assocI {c : Cat} (hC : IsCat c) {f g h : Int} (f0 : 0 ≤ f) (f1 : f < c.s.length) (g0 : 0 ≤ g) (g1 : g < c.s.length) (h0 : 0 ≤ h) (h1 : h < c.s.length) (e1 : at0 c.t f = at0 c.s g) (e2 : at0 c.t g = at0 c.s h) : c.th (c.th f g) h = c.th f (c.th g h) := by
  obtain ⟨a, rfl⟩ := Int.eq_ofNat_of_zero_le f0
  obtain ⟨b, rfl⟩ := Int.eq_ofNat_of_zero_le g0
  obtain ⟨d, rfl⟩ := Int.eq_ofNat_of_zero_le h0
  have := hC.assoc a b d (by omega) (by omega) (by omega)
  exact Classical.byContradiction fun hn => this ⟨e1, e2, hn⟩
theorem unitL {c : Cat} (hC : IsCat c) {f : Int} (f0 : 0 ≤ f) (f1 : f < c.s.length) : c.th (at0 c.e (at0 c.s f)) f = f ∧ c.th f (at0 c.e (at0 c.t f)) = f := by
  obtain ⟨a, rfl⟩ := Int.eq_ofNat_of_zero_le f0
  exact hC.idl a (by omega)
theorem inv_uniq {c : Cat} (hC : IsCat c) {f g h : Int} (f0 : 0 ≤ f) (f1 : f < c.s.length) (g0 : 0 ≤ g) (g1 : g < c.s.length) (h0 : 0 ≤ h) (h1 : h < c.s.length) (s1 : at0 c.s g = at0 c.t f) (t1 : at0 c.t g = at0 c.s f) (s2 : at0 c.s h = at0 c.t f) (t2 : at0 c.t h = at0 c.s f)
    (e1 : c.th g f = at0 c.e (at0 c.t f)) (e2 : c.th f h = at0 c.e (at0 c.s f)) : g = h := by
  have a := assocI hC g0 g1 f0 f1 h0 h1 t1 s2.symm
  rw [e1, e2] at a
  have u1 := (unitL hC h0 h1).1
  have u2 := (unitL hC g0 g1).2
  rw [s2] at u1; rw [t1] at u2
  rw [u1, u2] at a
  exact a.symm
theorem findGo_in {c : Cat} {f : Int} : ∀ {xs : List Int}, (∃ g ∈ xs, invAt c f g) → findGo c f xs ∈ xs ∧ invAt c f (findGo c f xs)
  | [], h => by obtain ⟨g, h, _⟩ := h; simp at h
  | g :: r, h => by
    by_cases hi : invAt c f g
    · have : findGo c f (g :: r) = g := if_pos hi
      rw [this]; exact ⟨List.mem_cons_self .., hi⟩
    · have : findGo c f (g :: r) = findGo c f r := if_neg hi
      rw [this]
      obtain ⟨x, hx, hx2⟩ := h
      have ih := findGo_in (c := c) (f := f) (xs := r) (by
        rcases List.mem_cons.1 hx with rfl | hx
        · exact absurd hx2 hi
        · exact ⟨x, hx, hx2⟩)
      exact ⟨List.mem_cons_of_mem _ ih.1, ih.2⟩
/-- The inverse of an arrow, or -1. -/
noncomputable def invN (c : Cat) (f : Int) : Int := findGo c f (homTo c (at0 c.t f) (at0 c.s f) c.s.length)
theorem invN_neg {c : Cat} {f : Int} : invN c f < 0 ↔ ¬ hasInv c f := inv_neg
theorem invN_in {c : Cat} {f : Int} (h : hasInv c f) : 0 ≤ invN c f ∧ invN c f < c.s.length ∧ at0 c.s (invN c f) = at0 c.t f ∧ at0 c.t (invN c f) = at0 c.s f ∧ invAt c f (invN c f) := by
  have := findGo_in h
  obtain ⟨j, h1, h2, h3, h4⟩ := mem_homTo.1 this.1
  exact ⟨by show 0 ≤ findGo _ _ _; omega, by show findGo _ _ _ < _; omega, by show at0 c.s (findGo _ _ _) = _; rw [h2]; exact h3, by show at0 c.t (findGo _ _ _) = _; rw [h2]; exact h4, this.2⟩
theorem hasInv_of {c : Cat} {f g : Int} (g0 : 0 ≤ g) (g1 : g < c.s.length) (h1 : at0 c.s g = at0 c.t f) (h2 : at0 c.t g = at0 c.s f) (h : invAt c f g) : hasInv c f := by
  obtain ⟨j, rfl⟩ := Int.eq_ofNat_of_zero_le g0
  exact ⟨j, mem_homTo.2 ⟨j, by omega, rfl, h1, h2⟩, h⟩
theorem invN_eq {c : Cat} (hC : IsCat c) {f g : Int} (f0 : 0 ≤ f) (f1 : f < c.s.length) (g0 : 0 ≤ g) (g1 : g < c.s.length) (h1 : at0 c.s g = at0 c.t f) (h2 : at0 c.t g = at0 c.s f) (h : invAt c f g) : invN c f = g := by
  have hi := invN_in (hasInv_of g0 g1 h1 h2 h)
  exact inv_uniq hC f0 f1 hi.1 hi.2.1 g0 g1 hi.2.2.1 hi.2.2.2.1 h1 h2 hi.2.2.2.2.2 h.1
theorem both_inv {c : Cat} (hS : ShapeP c) {f g : Int} (f0 : 0 ≤ f) (f1 : f < c.s.length) (h1 : g ∈ retL c f) (h2 : g ∈ secL c f) : 0 ≤ g ∧ g < c.s.length ∧ at0 c.s g = at0 c.t f ∧ at0 c.t g = at0 c.s f ∧ invAt c f g := by
  obtain ⟨j, h3, h4, rfl⟩ := sol_mem.1 h1
  obtain ⟨i, h5, h6, h7⟩ := sol_mem.1 h2
  rw [h7] at h6
  have a := (ret_iff hS f0 f1 (g := (j : Int)) (by omega) (by omega)).2 h4
  have b := (sec_iff hS f0 f1 (g := (j : Int)) (by omega) (by omega)).2 h6
  exact ⟨by omega, by omega, a.1, a.2.1, a.2.2, b.2.2⟩
theorem inv_both {c : Cat} {f : Int} (h : hasInv c f) : ∃ g : Int, g ∈ retL c f ∧ g ∈ secL c f := by
  have hi := invN_in h
  obtain ⟨j, hj⟩ := Int.eq_ofNat_of_zero_le hi.1
  rw [hj] at hi
  exact ⟨j, sol_mem.2 ⟨j, by omega, hi.2.2.2.2.1, rfl⟩, sol_mem.2 ⟨j, by omega, hi.2.2.2.2.2, rfl⟩⟩
/-- What the look for an inverse has found. -/
theorem invN_found {c : Cat} (hC : IsCat c) {f : Int} (f0 : 0 ≤ f) (f1 : f < c.s.length) {k : Nat} (hk : k < (retL c f).length) (h : at0 (retL c f) (k : Int) ∈ secL c f) : invN c f = at0 (retL c f) (k : Int) := by
  have hb := both_inv hC.toShapeP f0 f1 (at0_mem hk) h
  exact invN_eq hC f0 f1 hb.1 hb.2.1 hb.2.2.1 hb.2.2.2.1 hb.2.2.2.2
theorem invN_none {c : Cat} {f : Int} (h : ∀ j : Nat, j < (retL c f).length → ¬ at0 (retL c f) (j : Int) ∈ secL c f) : invN c f = -1 := by
  have hn : ¬ hasInv c f := fun hh => by
    obtain ⟨g, h1, h2⟩ := inv_both hh
    obtain ⟨j, hj, rfl⟩ := List.getElem_of_mem h1
    exact h j hj (by rw [at0_nat, List.getD_eq_getElem?_getD, List.getElem?_eq_getElem hj]; exact h2)
  have key : ∀ xs : List Int, (∀ g ∈ xs, ¬ invAt c f g) → findGo c f xs = -1 := by
    intro xs
    induction xs with
    | nil => intro _; rfl
    | cons g r ih =>
      intro h
      have : findGo c f (g :: r) = findGo c f r := if_neg (h g (List.mem_cons_self ..))
      rw [this]; exact ih fun x hx => h x (List.mem_cons_of_mem _ hx)
  exact key _ fun g hg hi => hn ⟨g, hg, hi⟩
def addK (s k : Int) (b : Bool) : Int := bif b then s + k else s
theorem addK_t {s k : Int} {b : Bool} (h : b = true) : addK s k b = s + k := by rw [h]; rfl
theorem addK_f {s k : Int} {b : Bool} (h : b = false) : addK s k b = s := by rw [h]; rfl
/-- The number of the kinds of an arrow. -/
noncomputable def kindN (c : Cat) (f : Int) : Int := addK (addK (addK (addK (addK 0 1 (bP (monoP c f))) 2 (bP (epiP c f))) 4 (decide (0 < ((retL c f).length : Int)))) 8 (decide (0 < ((secL c f).length : Int)))) 16 (bP (hasInv c f))
noncomputable def fIsMono (c : Cat) (f : Int) : Bool × Int := if arrErr c [f] = 0 then (bP (monoP c f), 0) else (false, arrErr c [f])
noncomputable def fIsEpi (c : Cat) (f : Int) : Bool × Int := if arrErr c [f] = 0 then (bP (epiP c f), 0) else (false, arrErr c [f])
noncomputable def fIsIso (c : Cat) (f : Int) : Bool × Int := if arrErr c [f] = 0 then (bP (hasInv c f), 0) else (false, arrErr c [f])
def idemP (c : Cat) (e : Int) : Prop := c.th e e = e
noncomputable def fIsIdempotent (c : Cat) (f : Int) : Bool × Int := if arrErr c [f] = 0 then (bP (idemP c f), 0) else (false, arrErr c [f])
noncomputable def fRetractionsOf (c : Cat) (f : Int) : List Int × Int := if arrErr c [f] = 0 then (retL c f, 0) else ([], arrErr c [f])
noncomputable def fSectionsOf (c : Cat) (f : Int) : List Int × Int := if arrErr c [f] = 0 then (secL c f, 0) else ([], arrErr c [f])
noncomputable def fInverseArrow (c : Cat) (f : Int) : Int × Int := if arrErr c [f] = 0 then (if bP (hasInv c f) = true then (invN c f, 0) else (0, 4)) else (0, arrErr c [f])
noncomputable def fLiftsOf (c : Cat) (f g : Int) : List Int × Int := if arrErr c [f, g] = 0 then (if at0 c.t f = at0 c.t g then (solL (bef c g) f c.s.length, 0) else ([], 5)) else ([], arrErr c [f, g])
noncomputable def fExtensionsOf (c : Cat) (f g : Int) : List Int × Int := if arrErr c [f, g] = 0 then (if at0 c.s f = at0 c.s g then (solL (beh c g) f c.s.length, 0) else ([], 5)) else ([], arrErr c [f, g])
noncomputable def fArrowKinds (c : Cat) : List Int × Int := if fIsCategory c = true then (tabTo (fun f => kindN c (f : Int)) c.s.length, 0) else ([], 1)
def balP (c : Cat) : Prop := ∀ f : Nat, f < c.s.length → monoP c f → epiP c f → hasInv c f
noncomputable def fIsBalanced (c : Cat) : Bool × Int := if fIsCategory c = true then (bP (balP c), 0) else (false, 1)
theorem IsMono_e {c : Cat} {f : Int} (h : ¬ arrErr c [f] = 0) : fIsMono c f = (false, arrErr c [f]) := if_neg h
theorem IsMono_t {c : Cat} {f : Int} (h : arrErr c [f] = 0) : fIsMono c f = (bP (monoP c f), 0) := if_pos h
theorem IsEpi_e {c : Cat} {f : Int} (h : ¬ arrErr c [f] = 0) : fIsEpi c f = (false, arrErr c [f]) := if_neg h
theorem IsEpi_t {c : Cat} {f : Int} (h : arrErr c [f] = 0) : fIsEpi c f = (bP (epiP c f), 0) := if_pos h
theorem IsIso_e {c : Cat} {f : Int} (h : ¬ arrErr c [f] = 0) : fIsIso c f = (false, arrErr c [f]) := if_neg h
theorem IsIso_t {c : Cat} {f : Int} (h : arrErr c [f] = 0) : fIsIso c f = (bP (hasInv c f), 0) := if_pos h
theorem IsIdempotent_e {c : Cat} {f : Int} (h : ¬ arrErr c [f] = 0) : fIsIdempotent c f = (false, arrErr c [f]) := if_neg h
theorem IsIdempotent_t {c : Cat} {f : Int} (h : arrErr c [f] = 0) : fIsIdempotent c f = (bP (idemP c f), 0) := if_pos h
theorem RetractionsOf_e {c : Cat} {f : Int} (h : ¬ arrErr c [f] = 0) : fRetractionsOf c f = ([], arrErr c [f]) := if_neg h
theorem RetractionsOf_t {c : Cat} {f : Int} (h : arrErr c [f] = 0) : fRetractionsOf c f = (retL c f, 0) := if_pos h
theorem SectionsOf_e {c : Cat} {f : Int} (h : ¬ arrErr c [f] = 0) : fSectionsOf c f = ([], arrErr c [f]) := if_neg h
theorem SectionsOf_t {c : Cat} {f : Int} (h : arrErr c [f] = 0) : fSectionsOf c f = (secL c f, 0) := if_pos h
theorem LiftsOf_e {c : Cat} {f g : Int} (h : ¬ arrErr c [f, g] = 0) : fLiftsOf c f g = ([], arrErr c [f, g]) := if_neg h
theorem LiftsOf_s {c : Cat} {f g : Int} (h : arrErr c [f, g] = 0) (h2 : ¬ at0 c.t f = at0 c.t g) : fLiftsOf c f g = ([], 5) := by unfold fLiftsOf; rw [if_pos h, if_neg h2]
theorem LiftsOf_t {c : Cat} {f g : Int} (h : arrErr c [f, g] = 0) (h2 : at0 c.t f = at0 c.t g) : fLiftsOf c f g = (solL (bef c g) f c.s.length, 0) := by unfold fLiftsOf; rw [if_pos h, if_pos h2]
theorem ExtensionsOf_e {c : Cat} {f g : Int} (h : ¬ arrErr c [f, g] = 0) : fExtensionsOf c f g = ([], arrErr c [f, g]) := if_neg h
theorem ExtensionsOf_s {c : Cat} {f g : Int} (h : arrErr c [f, g] = 0) (h2 : ¬ at0 c.s f = at0 c.s g) : fExtensionsOf c f g = ([], 5) := by unfold fExtensionsOf; rw [if_pos h, if_neg h2]
theorem ExtensionsOf_t {c : Cat} {f g : Int} (h : arrErr c [f, g] = 0) (h2 : at0 c.s f = at0 c.s g) : fExtensionsOf c f g = (solL (beh c g) f c.s.length, 0) := by unfold fExtensionsOf; rw [if_pos h, if_pos h2]
theorem InverseArrow_e {c : Cat} {f : Int} (h : ¬ arrErr c [f] = 0) : fInverseArrow c f = (0, arrErr c [f]) := if_neg h
theorem InverseArrow_n {c : Cat} {f : Int} (h : arrErr c [f] = 0) (h2 : bP (hasInv c f) = false) : fInverseArrow c f = (0, 4) := by unfold fInverseArrow; rw [if_pos h, if_neg (by rw [h2]; decide)]
theorem InverseArrow_t {c : Cat} {f : Int} (h : arrErr c [f] = 0) (h2 : bP (hasInv c f) = true) : fInverseArrow c f = (invN c f, 0) := by unfold fInverseArrow; rw [if_pos h, if_pos h2]
theorem ArrowKinds_e {c : Cat} (h : fIsCategory c = false) : fArrowKinds c = ([], 1) := if_neg (by rw [h]; decide)
theorem ArrowKinds_t {c : Cat} (h : fIsCategory c = true) : fArrowKinds c = (tabTo (fun f => kindN c (f : Int)) c.s.length, 0) := if_pos h
theorem IsBalanced_e {c : Cat} (h : fIsCategory c = false) : fIsBalanced c = (false, 1) := if_neg (by rw [h]; decide)
theorem IsBalanced_t {c : Cat} (h : fIsCategory c = true) (h2 : balP c) : fIsBalanced c = (true, 0) := by unfold fIsBalanced; rw [if_pos h, bP_t h2]
theorem IsBalanced_n {c : Cat} (h : fIsCategory c = true) (h2 : ¬ balP c) : fIsBalanced c = (false, 0) := by unfold fIsBalanced; rw [if_pos h, bP_f h2]
theorem inv_dec {c : Cat} {f : Int} : bP (hasInv c f) = decide (0 ≤ invN c f) := by
  rw [← bP_dec]; exact bP_congr ⟨fun h => (invN_in h).1, fun h => Classical.byContradiction fun hn => absurd (invN_neg.2 hn) (by omega)⟩
theorem inv_decN {c : Cat} {f : Int} : decide (invN c f < 0) = !bP (hasInv c f) := by rw [inv_dec]; by_cases h : 0 ≤ invN c f <;> simp [h] <;> omega
theorem kind_is {c : Cat} {f y : Int} {m e r s i : Bool} (h1 : bP (monoP c f) = m) (h2 : bP (epiP c f) = e) (h3 : decide (0 < ((retL c f).length : Int)) = r) (h4 : decide (0 < ((secL c f).length : Int)) = s) (h5 : decide (0 ≤ invN c f) = i) (hy : y = addK (addK (addK (addK (addK 0 1 m) 2 e) 4 r) 8 s) 16 i) : y = kindN c f := by
  unfold kindN; rw [inv_dec, h1, h2, h3, h4, h5, hy]
theorem tabTo_put {φ : Nat → Int} {k : Nat} {y : Int} (h : y = φ k) : tabTo φ k ++ [y] = tabTo φ (k + 1) := by rw [h, tabTo_succ]
theorem idem_iff {c : Cat} (hS : ShapeP c) {e : Int} (e0 : 0 ≤ e) (e1 : e < c.s.length) : (at0 c.s e = at0 c.t e ∧ c.th e e = e) ↔ idemP c e := by
  refine ⟨fun h => h.2, fun h => ⟨?_, h⟩⟩
  exact (th_m1 hS e0 e1 e0 e1 (by rw [show c.th e e = e from h]; omega)).symm
end

section
set_option maxHeartbeats 1000000 in
set_option maxRecDepth 100000 in
theorem has5_any (w : World) (u : Value) (xs : List Int) (x : Int) (hu : Rd w u xs) :
  Calls Try.prog 127 #[u, .int .i64 x] w (RetB w (decide (x ∈ xs))) := by
 obtain ⟨ua, uc, rfl⟩ := rd_form hu
 have hxl : xs.length ≤ 17592186044415 := by obtain ⟨_, _, _, hl, _⟩ := hu; exact hl
 go_enter Try.func127, Try.ntmps127
 refine gc_enter (N := 18) rfl (look_cons (k := 0) rfl (look_cons (k := 1) rfl (look_nil _))) ?_
 refine gc_sr fun K1 hK1 => ?_
 refine gas ?_
 refine gnt (hK1 _ _ ?_)
 refine gc_seq fun K2 hK2 => ?_
 refine gc_sr fun K3 hK3 => ?_
 refine gas ?_
 refine gnt (hK3 _ _ ?_)
 refine gc_block ?_
 try simp only [sL]
 refine gc_loopT ([(0, _), (1, _)] : Env) (fun s : Nat => (fun (k : Nat) => (([(5, .int .i64 (k : Int))] : Env), ([] : List (Nat × Itm)), k ≤ xs.length ∧ ∀ j : Nat, j < k → ¬ at0 xs (j : Int) = x, xs.length - k)) s) (0) (by repeat first | exact sub_nil | refine sub_cons rfl ?_) rfl ⟨Nat.zero_le _, fun j hj => absurd hj (by omega)⟩ ?_
 rintro k hinv KL4 hKL4
 simp only [sU, sL] at hinv hKL4 ⊢
 obtain ⟨hk, hno⟩ := hinv
 refine gc_seq fun K5 hK5 => ?_
 refine gc_sr fun K6 hK6 => ?_
 refine gm ?_
 refine gm ?_
 refine gv (qln (fun w M => lenV_rd hu)) ?_
 refine gv (qt_lss rfl rfl rfl) ?_
 refine gnt (hK6 _ _ ?_)
 refine gc_cond rfl (fun hc0 => ?_) (fun hc0 => ?_)
 ·try simp only [sA] at hc0
  refine gc_skip ?_
  refine gk_then (hK5 _ _ ?_)
  refine gc_seq fun K7 hK7 => ?_
  refine gc_block ?_
  refine gc_sr fun K8 hK8 => ?_
  refine gm ?_
  refine gm ?_
  refine gv (qti (fun w M => lenA_rd hu)) ?_
  refine gv (qtd (fun w M => mem_rd M hu)) ?_
  refine gm ?_
  refine gv (qt_eql rfl rfl rfl) ?_
  refine gnt (hK8 _ _ ?_)
  refine gc_cond rfl (fun hc1 => ?_) (fun hc1 => ?_)
  ·try simp only [sA] at hc1
   refine gc_sr fun K9 hK9 => ?_
   refine gas ?_
   refine gnt (hK9 _ _ ?_)
   refine gc_ret ?_
   refine gk_block_ret ?_
   refine gk_then_ret ?_
   refine gk_then_ret ?_
   refine gk_block_ret ?_
   refine gk_then_ret ?_
   refine ret_1 rfl rfl  (fun w M => ?_)
   rw [decide_eq_true (show x ∈ xs from hc1 ▸ at0_mem (by omega))]; exact ⟨rfl, M.1⟩
  ·try simp only [sA] at hc1
   refine gc_skip ?_
   refine gk_block ?_
   refine gk_then (hK7 _ _ ?_)
   refine gc_region ?_
   refine gm ?_
   refine gv (qt_add rfl rfl rfl (by omega)) ?_
   refine gas ?_
   refine g_nil ?_
   refine gk_then (gk_take 0 ?_)
   refine gk_sub ?hs_10 (hKL4 (k + 1) ?hi_10 ?hm_10)
   case hs_10 => repeat first | exact sub_nil | refine sub_cons rfl ?_
   case hi_10 => exact ⟨by omega, all_next hno hc1⟩
   case hm_10 => omega
 ·try simp only [sA] at hc0
  refine gc_exit ?_
  refine gk_then_exit ?_
  refine gk_then_exit ?_
  refine gk_block_hit ?_
  refine gk_then (hK2 _ _ ?_)
  refine gc_sr fun K11 hK11 => ?_
  refine gas ?_
  refine gnt (hK11 _ _ ?_)
  refine gc_ret ?_
  refine ret_1 rfl rfl  (fun w M => ?_)
  have hn : ¬ x ∈ xs := fun hm => by
   obtain ⟨j, hj, he⟩ := mem_atK hm
   exact hno j (by omega) he
  rw [decide_eq_false hn]; exact ⟨rfl, M.1⟩

set_option maxHeartbeats 1000000 in
set_option maxRecDepth 100000 in
theorem specRet_any (w : World) (v : Value) (c : Cat) (f : Int) (h : RdC w v c) (hS : ShapeP c) (f0 : 0 ≤ f) (f1 : f < c.s.length) :
  Calls Try.prog 125 #[v, .int .i64 f] w (RetL w (retL c f)) := by
 have h0 := h
 obtain ⟨va, vb, vc, vd, ve, vf, vg, vh, rfl, h1, h2, h3, h4, _⟩ := h.lists
 have hf := arrP hS f0 f1
 have e1 := hf.fs; have e2 := hf.ft; have e3 := hf.fm; have e4 := hf.s0; have e5 := hf.s1; have e6 := hf.t0; have e7 := hf.t1; have e8 := hf.row
 have hn40 := hS.n40; have htl := hS.tl; have hel := hS.el
 go_enter Try.func125, Try.ntmps125
 refine gc_enter (N := 64) rfl (look_cons (k := 0) rfl (look_cons (k := 1) rfl (look_nil _))) ?_
 refine gc_sr fun K1 hK1 => ?_
 refine gop fun K3 hK3 => ?_
 refine go_box rfl rfl rfl rfl rfl ?_
 intro B2
 refine hK3 _ _ ?_
 refine gas ?_
 refine gnt (hK1 _ _ ?_)
 refine gc_sr fun K4 hK4 => ?_
 refine gop fun K6 hK6 => ?_
 refine go_slice0 rfl rfl rfl Try.underlying22 ?_
 intro B5
 refine hK6 _ _ ?_
 refine gas ?_
 refine gnt (hK4 _ _ ?_)
 refine gc_seq fun K7 hK7 => ?_
 refine gc_sr fun K8 hK8 => ?_
 refine gas ?_
 refine gnt (hK8 _ _ ?_)
 refine gc_block ?_
 try simp only [sL]
 refine gc_loopT ([(0, _), (1, _), (2, _), (4, _)] : Env) (fun s : Nat × (Option Addr) × Nat => (fun (k : Nat) (a : Option Addr) (q : Nat) => (([(5, .slice a (solL (beh c f) (at0 c.e (at0 c.s f)) k).length q), (6, .int .i64 (k : Int))] : Env), ([(1, own1I (.slice a (solL (beh c f) (at0 c.e (at0 c.s f)) k).length q) (solL (beh c f) (at0 c.e (at0 c.s f)) k))] : List (Nat × Itm)), k ≤ c.s.length, c.s.length - k)) s.1 s.2.1 s.2.2) (0, _, _) (by repeat first | exact sub_nil | refine sub_cons rfl ?_) rfl (Nat.zero_le _) ?_
 rintro ⟨k, a, q⟩ hinv KL9 hKL9
 simp only [sU, sL] at hinv hKL9 ⊢
 have hk := hinv
 have hl := sol_len (beh c f) (at0 c.e (at0 c.s f)) k
 refine gc_seq fun K10 hK10 => ?_
 refine gc_sr fun K11 hK11 => ?_
 refine gm ?_
 refine gv (qtf Try.underlying32 (z := 0) (off := 1)) ?_
 refine gv (qtl Try.underlying22 (n := 0)) ?_
 refine gv (qln (fun w M => lenV_rd h1)) ?_
 refine gv (qt_lss rfl rfl rfl) ?_
 refine gnt (hK11 _ _ ?_)
 refine gc_cond rfl (fun hc0 => ?_) (fun hc0 => ?_)
 ·try simp only [sA] at hc0
  refine gc_skip ?_
  refine gk_then (hK10 _ _ ?_)
  refine gc_seq fun K12 hK12 => ?_
  refine gc_block ?_
  refine gc_seq fun K13 hK13 => ?_
  have hA := arrP hS (f := (k : Int)) (by omega) (by omega)
  have a1 := hA.fs; have a2 := hA.ft; have a3 := hA.fm; have a4 := hA.row
  refine gc_draw (by kernel_rfl) ?_
  refine gdv (qtf Try.underlying32 (z := 0) (off := 1)) ?_
  refine gdv (qtl Try.underlying22 (n := 0)) ?_
  refine gdv (qt_move rfl rfl) ?_
  refine gdv (qti (fun w M => lenA_rd h1)) ?_
  refine gdv (qtd (fun w M => mem_rd M h1)) ?_
  refine gdv (qtf Try.underlying32 (z := 0) (off := 2)) ?_
  refine gdv (qtl Try.underlying22 (n := 0)) ?_
  refine gdv (qt_move rfl rfl) ?_
  refine gdv (qti (fun w M => lenA_rd h2)) ?_
  refine gdv (qtd (fun w M => mem_rd M h2)) ?_
  refine gdv (qt_eql rfl rfl rfl) ?_
  refine gd_splitv (.free rfl) rfl rfl (qt_move rfl rfl) (fun hs5_11 => ?_) (fun hs5_11 => ?_)
  ·try simp only [sA] at hs5_11
   refine gdvh (qtf Try.underlying32 (z := 0) (off := 2)) ?_
   refine gdvh (qtl Try.underlying22 (n := 0)) ?_
   refine gdvh (qt_move rfl rfl) ?_
   refine gdvh (qti (fun w M => lenA_rd h2)) ?_
   refine gdvh (qtd (fun w M => mem_rd M h2)) ?_
   refine gdvh (qtf Try.underlying32 (z := 0) (off := 1)) ?_
   refine gdvh (qtl Try.underlying22 (n := 0)) ?_
   refine gdvh (qt_move rfl rfl) ?_
   refine gdvh (qti (fun w M => lenA_rd h1)) ?_
   refine gdvh (qtd (fun w M => mem_rd M h1)) ?_
   refine gdvh (qt_eql rfl rfl rfl) ?_
   refine gdv (qt_pick_t rfl rfl rfl) ?_
   refine gd_splitv (.free rfl) rfl rfl (qt_move rfl rfl) (fun hs5_24 => ?_) (fun hs5_24 => ?_)
   ·try simp only [sA] at hs5_24
    refine gdvh (qtf Try.underlying32 (z := 0) (off := 4)) ?_
    refine gdvh (qtl Try.underlying23 (n := 0)) ?_
    refine gdvh (qt_move rfl rfl) ?_
    refine gdvh (qti2 (fun w M => lenA_rd2 h4)) ?_
    refine gd_load2 (.held _ _ _ rfl rfl rfl) rfl rfl rfl rfl Try.underlying22 rfl h4 (by omega) (by omega) ?_
    intro ra14 rc14 hr14
    refine gdvh (qt_move rfl rfl) ?_
    refine gdvh (qti (fun w M => lenA_rd hr14)) ?_
    refine gdvh (qtd (fun w M => mem_rd M hr14)) ?_
    refine gdvh (qtf Try.underlying32 (z := 0) (off := 3)) ?_
    refine gdvh (qtl Try.underlying22 (n := 0)) ?_
    refine gdvh (qtf Try.underlying32 (z := 0) (off := 1)) ?_
    refine gdvh (qtl Try.underlying22 (n := 0)) ?_
    refine gdvh (qt_move rfl rfl) ?_
    refine gdvh (qti (fun w M => lenA_rd h1)) ?_
    refine gdvh (qtd (fun w M => mem_rd M h1)) ?_
    refine gdvh (qti (fun w M => lenA_rd h3)) ?_
    refine gdvh (qtd (fun w M => mem_rd M h3)) ?_
    refine gdvh (qt_eql rfl rfl rfl) ?_
    refine gdv (qt_pick_t rfl rfl rfl) ?_
    refine gd_nil ?_
    refine gk_then (hK13 _ _ ?_)
    refine gc_cond rfl (fun hc1 => ?_) (fun hc1 => ?_)
    ·try simp only [sA] at hc1
     refine gc_region ?_
     refine gm ?_
     refine gm ?_
     refine gop fun K16 hK16 => ?_
     refine go_slice1 rfl rfl rfl rfl Try.underlying22 ?_
     intro B15
     refine hK16 _ _ ?_
     refine gop fun K18 hK18 => ?_
     refine go_append (n := 1) (m := 2) rfl rfl rfl Try.underlying22 rfl rfl rfl rfl (by omega) ?_
     intro va17 vc17
     refine hK18 _ _ ?_
     refine gas ?_
     refine g_nil ?_
     refine gk_block ?_
     refine gk_then (hK12 _ _ ?_)
     refine gc_region ?_
     refine gm ?_
     refine gv (qt_add rfl rfl rfl (by omega)) ?_
     refine gas ?_
     refine g_nil ?_
     rw [sol_t ((ret_iff hS f0 f1 (g := (k : Int)) (by omega) (by omega)).1 ⟨hs5_11, hs5_24, hc1⟩)]
     refine gk_then (gk_take 2 ?_)
     refine gk_sub ?hs_19 (hKL9 (k + 1, _, _) ?hi_19 ?hm_19)
     case hs_19 => repeat first | exact sub_nil | refine sub_cons rfl ?_
     case hi_19 => omega
     case hm_19 => omega
    ·try simp only [sA] at hc1
     refine gc_skip ?_
     refine gk_block ?_
     refine gk_then (hK12 _ _ ?_)
     refine gc_region ?_
     refine gm ?_
     refine gv (qt_add rfl rfl rfl (by omega)) ?_
     refine gas ?_
     refine g_nil ?_
     rw [sol_f (fun h => hc1 ((ret_iff hS f0 f1 (g := (k : Int)) (by omega) (by omega)).2 h).2.2)]
     refine gk_then (gk_take 2 ?_)
     refine gk_sub ?hs_20 (hKL9 (k + 1, _, _) ?hi_20 ?hm_20)
     case hs_20 => repeat first | exact sub_nil | refine sub_cons rfl ?_
     case hi_20 => omega
     case hm_20 => omega
   ·try simp only [sA] at hs5_24
    refine gdsk ?_
    refine gdsk ?_
    refine gdsk ?_
    refine gdsk ?_
    refine gdsk ?_
    refine gdsk ?_
    refine gdsk ?_
    refine gdsk ?_
    refine gdsk ?_
    refine gdsk ?_
    refine gdsk ?_
    refine gdsk ?_
    refine gdsk ?_
    refine gdsk ?_
    refine gdsk ?_
    refine gdsk ?_
    refine gdsk ?_
    refine gdsk ?_
    refine gdv (qt_pick_f rfl rfl rfl) ?_
    refine gd_nil ?_
    refine gk_then (hK13 _ _ ?_)
    refine gc_cond_f rfl ?_
    refine gc_skip ?_
    refine gk_block ?_
    refine gk_then (hK12 _ _ ?_)
    refine gc_region ?_
    refine gm ?_
    refine gv (qt_add rfl rfl rfl (by omega)) ?_
    refine gas ?_
    refine g_nil ?_
    rw [sol_f (fun h => hs5_24 ((ret_iff hS f0 f1 (g := (k : Int)) (by omega) (by omega)).2 h).2.1)]
    refine gk_then (gk_take 2 ?_)
    refine gk_sub ?hs_21 (hKL9 (k + 1, _, _) ?hi_21 ?hm_21)
    case hs_21 => repeat first | exact sub_nil | refine sub_cons rfl ?_
    case hi_21 => omega
    case hm_21 => omega
  ·try simp only [sA] at hs5_11
   refine gdsk ?_
   refine gdsk ?_
   refine gdsk ?_
   refine gdsk ?_
   refine gdsk ?_
   refine gdsk ?_
   refine gdsk ?_
   refine gdsk ?_
   refine gdsk ?_
   refine gdsk ?_
   refine gdsk ?_
   refine gdv (qt_pick_f rfl rfl rfl) ?_
   refine gdv (qt_move rfl rfl) ?_
   refine gdsk ?_
   refine gdsk ?_
   refine gdsk ?_
   refine gdsk ?_
   refine gdsk ?_
   refine gdsk ?_
   refine gdsk ?_
   refine gdsk ?_
   refine gdsk ?_
   refine gdsk ?_
   refine gdsk ?_
   refine gdsk ?_
   refine gdsk ?_
   refine gdsk ?_
   refine gdsk ?_
   refine gdsk ?_
   refine gdsk ?_
   refine gdsk ?_
   refine gdv (qt_pick_f rfl rfl rfl) ?_
   refine gd_nil ?_
   refine gk_then (hK13 _ _ ?_)
   refine gc_cond_f rfl ?_
   refine gc_skip ?_
   refine gk_block ?_
   refine gk_then (hK12 _ _ ?_)
   refine gc_region ?_
   refine gm ?_
   refine gv (qt_add rfl rfl rfl (by omega)) ?_
   refine gas ?_
   refine g_nil ?_
   rw [sol_f (fun h => hs5_11 ((ret_iff hS f0 f1 (g := (k : Int)) (by omega) (by omega)).2 h).1)]
   refine gk_then (gk_take 2 ?_)
   refine gk_sub ?hs_22 (hKL9 (k + 1, _, _) ?hi_22 ?hm_22)
   case hs_22 => repeat first | exact sub_nil | refine sub_cons rfl ?_
   case hi_22 => omega
   case hm_22 => omega
 ·try simp only [sA] at hc0
  refine gc_exit ?_
  refine gk_then_exit ?_
  refine gk_then_exit ?_
  refine gk_block_hit ?_
  refine gk_then (hK7 _ _ ?_)
  refine gc_sr fun K23 hK23 => ?_
  refine gm ?_
  refine gas ?_
  refine gnt (hK23 _ _ ?_)
  refine gc_ret ?_
  refine ret_1 rfl rfl  (fun w M => ?_)
  obtain rfl : k = c.s.length := by omega
  exact ⟨_, rfl, mem_own1 (n := 1) M rfl, M.1⟩

set_option maxHeartbeats 1000000 in
set_option maxRecDepth 100000 in
theorem specSec_any (w : World) (v : Value) (c : Cat) (f : Int) (h : RdC w v c) (hS : ShapeP c) (f0 : 0 ≤ f) (f1 : f < c.s.length) :
  Calls Try.prog 126 #[v, .int .i64 f] w (RetL w (secL c f)) := by
 have h0 := h
 obtain ⟨va, vb, vc, vd, ve, vf, vg, vh, rfl, h1, h2, h3, h4, _⟩ := h.lists
 have hf := arrP hS f0 f1
 have e1 := hf.fs; have e2 := hf.ft; have e3 := hf.fm; have e4 := hf.s0; have e5 := hf.s1; have e6 := hf.t0; have e7 := hf.t1; have e8 := hf.row
 have hn40 := hS.n40; have htl := hS.tl; have hel := hS.el
 go_enter Try.func126, Try.ntmps126
 refine gc_enter (N := 64) rfl (look_cons (k := 0) rfl (look_cons (k := 1) rfl (look_nil _))) ?_
 refine gc_sr fun K1 hK1 => ?_
 refine gop fun K3 hK3 => ?_
 refine go_box rfl rfl rfl rfl rfl ?_
 intro B2
 refine hK3 _ _ ?_
 refine gas ?_
 refine gnt (hK1 _ _ ?_)
 refine gc_sr fun K4 hK4 => ?_
 refine gop fun K6 hK6 => ?_
 refine go_slice0 rfl rfl rfl Try.underlying22 ?_
 intro B5
 refine hK6 _ _ ?_
 refine gas ?_
 refine gnt (hK4 _ _ ?_)
 refine gc_seq fun K7 hK7 => ?_
 refine gc_sr fun K8 hK8 => ?_
 refine gas ?_
 refine gnt (hK8 _ _ ?_)
 refine gc_block ?_
 try simp only [sL]
 refine gc_loopT ([(0, _), (1, _), (2, _), (4, _)] : Env) (fun s : Nat × (Option Addr) × Nat => (fun (k : Nat) (a : Option Addr) (q : Nat) => (([(5, .slice a (solL (bef c f) (at0 c.e (at0 c.t f)) k).length q), (6, .int .i64 (k : Int))] : Env), ([(1, own1I (.slice a (solL (bef c f) (at0 c.e (at0 c.t f)) k).length q) (solL (bef c f) (at0 c.e (at0 c.t f)) k))] : List (Nat × Itm)), k ≤ c.s.length, c.s.length - k)) s.1 s.2.1 s.2.2) (0, _, _) (by repeat first | exact sub_nil | refine sub_cons rfl ?_) rfl (Nat.zero_le _) ?_
 rintro ⟨k, a, q⟩ hinv KL9 hKL9
 simp only [sU, sL] at hinv hKL9 ⊢
 have hk := hinv
 have hl := sol_len (bef c f) (at0 c.e (at0 c.t f)) k
 refine gc_seq fun K10 hK10 => ?_
 refine gc_sr fun K11 hK11 => ?_
 refine gm ?_
 refine gv (qtf Try.underlying32 (z := 0) (off := 1)) ?_
 refine gv (qtl Try.underlying22 (n := 0)) ?_
 refine gv (qln (fun w M => lenV_rd h1)) ?_
 refine gv (qt_lss rfl rfl rfl) ?_
 refine gnt (hK11 _ _ ?_)
 refine gc_cond rfl (fun hc0 => ?_) (fun hc0 => ?_)
 ·try simp only [sA] at hc0
  refine gc_skip ?_
  refine gk_then (hK10 _ _ ?_)
  refine gc_seq fun K12 hK12 => ?_
  refine gc_block ?_
  refine gc_seq fun K13 hK13 => ?_
  have hA := arrP hS (f := (k : Int)) (by omega) (by omega)
  have a1 := hA.fs; have a2 := hA.ft; have a3 := hA.fm; have a4 := hA.row
  refine gc_draw (by kernel_rfl) ?_
  refine gdv (qtf Try.underlying32 (z := 0) (off := 1)) ?_
  refine gdv (qtl Try.underlying22 (n := 0)) ?_
  refine gdv (qt_move rfl rfl) ?_
  refine gdv (qti (fun w M => lenA_rd h1)) ?_
  refine gdv (qtd (fun w M => mem_rd M h1)) ?_
  refine gdv (qtf Try.underlying32 (z := 0) (off := 2)) ?_
  refine gdv (qtl Try.underlying22 (n := 0)) ?_
  refine gdv (qt_move rfl rfl) ?_
  refine gdv (qti (fun w M => lenA_rd h2)) ?_
  refine gdv (qtd (fun w M => mem_rd M h2)) ?_
  refine gdv (qt_eql rfl rfl rfl) ?_
  refine gd_splitv (.free rfl) rfl rfl (qt_move rfl rfl) (fun hs5_11 => ?_) (fun hs5_11 => ?_)
  ·try simp only [sA] at hs5_11
   refine gdvh (qtf Try.underlying32 (z := 0) (off := 2)) ?_
   refine gdvh (qtl Try.underlying22 (n := 0)) ?_
   refine gdvh (qt_move rfl rfl) ?_
   refine gdvh (qti (fun w M => lenA_rd h2)) ?_
   refine gdvh (qtd (fun w M => mem_rd M h2)) ?_
   refine gdvh (qtf Try.underlying32 (z := 0) (off := 1)) ?_
   refine gdvh (qtl Try.underlying22 (n := 0)) ?_
   refine gdvh (qt_move rfl rfl) ?_
   refine gdvh (qti (fun w M => lenA_rd h1)) ?_
   refine gdvh (qtd (fun w M => mem_rd M h1)) ?_
   refine gdvh (qt_eql rfl rfl rfl) ?_
   refine gdv (qt_pick_t rfl rfl rfl) ?_
   refine gd_splitv (.free rfl) rfl rfl (qt_move rfl rfl) (fun hs5_24 => ?_) (fun hs5_24 => ?_)
   ·try simp only [sA] at hs5_24
    refine gdvh (qtf Try.underlying32 (z := 0) (off := 4)) ?_
    refine gdvh (qtl Try.underlying23 (n := 0)) ?_
    refine gdvh (qt_move rfl rfl) ?_
    refine gdvh (qti2 (fun w M => lenA_rd2 h4)) ?_
    refine gd_load2 (.held _ _ _ rfl rfl rfl) rfl rfl rfl rfl Try.underlying22 rfl h4 (by omega) (by omega) ?_
    intro ra14 rc14 hr14
    refine gdvh (qt_move rfl rfl) ?_
    refine gdvh (qti (fun w M => lenA_rd hr14)) ?_
    refine gdvh (qtd (fun w M => mem_rd M hr14)) ?_
    refine gdvh (qtf Try.underlying32 (z := 0) (off := 3)) ?_
    refine gdvh (qtl Try.underlying22 (n := 0)) ?_
    refine gdvh (qtf Try.underlying32 (z := 0) (off := 2)) ?_
    refine gdvh (qtl Try.underlying22 (n := 0)) ?_
    refine gdvh (qt_move rfl rfl) ?_
    refine gdvh (qti (fun w M => lenA_rd h2)) ?_
    refine gdvh (qtd (fun w M => mem_rd M h2)) ?_
    refine gdvh (qti (fun w M => lenA_rd h3)) ?_
    refine gdvh (qtd (fun w M => mem_rd M h3)) ?_
    refine gdvh (qt_eql rfl rfl rfl) ?_
    refine gdv (qt_pick_t rfl rfl rfl) ?_
    refine gd_nil ?_
    refine gk_then (hK13 _ _ ?_)
    refine gc_cond rfl (fun hc1 => ?_) (fun hc1 => ?_)
    ·try simp only [sA] at hc1
     refine gc_region ?_
     refine gm ?_
     refine gm ?_
     refine gop fun K16 hK16 => ?_
     refine go_slice1 rfl rfl rfl rfl Try.underlying22 ?_
     intro B15
     refine hK16 _ _ ?_
     refine gop fun K18 hK18 => ?_
     refine go_append (n := 1) (m := 2) rfl rfl rfl Try.underlying22 rfl rfl rfl rfl (by omega) ?_
     intro va17 vc17
     refine hK18 _ _ ?_
     refine gas ?_
     refine g_nil ?_
     refine gk_block ?_
     refine gk_then (hK12 _ _ ?_)
     refine gc_region ?_
     refine gm ?_
     refine gv (qt_add rfl rfl rfl (by omega)) ?_
     refine gas ?_
     refine g_nil ?_
     rw [sol_t ((sec_iff hS f0 f1 (g := (k : Int)) (by omega) (by omega)).1 ⟨hs5_11, hs5_24, hc1⟩)]
     refine gk_then (gk_take 2 ?_)
     refine gk_sub ?hs_19 (hKL9 (k + 1, _, _) ?hi_19 ?hm_19)
     case hs_19 => repeat first | exact sub_nil | refine sub_cons rfl ?_
     case hi_19 => omega
     case hm_19 => omega
    ·try simp only [sA] at hc1
     refine gc_skip ?_
     refine gk_block ?_
     refine gk_then (hK12 _ _ ?_)
     refine gc_region ?_
     refine gm ?_
     refine gv (qt_add rfl rfl rfl (by omega)) ?_
     refine gas ?_
     refine g_nil ?_
     rw [sol_f (fun h => hc1 ((sec_iff hS f0 f1 (g := (k : Int)) (by omega) (by omega)).2 h).2.2)]
     refine gk_then (gk_take 2 ?_)
     refine gk_sub ?hs_20 (hKL9 (k + 1, _, _) ?hi_20 ?hm_20)
     case hs_20 => repeat first | exact sub_nil | refine sub_cons rfl ?_
     case hi_20 => omega
     case hm_20 => omega
   ·try simp only [sA] at hs5_24
    refine gdsk ?_
    refine gdsk ?_
    refine gdsk ?_
    refine gdsk ?_
    refine gdsk ?_
    refine gdsk ?_
    refine gdsk ?_
    refine gdsk ?_
    refine gdsk ?_
    refine gdsk ?_
    refine gdsk ?_
    refine gdsk ?_
    refine gdsk ?_
    refine gdsk ?_
    refine gdsk ?_
    refine gdsk ?_
    refine gdsk ?_
    refine gdsk ?_
    refine gdv (qt_pick_f rfl rfl rfl) ?_
    refine gd_nil ?_
    refine gk_then (hK13 _ _ ?_)
    refine gc_cond_f rfl ?_
    refine gc_skip ?_
    refine gk_block ?_
    refine gk_then (hK12 _ _ ?_)
    refine gc_region ?_
    refine gm ?_
    refine gv (qt_add rfl rfl rfl (by omega)) ?_
    refine gas ?_
    refine g_nil ?_
    rw [sol_f (fun h => hs5_24 ((sec_iff hS f0 f1 (g := (k : Int)) (by omega) (by omega)).2 h).2.1)]
    refine gk_then (gk_take 2 ?_)
    refine gk_sub ?hs_21 (hKL9 (k + 1, _, _) ?hi_21 ?hm_21)
    case hs_21 => repeat first | exact sub_nil | refine sub_cons rfl ?_
    case hi_21 => omega
    case hm_21 => omega
  ·try simp only [sA] at hs5_11
   refine gdsk ?_
   refine gdsk ?_
   refine gdsk ?_
   refine gdsk ?_
   refine gdsk ?_
   refine gdsk ?_
   refine gdsk ?_
   refine gdsk ?_
   refine gdsk ?_
   refine gdsk ?_
   refine gdsk ?_
   refine gdv (qt_pick_f rfl rfl rfl) ?_
   refine gdv (qt_move rfl rfl) ?_
   refine gdsk ?_
   refine gdsk ?_
   refine gdsk ?_
   refine gdsk ?_
   refine gdsk ?_
   refine gdsk ?_
   refine gdsk ?_
   refine gdsk ?_
   refine gdsk ?_
   refine gdsk ?_
   refine gdsk ?_
   refine gdsk ?_
   refine gdsk ?_
   refine gdsk ?_
   refine gdsk ?_
   refine gdsk ?_
   refine gdsk ?_
   refine gdsk ?_
   refine gdv (qt_pick_f rfl rfl rfl) ?_
   refine gd_nil ?_
   refine gk_then (hK13 _ _ ?_)
   refine gc_cond_f rfl ?_
   refine gc_skip ?_
   refine gk_block ?_
   refine gk_then (hK12 _ _ ?_)
   refine gc_region ?_
   refine gm ?_
   refine gv (qt_add rfl rfl rfl (by omega)) ?_
   refine gas ?_
   refine g_nil ?_
   rw [sol_f (fun h => hs5_11 ((sec_iff hS f0 f1 (g := (k : Int)) (by omega) (by omega)).2 h).1)]
   refine gk_then (gk_take 2 ?_)
   refine gk_sub ?hs_22 (hKL9 (k + 1, _, _) ?hi_22 ?hm_22)
   case hs_22 => repeat first | exact sub_nil | refine sub_cons rfl ?_
   case hi_22 => omega
   case hm_22 => omega
 ·try simp only [sA] at hc0
  refine gc_exit ?_
  refine gk_then_exit ?_
  refine gk_then_exit ?_
  refine gk_block_hit ?_
  refine gk_then (hK7 _ _ ?_)
  refine gc_sr fun K23 hK23 => ?_
  refine gm ?_
  refine gas ?_
  refine gnt (hK23 _ _ ?_)
  refine gc_ret ?_
  refine ret_1 rfl rfl  (fun w M => ?_)
  obtain rfl : k = c.s.length := by omega
  exact ⟨_, rfl, mem_own1 (n := 1) M rfl, M.1⟩

set_option maxHeartbeats 1000000 in
set_option maxRecDepth 100000 in
theorem specInv5_any (w : World) (v : Value) (c : Cat) (f : Int) (h : RdC w v c) (hC : IsCat c) (f0 : 0 ≤ f) (f1 : f < c.s.length) :
  Calls Try.prog 110 #[v, .int .i64 f] w (RetI w (invN c f)) := by
 have h0 := h
 obtain ⟨va, vb, vc, vd, ve, vf, vg, vh, rfl, h1, h2, h3, h4, _⟩ := h.lists
 have hS := hC.toShapeP
 have hf := arrP hS f0 f1
 have e1 := hf.fs; have e2 := hf.ft; have e3 := hf.fm; have e4 := hf.s0; have e5 := hf.s1; have e6 := hf.t0; have e7 := hf.t1; have e8 := hf.row
 have hn40 := hS.n40; have htl := hS.tl; have hel := hS.el
 have hrl := sol_len (beh c f) (at0 c.e (at0 c.s f)) c.s.length
 rw [show solL (beh c f) (at0 c.e (at0 c.s f)) c.s.length = retL c f from rfl] at hrl
 go_enter Try.func110, Try.ntmps110
 refine gc_enter (N := 30) rfl (look_cons (k := 0) rfl (look_cons (k := 1) rfl (look_nil _))) ?_
 refine gc_sr fun K1 hK1 => ?_
 refine gop fun K3 hK3 => ?_
 refine go_box rfl rfl rfl rfl rfl ?_
 intro B2
 refine hK3 _ _ ?_
 refine gas ?_
 refine gnt (hK1 _ _ ?_)
 refine gc_seq fun K4 hK4 => ?_
 try simp only [sL]
 refine gc_cut ([(0, _), (1, _), (2, _), (4, _)] : Env) (fun s : (Option Addr) × Nat × (Option Addr) × Nat => (fun (a1 : Option Addr) (q1 : Nat) (a2 : Option Addr) (q2 : Nat) => ([(5, .slice a1 (retL c f).length q1), (6, .slice a2 (secL c f).length q2)] : Env)) s.1 s.2.1 s.2.2.1 s.2.2.2) (fun s : (Option Addr) × Nat × (Option Addr) × Nat => (fun (a1 : Option Addr) (q1 : Nat) (a2 : Option Addr) (q2 : Nat) => ([] : List (Nat × Itm))) s.1 s.2.1 s.2.2.1 s.2.2.2) (fun s : (Option Addr) × Nat × (Option Addr) × Nat => (fun (a1 : Option Addr) (q1 : Nat) (a2 : Option Addr) (q2 : Nat) => ([own1I (.slice a1 (retL c f).length q1) (retL c f), own1I (.slice a2 (secL c f).length q2) (secL c f)] : List Itm)) s.1 s.2.1 s.2.2.1 s.2.2.2) (by repeat first | exact sub_nil | refine sub_cons rfl ?_) ?_ (fun HJ5 => ?_)
 ·rintro ⟨a1, q1, a2, q2⟩
  simp only [sU, sL]
  refine gk_then (hK4 _ _ ?_)
  refine gc_seq fun K6 hK6 => ?_
  refine gc_sr fun K7 hK7 => ?_
  refine gas ?_
  refine gnt (hK7 _ _ ?_)
  refine gc_block ?_
  try simp only [sL]
  refine gc_loopT ([(0, _), (1, _), (2, _), (5, _), (6, _)] : Env) (fun s : Nat => (fun (k : Nat) => (([(7, .int .i64 (k : Int))] : Env), ([] : List (Nat × Itm)), k ≤ (retL c f).length ∧ ∀ j : Nat, j < k → ¬ at0 (retL c f) (j : Int) ∈ secL c f, (retL c f).length - k)) s) (0) (by repeat first | exact sub_nil | refine sub_cons rfl ?_) rfl ⟨Nat.zero_le _, fun j hj => absurd hj (by omega)⟩ ?_
  rintro k hinv KL8 hKL8
  simp only [sU, sL] at hinv hKL8 ⊢
  obtain ⟨hk, hno⟩ := hinv
  refine gc_seq fun K9 hK9 => ?_
  refine gc_sr fun K10 hK10 => ?_
  refine gm ?_
  refine gm ?_
  refine gv (qln (fun w M => lenV_own1 (n := 1) rfl M)) ?_
  refine gv (qt_lss rfl rfl rfl) ?_
  refine gnt (hK10 _ _ ?_)
  refine gc_cond rfl (fun hc0 => ?_) (fun hc0 => ?_)
  ·try simp only [sA] at hc0
   refine gc_skip ?_
   refine gk_then (hK9 _ _ ?_)
   refine gc_seq fun K11 hK11 => ?_
   refine gc_block ?_
   refine gc_sr fun K12 hK12 => ?_
   refine gm ?_
   refine gm ?_
   refine gm ?_
   refine gv (qti (fun w M => lenA_own1 (n := 1) rfl M)) ?_
   refine gv (qtd (fun w M => (mem_own1 (n := 1) M rfl).rd)) ?_
   refine g_q (.free rfl) rfl rfl (qt_call rfl Try.func127 rfl (by decide) rfl (fun w M => has5_any w _ _ _ ((mem_own1 (n := 2) M rfl).rd))) ?_
   refine gnt (hK12 _ _ ?_)
   refine gc_cond rfl (fun hc1 => ?_) (fun hc1 => ?_)
   ·try simp only [sA] at hc1
    refine gc_sr fun K13 hK13 => ?_
    refine gm ?_
    refine gm ?_
    refine gv (qti (fun w M => lenA_own1 (n := 1) rfl M)) ?_
    refine gv (qtd (fun w M => (mem_own1 (n := 1) M rfl).rd)) ?_
    refine gas ?_
    refine gnt (hK13 _ _ ?_)
    refine gc_ret ?_
    refine gk_block_ret ?_
    refine gk_then_ret ?_
    refine gk_then_ret ?_
    refine gk_block_ret ?_
    refine gk_then_ret ?_
    refine ret_1 rfl rfl  (fun w M => ?_)
    rw [invN_found hC f0 f1 (k := k) (by omega) hc1]; exact ⟨rfl, M.1⟩
   ·try simp only [sA] at hc1
    refine gc_skip ?_
    refine gk_block ?_
    refine gk_then (hK11 _ _ ?_)
    refine gc_region ?_
    refine gm ?_
    refine gv (qt_add rfl rfl rfl (by omega)) ?_
    refine gas ?_
    refine g_nil ?_
    refine gk_then (gk_take 3 ?_)
    refine gk_sub ?hs_14 (hKL8 (k + 1) ?hi_14 ?hm_14)
    case hs_14 => repeat first | exact sub_nil | refine sub_cons rfl ?_
    case hi_14 => exact ⟨by omega, all_next hno hc1⟩
    case hm_14 => omega
  ·try simp only [sA] at hc0
   refine gc_exit ?_
   refine gk_then_exit ?_
   refine gk_then_exit ?_
   refine gk_block_hit ?_
   refine gk_then (hK6 _ _ ?_)
   refine gc_sr fun K15 hK15 => ?_
   refine gas ?_
   refine gnt (hK15 _ _ ?_)
   refine gc_ret ?_
   refine ret_1 rfl rfl  (fun w M => ?_)
   obtain rfl : k = (retL c f).length := by omega
   rw [invN_none hno]; exact ⟨rfl, M.1⟩
 simp only [sU, sL] at HJ5
 refine ga_start _ (fun w M => M) ?_
 refine gav 0 rfl (qts Try.underlying32 (n := 0)) ?_
 refine gav 1 rfl (qt_move rfl rfl) ?_
 refine gav 3 rfl (qts Try.underlying32 (n := 0)) ?_
 refine gav 4 rfl (qt_move rfl rfl) ?_
 refine gao 2 fun K17 hK17 => ?_
 refine go_callL rfl rfl rfl Try.func125 rfl (by decide) rfl (fun w M => specRet_any w _ _ _ (mem_rdC M h0) (by first | assumption | omega) (by first | assumption | omega) (by first | assumption | omega)) ?_
 intro va16 vc16
 refine hK17 _ _ (fun w M => (mem_take 1 M :)) ?_
 refine gao 5 fun K19 hK19 => ?_
 refine go_callL rfl rfl rfl Try.func126 rfl (by decide) rfl (fun w M => specSec_any w _ _ _ (mem_rdC M h0) (by first | assumption | omega) (by first | assumption | omega) (by first | assumption | omega)) ?_
 intro va18 vc18
 refine hK19 _ _ (fun w M => (mem_take 1 M :)) ?_
 refine gav 6 rfl (qt_assign rfl rfl) ?_
 refine gav 7 rfl (qt_assign rfl rfl) ?_
 refine ga_done (by kernel_rfl) ?_
 refine gk_pickL [0, 0, 0] ?_
 refine gk_sub ?hs_20 (HJ5 (_, _, _, _))
 case hs_20 => repeat first | exact sub_nil | refine sub_cons rfl ?_

end

section
def RetLB (W : World) (xs : List Int) (b : Bool) (e : Ending) (w' : World) : Prop := ∃ v, e = .returned (.tuple #[v, .bool b]) ∧ Sl w' W.heap.size v xs ∧ Below W.heap.size W w'
section
variable {w0 : World} {is : List Itm} {ops : Array Oper} {Q : Exit → Act → World → Prop} {o : Oper} {N : Nat} {e : Env} {v : Value} {d : Nat} {K : Act → World → Prop} {f : FuncId} {fn : Func} {ags : Array Operand} {ts : Array TypeId} {vs : List Value}
theorem go_callLB {xs : List Int} {c : Bool} (hd : o.dst = some d) (hN : Nat.blt d N = true) (hop : o.op = .call { callee := .value (.func f), args := ags, argTypes := ts }) (hfn : Try.prog.funcs[f]? = some fn) (hb : fn.body.isNone = false) (hn : (fn.name == "runtime.NumGoroutine") = false)
    (hargs : evoL e ags.toList = some vs) (hc : ∀ w, Mem w0 w is → Calls Try.prog f vs.toArray w (RetLB w xs c)) (hk : ∀ a cap, GK w0 (is ++ [own1I (.slice a xs.length cap) xs]) N K ((d, .tuple #[.slice a xs.length cap, .bool c]) :: e)) : GO w0 is N o e Q K := by
  intro w a M F
  refine go_call hd hN F hop hfn hb hn hargs (hc w M) fun e' w' hR => ?_
  obtain ⟨v, rfl, hs, hbl⟩ := hR
  obtain ⟨va, vc, rfl, _⟩ := sl_form hs
  exact ⟨_, rfl, fun a F => hk va vc w' a (mem_new M hbl (own1_of hs)) F⟩
end
def allInv (d : Cat) (xs : List Int) : Prop := ∀ j : Nat, j < xs.length → hasInv d (at0 xs (j : Int))
noncomputable def invL (d : Cat) (xs : List Int) : List Int := tabTo (fun i => invZ d (at0 xs (i : Int))) xs.length
noncomputable def invR (d : Cat) (xs : List Int) : List Int := if bP (allInv d xs) = true then invL d xs else []
theorem invR_t {d : Cat} {xs : List Int} (h : allInv d xs) : invR d xs = invL d xs := if_pos (bP_t h)
theorem invR_f {d : Cat} {xs : List Int} (h : ¬ allInv d xs) : invR d xs = [] := if_neg (by rw [bP_f h]; decide)
theorem invL_len (d : Cat) (xs : List Int) : (invL d xs).length = xs.length := tabTo_len _ _
theorem invR_len (d : Cat) (xs : List Int) : (invR d xs).length ≤ xs.length := by
  by_cases h : allInv d xs
  · rw [invR_t h, invL_len]; exact Nat.le_refl _
  · rw [invR_f h]; exact Nat.zero_le _
theorem retLB_nil {W w : World} {d : Cat} {xs : List Int} (h : ¬ allInv d xs) (hb : Below W.heap.size W w) : RetLB W (invR d xs) (bP (allInv d xs)) (.returned (.tuple #[.slice none 0 0, .bool false])) w := by
  rw [invR_f h, bP_f h]; exact ⟨_, rfl, Sl.nil _ _, hb⟩
noncomputable def fIsNaturalIsomorphism (T : Tra) : Bool × Int := if fIsTransformation T = true then (bP (allInv T.S.T T.c), 0) else (false, 1)
theorem nat_t {T : Tra} (h : fIsTransformation T = true) : fIsNaturalIsomorphism T = (bP (allInv T.S.T T.c), 0) := if_pos h
theorem nat_f {T : Tra} (h : fIsTransformation T = false) : fIsNaturalIsomorphism T = (false, 1) := if_neg (by rw [h]; decide)
noncomputable def fInverseTransformation (T : Tra) : Tra × Int := if fIsTransformation T = true then (if bP (allInv T.S.T T.c) = true then (⟨T.T, T.S, invR T.S.T T.c⟩, 0) else (tra0, 4)) else (tra0, 1)
theorem ivt_t {T : Tra} (h : fIsTransformation T = true) (h' : bP (allInv T.S.T T.c) = true) : fInverseTransformation T = (⟨T.T, T.S, invR T.S.T T.c⟩, 0) := by unfold fInverseTransformation; rw [if_pos h, if_pos h']
theorem ivt_n {T : Tra} (h : fIsTransformation T = true) (h' : bP (allInv T.S.T T.c) = false) : fInverseTransformation T = (tra0, 4) := by unfold fInverseTransformation; rw [if_pos h, if_neg (by rw [h']; decide)]
theorem ivt_f {T : Tra} (h : fIsTransformation T = false) : fInverseTransformation T = (tra0, 1) := if_neg (by rw [h]; decide)
theorem mzF_i {F : Fct} (h : IsFct F) : mzF F ≤ 4000 := by
  have h1 := isf_lens (isf_t h)
  unfold mzF; omega
theorem bound_InverseTransformation (T : Tra) : mzTr (fInverseTransformation T).1 ≤ 7500000000000000 := by
  cases h : fIsTransformation T with
  | false => rw [ivt_f h]; decide
  | true =>
    cases h' : bP (allInv T.S.T T.c) with
    | false => rw [ivt_n h h']; decide
    | true =>
      have a := trB (isTra_sh h)
      have h1 := mzF_i a.f; have h2 := mzF_i a.g; have h3 := a.c8; have h4 := invR_len T.S.T T.c
      rw [ivt_t h h']
      show mzF T.T + mzF T.S + (invR T.S.T T.c).length ≤ _
      omega

set_option maxHeartbeats 1000000 in
set_option maxRecDepth 100000 in
theorem inverses_any (w : World) (v : Value) (T : Tra) (h : RdTr w v T) (hC : IsCat T.S.T) (ic : AllP T.S.T.s.length T.c) (c8 : T.c.length ≤ 8) :
    Calls Try.prog 74 #[v] w (RetLB w (invR T.S.T T.c) (bP (allInv T.S.T T.c))) := by
  have h0 := h
  obtain ⟨vx1, vx2, vx3, vx4, vx5, vx6, vx7, vx8, vx9, vx10, vx11, vx12, vx13, vx14, vx15, vx16, vx17, vx18, vx19, vx20, vx21, vk1, vk2, vk3, vk4, vk5, vk6, vk7, vk8, vk9, vk10, vk11, vk12, vk13, vk14, vk15, vk16, vk17, vk18, vk19, vk20, vk21, rfl, h1, h2, h3, h4, h5, h6, h7, h8, h9, h10, h11, h12, h13, h14, h15, h16, h17, h18, h19, h20, h21⟩ := h.lists
  go_enter Try.func74, Try.ntmps74
  refine gc_enter (N := 37) rfl (look_cons (k := 0) rfl (look_nil _)) ?_
  refine gc_seq fun K1 hK1 => ?_
  refine gc_region ?_
  refine g_op (.free rfl) fun K3 hK3 => ?_
  refine go_box rfl rfl rfl rfl rfl ?_
  intro B2
  refine hK3 _ _ ?_
  refine g_v (.free rfl) rfl rfl (qt_assign rfl rfl) ?_
  refine g_v (.free rfl) rfl rfl (qt_assign rfl rfl) ?_
  refine g_nil ?_
  refine gk_then (hK1 _ _ ?_)
  refine gc_seq fun K4 hK4 => ?_
  refine gc_region ?_
  refine g_v (.free rfl) rfl rfl (qt_field (z := 0) (off := 24) rfl rfl Try.underlying36 rfl (by kernel_rfl) rfl) ?_
  refine g_v (.free rfl) rfl rfl (qt_loadB (n := 0) rfl rfl Try.underlying22 rfl rfl rfl) ?_
  refine g_v (.free rfl) rfl rfl (qt_len rfl rfl ulE1 (fun w M => lenV_rd h21)) ?_
  refine g_op (.free rfl) fun K6 hK6 => ?_
  refine go_make1 rfl rfl rfl Try.underlying22 rfl rfl (by omega) ?_
  intro B5
  refine hK6 _ _ ?_
  refine g_v (.free rfl) rfl rfl (qt_assign rfl rfl) ?_
  refine g_nil ?_
  refine gk_then (hK4 _ _ ?_)
  refine gc_seq fun K7 hK7 => ?_
  refine gc_seq fun K8 hK8 => ?_
  refine gc_region ?_
  refine g_v (.free rfl) rfl rfl (qt_field (z := 0) (off := 24) rfl rfl Try.underlying36 rfl (by kernel_rfl) rfl) ?_
  refine g_v (.free rfl) rfl rfl (qt_loadB (n := 0) rfl rfl Try.underlying22 rfl rfl rfl) ?_
  refine g_v (.free rfl) rfl rfl (qt_len rfl rfl ulE1 (fun w M => lenV_rd h21)) ?_
  refine g_v (.free rfl) rfl rfl (qt_move rfl rfl) ?_
  refine g_nil ?_
  refine gk_then (hK8 _ _ ?_)
  refine gc_block ?_
  rw [fillTo_zero (fun i => invZ T.S.T (at0 T.c (i : Int))) T.c.length]
  try simp only [List.nil_append, List.cons_append, List.append_assoc, List.set_cons_succ, List.set_cons_zero]
  refine gc_loop ([(0, _), (1, _), (4, _), (14, _), (15, _)] : Env) (fun s : Nat => (fun (k : Nat) => ([(16, .int .i64 (k : Int))] : Env)) s) (fun s : Nat => (fun (k : Nat) => ([(1, own1I (.slice (some ⟨B5, 0, none⟩) T.c.length T.c.length) (fillTo (fun i => invZ T.S.T (at0 T.c (i : Int))) T.c.length k))] : List (Nat × Itm))) s) (fun s : Nat => (fun (k : Nat) => k ≤ T.c.length ∧ ∀ j : Nat, j < k → hasInv T.S.T (at0 T.c (j : Int))) s) (fun s : Nat => (fun (k : Nat) => T.c.length - k) s) (0) (sub_cons rfl (sub_cons rfl (sub_cons rfl (sub_cons rfl (sub_cons rfl (sub_cons rfl sub_nil)))))) rfl ⟨Nat.zero_le _, fun j hj => absurd hj (by omega)⟩ ?_
  rintro k hinv KL9 hKL9
  simp only [updL, List.foldl_cons, List.foldl_nil, List.set_cons_succ, List.set_cons_zero, List.cons_append, List.nil_append] at hinv hKL9 ⊢
  obtain ⟨hk, hj⟩ := hinv
  have hfl := fillTo_len (fun i => invZ T.S.T (at0 T.c (i : Int))) T.c.length k
  refine gc_seq fun K10 hK10 => ?_
  refine gc_region ?_
  refine g_v (.free rfl) rfl rfl (qt_lss rfl rfl rfl) ?_
  refine g_nil ?_
  refine gk_then (hK10 _ _ ?_)
  refine gc_seq fun K11 hK11 => ?_
  refine gc_cond rfl (fun hc0 => ?_) (fun hc0 => ?_)
  · try simp only [decide_eq_true_eq, decide_eq_false_iff_not, Bool.not_eq_true', Bool.not_eq_false', Bool.not_eq_eq_eq_not, Bool.not_true, Bool.not_false, ne_eq, Decidable.not_not, Classical.not_not] at hc0
    refine gc_skip ?_
    refine gk_then (hK11 _ _ ?_)
    refine gc_seq fun K12 hK12 => ?_
    refine gc_block ?_
    refine gc_seq fun K13 hK13 => ?_
    refine gc_region ?_
    refine g_v (.free rfl) rfl rfl (qt_move rfl rfl) ?_
    refine g_v (.free rfl) rfl rfl (qt_index rfl rfl rfl ulE1 szE1 (fun w M => lenA_rd h21) (by omega) (by omega)) ?_
    refine g_v (.free rfl) rfl rfl (qt_load1 rfl rfl Try.underlying2 rfl (fun w M => mem_rd M h21) (by omega) (by omega)) ?_
    refine g_v (.free rfl) rfl rfl (qt_assign rfl rfl) ?_
    refine g_v (.free rfl) rfl rfl (qt_assign rfl rfl) ?_
    refine g_nil ?_
    refine gk_then (hK13 _ _ ?_)
    refine gc_seq fun K14 hK14 => ?_
    have hx := allP_at ic (k := k) (by omega)
    have x0 := hx.1; have x1 := hx.2
    refine gc_region ?_
    refine g_v (.free rfl) rfl rfl (qt_field (z := 11) (off := 0) rfl rfl Try.underlying36 rfl (by kernel_rfl) rfl) ?_
    refine g_v (.free rfl) rfl rfl (qt_field (z := 4) (off := 5) rfl rfl Try.underlying34 rfl (by kernel_rfl) rfl) ?_
    refine g_v (.free rfl) rfl rfl (qt_loadP (n := 0) (z := 5) rfl rfl Try.underlying32 rfl (by kernel_rfl) rfl (by first | decide | exact Nat.le_refl _ | simp)) ?_
    refine g_v (.free rfl) rfl rfl (qt_move rfl rfl) ?_
    refine g_q (.free rfl) rfl rfl (qt_call rfl Try.func111 rfl (by decide) rfl (fun w M => inverse_any w _ _ _ (rdC_mk (mem_rd M h5) (mem_rd M h6) (mem_rd M h7) (mem_rd2 M h8)) (hC.toShapeP) (by first | assumption | omega) (by first | assumption | omega))) ?_
    refine g_v (.free rfl) rfl rfl (qt_move rfl rfl) ?_
    refine g_v (.free rfl) rfl rfl (qt_extract rfl rfl rfl) ?_
    refine g_v (.free rfl) rfl rfl (qt_extract rfl rfl rfl) ?_
    refine g_v (.free rfl) rfl rfl (qt_assign rfl rfl) ?_
    refine g_v (.free rfl) rfl rfl (qt_assign rfl rfl) ?_
    refine g_nil ?_
    refine gk_then (hK14 _ _ ?_)
    refine gc_seq fun K15 hK15 => ?_
    refine gc_seq fun K16 hK16 => ?_
    refine gc_region ?_
    refine g_v (.free rfl) rfl rfl (qt_move rfl rfl) ?_
    refine g_v (.free rfl) rfl rfl (qt_not rfl rfl) ?_
    refine g_nil ?_
    refine gk_then (hK16 _ _ ?_)
    refine gc_cond rfl (fun hc1 => ?_) (fun hc1 => ?_)
    · try simp only [decide_eq_true_eq, decide_eq_false_iff_not, Bool.not_eq_true', Bool.not_eq_false', Bool.not_eq_eq_eq_not, Bool.not_true, Bool.not_false, ne_eq, Decidable.not_not, Classical.not_not] at hc1
      refine gc_seq fun K17 hK17 => ?_
      refine gc_region ?_
      refine g_v (.free rfl) rfl rfl (qt_assign rfl rfl) ?_
      refine g_v (.free rfl) rfl rfl (qt_assign rfl rfl) ?_
      refine g_nil ?_
      refine gk_then (hK17 _ _ ?_)
      refine gc_ret ?_
      refine gk_then_ret ?_
      refine gk_block_ret ?_
      refine gk_then_ret ?_
      refine gk_then_ret ?_
      refine gk_block_ret ?_
      refine gk_then_ret ?_
      refine ret_2 rfl rfl rfl  (fun w M => ?_)
      exact retLB_nil (fun hq => bP_f' hc1 (hq k (by omega))) M.1
    · try simp only [decide_eq_true_eq, decide_eq_false_iff_not, Bool.not_eq_true', Bool.not_eq_false', Bool.not_eq_eq_eq_not, Bool.not_true, Bool.not_false, ne_eq, Decidable.not_not, Classical.not_not] at hc1
      refine gc_skip ?_
      refine gk_then (hK15 _ _ ?_)
      refine gc_region ?_
      refine g_v (.free rfl) rfl rfl (qt_move rfl rfl) ?_
      refine g_v (.free rfl) rfl rfl (qt_move rfl rfl) ?_
      refine g_v (.free rfl) rfl rfl (qt_move rfl rfl) ?_
      refine g_v (.free rfl) rfl rfl (qt_index rfl rfl rfl ulE1 szE1 (fun w M => lenA_own1 (n := 1) rfl M) (by omega) (by omega)) ?_
      refine g_op (.free rfl) fun K18 hK18 => ?_
      refine go_store1 (n := 1) rfl rfl rfl rfl (by kernel_rfl) rfl (by omega) (by omega) ?_
      refine hK18 _ _ ?_
      refine g_nil ?_
      refine gk_block ?_
      refine gk_then (hK12 _ _ ?_)
      refine gc_region ?_
      refine g_v (.free rfl) rfl rfl (qt_add rfl rfl rfl (by omega)) ?_
      refine g_v (.free rfl) rfl rfl (qt_move rfl rfl) ?_
      refine g_nil ?_
      rw [fillTo_set (φ := fun i => invZ T.S.T (at0 T.c (i : Int))) (by omega)]
      refine gk_then (gk_take 2 ?_)
      refine gk_sub ?hs_19 (hKL9 (k + 1) ?hi_19 ?hm_19)
      case hs_19 => exact (sub_cons rfl (sub_cons rfl (sub_cons rfl (sub_cons rfl (sub_cons rfl (sub_cons rfl sub_nil))))))
      case hi_19 => exact ⟨by omega, all_next0 hj (bP_t' hc1)⟩
      case hm_19 => omega
  · try simp only [decide_eq_true_eq, decide_eq_false_iff_not, Bool.not_eq_true', Bool.not_eq_false', Bool.not_eq_eq_eq_not, Bool.not_true, Bool.not_false, ne_eq, Decidable.not_not, Classical.not_not] at hc0
    refine gc_exit ?_
    refine gk_then_exit ?_
    refine gk_then_exit ?_
    refine gk_block_hit ?_
    refine gk_then (hK7 _ _ ?_)
    refine gc_seq fun K20 hK20 => ?_
    refine gc_region ?_
    refine g_v (.free rfl) rfl rfl (qt_move rfl rfl) ?_
    refine g_v (.free rfl) rfl rfl (qt_assign rfl rfl) ?_
    refine g_v (.free rfl) rfl rfl (qt_assign rfl rfl) ?_
    refine g_nil ?_
    refine gk_then (hK20 _ _ ?_)
    refine gc_ret ?_
    refine ret_2 rfl rfl rfl  (fun w M => ?_)
    obtain rfl : k = T.c.length := by omega
    have hA : allInv T.S.T T.c := hj
    rw [fillTo_end] at M
    have hq := mem_own1 (n := 1) M rfl
    rw [invR_t hA, bP_t hA]; exact ⟨_, rfl, by have e := invL_len T.S.T T.c; unfold invL at e ⊢; simpa only [e] using hq, M.1⟩

set_option maxHeartbeats 1000000 in
set_option maxRecDepth 100000 in
theorem specInv7_any (w : World) (v : Value) (d : Cat) (u : Value) (xs : List Int) (h : RdC w v d) (hu : Rd w u xs) (hC : IsCat d) (ic : AllP d.s.length xs) (c8 : xs.length ≤ 8) :
    Calls Try.prog 73 #[v, u] w (RetLB w (invR d xs) (bP (allInv d xs))) := by
  have h0 := h
  obtain ⟨va, vb, vc, vd, ve, vf, vg, vh, rfl, h1, h2, h3, h4, _⟩ := h.lists
  obtain ⟨ua, uc, rfl⟩ := rd_form hu
  go_enter Try.func73, Try.ntmps73
  refine gc_enter (N := 29) rfl (look_cons (k := 0) rfl (look_cons (k := 1) rfl (look_nil _))) ?_
  refine gc_seq fun K1 hK1 => ?_
  refine gc_region ?_
  refine g_op (.free rfl) fun K3 hK3 => ?_
  refine go_box rfl rfl rfl rfl rfl ?_
  intro B2
  refine hK3 _ _ ?_
  refine g_v (.free rfl) rfl rfl (qt_assign rfl rfl) ?_
  refine g_v (.free rfl) rfl rfl (qt_assign rfl rfl) ?_
  refine g_nil ?_
  refine gk_then (hK1 _ _ ?_)
  refine gc_seq fun K4 hK4 => ?_
  refine gc_region ?_
  refine g_op (.free rfl) fun K6 hK6 => ?_
  refine go_slice0 rfl rfl rfl Try.underlying22 ?_
  intro B5
  refine hK6 _ _ ?_
  refine g_v (.free rfl) rfl rfl (qt_assign rfl rfl) ?_
  refine g_nil ?_
  refine gk_then (hK4 _ _ ?_)
  refine gc_seq fun K7 hK7 => ?_
  refine gc_seq fun K8 hK8 => ?_
  refine gc_region ?_
  refine g_v (.free rfl) rfl rfl (qt_assign rfl rfl) ?_
  refine g_nil ?_
  refine gk_then (hK8 _ _ ?_)
  refine gc_block ?_
  try simp only [List.nil_append, List.cons_append, List.append_assoc, List.set_cons_succ, List.set_cons_zero]
  refine gc_loop ([(0, _), (1, _), (2, _)] : Env) (fun s : Nat × (Option Addr) × Nat => (fun (k : Nat) (a : Option Addr) (q : Nat) => ([(6, .slice a (tabTo (fun i => invZ d (at0 xs (i : Int))) k).length q), (7, .int .i64 (k : Int))] : Env)) s.1 s.2.1 s.2.2) (fun s : Nat × (Option Addr) × Nat => (fun (k : Nat) (a : Option Addr) (q : Nat) => ([(1, own1I (.slice a (tabTo (fun i => invZ d (at0 xs (i : Int))) k).length q) (tabTo (fun i => invZ d (at0 xs (i : Int))) k))] : List (Nat × Itm))) s.1 s.2.1 s.2.2) (fun s : Nat × (Option Addr) × Nat => (fun (k : Nat) (a : Option Addr) (q : Nat) => k ≤ xs.length ∧ ∀ j : Nat, j < k → hasInv d (at0 xs (j : Int))) s.1 s.2.1 s.2.2) (fun s : Nat × (Option Addr) × Nat => (fun (k : Nat) (a : Option Addr) (q : Nat) => xs.length - k) s.1 s.2.1 s.2.2) (0, _, _) (sub_cons rfl (sub_cons rfl (sub_cons rfl (sub_cons rfl (sub_cons rfl sub_nil))))) rfl ⟨Nat.zero_le _, fun j hj => absurd hj (by omega)⟩ ?_
  rintro ⟨k, a, q⟩ hinv KL9 hKL9
  simp only [updL, List.foldl_cons, List.foldl_nil, List.set_cons_succ, List.set_cons_zero, List.cons_append, List.nil_append] at hinv hKL9 ⊢
  obtain ⟨hk, hj⟩ := hinv
  have hl1 := tabTo_len (fun i => invZ d (at0 xs (i : Int))) k
  refine gc_seq fun K10 hK10 => ?_
  refine gc_seq fun K11 hK11 => ?_
  refine gc_region ?_
  refine g_v (.free rfl) rfl rfl (qt_move rfl rfl) ?_
  refine g_v (.free rfl) rfl rfl (qt_move rfl rfl) ?_
  refine g_v (.free rfl) rfl rfl (qt_len rfl rfl ulE1 (fun w M => lenV_rd hu)) ?_
  refine g_v (.free rfl) rfl rfl (qt_lss rfl rfl rfl) ?_
  refine g_nil ?_
  refine gk_then (hK11 _ _ ?_)
  refine gc_cond rfl (fun hc0 => ?_) (fun hc0 => ?_)
  · try simp only [decide_eq_true_eq, decide_eq_false_iff_not, Bool.not_eq_true', Bool.not_eq_false', Bool.not_eq_eq_eq_not, Bool.not_true, Bool.not_false, ne_eq, Decidable.not_not, Classical.not_not] at hc0
    refine gc_skip ?_
    refine gk_then (hK10 _ _ ?_)
    refine gc_seq fun K12 hK12 => ?_
    refine gc_block ?_
    refine gc_seq fun K13 hK13 => ?_
    have hx := allP_at ic (k := k) (by omega)
    have x0 := hx.1; have x1 := hx.2
    refine gc_draw (by kernel_rfl) ?_
    refine gd_v (.free rfl) rfl rfl (qt_loadS (n := 0) rfl rfl Try.underlying32 rfl (by kernel_rfl) rfl) ?_
    refine gd_v (.free rfl) rfl rfl (qt_move rfl rfl) ?_
    refine gd_v (.free rfl) rfl rfl (qt_move rfl rfl) ?_
    refine gd_v (.free rfl) rfl rfl (qt_index rfl rfl rfl ulE1 szE1 (fun w M => lenA_rd hu) (by omega) (by omega)) ?_
    refine gd_v (.free rfl) rfl rfl (qt_load1 rfl rfl Try.underlying2 rfl (fun w M => mem_rd M hu) (by omega) (by omega)) ?_
    refine gd_q (.free rfl) rfl rfl (qt_call rfl Try.func110 rfl (by decide) rfl (fun w M => specInv5_any w _ _ _ (mem_rdC M h0) (hC) (by first | assumption | omega) (by first | assumption | omega))) ?_
    refine gd_v (.free rfl) rfl rfl (qt_assign rfl rfl) ?_
    refine gd_nil ?_
    refine gk_then (hK13 _ _ ?_)
    refine gc_seq fun K14 hK14 => ?_
    refine gc_seq fun K15 hK15 => ?_
    refine gc_region ?_
    refine g_v (.free rfl) rfl rfl (qt_move rfl rfl) ?_
    refine g_v (.free rfl) rfl rfl (qt_lss rfl rfl rfl) ?_
    refine g_nil ?_
    refine gk_then (hK15 _ _ ?_)
    refine gc_cond rfl (fun hc1 => ?_) (fun hc1 => ?_)
    · try simp only [decide_eq_true_eq, decide_eq_false_iff_not, Bool.not_eq_true', Bool.not_eq_false', Bool.not_eq_eq_eq_not, Bool.not_true, Bool.not_false, ne_eq, Decidable.not_not, Classical.not_not] at hc1
      refine gc_seq fun K16 hK16 => ?_
      refine gc_region ?_
      refine g_v (.free rfl) rfl rfl (qt_assign rfl rfl) ?_
      refine g_v (.free rfl) rfl rfl (qt_assign rfl rfl) ?_
      refine g_nil ?_
      refine gk_then (hK16 _ _ ?_)
      refine gc_ret ?_
      refine gk_then_ret ?_
      refine gk_block_ret ?_
      refine gk_then_ret ?_
      refine gk_then_ret ?_
      refine gk_block_ret ?_
      refine gk_then_ret ?_
      refine ret_2 rfl rfl rfl  (fun w M => ?_)
      exact retLB_nil (fun hq => invN_neg.1 hc1 (hq k (by omega))) M.1
    · try simp only [decide_eq_true_eq, decide_eq_false_iff_not, Bool.not_eq_true', Bool.not_eq_false', Bool.not_eq_eq_eq_not, Bool.not_true, Bool.not_false, ne_eq, Decidable.not_not, Classical.not_not] at hc1
      refine gc_skip ?_
      refine gk_then (hK14 _ _ ?_)
      have hI : hasInv d (at0 xs (k : Int)) := Classical.byContradiction fun hn => hc1 (invN_neg.2 hn)
      refine gc_region ?_
      refine g_v (.free rfl) rfl rfl (qt_move rfl rfl) ?_
      refine g_v (.free rfl) rfl rfl (qt_move rfl rfl) ?_
      refine g_op (.free rfl) fun K18 hK18 => ?_
      refine go_slice1 rfl rfl rfl rfl Try.underlying22 ?_
      intro B17
      refine hK18 _ _ ?_
      refine g_op (.free rfl) fun K20 hK20 => ?_
      refine go_append (n := 1) (m := 2) rfl rfl rfl Try.underlying22 rfl rfl rfl rfl (by omega) ?_
      intro va19 vc19
      refine hK20 _ _ ?_
      refine g_v (.free rfl) rfl rfl (qt_assign rfl rfl) ?_
      refine g_nil ?_
      refine gk_block ?_
      refine gk_then (hK12 _ _ ?_)
      refine gc_region ?_
      refine g_v (.free rfl) rfl rfl (qt_move rfl rfl) ?_
      refine g_v (.free rfl) rfl rfl (qt_add rfl rfl rfl (by omega)) ?_
      refine g_v (.free rfl) rfl rfl (qt_assign rfl rfl) ?_
      refine g_nil ?_
      rw [show tabTo (fun i => invZ d (at0 xs (i : Int))) k ++ [invN d (at0 xs (k : Int))] = tabTo (fun i => invZ d (at0 xs (i : Int))) (k + 1) from by rw [show invN d (at0 xs (k : Int)) = invZ d (at0 xs (k : Int)) from (invZ_t hI).symm]; exact tabTo_succ (fun i => invZ d (at0 xs (i : Int))) k]
      refine gk_then (gk_take 2 ?_)
      refine gk_sub ?hs_21 (hKL9 (k + 1, _, _) ?hi_21 ?hm_21)
      case hs_21 => exact (sub_cons rfl (sub_cons rfl (sub_cons rfl (sub_cons rfl (sub_cons rfl sub_nil)))))
      case hi_21 => exact ⟨by omega, all_next0 hj hI⟩
      case hm_21 => omega
  · try simp only [decide_eq_true_eq, decide_eq_false_iff_not, Bool.not_eq_true', Bool.not_eq_false', Bool.not_eq_eq_eq_not, Bool.not_true, Bool.not_false, ne_eq, Decidable.not_not, Classical.not_not] at hc0
    refine gc_exit ?_
    refine gk_then_exit ?_
    refine gk_then_exit ?_
    refine gk_block_hit ?_
    refine gk_then (hK7 _ _ ?_)
    refine gc_seq fun K22 hK22 => ?_
    refine gc_region ?_
    refine g_v (.free rfl) rfl rfl (qt_move rfl rfl) ?_
    refine g_v (.free rfl) rfl rfl (qt_assign rfl rfl) ?_
    refine g_v (.free rfl) rfl rfl (qt_assign rfl rfl) ?_
    refine g_nil ?_
    refine gk_then (hK22 _ _ ?_)
    refine gc_ret ?_
    refine ret_2 rfl rfl rfl  (fun w M => ?_)
    obtain rfl : k = xs.length := by omega
    have hA : allInv d xs := hj
    rw [invR_t hA, bP_t hA]; exact ⟨_, rfl, mem_own1 (n := 1) M rfl, M.1⟩

set_option maxHeartbeats 1000000 in
set_option maxRecDepth 100000 in
theorem impl_IsNaturalIsomorphism (w : World) (v : Value) (T : Tra) (h : RdTr w v T) :
    Calls Try.prog 37 #[v] w (RetBI w (fIsNaturalIsomorphism T).1 (fIsNaturalIsomorphism T).2) := by
  have h0 := h
  obtain ⟨vx1, vx2, vx3, vx4, vx5, vx6, vx7, vx8, vx9, vx10, vx11, vx12, vx13, vx14, vx15, vx16, vx17, vx18, vx19, vx20, vx21, vk1, vk2, vk3, vk4, vk5, vk6, vk7, vk8, vk9, vk10, vk11, vk12, vk13, vk14, vk15, vk16, vk17, vk18, vk19, vk20, vk21, rfl, h1, h2, h3, h4, h5, h6, h7, h8, h9, h10, h11, h12, h13, h14, h15, h16, h17, h18, h19, h20, h21⟩ := h.lists
  go_enter Try.func37, Try.ntmps37
  refine gc_enter (N := 15) rfl (look_cons (k := 0) rfl (look_nil _)) ?_
  refine gc_seq fun K1 hK1 => ?_
  refine gc_region ?_
  refine g_op (.free rfl) fun K3 hK3 => ?_
  refine go_box rfl rfl rfl rfl rfl ?_
  intro B2
  refine hK3 _ _ ?_
  refine g_v (.free rfl) rfl rfl (qt_assign rfl rfl) ?_
  refine g_v (.free rfl) rfl rfl (qt_assign rfl rfl) ?_
  refine g_nil ?_
  refine gk_then (hK1 _ _ ?_)
  refine gc_seq fun K4 hK4 => ?_
  refine gc_seq fun K5 hK5 => ?_
  refine gc_region ?_
  refine g_v (.free rfl) rfl rfl (qt_loadS (n := 0) rfl rfl Try.underlying36 rfl (by kernel_rfl) rfl) ?_
  refine g_q (.free rfl) rfl rfl (qt_call rfl Try.func16 rfl (by decide) rfl (fun w M => impl_IsTransformation w _ _ (mem_rdTr M h0))) ?_
  refine g_v (.free rfl) rfl rfl (qt_not rfl rfl) ?_
  refine g_nil ?_
  refine gk_then (hK5 _ _ ?_)
  refine gc_cond rfl (fun hc0 => ?_) (fun hc0 => ?_)
  · try simp only [decide_eq_true_eq, decide_eq_false_iff_not, Bool.not_eq_true', Bool.not_eq_false', Bool.not_eq_eq_eq_not, Bool.not_true, Bool.not_false, ne_eq, Decidable.not_not, Classical.not_not] at hc0
    refine gc_seq fun K6 hK6 => ?_
    refine gc_region ?_
    refine g_v (.free rfl) rfl rfl (qt_assign rfl rfl) ?_
    refine g_v (.free rfl) rfl rfl (qt_assign rfl rfl) ?_
    refine g_nil ?_
    refine gk_then (hK6 _ _ ?_)
    refine gc_ret ?_
    refine gk_then_ret ?_
    refine ret_2 rfl rfl rfl  (fun w M => ?_)
    rw [nat_f hc0]; exact ⟨rfl, M.1⟩
  · try simp only [decide_eq_true_eq, decide_eq_false_iff_not, Bool.not_eq_true', Bool.not_eq_false', Bool.not_eq_eq_eq_not, Bool.not_true, Bool.not_false, ne_eq, Decidable.not_not, Classical.not_not] at hc0
    refine gc_skip ?_
    refine gk_then (hK4 _ _ ?_)
    refine gc_seq fun K7 hK7 => ?_
    have b := trB (isTra_sh hc0)
    have bC := isCat_of b.f.ct; have bi := b.ic; have b8 := b.c8
    refine gc_region ?_
    refine g_v (.free rfl) rfl rfl (qt_loadS (n := 0) rfl rfl Try.underlying36 rfl (by kernel_rfl) rfl) ?_
    refine g_op (.free rfl) fun K9 hK9 => ?_
    refine go_callLB rfl rfl rfl Try.func74 rfl (by decide) rfl (fun w M => inverses_any w _ _ (mem_rdTr M h0) (bC) (bi) (b8)) ?_
    intro va8 vc8
    refine hK9 _ _ ?_
    refine g_v (.free rfl) rfl rfl (qt_move rfl rfl) ?_
    refine g_v (.free rfl) rfl rfl (qt_extract rfl rfl rfl) ?_
    refine g_v (.free rfl) rfl rfl (qt_extract rfl rfl rfl) ?_
    refine g_v (.free rfl) rfl rfl (qt_assign rfl rfl) ?_
    refine g_v (.free rfl) rfl rfl (qt_assign rfl rfl) ?_
    refine g_nil ?_
    refine gk_then (hK7 _ _ ?_)
    refine gc_seq fun K10 hK10 => ?_
    refine gc_region ?_
    refine g_v (.free rfl) rfl rfl (qt_move rfl rfl) ?_
    refine g_v (.free rfl) rfl rfl (qt_assign rfl rfl) ?_
    refine g_v (.free rfl) rfl rfl (qt_assign rfl rfl) ?_
    refine g_nil ?_
    refine gk_then (hK10 _ _ ?_)
    refine gc_ret ?_
    refine ret_2 rfl rfl rfl  (fun w M => ?_)
    rw [nat_t hc0]; exact ⟨rfl, M.1⟩

set_option maxHeartbeats 1000000 in
set_option maxRecDepth 100000 in
theorem spec_IsNaturalIsomorphism (w : World) (v : Value) (T : Tra) (h : RdTr w v T) :
    Calls Try.prog 36 #[v] w (RetBI w (fIsNaturalIsomorphism T).1 (fIsNaturalIsomorphism T).2) := by
  have h0 := h
  obtain ⟨vx1, vx2, vx3, vx4, vx5, vx6, vx7, vx8, vx9, vx10, vx11, vx12, vx13, vx14, vx15, vx16, vx17, vx18, vx19, vx20, vx21, vk1, vk2, vk3, vk4, vk5, vk6, vk7, vk8, vk9, vk10, vk11, vk12, vk13, vk14, vk15, vk16, vk17, vk18, vk19, vk20, vk21, rfl, h1, h2, h3, h4, h5, h6, h7, h8, h9, h10, h11, h12, h13, h14, h15, h16, h17, h18, h19, h20, h21⟩ := h.lists
  go_enter Try.func36, Try.ntmps36
  refine gc_enter (N := 19) rfl (look_cons (k := 0) rfl (look_nil _)) ?_
  refine gc_seq fun K1 hK1 => ?_
  refine gc_region ?_
  refine g_op (.free rfl) fun K3 hK3 => ?_
  refine go_box rfl rfl rfl rfl rfl ?_
  intro B2
  refine hK3 _ _ ?_
  refine g_v (.free rfl) rfl rfl (qt_assign rfl rfl) ?_
  refine g_v (.free rfl) rfl rfl (qt_assign rfl rfl) ?_
  refine g_nil ?_
  refine gk_then (hK1 _ _ ?_)
  refine gc_seq fun K4 hK4 => ?_
  refine gc_seq fun K5 hK5 => ?_
  refine gc_region ?_
  refine g_v (.free rfl) rfl rfl (qt_loadS (n := 0) rfl rfl Try.underlying36 rfl (by kernel_rfl) rfl) ?_
  refine g_q (.free rfl) rfl rfl (qt_call rfl Try.func44 rfl (by decide) rfl (fun w M => specIs7_any w _ _ (mem_rdTr M h0))) ?_
  refine g_v (.free rfl) rfl rfl (qt_not rfl rfl) ?_
  refine g_nil ?_
  refine gk_then (hK5 _ _ ?_)
  refine gc_cond rfl (fun hc0 => ?_) (fun hc0 => ?_)
  · try simp only [decide_eq_true_eq, decide_eq_false_iff_not, Bool.not_eq_true', Bool.not_eq_false', Bool.not_eq_eq_eq_not, Bool.not_true, Bool.not_false, ne_eq, Decidable.not_not, Classical.not_not] at hc0
    refine gc_seq fun K6 hK6 => ?_
    refine gc_region ?_
    refine g_v (.free rfl) rfl rfl (qt_assign rfl rfl) ?_
    refine g_v (.free rfl) rfl rfl (qt_assign rfl rfl) ?_
    refine g_nil ?_
    refine gk_then (hK6 _ _ ?_)
    refine gc_ret ?_
    refine gk_then_ret ?_
    refine ret_2 rfl rfl rfl  (fun w M => ?_)
    rw [nat_f hc0]; exact ⟨rfl, M.1⟩
  · try simp only [decide_eq_true_eq, decide_eq_false_iff_not, Bool.not_eq_true', Bool.not_eq_false', Bool.not_eq_eq_eq_not, Bool.not_true, Bool.not_false, ne_eq, Decidable.not_not, Classical.not_not] at hc0
    refine gc_skip ?_
    refine gk_then (hK4 _ _ ?_)
    refine gc_seq fun K7 hK7 => ?_
    have b := trB (isTra_sh hc0)
    have bC := isCat_of b.f.ct; have bi := b.ic; have b8 := b.c8
    refine gc_region ?_
    refine g_v (.free rfl) rfl rfl (qt_field (z := 11) (off := 0) rfl rfl Try.underlying36 rfl (by kernel_rfl) rfl) ?_
    refine g_v (.free rfl) rfl rfl (qt_field (z := 4) (off := 5) rfl rfl Try.underlying34 rfl (by kernel_rfl) rfl) ?_
    refine g_v (.free rfl) rfl rfl (qt_loadP (n := 0) (z := 5) rfl rfl Try.underlying32 rfl (by kernel_rfl) rfl (by first | decide | exact Nat.le_refl _ | simp)) ?_
    refine g_v (.free rfl) rfl rfl (qt_field (z := 0) (off := 24) rfl rfl Try.underlying36 rfl (by kernel_rfl) rfl) ?_
    refine g_v (.free rfl) rfl rfl (qt_loadB (n := 0) rfl rfl Try.underlying22 rfl rfl rfl) ?_
    refine g_op (.free rfl) fun K9 hK9 => ?_
    refine go_callLB rfl rfl rfl Try.func73 rfl (by decide) rfl (fun w M => specInv7_any w _ _ _ _ (rdC_mk (mem_rd M h5) (mem_rd M h6) (mem_rd M h7) (mem_rd2 M h8)) (mem_rd M h21) (bC) (bi) (b8)) ?_
    intro va8 vc8
    refine hK9 _ _ ?_
    refine g_v (.free rfl) rfl rfl (qt_move rfl rfl) ?_
    refine g_v (.free rfl) rfl rfl (qt_extract rfl rfl rfl) ?_
    refine g_v (.free rfl) rfl rfl (qt_extract rfl rfl rfl) ?_
    refine g_v (.free rfl) rfl rfl (qt_assign rfl rfl) ?_
    refine g_v (.free rfl) rfl rfl (qt_assign rfl rfl) ?_
    refine g_nil ?_
    refine gk_then (hK7 _ _ ?_)
    refine gc_seq fun K10 hK10 => ?_
    refine gc_region ?_
    refine g_v (.free rfl) rfl rfl (qt_move rfl rfl) ?_
    refine g_v (.free rfl) rfl rfl (qt_assign rfl rfl) ?_
    refine g_v (.free rfl) rfl rfl (qt_assign rfl rfl) ?_
    refine g_nil ?_
    refine gk_then (hK10 _ _ ?_)
    refine gc_ret ?_
    refine ret_2 rfl rfl rfl  (fun w M => ?_)
    rw [nat_t hc0]; exact ⟨rfl, M.1⟩

set_option maxHeartbeats 4000000 in
set_option maxRecDepth 100000 in
theorem impl_InverseTransformation (w : World) (v : Value) (T : Tra) (h : RdTr w v T) :
    Calls Try.prog 39 #[v] w (RetTrI w (fInverseTransformation T).1 (fInverseTransformation T).2) := by
  have h0 := h
  obtain ⟨vx1, vx2, vx3, vx4, vx5, vx6, vx7, vx8, vx9, vx10, vx11, vx12, vx13, vx14, vx15, vx16, vx17, vx18, vx19, vx20, vx21, vk1, vk2, vk3, vk4, vk5, vk6, vk7, vk8, vk9, vk10, vk11, vk12, vk13, vk14, vk15, vk16, vk17, vk18, vk19, vk20, vk21, rfl, h1, h2, h3, h4, h5, h6, h7, h8, h9, h10, h11, h12, h13, h14, h15, h16, h17, h18, h19, h20, h21⟩ := h.lists
  go_enter Try.func39, Try.ntmps39
  refine gc_enter (N := 26) rfl (look_cons (k := 0) rfl (look_nil _)) ?_
  refine gc_seq fun K1 hK1 => ?_
  refine gc_region ?_
  refine g_op (.free rfl) fun K3 hK3 => ?_
  refine go_box rfl rfl rfl rfl rfl ?_
  intro B2
  refine hK3 _ _ ?_
  refine g_op (.free rfl) fun K5 hK5 => ?_
  refine go_alloc (z := (.agg #[.int .i64 0, .slice none 0 0, .slice none 0 0, .slice none 0 0, .slice none 0 0, .int .i64 0, .slice none 0 0, .slice none 0 0, .slice none 0 0, .slice none 0 0, .slice none 0 0, .slice none 0 0, .int .i64 0, .slice none 0 0, .slice none 0 0, .slice none 0 0, .slice none 0 0, .int .i64 0, .slice none 0 0, .slice none 0 0, .slice none 0 0, .slice none 0 0, .slice none 0 0, .slice none 0 0, .slice none 0 0])) (cs := [.int .i64 0, .slice none 0 0, .slice none 0 0, .slice none 0 0, .slice none 0 0, .int .i64 0, .slice none 0 0, .slice none 0 0, .slice none 0 0, .slice none 0 0, .slice none 0 0, .slice none 0 0, .int .i64 0, .slice none 0 0, .slice none 0 0, .slice none 0 0, .slice none 0 0, .int .i64 0, .slice none 0 0, .slice none 0 0, .slice none 0 0, .slice none 0 0, .slice none 0 0, .slice none 0 0, .slice none 0 0]) rfl rfl rfl (fun w => by kernel_rfl) rfl ?_
  intro B4
  refine hK5 _ _ ?_
  refine g_v (.free rfl) rfl rfl (qt_assign rfl rfl) ?_
  refine g_nil ?_
  refine gk_then (hK1 _ _ ?_)
  refine gc_seq fun K6 hK6 => ?_
  refine gc_seq fun K7 hK7 => ?_
  refine gc_region ?_
  refine g_v (.free rfl) rfl rfl (qt_loadS (n := 0) rfl rfl Try.underlying36 rfl (by kernel_rfl) rfl) ?_
  refine g_q (.free rfl) rfl rfl (qt_call rfl Try.func16 rfl (by decide) rfl (fun w M => impl_IsTransformation w _ _ (mem_rdTr M h0))) ?_
  refine g_v (.free rfl) rfl rfl (qt_not rfl rfl) ?_
  refine g_nil ?_
  refine gk_then (hK7 _ _ ?_)
  refine gc_cond rfl (fun hc0 => ?_) (fun hc0 => ?_)
  · try simp only [decide_eq_true_eq, decide_eq_false_iff_not, Bool.not_eq_true', Bool.not_eq_false', Bool.not_eq_eq_eq_not, Bool.not_true, Bool.not_false, ne_eq, Decidable.not_not, Classical.not_not] at hc0
    refine gc_seq fun K8 hK8 => ?_
    refine gc_region ?_
    refine g_v (.free rfl) rfl rfl (qt_build rfl rfl bt0_Transformation) ?_
    refine g_op (.free rfl) fun K9 hK9 => ?_
    refine go_storeS (n := 1) rfl rfl rfl rfl (by kernel_rfl) rfl rfl rfl ?_
    refine hK9 _ _ ?_
    refine g_v (.free rfl) rfl rfl (qt_assign rfl rfl) ?_
    refine g_nil ?_
    refine gk_then (hK8 _ _ ?_)
    refine gc_ret ?_
    refine gk_then_ret ?_
    refine ret_SI (n := 1) rfl rfl rfl Try.underlying36 rfl (by kernel_rfl) rfl (fun w M => ?_)
    rw [ivt_f hc0]; exact retTrI_zero M.1
  · try simp only [decide_eq_true_eq, decide_eq_false_iff_not, Bool.not_eq_true', Bool.not_eq_false', Bool.not_eq_eq_eq_not, Bool.not_true, Bool.not_false, ne_eq, Decidable.not_not, Classical.not_not] at hc0
    refine gc_skip ?_
    refine gk_then (hK6 _ _ ?_)
    refine gc_seq fun K10 hK10 => ?_
    have b := trB (isTra_sh hc0)
    have bC := isCat_of b.f.ct; have bi := b.ic; have b8 := b.c8
    refine gc_region ?_
    refine g_v (.free rfl) rfl rfl (qt_loadS (n := 0) rfl rfl Try.underlying36 rfl (by kernel_rfl) rfl) ?_
    refine g_op (.free rfl) fun K12 hK12 => ?_
    refine go_callLB rfl rfl rfl Try.func74 rfl (by decide) rfl (fun w M => inverses_any w _ _ (mem_rdTr M h0) (bC) (bi) (b8)) ?_
    intro va11 vc11
    refine hK12 _ _ ?_
    refine g_v (.free rfl) rfl rfl (qt_move rfl rfl) ?_
    refine g_v (.free rfl) rfl rfl (qt_extract rfl rfl rfl) ?_
    refine g_v (.free rfl) rfl rfl (qt_extract rfl rfl rfl) ?_
    refine g_v (.free rfl) rfl rfl (qt_assign rfl rfl) ?_
    refine g_v (.free rfl) rfl rfl (qt_assign rfl rfl) ?_
    refine g_nil ?_
    refine gk_then (hK10 _ _ ?_)
    refine gc_seq fun K13 hK13 => ?_
    refine gc_seq fun K14 hK14 => ?_
    refine gc_region ?_
    refine g_v (.free rfl) rfl rfl (qt_move rfl rfl) ?_
    refine g_v (.free rfl) rfl rfl (qt_not rfl rfl) ?_
    refine g_nil ?_
    refine gk_then (hK14 _ _ ?_)
    refine gc_cond rfl (fun hc1 => ?_) (fun hc1 => ?_)
    · try simp only [decide_eq_true_eq, decide_eq_false_iff_not, Bool.not_eq_true', Bool.not_eq_false', Bool.not_eq_eq_eq_not, Bool.not_true, Bool.not_false, ne_eq, Decidable.not_not, Classical.not_not] at hc1
      refine gc_seq fun K15 hK15 => ?_
      refine gc_region ?_
      refine g_v (.free rfl) rfl rfl (qt_build rfl rfl bt0_Transformation) ?_
      refine g_op (.free rfl) fun K16 hK16 => ?_
      refine go_storeS (n := 1) rfl rfl rfl rfl (by kernel_rfl) rfl rfl rfl ?_
      refine hK16 _ _ ?_
      refine g_v (.free rfl) rfl rfl (qt_assign rfl rfl) ?_
      refine g_nil ?_
      refine gk_then (hK15 _ _ ?_)
      refine gc_ret ?_
      refine gk_then_ret ?_
      refine ret_SI (n := 1) rfl rfl rfl Try.underlying36 rfl (by kernel_rfl) rfl (fun w M => ?_)
      rw [ivt_n hc0 hc1]; exact retTrI_zero M.1
    · try simp only [decide_eq_true_eq, decide_eq_false_iff_not, Bool.not_eq_true', Bool.not_eq_false', Bool.not_eq_eq_eq_not, Bool.not_true, Bool.not_false, ne_eq, Decidable.not_not, Classical.not_not] at hc1
      refine gc_skip ?_
      refine gk_then (hK13 _ _ ?_)
      refine gc_seq fun K17 hK17 => ?_
      try simp only [List.nil_append, List.cons_append, List.append_assoc, List.set_cons_succ, List.set_cons_zero]
      refine ga_start _ (fun w M => mem_erase 1 (M)) ?_
      refine ga_v 0 rfl (by kernel_rfl) (by kernel_rfl) (by kernel_rfl) (.free rfl) rfl rfl (qt_field (z := 11) (off := 12) rfl rfl Try.underlying36 rfl (by kernel_rfl) rfl) (fun _ _ _ h => h) ?_
      refine ga_v 1 rfl (by kernel_rfl) (by kernel_rfl) (by kernel_rfl) (.free rfl) rfl rfl (qt_loadP (n := 0) (z := 12) rfl rfl Try.underlying34 rfl (by kernel_rfl) rfl (by first | decide | exact Nat.le_refl _ | simp)) (fun _ _ _ h => h) ?_
      refine ga_v 3 rfl (by kernel_rfl) (by kernel_rfl) (by kernel_rfl) (.free rfl) rfl rfl (qt_field (z := 11) (off := 0) rfl rfl Try.underlying36 rfl (by kernel_rfl) rfl) (fun _ _ _ h => h) ?_
      refine ga_v 4 rfl (by kernel_rfl) (by kernel_rfl) (by kernel_rfl) (.free rfl) rfl rfl (qt_loadP (n := 0) (z := 12) rfl rfl Try.underlying34 rfl (by kernel_rfl) rfl (by first | decide | exact Nat.le_refl _ | simp)) (fun _ _ _ h => h) ?_
      refine ga_v 6 rfl (by kernel_rfl) (by kernel_rfl) (by kernel_rfl) (.free rfl) rfl rfl (qt_move rfl rfl) (fun _ _ _ h => h) ?_
      refine ga_op 2 (by kernel_rfl) rfl (.free rfl) fun K19 hK19 => ?_
      refine go_callFn rfl rfl rfl Try.func57 rfl (by decide) rfl (fun w M => copiedF_any w _ _ (mem_rdF M (rdTr_parts h0).2.1)) ?_
      intro fx1_18 fk1_18 fx2_18 fk2_18 fx3_18 fk3_18 fx4_18 fk4_18 fx5_18 fk5_18 fx6_18 fk6_18 fx7_18 fk7_18 fx8_18 fk8_18 fx9_18 fk9_18 fx10_18 fk10_18 us18 ut18
      refine hK19 _ _ (fun w M => (mem_erase 1 (mem_take 3 M) :)) ?_
      refine ga_op 5 (by kernel_rfl) rfl (.free rfl) fun K21 hK21 => ?_
      refine go_callFn rfl rfl rfl Try.func57 rfl (by decide) rfl (fun w M => copiedF_any w _ _ (mem_rdF M (rdTr_parts h0).1)) ?_
      intro fx1_20 fk1_20 fx2_20 fk2_20 fx3_20 fk3_20 fx4_20 fk4_20 fx5_20 fk5_20 fx6_20 fk6_20 fx7_20 fk7_20 fx8_20 fk8_20 fx9_20 fk9_20 fx10_20 fk10_20 us20 ut20
      refine hK21 _ _ (fun w M => (mem_erase 1 (mem_take 3 M) :)) ?_
      refine ga_v 7 rfl (by kernel_rfl) (by kernel_rfl) (by kernel_rfl) (.free rfl) rfl rfl (qt_build rfl rfl bt_Transformation) (fun _ _ _ h => h) ?_
      refine ga_op 8 (by kernel_rfl) rfl (.free rfl) fun K22 hK22 => ?_
      refine go_storeS (n := 1) rfl rfl rfl rfl (by kernel_rfl) rfl rfl rfl ?_
      refine hK22 _ _ (fun w M => (mem_erase 1 (mem_take 3 M) :)) ?_
      refine ga_v 9 rfl (by kernel_rfl) (by kernel_rfl) (by kernel_rfl) (.free rfl) rfl rfl (qt_assign rfl rfl) (fun _ _ _ h => h) ?_
      refine ga_done (by kernel_rfl) ?_
      refine gk_then (hK17 _ _ ?_)
      refine gc_ret ?_
      refine ret_SI (n := 1) rfl rfl rfl Try.underlying36 rfl (by kernel_rfl) rfl (fun w M => ?_)
      rw [ivt_t hc0 hc1]; exact retTrI_star (T := ⟨T.T, T.S, invR T.S.T T.c⟩) (mem_block 3 20 (mem_block 2 1 (M)))

set_option maxHeartbeats 4000000 in
set_option maxRecDepth 100000 in
theorem spec_InverseTransformation (w : World) (v : Value) (T : Tra) (h : RdTr w v T) :
    Calls Try.prog 38 #[v] w (RetTrI w (fInverseTransformation T).1 (fInverseTransformation T).2) := by
  have h0 := h
  obtain ⟨vx1, vx2, vx3, vx4, vx5, vx6, vx7, vx8, vx9, vx10, vx11, vx12, vx13, vx14, vx15, vx16, vx17, vx18, vx19, vx20, vx21, vk1, vk2, vk3, vk4, vk5, vk6, vk7, vk8, vk9, vk10, vk11, vk12, vk13, vk14, vk15, vk16, vk17, vk18, vk19, vk20, vk21, rfl, h1, h2, h3, h4, h5, h6, h7, h8, h9, h10, h11, h12, h13, h14, h15, h16, h17, h18, h19, h20, h21⟩ := h.lists
  go_enter Try.func38, Try.ntmps38
  refine gc_enter (N := 28) rfl (look_cons (k := 0) rfl (look_nil _)) ?_
  refine gc_seq fun K1 hK1 => ?_
  refine gc_region ?_
  refine g_op (.free rfl) fun K3 hK3 => ?_
  refine go_box rfl rfl rfl rfl rfl ?_
  intro B2
  refine hK3 _ _ ?_
  refine g_op (.free rfl) fun K5 hK5 => ?_
  refine go_alloc (z := (.agg #[.int .i64 0, .slice none 0 0, .slice none 0 0, .slice none 0 0, .slice none 0 0, .int .i64 0, .slice none 0 0, .slice none 0 0, .slice none 0 0, .slice none 0 0, .slice none 0 0, .slice none 0 0, .int .i64 0, .slice none 0 0, .slice none 0 0, .slice none 0 0, .slice none 0 0, .int .i64 0, .slice none 0 0, .slice none 0 0, .slice none 0 0, .slice none 0 0, .slice none 0 0, .slice none 0 0, .slice none 0 0])) (cs := [.int .i64 0, .slice none 0 0, .slice none 0 0, .slice none 0 0, .slice none 0 0, .int .i64 0, .slice none 0 0, .slice none 0 0, .slice none 0 0, .slice none 0 0, .slice none 0 0, .slice none 0 0, .int .i64 0, .slice none 0 0, .slice none 0 0, .slice none 0 0, .slice none 0 0, .int .i64 0, .slice none 0 0, .slice none 0 0, .slice none 0 0, .slice none 0 0, .slice none 0 0, .slice none 0 0, .slice none 0 0]) rfl rfl rfl (fun w => by kernel_rfl) rfl ?_
  intro B4
  refine hK5 _ _ ?_
  refine g_v (.free rfl) rfl rfl (qt_assign rfl rfl) ?_
  refine g_nil ?_
  refine gk_then (hK1 _ _ ?_)
  refine gc_seq fun K6 hK6 => ?_
  refine gc_seq fun K7 hK7 => ?_
  refine gc_region ?_
  refine g_v (.free rfl) rfl rfl (qt_loadS (n := 0) rfl rfl Try.underlying36 rfl (by kernel_rfl) rfl) ?_
  refine g_q (.free rfl) rfl rfl (qt_call rfl Try.func44 rfl (by decide) rfl (fun w M => specIs7_any w _ _ (mem_rdTr M h0))) ?_
  refine g_v (.free rfl) rfl rfl (qt_not rfl rfl) ?_
  refine g_nil ?_
  refine gk_then (hK7 _ _ ?_)
  refine gc_cond rfl (fun hc0 => ?_) (fun hc0 => ?_)
  · try simp only [decide_eq_true_eq, decide_eq_false_iff_not, Bool.not_eq_true', Bool.not_eq_false', Bool.not_eq_eq_eq_not, Bool.not_true, Bool.not_false, ne_eq, Decidable.not_not, Classical.not_not] at hc0
    refine gc_seq fun K8 hK8 => ?_
    refine gc_region ?_
    refine g_v (.free rfl) rfl rfl (qt_build rfl rfl bt0_Transformation) ?_
    refine g_op (.free rfl) fun K9 hK9 => ?_
    refine go_storeS (n := 1) rfl rfl rfl rfl (by kernel_rfl) rfl rfl rfl ?_
    refine hK9 _ _ ?_
    refine g_v (.free rfl) rfl rfl (qt_assign rfl rfl) ?_
    refine g_nil ?_
    refine gk_then (hK8 _ _ ?_)
    refine gc_ret ?_
    refine gk_then_ret ?_
    refine ret_SI (n := 1) rfl rfl rfl Try.underlying36 rfl (by kernel_rfl) rfl (fun w M => ?_)
    rw [ivt_f hc0]; exact retTrI_zero M.1
  · try simp only [decide_eq_true_eq, decide_eq_false_iff_not, Bool.not_eq_true', Bool.not_eq_false', Bool.not_eq_eq_eq_not, Bool.not_true, Bool.not_false, ne_eq, Decidable.not_not, Classical.not_not] at hc0
    refine gc_skip ?_
    refine gk_then (hK6 _ _ ?_)
    refine gc_seq fun K10 hK10 => ?_
    have b := trB (isTra_sh hc0)
    have bC := isCat_of b.f.ct; have bi := b.ic; have b8 := b.c8
    refine gc_region ?_
    refine g_v (.free rfl) rfl rfl (qt_field (z := 11) (off := 0) rfl rfl Try.underlying36 rfl (by kernel_rfl) rfl) ?_
    refine g_v (.free rfl) rfl rfl (qt_field (z := 4) (off := 5) rfl rfl Try.underlying34 rfl (by kernel_rfl) rfl) ?_
    refine g_v (.free rfl) rfl rfl (qt_loadP (n := 0) (z := 5) rfl rfl Try.underlying32 rfl (by kernel_rfl) rfl (by first | decide | exact Nat.le_refl _ | simp)) ?_
    refine g_v (.free rfl) rfl rfl (qt_field (z := 0) (off := 24) rfl rfl Try.underlying36 rfl (by kernel_rfl) rfl) ?_
    refine g_v (.free rfl) rfl rfl (qt_loadB (n := 0) rfl rfl Try.underlying22 rfl rfl rfl) ?_
    refine g_op (.free rfl) fun K12 hK12 => ?_
    refine go_callLB rfl rfl rfl Try.func73 rfl (by decide) rfl (fun w M => specInv7_any w _ _ _ _ (rdC_mk (mem_rd M h5) (mem_rd M h6) (mem_rd M h7) (mem_rd2 M h8)) (mem_rd M h21) (bC) (bi) (b8)) ?_
    intro va11 vc11
    refine hK12 _ _ ?_
    refine g_v (.free rfl) rfl rfl (qt_move rfl rfl) ?_
    refine g_v (.free rfl) rfl rfl (qt_extract rfl rfl rfl) ?_
    refine g_v (.free rfl) rfl rfl (qt_extract rfl rfl rfl) ?_
    refine g_v (.free rfl) rfl rfl (qt_assign rfl rfl) ?_
    refine g_v (.free rfl) rfl rfl (qt_assign rfl rfl) ?_
    refine g_nil ?_
    refine gk_then (hK10 _ _ ?_)
    refine gc_seq fun K13 hK13 => ?_
    refine gc_seq fun K14 hK14 => ?_
    refine gc_region ?_
    refine g_v (.free rfl) rfl rfl (qt_move rfl rfl) ?_
    refine g_v (.free rfl) rfl rfl (qt_not rfl rfl) ?_
    refine g_nil ?_
    refine gk_then (hK14 _ _ ?_)
    refine gc_cond rfl (fun hc1 => ?_) (fun hc1 => ?_)
    · try simp only [decide_eq_true_eq, decide_eq_false_iff_not, Bool.not_eq_true', Bool.not_eq_false', Bool.not_eq_eq_eq_not, Bool.not_true, Bool.not_false, ne_eq, Decidable.not_not, Classical.not_not] at hc1
      refine gc_seq fun K15 hK15 => ?_
      refine gc_region ?_
      refine g_v (.free rfl) rfl rfl (qt_build rfl rfl bt0_Transformation) ?_
      refine g_op (.free rfl) fun K16 hK16 => ?_
      refine go_storeS (n := 1) rfl rfl rfl rfl (by kernel_rfl) rfl rfl rfl ?_
      refine hK16 _ _ ?_
      refine g_v (.free rfl) rfl rfl (qt_assign rfl rfl) ?_
      refine g_nil ?_
      refine gk_then (hK15 _ _ ?_)
      refine gc_ret ?_
      refine gk_then_ret ?_
      refine ret_SI (n := 1) rfl rfl rfl Try.underlying36 rfl (by kernel_rfl) rfl (fun w M => ?_)
      rw [ivt_n hc0 hc1]; exact retTrI_zero M.1
    · try simp only [decide_eq_true_eq, decide_eq_false_iff_not, Bool.not_eq_true', Bool.not_eq_false', Bool.not_eq_eq_eq_not, Bool.not_true, Bool.not_false, ne_eq, Decidable.not_not, Classical.not_not] at hc1
      refine gc_skip ?_
      refine gk_then (hK13 _ _ ?_)
      refine gc_seq fun K17 hK17 => ?_
      refine gc_region ?_
      refine g_v (.free rfl) rfl rfl (qt_field (z := 11) (off := 12) rfl rfl Try.underlying36 rfl (by kernel_rfl) rfl) ?_
      refine g_v (.free rfl) rfl rfl (qt_loadP (n := 0) (z := 12) rfl rfl Try.underlying34 rfl (by kernel_rfl) rfl (by first | decide | exact Nat.le_refl _ | simp)) ?_
      refine g_v (.free rfl) rfl rfl (qt_field (z := 11) (off := 0) rfl rfl Try.underlying36 rfl (by kernel_rfl) rfl) ?_
      refine g_v (.free rfl) rfl rfl (qt_loadP (n := 0) (z := 12) rfl rfl Try.underlying34 rfl (by kernel_rfl) rfl (by first | decide | exact Nat.le_refl _ | simp)) ?_
      refine g_v (.free rfl) rfl rfl (qt_move rfl rfl) ?_
      refine g_op (.free rfl) fun K19 hK19 => ?_
      refine go_callTr rfl rfl rfl Try.func53 rfl (by decide) rfl (fun w M => specMakeT_any w _ _ _ _ (mem_rdF M (rdTr_parts h0).2.1) (mem_rdF M (rdTr_parts h0).1) _ _ ((mem_own1 (n := 2) M rfl).rd)) ?_
      intro tx1_18 tk1_18 tx2_18 tk2_18 tx3_18 tk3_18 tx4_18 tk4_18 tx5_18 tk5_18 tx6_18 tk6_18 tx7_18 tk7_18 tx8_18 tk8_18 tx9_18 tk9_18 tx10_18 tk10_18 tx11_18 tk11_18 tx12_18 tk12_18 tx13_18 tk13_18 tx14_18 tk14_18 tx15_18 tk15_18 tx16_18 tk16_18 tx17_18 tk17_18 tx18_18 tk18_18 tx19_18 tk19_18 tx20_18 tk20_18 tx21_18 tk21_18
      refine hK19 _ _ ?_
      refine g_op (.free rfl) fun K20 hK20 => ?_
      refine go_storeS (n := 1) rfl rfl rfl rfl (by kernel_rfl) rfl rfl rfl ?_
      refine hK20 _ _ ?_
      refine g_v (.free rfl) rfl rfl (qt_assign rfl rfl) ?_
      refine g_nil ?_
      refine gk_then (hK17 _ _ ?_)
      refine gc_ret ?_
      refine ret_SI (n := 1) rfl rfl rfl Try.underlying36 rfl (by kernel_rfl) rfl (fun w M => ?_)
      rw [ivt_t hc0 hc1]; exact retTrI_pass (T := ⟨T.T, T.S, invR T.S.T T.c⟩) (n := 3) M rfl
end
end Go.Proofs.Ytpppoipaabofgaa
