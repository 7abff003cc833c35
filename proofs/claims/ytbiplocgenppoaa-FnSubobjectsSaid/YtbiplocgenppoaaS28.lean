import Derived.Test.YtbiplocgenppoaaS4
import Derived.Test.YtbiplocgenppoaaS11
import Derived.Test.YtbiplocgenppoaaS27
set_option linter.unusedSimpArgs false
set_option linter.unusedVariables false
set_option linter.unusedSectionVars false
namespace Go.Proofs.Ytbiplocgenppoaa
open _root_.Go.Proofs.Try
open Go.RowKit
theorem mix_rng {x y a b : Int} (hx : 0 ≤ x ∧ x < a) (hy : 0 ≤ y ∧ y < b) : 0 ≤ x * b + y ∧ x * b + y < a * b := by
 have h1 := Int.mul_nonneg hx.1 (show 0 ≤ b by omega)
 have h2 := Int.mul_le_mul_of_nonneg_right (show x + 1 ≤ a by omega) (show 0 ≤ b by omega)
 rw [Int.add_mul] at h2
 omega
theorem mix_nat {x y : Int} {b : Nat} (hx : 0 ≤ x) (hy : 0 ≤ y ∧ y < b) : (x * b + y).toNat / b = x.toNat ∧ (x * b + y).toNat % b = y.toNat := by
 obtain ⟨p, rfl⟩ := Int.eq_ofNat_of_zero_le hx
 obtain ⟨q, rfl⟩ := Int.eq_ofNat_of_zero_le hy.1
 have h : ((p : Int) * b + q).toNat = b * p + q := by
  have : (p : Int) * b + q = ((b * p + q : Nat) : Int) := by push_cast; rw [Int.mul_comm]
  rw [this]; rfl
 have hq : q < b := by omega
 rw [h, grid_div hq, grid_mod hq]; exact ⟨rfl, rfl⟩
theorem prod_shape {c d : Cat} (hS : ShapeP c) (gS : ShapeP d) (hn : (prodM c d).ob ≤ 8) (hm : (prodM c d).s.length ≤ 40) : ShapeP (prodM c d) := by
 have ob0 := hS.ob0; have el := hS.el; have tl := hS.tl; have ml := hS.ml
 have ob0' := gS.ob0; have el' := gS.el; have tl' := gS.tl; have ml' := gS.ml
 have hsl : (prodM c d).s.length = d.s.length * c.s.length := by show (tab2 _ _ _ _).length = _; rw [tab2_len, Nat.add_zero]
 rw [hsl] at hm
 have hob : c.ob * d.ob = ((d.ob.toNat * c.ob.toNat : Nat) : Int) := by push_cast; rw [Int.toNat_of_nonneg ob0, Int.toNat_of_nonneg ob0', Int.mul_comm]
 have hob' : (prodM c d).ob = ((d.ob.toNat * c.ob.toNat : Nat) : Int) := hob
 rw [hob'] at hn
 have hsa : ∀ a : Nat, a < c.s.length → 0 ≤ at0 c.s (a : Int) ∧ at0 c.s (a : Int) < c.ob := fun a h => at_lt hS.sa h
 have hta : ∀ a : Nat, a < c.s.length → 0 ≤ at0 c.t (a : Int) ∧ at0 c.t (a : Int) < c.ob := fun a h => at_lt hS.ta (by omega)
 have gsa : ∀ a : Nat, a < d.s.length → 0 ≤ at0 d.s (a : Int) ∧ at0 d.s (a : Int) < d.ob := fun a h => at_lt gS.sa h
 have gta : ∀ a : Nat, a < d.s.length → 0 ≤ at0 d.t (a : Int) ∧ at0 d.t (a : Int) < d.ob := fun a h => at_lt gS.ta (by omega)
 have hd : ∀ {f : Nat}, f < d.s.length * c.s.length → f / d.s.length < c.s.length ∧ f % d.s.length < d.s.length := fun h => ⟨grid_divlt h, grid_modlt h⟩
 refine shape_by (N := d.ob.toNat * c.ob.toNat) (m := d.s.length * c.s.length) (S := fun f => pdS c d (f / d.s.length) (f % d.s.length)) (T := fun f => pdT c d (f / d.s.length) (f % d.s.length))
  (E := fun x => pdE c d (x / d.ob.toNat) (x % d.ob.toNat)) (M := fun f g => pdM c d (f / d.s.length) (f % d.s.length) (g / d.s.length) (g % d.s.length))
  hob' (by omega) hm hsl (by show (tab2 _ _ _ _).length = _; rw [tab2_len, Nat.add_zero]) (by show (tab2 _ _ _ _).length = _; rw [tab2_len, Nat.add_zero]) (by show (rows2 _ _ _ _).length = _; rw [rows2_len, Nat.add_zero])
  (fun f hf => ?_) (fun f hf => tab2_at _ hf) (fun f hf => tab2_at _ hf) (fun x hx => tab2_at _ hx) (fun f g hf hg => ?_) (fun f hf => ?_) (fun f hf => ?_) (fun x hx => ?_) (fun f g hf hg => ?_)
 ·show (row2 (rows2 _ _ _ _) _).length = _
  rw [rows2_at _ hf, pdR, tab2_len, Nat.add_zero]
 ·show at0 (row2 (rows2 _ _ _ _) _) _ = _
  rw [rows2_at _ hf, pdR, tab2_at _ hg]
 ·rw [← hob]; exact mix_rng (hsa _ (hd hf).1) (gsa _ (hd hf).2)
 ·rw [← hob]; exact mix_rng (hta _ (hd hf).1) (gta _ (hd hf).2)
 ·have h1 := grid_divlt hx
  have h2 := grid_modlt hx
  have i1 := hS.id (x / d.ob.toNat) (by omega)
  have i2 := gS.id (x % d.ob.toNat) (by omega)
  obtain ⟨⟨a0, a1⟩, a2, a3⟩ := i1
  obtain ⟨⟨b0, b1⟩, b2, b3⟩ := i2
  have h3 := mix_rng ⟨a0, a1⟩ ⟨b0, b1⟩
  have h4 := mix_nat (b := d.s.length) a0 ⟨b0, b1⟩
  have hx' := grid_eq x d.ob.toNat
  have hk : ((at0 c.e ((x / d.ob.toNat : Nat) : Int)).toNat : Int) = _ := Int.toNat_of_nonneg a0
  have hk' : ((at0 d.e ((x % d.ob.toNat : Nat) : Int)).toNat : Int) = _ := Int.toNat_of_nonneg b0
  have hcast : ((x / d.ob.toNat : Nat) : Int) * d.ob + ((x % d.ob.toNat : Nat) : Int) = (x : Int) := by
   have : d.ob = (d.ob.toNat : Int) := by omega
   rw [this, Int.mul_comm]
   exact_mod_cast hx'
  refine ⟨h3.1, by rw [Int.natCast_mul, Int.mul_comm (d.s.length : Int) (c.s.length : Int)]; exact h3.2, ?_, ?_⟩
  ·show pdS c d ((pdE c d _ _).toNat / _) ((pdE c d _ _).toNat % _) = _
   unfold pdE pdS
   rw [h4.1, h4.2, hk, hk', a2, b2]; exact hcast
  show pdT c d ((pdE c d _ _).toNat / _) ((pdE c d _ _).toNat % _) = _
  unfold pdE pdT
  rw [h4.1, h4.2, hk, hk', a3, b3]; exact hcast
 have hf1 := (hd hf).1
 have hf2 := (hd hf).2
 have hg1 := (hd hg).1
 have hg2 := (hd hg).2
 have k1 := hS.co _ _ hf1 hg1
 have k2 := gS.co _ _ hf2 hg2
 have t1 := hta _ hf1
 have t2 := gta _ hf2
 have s1 := hsa _ hg1
 have s2 := gsa _ hg2
 refine ⟨fun he => ?_, fun he => ?_⟩
 ·have he := mix_inj t2 s2 he
  obtain ⟨⟨a0, a1⟩, a2, a3⟩ := k1.1 he.1
  obtain ⟨⟨b0, b1⟩, b2, b3⟩ := k2.1 he.2
  have h3 := mix_rng ⟨a0, a1⟩ ⟨b0, b1⟩
  have h4 := mix_nat (b := d.s.length) a0 ⟨b0, b1⟩
  have hk := Int.toNat_of_nonneg a0
  have hk' := Int.toNat_of_nonneg b0
  show 0 ≤ pdM _ _ _ _ _ _ ∧ _ < _ ∧ pdS c d ((pdM _ _ _ _ _ _).toNat / _) ((pdM _ _ _ _ _ _).toNat % _) = _ ∧ pdT c d ((pdM _ _ _ _ _ _).toNat / _) ((pdM _ _ _ _ _ _).toNat % _) = _
  rw [← pdM_t a0 b0]
  refine ⟨h3.1, by rw [Int.natCast_mul, Int.mul_comm (d.s.length : Int) (c.s.length : Int)]; exact h3.2, ?_, ?_⟩
  ·unfold pdS
   rw [h4.1, h4.2, hk, hk', a2, b2]
  unfold pdT
  rw [h4.1, h4.2, hk, hk', a3, b3]
 refine (pdM_f fun h => ?_).symm
 by_cases h1 : at0 c.t ((f / d.s.length : Nat) : Int) = at0 c.s ((g / d.s.length : Nat) : Int)
 ·by_cases h2 : at0 d.t ((f % d.s.length : Nat) : Int) = at0 d.s ((g % d.s.length : Nat) : Int)
  ·exact he (by show pdT _ _ _ _ = pdS _ _ _ _; unfold pdT pdS; rw [h1, h2])
  have := k2.2 h2
  have := h.2
  omega
 have := k1.2 h1
 have := h.1
 omega
end Go.Proofs.Ytbiplocgenppoaa
