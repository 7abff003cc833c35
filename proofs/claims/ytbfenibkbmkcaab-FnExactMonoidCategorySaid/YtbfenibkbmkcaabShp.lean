
/- What is made of shapes is a shape: sums. -/
import Derived.Test.YtbfenibkbmkcaabShort
import Derived.Test.YtbfenibkbmkcaabShpO
import Derived.Test.YtbfenibkbmkcaabSumS
set_option linter.unusedSimpArgs false
set_option linter.unusedVariables false
set_option linter.unusedSectionVars false
namespace Go.Proofs.Ytbfenibkbmkcaab
open Go.RowKit
theorem rep_neg {b j : Nat} (h : j < b) : at0 (List.replicate b (-1)) (j : Int) = -1 := by
 rw [at0_nat]; simp [List.getD_eq_getElem?_getD, List.getElem?_replicate, h]
theorem sum_shape {c d : Cat} (hS : ShapeP c) (gS : ShapeP d) (hn : c.ob + d.ob ≤ 8) (hm : c.s.length + d.s.length ≤ 40) : ShapeP (sumM c d) := by
 have ob0 := hS.ob0; have el := hS.el; have tl := hS.tl; have ml := hS.ml
 have ob0' := gS.ob0; have el' := gS.el; have tl' := gS.tl; have ml' := gS.ml
 have hrl : ∀ f : Nat, f < c.s.length → (row2 c.m (f : Int)).length = c.s.length := fun f hf => by rw [row2_of, Int.toNat_natCast]; exact hS.rl f (by omega)
 have hrw : ∀ f : Nat, f < c.s.length → row2 (sumM c d).m (f : Int) = row2 c.m (f : Int) ++ List.replicate d.s.length (-1) := fun f hf => by
  show row2 (growR _ _ _) _ = _
  rw [growR_l (by rw [rowsF_len]; omega), rowsF_row _ (by omega), if_pos hf]
 have hrw2 : ∀ f : Nat, c.s.length ≤ f → f < c.s.length + d.s.length → row2 (sumM c d).m (f : Int) = smR c d (f - c.s.length) := fun f h1 h2 => by
  show row2 (growR _ _ _) _ = _
  rw [growR_r (by rw [rowsF_len]; omega) _ (by rw [rowsF_len]; omega), rowsF_len, ml]
 refine shape_by (N := (c.ob + d.ob).toNat) (m := c.s.length + d.s.length) (S := fun f => if f < c.s.length then at0 c.s (f : Int) else smS c d (f - c.s.length)) (T := fun f => if f < c.s.length then at0 c.t (f : Int) else smT c d (f - c.s.length))
  (E := fun x => if x < c.e.length then at0 c.e (x : Int) else smE c d (x - c.e.length)) (M := fun f g => if f < c.s.length then (if g < c.s.length then at0 (row2 c.m (f : Int)) (g : Int) else -1) else smX c d (f - c.s.length) g)
  (by show c.ob + d.ob = _; omega) (by omega) hm (grow_len _ _ _) (by show (grow _ _ _).length = _; rw [grow_len, tl]) (by show (grow _ _ _).length = _; rw [grow_len]; omega) (by show (growR _ _ _).length = _; rw [growR_len, rowsF_len, ml])
  (fun f hf => ?_) (fun f hf => ?_) (fun f hf => ?_) (fun x hx => ?_) (fun f g hf hg => ?_) (fun f hf => ?_) (fun f hf => ?_) (fun x hx => ?_) (fun f g hf hg => ?_)
 ·by_cases h : f < c.s.length
  ·rw [hrw f h, List.length_append, hrl f h, List.length_replicate]
  ·rw [hrw2 f (by omega) hf, smR, tabTo_len]
 ·show at0 (grow _ _ _) _ = _
  by_cases h : f < c.s.length
  ·rw [if_pos h, grow_l h]
  ·rw [if_neg h, grow_r (by omega) (by omega)]
 ·show at0 (grow _ _ _) _ = _
  by_cases h : f < c.s.length
  ·rw [if_pos h, grow_l (by omega)]
  ·rw [if_neg h, grow_r (by omega) (by omega), tl]
 ·show at0 (grow _ _ _) _ = _
  by_cases h : x < c.e.length
  ·rw [if_pos h, grow_l h]
  ·rw [if_neg h, grow_r (by omega) (by omega)]
 ·by_cases h : f < c.s.length
  ·rw [if_pos h, hrw f h]
   by_cases h' : g < c.s.length
   ·rw [if_pos h', app_l (by rw [hrl f h]; exact h')]
   ·rw [if_neg h', app_r (by rw [hrl f h]; omega), hrl f h, rep_neg (by omega)]
  ·rw [if_neg h, hrw2 f (by omega) hf, smR, tabTo_at _ hg]
 ·by_cases h : f < c.s.length
  ·have := allP_at hS.sa (k := f) h
   rw [if_pos h]; omega
  ·have := allP_at gS.sa (k := f - c.s.length) (by omega)
   rw [if_neg h]; unfold smS; omega
 ·by_cases h : f < c.s.length
  ·have := allP_at hS.ta (k := f) (by omega)
   rw [if_pos h]; omega
  ·have := allP_at gS.ta (k := f - c.s.length) (by omega)
   rw [if_neg h]; unfold smT; omega
 ·by_cases h : x < c.e.length
  ·obtain ⟨k, hk, h1, h2, h3⟩ := shape_id hS h
   simp only [if_pos h, hk, Int.toNat_natCast, if_pos h1]
   exact ⟨by omega, by omega, h2, h3⟩
  ·obtain ⟨k, hk, h1, h2, h3⟩ := shape_id gS (x := x - c.e.length) (by omega)
   have e1 : smE c d (x - c.e.length) = ((c.s.length + k : Nat) : Int) := by unfold smE; rw [hk]; omega
   simp only [if_neg h, e1, Int.toNat_natCast, if_neg (show ¬ c.s.length + k < c.s.length by omega), show c.s.length + k - c.s.length = k from by omega]
   refine ⟨by omega, by omega, ?_, ?_⟩
   ·unfold smS; omega
   ·unfold smT; omega
 ·by_cases h : f < c.s.length
  ·by_cases h' : g < c.s.length
   ·simp only [if_pos h, if_pos h']
    refine ⟨fun he => ?_, fun he => (hS.co f g h h').2 he⟩
    obtain ⟨k, hk, h1, h2, h3⟩ := shape_co hS h h' he
    simp only [hk, Int.toNat_natCast, if_pos h1]
    exact ⟨by omega, by omega, h2, h3⟩
   ·have p1 := allP_at hS.ta (k := f) (by omega)
    have p2 := allP_at gS.sa (k := g - c.s.length) (by omega)
    simp only [if_pos h, if_neg h']
    refine ⟨fun he => ?_, fun _ => trivial⟩
    unfold smS at he; omega
  ·by_cases h' : g < c.s.length
   ·have p1 := allP_at gS.ta (k := f - c.s.length) (by omega)
    have p2 := allP_at hS.sa (k := g) (by omega)
    simp only [if_neg h, if_pos h', smX]
    refine ⟨fun he => ?_, fun _ => trivial⟩
    unfold smT at he; omega
   ·simp only [if_neg h, if_neg h', smX]
    refine ⟨fun he => ?_, fun he => ?_⟩
    ·obtain ⟨k, hk, h1, h2, h3⟩ := shape_co gS (f := f - c.s.length) (g := g - c.s.length) (by omega) (by omega) (by unfold smS smT at he; omega)
     have e1 : smC c d (f - c.s.length) (g - c.s.length) = ((c.s.length + k : Nat) : Int) := by unfold smC; rw [hk, if_pos (by omega)]; omega
     simp only [e1, Int.toNat_natCast, if_neg (show ¬ c.s.length + k < c.s.length by omega), show c.s.length + k - c.s.length = k from by omega]
     refine ⟨by omega, by omega, ?_, ?_⟩
     ·unfold smS; omega
     ·unfold smT; omega
    ·have := (gS.co (f - c.s.length) (g - c.s.length) (by omega) (by omega)).2 (by unfold smS smT at he; omega)
     unfold Cat.th at this
     unfold smC
     rw [this]; rfl
end Go.Proofs.Ytbfenibkbmkcaab
