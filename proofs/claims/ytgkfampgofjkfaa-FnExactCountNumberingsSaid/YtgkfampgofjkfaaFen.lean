
/- What is walked without a fence goes in the wide one, and in the frame of a round. -/
import Derived.RangeFuncLeaves
import Derived.RangeFuncSeq
import Derived.OrdersIn
import Derived.TacticsIn
import Derived.Deep.RegionHeld3
set_option linter.unusedSimpArgs false
set_option linter.unusedVariables false
set_option linter.unusedSectionVars false
namespace Go.Proofs.Ytgkfampgofjkfaa
open Go.RowKit
/-- The wide fence, in the frame of this round. -/
def At (rd : Option Nat) : Fence := { Fence.wide with round := rd }
/-- No statement of a deferred call. -/
def calmO (o : Oper) : Bool := match o.op with | .defer _ => false | _ => true
def calmC : Code → Bool
  | .region _ ops _ => ops.toList.all calmO
  | .seq a b => calmC a && calmC b
  | .cond _ a b => calmC a && calmC b
  | .block _ c => calmC c
  | .loop c => calmC c
  | .scope c => calmC c
  | _ => true
section
variable {P : Program} {rd : Option Nat} {o : Oper} {a : Act} {w : World} {K : Act → World → Prop} {Q : Exit → Act → World → Prop} {ops : Array Oper} {n : Nat} {f : FuncId} {args : Array Value}
theorem calls_in {R : Ending → World → Prop} (h : Calls P f args w R) : CallsIn (At rd) n P f args w R := (callsIn_wide.2 h : CallsIn Fence.wide n P f args w R)
theorem calls_out {R : Ending → World → Prop} (h : CallsIn (At none) n P f args w R) : Calls P f args w R := (callsIn_wide (n := n)).1 h
theorem rows_in {row : String} {R : Value → World → Prop} (h : Rows P row args w R) : RowsIn (At rd) n P row args w R := fun c cs _ => by
  obtain ⟨v, w', r, s⟩ := h c cs
  exact ⟨v, w', r, stepsIn_wide.2 s⟩
theorem calm_sem {ρ : Operand → Value} (hc : rd ≠ none → calmO o = true) : Oper.semAt rd ρ o = execOp ρ o := by
  cases rd with
  | none => rfl
  | some l =>
    refine Oper.semAt_eq _ _ _ fun c e => ?_
    have := hc (by simp)
    unfold calmO at this
    rw [e] at this
    cases this
theorem oper_in (hc : rd ≠ none → calmO o = true) (h : o.wp P a w K Q) : o.wpIn (At rd) n P a w K Q := by
  refine ⟨fun _ _ => trivial, ?_⟩
  rw [show (At rd).round = rd from rfl, calm_sem hc]
  unfold Oper.wp at h
  generalize (execOp a.eval o).run P w = r at h ⊢
  cases r with
  | ok x w' =>
    cases x <;> simp only [Oper.upon] at h <;> simp only [Oper.uponIn]
    case value => exact h
    case skip => exact h
    case defer => exact h
    case enter => exact ⟨(fun e => by cases e), calls_in h⟩
    case row => exact ⟨(fun e => by cases e), rows_in h⟩
    all_goals exact h.elim
  | halt x w' => cases x <;> simp only [Oper.upon] at h <;> simp only [Oper.uponIn] <;> first | exact h | exact h.elim
/-- Nothing is asked of a way out by a lack of room. -/
def NoOut (Q : Exit → Act → World → Prop) : Prop := ∀ a w, ¬ Q .outgrown a w
theorem noOut_let (h : NoOut Q) : ¬ LetsOut Q := fun ⟨a, w, q⟩ => h a w q
theorem wpOp_in {i : Nat} (hc : rd ≠ none → (ops.toList.all calmO = true ∧ NoOut Q)) (hr : rd ≠ none) (h : wpOp P ops Q i K a w) : wpOpIn (At rd) n P ops Q i K a w := by
  unfold wpOp at h
  unfold wpOpIn
  cases ho : ops[i]? with
  | none => rw [ho] at h; exact h
  | some o =>
    simp only [ho] at h ⊢
    have hco : calmO o = true := List.all_eq_true.1 (hc hr).1 o (by
      obtain ⟨hl, he⟩ := Array.getElem?_eq_some_iff.1 ho
      rw [← he]; exact Array.getElem_mem_toList hl)
    split
    · rename_i hw
      simp only [hw, if_true] at h
      rcases h with h | ⟨_, h⟩
      · exact oper_in (fun _ => hco) h
      · exact (noOut_let (hc hr).2 h).elim
    · rename_i hw
      simp only [hw] at h
      exact ⟨fun _ _ => trivial, h⟩
theorem wpAny_in (hc : rd ≠ none → (ops.toList.all calmO = true ∧ NoOut Q)) (hr : rd ≠ none) {md : Region.Mode} : ∀ (fuel : Nat) (listed : Array Bool) (a : Act) (w : World), wpAny P md ops Q fuel listed a w → wpAnyIn (At rd) n P md ops Q fuel listed a w
  | 0, _, _, _, h => h
  | fuel + 1, _, _, _, h => ⟨h.1, fun i hi => wpOpIn_mono (fun a' w' h' => wpAny_in hc hr fuel _ a' w' h') (wpOp_in hc hr (h.2 i hi))⟩
theorem wpList_in (hr : rd ≠ none) (hQ : NoOut Q) : ∀ (l : List Oper), l.all calmO = true → ∀ (a : Act) (w : World), wpList P ops Q l a w → wpListIn (At rd) n P ops Q l a w
  | [], _, _, _, h => h
  | o :: l, hl, a, w, h => by
    simp only [List.all_cons, Bool.and_eq_true] at hl
    unfold wpList at h
    unfold wpListIn
    split
    · rename_i hw
      simp only [hw, if_true] at h
      rcases h with h | ⟨_, h⟩
      · exact Oper.wpIn_mono (fun a w h => wpList_in hr hQ l hl.2 a w h) (oper_in (fun _ => hl.1) h)
      · exact (noOut_let hQ h).elim
    · rename_i hw
      simp only [hw] at h
      exact ⟨fun _ _ => trivial, wpList_in hr hQ l hl.2 _ _ h⟩
/-- Code without a fence, where the frame is a call's. -/
theorem wp_in {c : Code} (h : c.wp P Q a w) : c.wpIn (At none) n P Q a w := wpIn_wide.2 h
theorem wp_out {c : Code} (h : c.wpIn (At none) n P Q a w) : c.wp P Q a w := (wpIn_wide (n := n)).1 h
theorem region_in {id : Nat} {l : List Oper} (hc : rd ≠ none → (l.all calmO = true ∧ NoOut Q)) (h : wpList P l.toArray Q l a w) : (Code.region id l.toArray false).wpIn (At rd) n P Q a w := by
  cases rd with
  | none => exact wp_in (wp_region_lit h)
  | some r => exact wpIn_region_lit (wpList_in (by simp) (hc (by simp)).2 l (hc (by simp)).1 a w h)
theorem draw_in {id : Nat} (hm : P.follows .mixedOrders = true) (hc : rd ≠ none → (ops.toList.all calmO = true ∧ NoOut Q)) (h : wpAny P .any ops Q ops.size (Array.replicate ops.size false) a w.drew) : (Code.region id ops true).wpIn (At rd) n P Q a w := by
  cases rd with
  | none => exact wp_in (wp_region_any hm h)
  | some r => exact wpIn_region_any hm (wpAny_in hc (by simp) _ _ _ _ h)
end
end Go.Proofs.Ytgkfampgofjkfaa
