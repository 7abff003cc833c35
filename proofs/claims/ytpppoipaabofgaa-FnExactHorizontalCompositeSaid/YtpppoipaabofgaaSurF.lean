
/- Essentially surjective functors: both sides. -/
import Derived.Test.YtpppoipaabofgaaAsk
import Derived.Test.YtpppoipaabofgaaFunL
import Derived.Test.YtpppoipaabofgaaInv
set_option linter.unusedSimpArgs false
set_option linter.unusedVariables false
set_option linter.unusedSectionVars false
namespace Go.Proofs.Ytpppoipaabofgaa
open Go.RowKit


section
variable {w0 : World} {is : List Itm} {ops : Array Oper} {o : Oper} {N : Nat} {e : Env} {v r : Value} {d : Nat}
theorem qt_makeFB2 {f : Fn} {x : Operand} (hop : o.op = .makeFunc f #[x] #[]) (hx : evo e x = some r) : QV w0 is o e (.func f #[r] #[]) := fun w ρ M F => by
  have hx := F _ _ hx
  simp [execOp, hop, hx, Instr.makeFunc]
theorem qt_loadRQ {x : Operand} {t tb : TypeId} {B j z : Nat} {cs : List Value} {td : TypeDesc} (hb : BxV w0 B tb (.agg cs.toArray)) (hop : o.op = .load t x) (hx : evo e x = some (.pointer (some ⟨B, j, none⟩))) (ht : Try.prog.underlying t = some td) (hd : td.isRow = true)
    (hs : (Try.prog.info? t).map (·.size) = some z) (hl : j + z ≤ cs.length) : QV w0 is o e (.agg ((cs.drop j).take z).toArray) :=
  fun w ac M F => by
    have hx := F _ _ hx
    have hbx := mem_bxR M hb
    have hc : w.rangeAt B j ((cs.drop j).take z) := fun i u hu => by
      refine bx_cell hbx (j + i) ?_
      rw [List.getElem?_take] at hu
      split at hu
      · rw [List.getElem?_drop] at hu; exact hu
      · cases hu
    have hlen : ((cs.drop j).take z).length = z := by simp; omega
    simp only [execOp, hop, hx, Sem.run_bind, run_loadAt_mid w B j t _ td hc ht hd (by rw [hs, hlen]), Result.andThen_ok]
    rfl
end
noncomputable def idxG (p : Nat → Prop) (n : Nat) : Int := match firstN p n with
  | some k => (k : Int)
  | none => -1
theorem idxG_t {p : Nat → Prop} {n k : Nat} (hk : k < n) (h : p k) (h2 : ∀ j, j < k → ¬ p j) : idxG p n = (k : Int) := by unfold idxG; rw [firstN_some hk h h2]
theorem idxG_f {p : Nat → Prop} {n : Nat} (h2 : ∀ j, j < n → ¬ p j) : idxG p n = -1 := by unfold idxG; rw [firstN_none h2]
theorem idxG_ex {p : Nat → Prop} {n : Nat} : bP (∃ i, i < n ∧ p i) = decide (0 ≤ idxG p n) := by
  rw [← bP_dec]
  refine bP_congr ⟨fun ⟨i, hi, hp⟩ => ?_, fun h => ?_⟩
  · obtain ⟨k, hk, h1, h2⟩ : ∃ k, k < n ∧ p k ∧ ∀ j, j < k → ¬ p j := ⟨leastN p, Nat.lt_of_le_of_lt (leastN_spec hp).2 hi, (leastN_spec hp).1, fun j hj hpj => absurd (leastN_spec (p := p) hpj).2 (by omega)⟩
    rw [idxG_t hk h1 h2]; omega
  · refine Classical.byContradiction fun hn => ?_
    rw [idxG_f fun j hj hp => hn ⟨j, hj, hp⟩] at h; omega
theorem nn_inv {c : Cat} {f : Int} (h : 0 ≤ findGo c f (homTo c (at0 c.t f) (at0 c.s f) c.s.length)) : hasInv c f := Classical.byContradiction fun hn => by have := inv_neg.2 hn; omega
theorem inv_nn {c : Cat} {f : Int} (h : hasInv c f) : 0 ≤ findGo c f (homTo c (at0 c.t f) (at0 c.s f) c.s.length) := by
  refine Classical.byContradiction fun hn => ?_
  have := inv_neg.1 (show findGo c f (homTo c (at0 c.t f) (at0 c.s f) c.s.length) < 0 by omega)
  exact this h
def homXY (c : Cat) (x y : Int) : List Int := homTo c x y c.s.length
def isoXY (c : Cat) (x y : Int) : Prop := ∃ i, i < (homXY c x y).length ∧ hasInv c (at0 (homXY c x y) (i : Int))
theorem homXY_len (c : Cat) (x y : Int) : (homXY c x y).length ≤ c.s.length := homTo_len c x y c.s.length
theorem homXY_at {c : Cat} {x y : Int} {k : Nat} (h : k < (homXY c x y).length) : 0 ≤ at0 (homXY c x y) (k : Int) ∧ at0 (homXY c x y) (k : Int) < c.s.length := by
  have := homTo_at (c := c) (x := x) (y := y) (n := c.s.length) (k := k) h
  exact ⟨this.1, this.2.1⟩
def surP (F : Fct) : Prop := ∀ y : Nat, (y : Int) < F.T.ob → ∃ i, i < F.o.length ∧ isoXY F.T (at0 F.o (i : Int)) (y : Int)
noncomputable def fIsEssentiallySurjective (F : Fct) : Bool × Int := (askB F (bP (surP F)), fctErr F)
theorem ex_snoc {p : Nat → Prop} {j : Nat} : (∃ i, i < j + 1 ∧ p i) ↔ (∃ i, i < j ∧ p i) ∨ p j := by
  constructor
  · rintro ⟨i, hi, hp⟩
    by_cases e : i = j
    · subst e; exact .inr hp
    · exact .inl ⟨i, by omega, hp⟩
  · rintro (⟨i, hi, hp⟩ | hp)
    · exact ⟨i, by omega, hp⟩
    · exact ⟨j, by omega, hp⟩

end Go.Proofs.Ytpppoipaabofgaa
