
/- A block that a function value has caught, as it is found again. -/
import Derived.Test.YtgkfampgofjkfaaRul7
set_option linter.unusedSimpArgs false
set_option linter.unusedVariables false
set_option linter.unusedSectionVars false
namespace Go.Proofs.Ytgkfampgofjkfaa
open Go.RowKit
/-- A block outside that holds a struct. -/
def BxV (w : World) (B : Nat) (t : TypeId) (v : Value) : Prop := w.heap[B]? = some (.cells v.cells t (0, 0))
theorem bxV_below {w w' : World} {B : Nat} {t : TypeId} {v : Value} (hb : Below w.heap.size w w') (h : BxV w B t v) : BxV w' B t v := by
  unfold BxV at h ⊢
  rw [hb.block B (Array.getElem?_eq_some_iff.1 h).1]; exact h
section
variable {w0 : World} {is : List Itm} {o : Oper} {e : Env} {v : Value}
theorem mem_bxR {w : World} {B : Nat} {t : TypeId} {cs : List Value} (M : Mem w0 w is) (h : BxV w0 B t (.agg cs.toArray)) : Bx w B t cs := bxV_below M.1 h
theorem bxV_of {w : World} {n B : Nat} {t : TypeId} {cs : List Value} (M : Mem w0 w is) (h : is[n]? = some (bxI B t cs)) : BxV w B t (.agg cs.toArray) := mem_bx M h
theorem qt_loadRB {x : Operand} {t tb : TypeId} {B j : Nat} {cs : List Value} {td : TypeDesc} (hb : BxV w0 B tb (.agg cs.toArray)) (hop : o.op = .load t x) (hx : evo e x = some (.pointer (some ⟨B, j, none⟩))) (ht : Try.prog.underlying t = some td) (hd : aggT td = false)
    (hv : cs[j]? = some v) : QV w0 is o e v :=
  fun w ac M F => by
    have hx := F _ _ hx
    have hc := bx_cell (mem_bxR M hb) j hv
    simp [execOp, hop, hx, run_load1 ht hd hc]
theorem qt_loadRS {x : Operand} {t tb : TypeId} {B : Nat} {cs : List Value} {td : TypeDesc} (hb : BxV w0 B tb (.agg cs.toArray)) (hop : o.op = .load t x) (hx : evo e x = some (.pointer (some ⟨B, 0, none⟩))) (ht : Try.prog.underlying t = some td) (hd : aggT td = true)
    (hs : (Try.prog.info? t).map (·.size) = some cs.length) : QV w0 is o e (.agg cs.toArray) :=
  fun w ac M F => by
    have hx := F _ _ hx
    have hc : w.heap[B]? = some (.cells cs.toArray tb (0, 0)) := mem_bxR M hb
    simp [execOp, hop, hx, Instr.loadAt, Instr.sureAddr, run_loadVar_row w B tb t cs.toArray (0, 0) td hc ht (by cases td <;> simp_all [aggT]) (by simpa using hs)]
end
end Go.Proofs.Ytgkfampgofjkfaa
