
/- The inverse of an arrow: the program's. -/
import Derived.Test.YtbfenibkbmkcaabShort
import Derived.Test.YtbfenibkbmkcaabHomL
set_option linter.unusedSimpArgs false
set_option linter.unusedVariables false
set_option linter.unusedSectionVars false
namespace Go.Proofs.Ytbfenibkbmkcaab
open Go.RowKit


def RetIB (W : World) (n : Int) (b : Bool) (e : Ending) (w' : World) : Prop := e = .returned (.tuple #[.int .i64 n, .bool b]) ∧ Below W.heap.size W w'
theorem findGo_le {c : Cat} {f : Int} : ∀ {xs : List Int}, findGo c f xs = -1 ∨ findGo c f xs ∈ xs
 | [] => .inl rfl
 | g :: r => by
  by_cases hi : invAt c f g
  ·right; rw [show findGo c f (g :: r) = g from if_pos hi]; exact List.mem_cons_self ..
  ·rw [show findGo c f (g :: r) = findGo c f r from if_neg hi]
   exact (findGo_le (c := c) (f := f) (xs := r)).imp id fun h => List.mem_cons_of_mem _ h
/-- The inverse of an arrow, or 0. -/
noncomputable def invZ (c : Cat) (f : Int) : Int := bif bP (hasInv c f) then findGo c f (homTo c (at0 c.t f) (at0 c.s f) c.s.length) else 0
theorem invZ_t {c : Cat} {f : Int} (h : hasInv c f) : invZ c f = findGo c f (homTo c (at0 c.t f) (at0 c.s f) c.s.length) := by unfold invZ; rw [bP_t h]; rfl
theorem invZ_f {c : Cat} {f : Int} (h : ¬ hasInv c f) : invZ c f = 0 := by unfold invZ; rw [bP_f h]; rfl

end Go.Proofs.Ytbfenibkbmkcaab
