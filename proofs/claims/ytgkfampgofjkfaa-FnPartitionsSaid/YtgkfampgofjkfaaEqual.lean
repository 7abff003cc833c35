
/- EqualizerOf: the program and its model. -/
import Derived.Test.YtgkfampgofjkfaaMap
set_option linter.unusedSimpArgs false
set_option linter.unusedVariables false
set_option linter.unusedSectionVars false
namespace Go.Proofs.Ytgkfampgofjkfaa
open Go.RowKit

def eqP (f g : List Int) (j : Nat) : Bool := f.getD j 0 == g.getD j 0
def fEqualizerOf (n : Int) (f g : List Int) : List Int × Int :=
  if codeTwo n f g = 0 then (idxs (eqP f g) f.length, 0) else ([], codeTwo n f g)

theorem ret_nil' {w : World} {W : World} {c : Int} (hb : Below W.heap.size W w) : RetLI W [] c (.returned (.tuple #[.slice none 0 0, .int .i64 c])) w :=
  ⟨_, rfl, Sl.nil _ _, hb⟩

theorem codeTwo_len {n : Int} {f g : List Int} (h : codeTwo n f g = 0) : f.length = g.length := by
  unfold codeTwo at h
  split at h
  · split at h
    · rename_i hh; exact hh.2
    · cases h
  · rename_i hh; exact absurd h hh

end Go.Proofs.Ytgkfampgofjkfaa
