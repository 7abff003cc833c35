
/- ThenMaps: the program and its model. -/
import Derived.Test.YtgkfampgofjkfaaMap
import Derived.Test.YtgkfampgofjkfaaBase
set_option linter.unusedSimpArgs false
set_option linter.unusedVariables false
set_option linter.unusedSectionVars false
namespace Go.Proofs.Ytgkfampgofjkfaa
open Go.RowKit

def thenL (f g : List Int) : List Int := f.map fun x => g.getD x.toNat 0
def fThenMaps (n : Int) (f : List Int) (k : Int) (g : List Int) : List Int × Int :=
  if SizeP n ∧ SizeP k then (if MapP n f ∧ MapP k g ∧ (g.length : Int) = n then (thenL f g, 0) else ([], 1)) else ([], 2)

theorem retLI_nil {w : World} {W : World} {c : Int} (hb : Below W.heap.size W w) : RetLI W [] c (.returned (.tuple #[.slice none 0 0, .int .i64 c])) w :=
  ⟨_, rfl, Sl.nil _ _, hb⟩

theorem thenL_snoc {f g : List Int} {k : Nat} (hk : k < f.length) : thenL (f.take (k + 1)) g = thenL (f.take k) g ++ [g.getD (f.getD k 0).toNat 0] := by
  rw [take_snoc hk]; simp [thenL]

theorem then_fill {f g : List Int} {k : Nat} (hk : k < f.length) :
    (thenL (f.take k) g ++ List.replicate (f.length - k) 0).set k (g.getD (f.getD k 0).toNat 0) = thenL (f.take (k + 1)) g ++ List.replicate (f.length - (k + 1)) 0 := by
  have hl : (thenL (f.take k) g).length = k := by simp [thenL]; omega
  rw [List.set_append, if_neg (by omega), hl, Nat.sub_self, thenL_snoc hk]
  obtain ⟨m, hm⟩ : ∃ m, f.length - k = m + 1 := ⟨f.length - k - 1, by omega⟩
  have hm' : f.length - (k + 1) = m := by omega
  rw [hm, hm', List.replicate_succ]
  simp

end Go.Proofs.Ytgkfampgofjkfaa
