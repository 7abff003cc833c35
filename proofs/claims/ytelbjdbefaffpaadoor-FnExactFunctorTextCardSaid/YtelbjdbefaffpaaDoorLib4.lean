
/- Strings as values; decimal texts: the library's contract (laid in this seat's Shelf text) in the words of this seat. -/
import Derived.Test.YtelbjdbefaffpaaDoorBase
import Derived.Test.YtelbjdbefaffpaaDoorShelf
set_option linter.unusedSimpArgs false
set_option linter.unusedVariables false
set_option linter.unusedSectionVars false
namespace Go.Proofs.YtelbjdbefaffpaaDoor
open Go.RowKit
abbrev sT (l : List UInt8) : Value := .string ⟨l.toArray⟩
def RetS (W : World) (l : List UInt8) (e : Ending) (w : World) : Prop := e = .returned (sT l) ∧ Below W.heap.size W w
theorem formatInt_any (w : World) (x : Int) (h0 : 0 ≤ x) (h1 : x < 100) :
    Calls Tryd.prog 61 #[.int .i64 x, .int .i64 10] w (RetS w (Lib.decDigits x.toNat)) := by
  obtain ⟨i, rfl⟩ := Int.eq_ofNat_of_zero_le h0
  refine (Tryd.strconv_FormatInt_10_small i (by omega) w).mono ?_
  rintro e w' ⟨rfl, rfl⟩
  exact ⟨rfl, Below.refl _ _⟩
end Go.Proofs.YtelbjdbefaffpaaDoor
