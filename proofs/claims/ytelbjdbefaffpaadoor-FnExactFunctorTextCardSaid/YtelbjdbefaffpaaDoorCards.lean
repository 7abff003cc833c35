/-
  DERIVED. GIVEN WITH THE SEED: THE CARDS: each row of YtelbjdbefaffpaaDoorRows.lean that lists a variable, with what it lists TIED to the program's text (the seventh form; the later family's looks); each row that meets fmt, with fmt's text TOLD by the authors' own Lean function (tested against real Go, not proved from fmt's source: count such statements apart). THE CARD IS WHAT COUNTS. Prove the row's statement (the work); the ties are given (YtelbjdbefaffpaaDoorTie.lean); close each card by the builder's one call (the guide's Derived/Test/ToyasCard.lean, 'card_holds'). Laid BY PROGRAM, IN A SANDBOX (cutbox-door.mjs). By AI agents, Wed Nov 11 2026. No macro, syntax, notation, axiom, sorry.
-/
import Derived.Test.YtelbjdbefaffpaaDoorRows
import GoSem.ClaimSeven
namespace Go.Proofs.YtelbjdbefaffpaaDoor
namespace Rows

/-- THE TIED CARD OF 'laws.FnExactCategoryText'. -/
def fnExactCategoryTextCard : Claim7 := { stood := { row := fnExactCategoryTextRow, standIns := [], harness := (true, "a5b7d4b7b7e78cd5a5474a18522ff9c9633d2f98dc50c176526be1084239f131"), looks := false }, kinds := [], alts := [], laidByText := true, laidKinds := [.data, .data, .data], laidTests := true, laidLooks := .later }
def FnExactCategoryTextCardSaid : Prop := Claim7.holds Tryd.pinned (.plain (OpenSpec.ofChange fnExactCategoryTextSpec)) fnExactCategoryTextCard

/-- THE TIED CARD OF 'laws.FnExactFunctorText'. -/
def fnExactFunctorTextCard : Claim7 := { stood := { row := fnExactFunctorTextRow, standIns := [], harness := (true, "a5b7d4b7b7e78cd5a5474a18522ff9c9633d2f98dc50c176526be1084239f131"), looks := false }, kinds := [], alts := [], laidByText := true, laidKinds := [.data, .data, .data], laidTests := true, laidLooks := .later }
def FnExactFunctorTextCardSaid : Prop := Claim7.holds Tryd.pinned (.plain (OpenSpec.ofChange fnExactFunctorTextSpec)) fnExactFunctorTextCard

/-- THE TIED CARD OF 'laws.FnExactCategoryLine'. -/
def fnExactCategoryLineCard : Claim7 := { stood := { row := fnExactCategoryLineRow, standIns := [], harness := (true, "a5b7d4b7b7e78cd5a5474a18522ff9c9633d2f98dc50c176526be1084239f131"), looks := false }, kinds := [], alts := [], laidByText := true, laidKinds := [.data, .data, .data], laidTests := true, laidLooks := .later }
def FnExactCategoryLineCardSaid : Prop := Claim7.holds Tryd.pinned (.plain (OpenSpec.ofChange fnExactCategoryLineSpec)) fnExactCategoryLineCard

/-- THE SECOND FORM's CARD OF 'laws.FnExactCategoryText'. -/
def fnExactCategoryTextUptoCard : Claim7 := { stood := { row := fnExactCategoryTextUptoRow, standIns := [], harness := (true, "a5b7d4b7b7e78cd5a5474a18522ff9c9633d2f98dc50c176526be1084239f131"), looks := false }, kinds := [], alts := [], laidByText := true, laidKinds := [.data, .data, .data], laidTests := true, laidLooks := .later }
def FnExactCategoryTextUptoCardSaid : Prop := Claim7.holds Tryd.pinned (.plain (OpenSpec.upto fnExactCategoryTextSpec)) fnExactCategoryTextUptoCard

/-- THE SECOND FORM's CARD OF 'laws.FnExactFunctorText'. -/
def fnExactFunctorTextUptoCard : Claim7 := { stood := { row := fnExactFunctorTextUptoRow, standIns := [], harness := (true, "a5b7d4b7b7e78cd5a5474a18522ff9c9633d2f98dc50c176526be1084239f131"), looks := false }, kinds := [], alts := [], laidByText := true, laidKinds := [.data, .data, .data], laidTests := true, laidLooks := .later }
def FnExactFunctorTextUptoCardSaid : Prop := Claim7.holds Tryd.pinned (.plain (OpenSpec.upto fnExactFunctorTextSpec)) fnExactFunctorTextUptoCard

/-- THE SECOND FORM's CARD OF 'laws.FnExactCategoryLine'. -/
def fnExactCategoryLineUptoCard : Claim7 := { stood := { row := fnExactCategoryLineUptoRow, standIns := [], harness := (true, "a5b7d4b7b7e78cd5a5474a18522ff9c9633d2f98dc50c176526be1084239f131"), looks := false }, kinds := [], alts := [], laidByText := true, laidKinds := [.data, .data, .data], laidTests := true, laidLooks := .later }
def FnExactCategoryLineUptoCardSaid : Prop := Claim7.holds Tryd.pinned (.plain (OpenSpec.upto fnExactCategoryLineSpec)) fnExactCategoryLineUptoCard
end Rows
end Go.Proofs.YtelbjdbefaffpaaDoor
