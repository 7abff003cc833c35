/-
  DERIVED. GIVEN WITH THE SEED: THE CARDS: each row of YtfnneogadciimaaDoorRows.lean that lists a variable, with what it lists TIED to the program's text (the seventh form; the later family's looks); each row that meets fmt, with fmt's text TOLD by the authors' own Lean function (tested against real Go, not proved from fmt's source: count such statements apart). THE CARD IS WHAT COUNTS. Prove the row's statement (the work); the ties are given (YtfnneogadciimaaDoorTie.lean); close each card by the builder's one call (the guide's Derived/Test/ToyasCard.lean, 'card_holds'). Laid BY PROGRAM, IN A SANDBOX (cutbox-door.mjs). By AI agents, Wed Nov 11 2026. No macro, syntax, notation, axiom, sorry.
-/
import Derived.Test.YtfnneogadciimaaDoorRows
import GoSem.ClaimSeven
namespace Go.Proofs.YtfnneogadciimaaDoor
namespace Rows

/-- THE TIED CARD OF 'laws.FnExactAllFunctors'. -/
def fnExactAllFunctorsCard : Claim7 := { stood := { row := fnExactAllFunctorsRow, standIns := [], harness := (true, "ffb157d65d3981e6d322781ee648dc2382d24d4e817c31ad79c1461b1b7bc2b8"), looks := false }, kinds := [], alts := [], laidByText := true, laidKinds := [.data], laidTests := true, laidLooks := .later }
def FnExactAllFunctorsCardSaid : Prop := Claim7.holds Tryd.pinned (.plain (OpenSpec.ofChange fnExactAllFunctorsSpec)) fnExactAllFunctorsCard

/-- THE TIED CARD OF 'laws.FnExactCountFunctors'. -/
def fnExactCountFunctorsCard : Claim7 := { stood := { row := fnExactCountFunctorsRow, standIns := [], harness := (true, "ffb157d65d3981e6d322781ee648dc2382d24d4e817c31ad79c1461b1b7bc2b8"), looks := false }, kinds := [], alts := [], laidByText := true, laidKinds := [.data], laidTests := true, laidLooks := .later }
def FnExactCountFunctorsCardSaid : Prop := Claim7.holds Tryd.pinned (.plain (OpenSpec.ofChange fnExactCountFunctorsSpec)) fnExactCountFunctorsCard

/-- THE TIED CARD OF 'laws.FnExactAllTransformations'. -/
def fnExactAllTransformationsCard : Claim7 := { stood := { row := fnExactAllTransformationsRow, standIns := [], harness := (true, "ffb157d65d3981e6d322781ee648dc2382d24d4e817c31ad79c1461b1b7bc2b8"), looks := false }, kinds := [], alts := [], laidByText := true, laidKinds := [.data], laidTests := true, laidLooks := .later }
def FnExactAllTransformationsCardSaid : Prop := Claim7.holds Tryd.pinned (.plain (OpenSpec.ofChange fnExactAllTransformationsSpec)) fnExactAllTransformationsCard

/-- THE TIED CARD OF 'laws.FnExactFindNaturalIsomorphism'. -/
def fnExactFindNaturalIsomorphismCard : Claim7 := { stood := { row := fnExactFindNaturalIsomorphismRow, standIns := [], harness := (true, "ffb157d65d3981e6d322781ee648dc2382d24d4e817c31ad79c1461b1b7bc2b8"), looks := false }, kinds := [], alts := [], laidByText := true, laidKinds := [.data], laidTests := true, laidLooks := .later }
def FnExactFindNaturalIsomorphismCardSaid : Prop := Claim7.holds Tryd.pinned (.plain (OpenSpec.ofChange fnExactFindNaturalIsomorphismSpec)) fnExactFindNaturalIsomorphismCard

/-- THE SECOND FORM's CARD OF 'laws.FnExactAllFunctors'. -/
def fnExactAllFunctorsUptoCard : Claim7 := { stood := { row := fnExactAllFunctorsUptoRow, standIns := [], harness := (true, "ffb157d65d3981e6d322781ee648dc2382d24d4e817c31ad79c1461b1b7bc2b8"), looks := false }, kinds := [], alts := [], laidByText := true, laidKinds := [.data], laidTests := true, laidLooks := .later }
def FnExactAllFunctorsUptoCardSaid : Prop := Claim7.holds Tryd.pinned (.plain (OpenSpec.upto fnExactAllFunctorsSpec)) fnExactAllFunctorsUptoCard

/-- THE SECOND FORM's CARD OF 'laws.FnExactCountFunctors'. -/
def fnExactCountFunctorsUptoCard : Claim7 := { stood := { row := fnExactCountFunctorsUptoRow, standIns := [], harness := (true, "ffb157d65d3981e6d322781ee648dc2382d24d4e817c31ad79c1461b1b7bc2b8"), looks := false }, kinds := [], alts := [], laidByText := true, laidKinds := [.data], laidTests := true, laidLooks := .later }
def FnExactCountFunctorsUptoCardSaid : Prop := Claim7.holds Tryd.pinned (.plain (OpenSpec.upto fnExactCountFunctorsSpec)) fnExactCountFunctorsUptoCard

/-- THE SECOND FORM's CARD OF 'laws.FnExactAllTransformations'. -/
def fnExactAllTransformationsUptoCard : Claim7 := { stood := { row := fnExactAllTransformationsUptoRow, standIns := [], harness := (true, "ffb157d65d3981e6d322781ee648dc2382d24d4e817c31ad79c1461b1b7bc2b8"), looks := false }, kinds := [], alts := [], laidByText := true, laidKinds := [.data], laidTests := true, laidLooks := .later }
def FnExactAllTransformationsUptoCardSaid : Prop := Claim7.holds Tryd.pinned (.plain (OpenSpec.upto fnExactAllTransformationsSpec)) fnExactAllTransformationsUptoCard

/-- THE SECOND FORM's CARD OF 'laws.FnExactFindNaturalIsomorphism'. -/
def fnExactFindNaturalIsomorphismUptoCard : Claim7 := { stood := { row := fnExactFindNaturalIsomorphismUptoRow, standIns := [], harness := (true, "ffb157d65d3981e6d322781ee648dc2382d24d4e817c31ad79c1461b1b7bc2b8"), looks := false }, kinds := [], alts := [], laidByText := true, laidKinds := [.data], laidTests := true, laidLooks := .later }
def FnExactFindNaturalIsomorphismUptoCardSaid : Prop := Claim7.holds Tryd.pinned (.plain (OpenSpec.upto fnExactFindNaturalIsomorphismSpec)) fnExactFindNaturalIsomorphismUptoCard
end Rows
end Go.Proofs.YtfnneogadciimaaDoor
