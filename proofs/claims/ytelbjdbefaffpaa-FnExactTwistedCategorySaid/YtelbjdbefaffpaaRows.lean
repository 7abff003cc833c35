/-
  No cell of these rows narrows 'for every input' (looked for: loops, veiled, ifaces, maps, wideKeys, modest, calm, conditions, laid).
  DERIVED. THE GIVEN ROWS OF THIS SEAT. 6 by the template 'for every input the law returns true; each argument reads behind the call as it read before'; 0 by the template 'total and deterministic' (their statements: YtelbjdbefaffpaaTotals.lean).
  GIVEN WITH THE SEED: the statements are not yours to turn. If you find one false, say at which input.
  Laid BY PROGRAM, IN A SANDBOX (cutbox-rows.mjs): the forced cells as the released guide's own fill.sh prints them over the translation bb9581798c974a06… (all of the seat's roots in one cut). By AI agents, Wed Nov 11 2026. No macro, syntax, notation, axiom, sorry.
-/
import Derived.Test.YtelbjdbefaffpaaChecked
import GoSem.Claim
import GoSem.ClaimJoined
import GoSem.ClaimMapViews
import Derived.JoinedTies
import Derived.KernelRfl
namespace Go.Proofs.Ytelbjdbefaffpaa
/- THE CELL 'sum', in the pinned program and in every row, IS THE sha256 OF THE DUMP (.gsa) THAT YtelbjdbefaffpaaProg.lean LOADS. Nothing in Lean hashes anything: it is a label: what it is worth is what the hold of that sum in a sandbox is worth. -/
noncomputable def Try.pinned : Pinned := { name := "ytelbjdbefaffpaa", sum := "bb9581798c974a06567601d04f4b1f675e9e932075c41fd54014eeeacaa0e1c8", checked := Try.checked }
namespace Rows
def none {H : Type} : Left H := { results := [], args := [] }

/-- 'laws.FnExactIsSubcategory': WHATEVER THE INPUT: true; the input reads as it did. -/
def fnExactIsSubcategorySpec : ChangeSpec := { name := "fnExactIsSubcategory", fn := fun _ => fun
  | [d1, d2] => { results := [.lit (.bool true)], args := [d1, d2] }
  | _ => none }
def fnExactIsSubcategoryRow : OpenClaim := { program := "ytelbjdbefaffpaa", sum := "bb9581798c974a06567601d04f4b1f675e9e932075c41fd54014eeeacaa0e1c8", func := "loop.example/g01083/laws.FnExactIsSubcategory", spec := "fnExactIsSubcategory", unfollowed := true, recurses := true, plainKeys := false, apart := false }
def FnExactIsSubcategorySaid : Prop := fnExactIsSubcategoryRow.holds Try.pinned (OpenSpec.ofChange fnExactIsSubcategorySpec)

/-- ITS FALSE NEIGHBOUR: 'it returns false'. Refute it at one input. -/
def fnExactIsSubcategoryWrong : ChangeSpec := { name := "fnExactIsSubcategory", fn := fun _ => fun
  | [d1, d2] => { results := [.lit (.bool false)], args := [d1, d2] }
  | _ => none }
def FnExactIsSubcategoryWrongFalsely : Prop := fnExactIsSubcategoryRow.holds Try.pinned (OpenSpec.ofChange fnExactIsSubcategoryWrong)

/-- 'laws.FnExactGeneratedArrows': WHATEVER THE INPUT: true; the input reads as it did. -/
def fnExactGeneratedArrowsSpec : ChangeSpec := { name := "fnExactGeneratedArrows", fn := fun _ => fun
  | [d1, d2] => { results := [.lit (.bool true)], args := [d1, d2] }
  | _ => none }
def fnExactGeneratedArrowsRow : OpenClaim := { program := "ytelbjdbefaffpaa", sum := "bb9581798c974a06567601d04f4b1f675e9e932075c41fd54014eeeacaa0e1c8", func := "loop.example/g01083/laws.FnExactGeneratedArrows", spec := "fnExactGeneratedArrows", unfollowed := true, recurses := true, plainKeys := false, apart := false }
def FnExactGeneratedArrowsSaid : Prop := fnExactGeneratedArrowsRow.holds Try.pinned (OpenSpec.ofChange fnExactGeneratedArrowsSpec)

/-- ITS FALSE NEIGHBOUR: 'it returns false'. Refute it at one input. -/
def fnExactGeneratedArrowsWrong : ChangeSpec := { name := "fnExactGeneratedArrows", fn := fun _ => fun
  | [d1, d2] => { results := [.lit (.bool false)], args := [d1, d2] }
  | _ => none }
def FnExactGeneratedArrowsWrongFalsely : Prop := fnExactGeneratedArrowsRow.holds Try.pinned (OpenSpec.ofChange fnExactGeneratedArrowsWrong)

/-- 'laws.FnExactSubcategoryOf': WHATEVER THE INPUT: true; the input reads as it did. -/
def fnExactSubcategoryOfSpec : ChangeSpec := { name := "fnExactSubcategoryOf", fn := fun _ => fun
  | [d1, d2] => { results := [.lit (.bool true)], args := [d1, d2] }
  | _ => none }
def fnExactSubcategoryOfRow : OpenClaim := { program := "ytelbjdbefaffpaa", sum := "bb9581798c974a06567601d04f4b1f675e9e932075c41fd54014eeeacaa0e1c8", func := "loop.example/g01083/laws.FnExactSubcategoryOf", spec := "fnExactSubcategoryOf", unfollowed := true, recurses := true, plainKeys := false, apart := false }
def FnExactSubcategoryOfSaid : Prop := fnExactSubcategoryOfRow.holds Try.pinned (OpenSpec.ofChange fnExactSubcategoryOfSpec)

/-- ITS FALSE NEIGHBOUR: 'it returns false'. Refute it at one input. -/
def fnExactSubcategoryOfWrong : ChangeSpec := { name := "fnExactSubcategoryOf", fn := fun _ => fun
  | [d1, d2] => { results := [.lit (.bool false)], args := [d1, d2] }
  | _ => none }
def FnExactSubcategoryOfWrongFalsely : Prop := fnExactSubcategoryOfRow.holds Try.pinned (OpenSpec.ofChange fnExactSubcategoryOfWrong)

/-- 'laws.FnExactTwistedCategory': WHATEVER THE INPUT: true; the input reads as it did. -/
def fnExactTwistedCategorySpec : ChangeSpec := { name := "fnExactTwistedCategory", fn := fun _ => fun
  | [d] => { results := [.lit (.bool true)], args := [d] }
  | _ => none }
def fnExactTwistedCategoryRow : OpenClaim := { program := "ytelbjdbefaffpaa", sum := "bb9581798c974a06567601d04f4b1f675e9e932075c41fd54014eeeacaa0e1c8", func := "loop.example/g01083/laws.FnExactTwistedCategory", spec := "fnExactTwistedCategory", unfollowed := true, recurses := true, plainKeys := false, apart := false }
def FnExactTwistedCategorySaid : Prop := fnExactTwistedCategoryRow.holds Try.pinned (OpenSpec.ofChange fnExactTwistedCategorySpec)

/-- ITS FALSE NEIGHBOUR: 'it returns false'. Refute it at one input. -/
def fnExactTwistedCategoryWrong : ChangeSpec := { name := "fnExactTwistedCategory", fn := fun _ => fun
  | [d] => { results := [.lit (.bool false)], args := [d] }
  | _ => none }
def FnExactTwistedCategoryWrongFalsely : Prop := fnExactTwistedCategoryRow.holds Try.pinned (OpenSpec.ofChange fnExactTwistedCategoryWrong)

/-- 'laws.FnExactPathCategory': WHATEVER THE INPUT: true; the input reads as it did. -/
def fnExactPathCategorySpec : ChangeSpec := { name := "fnExactPathCategory", fn := fun _ => fun
  | [d1, d2, d3] => { results := [.lit (.bool true)], args := [d1, d2, d3] }
  | _ => none }
def fnExactPathCategoryRow : OpenClaim := { program := "ytelbjdbefaffpaa", sum := "bb9581798c974a06567601d04f4b1f675e9e932075c41fd54014eeeacaa0e1c8", func := "loop.example/g01083/laws.FnExactPathCategory", spec := "fnExactPathCategory", unfollowed := true, recurses := true, plainKeys := false, apart := false }
def FnExactPathCategorySaid : Prop := fnExactPathCategoryRow.holds Try.pinned (OpenSpec.ofChange fnExactPathCategorySpec)

/-- ITS FALSE NEIGHBOUR: 'it returns false'. Refute it at one input. -/
def fnExactPathCategoryWrong : ChangeSpec := { name := "fnExactPathCategory", fn := fun _ => fun
  | [d1, d2, d3] => { results := [.lit (.bool false)], args := [d1, d2, d3] }
  | _ => none }
def FnExactPathCategoryWrongFalsely : Prop := fnExactPathCategoryRow.holds Try.pinned (OpenSpec.ofChange fnExactPathCategoryWrong)

/-- 'laws.FnCategoryFaults': WHATEVER THE INPUT: true; the input reads as it did. -/
def fnCategoryFaultsSpec : ChangeSpec := { name := "fnCategoryFaults", fn := fun _ => fun
  | [d] => { results := [.lit (.bool true)], args := [d] }
  | _ => none }
def fnCategoryFaultsRow : OpenClaim := { program := "ytelbjdbefaffpaa", sum := "bb9581798c974a06567601d04f4b1f675e9e932075c41fd54014eeeacaa0e1c8", func := "loop.example/g01083/laws.FnCategoryFaults", spec := "fnCategoryFaults", plainKeys := false, apart := false }
def FnCategoryFaultsSaid : Prop := fnCategoryFaultsRow.holds Try.pinned (OpenSpec.ofChange fnCategoryFaultsSpec)

/-- ITS FALSE NEIGHBOUR: 'it returns false'. Refute it at one input. -/
def fnCategoryFaultsWrong : ChangeSpec := { name := "fnCategoryFaults", fn := fun _ => fun
  | [d] => { results := [.lit (.bool false)], args := [d] }
  | _ => none }
def FnCategoryFaultsWrongFalsely : Prop := fnCategoryFaultsRow.holds Try.pinned (OpenSpec.ofChange fnCategoryFaultsWrong)

/- THE SECOND FORM. 'bulk': how many values and letters a reading holds, each counted each time it is reached (what is shared counts as often as it is met; a slice's spare places count too). A statement '..UptoSaid' is the law's where the arguments, and the package variables that the reading takes, are together of bulk at most 1048576: NARROWER than '..Said'. Prove '..Said' where nothing that the law and all that it calls make is longer than what came in: it says more and counts as full. Else prove '..UptoSaid'. A law counts once. -/
mutual
def uptoBulk {H : Type} : DataW H → Nat
  | .lit (.string bytes) => bytes.length + 1
  | .lit _ => 1
  | .nil => 1
  | .ptr d => uptoBulk d + 1
  | .slice elems spare => uptoBulkAll elems + uptoBulkAll spare + 1
  | .agg parts => uptoBulkAll parts + 1
  | .iface _ d => uptoBulk d + 1
  | .map entries => uptoBulkEntries entries + 1
  | .held _ => 1
def uptoBulkAll {H : Type} : List (DataW H) → Nat
  | [] => 0
  | d :: r => uptoBulk d + uptoBulkAll r
def uptoBulkEntries {H : Type} : List (Lit × DataW H) → Nat
  | [] => 0
  | x :: r => uptoBulkEntry x + uptoBulkEntries r
def uptoBulkEntry {H : Type} : Lit × DataW H → Nat
  | (.string bytes, d) => bytes.length + uptoBulk d + 1
  | (_, d) => uptoBulk d + 1
 end
def uptoSmall : (H : Type) → List (DataW H) → Bool := fun _ ds => decide (uptoBulkAll ds ≤ 1048576)
def OpenSpec.upto (s : _root_.Go.ChangeSpec) : _root_.Go.OpenSpec := { _root_.Go.OpenSpec.ofChange s with cond := some uptoSmall }

/-- 'laws.FnExactIsSubcategory', WHERE WHAT IT READS IS OF BULK AT MOST 1048576: true; the input reads as it did. -/
def fnExactIsSubcategoryUptoRow : OpenClaim := { program := "ytelbjdbefaffpaa", sum := "bb9581798c974a06567601d04f4b1f675e9e932075c41fd54014eeeacaa0e1c8", func := "loop.example/g01083/laws.FnExactIsSubcategory", spec := "fnExactIsSubcategory", unfollowed := true, recurses := true, plainKeys := false, apart := false, narrowed := true }
def FnExactIsSubcategoryUptoSaid : Prop := fnExactIsSubcategoryUptoRow.holds Try.pinned (OpenSpec.upto fnExactIsSubcategorySpec)

/-- 'laws.FnExactGeneratedArrows', WHERE WHAT IT READS IS OF BULK AT MOST 1048576: true; the input reads as it did. -/
def fnExactGeneratedArrowsUptoRow : OpenClaim := { program := "ytelbjdbefaffpaa", sum := "bb9581798c974a06567601d04f4b1f675e9e932075c41fd54014eeeacaa0e1c8", func := "loop.example/g01083/laws.FnExactGeneratedArrows", spec := "fnExactGeneratedArrows", unfollowed := true, recurses := true, plainKeys := false, apart := false, narrowed := true }
def FnExactGeneratedArrowsUptoSaid : Prop := fnExactGeneratedArrowsUptoRow.holds Try.pinned (OpenSpec.upto fnExactGeneratedArrowsSpec)

/-- 'laws.FnExactSubcategoryOf', WHERE WHAT IT READS IS OF BULK AT MOST 1048576: true; the input reads as it did. -/
def fnExactSubcategoryOfUptoRow : OpenClaim := { program := "ytelbjdbefaffpaa", sum := "bb9581798c974a06567601d04f4b1f675e9e932075c41fd54014eeeacaa0e1c8", func := "loop.example/g01083/laws.FnExactSubcategoryOf", spec := "fnExactSubcategoryOf", unfollowed := true, recurses := true, plainKeys := false, apart := false, narrowed := true }
def FnExactSubcategoryOfUptoSaid : Prop := fnExactSubcategoryOfUptoRow.holds Try.pinned (OpenSpec.upto fnExactSubcategoryOfSpec)

/-- 'laws.FnExactTwistedCategory', WHERE WHAT IT READS IS OF BULK AT MOST 1048576: true; the input reads as it did. -/
def fnExactTwistedCategoryUptoRow : OpenClaim := { program := "ytelbjdbefaffpaa", sum := "bb9581798c974a06567601d04f4b1f675e9e932075c41fd54014eeeacaa0e1c8", func := "loop.example/g01083/laws.FnExactTwistedCategory", spec := "fnExactTwistedCategory", unfollowed := true, recurses := true, plainKeys := false, apart := false, narrowed := true }
def FnExactTwistedCategoryUptoSaid : Prop := fnExactTwistedCategoryUptoRow.holds Try.pinned (OpenSpec.upto fnExactTwistedCategorySpec)

/-- 'laws.FnExactPathCategory', WHERE WHAT IT READS IS OF BULK AT MOST 1048576: true; the input reads as it did. -/
def fnExactPathCategoryUptoRow : OpenClaim := { program := "ytelbjdbefaffpaa", sum := "bb9581798c974a06567601d04f4b1f675e9e932075c41fd54014eeeacaa0e1c8", func := "loop.example/g01083/laws.FnExactPathCategory", spec := "fnExactPathCategory", unfollowed := true, recurses := true, plainKeys := false, apart := false, narrowed := true }
def FnExactPathCategoryUptoSaid : Prop := fnExactPathCategoryUptoRow.holds Try.pinned (OpenSpec.upto fnExactPathCategorySpec)

/-- 'laws.FnCategoryFaults', WHERE WHAT IT READS IS OF BULK AT MOST 1048576: true; the input reads as it did. -/
def fnCategoryFaultsUptoRow : OpenClaim := { program := "ytelbjdbefaffpaa", sum := "bb9581798c974a06567601d04f4b1f675e9e932075c41fd54014eeeacaa0e1c8", func := "loop.example/g01083/laws.FnCategoryFaults", spec := "fnCategoryFaults", plainKeys := false, apart := false, narrowed := true }
def FnCategoryFaultsUptoSaid : Prop := fnCategoryFaultsUptoRow.holds Try.pinned (OpenSpec.upto fnCategoryFaultsSpec)

end Rows
end Go.Proofs.Ytelbjdbefaffpaa
