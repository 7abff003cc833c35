/-
  No cell of these rows narrows 'for every input' (looked for: loops, veiled, ifaces, maps, wideKeys, modest, calm, conditions, laid).
  DERIVED. THE GIVEN ROWS OF THIS SEAT. 11 by the template 'for every input the law returns true; each argument reads behind the call as it read before'; 0 by the template 'total and deterministic' (their statements: YtelbjdbefaffpabTotals.lean).
  GIVEN WITH THE SEED: the statements are not yours to turn. If you find one false, say at which input.
  Laid BY PROGRAM, IN A SANDBOX (cutbox-rows.mjs): the forced cells as the released guide's own fill.sh prints them over the translation e4c3569d00886252… (all of the seat's roots in one cut). By AI agents, Wed Nov 11 2026. No macro, syntax, notation, axiom, sorry.
-/
import Derived.Test.YtelbjdbefaffpabChecked
import GoSem.Claim
import GoSem.ClaimJoined
import GoSem.ClaimMapViews
import Derived.JoinedTies
import Derived.KernelRfl
namespace Go.Proofs.Ytelbjdbefaffpab
/- THE CELL 'sum', in the pinned program and in every row, IS THE sha256 OF THE DUMP (.gsa) THAT YtelbjdbefaffpabProg.lean LOADS. Nothing in Lean hashes anything: it is a label: what it is worth is what the hold of that sum in a sandbox is worth. -/
noncomputable def Try.pinned : Pinned := { name := "ytelbjdbefaffpab", sum := "e4c3569d008862529d71b70df4b33dec57cc6b4a1a62903a77ecaa002c0aec8b", checked := Try.checked }
namespace Rows
def none {H : Type} : Left H := { results := [], args := [] }

/-- 'laws.FnExactIsShape': WHATEVER THE INPUT: true; the input reads as it did. -/
def fnExactIsShapeSpec : ChangeSpec := { name := "fnExactIsShape", fn := fun _ => fun
  | [d] => { results := [.lit (.bool true)], args := [d] }
  | _ => none }
def fnExactIsShapeRow : OpenClaim := { program := "ytelbjdbefaffpab", sum := "e4c3569d008862529d71b70df4b33dec57cc6b4a1a62903a77ecaa002c0aec8b", func := "loop.example/g01083/laws.FnExactIsShape", spec := "fnExactIsShape", plainKeys := false, apart := false }
def FnExactIsShapeSaid : Prop := fnExactIsShapeRow.holds Try.pinned (OpenSpec.ofChange fnExactIsShapeSpec)

/-- ITS FALSE NEIGHBOUR: 'it returns false'. Refute it at one input. -/
def fnExactIsShapeWrong : ChangeSpec := { name := "fnExactIsShape", fn := fun _ => fun
  | [d] => { results := [.lit (.bool false)], args := [d] }
  | _ => none }
def FnExactIsShapeWrongFalsely : Prop := fnExactIsShapeRow.holds Try.pinned (OpenSpec.ofChange fnExactIsShapeWrong)

/-- 'laws.FnExactFirstFault': WHATEVER THE INPUT: true; the input reads as it did. -/
def fnExactFirstFaultSpec : ChangeSpec := { name := "fnExactFirstFault", fn := fun _ => fun
  | [d] => { results := [.lit (.bool true)], args := [d] }
  | _ => none }
def fnExactFirstFaultRow : OpenClaim := { program := "ytelbjdbefaffpab", sum := "e4c3569d008862529d71b70df4b33dec57cc6b4a1a62903a77ecaa002c0aec8b", func := "loop.example/g01083/laws.FnExactFirstFault", spec := "fnExactFirstFault", plainKeys := false, apart := false }
def FnExactFirstFaultSaid : Prop := fnExactFirstFaultRow.holds Try.pinned (OpenSpec.ofChange fnExactFirstFaultSpec)

/-- ITS FALSE NEIGHBOUR: 'it returns false'. Refute it at one input. -/
def fnExactFirstFaultWrong : ChangeSpec := { name := "fnExactFirstFault", fn := fun _ => fun
  | [d] => { results := [.lit (.bool false)], args := [d] }
  | _ => none }
def FnExactFirstFaultWrongFalsely : Prop := fnExactFirstFaultRow.holds Try.pinned (OpenSpec.ofChange fnExactFirstFaultWrong)

/-- 'laws.FnExactIsCategory': WHATEVER THE INPUT: true; the input reads as it did. -/
def fnExactIsCategorySpec : ChangeSpec := { name := "fnExactIsCategory", fn := fun _ => fun
  | [d] => { results := [.lit (.bool true)], args := [d] }
  | _ => none }
def fnExactIsCategoryRow : OpenClaim := { program := "ytelbjdbefaffpab", sum := "e4c3569d008862529d71b70df4b33dec57cc6b4a1a62903a77ecaa002c0aec8b", func := "loop.example/g01083/laws.FnExactIsCategory", spec := "fnExactIsCategory", plainKeys := false, apart := false }
def FnExactIsCategorySaid : Prop := fnExactIsCategoryRow.holds Try.pinned (OpenSpec.ofChange fnExactIsCategorySpec)

/-- ITS FALSE NEIGHBOUR: 'it returns false'. Refute it at one input. -/
def fnExactIsCategoryWrong : ChangeSpec := { name := "fnExactIsCategory", fn := fun _ => fun
  | [d] => { results := [.lit (.bool false)], args := [d] }
  | _ => none }
def FnExactIsCategoryWrongFalsely : Prop := fnExactIsCategoryRow.holds Try.pinned (OpenSpec.ofChange fnExactIsCategoryWrong)

/-- 'laws.FnExactCompositeOf': WHATEVER THE INPUT: true; the input reads as it did. -/
def fnExactCompositeOfSpec : ChangeSpec := { name := "fnExactCompositeOf", fn := fun _ => fun
  | [d1, d2, d3] => { results := [.lit (.bool true)], args := [d1, d2, d3] }
  | _ => none }
def fnExactCompositeOfRow : OpenClaim := { program := "ytelbjdbefaffpab", sum := "e4c3569d008862529d71b70df4b33dec57cc6b4a1a62903a77ecaa002c0aec8b", func := "loop.example/g01083/laws.FnExactCompositeOf", spec := "fnExactCompositeOf", plainKeys := false, apart := false }
def FnExactCompositeOfSaid : Prop := fnExactCompositeOfRow.holds Try.pinned (OpenSpec.ofChange fnExactCompositeOfSpec)

/-- ITS FALSE NEIGHBOUR: 'it returns false'. Refute it at one input. -/
def fnExactCompositeOfWrong : ChangeSpec := { name := "fnExactCompositeOf", fn := fun _ => fun
  | [d1, d2, d3] => { results := [.lit (.bool false)], args := [d1, d2, d3] }
  | _ => none }
def FnExactCompositeOfWrongFalsely : Prop := fnExactCompositeOfRow.holds Try.pinned (OpenSpec.ofChange fnExactCompositeOfWrong)

/-- 'laws.FnExactPathComposite': WHATEVER THE INPUT: true; the input reads as it did. -/
def fnExactPathCompositeSpec : ChangeSpec := { name := "fnExactPathComposite", fn := fun _ => fun
  | [d1, d2, d3] => { results := [.lit (.bool true)], args := [d1, d2, d3] }
  | _ => none }
def fnExactPathCompositeRow : OpenClaim := { program := "ytelbjdbefaffpab", sum := "e4c3569d008862529d71b70df4b33dec57cc6b4a1a62903a77ecaa002c0aec8b", func := "loop.example/g01083/laws.FnExactPathComposite", spec := "fnExactPathComposite", plainKeys := false, apart := false }
def FnExactPathCompositeSaid : Prop := fnExactPathCompositeRow.holds Try.pinned (OpenSpec.ofChange fnExactPathCompositeSpec)

/-- ITS FALSE NEIGHBOUR: 'it returns false'. Refute it at one input. -/
def fnExactPathCompositeWrong : ChangeSpec := { name := "fnExactPathComposite", fn := fun _ => fun
  | [d1, d2, d3] => { results := [.lit (.bool false)], args := [d1, d2, d3] }
  | _ => none }
def FnExactPathCompositeWrongFalsely : Prop := fnExactPathCompositeRow.holds Try.pinned (OpenSpec.ofChange fnExactPathCompositeWrong)

/-- 'laws.FnExactHomSet': WHATEVER THE INPUT: true; the input reads as it did. -/
def fnExactHomSetSpec : ChangeSpec := { name := "fnExactHomSet", fn := fun _ => fun
  | [d1, d2, d3] => { results := [.lit (.bool true)], args := [d1, d2, d3] }
  | _ => none }
def fnExactHomSetRow : OpenClaim := { program := "ytelbjdbefaffpab", sum := "e4c3569d008862529d71b70df4b33dec57cc6b4a1a62903a77ecaa002c0aec8b", func := "loop.example/g01083/laws.FnExactHomSet", spec := "fnExactHomSet", plainKeys := false, apart := false }
def FnExactHomSetSaid : Prop := fnExactHomSetRow.holds Try.pinned (OpenSpec.ofChange fnExactHomSetSpec)

/-- ITS FALSE NEIGHBOUR: 'it returns false'. Refute it at one input. -/
def fnExactHomSetWrong : ChangeSpec := { name := "fnExactHomSet", fn := fun _ => fun
  | [d1, d2, d3] => { results := [.lit (.bool false)], args := [d1, d2, d3] }
  | _ => none }
def FnExactHomSetWrongFalsely : Prop := fnExactHomSetRow.holds Try.pinned (OpenSpec.ofChange fnExactHomSetWrong)

/-- 'laws.FnExactFullSubcategory': WHATEVER THE INPUT: true; the input reads as it did. -/
def fnExactFullSubcategorySpec : ChangeSpec := { name := "fnExactFullSubcategory", fn := fun _ => fun
  | [d1, d2] => { results := [.lit (.bool true)], args := [d1, d2] }
  | _ => none }
def fnExactFullSubcategoryRow : OpenClaim := { program := "ytelbjdbefaffpab", sum := "e4c3569d008862529d71b70df4b33dec57cc6b4a1a62903a77ecaa002c0aec8b", func := "loop.example/g01083/laws.FnExactFullSubcategory", spec := "fnExactFullSubcategory", plainKeys := false, apart := false }
def FnExactFullSubcategorySaid : Prop := fnExactFullSubcategoryRow.holds Try.pinned (OpenSpec.ofChange fnExactFullSubcategorySpec)

/-- ITS FALSE NEIGHBOUR: 'it returns false'. Refute it at one input. -/
def fnExactFullSubcategoryWrong : ChangeSpec := { name := "fnExactFullSubcategory", fn := fun _ => fun
  | [d1, d2] => { results := [.lit (.bool false)], args := [d1, d2] }
  | _ => none }
def FnExactFullSubcategoryWrongFalsely : Prop := fnExactFullSubcategoryRow.holds Try.pinned (OpenSpec.ofChange fnExactFullSubcategoryWrong)

/-- 'laws.FnExactIrreducibleArrows': WHATEVER THE INPUT: true; the input reads as it did. -/
def fnExactIrreducibleArrowsSpec : ChangeSpec := { name := "fnExactIrreducibleArrows", fn := fun _ => fun
  | [d] => { results := [.lit (.bool true)], args := [d] }
  | _ => none }
def fnExactIrreducibleArrowsRow : OpenClaim := { program := "ytelbjdbefaffpab", sum := "e4c3569d008862529d71b70df4b33dec57cc6b4a1a62903a77ecaa002c0aec8b", func := "loop.example/g01083/laws.FnExactIrreducibleArrows", spec := "fnExactIrreducibleArrows", plainKeys := false, apart := false }
def FnExactIrreducibleArrowsSaid : Prop := fnExactIrreducibleArrowsRow.holds Try.pinned (OpenSpec.ofChange fnExactIrreducibleArrowsSpec)

/-- ITS FALSE NEIGHBOUR: 'it returns false'. Refute it at one input. -/
def fnExactIrreducibleArrowsWrong : ChangeSpec := { name := "fnExactIrreducibleArrows", fn := fun _ => fun
  | [d] => { results := [.lit (.bool false)], args := [d] }
  | _ => none }
def FnExactIrreducibleArrowsWrongFalsely : Prop := fnExactIrreducibleArrowsRow.holds Try.pinned (OpenSpec.ofChange fnExactIrreducibleArrowsWrong)

/-- 'laws.FnExactIsThin': WHATEVER THE INPUT: true; the input reads as it did. -/
def fnExactIsThinSpec : ChangeSpec := { name := "fnExactIsThin", fn := fun _ => fun
  | [d] => { results := [.lit (.bool true)], args := [d] }
  | _ => none }
def fnExactIsThinRow : OpenClaim := { program := "ytelbjdbefaffpab", sum := "e4c3569d008862529d71b70df4b33dec57cc6b4a1a62903a77ecaa002c0aec8b", func := "loop.example/g01083/laws.FnExactIsThin", spec := "fnExactIsThin", plainKeys := false, apart := false }
def FnExactIsThinSaid : Prop := fnExactIsThinRow.holds Try.pinned (OpenSpec.ofChange fnExactIsThinSpec)

/-- ITS FALSE NEIGHBOUR: 'it returns false'. Refute it at one input. -/
def fnExactIsThinWrong : ChangeSpec := { name := "fnExactIsThin", fn := fun _ => fun
  | [d] => { results := [.lit (.bool false)], args := [d] }
  | _ => none }
def FnExactIsThinWrongFalsely : Prop := fnExactIsThinRow.holds Try.pinned (OpenSpec.ofChange fnExactIsThinWrong)

/-- 'laws.FnExactIsGroupoid': WHATEVER THE INPUT: true; the input reads as it did. -/
def fnExactIsGroupoidSpec : ChangeSpec := { name := "fnExactIsGroupoid", fn := fun _ => fun
  | [d] => { results := [.lit (.bool true)], args := [d] }
  | _ => none }
def fnExactIsGroupoidRow : OpenClaim := { program := "ytelbjdbefaffpab", sum := "e4c3569d008862529d71b70df4b33dec57cc6b4a1a62903a77ecaa002c0aec8b", func := "loop.example/g01083/laws.FnExactIsGroupoid", spec := "fnExactIsGroupoid", plainKeys := false, apart := false }
def FnExactIsGroupoidSaid : Prop := fnExactIsGroupoidRow.holds Try.pinned (OpenSpec.ofChange fnExactIsGroupoidSpec)

/-- ITS FALSE NEIGHBOUR: 'it returns false'. Refute it at one input. -/
def fnExactIsGroupoidWrong : ChangeSpec := { name := "fnExactIsGroupoid", fn := fun _ => fun
  | [d] => { results := [.lit (.bool false)], args := [d] }
  | _ => none }
def FnExactIsGroupoidWrongFalsely : Prop := fnExactIsGroupoidRow.holds Try.pinned (OpenSpec.ofChange fnExactIsGroupoidWrong)

/-- 'laws.FnExactConnectedObjects': WHATEVER THE INPUT: true; the input reads as it did. -/
def fnExactConnectedObjectsSpec : ChangeSpec := { name := "fnExactConnectedObjects", fn := fun _ => fun
  | [d] => { results := [.lit (.bool true)], args := [d] }
  | _ => none }
def fnExactConnectedObjectsRow : OpenClaim := { program := "ytelbjdbefaffpab", sum := "e4c3569d008862529d71b70df4b33dec57cc6b4a1a62903a77ecaa002c0aec8b", func := "loop.example/g01083/laws.FnExactConnectedObjects", spec := "fnExactConnectedObjects", plainKeys := false, apart := false }
def FnExactConnectedObjectsSaid : Prop := fnExactConnectedObjectsRow.holds Try.pinned (OpenSpec.ofChange fnExactConnectedObjectsSpec)

/-- ITS FALSE NEIGHBOUR: 'it returns false'. Refute it at one input. -/
def fnExactConnectedObjectsWrong : ChangeSpec := { name := "fnExactConnectedObjects", fn := fun _ => fun
  | [d] => { results := [.lit (.bool false)], args := [d] }
  | _ => none }
def FnExactConnectedObjectsWrongFalsely : Prop := fnExactConnectedObjectsRow.holds Try.pinned (OpenSpec.ofChange fnExactConnectedObjectsWrong)

/- THE SECOND FORM. 'bulk': how many values and letters a reading holds, each counted each time it is reached (what is shared counts as often as it is met; a slice's spare places count too). A statement '..UptoSaid' is the law's where the arguments, and the package variables that the reading takes, are together of bulk at most 1048576: NARROWER than '..Said'. Prove '..Said' where nothing that the law and all that it calls make is longer than what came in: it says more and counts as full. Else prove '..UptoSaid'. A law counts once. -/
mutual
def uptoBulk {H : Type} : DataW H → Nat
  | .lit (.string bytes) => bytes.length + 1
  | .lit _ => 1
  | .nil => 1
  | .ptr d => uptoBulk d + 1
  | .slice elems spare => uptoBulkAll elems + uptoBulkAll spare + 1
  | .agg parts => uptoBulkAll parts + 1
  | .iface _ d => uptoBulk d + 1
  | .map entries => uptoBulkEntries entries + 1
  | .held _ => 1
def uptoBulkAll {H : Type} : List (DataW H) → Nat
  | [] => 0
  | d :: r => uptoBulk d + uptoBulkAll r
def uptoBulkEntries {H : Type} : List (Lit × DataW H) → Nat
  | [] => 0
  | x :: r => uptoBulkEntry x + uptoBulkEntries r
def uptoBulkEntry {H : Type} : Lit × DataW H → Nat
  | (.string bytes, d) => bytes.length + uptoBulk d + 1
  | (_, d) => uptoBulk d + 1
 end
def uptoSmall : (H : Type) → List (DataW H) → Bool := fun _ ds => decide (uptoBulkAll ds ≤ 1048576)
def OpenSpec.upto (s : _root_.Go.ChangeSpec) : _root_.Go.OpenSpec := { _root_.Go.OpenSpec.ofChange s with cond := some uptoSmall }

/-- 'laws.FnExactIsShape', WHERE WHAT IT READS IS OF BULK AT MOST 1048576: true; the input reads as it did. -/
def fnExactIsShapeUptoRow : OpenClaim := { program := "ytelbjdbefaffpab", sum := "e4c3569d008862529d71b70df4b33dec57cc6b4a1a62903a77ecaa002c0aec8b", func := "loop.example/g01083/laws.FnExactIsShape", spec := "fnExactIsShape", plainKeys := false, apart := false, narrowed := true }
def FnExactIsShapeUptoSaid : Prop := fnExactIsShapeUptoRow.holds Try.pinned (OpenSpec.upto fnExactIsShapeSpec)

/-- 'laws.FnExactFirstFault', WHERE WHAT IT READS IS OF BULK AT MOST 1048576: true; the input reads as it did. -/
def fnExactFirstFaultUptoRow : OpenClaim := { program := "ytelbjdbefaffpab", sum := "e4c3569d008862529d71b70df4b33dec57cc6b4a1a62903a77ecaa002c0aec8b", func := "loop.example/g01083/laws.FnExactFirstFault", spec := "fnExactFirstFault", plainKeys := false, apart := false, narrowed := true }
def FnExactFirstFaultUptoSaid : Prop := fnExactFirstFaultUptoRow.holds Try.pinned (OpenSpec.upto fnExactFirstFaultSpec)

/-- 'laws.FnExactIsCategory', WHERE WHAT IT READS IS OF BULK AT MOST 1048576: true; the input reads as it did. -/
def fnExactIsCategoryUptoRow : OpenClaim := { program := "ytelbjdbefaffpab", sum := "e4c3569d008862529d71b70df4b33dec57cc6b4a1a62903a77ecaa002c0aec8b", func := "loop.example/g01083/laws.FnExactIsCategory", spec := "fnExactIsCategory", plainKeys := false, apart := false, narrowed := true }
def FnExactIsCategoryUptoSaid : Prop := fnExactIsCategoryUptoRow.holds Try.pinned (OpenSpec.upto fnExactIsCategorySpec)

/-- 'laws.FnExactCompositeOf', WHERE WHAT IT READS IS OF BULK AT MOST 1048576: true; the input reads as it did. -/
def fnExactCompositeOfUptoRow : OpenClaim := { program := "ytelbjdbefaffpab", sum := "e4c3569d008862529d71b70df4b33dec57cc6b4a1a62903a77ecaa002c0aec8b", func := "loop.example/g01083/laws.FnExactCompositeOf", spec := "fnExactCompositeOf", plainKeys := false, apart := false, narrowed := true }
def FnExactCompositeOfUptoSaid : Prop := fnExactCompositeOfUptoRow.holds Try.pinned (OpenSpec.upto fnExactCompositeOfSpec)

/-- 'laws.FnExactPathComposite', WHERE WHAT IT READS IS OF BULK AT MOST 1048576: true; the input reads as it did. -/
def fnExactPathCompositeUptoRow : OpenClaim := { program := "ytelbjdbefaffpab", sum := "e4c3569d008862529d71b70df4b33dec57cc6b4a1a62903a77ecaa002c0aec8b", func := "loop.example/g01083/laws.FnExactPathComposite", spec := "fnExactPathComposite", plainKeys := false, apart := false, narrowed := true }
def FnExactPathCompositeUptoSaid : Prop := fnExactPathCompositeUptoRow.holds Try.pinned (OpenSpec.upto fnExactPathCompositeSpec)

/-- 'laws.FnExactHomSet', WHERE WHAT IT READS IS OF BULK AT MOST 1048576: true; the input reads as it did. -/
def fnExactHomSetUptoRow : OpenClaim := { program := "ytelbjdbefaffpab", sum := "e4c3569d008862529d71b70df4b33dec57cc6b4a1a62903a77ecaa002c0aec8b", func := "loop.example/g01083/laws.FnExactHomSet", spec := "fnExactHomSet", plainKeys := false, apart := false, narrowed := true }
def FnExactHomSetUptoSaid : Prop := fnExactHomSetUptoRow.holds Try.pinned (OpenSpec.upto fnExactHomSetSpec)

/-- 'laws.FnExactFullSubcategory', WHERE WHAT IT READS IS OF BULK AT MOST 1048576: true; the input reads as it did. -/
def fnExactFullSubcategoryUptoRow : OpenClaim := { program := "ytelbjdbefaffpab", sum := "e4c3569d008862529d71b70df4b33dec57cc6b4a1a62903a77ecaa002c0aec8b", func := "loop.example/g01083/laws.FnExactFullSubcategory", spec := "fnExactFullSubcategory", plainKeys := false, apart := false, narrowed := true }
def FnExactFullSubcategoryUptoSaid : Prop := fnExactFullSubcategoryUptoRow.holds Try.pinned (OpenSpec.upto fnExactFullSubcategorySpec)

/-- 'laws.FnExactIrreducibleArrows', WHERE WHAT IT READS IS OF BULK AT MOST 1048576: true; the input reads as it did. -/
def fnExactIrreducibleArrowsUptoRow : OpenClaim := { program := "ytelbjdbefaffpab", sum := "e4c3569d008862529d71b70df4b33dec57cc6b4a1a62903a77ecaa002c0aec8b", func := "loop.example/g01083/laws.FnExactIrreducibleArrows", spec := "fnExactIrreducibleArrows", plainKeys := false, apart := false, narrowed := true }
def FnExactIrreducibleArrowsUptoSaid : Prop := fnExactIrreducibleArrowsUptoRow.holds Try.pinned (OpenSpec.upto fnExactIrreducibleArrowsSpec)

/-- 'laws.FnExactIsThin', WHERE WHAT IT READS IS OF BULK AT MOST 1048576: true; the input reads as it did. -/
def fnExactIsThinUptoRow : OpenClaim := { program := "ytelbjdbefaffpab", sum := "e4c3569d008862529d71b70df4b33dec57cc6b4a1a62903a77ecaa002c0aec8b", func := "loop.example/g01083/laws.FnExactIsThin", spec := "fnExactIsThin", plainKeys := false, apart := false, narrowed := true }
def FnExactIsThinUptoSaid : Prop := fnExactIsThinUptoRow.holds Try.pinned (OpenSpec.upto fnExactIsThinSpec)

/-- 'laws.FnExactIsGroupoid', WHERE WHAT IT READS IS OF BULK AT MOST 1048576: true; the input reads as it did. -/
def fnExactIsGroupoidUptoRow : OpenClaim := { program := "ytelbjdbefaffpab", sum := "e4c3569d008862529d71b70df4b33dec57cc6b4a1a62903a77ecaa002c0aec8b", func := "loop.example/g01083/laws.FnExactIsGroupoid", spec := "fnExactIsGroupoid", plainKeys := false, apart := false, narrowed := true }
def FnExactIsGroupoidUptoSaid : Prop := fnExactIsGroupoidUptoRow.holds Try.pinned (OpenSpec.upto fnExactIsGroupoidSpec)

/-- 'laws.FnExactConnectedObjects', WHERE WHAT IT READS IS OF BULK AT MOST 1048576: true; the input reads as it did. -/
def fnExactConnectedObjectsUptoRow : OpenClaim := { program := "ytelbjdbefaffpab", sum := "e4c3569d008862529d71b70df4b33dec57cc6b4a1a62903a77ecaa002c0aec8b", func := "loop.example/g01083/laws.FnExactConnectedObjects", spec := "fnExactConnectedObjects", plainKeys := false, apart := false, narrowed := true }
def FnExactConnectedObjectsUptoSaid : Prop := fnExactConnectedObjectsUptoRow.holds Try.pinned (OpenSpec.upto fnExactConnectedObjectsSpec)

end Rows
end Go.Proofs.Ytelbjdbefaffpab
