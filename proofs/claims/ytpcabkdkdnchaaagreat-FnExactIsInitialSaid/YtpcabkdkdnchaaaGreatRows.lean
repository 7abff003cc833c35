/-
  No cell of these rows narrows 'for every input' (looked for: loops, veiled, ifaces, maps, wideKeys, modest, calm, conditions, laid).
  DERIVED. THE GIVEN ROWS OF THIS SEAT. 8 by the template 'for every input the law returns true; each argument reads behind the call as it read before'; 0 by the template 'total and deterministic' (their statements: YtpcabkdkdnchaaaGreatTotals.lean).
  GIVEN WITH THE SEED: the statements are not yours to turn. If you find one false, say at which input.
  Laid BY PROGRAM, IN A SANDBOX (cutbox-rows.mjs): the forced cells as the released guide's own fill.sh prints them over the translation e80840b5e07f0ce6… (all of the seat's roots in one cut). By AI agents, Wed Nov 11 2026. No macro, syntax, notation, axiom, sorry.
-/
import Derived.Test.YtpcabkdkdnchaaaGreatChecked
import GoSem.Claim
import GoSem.ClaimJoined
import GoSem.ClaimMapViews
import Derived.JoinedTies
import Derived.KernelRfl
namespace Go.Proofs.YtpcabkdkdnchaaaGreat
/- THE CELL 'sum', in the pinned program and in every row, IS THE sha256 OF THE DUMP (.gsa) THAT YtpcabkdkdnchaaaGreatProg.lean LOADS. Nothing in Lean hashes anything: it is a label: what it is worth is what the hold of that sum in a sandbox is worth. -/
noncomputable def Tryz.pinned : Pinned := { name := "ytpcabkdkdnchaaagreat", sum := "e80840b5e07f0ce63367bf70a144e121e6743c38b4732a4418626e58c6667453", checked := Tryz.checked }
namespace Rows
def none {H : Type} : Left H := { results := [], args := [] }

/-- 'laws.FnExactCommaLeft': WHATEVER THE INPUT: true; the input reads as it did. -/
def fnExactCommaLeftSpec : ChangeSpec := { name := "fnExactCommaLeft", fn := fun _ => fun
  | [d1, d2] => { results := [.lit (.bool true)], args := [d1, d2] }
  | _ => none }
def fnExactCommaLeftRow : OpenClaim := { program := "ytpcabkdkdnchaaagreat", sum := "e80840b5e07f0ce63367bf70a144e121e6743c38b4732a4418626e58c6667453", func := "loop.example/g01083/laws.FnExactCommaLeft", spec := "fnExactCommaLeft", unfollowed := true, recurses := true, plainKeys := false, apart := false }
def FnExactCommaLeftSaid : Prop := fnExactCommaLeftRow.holds Tryz.pinned (OpenSpec.ofChange fnExactCommaLeftSpec)

/-- ITS FALSE NEIGHBOUR: 'it returns false'. Refute it at one input. -/
def fnExactCommaLeftWrong : ChangeSpec := { name := "fnExactCommaLeft", fn := fun _ => fun
  | [d1, d2] => { results := [.lit (.bool false)], args := [d1, d2] }
  | _ => none }
def FnExactCommaLeftWrongFalsely : Prop := fnExactCommaLeftRow.holds Tryz.pinned (OpenSpec.ofChange fnExactCommaLeftWrong)

/-- 'laws.FnExactCommaRight': WHATEVER THE INPUT: true; the input reads as it did. -/
def fnExactCommaRightSpec : ChangeSpec := { name := "fnExactCommaRight", fn := fun _ => fun
  | [d1, d2] => { results := [.lit (.bool true)], args := [d1, d2] }
  | _ => none }
def fnExactCommaRightRow : OpenClaim := { program := "ytpcabkdkdnchaaagreat", sum := "e80840b5e07f0ce63367bf70a144e121e6743c38b4732a4418626e58c6667453", func := "loop.example/g01083/laws.FnExactCommaRight", spec := "fnExactCommaRight", unfollowed := true, recurses := true, plainKeys := false, apart := false }
def FnExactCommaRightSaid : Prop := fnExactCommaRightRow.holds Tryz.pinned (OpenSpec.ofChange fnExactCommaRightSpec)

/-- ITS FALSE NEIGHBOUR: 'it returns false'. Refute it at one input. -/
def fnExactCommaRightWrong : ChangeSpec := { name := "fnExactCommaRight", fn := fun _ => fun
  | [d1, d2] => { results := [.lit (.bool false)], args := [d1, d2] }
  | _ => none }
def FnExactCommaRightWrongFalsely : Prop := fnExactCommaRightRow.holds Tryz.pinned (OpenSpec.ofChange fnExactCommaRightWrong)

/-- 'laws.FnExactSliceCategory': WHATEVER THE INPUT: true; the input reads as it did. -/
def fnExactSliceCategorySpec : ChangeSpec := { name := "fnExactSliceCategory", fn := fun _ => fun
  | [d1, d2] => { results := [.lit (.bool true)], args := [d1, d2] }
  | _ => none }
def fnExactSliceCategoryRow : OpenClaim := { program := "ytpcabkdkdnchaaagreat", sum := "e80840b5e07f0ce63367bf70a144e121e6743c38b4732a4418626e58c6667453", func := "loop.example/g01083/laws.FnExactSliceCategory", spec := "fnExactSliceCategory", unfollowed := true, recurses := true, plainKeys := false, apart := false }
def FnExactSliceCategorySaid : Prop := fnExactSliceCategoryRow.holds Tryz.pinned (OpenSpec.ofChange fnExactSliceCategorySpec)

/-- ITS FALSE NEIGHBOUR: 'it returns false'. Refute it at one input. -/
def fnExactSliceCategoryWrong : ChangeSpec := { name := "fnExactSliceCategory", fn := fun _ => fun
  | [d1, d2] => { results := [.lit (.bool false)], args := [d1, d2] }
  | _ => none }
def FnExactSliceCategoryWrongFalsely : Prop := fnExactSliceCategoryRow.holds Tryz.pinned (OpenSpec.ofChange fnExactSliceCategoryWrong)

/-- 'laws.FnExactSliceFunctor': WHATEVER THE INPUT: true; the input reads as it did. -/
def fnExactSliceFunctorSpec : ChangeSpec := { name := "fnExactSliceFunctor", fn := fun _ => fun
  | [d1, d2] => { results := [.lit (.bool true)], args := [d1, d2] }
  | _ => none }
def fnExactSliceFunctorRow : OpenClaim := { program := "ytpcabkdkdnchaaagreat", sum := "e80840b5e07f0ce63367bf70a144e121e6743c38b4732a4418626e58c6667453", func := "loop.example/g01083/laws.FnExactSliceFunctor", spec := "fnExactSliceFunctor", unfollowed := true, recurses := true, plainKeys := false, apart := false }
def FnExactSliceFunctorSaid : Prop := fnExactSliceFunctorRow.holds Tryz.pinned (OpenSpec.ofChange fnExactSliceFunctorSpec)

/-- ITS FALSE NEIGHBOUR: 'it returns false'. Refute it at one input. -/
def fnExactSliceFunctorWrong : ChangeSpec := { name := "fnExactSliceFunctor", fn := fun _ => fun
  | [d1, d2] => { results := [.lit (.bool false)], args := [d1, d2] }
  | _ => none }
def FnExactSliceFunctorWrongFalsely : Prop := fnExactSliceFunctorRow.holds Tryz.pinned (OpenSpec.ofChange fnExactSliceFunctorWrong)

/-- 'laws.FnExactCosliceCategory': WHATEVER THE INPUT: true; the input reads as it did. -/
def fnExactCosliceCategorySpec : ChangeSpec := { name := "fnExactCosliceCategory", fn := fun _ => fun
  | [d1, d2] => { results := [.lit (.bool true)], args := [d1, d2] }
  | _ => none }
def fnExactCosliceCategoryRow : OpenClaim := { program := "ytpcabkdkdnchaaagreat", sum := "e80840b5e07f0ce63367bf70a144e121e6743c38b4732a4418626e58c6667453", func := "loop.example/g01083/laws.FnExactCosliceCategory", spec := "fnExactCosliceCategory", unfollowed := true, recurses := true, plainKeys := false, apart := false }
def FnExactCosliceCategorySaid : Prop := fnExactCosliceCategoryRow.holds Tryz.pinned (OpenSpec.ofChange fnExactCosliceCategorySpec)

/-- ITS FALSE NEIGHBOUR: 'it returns false'. Refute it at one input. -/
def fnExactCosliceCategoryWrong : ChangeSpec := { name := "fnExactCosliceCategory", fn := fun _ => fun
  | [d1, d2] => { results := [.lit (.bool false)], args := [d1, d2] }
  | _ => none }
def FnExactCosliceCategoryWrongFalsely : Prop := fnExactCosliceCategoryRow.holds Tryz.pinned (OpenSpec.ofChange fnExactCosliceCategoryWrong)

/-- 'laws.FnExactCosliceFunctor': WHATEVER THE INPUT: true; the input reads as it did. -/
def fnExactCosliceFunctorSpec : ChangeSpec := { name := "fnExactCosliceFunctor", fn := fun _ => fun
  | [d1, d2] => { results := [.lit (.bool true)], args := [d1, d2] }
  | _ => none }
def fnExactCosliceFunctorRow : OpenClaim := { program := "ytpcabkdkdnchaaagreat", sum := "e80840b5e07f0ce63367bf70a144e121e6743c38b4732a4418626e58c6667453", func := "loop.example/g01083/laws.FnExactCosliceFunctor", spec := "fnExactCosliceFunctor", unfollowed := true, recurses := true, plainKeys := false, apart := false }
def FnExactCosliceFunctorSaid : Prop := fnExactCosliceFunctorRow.holds Tryz.pinned (OpenSpec.ofChange fnExactCosliceFunctorSpec)

/-- ITS FALSE NEIGHBOUR: 'it returns false'. Refute it at one input. -/
def fnExactCosliceFunctorWrong : ChangeSpec := { name := "fnExactCosliceFunctor", fn := fun _ => fun
  | [d1, d2] => { results := [.lit (.bool false)], args := [d1, d2] }
  | _ => none }
def FnExactCosliceFunctorWrongFalsely : Prop := fnExactCosliceFunctorRow.holds Tryz.pinned (OpenSpec.ofChange fnExactCosliceFunctorWrong)

/-- 'laws.FnExactArrowCategory': WHATEVER THE INPUT: true; the input reads as it did. -/
def fnExactArrowCategorySpec : ChangeSpec := { name := "fnExactArrowCategory", fn := fun _ => fun
  | [d] => { results := [.lit (.bool true)], args := [d] }
  | _ => none }
def fnExactArrowCategoryRow : OpenClaim := { program := "ytpcabkdkdnchaaagreat", sum := "e80840b5e07f0ce63367bf70a144e121e6743c38b4732a4418626e58c6667453", func := "loop.example/g01083/laws.FnExactArrowCategory", spec := "fnExactArrowCategory", unfollowed := true, recurses := true, plainKeys := false, apart := false }
def FnExactArrowCategorySaid : Prop := fnExactArrowCategoryRow.holds Tryz.pinned (OpenSpec.ofChange fnExactArrowCategorySpec)

/-- ITS FALSE NEIGHBOUR: 'it returns false'. Refute it at one input. -/
def fnExactArrowCategoryWrong : ChangeSpec := { name := "fnExactArrowCategory", fn := fun _ => fun
  | [d] => { results := [.lit (.bool false)], args := [d] }
  | _ => none }
def FnExactArrowCategoryWrongFalsely : Prop := fnExactArrowCategoryRow.holds Tryz.pinned (OpenSpec.ofChange fnExactArrowCategoryWrong)

/-- 'laws.FnExactIsInitial': WHATEVER THE INPUT: true; the input reads as it did. -/
def fnExactIsInitialSpec : ChangeSpec := { name := "fnExactIsInitial", fn := fun _ => fun
  | [d] => { results := [.lit (.bool true)], args := [d] }
  | _ => none }
def fnExactIsInitialRow : OpenClaim := { program := "ytpcabkdkdnchaaagreat", sum := "e80840b5e07f0ce63367bf70a144e121e6743c38b4732a4418626e58c6667453", func := "loop.example/g01083/laws.FnExactIsInitial", spec := "fnExactIsInitial", unfollowed := true, recurses := true, plainKeys := false, apart := false }
def FnExactIsInitialSaid : Prop := fnExactIsInitialRow.holds Tryz.pinned (OpenSpec.ofChange fnExactIsInitialSpec)

/-- ITS FALSE NEIGHBOUR: 'it returns false'. Refute it at one input. -/
def fnExactIsInitialWrong : ChangeSpec := { name := "fnExactIsInitial", fn := fun _ => fun
  | [d] => { results := [.lit (.bool false)], args := [d] }
  | _ => none }
def FnExactIsInitialWrongFalsely : Prop := fnExactIsInitialRow.holds Tryz.pinned (OpenSpec.ofChange fnExactIsInitialWrong)

/- THE SECOND FORM. 'bulk': how many values and letters a reading holds, each counted each time it is reached (what is shared counts as often as it is met; a slice's spare places count too). A statement '..UptoSaid' is the law's where the arguments, and the package variables that the reading takes, are together of bulk at most 1048576: NARROWER than '..Said'. Prove '..Said' where nothing that the law and all that it calls make is longer than what came in: it says more and counts as full. Else prove '..UptoSaid'. A law counts once. -/
mutual
def uptoBulk {H : Type} : DataW H → Nat
  | .lit (.string bytes) => bytes.length + 1
  | .lit _ => 1
  | .nil => 1
  | .ptr d => uptoBulk d + 1
  | .slice elems spare => uptoBulkAll elems + uptoBulkAll spare + 1
  | .agg parts => uptoBulkAll parts + 1
  | .iface _ d => uptoBulk d + 1
  | .map entries => uptoBulkEntries entries + 1
  | .held _ => 1
def uptoBulkAll {H : Type} : List (DataW H) → Nat
  | [] => 0
  | d :: r => uptoBulk d + uptoBulkAll r
def uptoBulkEntries {H : Type} : List (Lit × DataW H) → Nat
  | [] => 0
  | x :: r => uptoBulkEntry x + uptoBulkEntries r
def uptoBulkEntry {H : Type} : Lit × DataW H → Nat
  | (.string bytes, d) => bytes.length + uptoBulk d + 1
  | (_, d) => uptoBulk d + 1
 end
def uptoSmall : (H : Type) → List (DataW H) → Bool := fun _ ds => decide (uptoBulkAll ds ≤ 1048576)
def OpenSpec.upto (s : _root_.Go.ChangeSpec) : _root_.Go.OpenSpec := { _root_.Go.OpenSpec.ofChange s with cond := some uptoSmall }

/-- 'laws.FnExactCommaLeft', WHERE WHAT IT READS IS OF BULK AT MOST 1048576: true; the input reads as it did. -/
def fnExactCommaLeftUptoRow : OpenClaim := { program := "ytpcabkdkdnchaaagreat", sum := "e80840b5e07f0ce63367bf70a144e121e6743c38b4732a4418626e58c6667453", func := "loop.example/g01083/laws.FnExactCommaLeft", spec := "fnExactCommaLeft", unfollowed := true, recurses := true, plainKeys := false, apart := false, narrowed := true }
def FnExactCommaLeftUptoSaid : Prop := fnExactCommaLeftUptoRow.holds Tryz.pinned (OpenSpec.upto fnExactCommaLeftSpec)

/-- 'laws.FnExactCommaRight', WHERE WHAT IT READS IS OF BULK AT MOST 1048576: true; the input reads as it did. -/
def fnExactCommaRightUptoRow : OpenClaim := { program := "ytpcabkdkdnchaaagreat", sum := "e80840b5e07f0ce63367bf70a144e121e6743c38b4732a4418626e58c6667453", func := "loop.example/g01083/laws.FnExactCommaRight", spec := "fnExactCommaRight", unfollowed := true, recurses := true, plainKeys := false, apart := false, narrowed := true }
def FnExactCommaRightUptoSaid : Prop := fnExactCommaRightUptoRow.holds Tryz.pinned (OpenSpec.upto fnExactCommaRightSpec)

/-- 'laws.FnExactSliceCategory', WHERE WHAT IT READS IS OF BULK AT MOST 1048576: true; the input reads as it did. -/
def fnExactSliceCategoryUptoRow : OpenClaim := { program := "ytpcabkdkdnchaaagreat", sum := "e80840b5e07f0ce63367bf70a144e121e6743c38b4732a4418626e58c6667453", func := "loop.example/g01083/laws.FnExactSliceCategory", spec := "fnExactSliceCategory", unfollowed := true, recurses := true, plainKeys := false, apart := false, narrowed := true }
def FnExactSliceCategoryUptoSaid : Prop := fnExactSliceCategoryUptoRow.holds Tryz.pinned (OpenSpec.upto fnExactSliceCategorySpec)

/-- 'laws.FnExactSliceFunctor', WHERE WHAT IT READS IS OF BULK AT MOST 1048576: true; the input reads as it did. -/
def fnExactSliceFunctorUptoRow : OpenClaim := { program := "ytpcabkdkdnchaaagreat", sum := "e80840b5e07f0ce63367bf70a144e121e6743c38b4732a4418626e58c6667453", func := "loop.example/g01083/laws.FnExactSliceFunctor", spec := "fnExactSliceFunctor", unfollowed := true, recurses := true, plainKeys := false, apart := false, narrowed := true }
def FnExactSliceFunctorUptoSaid : Prop := fnExactSliceFunctorUptoRow.holds Tryz.pinned (OpenSpec.upto fnExactSliceFunctorSpec)

/-- 'laws.FnExactCosliceCategory', WHERE WHAT IT READS IS OF BULK AT MOST 1048576: true; the input reads as it did. -/
def fnExactCosliceCategoryUptoRow : OpenClaim := { program := "ytpcabkdkdnchaaagreat", sum := "e80840b5e07f0ce63367bf70a144e121e6743c38b4732a4418626e58c6667453", func := "loop.example/g01083/laws.FnExactCosliceCategory", spec := "fnExactCosliceCategory", unfollowed := true, recurses := true, plainKeys := false, apart := false, narrowed := true }
def FnExactCosliceCategoryUptoSaid : Prop := fnExactCosliceCategoryUptoRow.holds Tryz.pinned (OpenSpec.upto fnExactCosliceCategorySpec)

/-- 'laws.FnExactCosliceFunctor', WHERE WHAT IT READS IS OF BULK AT MOST 1048576: true; the input reads as it did. -/
def fnExactCosliceFunctorUptoRow : OpenClaim := { program := "ytpcabkdkdnchaaagreat", sum := "e80840b5e07f0ce63367bf70a144e121e6743c38b4732a4418626e58c6667453", func := "loop.example/g01083/laws.FnExactCosliceFunctor", spec := "fnExactCosliceFunctor", unfollowed := true, recurses := true, plainKeys := false, apart := false, narrowed := true }
def FnExactCosliceFunctorUptoSaid : Prop := fnExactCosliceFunctorUptoRow.holds Tryz.pinned (OpenSpec.upto fnExactCosliceFunctorSpec)

/-- 'laws.FnExactArrowCategory', WHERE WHAT IT READS IS OF BULK AT MOST 1048576: true; the input reads as it did. -/
def fnExactArrowCategoryUptoRow : OpenClaim := { program := "ytpcabkdkdnchaaagreat", sum := "e80840b5e07f0ce63367bf70a144e121e6743c38b4732a4418626e58c6667453", func := "loop.example/g01083/laws.FnExactArrowCategory", spec := "fnExactArrowCategory", unfollowed := true, recurses := true, plainKeys := false, apart := false, narrowed := true }
def FnExactArrowCategoryUptoSaid : Prop := fnExactArrowCategoryUptoRow.holds Tryz.pinned (OpenSpec.upto fnExactArrowCategorySpec)

/-- 'laws.FnExactIsInitial', WHERE WHAT IT READS IS OF BULK AT MOST 1048576: true; the input reads as it did. -/
def fnExactIsInitialUptoRow : OpenClaim := { program := "ytpcabkdkdnchaaagreat", sum := "e80840b5e07f0ce63367bf70a144e121e6743c38b4732a4418626e58c6667453", func := "loop.example/g01083/laws.FnExactIsInitial", spec := "fnExactIsInitial", unfollowed := true, recurses := true, plainKeys := false, apart := false, narrowed := true }
def FnExactIsInitialUptoSaid : Prop := fnExactIsInitialUptoRow.holds Tryz.pinned (OpenSpec.upto fnExactIsInitialSpec)

end Rows
end Go.Proofs.YtpcabkdkdnchaaaGreat
