/-
  No cell of these rows narrows 'for every input' (looked for: loops, veiled, ifaces, maps, wideKeys, modest, calm, conditions, laid).
  DERIVED. THE GIVEN ROWS OF THIS SEAT. 10 by the template 'for every input the law returns true; each argument reads behind the call as it read before'; 0 by the template 'total and deterministic' (their statements: YtloaikmiofdhnabTotals.lean).
  GIVEN WITH THE SEED: the statements are not yours to turn. If you find one false, say at which input.
  Laid BY PROGRAM, IN A SANDBOX (cutbox-rows.mjs): the forced cells as the released guide's own fill.sh prints them over the translation 8e8a05c667a23460… (all of the seat's roots in one cut). By AI agents, Wed Nov 11 2026. No macro, syntax, notation, axiom, sorry.
-/
import Derived.Test.YtloaikmiofdhnabChecked
import GoSem.Claim
import GoSem.ClaimJoined
import GoSem.ClaimMapViews
import Derived.JoinedTies
import Derived.KernelRfl
namespace Go.Proofs.Ytloaikmiofdhnab
/- THE CELL 'sum', in the pinned program and in every row, IS THE sha256 OF THE DUMP (.gsa) THAT YtloaikmiofdhnabProg.lean LOADS. Nothing in Lean hashes anything: it is a label: what it is worth is what the hold of that sum in a sandbox is worth. -/
noncomputable def Try.pinned : Pinned := { name := "ytloaikmiofdhnab", sum := "8e8a05c667a234600dbab8af74bcef654c9c1678af00030ac849183bfe6d7cd7", checked := Try.checked }
namespace Rows
def none {H : Type} : Left H := { results := [], args := [] }

/-- 'laws.FnExactIsJointlyMono': WHATEVER THE INPUT: true; the input reads as it did. -/
def fnExactIsJointlyMonoSpec : ChangeSpec := { name := "fnExactIsJointlyMono", fn := fun _ => fun
  | [d1, d2] => { results := [.lit (.bool true)], args := [d1, d2] }
  | _ => none }
def fnExactIsJointlyMonoRow : OpenClaim := { program := "ytloaikmiofdhnab", sum := "8e8a05c667a234600dbab8af74bcef654c9c1678af00030ac849183bfe6d7cd7", func := "loop.example/g01083/laws.FnExactIsJointlyMono", spec := "fnExactIsJointlyMono", unfollowed := true, recurses := true, plainKeys := false, apart := false }
def FnExactIsJointlyMonoSaid : Prop := fnExactIsJointlyMonoRow.holds Try.pinned (OpenSpec.ofChange fnExactIsJointlyMonoSpec)

/-- ITS FALSE NEIGHBOUR: 'it returns false'. Refute it at one input. -/
def fnExactIsJointlyMonoWrong : ChangeSpec := { name := "fnExactIsJointlyMono", fn := fun _ => fun
  | [d1, d2] => { results := [.lit (.bool false)], args := [d1, d2] }
  | _ => none }
def FnExactIsJointlyMonoWrongFalsely : Prop := fnExactIsJointlyMonoRow.holds Try.pinned (OpenSpec.ofChange fnExactIsJointlyMonoWrong)

/-- 'laws.FnExactIsJointlyEpi': WHATEVER THE INPUT: true; the input reads as it did. -/
def fnExactIsJointlyEpiSpec : ChangeSpec := { name := "fnExactIsJointlyEpi", fn := fun _ => fun
  | [d1, d2] => { results := [.lit (.bool true)], args := [d1, d2] }
  | _ => none }
def fnExactIsJointlyEpiRow : OpenClaim := { program := "ytloaikmiofdhnab", sum := "8e8a05c667a234600dbab8af74bcef654c9c1678af00030ac849183bfe6d7cd7", func := "loop.example/g01083/laws.FnExactIsJointlyEpi", spec := "fnExactIsJointlyEpi", unfollowed := true, recurses := true, plainKeys := false, apart := false }
def FnExactIsJointlyEpiSaid : Prop := fnExactIsJointlyEpiRow.holds Try.pinned (OpenSpec.ofChange fnExactIsJointlyEpiSpec)

/-- ITS FALSE NEIGHBOUR: 'it returns false'. Refute it at one input. -/
def fnExactIsJointlyEpiWrong : ChangeSpec := { name := "fnExactIsJointlyEpi", fn := fun _ => fun
  | [d1, d2] => { results := [.lit (.bool false)], args := [d1, d2] }
  | _ => none }
def FnExactIsJointlyEpiWrongFalsely : Prop := fnExactIsJointlyEpiRow.holds Try.pinned (OpenSpec.ofChange fnExactIsJointlyEpiWrong)

/-- 'laws.FnExactSubobjectsOf': WHATEVER THE INPUT: true; the input reads as it did. -/
def fnExactSubobjectsOfSpec : ChangeSpec := { name := "fnExactSubobjectsOf", fn := fun _ => fun
  | [d1, d2] => { results := [.lit (.bool true)], args := [d1, d2] }
  | _ => none }
def fnExactSubobjectsOfRow : OpenClaim := { program := "ytloaikmiofdhnab", sum := "8e8a05c667a234600dbab8af74bcef654c9c1678af00030ac849183bfe6d7cd7", func := "loop.example/g01083/laws.FnExactSubobjectsOf", spec := "fnExactSubobjectsOf", unfollowed := true, recurses := true, plainKeys := false, apart := false }
def FnExactSubobjectsOfSaid : Prop := fnExactSubobjectsOfRow.holds Try.pinned (OpenSpec.ofChange fnExactSubobjectsOfSpec)

/-- ITS FALSE NEIGHBOUR: 'it returns false'. Refute it at one input. -/
def fnExactSubobjectsOfWrong : ChangeSpec := { name := "fnExactSubobjectsOf", fn := fun _ => fun
  | [d1, d2] => { results := [.lit (.bool false)], args := [d1, d2] }
  | _ => none }
def FnExactSubobjectsOfWrongFalsely : Prop := fnExactSubobjectsOfRow.holds Try.pinned (OpenSpec.ofChange fnExactSubobjectsOfWrong)

/-- 'laws.FnExactQuotientsOf': WHATEVER THE INPUT: true; the input reads as it did. -/
def fnExactQuotientsOfSpec : ChangeSpec := { name := "fnExactQuotientsOf", fn := fun _ => fun
  | [d1, d2] => { results := [.lit (.bool true)], args := [d1, d2] }
  | _ => none }
def fnExactQuotientsOfRow : OpenClaim := { program := "ytloaikmiofdhnab", sum := "8e8a05c667a234600dbab8af74bcef654c9c1678af00030ac849183bfe6d7cd7", func := "loop.example/g01083/laws.FnExactQuotientsOf", spec := "fnExactQuotientsOf", unfollowed := true, recurses := true, plainKeys := false, apart := false }
def FnExactQuotientsOfSaid : Prop := fnExactQuotientsOfRow.holds Try.pinned (OpenSpec.ofChange fnExactQuotientsOfSpec)

/-- ITS FALSE NEIGHBOUR: 'it returns false'. Refute it at one input. -/
def fnExactQuotientsOfWrong : ChangeSpec := { name := "fnExactQuotientsOf", fn := fun _ => fun
  | [d1, d2] => { results := [.lit (.bool false)], args := [d1, d2] }
  | _ => none }
def FnExactQuotientsOfWrongFalsely : Prop := fnExactQuotientsOfRow.holds Try.pinned (OpenSpec.ofChange fnExactQuotientsOfWrong)

/-- 'laws.FnCancelling': WHATEVER THE INPUT: true; the input reads as it did. -/
def fnCancellingSpec : ChangeSpec := { name := "fnCancelling", fn := fun _ => fun
  | [d] => { results := [.lit (.bool true)], args := [d] }
  | _ => none }
def fnCancellingRow : OpenClaim := { program := "ytloaikmiofdhnab", sum := "8e8a05c667a234600dbab8af74bcef654c9c1678af00030ac849183bfe6d7cd7", func := "loop.example/g01083/laws.FnCancelling", spec := "fnCancelling", unfollowed := true, recurses := true, plainKeys := false, apart := false }
def FnCancellingSaid : Prop := fnCancellingRow.holds Try.pinned (OpenSpec.ofChange fnCancellingSpec)

/-- ITS FALSE NEIGHBOUR: 'it returns false'. Refute it at one input. -/
def fnCancellingWrong : ChangeSpec := { name := "fnCancelling", fn := fun _ => fun
  | [d] => { results := [.lit (.bool false)], args := [d] }
  | _ => none }
def FnCancellingWrongFalsely : Prop := fnCancellingRow.holds Try.pinned (OpenSpec.ofChange fnCancellingWrong)

/-- 'laws.FnInverses': WHATEVER THE INPUT: true; the input reads as it did. -/
def fnInversesSpec : ChangeSpec := { name := "fnInverses", fn := fun _ => fun
  | [d] => { results := [.lit (.bool true)], args := [d] }
  | _ => none }
def fnInversesRow : OpenClaim := { program := "ytloaikmiofdhnab", sum := "8e8a05c667a234600dbab8af74bcef654c9c1678af00030ac849183bfe6d7cd7", func := "loop.example/g01083/laws.FnInverses", spec := "fnInverses", unfollowed := true, recurses := true, plainKeys := false, apart := false }
def FnInversesSaid : Prop := fnInversesRow.holds Try.pinned (OpenSpec.ofChange fnInversesSpec)

/-- ITS FALSE NEIGHBOUR: 'it returns false'. Refute it at one input. -/
def fnInversesWrong : ChangeSpec := { name := "fnInverses", fn := fun _ => fun
  | [d] => { results := [.lit (.bool false)], args := [d] }
  | _ => none }
def FnInversesWrongFalsely : Prop := fnInversesRow.holds Try.pinned (OpenSpec.ofChange fnInversesWrong)

/-- 'laws.FnSubobjects': WHATEVER THE INPUT: true; the input reads as it did. -/
def fnSubobjectsSpec : ChangeSpec := { name := "fnSubobjects", fn := fun _ => fun
  | [d] => { results := [.lit (.bool true)], args := [d] }
  | _ => none }
def fnSubobjectsRow : OpenClaim := { program := "ytloaikmiofdhnab", sum := "8e8a05c667a234600dbab8af74bcef654c9c1678af00030ac849183bfe6d7cd7", func := "loop.example/g01083/laws.FnSubobjects", spec := "fnSubobjects", unfollowed := true, recurses := true, plainKeys := false, apart := false }
def FnSubobjectsSaid : Prop := fnSubobjectsRow.holds Try.pinned (OpenSpec.ofChange fnSubobjectsSpec)

/-- ITS FALSE NEIGHBOUR: 'it returns false'. Refute it at one input. -/
def fnSubobjectsWrong : ChangeSpec := { name := "fnSubobjects", fn := fun _ => fun
  | [d] => { results := [.lit (.bool false)], args := [d] }
  | _ => none }
def FnSubobjectsWrongFalsely : Prop := fnSubobjectsRow.holds Try.pinned (OpenSpec.ofChange fnSubobjectsWrong)

/-- 'laws.FnPowers': WHATEVER THE INPUT: true; the input reads as it did. -/
def fnPowersSpec : ChangeSpec := { name := "fnPowers", fn := fun _ => fun
  | [d] => { results := [.lit (.bool true)], args := [d] }
  | _ => none }
def fnPowersRow : OpenClaim := { program := "ytloaikmiofdhnab", sum := "8e8a05c667a234600dbab8af74bcef654c9c1678af00030ac849183bfe6d7cd7", func := "loop.example/g01083/laws.FnPowers", spec := "fnPowers", unfollowed := true, recurses := true, plainKeys := false, apart := false }
def FnPowersSaid : Prop := fnPowersRow.holds Try.pinned (OpenSpec.ofChange fnPowersSpec)

/-- ITS FALSE NEIGHBOUR: 'it returns false'. Refute it at one input. -/
def fnPowersWrong : ChangeSpec := { name := "fnPowers", fn := fun _ => fun
  | [d] => { results := [.lit (.bool false)], args := [d] }
  | _ => none }
def FnPowersWrongFalsely : Prop := fnPowersRow.holds Try.pinned (OpenSpec.ofChange fnPowersWrong)

/-- 'laws.FnCategoryFaults': WHATEVER THE INPUT: true; the input reads as it did. -/
def fnCategoryFaultsSpec : ChangeSpec := { name := "fnCategoryFaults", fn := fun _ => fun
  | [d] => { results := [.lit (.bool true)], args := [d] }
  | _ => none }
def fnCategoryFaultsRow : OpenClaim := { program := "ytloaikmiofdhnab", sum := "8e8a05c667a234600dbab8af74bcef654c9c1678af00030ac849183bfe6d7cd7", func := "loop.example/g01083/laws.FnCategoryFaults", spec := "fnCategoryFaults", plainKeys := false, apart := false }
def FnCategoryFaultsSaid : Prop := fnCategoryFaultsRow.holds Try.pinned (OpenSpec.ofChange fnCategoryFaultsSpec)

/-- ITS FALSE NEIGHBOUR: 'it returns false'. Refute it at one input. -/
def fnCategoryFaultsWrong : ChangeSpec := { name := "fnCategoryFaults", fn := fun _ => fun
  | [d] => { results := [.lit (.bool false)], args := [d] }
  | _ => none }
def FnCategoryFaultsWrongFalsely : Prop := fnCategoryFaultsRow.holds Try.pinned (OpenSpec.ofChange fnCategoryFaultsWrong)

/-- 'laws.FnExactPathCategory': WHATEVER THE INPUT: true; the input reads as it did. -/
def fnExactPathCategorySpec : ChangeSpec := { name := "fnExactPathCategory", fn := fun _ => fun
  | [d1, d2, d3] => { results := [.lit (.bool true)], args := [d1, d2, d3] }
  | _ => none }
def fnExactPathCategoryRow : OpenClaim := { program := "ytloaikmiofdhnab", sum := "8e8a05c667a234600dbab8af74bcef654c9c1678af00030ac849183bfe6d7cd7", func := "loop.example/g01083/laws.FnExactPathCategory", spec := "fnExactPathCategory", unfollowed := true, recurses := true, plainKeys := false, apart := false }
def FnExactPathCategorySaid : Prop := fnExactPathCategoryRow.holds Try.pinned (OpenSpec.ofChange fnExactPathCategorySpec)

/-- ITS FALSE NEIGHBOUR: 'it returns false'. Refute it at one input. -/
def fnExactPathCategoryWrong : ChangeSpec := { name := "fnExactPathCategory", fn := fun _ => fun
  | [d1, d2, d3] => { results := [.lit (.bool false)], args := [d1, d2, d3] }
  | _ => none }
def FnExactPathCategoryWrongFalsely : Prop := fnExactPathCategoryRow.holds Try.pinned (OpenSpec.ofChange fnExactPathCategoryWrong)

/- THE SECOND FORM. 'bulk': how many values and letters a reading holds, each counted each time it is reached (what is shared counts as often as it is met; a slice's spare places count too). A statement '..UptoSaid' is the law's where the arguments, and the package variables that the reading takes, are together of bulk at most 1048576: NARROWER than '..Said'. Prove '..Said' where nothing that the law and all that it calls make is longer than what came in: it says more and counts as full. Else prove '..UptoSaid'. A law counts once. -/
mutual
def uptoBulk {H : Type} : DataW H → Nat
  | .lit (.string bytes) => bytes.length + 1
  | .lit _ => 1
  | .nil => 1
  | .ptr d => uptoBulk d + 1
  | .slice elems spare => uptoBulkAll elems + uptoBulkAll spare + 1
  | .agg parts => uptoBulkAll parts + 1
  | .iface _ d => uptoBulk d + 1
  | .map entries => uptoBulkEntries entries + 1
  | .held _ => 1
def uptoBulkAll {H : Type} : List (DataW H) → Nat
  | [] => 0
  | d :: r => uptoBulk d + uptoBulkAll r
def uptoBulkEntries {H : Type} : List (Lit × DataW H) → Nat
  | [] => 0
  | x :: r => uptoBulkEntry x + uptoBulkEntries r
def uptoBulkEntry {H : Type} : Lit × DataW H → Nat
  | (.string bytes, d) => bytes.length + uptoBulk d + 1
  | (_, d) => uptoBulk d + 1
 end
def uptoSmall : (H : Type) → List (DataW H) → Bool := fun _ ds => decide (uptoBulkAll ds ≤ 1048576)
def OpenSpec.upto (s : _root_.Go.ChangeSpec) : _root_.Go.OpenSpec := { _root_.Go.OpenSpec.ofChange s with cond := some uptoSmall }

/-- 'laws.FnExactIsJointlyMono', WHERE WHAT IT READS IS OF BULK AT MOST 1048576: true; the input reads as it did. -/
def fnExactIsJointlyMonoUptoRow : OpenClaim := { program := "ytloaikmiofdhnab", sum := "8e8a05c667a234600dbab8af74bcef654c9c1678af00030ac849183bfe6d7cd7", func := "loop.example/g01083/laws.FnExactIsJointlyMono", spec := "fnExactIsJointlyMono", unfollowed := true, recurses := true, plainKeys := false, apart := false, narrowed := true }
def FnExactIsJointlyMonoUptoSaid : Prop := fnExactIsJointlyMonoUptoRow.holds Try.pinned (OpenSpec.upto fnExactIsJointlyMonoSpec)

/-- 'laws.FnExactIsJointlyEpi', WHERE WHAT IT READS IS OF BULK AT MOST 1048576: true; the input reads as it did. -/
def fnExactIsJointlyEpiUptoRow : OpenClaim := { program := "ytloaikmiofdhnab", sum := "8e8a05c667a234600dbab8af74bcef654c9c1678af00030ac849183bfe6d7cd7", func := "loop.example/g01083/laws.FnExactIsJointlyEpi", spec := "fnExactIsJointlyEpi", unfollowed := true, recurses := true, plainKeys := false, apart := false, narrowed := true }
def FnExactIsJointlyEpiUptoSaid : Prop := fnExactIsJointlyEpiUptoRow.holds Try.pinned (OpenSpec.upto fnExactIsJointlyEpiSpec)

/-- 'laws.FnExactSubobjectsOf', WHERE WHAT IT READS IS OF BULK AT MOST 1048576: true; the input reads as it did. -/
def fnExactSubobjectsOfUptoRow : OpenClaim := { program := "ytloaikmiofdhnab", sum := "8e8a05c667a234600dbab8af74bcef654c9c1678af00030ac849183bfe6d7cd7", func := "loop.example/g01083/laws.FnExactSubobjectsOf", spec := "fnExactSubobjectsOf", unfollowed := true, recurses := true, plainKeys := false, apart := false, narrowed := true }
def FnExactSubobjectsOfUptoSaid : Prop := fnExactSubobjectsOfUptoRow.holds Try.pinned (OpenSpec.upto fnExactSubobjectsOfSpec)

/-- 'laws.FnExactQuotientsOf', WHERE WHAT IT READS IS OF BULK AT MOST 1048576: true; the input reads as it did. -/
def fnExactQuotientsOfUptoRow : OpenClaim := { program := "ytloaikmiofdhnab", sum := "8e8a05c667a234600dbab8af74bcef654c9c1678af00030ac849183bfe6d7cd7", func := "loop.example/g01083/laws.FnExactQuotientsOf", spec := "fnExactQuotientsOf", unfollowed := true, recurses := true, plainKeys := false, apart := false, narrowed := true }
def FnExactQuotientsOfUptoSaid : Prop := fnExactQuotientsOfUptoRow.holds Try.pinned (OpenSpec.upto fnExactQuotientsOfSpec)

/-- 'laws.FnCancelling', WHERE WHAT IT READS IS OF BULK AT MOST 1048576: true; the input reads as it did. -/
def fnCancellingUptoRow : OpenClaim := { program := "ytloaikmiofdhnab", sum := "8e8a05c667a234600dbab8af74bcef654c9c1678af00030ac849183bfe6d7cd7", func := "loop.example/g01083/laws.FnCancelling", spec := "fnCancelling", unfollowed := true, recurses := true, plainKeys := false, apart := false, narrowed := true }
def FnCancellingUptoSaid : Prop := fnCancellingUptoRow.holds Try.pinned (OpenSpec.upto fnCancellingSpec)

/-- 'laws.FnInverses', WHERE WHAT IT READS IS OF BULK AT MOST 1048576: true; the input reads as it did. -/
def fnInversesUptoRow : OpenClaim := { program := "ytloaikmiofdhnab", sum := "8e8a05c667a234600dbab8af74bcef654c9c1678af00030ac849183bfe6d7cd7", func := "loop.example/g01083/laws.FnInverses", spec := "fnInverses", unfollowed := true, recurses := true, plainKeys := false, apart := false, narrowed := true }
def FnInversesUptoSaid : Prop := fnInversesUptoRow.holds Try.pinned (OpenSpec.upto fnInversesSpec)

/-- 'laws.FnSubobjects', WHERE WHAT IT READS IS OF BULK AT MOST 1048576: true; the input reads as it did. -/
def fnSubobjectsUptoRow : OpenClaim := { program := "ytloaikmiofdhnab", sum := "8e8a05c667a234600dbab8af74bcef654c9c1678af00030ac849183bfe6d7cd7", func := "loop.example/g01083/laws.FnSubobjects", spec := "fnSubobjects", unfollowed := true, recurses := true, plainKeys := false, apart := false, narrowed := true }
def FnSubobjectsUptoSaid : Prop := fnSubobjectsUptoRow.holds Try.pinned (OpenSpec.upto fnSubobjectsSpec)

/-- 'laws.FnPowers', WHERE WHAT IT READS IS OF BULK AT MOST 1048576: true; the input reads as it did. -/
def fnPowersUptoRow : OpenClaim := { program := "ytloaikmiofdhnab", sum := "8e8a05c667a234600dbab8af74bcef654c9c1678af00030ac849183bfe6d7cd7", func := "loop.example/g01083/laws.FnPowers", spec := "fnPowers", unfollowed := true, recurses := true, plainKeys := false, apart := false, narrowed := true }
def FnPowersUptoSaid : Prop := fnPowersUptoRow.holds Try.pinned (OpenSpec.upto fnPowersSpec)

/-- 'laws.FnCategoryFaults', WHERE WHAT IT READS IS OF BULK AT MOST 1048576: true; the input reads as it did. -/
def fnCategoryFaultsUptoRow : OpenClaim := { program := "ytloaikmiofdhnab", sum := "8e8a05c667a234600dbab8af74bcef654c9c1678af00030ac849183bfe6d7cd7", func := "loop.example/g01083/laws.FnCategoryFaults", spec := "fnCategoryFaults", plainKeys := false, apart := false, narrowed := true }
def FnCategoryFaultsUptoSaid : Prop := fnCategoryFaultsUptoRow.holds Try.pinned (OpenSpec.upto fnCategoryFaultsSpec)

/-- 'laws.FnExactPathCategory', WHERE WHAT IT READS IS OF BULK AT MOST 1048576: true; the input reads as it did. -/
def fnExactPathCategoryUptoRow : OpenClaim := { program := "ytloaikmiofdhnab", sum := "8e8a05c667a234600dbab8af74bcef654c9c1678af00030ac849183bfe6d7cd7", func := "loop.example/g01083/laws.FnExactPathCategory", spec := "fnExactPathCategory", unfollowed := true, recurses := true, plainKeys := false, apart := false, narrowed := true }
def FnExactPathCategoryUptoSaid : Prop := fnExactPathCategoryUptoRow.holds Try.pinned (OpenSpec.upto fnExactPathCategorySpec)

end Rows
end Go.Proofs.Ytloaikmiofdhnab
