/-
  No cell of these rows narrows 'for every input' (looked for: loops, veiled, ifaces, maps, wideKeys, modest, calm, conditions, laid).
  DERIVED. THE GIVEN ROWS OF THIS SEAT. 12 by the template 'for every input the law returns true; each argument reads behind the call as it read before'; 0 by the template 'total and deterministic' (their statements: YtbfenibkbmkcaaaTotals.lean).
  GIVEN WITH THE SEED: the statements are not yours to turn. If you find one false, say at which input.
  Laid BY PROGRAM, IN A SANDBOX (cutbox-rows.mjs): the forced cells as the released guide's own fill.sh prints them over the translation 987b0c94b4097b84… (all of the seat's roots in one cut). By AI agents, Wed Nov 11 2026. No macro, syntax, notation, axiom, sorry.
-/
import Derived.Test.YtbfenibkbmkcaaaChecked
import GoSem.Claim
import GoSem.ClaimJoined
import GoSem.ClaimMapViews
import Derived.JoinedTies
import Derived.KernelRfl
namespace Go.Proofs.Ytbfenibkbmkcaaa
/- THE CELL 'sum', in the pinned program and in every row, IS THE sha256 OF THE DUMP (.gsa) THAT YtbfenibkbmkcaaaProg.lean LOADS. Nothing in Lean hashes anything: it is a label: what it is worth is what the hold of that sum in a sandbox is worth. -/
noncomputable def Try.pinned : Pinned := { name := "ytbfenibkbmkcaaa", sum := "987b0c94b4097b8471088b6f8b3c6de81c903c973a35cddccd843986286caafb", checked := Try.checked }
namespace Rows
def none {H : Type} : Left H := { results := [], args := [] }

/-- 'laws.FnExactThenMaps': WHATEVER THE INPUT: true; the input reads as it did. -/
def fnExactThenMapsSpec : ChangeSpec := { name := "fnExactThenMaps", fn := fun _ => fun
  | [d1, d2, d3, d4] => { results := [.lit (.bool true)], args := [d1, d2, d3, d4] }
  | _ => none }
def fnExactThenMapsRow : OpenClaim := { program := "ytbfenibkbmkcaaa", sum := "987b0c94b4097b8471088b6f8b3c6de81c903c973a35cddccd843986286caafb", func := "loop.example/g01083/laws.FnExactThenMaps", spec := "fnExactThenMaps", plainKeys := false, apart := false }
def FnExactThenMapsSaid : Prop := fnExactThenMapsRow.holds Try.pinned (OpenSpec.ofChange fnExactThenMapsSpec)

/-- ITS FALSE NEIGHBOUR: 'it returns false'. Refute it at one input. -/
def fnExactThenMapsWrong : ChangeSpec := { name := "fnExactThenMaps", fn := fun _ => fun
  | [d1, d2, d3, d4] => { results := [.lit (.bool false)], args := [d1, d2, d3, d4] }
  | _ => none }
def FnExactThenMapsWrongFalsely : Prop := fnExactThenMapsRow.holds Try.pinned (OpenSpec.ofChange fnExactThenMapsWrong)

/-- 'laws.FnExactIsPartition': WHATEVER THE INPUT: true; the input reads as it did. -/
def fnExactIsPartitionSpec : ChangeSpec := { name := "fnExactIsPartition", fn := fun _ => fun
  | [d] => { results := [.lit (.bool true)], args := [d] }
  | _ => none }
def fnExactIsPartitionRow : OpenClaim := { program := "ytbfenibkbmkcaaa", sum := "987b0c94b4097b8471088b6f8b3c6de81c903c973a35cddccd843986286caafb", func := "loop.example/g01083/laws.FnExactIsPartition", spec := "fnExactIsPartition", plainKeys := false, apart := false }
def FnExactIsPartitionSaid : Prop := fnExactIsPartitionRow.holds Try.pinned (OpenSpec.ofChange fnExactIsPartitionSpec)

/-- ITS FALSE NEIGHBOUR: 'it returns false'. Refute it at one input. -/
def fnExactIsPartitionWrong : ChangeSpec := { name := "fnExactIsPartition", fn := fun _ => fun
  | [d] => { results := [.lit (.bool false)], args := [d] }
  | _ => none }
def FnExactIsPartitionWrongFalsely : Prop := fnExactIsPartitionRow.holds Try.pinned (OpenSpec.ofChange fnExactIsPartitionWrong)

/-- 'laws.FnExactKernelOf': WHATEVER THE INPUT: true; the input reads as it did. -/
def fnExactKernelOfSpec : ChangeSpec := { name := "fnExactKernelOf", fn := fun _ => fun
  | [d1, d2] => { results := [.lit (.bool true)], args := [d1, d2] }
  | _ => none }
def fnExactKernelOfRow : OpenClaim := { program := "ytbfenibkbmkcaaa", sum := "987b0c94b4097b8471088b6f8b3c6de81c903c973a35cddccd843986286caafb", func := "loop.example/g01083/laws.FnExactKernelOf", spec := "fnExactKernelOf", plainKeys := false, apart := false }
def FnExactKernelOfSaid : Prop := fnExactKernelOfRow.holds Try.pinned (OpenSpec.ofChange fnExactKernelOfSpec)

/-- ITS FALSE NEIGHBOUR: 'it returns false'. Refute it at one input. -/
def fnExactKernelOfWrong : ChangeSpec := { name := "fnExactKernelOf", fn := fun _ => fun
  | [d1, d2] => { results := [.lit (.bool false)], args := [d1, d2] }
  | _ => none }
def FnExactKernelOfWrongFalsely : Prop := fnExactKernelOfRow.holds Try.pinned (OpenSpec.ofChange fnExactKernelOfWrong)

/-- 'laws.FnExactJoinPairs': WHATEVER THE INPUT: true; the input reads as it did. -/
def fnExactJoinPairsSpec : ChangeSpec := { name := "fnExactJoinPairs", fn := fun _ => fun
  | [d1, d2] => { results := [.lit (.bool true)], args := [d1, d2] }
  | _ => none }
def fnExactJoinPairsRow : OpenClaim := { program := "ytbfenibkbmkcaaa", sum := "987b0c94b4097b8471088b6f8b3c6de81c903c973a35cddccd843986286caafb", func := "loop.example/g01083/laws.FnExactJoinPairs", spec := "fnExactJoinPairs", plainKeys := false, apart := false }
def FnExactJoinPairsSaid : Prop := fnExactJoinPairsRow.holds Try.pinned (OpenSpec.ofChange fnExactJoinPairsSpec)

/-- ITS FALSE NEIGHBOUR: 'it returns false'. Refute it at one input. -/
def fnExactJoinPairsWrong : ChangeSpec := { name := "fnExactJoinPairs", fn := fun _ => fun
  | [d1, d2] => { results := [.lit (.bool false)], args := [d1, d2] }
  | _ => none }
def FnExactJoinPairsWrongFalsely : Prop := fnExactJoinPairsRow.holds Try.pinned (OpenSpec.ofChange fnExactJoinPairsWrong)

/-- 'laws.FnExactMeetPartitions': WHATEVER THE INPUT: true; the input reads as it did. -/
def fnExactMeetPartitionsSpec : ChangeSpec := { name := "fnExactMeetPartitions", fn := fun _ => fun
  | [d1, d2] => { results := [.lit (.bool true)], args := [d1, d2] }
  | _ => none }
def fnExactMeetPartitionsRow : OpenClaim := { program := "ytbfenibkbmkcaaa", sum := "987b0c94b4097b8471088b6f8b3c6de81c903c973a35cddccd843986286caafb", func := "loop.example/g01083/laws.FnExactMeetPartitions", spec := "fnExactMeetPartitions", plainKeys := false, apart := false }
def FnExactMeetPartitionsSaid : Prop := fnExactMeetPartitionsRow.holds Try.pinned (OpenSpec.ofChange fnExactMeetPartitionsSpec)

/-- ITS FALSE NEIGHBOUR: 'it returns false'. Refute it at one input. -/
def fnExactMeetPartitionsWrong : ChangeSpec := { name := "fnExactMeetPartitions", fn := fun _ => fun
  | [d1, d2] => { results := [.lit (.bool false)], args := [d1, d2] }
  | _ => none }
def FnExactMeetPartitionsWrongFalsely : Prop := fnExactMeetPartitionsRow.holds Try.pinned (OpenSpec.ofChange fnExactMeetPartitionsWrong)

/-- 'laws.FnExactJoinPartitions': WHATEVER THE INPUT: true; the input reads as it did. -/
def fnExactJoinPartitionsSpec : ChangeSpec := { name := "fnExactJoinPartitions", fn := fun _ => fun
  | [d1, d2] => { results := [.lit (.bool true)], args := [d1, d2] }
  | _ => none }
def fnExactJoinPartitionsRow : OpenClaim := { program := "ytbfenibkbmkcaaa", sum := "987b0c94b4097b8471088b6f8b3c6de81c903c973a35cddccd843986286caafb", func := "loop.example/g01083/laws.FnExactJoinPartitions", spec := "fnExactJoinPartitions", plainKeys := false, apart := false }
def FnExactJoinPartitionsSaid : Prop := fnExactJoinPartitionsRow.holds Try.pinned (OpenSpec.ofChange fnExactJoinPartitionsSpec)

/-- ITS FALSE NEIGHBOUR: 'it returns false'. Refute it at one input. -/
def fnExactJoinPartitionsWrong : ChangeSpec := { name := "fnExactJoinPartitions", fn := fun _ => fun
  | [d1, d2] => { results := [.lit (.bool false)], args := [d1, d2] }
  | _ => none }
def FnExactJoinPartitionsWrongFalsely : Prop := fnExactJoinPartitionsRow.holds Try.pinned (OpenSpec.ofChange fnExactJoinPartitionsWrong)

/-- 'laws.FnExactCoequalizerOf': WHATEVER THE INPUT: true; the input reads as it did. -/
def fnExactCoequalizerOfSpec : ChangeSpec := { name := "fnExactCoequalizerOf", fn := fun _ => fun
  | [d1, d2, d3] => { results := [.lit (.bool true)], args := [d1, d2, d3] }
  | _ => none }
def fnExactCoequalizerOfRow : OpenClaim := { program := "ytbfenibkbmkcaaa", sum := "987b0c94b4097b8471088b6f8b3c6de81c903c973a35cddccd843986286caafb", func := "loop.example/g01083/laws.FnExactCoequalizerOf", spec := "fnExactCoequalizerOf", plainKeys := false, apart := false }
def FnExactCoequalizerOfSaid : Prop := fnExactCoequalizerOfRow.holds Try.pinned (OpenSpec.ofChange fnExactCoequalizerOfSpec)

/-- ITS FALSE NEIGHBOUR: 'it returns false'. Refute it at one input. -/
def fnExactCoequalizerOfWrong : ChangeSpec := { name := "fnExactCoequalizerOf", fn := fun _ => fun
  | [d1, d2, d3] => { results := [.lit (.bool false)], args := [d1, d2, d3] }
  | _ => none }
def FnExactCoequalizerOfWrongFalsely : Prop := fnExactCoequalizerOfRow.holds Try.pinned (OpenSpec.ofChange fnExactCoequalizerOfWrong)

/-- 'laws.FnExactPushoutOf': WHATEVER THE INPUT: true; the input reads as it did. -/
def fnExactPushoutOfSpec : ChangeSpec := { name := "fnExactPushoutOf", fn := fun _ => fun
  | [d1, d2, d3, d4] => { results := [.lit (.bool true)], args := [d1, d2, d3, d4] }
  | _ => none }
def fnExactPushoutOfRow : OpenClaim := { program := "ytbfenibkbmkcaaa", sum := "987b0c94b4097b8471088b6f8b3c6de81c903c973a35cddccd843986286caafb", func := "loop.example/g01083/laws.FnExactPushoutOf", spec := "fnExactPushoutOf", plainKeys := false, apart := false }
def FnExactPushoutOfSaid : Prop := fnExactPushoutOfRow.holds Try.pinned (OpenSpec.ofChange fnExactPushoutOfSpec)

/-- ITS FALSE NEIGHBOUR: 'it returns false'. Refute it at one input. -/
def fnExactPushoutOfWrong : ChangeSpec := { name := "fnExactPushoutOf", fn := fun _ => fun
  | [d1, d2, d3, d4] => { results := [.lit (.bool false)], args := [d1, d2, d3, d4] }
  | _ => none }
def FnExactPushoutOfWrongFalsely : Prop := fnExactPushoutOfRow.holds Try.pinned (OpenSpec.ofChange fnExactPushoutOfWrong)

/-- 'laws.FnExactFullSubcategory': WHATEVER THE INPUT: true; the input reads as it did. -/
def fnExactFullSubcategorySpec : ChangeSpec := { name := "fnExactFullSubcategory", fn := fun _ => fun
  | [d1, d2] => { results := [.lit (.bool true)], args := [d1, d2] }
  | _ => none }
def fnExactFullSubcategoryRow : OpenClaim := { program := "ytbfenibkbmkcaaa", sum := "987b0c94b4097b8471088b6f8b3c6de81c903c973a35cddccd843986286caafb", func := "loop.example/g01083/laws.FnExactFullSubcategory", spec := "fnExactFullSubcategory", plainKeys := false, apart := false }
def FnExactFullSubcategorySaid : Prop := fnExactFullSubcategoryRow.holds Try.pinned (OpenSpec.ofChange fnExactFullSubcategorySpec)

/-- ITS FALSE NEIGHBOUR: 'it returns false'. Refute it at one input. -/
def fnExactFullSubcategoryWrong : ChangeSpec := { name := "fnExactFullSubcategory", fn := fun _ => fun
  | [d1, d2] => { results := [.lit (.bool false)], args := [d1, d2] }
  | _ => none }
def FnExactFullSubcategoryWrongFalsely : Prop := fnExactFullSubcategoryRow.holds Try.pinned (OpenSpec.ofChange fnExactFullSubcategoryWrong)

/-- 'laws.FnExactIsGroupoid': WHATEVER THE INPUT: true; the input reads as it did. -/
def fnExactIsGroupoidSpec : ChangeSpec := { name := "fnExactIsGroupoid", fn := fun _ => fun
  | [d] => { results := [.lit (.bool true)], args := [d] }
  | _ => none }
def fnExactIsGroupoidRow : OpenClaim := { program := "ytbfenibkbmkcaaa", sum := "987b0c94b4097b8471088b6f8b3c6de81c903c973a35cddccd843986286caafb", func := "loop.example/g01083/laws.FnExactIsGroupoid", spec := "fnExactIsGroupoid", plainKeys := false, apart := false }
def FnExactIsGroupoidSaid : Prop := fnExactIsGroupoidRow.holds Try.pinned (OpenSpec.ofChange fnExactIsGroupoidSpec)

/-- ITS FALSE NEIGHBOUR: 'it returns false'. Refute it at one input. -/
def fnExactIsGroupoidWrong : ChangeSpec := { name := "fnExactIsGroupoid", fn := fun _ => fun
  | [d] => { results := [.lit (.bool false)], args := [d] }
  | _ => none }
def FnExactIsGroupoidWrongFalsely : Prop := fnExactIsGroupoidRow.holds Try.pinned (OpenSpec.ofChange fnExactIsGroupoidWrong)

/-- 'laws.FnExactConnectedObjects': WHATEVER THE INPUT: true; the input reads as it did. -/
def fnExactConnectedObjectsSpec : ChangeSpec := { name := "fnExactConnectedObjects", fn := fun _ => fun
  | [d] => { results := [.lit (.bool true)], args := [d] }
  | _ => none }
def fnExactConnectedObjectsRow : OpenClaim := { program := "ytbfenibkbmkcaaa", sum := "987b0c94b4097b8471088b6f8b3c6de81c903c973a35cddccd843986286caafb", func := "loop.example/g01083/laws.FnExactConnectedObjects", spec := "fnExactConnectedObjects", plainKeys := false, apart := false }
def FnExactConnectedObjectsSaid : Prop := fnExactConnectedObjectsRow.holds Try.pinned (OpenSpec.ofChange fnExactConnectedObjectsSpec)

/-- ITS FALSE NEIGHBOUR: 'it returns false'. Refute it at one input. -/
def fnExactConnectedObjectsWrong : ChangeSpec := { name := "fnExactConnectedObjects", fn := fun _ => fun
  | [d] => { results := [.lit (.bool false)], args := [d] }
  | _ => none }
def FnExactConnectedObjectsWrongFalsely : Prop := fnExactConnectedObjectsRow.holds Try.pinned (OpenSpec.ofChange fnExactConnectedObjectsWrong)

/-- 'laws.FnExactPreorderCategory': WHATEVER THE INPUT: true; the input reads as it did. -/
def fnExactPreorderCategorySpec : ChangeSpec := { name := "fnExactPreorderCategory", fn := fun _ => fun
  | [d] => { results := [.lit (.bool true)], args := [d] }
  | _ => none }
def fnExactPreorderCategoryRow : OpenClaim := { program := "ytbfenibkbmkcaaa", sum := "987b0c94b4097b8471088b6f8b3c6de81c903c973a35cddccd843986286caafb", func := "loop.example/g01083/laws.FnExactPreorderCategory", spec := "fnExactPreorderCategory", unfollowed := true, recurses := true, plainKeys := false, apart := false }
def FnExactPreorderCategorySaid : Prop := fnExactPreorderCategoryRow.holds Try.pinned (OpenSpec.ofChange fnExactPreorderCategorySpec)

/-- ITS FALSE NEIGHBOUR: 'it returns false'. Refute it at one input. -/
def fnExactPreorderCategoryWrong : ChangeSpec := { name := "fnExactPreorderCategory", fn := fun _ => fun
  | [d] => { results := [.lit (.bool false)], args := [d] }
  | _ => none }
def FnExactPreorderCategoryWrongFalsely : Prop := fnExactPreorderCategoryRow.holds Try.pinned (OpenSpec.ofChange fnExactPreorderCategoryWrong)

/- THE SECOND FORM. 'bulk': how many values and letters a reading holds, each counted each time it is reached (what is shared counts as often as it is met; a slice's spare places count too). A statement '..UptoSaid' is the law's where the arguments, and the package variables that the reading takes, are together of bulk at most 1048576: NARROWER than '..Said'. Prove '..Said' where nothing that the law and all that it calls make is longer than what came in: it says more and counts as full. Else prove '..UptoSaid'. A law counts once. -/
mutual
def uptoBulk {H : Type} : DataW H → Nat
  | .lit (.string bytes) => bytes.length + 1
  | .lit _ => 1
  | .nil => 1
  | .ptr d => uptoBulk d + 1
  | .slice elems spare => uptoBulkAll elems + uptoBulkAll spare + 1
  | .agg parts => uptoBulkAll parts + 1
  | .iface _ d => uptoBulk d + 1
  | .map entries => uptoBulkEntries entries + 1
  | .held _ => 1
def uptoBulkAll {H : Type} : List (DataW H) → Nat
  | [] => 0
  | d :: r => uptoBulk d + uptoBulkAll r
def uptoBulkEntries {H : Type} : List (Lit × DataW H) → Nat
  | [] => 0
  | x :: r => uptoBulkEntry x + uptoBulkEntries r
def uptoBulkEntry {H : Type} : Lit × DataW H → Nat
  | (.string bytes, d) => bytes.length + uptoBulk d + 1
  | (_, d) => uptoBulk d + 1
 end
def uptoSmall : (H : Type) → List (DataW H) → Bool := fun _ ds => decide (uptoBulkAll ds ≤ 1048576)
def OpenSpec.upto (s : _root_.Go.ChangeSpec) : _root_.Go.OpenSpec := { _root_.Go.OpenSpec.ofChange s with cond := some uptoSmall }

/-- 'laws.FnExactThenMaps', WHERE WHAT IT READS IS OF BULK AT MOST 1048576: true; the input reads as it did. -/
def fnExactThenMapsUptoRow : OpenClaim := { program := "ytbfenibkbmkcaaa", sum := "987b0c94b4097b8471088b6f8b3c6de81c903c973a35cddccd843986286caafb", func := "loop.example/g01083/laws.FnExactThenMaps", spec := "fnExactThenMaps", plainKeys := false, apart := false, narrowed := true }
def FnExactThenMapsUptoSaid : Prop := fnExactThenMapsUptoRow.holds Try.pinned (OpenSpec.upto fnExactThenMapsSpec)

/-- 'laws.FnExactIsPartition', WHERE WHAT IT READS IS OF BULK AT MOST 1048576: true; the input reads as it did. -/
def fnExactIsPartitionUptoRow : OpenClaim := { program := "ytbfenibkbmkcaaa", sum := "987b0c94b4097b8471088b6f8b3c6de81c903c973a35cddccd843986286caafb", func := "loop.example/g01083/laws.FnExactIsPartition", spec := "fnExactIsPartition", plainKeys := false, apart := false, narrowed := true }
def FnExactIsPartitionUptoSaid : Prop := fnExactIsPartitionUptoRow.holds Try.pinned (OpenSpec.upto fnExactIsPartitionSpec)

/-- 'laws.FnExactKernelOf', WHERE WHAT IT READS IS OF BULK AT MOST 1048576: true; the input reads as it did. -/
def fnExactKernelOfUptoRow : OpenClaim := { program := "ytbfenibkbmkcaaa", sum := "987b0c94b4097b8471088b6f8b3c6de81c903c973a35cddccd843986286caafb", func := "loop.example/g01083/laws.FnExactKernelOf", spec := "fnExactKernelOf", plainKeys := false, apart := false, narrowed := true }
def FnExactKernelOfUptoSaid : Prop := fnExactKernelOfUptoRow.holds Try.pinned (OpenSpec.upto fnExactKernelOfSpec)

/-- 'laws.FnExactJoinPairs', WHERE WHAT IT READS IS OF BULK AT MOST 1048576: true; the input reads as it did. -/
def fnExactJoinPairsUptoRow : OpenClaim := { program := "ytbfenibkbmkcaaa", sum := "987b0c94b4097b8471088b6f8b3c6de81c903c973a35cddccd843986286caafb", func := "loop.example/g01083/laws.FnExactJoinPairs", spec := "fnExactJoinPairs", plainKeys := false, apart := false, narrowed := true }
def FnExactJoinPairsUptoSaid : Prop := fnExactJoinPairsUptoRow.holds Try.pinned (OpenSpec.upto fnExactJoinPairsSpec)

/-- 'laws.FnExactMeetPartitions', WHERE WHAT IT READS IS OF BULK AT MOST 1048576: true; the input reads as it did. -/
def fnExactMeetPartitionsUptoRow : OpenClaim := { program := "ytbfenibkbmkcaaa", sum := "987b0c94b4097b8471088b6f8b3c6de81c903c973a35cddccd843986286caafb", func := "loop.example/g01083/laws.FnExactMeetPartitions", spec := "fnExactMeetPartitions", plainKeys := false, apart := false, narrowed := true }
def FnExactMeetPartitionsUptoSaid : Prop := fnExactMeetPartitionsUptoRow.holds Try.pinned (OpenSpec.upto fnExactMeetPartitionsSpec)

/-- 'laws.FnExactJoinPartitions', WHERE WHAT IT READS IS OF BULK AT MOST 1048576: true; the input reads as it did. -/
def fnExactJoinPartitionsUptoRow : OpenClaim := { program := "ytbfenibkbmkcaaa", sum := "987b0c94b4097b8471088b6f8b3c6de81c903c973a35cddccd843986286caafb", func := "loop.example/g01083/laws.FnExactJoinPartitions", spec := "fnExactJoinPartitions", plainKeys := false, apart := false, narrowed := true }
def FnExactJoinPartitionsUptoSaid : Prop := fnExactJoinPartitionsUptoRow.holds Try.pinned (OpenSpec.upto fnExactJoinPartitionsSpec)

/-- 'laws.FnExactCoequalizerOf', WHERE WHAT IT READS IS OF BULK AT MOST 1048576: true; the input reads as it did. -/
def fnExactCoequalizerOfUptoRow : OpenClaim := { program := "ytbfenibkbmkcaaa", sum := "987b0c94b4097b8471088b6f8b3c6de81c903c973a35cddccd843986286caafb", func := "loop.example/g01083/laws.FnExactCoequalizerOf", spec := "fnExactCoequalizerOf", plainKeys := false, apart := false, narrowed := true }
def FnExactCoequalizerOfUptoSaid : Prop := fnExactCoequalizerOfUptoRow.holds Try.pinned (OpenSpec.upto fnExactCoequalizerOfSpec)

/-- 'laws.FnExactPushoutOf', WHERE WHAT IT READS IS OF BULK AT MOST 1048576: true; the input reads as it did. -/
def fnExactPushoutOfUptoRow : OpenClaim := { program := "ytbfenibkbmkcaaa", sum := "987b0c94b4097b8471088b6f8b3c6de81c903c973a35cddccd843986286caafb", func := "loop.example/g01083/laws.FnExactPushoutOf", spec := "fnExactPushoutOf", plainKeys := false, apart := false, narrowed := true }
def FnExactPushoutOfUptoSaid : Prop := fnExactPushoutOfUptoRow.holds Try.pinned (OpenSpec.upto fnExactPushoutOfSpec)

/-- 'laws.FnExactFullSubcategory', WHERE WHAT IT READS IS OF BULK AT MOST 1048576: true; the input reads as it did. -/
def fnExactFullSubcategoryUptoRow : OpenClaim := { program := "ytbfenibkbmkcaaa", sum := "987b0c94b4097b8471088b6f8b3c6de81c903c973a35cddccd843986286caafb", func := "loop.example/g01083/laws.FnExactFullSubcategory", spec := "fnExactFullSubcategory", plainKeys := false, apart := false, narrowed := true }
def FnExactFullSubcategoryUptoSaid : Prop := fnExactFullSubcategoryUptoRow.holds Try.pinned (OpenSpec.upto fnExactFullSubcategorySpec)

/-- 'laws.FnExactIsGroupoid', WHERE WHAT IT READS IS OF BULK AT MOST 1048576: true; the input reads as it did. -/
def fnExactIsGroupoidUptoRow : OpenClaim := { program := "ytbfenibkbmkcaaa", sum := "987b0c94b4097b8471088b6f8b3c6de81c903c973a35cddccd843986286caafb", func := "loop.example/g01083/laws.FnExactIsGroupoid", spec := "fnExactIsGroupoid", plainKeys := false, apart := false, narrowed := true }
def FnExactIsGroupoidUptoSaid : Prop := fnExactIsGroupoidUptoRow.holds Try.pinned (OpenSpec.upto fnExactIsGroupoidSpec)

/-- 'laws.FnExactConnectedObjects', WHERE WHAT IT READS IS OF BULK AT MOST 1048576: true; the input reads as it did. -/
def fnExactConnectedObjectsUptoRow : OpenClaim := { program := "ytbfenibkbmkcaaa", sum := "987b0c94b4097b8471088b6f8b3c6de81c903c973a35cddccd843986286caafb", func := "loop.example/g01083/laws.FnExactConnectedObjects", spec := "fnExactConnectedObjects", plainKeys := false, apart := false, narrowed := true }
def FnExactConnectedObjectsUptoSaid : Prop := fnExactConnectedObjectsUptoRow.holds Try.pinned (OpenSpec.upto fnExactConnectedObjectsSpec)

/-- 'laws.FnExactPreorderCategory', WHERE WHAT IT READS IS OF BULK AT MOST 1048576: true; the input reads as it did. -/
def fnExactPreorderCategoryUptoRow : OpenClaim := { program := "ytbfenibkbmkcaaa", sum := "987b0c94b4097b8471088b6f8b3c6de81c903c973a35cddccd843986286caafb", func := "loop.example/g01083/laws.FnExactPreorderCategory", spec := "fnExactPreorderCategory", unfollowed := true, recurses := true, plainKeys := false, apart := false, narrowed := true }
def FnExactPreorderCategoryUptoSaid : Prop := fnExactPreorderCategoryUptoRow.holds Try.pinned (OpenSpec.upto fnExactPreorderCategorySpec)

end Rows
end Go.Proofs.Ytbfenibkbmkcaaa
