/-
  No cell of these rows narrows 'for every input' (looked for: loops, veiled, ifaces, maps, wideKeys, modest, calm, conditions, laid).
  DERIVED. THE GIVEN ROWS OF THIS SEAT. 12 by the template 'for every input the law returns true; each argument reads behind the call as it read before'; 0 by the template 'total and deterministic' (their statements: YtonlkijeogdpmaaTotals.lean).
  GIVEN WITH THE SEED: the statements are not yours to turn. If you find one false, say at which input.
  Laid BY PROGRAM, IN A SANDBOX (cutbox-rows.mjs): the forced cells as the released guide's own fill.sh prints them over the translation 014f1ae5820b897e… (all of the seat's roots in one cut). By AI agents, Wed Nov 11 2026. No macro, syntax, notation, axiom, sorry.
-/
import Derived.Test.YtonlkijeogdpmaaChecked
import GoSem.Claim
import GoSem.ClaimJoined
import GoSem.ClaimMapViews
import Derived.JoinedTies
import Derived.KernelRfl
namespace Go.Proofs.Ytonlkijeogdpmaa
/- THE CELL 'sum', in the pinned program and in every row, IS THE sha256 OF THE DUMP (.gsa) THAT YtonlkijeogdpmaaProg.lean LOADS. Nothing in Lean hashes anything: it is a label: what it is worth is what the hold of that sum in a sandbox is worth. -/
noncomputable def Try.pinned : Pinned := { name := "ytonlkijeogdpmaa", sum := "014f1ae5820b897efe3a4064e08eb1202a21240dd36f5dd330d31438d632a94b", checked := Try.checked }
namespace Rows
def none {H : Type} : Left H := { results := [], args := [] }

/-- 'laws.FnFactored': WHATEVER THE INPUT: true; the input reads as it did. -/
def fnFactoredSpec : ChangeSpec := { name := "fnFactored", fn := fun _ => fun
  | [d] => { results := [.lit (.bool true)], args := [d] }
  | _ => none }
def fnFactoredRow : OpenClaim := { program := "ytonlkijeogdpmaa", sum := "014f1ae5820b897efe3a4064e08eb1202a21240dd36f5dd330d31438d632a94b", func := "loop.example/g01083/laws.FnFactored", spec := "fnFactored", recurses := true, apart := false }
def FnFactoredSaid : Prop := fnFactoredRow.holds Try.pinned (OpenSpec.ofChange fnFactoredSpec)

/-- ITS FALSE NEIGHBOUR: 'it returns false'. Refute it at one input. -/
def fnFactoredWrong : ChangeSpec := { name := "fnFactored", fn := fun _ => fun
  | [d] => { results := [.lit (.bool false)], args := [d] }
  | _ => none }
def FnFactoredWrongFalsely : Prop := fnFactoredRow.holds Try.pinned (OpenSpec.ofChange fnFactoredWrong)

/-- 'laws.FnPartitions': WHATEVER THE INPUT: true; the input reads as it did. -/
def fnPartitionsSpec : ChangeSpec := { name := "fnPartitions", fn := fun _ => fun
  | [d] => { results := [.lit (.bool true)], args := [d] }
  | _ => none }
def fnPartitionsRow : OpenClaim := { program := "ytonlkijeogdpmaa", sum := "014f1ae5820b897efe3a4064e08eb1202a21240dd36f5dd330d31438d632a94b", func := "loop.example/g01083/laws.FnPartitions", spec := "fnPartitions", apart := false }
def FnPartitionsSaid : Prop := fnPartitionsRow.holds Try.pinned (OpenSpec.ofChange fnPartitionsSpec)

/-- ITS FALSE NEIGHBOUR: 'it returns false'. Refute it at one input. -/
def fnPartitionsWrong : ChangeSpec := { name := "fnPartitions", fn := fun _ => fun
  | [d] => { results := [.lit (.bool false)], args := [d] }
  | _ => none }
def FnPartitionsWrongFalsely : Prop := fnPartitionsRow.holds Try.pinned (OpenSpec.ofChange fnPartitionsWrong)

/-- 'laws.FnPullbacksPushouts': WHATEVER THE INPUT: true; the input reads as it did. -/
def fnPullbacksPushoutsSpec : ChangeSpec := { name := "fnPullbacksPushouts", fn := fun _ => fun
  | [d] => { results := [.lit (.bool true)], args := [d] }
  | _ => none }
def fnPullbacksPushoutsRow : OpenClaim := { program := "ytonlkijeogdpmaa", sum := "014f1ae5820b897efe3a4064e08eb1202a21240dd36f5dd330d31438d632a94b", func := "loop.example/g01083/laws.FnPullbacksPushouts", spec := "fnPullbacksPushouts", apart := false }
def FnPullbacksPushoutsSaid : Prop := fnPullbacksPushoutsRow.holds Try.pinned (OpenSpec.ofChange fnPullbacksPushoutsSpec)

/-- ITS FALSE NEIGHBOUR: 'it returns false'. Refute it at one input. -/
def fnPullbacksPushoutsWrong : ChangeSpec := { name := "fnPullbacksPushouts", fn := fun _ => fun
  | [d] => { results := [.lit (.bool false)], args := [d] }
  | _ => none }
def FnPullbacksPushoutsWrongFalsely : Prop := fnPullbacksPushoutsRow.holds Try.pinned (OpenSpec.ofChange fnPullbacksPushoutsWrong)

/-- 'laws.FnTuples': WHATEVER THE INPUT: true; the input reads as it did. -/
def fnTuplesSpec : ChangeSpec := { name := "fnTuples", fn := fun _ => fun
  | [d] => { results := [.lit (.bool true)], args := [d] }
  | _ => none }
def fnTuplesRow : OpenClaim := { program := "ytonlkijeogdpmaa", sum := "014f1ae5820b897efe3a4064e08eb1202a21240dd36f5dd330d31438d632a94b", func := "loop.example/g01083/laws.FnTuples", spec := "fnTuples", apart := false }
def FnTuplesSaid : Prop := fnTuplesRow.holds Try.pinned (OpenSpec.ofChange fnTuplesSpec)

/-- ITS FALSE NEIGHBOUR: 'it returns false'. Refute it at one input. -/
def fnTuplesWrong : ChangeSpec := { name := "fnTuples", fn := fun _ => fun
  | [d] => { results := [.lit (.bool false)], args := [d] }
  | _ => none }
def FnTuplesWrongFalsely : Prop := fnTuplesRow.holds Try.pinned (OpenSpec.ofChange fnTuplesWrong)

/-- 'laws.FnEqualizers': WHATEVER THE INPUT: true; the input reads as it did. -/
def fnEqualizersSpec : ChangeSpec := { name := "fnEqualizers", fn := fun _ => fun
  | [d] => { results := [.lit (.bool true)], args := [d] }
  | _ => none }
def fnEqualizersRow : OpenClaim := { program := "ytonlkijeogdpmaa", sum := "014f1ae5820b897efe3a4064e08eb1202a21240dd36f5dd330d31438d632a94b", func := "loop.example/g01083/laws.FnEqualizers", spec := "fnEqualizers", apart := false }
def FnEqualizersSaid : Prop := fnEqualizersRow.holds Try.pinned (OpenSpec.ofChange fnEqualizersSpec)

/-- ITS FALSE NEIGHBOUR: 'it returns false'. Refute it at one input. -/
def fnEqualizersWrong : ChangeSpec := { name := "fnEqualizers", fn := fun _ => fun
  | [d] => { results := [.lit (.bool false)], args := [d] }
  | _ => none }
def FnEqualizersWrongFalsely : Prop := fnEqualizersRow.holds Try.pinned (OpenSpec.ofChange fnEqualizersWrong)

/-- 'laws.FnExactIsMap': WHATEVER THE INPUT: true; the input reads as it did. -/
def fnExactIsMapSpec : ChangeSpec := { name := "fnExactIsMap", fn := fun _ => fun
  | [d1, d2] => { results := [.lit (.bool true)], args := [d1, d2] }
  | _ => none }
def fnExactIsMapRow : OpenClaim := { program := "ytonlkijeogdpmaa", sum := "014f1ae5820b897efe3a4064e08eb1202a21240dd36f5dd330d31438d632a94b", func := "loop.example/g01083/laws.FnExactIsMap", spec := "fnExactIsMap", apart := false }
def FnExactIsMapSaid : Prop := fnExactIsMapRow.holds Try.pinned (OpenSpec.ofChange fnExactIsMapSpec)

/-- ITS FALSE NEIGHBOUR: 'it returns false'. Refute it at one input. -/
def fnExactIsMapWrong : ChangeSpec := { name := "fnExactIsMap", fn := fun _ => fun
  | [d1, d2] => { results := [.lit (.bool false)], args := [d1, d2] }
  | _ => none }
def FnExactIsMapWrongFalsely : Prop := fnExactIsMapRow.holds Try.pinned (OpenSpec.ofChange fnExactIsMapWrong)

/-- 'laws.FnExactThenMaps': WHATEVER THE INPUT: true; the input reads as it did. -/
def fnExactThenMapsSpec : ChangeSpec := { name := "fnExactThenMaps", fn := fun _ => fun
  | [d1, d2, d3, d4] => { results := [.lit (.bool true)], args := [d1, d2, d3, d4] }
  | _ => none }
def fnExactThenMapsRow : OpenClaim := { program := "ytonlkijeogdpmaa", sum := "014f1ae5820b897efe3a4064e08eb1202a21240dd36f5dd330d31438d632a94b", func := "loop.example/g01083/laws.FnExactThenMaps", spec := "fnExactThenMaps", apart := false }
def FnExactThenMapsSaid : Prop := fnExactThenMapsRow.holds Try.pinned (OpenSpec.ofChange fnExactThenMapsSpec)

/-- ITS FALSE NEIGHBOUR: 'it returns false'. Refute it at one input. -/
def fnExactThenMapsWrong : ChangeSpec := { name := "fnExactThenMaps", fn := fun _ => fun
  | [d1, d2, d3, d4] => { results := [.lit (.bool false)], args := [d1, d2, d3, d4] }
  | _ => none }
def FnExactThenMapsWrongFalsely : Prop := fnExactThenMapsRow.holds Try.pinned (OpenSpec.ofChange fnExactThenMapsWrong)

/-- 'laws.FnExactImageOf': WHATEVER THE INPUT: true; the input reads as it did. -/
def fnExactImageOfSpec : ChangeSpec := { name := "fnExactImageOf", fn := fun _ => fun
  | [d1, d2] => { results := [.lit (.bool true)], args := [d1, d2] }
  | _ => none }
def fnExactImageOfRow : OpenClaim := { program := "ytonlkijeogdpmaa", sum := "014f1ae5820b897efe3a4064e08eb1202a21240dd36f5dd330d31438d632a94b", func := "loop.example/g01083/laws.FnExactImageOf", spec := "fnExactImageOf", recurses := true, apart := false }
def FnExactImageOfSaid : Prop := fnExactImageOfRow.holds Try.pinned (OpenSpec.ofChange fnExactImageOfSpec)

/-- ITS FALSE NEIGHBOUR: 'it returns false'. Refute it at one input. -/
def fnExactImageOfWrong : ChangeSpec := { name := "fnExactImageOf", fn := fun _ => fun
  | [d1, d2] => { results := [.lit (.bool false)], args := [d1, d2] }
  | _ => none }
def FnExactImageOfWrongFalsely : Prop := fnExactImageOfRow.holds Try.pinned (OpenSpec.ofChange fnExactImageOfWrong)

/-- 'laws.FnExactFibreOf': WHATEVER THE INPUT: true; the input reads as it did. -/
def fnExactFibreOfSpec : ChangeSpec := { name := "fnExactFibreOf", fn := fun _ => fun
  | [d1, d2, d3] => { results := [.lit (.bool true)], args := [d1, d2, d3] }
  | _ => none }
def fnExactFibreOfRow : OpenClaim := { program := "ytonlkijeogdpmaa", sum := "014f1ae5820b897efe3a4064e08eb1202a21240dd36f5dd330d31438d632a94b", func := "loop.example/g01083/laws.FnExactFibreOf", spec := "fnExactFibreOf", apart := false }
def FnExactFibreOfSaid : Prop := fnExactFibreOfRow.holds Try.pinned (OpenSpec.ofChange fnExactFibreOfSpec)

/-- ITS FALSE NEIGHBOUR: 'it returns false'. Refute it at one input. -/
def fnExactFibreOfWrong : ChangeSpec := { name := "fnExactFibreOf", fn := fun _ => fun
  | [d1, d2, d3] => { results := [.lit (.bool false)], args := [d1, d2, d3] }
  | _ => none }
def FnExactFibreOfWrongFalsely : Prop := fnExactFibreOfRow.holds Try.pinned (OpenSpec.ofChange fnExactFibreOfWrong)

/-- 'laws.FnExactFactorMap': WHATEVER THE INPUT: true; the input reads as it did. -/
def fnExactFactorMapSpec : ChangeSpec := { name := "fnExactFactorMap", fn := fun _ => fun
  | [d1, d2] => { results := [.lit (.bool true)], args := [d1, d2] }
  | _ => none }
def fnExactFactorMapRow : OpenClaim := { program := "ytonlkijeogdpmaa", sum := "014f1ae5820b897efe3a4064e08eb1202a21240dd36f5dd330d31438d632a94b", func := "loop.example/g01083/laws.FnExactFactorMap", spec := "fnExactFactorMap", recurses := true, apart := false }
def FnExactFactorMapSaid : Prop := fnExactFactorMapRow.holds Try.pinned (OpenSpec.ofChange fnExactFactorMapSpec)

/-- ITS FALSE NEIGHBOUR: 'it returns false'. Refute it at one input. -/
def fnExactFactorMapWrong : ChangeSpec := { name := "fnExactFactorMap", fn := fun _ => fun
  | [d1, d2] => { results := [.lit (.bool false)], args := [d1, d2] }
  | _ => none }
def FnExactFactorMapWrongFalsely : Prop := fnExactFactorMapRow.holds Try.pinned (OpenSpec.ofChange fnExactFactorMapWrong)

/-- 'laws.FnExactIsPartition': WHATEVER THE INPUT: true; the input reads as it did. -/
def fnExactIsPartitionSpec : ChangeSpec := { name := "fnExactIsPartition", fn := fun _ => fun
  | [d] => { results := [.lit (.bool true)], args := [d] }
  | _ => none }
def fnExactIsPartitionRow : OpenClaim := { program := "ytonlkijeogdpmaa", sum := "014f1ae5820b897efe3a4064e08eb1202a21240dd36f5dd330d31438d632a94b", func := "loop.example/g01083/laws.FnExactIsPartition", spec := "fnExactIsPartition", apart := false }
def FnExactIsPartitionSaid : Prop := fnExactIsPartitionRow.holds Try.pinned (OpenSpec.ofChange fnExactIsPartitionSpec)

/-- ITS FALSE NEIGHBOUR: 'it returns false'. Refute it at one input. -/
def fnExactIsPartitionWrong : ChangeSpec := { name := "fnExactIsPartition", fn := fun _ => fun
  | [d] => { results := [.lit (.bool false)], args := [d] }
  | _ => none }
def FnExactIsPartitionWrongFalsely : Prop := fnExactIsPartitionRow.holds Try.pinned (OpenSpec.ofChange fnExactIsPartitionWrong)

/-- 'laws.FnExactKernelOf': WHATEVER THE INPUT: true; the input reads as it did. -/
def fnExactKernelOfSpec : ChangeSpec := { name := "fnExactKernelOf", fn := fun _ => fun
  | [d1, d2] => { results := [.lit (.bool true)], args := [d1, d2] }
  | _ => none }
def fnExactKernelOfRow : OpenClaim := { program := "ytonlkijeogdpmaa", sum := "014f1ae5820b897efe3a4064e08eb1202a21240dd36f5dd330d31438d632a94b", func := "loop.example/g01083/laws.FnExactKernelOf", spec := "fnExactKernelOf", apart := false }
def FnExactKernelOfSaid : Prop := fnExactKernelOfRow.holds Try.pinned (OpenSpec.ofChange fnExactKernelOfSpec)

/-- ITS FALSE NEIGHBOUR: 'it returns false'. Refute it at one input. -/
def fnExactKernelOfWrong : ChangeSpec := { name := "fnExactKernelOf", fn := fun _ => fun
  | [d1, d2] => { results := [.lit (.bool false)], args := [d1, d2] }
  | _ => none }
def FnExactKernelOfWrongFalsely : Prop := fnExactKernelOfRow.holds Try.pinned (OpenSpec.ofChange fnExactKernelOfWrong)

/- THE SECOND FORM. 'bulk': how many values and letters a reading holds, each counted each time it is reached (what is shared counts as often as it is met; a slice's spare places count too). A statement '..UptoSaid' is the law's where the arguments, and the package variables that the reading takes, are together of bulk at most 1048576: NARROWER than '..Said'. Prove '..Said' where nothing that the law and all that it calls make is longer than what came in: it says more and counts as full. Else prove '..UptoSaid'. A law counts once. -/
mutual
def uptoBulk {H : Type} : DataW H → Nat
  | .lit (.string bytes) => bytes.length + 1
  | .lit _ => 1
  | .nil => 1
  | .ptr d => uptoBulk d + 1
  | .slice elems spare => uptoBulkAll elems + uptoBulkAll spare + 1
  | .agg parts => uptoBulkAll parts + 1
  | .iface _ d => uptoBulk d + 1
  | .map entries => uptoBulkEntries entries + 1
  | .held _ => 1
def uptoBulkAll {H : Type} : List (DataW H) → Nat
  | [] => 0
  | d :: r => uptoBulk d + uptoBulkAll r
def uptoBulkEntries {H : Type} : List (Lit × DataW H) → Nat
  | [] => 0
  | x :: r => uptoBulkEntry x + uptoBulkEntries r
def uptoBulkEntry {H : Type} : Lit × DataW H → Nat
  | (.string bytes, d) => bytes.length + uptoBulk d + 1
  | (_, d) => uptoBulk d + 1
 end
def uptoSmall : (H : Type) → List (DataW H) → Bool := fun _ ds => decide (uptoBulkAll ds ≤ 1048576)
def OpenSpec.upto (s : _root_.Go.ChangeSpec) : _root_.Go.OpenSpec := { _root_.Go.OpenSpec.ofChange s with cond := some uptoSmall }

/-- 'laws.FnFactored', WHERE WHAT IT READS IS OF BULK AT MOST 1048576: true; the input reads as it did. -/
def fnFactoredUptoRow : OpenClaim := { program := "ytonlkijeogdpmaa", sum := "014f1ae5820b897efe3a4064e08eb1202a21240dd36f5dd330d31438d632a94b", func := "loop.example/g01083/laws.FnFactored", spec := "fnFactored", recurses := true, apart := false, narrowed := true }
def FnFactoredUptoSaid : Prop := fnFactoredUptoRow.holds Try.pinned (OpenSpec.upto fnFactoredSpec)

/-- 'laws.FnPartitions', WHERE WHAT IT READS IS OF BULK AT MOST 1048576: true; the input reads as it did. -/
def fnPartitionsUptoRow : OpenClaim := { program := "ytonlkijeogdpmaa", sum := "014f1ae5820b897efe3a4064e08eb1202a21240dd36f5dd330d31438d632a94b", func := "loop.example/g01083/laws.FnPartitions", spec := "fnPartitions", apart := false, narrowed := true }
def FnPartitionsUptoSaid : Prop := fnPartitionsUptoRow.holds Try.pinned (OpenSpec.upto fnPartitionsSpec)

/-- 'laws.FnPullbacksPushouts', WHERE WHAT IT READS IS OF BULK AT MOST 1048576: true; the input reads as it did. -/
def fnPullbacksPushoutsUptoRow : OpenClaim := { program := "ytonlkijeogdpmaa", sum := "014f1ae5820b897efe3a4064e08eb1202a21240dd36f5dd330d31438d632a94b", func := "loop.example/g01083/laws.FnPullbacksPushouts", spec := "fnPullbacksPushouts", apart := false, narrowed := true }
def FnPullbacksPushoutsUptoSaid : Prop := fnPullbacksPushoutsUptoRow.holds Try.pinned (OpenSpec.upto fnPullbacksPushoutsSpec)

/-- 'laws.FnTuples', WHERE WHAT IT READS IS OF BULK AT MOST 1048576: true; the input reads as it did. -/
def fnTuplesUptoRow : OpenClaim := { program := "ytonlkijeogdpmaa", sum := "014f1ae5820b897efe3a4064e08eb1202a21240dd36f5dd330d31438d632a94b", func := "loop.example/g01083/laws.FnTuples", spec := "fnTuples", apart := false, narrowed := true }
def FnTuplesUptoSaid : Prop := fnTuplesUptoRow.holds Try.pinned (OpenSpec.upto fnTuplesSpec)

/-- 'laws.FnEqualizers', WHERE WHAT IT READS IS OF BULK AT MOST 1048576: true; the input reads as it did. -/
def fnEqualizersUptoRow : OpenClaim := { program := "ytonlkijeogdpmaa", sum := "014f1ae5820b897efe3a4064e08eb1202a21240dd36f5dd330d31438d632a94b", func := "loop.example/g01083/laws.FnEqualizers", spec := "fnEqualizers", apart := false, narrowed := true }
def FnEqualizersUptoSaid : Prop := fnEqualizersUptoRow.holds Try.pinned (OpenSpec.upto fnEqualizersSpec)

/-- 'laws.FnExactIsMap', WHERE WHAT IT READS IS OF BULK AT MOST 1048576: true; the input reads as it did. -/
def fnExactIsMapUptoRow : OpenClaim := { program := "ytonlkijeogdpmaa", sum := "014f1ae5820b897efe3a4064e08eb1202a21240dd36f5dd330d31438d632a94b", func := "loop.example/g01083/laws.FnExactIsMap", spec := "fnExactIsMap", apart := false, narrowed := true }
def FnExactIsMapUptoSaid : Prop := fnExactIsMapUptoRow.holds Try.pinned (OpenSpec.upto fnExactIsMapSpec)

/-- 'laws.FnExactThenMaps', WHERE WHAT IT READS IS OF BULK AT MOST 1048576: true; the input reads as it did. -/
def fnExactThenMapsUptoRow : OpenClaim := { program := "ytonlkijeogdpmaa", sum := "014f1ae5820b897efe3a4064e08eb1202a21240dd36f5dd330d31438d632a94b", func := "loop.example/g01083/laws.FnExactThenMaps", spec := "fnExactThenMaps", apart := false, narrowed := true }
def FnExactThenMapsUptoSaid : Prop := fnExactThenMapsUptoRow.holds Try.pinned (OpenSpec.upto fnExactThenMapsSpec)

/-- 'laws.FnExactImageOf', WHERE WHAT IT READS IS OF BULK AT MOST 1048576: true; the input reads as it did. -/
def fnExactImageOfUptoRow : OpenClaim := { program := "ytonlkijeogdpmaa", sum := "014f1ae5820b897efe3a4064e08eb1202a21240dd36f5dd330d31438d632a94b", func := "loop.example/g01083/laws.FnExactImageOf", spec := "fnExactImageOf", recurses := true, apart := false, narrowed := true }
def FnExactImageOfUptoSaid : Prop := fnExactImageOfUptoRow.holds Try.pinned (OpenSpec.upto fnExactImageOfSpec)

/-- 'laws.FnExactFibreOf', WHERE WHAT IT READS IS OF BULK AT MOST 1048576: true; the input reads as it did. -/
def fnExactFibreOfUptoRow : OpenClaim := { program := "ytonlkijeogdpmaa", sum := "014f1ae5820b897efe3a4064e08eb1202a21240dd36f5dd330d31438d632a94b", func := "loop.example/g01083/laws.FnExactFibreOf", spec := "fnExactFibreOf", apart := false, narrowed := true }
def FnExactFibreOfUptoSaid : Prop := fnExactFibreOfUptoRow.holds Try.pinned (OpenSpec.upto fnExactFibreOfSpec)

/-- 'laws.FnExactFactorMap', WHERE WHAT IT READS IS OF BULK AT MOST 1048576: true; the input reads as it did. -/
def fnExactFactorMapUptoRow : OpenClaim := { program := "ytonlkijeogdpmaa", sum := "014f1ae5820b897efe3a4064e08eb1202a21240dd36f5dd330d31438d632a94b", func := "loop.example/g01083/laws.FnExactFactorMap", spec := "fnExactFactorMap", recurses := true, apart := false, narrowed := true }
def FnExactFactorMapUptoSaid : Prop := fnExactFactorMapUptoRow.holds Try.pinned (OpenSpec.upto fnExactFactorMapSpec)

/-- 'laws.FnExactIsPartition', WHERE WHAT IT READS IS OF BULK AT MOST 1048576: true; the input reads as it did. -/
def fnExactIsPartitionUptoRow : OpenClaim := { program := "ytonlkijeogdpmaa", sum := "014f1ae5820b897efe3a4064e08eb1202a21240dd36f5dd330d31438d632a94b", func := "loop.example/g01083/laws.FnExactIsPartition", spec := "fnExactIsPartition", apart := false, narrowed := true }
def FnExactIsPartitionUptoSaid : Prop := fnExactIsPartitionUptoRow.holds Try.pinned (OpenSpec.upto fnExactIsPartitionSpec)

/-- 'laws.FnExactKernelOf', WHERE WHAT IT READS IS OF BULK AT MOST 1048576: true; the input reads as it did. -/
def fnExactKernelOfUptoRow : OpenClaim := { program := "ytonlkijeogdpmaa", sum := "014f1ae5820b897efe3a4064e08eb1202a21240dd36f5dd330d31438d632a94b", func := "loop.example/g01083/laws.FnExactKernelOf", spec := "fnExactKernelOf", apart := false, narrowed := true }
def FnExactKernelOfUptoSaid : Prop := fnExactKernelOfUptoRow.holds Try.pinned (OpenSpec.upto fnExactKernelOfSpec)

end Rows
end Go.Proofs.Ytonlkijeogdpmaa
