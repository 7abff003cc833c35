/-
  No cell of these rows narrows 'for every input' (looked for: loops, veiled, ifaces, maps, wideKeys, modest, calm, conditions, laid).
  DERIVED. THE GIVEN ROWS OF THIS SEAT. 10 by the template 'for every input the law returns true; each argument reads behind the call as it read before'; 0 by the template 'total and deterministic' (their statements: YtfnneogadciimabTotals.lean).
  GIVEN WITH THE SEED: the statements are not yours to turn. If you find one false, say at which input.
  Laid BY PROGRAM, IN A SANDBOX (cutbox-rows.mjs): the forced cells as the released guide's own fill.sh prints them over the translation 0c94a6a3d2e0412f… (all of the seat's roots in one cut). By AI agents, Wed Nov 11 2026. No macro, syntax, notation, axiom, sorry.
-/
import Derived.Test.YtfnneogadciimabChecked
import GoSem.Claim
import GoSem.ClaimJoined
import GoSem.ClaimMapViews
import Derived.JoinedTies
import Derived.KernelRfl
namespace Go.Proofs.Ytfnneogadciimab
/- THE CELL 'sum', in the pinned program and in every row, IS THE sha256 OF THE DUMP (.gsa) THAT YtfnneogadciimabProg.lean LOADS. Nothing in Lean hashes anything: it is a label: what it is worth is what the hold of that sum in a sandbox is worth. -/
noncomputable def Try.pinned : Pinned := { name := "ytfnneogadciimab", sum := "0c94a6a3d2e0412ff25336aff0177f58f06726628478f94b12c02f46580933d7", checked := Try.checked }
namespace Rows
def none {H : Type} : Left H := { results := [], args := [] }

/-- 'laws.FnExactFixFirst': WHATEVER THE INPUT: true; the input reads as it did. -/
def fnExactFixFirstSpec : ChangeSpec := { name := "fnExactFixFirst", fn := fun _ => fun
  | [d1, d2, d3, d4] => { results := [.lit (.bool true)], args := [d1, d2, d3, d4] }
  | _ => none }
def fnExactFixFirstRow : OpenClaim := { program := "ytfnneogadciimab", sum := "0c94a6a3d2e0412ff25336aff0177f58f06726628478f94b12c02f46580933d7", func := "loop.example/g01083/laws.FnExactFixFirst", spec := "fnExactFixFirst", unfollowed := true, recurses := true, plainKeys := false, apart := false }
def FnExactFixFirstSaid : Prop := fnExactFixFirstRow.holds Try.pinned (OpenSpec.ofChange fnExactFixFirstSpec)

/-- ITS FALSE NEIGHBOUR: 'it returns false'. Refute it at one input. -/
def fnExactFixFirstWrong : ChangeSpec := { name := "fnExactFixFirst", fn := fun _ => fun
  | [d1, d2, d3, d4] => { results := [.lit (.bool false)], args := [d1, d2, d3, d4] }
  | _ => none }
def FnExactFixFirstWrongFalsely : Prop := fnExactFixFirstRow.holds Try.pinned (OpenSpec.ofChange fnExactFixFirstWrong)

/-- 'laws.FnExactFixSecond': WHATEVER THE INPUT: true; the input reads as it did. -/
def fnExactFixSecondSpec : ChangeSpec := { name := "fnExactFixSecond", fn := fun _ => fun
  | [d1, d2, d3, d4] => { results := [.lit (.bool true)], args := [d1, d2, d3, d4] }
  | _ => none }
def fnExactFixSecondRow : OpenClaim := { program := "ytfnneogadciimab", sum := "0c94a6a3d2e0412ff25336aff0177f58f06726628478f94b12c02f46580933d7", func := "loop.example/g01083/laws.FnExactFixSecond", spec := "fnExactFixSecond", unfollowed := true, recurses := true, plainKeys := false, apart := false }
def FnExactFixSecondSaid : Prop := fnExactFixSecondRow.holds Try.pinned (OpenSpec.ofChange fnExactFixSecondSpec)

/-- ITS FALSE NEIGHBOUR: 'it returns false'. Refute it at one input. -/
def fnExactFixSecondWrong : ChangeSpec := { name := "fnExactFixSecond", fn := fun _ => fun
  | [d1, d2, d3, d4] => { results := [.lit (.bool false)], args := [d1, d2, d3, d4] }
  | _ => none }
def FnExactFixSecondWrongFalsely : Prop := fnExactFixSecondRow.holds Try.pinned (OpenSpec.ofChange fnExactFixSecondWrong)

/-- 'laws.FnExactThenMaps': WHATEVER THE INPUT: true; the input reads as it did. -/
def fnExactThenMapsSpec : ChangeSpec := { name := "fnExactThenMaps", fn := fun _ => fun
  | [d1, d2, d3, d4] => { results := [.lit (.bool true)], args := [d1, d2, d3, d4] }
  | _ => none }
def fnExactThenMapsRow : OpenClaim := { program := "ytfnneogadciimab", sum := "0c94a6a3d2e0412ff25336aff0177f58f06726628478f94b12c02f46580933d7", func := "loop.example/g01083/laws.FnExactThenMaps", spec := "fnExactThenMaps", plainKeys := false, apart := false }
def FnExactThenMapsSaid : Prop := fnExactThenMapsRow.holds Try.pinned (OpenSpec.ofChange fnExactThenMapsSpec)

/-- ITS FALSE NEIGHBOUR: 'it returns false'. Refute it at one input. -/
def fnExactThenMapsWrong : ChangeSpec := { name := "fnExactThenMaps", fn := fun _ => fun
  | [d1, d2, d3, d4] => { results := [.lit (.bool false)], args := [d1, d2, d3, d4] }
  | _ => none }
def FnExactThenMapsWrongFalsely : Prop := fnExactThenMapsRow.holds Try.pinned (OpenSpec.ofChange fnExactThenMapsWrong)

/-- 'laws.FnExactKernelOf': WHATEVER THE INPUT: true; the input reads as it did. -/
def fnExactKernelOfSpec : ChangeSpec := { name := "fnExactKernelOf", fn := fun _ => fun
  | [d1, d2] => { results := [.lit (.bool true)], args := [d1, d2] }
  | _ => none }
def fnExactKernelOfRow : OpenClaim := { program := "ytfnneogadciimab", sum := "0c94a6a3d2e0412ff25336aff0177f58f06726628478f94b12c02f46580933d7", func := "loop.example/g01083/laws.FnExactKernelOf", spec := "fnExactKernelOf", plainKeys := false, apart := false }
def FnExactKernelOfSaid : Prop := fnExactKernelOfRow.holds Try.pinned (OpenSpec.ofChange fnExactKernelOfSpec)

/-- ITS FALSE NEIGHBOUR: 'it returns false'. Refute it at one input. -/
def fnExactKernelOfWrong : ChangeSpec := { name := "fnExactKernelOf", fn := fun _ => fun
  | [d1, d2] => { results := [.lit (.bool false)], args := [d1, d2] }
  | _ => none }
def FnExactKernelOfWrongFalsely : Prop := fnExactKernelOfRow.holds Try.pinned (OpenSpec.ofChange fnExactKernelOfWrong)

/-- 'laws.FnExactMeetPartitions': WHATEVER THE INPUT: true; the input reads as it did. -/
def fnExactMeetPartitionsSpec : ChangeSpec := { name := "fnExactMeetPartitions", fn := fun _ => fun
  | [d1, d2] => { results := [.lit (.bool true)], args := [d1, d2] }
  | _ => none }
def fnExactMeetPartitionsRow : OpenClaim := { program := "ytfnneogadciimab", sum := "0c94a6a3d2e0412ff25336aff0177f58f06726628478f94b12c02f46580933d7", func := "loop.example/g01083/laws.FnExactMeetPartitions", spec := "fnExactMeetPartitions", plainKeys := false, apart := false }
def FnExactMeetPartitionsSaid : Prop := fnExactMeetPartitionsRow.holds Try.pinned (OpenSpec.ofChange fnExactMeetPartitionsSpec)

/-- ITS FALSE NEIGHBOUR: 'it returns false'. Refute it at one input. -/
def fnExactMeetPartitionsWrong : ChangeSpec := { name := "fnExactMeetPartitions", fn := fun _ => fun
  | [d1, d2] => { results := [.lit (.bool false)], args := [d1, d2] }
  | _ => none }
def FnExactMeetPartitionsWrongFalsely : Prop := fnExactMeetPartitionsRow.holds Try.pinned (OpenSpec.ofChange fnExactMeetPartitionsWrong)

/-- 'laws.FnExactJoinPartitions': WHATEVER THE INPUT: true; the input reads as it did. -/
def fnExactJoinPartitionsSpec : ChangeSpec := { name := "fnExactJoinPartitions", fn := fun _ => fun
  | [d1, d2] => { results := [.lit (.bool true)], args := [d1, d2] }
  | _ => none }
def fnExactJoinPartitionsRow : OpenClaim := { program := "ytfnneogadciimab", sum := "0c94a6a3d2e0412ff25336aff0177f58f06726628478f94b12c02f46580933d7", func := "loop.example/g01083/laws.FnExactJoinPartitions", spec := "fnExactJoinPartitions", plainKeys := false, apart := false }
def FnExactJoinPartitionsSaid : Prop := fnExactJoinPartitionsRow.holds Try.pinned (OpenSpec.ofChange fnExactJoinPartitionsSpec)

/-- ITS FALSE NEIGHBOUR: 'it returns false'. Refute it at one input. -/
def fnExactJoinPartitionsWrong : ChangeSpec := { name := "fnExactJoinPartitions", fn := fun _ => fun
  | [d1, d2] => { results := [.lit (.bool false)], args := [d1, d2] }
  | _ => none }
def FnExactJoinPartitionsWrongFalsely : Prop := fnExactJoinPartitionsRow.holds Try.pinned (OpenSpec.ofChange fnExactJoinPartitionsWrong)

/-- 'laws.FnFactored': WHATEVER THE INPUT: true; the input reads as it did. -/
def fnFactoredSpec : ChangeSpec := { name := "fnFactored", fn := fun _ => fun
  | [d] => { results := [.lit (.bool true)], args := [d] }
  | _ => none }
def fnFactoredRow : OpenClaim := { program := "ytfnneogadciimab", sum := "0c94a6a3d2e0412ff25336aff0177f58f06726628478f94b12c02f46580933d7", func := "loop.example/g01083/laws.FnFactored", spec := "fnFactored", recurses := true, plainKeys := false, apart := false }
def FnFactoredSaid : Prop := fnFactoredRow.holds Try.pinned (OpenSpec.ofChange fnFactoredSpec)

/-- ITS FALSE NEIGHBOUR: 'it returns false'. Refute it at one input. -/
def fnFactoredWrong : ChangeSpec := { name := "fnFactored", fn := fun _ => fun
  | [d] => { results := [.lit (.bool false)], args := [d] }
  | _ => none }
def FnFactoredWrongFalsely : Prop := fnFactoredRow.holds Try.pinned (OpenSpec.ofChange fnFactoredWrong)

/-- 'laws.FnPartitions': WHATEVER THE INPUT: true; the input reads as it did. -/
def fnPartitionsSpec : ChangeSpec := { name := "fnPartitions", fn := fun _ => fun
  | [d] => { results := [.lit (.bool true)], args := [d] }
  | _ => none }
def fnPartitionsRow : OpenClaim := { program := "ytfnneogadciimab", sum := "0c94a6a3d2e0412ff25336aff0177f58f06726628478f94b12c02f46580933d7", func := "loop.example/g01083/laws.FnPartitions", spec := "fnPartitions", plainKeys := false, apart := false }
def FnPartitionsSaid : Prop := fnPartitionsRow.holds Try.pinned (OpenSpec.ofChange fnPartitionsSpec)

/-- ITS FALSE NEIGHBOUR: 'it returns false'. Refute it at one input. -/
def fnPartitionsWrong : ChangeSpec := { name := "fnPartitions", fn := fun _ => fun
  | [d] => { results := [.lit (.bool false)], args := [d] }
  | _ => none }
def FnPartitionsWrongFalsely : Prop := fnPartitionsRow.holds Try.pinned (OpenSpec.ofChange fnPartitionsWrong)

/-- 'laws.FnPullbacksPushouts': WHATEVER THE INPUT: true; the input reads as it did. -/
def fnPullbacksPushoutsSpec : ChangeSpec := { name := "fnPullbacksPushouts", fn := fun _ => fun
  | [d] => { results := [.lit (.bool true)], args := [d] }
  | _ => none }
def fnPullbacksPushoutsRow : OpenClaim := { program := "ytfnneogadciimab", sum := "0c94a6a3d2e0412ff25336aff0177f58f06726628478f94b12c02f46580933d7", func := "loop.example/g01083/laws.FnPullbacksPushouts", spec := "fnPullbacksPushouts", plainKeys := false, apart := false }
def FnPullbacksPushoutsSaid : Prop := fnPullbacksPushoutsRow.holds Try.pinned (OpenSpec.ofChange fnPullbacksPushoutsSpec)

/-- ITS FALSE NEIGHBOUR: 'it returns false'. Refute it at one input. -/
def fnPullbacksPushoutsWrong : ChangeSpec := { name := "fnPullbacksPushouts", fn := fun _ => fun
  | [d] => { results := [.lit (.bool false)], args := [d] }
  | _ => none }
def FnPullbacksPushoutsWrongFalsely : Prop := fnPullbacksPushoutsRow.holds Try.pinned (OpenSpec.ofChange fnPullbacksPushoutsWrong)

/-- 'laws.FnEqualizers': WHATEVER THE INPUT: true; the input reads as it did. -/
def fnEqualizersSpec : ChangeSpec := { name := "fnEqualizers", fn := fun _ => fun
  | [d] => { results := [.lit (.bool true)], args := [d] }
  | _ => none }
def fnEqualizersRow : OpenClaim := { program := "ytfnneogadciimab", sum := "0c94a6a3d2e0412ff25336aff0177f58f06726628478f94b12c02f46580933d7", func := "loop.example/g01083/laws.FnEqualizers", spec := "fnEqualizers", plainKeys := false, apart := false }
def FnEqualizersSaid : Prop := fnEqualizersRow.holds Try.pinned (OpenSpec.ofChange fnEqualizersSpec)

/-- ITS FALSE NEIGHBOUR: 'it returns false'. Refute it at one input. -/
def fnEqualizersWrong : ChangeSpec := { name := "fnEqualizers", fn := fun _ => fun
  | [d] => { results := [.lit (.bool false)], args := [d] }
  | _ => none }
def FnEqualizersWrongFalsely : Prop := fnEqualizersRow.holds Try.pinned (OpenSpec.ofChange fnEqualizersWrong)

/- THE SECOND FORM. 'bulk': how many values and letters a reading holds, each counted each time it is reached (what is shared counts as often as it is met; a slice's spare places count too). A statement '..UptoSaid' is the law's where the arguments, and the package variables that the reading takes, are together of bulk at most 1048576: NARROWER than '..Said'. Prove '..Said' where nothing that the law and all that it calls make is longer than what came in: it says more and counts as full. Else prove '..UptoSaid'. A law counts once. -/
mutual
def uptoBulk {H : Type} : DataW H → Nat
  | .lit (.string bytes) => bytes.length + 1
  | .lit _ => 1
  | .nil => 1
  | .ptr d => uptoBulk d + 1
  | .slice elems spare => uptoBulkAll elems + uptoBulkAll spare + 1
  | .agg parts => uptoBulkAll parts + 1
  | .iface _ d => uptoBulk d + 1
  | .map entries => uptoBulkEntries entries + 1
  | .held _ => 1
def uptoBulkAll {H : Type} : List (DataW H) → Nat
  | [] => 0
  | d :: r => uptoBulk d + uptoBulkAll r
def uptoBulkEntries {H : Type} : List (Lit × DataW H) → Nat
  | [] => 0
  | x :: r => uptoBulkEntry x + uptoBulkEntries r
def uptoBulkEntry {H : Type} : Lit × DataW H → Nat
  | (.string bytes, d) => bytes.length + uptoBulk d + 1
  | (_, d) => uptoBulk d + 1
 end
def uptoSmall : (H : Type) → List (DataW H) → Bool := fun _ ds => decide (uptoBulkAll ds ≤ 1048576)
def OpenSpec.upto (s : _root_.Go.ChangeSpec) : _root_.Go.OpenSpec := { _root_.Go.OpenSpec.ofChange s with cond := some uptoSmall }

/-- 'laws.FnExactFixFirst', WHERE WHAT IT READS IS OF BULK AT MOST 1048576: true; the input reads as it did. -/
def fnExactFixFirstUptoRow : OpenClaim := { program := "ytfnneogadciimab", sum := "0c94a6a3d2e0412ff25336aff0177f58f06726628478f94b12c02f46580933d7", func := "loop.example/g01083/laws.FnExactFixFirst", spec := "fnExactFixFirst", unfollowed := true, recurses := true, plainKeys := false, apart := false, narrowed := true }
def FnExactFixFirstUptoSaid : Prop := fnExactFixFirstUptoRow.holds Try.pinned (OpenSpec.upto fnExactFixFirstSpec)

/-- 'laws.FnExactFixSecond', WHERE WHAT IT READS IS OF BULK AT MOST 1048576: true; the input reads as it did. -/
def fnExactFixSecondUptoRow : OpenClaim := { program := "ytfnneogadciimab", sum := "0c94a6a3d2e0412ff25336aff0177f58f06726628478f94b12c02f46580933d7", func := "loop.example/g01083/laws.FnExactFixSecond", spec := "fnExactFixSecond", unfollowed := true, recurses := true, plainKeys := false, apart := false, narrowed := true }
def FnExactFixSecondUptoSaid : Prop := fnExactFixSecondUptoRow.holds Try.pinned (OpenSpec.upto fnExactFixSecondSpec)

/-- 'laws.FnExactThenMaps', WHERE WHAT IT READS IS OF BULK AT MOST 1048576: true; the input reads as it did. -/
def fnExactThenMapsUptoRow : OpenClaim := { program := "ytfnneogadciimab", sum := "0c94a6a3d2e0412ff25336aff0177f58f06726628478f94b12c02f46580933d7", func := "loop.example/g01083/laws.FnExactThenMaps", spec := "fnExactThenMaps", plainKeys := false, apart := false, narrowed := true }
def FnExactThenMapsUptoSaid : Prop := fnExactThenMapsUptoRow.holds Try.pinned (OpenSpec.upto fnExactThenMapsSpec)

/-- 'laws.FnExactKernelOf', WHERE WHAT IT READS IS OF BULK AT MOST 1048576: true; the input reads as it did. -/
def fnExactKernelOfUptoRow : OpenClaim := { program := "ytfnneogadciimab", sum := "0c94a6a3d2e0412ff25336aff0177f58f06726628478f94b12c02f46580933d7", func := "loop.example/g01083/laws.FnExactKernelOf", spec := "fnExactKernelOf", plainKeys := false, apart := false, narrowed := true }
def FnExactKernelOfUptoSaid : Prop := fnExactKernelOfUptoRow.holds Try.pinned (OpenSpec.upto fnExactKernelOfSpec)

/-- 'laws.FnExactMeetPartitions', WHERE WHAT IT READS IS OF BULK AT MOST 1048576: true; the input reads as it did. -/
def fnExactMeetPartitionsUptoRow : OpenClaim := { program := "ytfnneogadciimab", sum := "0c94a6a3d2e0412ff25336aff0177f58f06726628478f94b12c02f46580933d7", func := "loop.example/g01083/laws.FnExactMeetPartitions", spec := "fnExactMeetPartitions", plainKeys := false, apart := false, narrowed := true }
def FnExactMeetPartitionsUptoSaid : Prop := fnExactMeetPartitionsUptoRow.holds Try.pinned (OpenSpec.upto fnExactMeetPartitionsSpec)

/-- 'laws.FnExactJoinPartitions', WHERE WHAT IT READS IS OF BULK AT MOST 1048576: true; the input reads as it did. -/
def fnExactJoinPartitionsUptoRow : OpenClaim := { program := "ytfnneogadciimab", sum := "0c94a6a3d2e0412ff25336aff0177f58f06726628478f94b12c02f46580933d7", func := "loop.example/g01083/laws.FnExactJoinPartitions", spec := "fnExactJoinPartitions", plainKeys := false, apart := false, narrowed := true }
def FnExactJoinPartitionsUptoSaid : Prop := fnExactJoinPartitionsUptoRow.holds Try.pinned (OpenSpec.upto fnExactJoinPartitionsSpec)

/-- 'laws.FnFactored', WHERE WHAT IT READS IS OF BULK AT MOST 1048576: true; the input reads as it did. -/
def fnFactoredUptoRow : OpenClaim := { program := "ytfnneogadciimab", sum := "0c94a6a3d2e0412ff25336aff0177f58f06726628478f94b12c02f46580933d7", func := "loop.example/g01083/laws.FnFactored", spec := "fnFactored", recurses := true, plainKeys := false, apart := false, narrowed := true }
def FnFactoredUptoSaid : Prop := fnFactoredUptoRow.holds Try.pinned (OpenSpec.upto fnFactoredSpec)

/-- 'laws.FnPartitions', WHERE WHAT IT READS IS OF BULK AT MOST 1048576: true; the input reads as it did. -/
def fnPartitionsUptoRow : OpenClaim := { program := "ytfnneogadciimab", sum := "0c94a6a3d2e0412ff25336aff0177f58f06726628478f94b12c02f46580933d7", func := "loop.example/g01083/laws.FnPartitions", spec := "fnPartitions", plainKeys := false, apart := false, narrowed := true }
def FnPartitionsUptoSaid : Prop := fnPartitionsUptoRow.holds Try.pinned (OpenSpec.upto fnPartitionsSpec)

/-- 'laws.FnPullbacksPushouts', WHERE WHAT IT READS IS OF BULK AT MOST 1048576: true; the input reads as it did. -/
def fnPullbacksPushoutsUptoRow : OpenClaim := { program := "ytfnneogadciimab", sum := "0c94a6a3d2e0412ff25336aff0177f58f06726628478f94b12c02f46580933d7", func := "loop.example/g01083/laws.FnPullbacksPushouts", spec := "fnPullbacksPushouts", plainKeys := false, apart := false, narrowed := true }
def FnPullbacksPushoutsUptoSaid : Prop := fnPullbacksPushoutsUptoRow.holds Try.pinned (OpenSpec.upto fnPullbacksPushoutsSpec)

/-- 'laws.FnEqualizers', WHERE WHAT IT READS IS OF BULK AT MOST 1048576: true; the input reads as it did. -/
def fnEqualizersUptoRow : OpenClaim := { program := "ytfnneogadciimab", sum := "0c94a6a3d2e0412ff25336aff0177f58f06726628478f94b12c02f46580933d7", func := "loop.example/g01083/laws.FnEqualizers", spec := "fnEqualizers", plainKeys := false, apart := false, narrowed := true }
def FnEqualizersUptoSaid : Prop := fnEqualizersUptoRow.holds Try.pinned (OpenSpec.upto fnEqualizersSpec)

end Rows
end Go.Proofs.Ytfnneogadciimab
