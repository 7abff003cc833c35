/-
  No cell of these rows narrows 'for every input' (looked for: loops, veiled, ifaces, maps, wideKeys, modest, calm, conditions, laid).
  DERIVED. THE GIVEN ROWS OF THIS SEAT. 5 by the template 'for every input the law returns true; each argument reads behind the call as it read before'; 0 by the template 'total and deterministic' (their statements: YtgkfampgofjkfaaTotals.lean).
  GIVEN WITH THE SEED: the statements are not yours to turn. If you find one false, say at which input.
  Laid BY PROGRAM, IN A SANDBOX (cutbox-rows.mjs): the forced cells as the released guide's own fill.sh prints them over the translation d263c3524caacfa6… (all of the seat's roots in one cut). By AI agents, Wed Nov 11 2026. No macro, syntax, notation, axiom, sorry.
-/
import Derived.Test.YtgkfampgofjkfaaChecked
import GoSem.Claim
import GoSem.ClaimJoined
import GoSem.ClaimMapViews
import Derived.JoinedTies
import Derived.KernelRfl
namespace Go.Proofs.Ytgkfampgofjkfaa
/- THE CELL 'sum', in the pinned program and in every row, IS THE sha256 OF THE DUMP (.gsa) THAT YtgkfampgofjkfaaProg.lean LOADS. Nothing in Lean hashes anything: it is a label: what it is worth is what the hold of that sum in a sandbox is worth. -/
noncomputable def Try.pinned : Pinned := { name := "ytgkfampgofjkfaa", sum := "d263c3524caacfa600cb5c1f7cf60a126257f12a8ddbf2e0f4e8083d5f2d8153", checked := Try.checked }
namespace Rows
def none {H : Type} : Left H := { results := [], args := [] }

/-- 'laws.FnExactRenumberCategory': WHATEVER THE INPUT: true; the input reads as it did. -/
def fnExactRenumberCategorySpec : ChangeSpec := { name := "fnExactRenumberCategory", fn := fun _ => fun
  | [d1, d2, d3] => { results := [.lit (.bool true)], args := [d1, d2, d3] }
  | _ => none }
def fnExactRenumberCategoryRow : OpenClaim := { program := "ytgkfampgofjkfaa", sum := "d263c3524caacfa600cb5c1f7cf60a126257f12a8ddbf2e0f4e8083d5f2d8153", func := "loop.example/g01083/laws.FnExactRenumberCategory", spec := "fnExactRenumberCategory", plainKeys := false, apart := false }
def FnExactRenumberCategorySaid : Prop := fnExactRenumberCategoryRow.holds Try.pinned (OpenSpec.ofChange fnExactRenumberCategorySpec)

/-- ITS FALSE NEIGHBOUR: 'it returns false'. Refute it at one input. -/
def fnExactRenumberCategoryWrong : ChangeSpec := { name := "fnExactRenumberCategory", fn := fun _ => fun
  | [d1, d2, d3] => { results := [.lit (.bool false)], args := [d1, d2, d3] }
  | _ => none }
def FnExactRenumberCategoryWrongFalsely : Prop := fnExactRenumberCategoryRow.holds Try.pinned (OpenSpec.ofChange fnExactRenumberCategoryWrong)

/-- 'laws.FnExactIsOrdered': WHATEVER THE INPUT: true; the input reads as it did. -/
def fnExactIsOrderedSpec : ChangeSpec := { name := "fnExactIsOrdered", fn := fun _ => fun
  | [d] => { results := [.lit (.bool true)], args := [d] }
  | _ => none }
def fnExactIsOrderedRow : OpenClaim := { program := "ytgkfampgofjkfaa", sum := "d263c3524caacfa600cb5c1f7cf60a126257f12a8ddbf2e0f4e8083d5f2d8153", func := "loop.example/g01083/laws.FnExactIsOrdered", spec := "fnExactIsOrdered", plainKeys := false, apart := false }
def FnExactIsOrderedSaid : Prop := fnExactIsOrderedRow.holds Try.pinned (OpenSpec.ofChange fnExactIsOrderedSpec)

/-- ITS FALSE NEIGHBOUR: 'it returns false'. Refute it at one input. -/
def fnExactIsOrderedWrong : ChangeSpec := { name := "fnExactIsOrdered", fn := fun _ => fun
  | [d] => { results := [.lit (.bool false)], args := [d] }
  | _ => none }
def FnExactIsOrderedWrongFalsely : Prop := fnExactIsOrderedRow.holds Try.pinned (OpenSpec.ofChange fnExactIsOrderedWrong)

/-- 'laws.FnExactCountNumberings': WHATEVER THE INPUT: true; the input reads as it did. -/
def fnExactCountNumberingsSpec : ChangeSpec := { name := "fnExactCountNumberings", fn := fun _ => fun
  | [d] => { results := [.lit (.bool true)], args := [d] }
  | _ => none }
def fnExactCountNumberingsRow : OpenClaim := { program := "ytgkfampgofjkfaa", sum := "d263c3524caacfa600cb5c1f7cf60a126257f12a8ddbf2e0f4e8083d5f2d8153", func := "loop.example/g01083/laws.FnExactCountNumberings", spec := "fnExactCountNumberings", unfollowed := true, recurses := true, plainKeys := false, apart := false }
def FnExactCountNumberingsSaid : Prop := fnExactCountNumberingsRow.holds Try.pinned (OpenSpec.ofChange fnExactCountNumberingsSpec)

/-- ITS FALSE NEIGHBOUR: 'it returns false'. Refute it at one input. -/
def fnExactCountNumberingsWrong : ChangeSpec := { name := "fnExactCountNumberings", fn := fun _ => fun
  | [d] => { results := [.lit (.bool false)], args := [d] }
  | _ => none }
def FnExactCountNumberingsWrongFalsely : Prop := fnExactCountNumberingsRow.holds Try.pinned (OpenSpec.ofChange fnExactCountNumberingsWrong)

/-- 'laws.FnExactMeetPartitions': WHATEVER THE INPUT: true; the input reads as it did. -/
def fnExactMeetPartitionsSpec : ChangeSpec := { name := "fnExactMeetPartitions", fn := fun _ => fun
  | [d1, d2] => { results := [.lit (.bool true)], args := [d1, d2] }
  | _ => none }
def fnExactMeetPartitionsRow : OpenClaim := { program := "ytgkfampgofjkfaa", sum := "d263c3524caacfa600cb5c1f7cf60a126257f12a8ddbf2e0f4e8083d5f2d8153", func := "loop.example/g01083/laws.FnExactMeetPartitions", spec := "fnExactMeetPartitions", plainKeys := false, apart := false }
def FnExactMeetPartitionsSaid : Prop := fnExactMeetPartitionsRow.holds Try.pinned (OpenSpec.ofChange fnExactMeetPartitionsSpec)

/-- ITS FALSE NEIGHBOUR: 'it returns false'. Refute it at one input. -/
def fnExactMeetPartitionsWrong : ChangeSpec := { name := "fnExactMeetPartitions", fn := fun _ => fun
  | [d1, d2] => { results := [.lit (.bool false)], args := [d1, d2] }
  | _ => none }
def FnExactMeetPartitionsWrongFalsely : Prop := fnExactMeetPartitionsRow.holds Try.pinned (OpenSpec.ofChange fnExactMeetPartitionsWrong)

/-- 'laws.FnPartitions': WHATEVER THE INPUT: true; the input reads as it did. -/
def fnPartitionsSpec : ChangeSpec := { name := "fnPartitions", fn := fun _ => fun
  | [d] => { results := [.lit (.bool true)], args := [d] }
  | _ => none }
def fnPartitionsRow : OpenClaim := { program := "ytgkfampgofjkfaa", sum := "d263c3524caacfa600cb5c1f7cf60a126257f12a8ddbf2e0f4e8083d5f2d8153", func := "loop.example/g01083/laws.FnPartitions", spec := "fnPartitions", plainKeys := false, apart := false }
def FnPartitionsSaid : Prop := fnPartitionsRow.holds Try.pinned (OpenSpec.ofChange fnPartitionsSpec)

/-- ITS FALSE NEIGHBOUR: 'it returns false'. Refute it at one input. -/
def fnPartitionsWrong : ChangeSpec := { name := "fnPartitions", fn := fun _ => fun
  | [d] => { results := [.lit (.bool false)], args := [d] }
  | _ => none }
def FnPartitionsWrongFalsely : Prop := fnPartitionsRow.holds Try.pinned (OpenSpec.ofChange fnPartitionsWrong)

/- THE SECOND FORM. 'bulk': how many values and letters a reading holds, each counted each time it is reached (what is shared counts as often as it is met; a slice's spare places count too). A statement '..UptoSaid' is the law's where the arguments, and the package variables that the reading takes, are together of bulk at most 1048576: NARROWER than '..Said'. Prove '..Said' where nothing that the law and all that it calls make is longer than what came in: it says more and counts as full. Else prove '..UptoSaid'. A law counts once. -/
mutual
def uptoBulk {H : Type} : DataW H → Nat
  | .lit (.string bytes) => bytes.length + 1
  | .lit _ => 1
  | .nil => 1
  | .ptr d => uptoBulk d + 1
  | .slice elems spare => uptoBulkAll elems + uptoBulkAll spare + 1
  | .agg parts => uptoBulkAll parts + 1
  | .iface _ d => uptoBulk d + 1
  | .map entries => uptoBulkEntries entries + 1
  | .held _ => 1
def uptoBulkAll {H : Type} : List (DataW H) → Nat
  | [] => 0
  | d :: r => uptoBulk d + uptoBulkAll r
def uptoBulkEntries {H : Type} : List (Lit × DataW H) → Nat
  | [] => 0
  | x :: r => uptoBulkEntry x + uptoBulkEntries r
def uptoBulkEntry {H : Type} : Lit × DataW H → Nat
  | (.string bytes, d) => bytes.length + uptoBulk d + 1
  | (_, d) => uptoBulk d + 1
 end
def uptoSmall : (H : Type) → List (DataW H) → Bool := fun _ ds => decide (uptoBulkAll ds ≤ 1048576)
def OpenSpec.upto (s : _root_.Go.ChangeSpec) : _root_.Go.OpenSpec := { _root_.Go.OpenSpec.ofChange s with cond := some uptoSmall }

/-- 'laws.FnExactRenumberCategory', WHERE WHAT IT READS IS OF BULK AT MOST 1048576: true; the input reads as it did. -/
def fnExactRenumberCategoryUptoRow : OpenClaim := { program := "ytgkfampgofjkfaa", sum := "d263c3524caacfa600cb5c1f7cf60a126257f12a8ddbf2e0f4e8083d5f2d8153", func := "loop.example/g01083/laws.FnExactRenumberCategory", spec := "fnExactRenumberCategory", plainKeys := false, apart := false, narrowed := true }
def FnExactRenumberCategoryUptoSaid : Prop := fnExactRenumberCategoryUptoRow.holds Try.pinned (OpenSpec.upto fnExactRenumberCategorySpec)

/-- 'laws.FnExactIsOrdered', WHERE WHAT IT READS IS OF BULK AT MOST 1048576: true; the input reads as it did. -/
def fnExactIsOrderedUptoRow : OpenClaim := { program := "ytgkfampgofjkfaa", sum := "d263c3524caacfa600cb5c1f7cf60a126257f12a8ddbf2e0f4e8083d5f2d8153", func := "loop.example/g01083/laws.FnExactIsOrdered", spec := "fnExactIsOrdered", plainKeys := false, apart := false, narrowed := true }
def FnExactIsOrderedUptoSaid : Prop := fnExactIsOrderedUptoRow.holds Try.pinned (OpenSpec.upto fnExactIsOrderedSpec)

/-- 'laws.FnExactCountNumberings', WHERE WHAT IT READS IS OF BULK AT MOST 1048576: true; the input reads as it did. -/
def fnExactCountNumberingsUptoRow : OpenClaim := { program := "ytgkfampgofjkfaa", sum := "d263c3524caacfa600cb5c1f7cf60a126257f12a8ddbf2e0f4e8083d5f2d8153", func := "loop.example/g01083/laws.FnExactCountNumberings", spec := "fnExactCountNumberings", unfollowed := true, recurses := true, plainKeys := false, apart := false, narrowed := true }
def FnExactCountNumberingsUptoSaid : Prop := fnExactCountNumberingsUptoRow.holds Try.pinned (OpenSpec.upto fnExactCountNumberingsSpec)

/-- 'laws.FnExactMeetPartitions', WHERE WHAT IT READS IS OF BULK AT MOST 1048576: true; the input reads as it did. -/
def fnExactMeetPartitionsUptoRow : OpenClaim := { program := "ytgkfampgofjkfaa", sum := "d263c3524caacfa600cb5c1f7cf60a126257f12a8ddbf2e0f4e8083d5f2d8153", func := "loop.example/g01083/laws.FnExactMeetPartitions", spec := "fnExactMeetPartitions", plainKeys := false, apart := false, narrowed := true }
def FnExactMeetPartitionsUptoSaid : Prop := fnExactMeetPartitionsUptoRow.holds Try.pinned (OpenSpec.upto fnExactMeetPartitionsSpec)

/-- 'laws.FnPartitions', WHERE WHAT IT READS IS OF BULK AT MOST 1048576: true; the input reads as it did. -/
def fnPartitionsUptoRow : OpenClaim := { program := "ytgkfampgofjkfaa", sum := "d263c3524caacfa600cb5c1f7cf60a126257f12a8ddbf2e0f4e8083d5f2d8153", func := "loop.example/g01083/laws.FnPartitions", spec := "fnPartitions", plainKeys := false, apart := false, narrowed := true }
def FnPartitionsUptoSaid : Prop := fnPartitionsUptoRow.holds Try.pinned (OpenSpec.upto fnPartitionsSpec)

end Rows
end Go.Proofs.Ytgkfampgofjkfaa
