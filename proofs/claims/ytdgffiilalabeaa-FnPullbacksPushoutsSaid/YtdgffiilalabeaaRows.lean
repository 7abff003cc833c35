/-
  No cell of these rows narrows 'for every input' (looked for: loops, veiled, ifaces, maps, wideKeys, modest, calm, conditions, laid).
  DERIVED. THE GIVEN ROWS OF THIS SEAT. 11 by the template 'for every input the law returns true; each argument reads behind the call as it read before'; 0 by the template 'total and deterministic' (their statements: YtdgffiilalabeaaTotals.lean).
  GIVEN WITH THE SEED: the statements are not yours to turn. If you find one false, say at which input.
  Laid BY PROGRAM, IN A SANDBOX (cutbox-rows.mjs): the forced cells as the released guide's own fill.sh prints them over the translation e0883ca47495fd04… (all of the seat's roots in one cut). By AI agents, Wed Nov 11 2026. No macro, syntax, notation, axiom, sorry.
-/
import Derived.Test.YtdgffiilalabeaaChecked
import GoSem.Claim
import GoSem.ClaimJoined
import GoSem.ClaimMapViews
import Derived.JoinedTies
import Derived.KernelRfl
namespace Go.Proofs.Ytdgffiilalabeaa
/- THE CELL 'sum', in the pinned program and in every row, IS THE sha256 OF THE DUMP (.gsa) THAT YtdgffiilalabeaaProg.lean LOADS. Nothing in Lean hashes anything: it is a label: what it is worth is what the hold of that sum in a sandbox is worth. -/
noncomputable def Try.pinned : Pinned := { name := "ytdgffiilalabeaa", sum := "e0883ca47495fd04db76cf383a1609abd314a8d922665fc0e39073e6511a2260", checked := Try.checked }
namespace Rows
def none {H : Type} : Left H := { results := [], args := [] }

/-- 'laws.FnPartitions': WHATEVER THE INPUT: true; the input reads as it did. -/
def fnPartitionsSpec : ChangeSpec := { name := "fnPartitions", fn := fun _ => fun
  | [d] => { results := [.lit (.bool true)], args := [d] }
  | _ => none }
def fnPartitionsRow : OpenClaim := { program := "ytdgffiilalabeaa", sum := "e0883ca47495fd04db76cf383a1609abd314a8d922665fc0e39073e6511a2260", func := "loop.example/g01083/laws.FnPartitions", spec := "fnPartitions", plainKeys := false, apart := false }
def FnPartitionsSaid : Prop := fnPartitionsRow.holds Try.pinned (OpenSpec.ofChange fnPartitionsSpec)

/-- ITS FALSE NEIGHBOUR: 'it returns false'. Refute it at one input. -/
def fnPartitionsWrong : ChangeSpec := { name := "fnPartitions", fn := fun _ => fun
  | [d] => { results := [.lit (.bool false)], args := [d] }
  | _ => none }
def FnPartitionsWrongFalsely : Prop := fnPartitionsRow.holds Try.pinned (OpenSpec.ofChange fnPartitionsWrong)

/-- 'laws.FnPullbacksPushouts': WHATEVER THE INPUT: true; the input reads as it did. -/
def fnPullbacksPushoutsSpec : ChangeSpec := { name := "fnPullbacksPushouts", fn := fun _ => fun
  | [d] => { results := [.lit (.bool true)], args := [d] }
  | _ => none }
def fnPullbacksPushoutsRow : OpenClaim := { program := "ytdgffiilalabeaa", sum := "e0883ca47495fd04db76cf383a1609abd314a8d922665fc0e39073e6511a2260", func := "loop.example/g01083/laws.FnPullbacksPushouts", spec := "fnPullbacksPushouts", plainKeys := false, apart := false }
def FnPullbacksPushoutsSaid : Prop := fnPullbacksPushoutsRow.holds Try.pinned (OpenSpec.ofChange fnPullbacksPushoutsSpec)

/-- ITS FALSE NEIGHBOUR: 'it returns false'. Refute it at one input. -/
def fnPullbacksPushoutsWrong : ChangeSpec := { name := "fnPullbacksPushouts", fn := fun _ => fun
  | [d] => { results := [.lit (.bool false)], args := [d] }
  | _ => none }
def FnPullbacksPushoutsWrongFalsely : Prop := fnPullbacksPushoutsRow.holds Try.pinned (OpenSpec.ofChange fnPullbacksPushoutsWrong)

/-- 'laws.FnTuples': WHATEVER THE INPUT: true; the input reads as it did. -/
def fnTuplesSpec : ChangeSpec := { name := "fnTuples", fn := fun _ => fun
  | [d] => { results := [.lit (.bool true)], args := [d] }
  | _ => none }
def fnTuplesRow : OpenClaim := { program := "ytdgffiilalabeaa", sum := "e0883ca47495fd04db76cf383a1609abd314a8d922665fc0e39073e6511a2260", func := "loop.example/g01083/laws.FnTuples", spec := "fnTuples", plainKeys := false, apart := false }
def FnTuplesSaid : Prop := fnTuplesRow.holds Try.pinned (OpenSpec.ofChange fnTuplesSpec)

/-- ITS FALSE NEIGHBOUR: 'it returns false'. Refute it at one input. -/
def fnTuplesWrong : ChangeSpec := { name := "fnTuples", fn := fun _ => fun
  | [d] => { results := [.lit (.bool false)], args := [d] }
  | _ => none }
def FnTuplesWrongFalsely : Prop := fnTuplesRow.holds Try.pinned (OpenSpec.ofChange fnTuplesWrong)

/-- 'laws.FnEqualizers': WHATEVER THE INPUT: true; the input reads as it did. -/
def fnEqualizersSpec : ChangeSpec := { name := "fnEqualizers", fn := fun _ => fun
  | [d] => { results := [.lit (.bool true)], args := [d] }
  | _ => none }
def fnEqualizersRow : OpenClaim := { program := "ytdgffiilalabeaa", sum := "e0883ca47495fd04db76cf383a1609abd314a8d922665fc0e39073e6511a2260", func := "loop.example/g01083/laws.FnEqualizers", spec := "fnEqualizers", plainKeys := false, apart := false }
def FnEqualizersSaid : Prop := fnEqualizersRow.holds Try.pinned (OpenSpec.ofChange fnEqualizersSpec)

/-- ITS FALSE NEIGHBOUR: 'it returns false'. Refute it at one input. -/
def fnEqualizersWrong : ChangeSpec := { name := "fnEqualizers", fn := fun _ => fun
  | [d] => { results := [.lit (.bool false)], args := [d] }
  | _ => none }
def FnEqualizersWrongFalsely : Prop := fnEqualizersRow.holds Try.pinned (OpenSpec.ofChange fnEqualizersWrong)

/-- 'laws.FnCategoryFaults': WHATEVER THE INPUT: true; the input reads as it did. -/
def fnCategoryFaultsSpec : ChangeSpec := { name := "fnCategoryFaults", fn := fun _ => fun
  | [d] => { results := [.lit (.bool true)], args := [d] }
  | _ => none }
def fnCategoryFaultsRow : OpenClaim := { program := "ytdgffiilalabeaa", sum := "e0883ca47495fd04db76cf383a1609abd314a8d922665fc0e39073e6511a2260", func := "loop.example/g01083/laws.FnCategoryFaults", spec := "fnCategoryFaults", plainKeys := false, apart := false }
def FnCategoryFaultsSaid : Prop := fnCategoryFaultsRow.holds Try.pinned (OpenSpec.ofChange fnCategoryFaultsSpec)

/-- ITS FALSE NEIGHBOUR: 'it returns false'. Refute it at one input. -/
def fnCategoryFaultsWrong : ChangeSpec := { name := "fnCategoryFaults", fn := fun _ => fun
  | [d] => { results := [.lit (.bool false)], args := [d] }
  | _ => none }
def FnCategoryFaultsWrongFalsely : Prop := fnCategoryFaultsRow.holds Try.pinned (OpenSpec.ofChange fnCategoryFaultsWrong)

/-- 'laws.FnExactIsSubcategory': WHATEVER THE INPUT: true; the input reads as it did. -/
def fnExactIsSubcategorySpec : ChangeSpec := { name := "fnExactIsSubcategory", fn := fun _ => fun
  | [d1, d2] => { results := [.lit (.bool true)], args := [d1, d2] }
  | _ => none }
def fnExactIsSubcategoryRow : OpenClaim := { program := "ytdgffiilalabeaa", sum := "e0883ca47495fd04db76cf383a1609abd314a8d922665fc0e39073e6511a2260", func := "loop.example/g01083/laws.FnExactIsSubcategory", spec := "fnExactIsSubcategory", unfollowed := true, recurses := true, plainKeys := false, apart := false }
def FnExactIsSubcategorySaid : Prop := fnExactIsSubcategoryRow.holds Try.pinned (OpenSpec.ofChange fnExactIsSubcategorySpec)

/-- ITS FALSE NEIGHBOUR: 'it returns false'. Refute it at one input. -/
def fnExactIsSubcategoryWrong : ChangeSpec := { name := "fnExactIsSubcategory", fn := fun _ => fun
  | [d1, d2] => { results := [.lit (.bool false)], args := [d1, d2] }
  | _ => none }
def FnExactIsSubcategoryWrongFalsely : Prop := fnExactIsSubcategoryRow.holds Try.pinned (OpenSpec.ofChange fnExactIsSubcategoryWrong)

/-- 'laws.FnExactGeneratedArrows': WHATEVER THE INPUT: true; the input reads as it did. -/
def fnExactGeneratedArrowsSpec : ChangeSpec := { name := "fnExactGeneratedArrows", fn := fun _ => fun
  | [d1, d2] => { results := [.lit (.bool true)], args := [d1, d2] }
  | _ => none }
def fnExactGeneratedArrowsRow : OpenClaim := { program := "ytdgffiilalabeaa", sum := "e0883ca47495fd04db76cf383a1609abd314a8d922665fc0e39073e6511a2260", func := "loop.example/g01083/laws.FnExactGeneratedArrows", spec := "fnExactGeneratedArrows", unfollowed := true, recurses := true, plainKeys := false, apart := false }
def FnExactGeneratedArrowsSaid : Prop := fnExactGeneratedArrowsRow.holds Try.pinned (OpenSpec.ofChange fnExactGeneratedArrowsSpec)

/-- ITS FALSE NEIGHBOUR: 'it returns false'. Refute it at one input. -/
def fnExactGeneratedArrowsWrong : ChangeSpec := { name := "fnExactGeneratedArrows", fn := fun _ => fun
  | [d1, d2] => { results := [.lit (.bool false)], args := [d1, d2] }
  | _ => none }
def FnExactGeneratedArrowsWrongFalsely : Prop := fnExactGeneratedArrowsRow.holds Try.pinned (OpenSpec.ofChange fnExactGeneratedArrowsWrong)

/-- 'laws.FnExactSubcategoryOf': WHATEVER THE INPUT: true; the input reads as it did. -/
def fnExactSubcategoryOfSpec : ChangeSpec := { name := "fnExactSubcategoryOf", fn := fun _ => fun
  | [d1, d2] => { results := [.lit (.bool true)], args := [d1, d2] }
  | _ => none }
def fnExactSubcategoryOfRow : OpenClaim := { program := "ytdgffiilalabeaa", sum := "e0883ca47495fd04db76cf383a1609abd314a8d922665fc0e39073e6511a2260", func := "loop.example/g01083/laws.FnExactSubcategoryOf", spec := "fnExactSubcategoryOf", unfollowed := true, recurses := true, plainKeys := false, apart := false }
def FnExactSubcategoryOfSaid : Prop := fnExactSubcategoryOfRow.holds Try.pinned (OpenSpec.ofChange fnExactSubcategoryOfSpec)

/-- ITS FALSE NEIGHBOUR: 'it returns false'. Refute it at one input. -/
def fnExactSubcategoryOfWrong : ChangeSpec := { name := "fnExactSubcategoryOf", fn := fun _ => fun
  | [d1, d2] => { results := [.lit (.bool false)], args := [d1, d2] }
  | _ => none }
def FnExactSubcategoryOfWrongFalsely : Prop := fnExactSubcategoryOfRow.holds Try.pinned (OpenSpec.ofChange fnExactSubcategoryOfWrong)

/-- 'laws.FnExactFullSubcategory': WHATEVER THE INPUT: true; the input reads as it did. -/
def fnExactFullSubcategorySpec : ChangeSpec := { name := "fnExactFullSubcategory", fn := fun _ => fun
  | [d1, d2] => { results := [.lit (.bool true)], args := [d1, d2] }
  | _ => none }
def fnExactFullSubcategoryRow : OpenClaim := { program := "ytdgffiilalabeaa", sum := "e0883ca47495fd04db76cf383a1609abd314a8d922665fc0e39073e6511a2260", func := "loop.example/g01083/laws.FnExactFullSubcategory", spec := "fnExactFullSubcategory", plainKeys := false, apart := false }
def FnExactFullSubcategorySaid : Prop := fnExactFullSubcategoryRow.holds Try.pinned (OpenSpec.ofChange fnExactFullSubcategorySpec)

/-- ITS FALSE NEIGHBOUR: 'it returns false'. Refute it at one input. -/
def fnExactFullSubcategoryWrong : ChangeSpec := { name := "fnExactFullSubcategory", fn := fun _ => fun
  | [d1, d2] => { results := [.lit (.bool false)], args := [d1, d2] }
  | _ => none }
def FnExactFullSubcategoryWrongFalsely : Prop := fnExactFullSubcategoryRow.holds Try.pinned (OpenSpec.ofChange fnExactFullSubcategoryWrong)

/-- 'laws.FnExactPreorderCategory': WHATEVER THE INPUT: true; the input reads as it did. -/
def fnExactPreorderCategorySpec : ChangeSpec := { name := "fnExactPreorderCategory", fn := fun _ => fun
  | [d] => { results := [.lit (.bool true)], args := [d] }
  | _ => none }
def fnExactPreorderCategoryRow : OpenClaim := { program := "ytdgffiilalabeaa", sum := "e0883ca47495fd04db76cf383a1609abd314a8d922665fc0e39073e6511a2260", func := "loop.example/g01083/laws.FnExactPreorderCategory", spec := "fnExactPreorderCategory", unfollowed := true, recurses := true, plainKeys := false, apart := false }
def FnExactPreorderCategorySaid : Prop := fnExactPreorderCategoryRow.holds Try.pinned (OpenSpec.ofChange fnExactPreorderCategorySpec)

/-- ITS FALSE NEIGHBOUR: 'it returns false'. Refute it at one input. -/
def fnExactPreorderCategoryWrong : ChangeSpec := { name := "fnExactPreorderCategory", fn := fun _ => fun
  | [d] => { results := [.lit (.bool false)], args := [d] }
  | _ => none }
def FnExactPreorderCategoryWrongFalsely : Prop := fnExactPreorderCategoryRow.holds Try.pinned (OpenSpec.ofChange fnExactPreorderCategoryWrong)

/-- 'laws.FnExactChainCategory': WHATEVER THE INPUT: true; the input reads as it did. -/
def fnExactChainCategorySpec : ChangeSpec := { name := "fnExactChainCategory", fn := fun _ => fun
  | [d] => { results := [.lit (.bool true)], args := [d] }
  | _ => none }
def fnExactChainCategoryRow : OpenClaim := { program := "ytdgffiilalabeaa", sum := "e0883ca47495fd04db76cf383a1609abd314a8d922665fc0e39073e6511a2260", func := "loop.example/g01083/laws.FnExactChainCategory", spec := "fnExactChainCategory", unfollowed := true, recurses := true, plainKeys := false, apart := false }
def FnExactChainCategorySaid : Prop := fnExactChainCategoryRow.holds Try.pinned (OpenSpec.ofChange fnExactChainCategorySpec)

/-- ITS FALSE NEIGHBOUR: 'it returns false'. Refute it at one input. -/
def fnExactChainCategoryWrong : ChangeSpec := { name := "fnExactChainCategory", fn := fun _ => fun
  | [d] => { results := [.lit (.bool false)], args := [d] }
  | _ => none }
def FnExactChainCategoryWrongFalsely : Prop := fnExactChainCategoryRow.holds Try.pinned (OpenSpec.ofChange fnExactChainCategoryWrong)

/- THE SECOND FORM. 'bulk': how many values and letters a reading holds, each counted each time it is reached (what is shared counts as often as it is met; a slice's spare places count too). A statement '..UptoSaid' is the law's where the arguments, and the package variables that the reading takes, are together of bulk at most 1048576: NARROWER than '..Said'. Prove '..Said' where nothing that the law and all that it calls make is longer than what came in: it says more and counts as full. Else prove '..UptoSaid'. A law counts once. -/
mutual
def uptoBulk {H : Type} : DataW H → Nat
  | .lit (.string bytes) => bytes.length + 1
  | .lit _ => 1
  | .nil => 1
  | .ptr d => uptoBulk d + 1
  | .slice elems spare => uptoBulkAll elems + uptoBulkAll spare + 1
  | .agg parts => uptoBulkAll parts + 1
  | .iface _ d => uptoBulk d + 1
  | .map entries => uptoBulkEntries entries + 1
  | .held _ => 1
def uptoBulkAll {H : Type} : List (DataW H) → Nat
  | [] => 0
  | d :: r => uptoBulk d + uptoBulkAll r
def uptoBulkEntries {H : Type} : List (Lit × DataW H) → Nat
  | [] => 0
  | x :: r => uptoBulkEntry x + uptoBulkEntries r
def uptoBulkEntry {H : Type} : Lit × DataW H → Nat
  | (.string bytes, d) => bytes.length + uptoBulk d + 1
  | (_, d) => uptoBulk d + 1
 end
def uptoSmall : (H : Type) → List (DataW H) → Bool := fun _ ds => decide (uptoBulkAll ds ≤ 1048576)
def OpenSpec.upto (s : _root_.Go.ChangeSpec) : _root_.Go.OpenSpec := { _root_.Go.OpenSpec.ofChange s with cond := some uptoSmall }

/-- 'laws.FnPartitions', WHERE WHAT IT READS IS OF BULK AT MOST 1048576: true; the input reads as it did. -/
def fnPartitionsUptoRow : OpenClaim := { program := "ytdgffiilalabeaa", sum := "e0883ca47495fd04db76cf383a1609abd314a8d922665fc0e39073e6511a2260", func := "loop.example/g01083/laws.FnPartitions", spec := "fnPartitions", plainKeys := false, apart := false, narrowed := true }
def FnPartitionsUptoSaid : Prop := fnPartitionsUptoRow.holds Try.pinned (OpenSpec.upto fnPartitionsSpec)

/-- 'laws.FnPullbacksPushouts', WHERE WHAT IT READS IS OF BULK AT MOST 1048576: true; the input reads as it did. -/
def fnPullbacksPushoutsUptoRow : OpenClaim := { program := "ytdgffiilalabeaa", sum := "e0883ca47495fd04db76cf383a1609abd314a8d922665fc0e39073e6511a2260", func := "loop.example/g01083/laws.FnPullbacksPushouts", spec := "fnPullbacksPushouts", plainKeys := false, apart := false, narrowed := true }
def FnPullbacksPushoutsUptoSaid : Prop := fnPullbacksPushoutsUptoRow.holds Try.pinned (OpenSpec.upto fnPullbacksPushoutsSpec)

/-- 'laws.FnTuples', WHERE WHAT IT READS IS OF BULK AT MOST 1048576: true; the input reads as it did. -/
def fnTuplesUptoRow : OpenClaim := { program := "ytdgffiilalabeaa", sum := "e0883ca47495fd04db76cf383a1609abd314a8d922665fc0e39073e6511a2260", func := "loop.example/g01083/laws.FnTuples", spec := "fnTuples", plainKeys := false, apart := false, narrowed := true }
def FnTuplesUptoSaid : Prop := fnTuplesUptoRow.holds Try.pinned (OpenSpec.upto fnTuplesSpec)

/-- 'laws.FnEqualizers', WHERE WHAT IT READS IS OF BULK AT MOST 1048576: true; the input reads as it did. -/
def fnEqualizersUptoRow : OpenClaim := { program := "ytdgffiilalabeaa", sum := "e0883ca47495fd04db76cf383a1609abd314a8d922665fc0e39073e6511a2260", func := "loop.example/g01083/laws.FnEqualizers", spec := "fnEqualizers", plainKeys := false, apart := false, narrowed := true }
def FnEqualizersUptoSaid : Prop := fnEqualizersUptoRow.holds Try.pinned (OpenSpec.upto fnEqualizersSpec)

/-- 'laws.FnCategoryFaults', WHERE WHAT IT READS IS OF BULK AT MOST 1048576: true; the input reads as it did. -/
def fnCategoryFaultsUptoRow : OpenClaim := { program := "ytdgffiilalabeaa", sum := "e0883ca47495fd04db76cf383a1609abd314a8d922665fc0e39073e6511a2260", func := "loop.example/g01083/laws.FnCategoryFaults", spec := "fnCategoryFaults", plainKeys := false, apart := false, narrowed := true }
def FnCategoryFaultsUptoSaid : Prop := fnCategoryFaultsUptoRow.holds Try.pinned (OpenSpec.upto fnCategoryFaultsSpec)

/-- 'laws.FnExactIsSubcategory', WHERE WHAT IT READS IS OF BULK AT MOST 1048576: true; the input reads as it did. -/
def fnExactIsSubcategoryUptoRow : OpenClaim := { program := "ytdgffiilalabeaa", sum := "e0883ca47495fd04db76cf383a1609abd314a8d922665fc0e39073e6511a2260", func := "loop.example/g01083/laws.FnExactIsSubcategory", spec := "fnExactIsSubcategory", unfollowed := true, recurses := true, plainKeys := false, apart := false, narrowed := true }
def FnExactIsSubcategoryUptoSaid : Prop := fnExactIsSubcategoryUptoRow.holds Try.pinned (OpenSpec.upto fnExactIsSubcategorySpec)

/-- 'laws.FnExactGeneratedArrows', WHERE WHAT IT READS IS OF BULK AT MOST 1048576: true; the input reads as it did. -/
def fnExactGeneratedArrowsUptoRow : OpenClaim := { program := "ytdgffiilalabeaa", sum := "e0883ca47495fd04db76cf383a1609abd314a8d922665fc0e39073e6511a2260", func := "loop.example/g01083/laws.FnExactGeneratedArrows", spec := "fnExactGeneratedArrows", unfollowed := true, recurses := true, plainKeys := false, apart := false, narrowed := true }
def FnExactGeneratedArrowsUptoSaid : Prop := fnExactGeneratedArrowsUptoRow.holds Try.pinned (OpenSpec.upto fnExactGeneratedArrowsSpec)

/-- 'laws.FnExactSubcategoryOf', WHERE WHAT IT READS IS OF BULK AT MOST 1048576: true; the input reads as it did. -/
def fnExactSubcategoryOfUptoRow : OpenClaim := { program := "ytdgffiilalabeaa", sum := "e0883ca47495fd04db76cf383a1609abd314a8d922665fc0e39073e6511a2260", func := "loop.example/g01083/laws.FnExactSubcategoryOf", spec := "fnExactSubcategoryOf", unfollowed := true, recurses := true, plainKeys := false, apart := false, narrowed := true }
def FnExactSubcategoryOfUptoSaid : Prop := fnExactSubcategoryOfUptoRow.holds Try.pinned (OpenSpec.upto fnExactSubcategoryOfSpec)

/-- 'laws.FnExactFullSubcategory', WHERE WHAT IT READS IS OF BULK AT MOST 1048576: true; the input reads as it did. -/
def fnExactFullSubcategoryUptoRow : OpenClaim := { program := "ytdgffiilalabeaa", sum := "e0883ca47495fd04db76cf383a1609abd314a8d922665fc0e39073e6511a2260", func := "loop.example/g01083/laws.FnExactFullSubcategory", spec := "fnExactFullSubcategory", plainKeys := false, apart := false, narrowed := true }
def FnExactFullSubcategoryUptoSaid : Prop := fnExactFullSubcategoryUptoRow.holds Try.pinned (OpenSpec.upto fnExactFullSubcategorySpec)

/-- 'laws.FnExactPreorderCategory', WHERE WHAT IT READS IS OF BULK AT MOST 1048576: true; the input reads as it did. -/
def fnExactPreorderCategoryUptoRow : OpenClaim := { program := "ytdgffiilalabeaa", sum := "e0883ca47495fd04db76cf383a1609abd314a8d922665fc0e39073e6511a2260", func := "loop.example/g01083/laws.FnExactPreorderCategory", spec := "fnExactPreorderCategory", unfollowed := true, recurses := true, plainKeys := false, apart := false, narrowed := true }
def FnExactPreorderCategoryUptoSaid : Prop := fnExactPreorderCategoryUptoRow.holds Try.pinned (OpenSpec.upto fnExactPreorderCategorySpec)

/-- 'laws.FnExactChainCategory', WHERE WHAT IT READS IS OF BULK AT MOST 1048576: true; the input reads as it did. -/
def fnExactChainCategoryUptoRow : OpenClaim := { program := "ytdgffiilalabeaa", sum := "e0883ca47495fd04db76cf383a1609abd314a8d922665fc0e39073e6511a2260", func := "loop.example/g01083/laws.FnExactChainCategory", spec := "fnExactChainCategory", unfollowed := true, recurses := true, plainKeys := false, apart := false, narrowed := true }
def FnExactChainCategoryUptoSaid : Prop := fnExactChainCategoryUptoRow.holds Try.pinned (OpenSpec.upto fnExactChainCategorySpec)

end Rows
end Go.Proofs.Ytdgffiilalabeaa
