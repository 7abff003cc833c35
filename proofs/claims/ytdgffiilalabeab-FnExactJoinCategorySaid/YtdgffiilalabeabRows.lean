/-
  No cell of these rows narrows 'for every input' (looked for: loops, veiled, ifaces, maps, wideKeys, modest, calm, conditions, laid).
  DERIVED. THE GIVEN ROWS OF THIS SEAT. 10 by the template 'for every input the law returns true; each argument reads behind the call as it read before'; 0 by the template 'total and deterministic' (their statements: YtdgffiilalabeabTotals.lean).
  GIVEN WITH THE SEED: the statements are not yours to turn. If you find one false, say at which input.
  Laid BY PROGRAM, IN A SANDBOX (cutbox-rows.mjs): the forced cells as the released guide's own fill.sh prints them over the translation ae66f8449c17567f… (all of the seat's roots in one cut). By AI agents, Wed Nov 11 2026. No macro, syntax, notation, axiom, sorry.
-/
import Derived.Test.YtdgffiilalabeabChecked
import GoSem.Claim
import GoSem.ClaimJoined
import GoSem.ClaimMapViews
import Derived.JoinedTies
import Derived.KernelRfl
namespace Go.Proofs.Ytdgffiilalabeab
/- THE CELL 'sum', in the pinned program and in every row, IS THE sha256 OF THE DUMP (.gsa) THAT YtdgffiilalabeabProg.lean LOADS. Nothing in Lean hashes anything: it is a label: what it is worth is what the hold of that sum in a sandbox is worth. -/
noncomputable def Try.pinned : Pinned := { name := "ytdgffiilalabeab", sum := "ae66f8449c17567fec90e8faebbb590e67653accecf1db2ede46731e995939c2", checked := Try.checked }
namespace Rows
def none {H : Type} : Left H := { results := [], args := [] }

/-- 'laws.FnExactMonoidCategory': WHATEVER THE INPUT: true; the input reads as it did. -/
def fnExactMonoidCategorySpec : ChangeSpec := { name := "fnExactMonoidCategory", fn := fun _ => fun
  | [d] => { results := [.lit (.bool true)], args := [d] }
  | _ => none }
def fnExactMonoidCategoryRow : OpenClaim := { program := "ytdgffiilalabeab", sum := "ae66f8449c17567fec90e8faebbb590e67653accecf1db2ede46731e995939c2", func := "loop.example/g01083/laws.FnExactMonoidCategory", spec := "fnExactMonoidCategory", unfollowed := true, recurses := true, plainKeys := false, apart := false }
def FnExactMonoidCategorySaid : Prop := fnExactMonoidCategoryRow.holds Try.pinned (OpenSpec.ofChange fnExactMonoidCategorySpec)

/-- ITS FALSE NEIGHBOUR: 'it returns false'. Refute it at one input. -/
def fnExactMonoidCategoryWrong : ChangeSpec := { name := "fnExactMonoidCategory", fn := fun _ => fun
  | [d] => { results := [.lit (.bool false)], args := [d] }
  | _ => none }
def FnExactMonoidCategoryWrongFalsely : Prop := fnExactMonoidCategoryRow.holds Try.pinned (OpenSpec.ofChange fnExactMonoidCategoryWrong)

/-- 'laws.FnExactPathCategory': WHATEVER THE INPUT: true; the input reads as it did. -/
def fnExactPathCategorySpec : ChangeSpec := { name := "fnExactPathCategory", fn := fun _ => fun
  | [d1, d2, d3] => { results := [.lit (.bool true)], args := [d1, d2, d3] }
  | _ => none }
def fnExactPathCategoryRow : OpenClaim := { program := "ytdgffiilalabeab", sum := "ae66f8449c17567fec90e8faebbb590e67653accecf1db2ede46731e995939c2", func := "loop.example/g01083/laws.FnExactPathCategory", spec := "fnExactPathCategory", unfollowed := true, recurses := true, plainKeys := false, apart := false }
def FnExactPathCategorySaid : Prop := fnExactPathCategoryRow.holds Try.pinned (OpenSpec.ofChange fnExactPathCategorySpec)

/-- ITS FALSE NEIGHBOUR: 'it returns false'. Refute it at one input. -/
def fnExactPathCategoryWrong : ChangeSpec := { name := "fnExactPathCategory", fn := fun _ => fun
  | [d1, d2, d3] => { results := [.lit (.bool false)], args := [d1, d2, d3] }
  | _ => none }
def FnExactPathCategoryWrongFalsely : Prop := fnExactPathCategoryRow.holds Try.pinned (OpenSpec.ofChange fnExactPathCategoryWrong)

/-- 'laws.FnExactOppositeCategory': WHATEVER THE INPUT: true; the input reads as it did. -/
def fnExactOppositeCategorySpec : ChangeSpec := { name := "fnExactOppositeCategory", fn := fun _ => fun
  | [d] => { results := [.lit (.bool true)], args := [d] }
  | _ => none }
def fnExactOppositeCategoryRow : OpenClaim := { program := "ytdgffiilalabeab", sum := "ae66f8449c17567fec90e8faebbb590e67653accecf1db2ede46731e995939c2", func := "loop.example/g01083/laws.FnExactOppositeCategory", spec := "fnExactOppositeCategory", unfollowed := true, recurses := true, plainKeys := false, apart := false }
def FnExactOppositeCategorySaid : Prop := fnExactOppositeCategoryRow.holds Try.pinned (OpenSpec.ofChange fnExactOppositeCategorySpec)

/-- ITS FALSE NEIGHBOUR: 'it returns false'. Refute it at one input. -/
def fnExactOppositeCategoryWrong : ChangeSpec := { name := "fnExactOppositeCategory", fn := fun _ => fun
  | [d] => { results := [.lit (.bool false)], args := [d] }
  | _ => none }
def FnExactOppositeCategoryWrongFalsely : Prop := fnExactOppositeCategoryRow.holds Try.pinned (OpenSpec.ofChange fnExactOppositeCategoryWrong)

/-- 'laws.FnExactProductCategory': WHATEVER THE INPUT: true; the input reads as it did. -/
def fnExactProductCategorySpec : ChangeSpec := { name := "fnExactProductCategory", fn := fun _ => fun
  | [d1, d2] => { results := [.lit (.bool true)], args := [d1, d2] }
  | _ => none }
def fnExactProductCategoryRow : OpenClaim := { program := "ytdgffiilalabeab", sum := "ae66f8449c17567fec90e8faebbb590e67653accecf1db2ede46731e995939c2", func := "loop.example/g01083/laws.FnExactProductCategory", spec := "fnExactProductCategory", unfollowed := true, recurses := true, plainKeys := false, apart := false }
def FnExactProductCategorySaid : Prop := fnExactProductCategoryRow.holds Try.pinned (OpenSpec.ofChange fnExactProductCategorySpec)

/-- ITS FALSE NEIGHBOUR: 'it returns false'. Refute it at one input. -/
def fnExactProductCategoryWrong : ChangeSpec := { name := "fnExactProductCategory", fn := fun _ => fun
  | [d1, d2] => { results := [.lit (.bool false)], args := [d1, d2] }
  | _ => none }
def FnExactProductCategoryWrongFalsely : Prop := fnExactProductCategoryRow.holds Try.pinned (OpenSpec.ofChange fnExactProductCategoryWrong)

/-- 'laws.FnExactSumCategory': WHATEVER THE INPUT: true; the input reads as it did. -/
def fnExactSumCategorySpec : ChangeSpec := { name := "fnExactSumCategory", fn := fun _ => fun
  | [d1, d2] => { results := [.lit (.bool true)], args := [d1, d2] }
  | _ => none }
def fnExactSumCategoryRow : OpenClaim := { program := "ytdgffiilalabeab", sum := "ae66f8449c17567fec90e8faebbb590e67653accecf1db2ede46731e995939c2", func := "loop.example/g01083/laws.FnExactSumCategory", spec := "fnExactSumCategory", unfollowed := true, recurses := true, plainKeys := false, apart := false }
def FnExactSumCategorySaid : Prop := fnExactSumCategoryRow.holds Try.pinned (OpenSpec.ofChange fnExactSumCategorySpec)

/-- ITS FALSE NEIGHBOUR: 'it returns false'. Refute it at one input. -/
def fnExactSumCategoryWrong : ChangeSpec := { name := "fnExactSumCategory", fn := fun _ => fun
  | [d1, d2] => { results := [.lit (.bool false)], args := [d1, d2] }
  | _ => none }
def FnExactSumCategoryWrongFalsely : Prop := fnExactSumCategoryRow.holds Try.pinned (OpenSpec.ofChange fnExactSumCategoryWrong)

/-- 'laws.FnExactJoinCategory': WHATEVER THE INPUT: true; the input reads as it did. -/
def fnExactJoinCategorySpec : ChangeSpec := { name := "fnExactJoinCategory", fn := fun _ => fun
  | [d1, d2] => { results := [.lit (.bool true)], args := [d1, d2] }
  | _ => none }
def fnExactJoinCategoryRow : OpenClaim := { program := "ytdgffiilalabeab", sum := "ae66f8449c17567fec90e8faebbb590e67653accecf1db2ede46731e995939c2", func := "loop.example/g01083/laws.FnExactJoinCategory", spec := "fnExactJoinCategory", unfollowed := true, recurses := true, plainKeys := false, apart := false }
def FnExactJoinCategorySaid : Prop := fnExactJoinCategoryRow.holds Try.pinned (OpenSpec.ofChange fnExactJoinCategorySpec)

/-- ITS FALSE NEIGHBOUR: 'it returns false'. Refute it at one input. -/
def fnExactJoinCategoryWrong : ChangeSpec := { name := "fnExactJoinCategory", fn := fun _ => fun
  | [d1, d2] => { results := [.lit (.bool false)], args := [d1, d2] }
  | _ => none }
def FnExactJoinCategoryWrongFalsely : Prop := fnExactJoinCategoryRow.holds Try.pinned (OpenSpec.ofChange fnExactJoinCategoryWrong)

/-- 'laws.FnExactTwistedCategory': WHATEVER THE INPUT: true; the input reads as it did. -/
def fnExactTwistedCategorySpec : ChangeSpec := { name := "fnExactTwistedCategory", fn := fun _ => fun
  | [d] => { results := [.lit (.bool true)], args := [d] }
  | _ => none }
def fnExactTwistedCategoryRow : OpenClaim := { program := "ytdgffiilalabeab", sum := "ae66f8449c17567fec90e8faebbb590e67653accecf1db2ede46731e995939c2", func := "loop.example/g01083/laws.FnExactTwistedCategory", spec := "fnExactTwistedCategory", unfollowed := true, recurses := true, plainKeys := false, apart := false }
def FnExactTwistedCategorySaid : Prop := fnExactTwistedCategoryRow.holds Try.pinned (OpenSpec.ofChange fnExactTwistedCategorySpec)

/-- ITS FALSE NEIGHBOUR: 'it returns false'. Refute it at one input. -/
def fnExactTwistedCategoryWrong : ChangeSpec := { name := "fnExactTwistedCategory", fn := fun _ => fun
  | [d] => { results := [.lit (.bool false)], args := [d] }
  | _ => none }
def FnExactTwistedCategoryWrongFalsely : Prop := fnExactTwistedCategoryRow.holds Try.pinned (OpenSpec.ofChange fnExactTwistedCategoryWrong)

/-- 'laws.FnExactIsCongruence': WHATEVER THE INPUT: true; the input reads as it did. -/
def fnExactIsCongruenceSpec : ChangeSpec := { name := "fnExactIsCongruence", fn := fun _ => fun
  | [d1, d2] => { results := [.lit (.bool true)], args := [d1, d2] }
  | _ => none }
def fnExactIsCongruenceRow : OpenClaim := { program := "ytdgffiilalabeab", sum := "ae66f8449c17567fec90e8faebbb590e67653accecf1db2ede46731e995939c2", func := "loop.example/g01083/laws.FnExactIsCongruence", spec := "fnExactIsCongruence", plainKeys := false, apart := false }
def FnExactIsCongruenceSaid : Prop := fnExactIsCongruenceRow.holds Try.pinned (OpenSpec.ofChange fnExactIsCongruenceSpec)

/-- ITS FALSE NEIGHBOUR: 'it returns false'. Refute it at one input. -/
def fnExactIsCongruenceWrong : ChangeSpec := { name := "fnExactIsCongruence", fn := fun _ => fun
  | [d1, d2] => { results := [.lit (.bool false)], args := [d1, d2] }
  | _ => none }
def FnExactIsCongruenceWrongFalsely : Prop := fnExactIsCongruenceRow.holds Try.pinned (OpenSpec.ofChange fnExactIsCongruenceWrong)

/-- 'laws.FnExactCongruenceOf': WHATEVER THE INPUT: true; the input reads as it did. -/
def fnExactCongruenceOfSpec : ChangeSpec := { name := "fnExactCongruenceOf", fn := fun _ => fun
  | [d1, d2] => { results := [.lit (.bool true)], args := [d1, d2] }
  | _ => none }
def fnExactCongruenceOfRow : OpenClaim := { program := "ytdgffiilalabeab", sum := "ae66f8449c17567fec90e8faebbb590e67653accecf1db2ede46731e995939c2", func := "loop.example/g01083/laws.FnExactCongruenceOf", spec := "fnExactCongruenceOf", plainKeys := false, apart := false }
def FnExactCongruenceOfSaid : Prop := fnExactCongruenceOfRow.holds Try.pinned (OpenSpec.ofChange fnExactCongruenceOfSpec)

/-- ITS FALSE NEIGHBOUR: 'it returns false'. Refute it at one input. -/
def fnExactCongruenceOfWrong : ChangeSpec := { name := "fnExactCongruenceOf", fn := fun _ => fun
  | [d1, d2] => { results := [.lit (.bool false)], args := [d1, d2] }
  | _ => none }
def FnExactCongruenceOfWrongFalsely : Prop := fnExactCongruenceOfRow.holds Try.pinned (OpenSpec.ofChange fnExactCongruenceOfWrong)

/-- 'laws.FnExactQuotientCategory': WHATEVER THE INPUT: true; the input reads as it did. -/
def fnExactQuotientCategorySpec : ChangeSpec := { name := "fnExactQuotientCategory", fn := fun _ => fun
  | [d1, d2] => { results := [.lit (.bool true)], args := [d1, d2] }
  | _ => none }
def fnExactQuotientCategoryRow : OpenClaim := { program := "ytdgffiilalabeab", sum := "ae66f8449c17567fec90e8faebbb590e67653accecf1db2ede46731e995939c2", func := "loop.example/g01083/laws.FnExactQuotientCategory", spec := "fnExactQuotientCategory", unfollowed := true, recurses := true, plainKeys := false, apart := false }
def FnExactQuotientCategorySaid : Prop := fnExactQuotientCategoryRow.holds Try.pinned (OpenSpec.ofChange fnExactQuotientCategorySpec)

/-- ITS FALSE NEIGHBOUR: 'it returns false'. Refute it at one input. -/
def fnExactQuotientCategoryWrong : ChangeSpec := { name := "fnExactQuotientCategory", fn := fun _ => fun
  | [d1, d2] => { results := [.lit (.bool false)], args := [d1, d2] }
  | _ => none }
def FnExactQuotientCategoryWrongFalsely : Prop := fnExactQuotientCategoryRow.holds Try.pinned (OpenSpec.ofChange fnExactQuotientCategoryWrong)

/- THE SECOND FORM. 'bulk': how many values and letters a reading holds, each counted each time it is reached (what is shared counts as often as it is met; a slice's spare places count too). A statement '..UptoSaid' is the law's where the arguments, and the package variables that the reading takes, are together of bulk at most 1048576: NARROWER than '..Said'. Prove '..Said' where nothing that the law and all that it calls make is longer than what came in: it says more and counts as full. Else prove '..UptoSaid'. A law counts once. -/
mutual
def uptoBulk {H : Type} : DataW H → Nat
  | .lit (.string bytes) => bytes.length + 1
  | .lit _ => 1
  | .nil => 1
  | .ptr d => uptoBulk d + 1
  | .slice elems spare => uptoBulkAll elems + uptoBulkAll spare + 1
  | .agg parts => uptoBulkAll parts + 1
  | .iface _ d => uptoBulk d + 1
  | .map entries => uptoBulkEntries entries + 1
  | .held _ => 1
def uptoBulkAll {H : Type} : List (DataW H) → Nat
  | [] => 0
  | d :: r => uptoBulk d + uptoBulkAll r
def uptoBulkEntries {H : Type} : List (Lit × DataW H) → Nat
  | [] => 0
  | x :: r => uptoBulkEntry x + uptoBulkEntries r
def uptoBulkEntry {H : Type} : Lit × DataW H → Nat
  | (.string bytes, d) => bytes.length + uptoBulk d + 1
  | (_, d) => uptoBulk d + 1
 end
def uptoSmall : (H : Type) → List (DataW H) → Bool := fun _ ds => decide (uptoBulkAll ds ≤ 1048576)
def OpenSpec.upto (s : _root_.Go.ChangeSpec) : _root_.Go.OpenSpec := { _root_.Go.OpenSpec.ofChange s with cond := some uptoSmall }

/-- 'laws.FnExactMonoidCategory', WHERE WHAT IT READS IS OF BULK AT MOST 1048576: true; the input reads as it did. -/
def fnExactMonoidCategoryUptoRow : OpenClaim := { program := "ytdgffiilalabeab", sum := "ae66f8449c17567fec90e8faebbb590e67653accecf1db2ede46731e995939c2", func := "loop.example/g01083/laws.FnExactMonoidCategory", spec := "fnExactMonoidCategory", unfollowed := true, recurses := true, plainKeys := false, apart := false, narrowed := true }
def FnExactMonoidCategoryUptoSaid : Prop := fnExactMonoidCategoryUptoRow.holds Try.pinned (OpenSpec.upto fnExactMonoidCategorySpec)

/-- 'laws.FnExactPathCategory', WHERE WHAT IT READS IS OF BULK AT MOST 1048576: true; the input reads as it did. -/
def fnExactPathCategoryUptoRow : OpenClaim := { program := "ytdgffiilalabeab", sum := "ae66f8449c17567fec90e8faebbb590e67653accecf1db2ede46731e995939c2", func := "loop.example/g01083/laws.FnExactPathCategory", spec := "fnExactPathCategory", unfollowed := true, recurses := true, plainKeys := false, apart := false, narrowed := true }
def FnExactPathCategoryUptoSaid : Prop := fnExactPathCategoryUptoRow.holds Try.pinned (OpenSpec.upto fnExactPathCategorySpec)

/-- 'laws.FnExactOppositeCategory', WHERE WHAT IT READS IS OF BULK AT MOST 1048576: true; the input reads as it did. -/
def fnExactOppositeCategoryUptoRow : OpenClaim := { program := "ytdgffiilalabeab", sum := "ae66f8449c17567fec90e8faebbb590e67653accecf1db2ede46731e995939c2", func := "loop.example/g01083/laws.FnExactOppositeCategory", spec := "fnExactOppositeCategory", unfollowed := true, recurses := true, plainKeys := false, apart := false, narrowed := true }
def FnExactOppositeCategoryUptoSaid : Prop := fnExactOppositeCategoryUptoRow.holds Try.pinned (OpenSpec.upto fnExactOppositeCategorySpec)

/-- 'laws.FnExactProductCategory', WHERE WHAT IT READS IS OF BULK AT MOST 1048576: true; the input reads as it did. -/
def fnExactProductCategoryUptoRow : OpenClaim := { program := "ytdgffiilalabeab", sum := "ae66f8449c17567fec90e8faebbb590e67653accecf1db2ede46731e995939c2", func := "loop.example/g01083/laws.FnExactProductCategory", spec := "fnExactProductCategory", unfollowed := true, recurses := true, plainKeys := false, apart := false, narrowed := true }
def FnExactProductCategoryUptoSaid : Prop := fnExactProductCategoryUptoRow.holds Try.pinned (OpenSpec.upto fnExactProductCategorySpec)

/-- 'laws.FnExactSumCategory', WHERE WHAT IT READS IS OF BULK AT MOST 1048576: true; the input reads as it did. -/
def fnExactSumCategoryUptoRow : OpenClaim := { program := "ytdgffiilalabeab", sum := "ae66f8449c17567fec90e8faebbb590e67653accecf1db2ede46731e995939c2", func := "loop.example/g01083/laws.FnExactSumCategory", spec := "fnExactSumCategory", unfollowed := true, recurses := true, plainKeys := false, apart := false, narrowed := true }
def FnExactSumCategoryUptoSaid : Prop := fnExactSumCategoryUptoRow.holds Try.pinned (OpenSpec.upto fnExactSumCategorySpec)

/-- 'laws.FnExactJoinCategory', WHERE WHAT IT READS IS OF BULK AT MOST 1048576: true; the input reads as it did. -/
def fnExactJoinCategoryUptoRow : OpenClaim := { program := "ytdgffiilalabeab", sum := "ae66f8449c17567fec90e8faebbb590e67653accecf1db2ede46731e995939c2", func := "loop.example/g01083/laws.FnExactJoinCategory", spec := "fnExactJoinCategory", unfollowed := true, recurses := true, plainKeys := false, apart := false, narrowed := true }
def FnExactJoinCategoryUptoSaid : Prop := fnExactJoinCategoryUptoRow.holds Try.pinned (OpenSpec.upto fnExactJoinCategorySpec)

/-- 'laws.FnExactTwistedCategory', WHERE WHAT IT READS IS OF BULK AT MOST 1048576: true; the input reads as it did. -/
def fnExactTwistedCategoryUptoRow : OpenClaim := { program := "ytdgffiilalabeab", sum := "ae66f8449c17567fec90e8faebbb590e67653accecf1db2ede46731e995939c2", func := "loop.example/g01083/laws.FnExactTwistedCategory", spec := "fnExactTwistedCategory", unfollowed := true, recurses := true, plainKeys := false, apart := false, narrowed := true }
def FnExactTwistedCategoryUptoSaid : Prop := fnExactTwistedCategoryUptoRow.holds Try.pinned (OpenSpec.upto fnExactTwistedCategorySpec)

/-- 'laws.FnExactIsCongruence', WHERE WHAT IT READS IS OF BULK AT MOST 1048576: true; the input reads as it did. -/
def fnExactIsCongruenceUptoRow : OpenClaim := { program := "ytdgffiilalabeab", sum := "ae66f8449c17567fec90e8faebbb590e67653accecf1db2ede46731e995939c2", func := "loop.example/g01083/laws.FnExactIsCongruence", spec := "fnExactIsCongruence", plainKeys := false, apart := false, narrowed := true }
def FnExactIsCongruenceUptoSaid : Prop := fnExactIsCongruenceUptoRow.holds Try.pinned (OpenSpec.upto fnExactIsCongruenceSpec)

/-- 'laws.FnExactCongruenceOf', WHERE WHAT IT READS IS OF BULK AT MOST 1048576: true; the input reads as it did. -/
def fnExactCongruenceOfUptoRow : OpenClaim := { program := "ytdgffiilalabeab", sum := "ae66f8449c17567fec90e8faebbb590e67653accecf1db2ede46731e995939c2", func := "loop.example/g01083/laws.FnExactCongruenceOf", spec := "fnExactCongruenceOf", plainKeys := false, apart := false, narrowed := true }
def FnExactCongruenceOfUptoSaid : Prop := fnExactCongruenceOfUptoRow.holds Try.pinned (OpenSpec.upto fnExactCongruenceOfSpec)

/-- 'laws.FnExactQuotientCategory', WHERE WHAT IT READS IS OF BULK AT MOST 1048576: true; the input reads as it did. -/
def fnExactQuotientCategoryUptoRow : OpenClaim := { program := "ytdgffiilalabeab", sum := "ae66f8449c17567fec90e8faebbb590e67653accecf1db2ede46731e995939c2", func := "loop.example/g01083/laws.FnExactQuotientCategory", spec := "fnExactQuotientCategory", unfollowed := true, recurses := true, plainKeys := false, apart := false, narrowed := true }
def FnExactQuotientCategoryUptoSaid : Prop := fnExactQuotientCategoryUptoRow.holds Try.pinned (OpenSpec.upto fnExactQuotientCategorySpec)

end Rows
end Go.Proofs.Ytdgffiilalabeab
