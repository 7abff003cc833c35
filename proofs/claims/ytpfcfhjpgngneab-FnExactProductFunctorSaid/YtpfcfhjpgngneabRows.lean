/-
  No cell of these rows narrows 'for every input' (looked for: loops, veiled, ifaces, maps, wideKeys, modest, calm, conditions, laid).
  DERIVED. THE GIVEN ROWS OF THIS SEAT. 12 by the template 'for every input the law returns true; each argument reads behind the call as it read before'; 0 by the template 'total and deterministic' (their statements: YtpfcfhjpgngneabTotals.lean).
  GIVEN WITH THE SEED: the statements are not yours to turn. If you find one false, say at which input.
  Laid BY PROGRAM, IN A SANDBOX (cutbox-rows.mjs): the forced cells as the released guide's own fill.sh prints them over the translation e96eb15e63c1d1b2… (all of the seat's roots in one cut). By AI agents, Wed Nov 11 2026. No macro, syntax, notation, axiom, sorry.
-/
import Derived.Test.YtpfcfhjpgngneabChecked
import GoSem.Claim
import GoSem.ClaimJoined
import GoSem.ClaimMapViews
import Derived.JoinedTies
import Derived.KernelRfl
namespace Go.Proofs.Ytpfcfhjpgngneab
/- THE CELL 'sum', in the pinned program and in every row, IS THE sha256 OF THE DUMP (.gsa) THAT YtpfcfhjpgngneabProg.lean LOADS. Nothing in Lean hashes anything: it is a label: what it is worth is what the hold of that sum in a sandbox is worth. -/
noncomputable def Try.pinned : Pinned := { name := "ytpfcfhjpgngneab", sum := "e96eb15e63c1d1b244029436ab549ffc2ba1b05701142fc8e19292a85ee7aada", checked := Try.checked }
namespace Rows
def none {H : Type} : Left H := { results := [], args := [] }

/-- 'laws.FnExactProductFunctor': WHATEVER THE INPUT: true; the input reads as it did. -/
def fnExactProductFunctorSpec : ChangeSpec := { name := "fnExactProductFunctor", fn := fun _ => fun
  | [d1, d2] => { results := [.lit (.bool true)], args := [d1, d2] }
  | _ => none }
def fnExactProductFunctorRow : OpenClaim := { program := "ytpfcfhjpgngneab", sum := "e96eb15e63c1d1b244029436ab549ffc2ba1b05701142fc8e19292a85ee7aada", func := "loop.example/g01083/laws.FnExactProductFunctor", spec := "fnExactProductFunctor", unfollowed := true, recurses := true, plainKeys := false, apart := false }
def FnExactProductFunctorSaid : Prop := fnExactProductFunctorRow.holds Try.pinned (OpenSpec.ofChange fnExactProductFunctorSpec)

/-- ITS FALSE NEIGHBOUR: 'it returns false'. Refute it at one input. -/
def fnExactProductFunctorWrong : ChangeSpec := { name := "fnExactProductFunctor", fn := fun _ => fun
  | [d1, d2] => { results := [.lit (.bool false)], args := [d1, d2] }
  | _ => none }
def FnExactProductFunctorWrongFalsely : Prop := fnExactProductFunctorRow.holds Try.pinned (OpenSpec.ofChange fnExactProductFunctorWrong)

/-- 'laws.FnExactFirstProjection': WHATEVER THE INPUT: true; the input reads as it did. -/
def fnExactFirstProjectionSpec : ChangeSpec := { name := "fnExactFirstProjection", fn := fun _ => fun
  | [d1, d2] => { results := [.lit (.bool true)], args := [d1, d2] }
  | _ => none }
def fnExactFirstProjectionRow : OpenClaim := { program := "ytpfcfhjpgngneab", sum := "e96eb15e63c1d1b244029436ab549ffc2ba1b05701142fc8e19292a85ee7aada", func := "loop.example/g01083/laws.FnExactFirstProjection", spec := "fnExactFirstProjection", unfollowed := true, recurses := true, plainKeys := false, apart := false }
def FnExactFirstProjectionSaid : Prop := fnExactFirstProjectionRow.holds Try.pinned (OpenSpec.ofChange fnExactFirstProjectionSpec)

/-- ITS FALSE NEIGHBOUR: 'it returns false'. Refute it at one input. -/
def fnExactFirstProjectionWrong : ChangeSpec := { name := "fnExactFirstProjection", fn := fun _ => fun
  | [d1, d2] => { results := [.lit (.bool false)], args := [d1, d2] }
  | _ => none }
def FnExactFirstProjectionWrongFalsely : Prop := fnExactFirstProjectionRow.holds Try.pinned (OpenSpec.ofChange fnExactFirstProjectionWrong)

/-- 'laws.FnExactSecondProjection': WHATEVER THE INPUT: true; the input reads as it did. -/
def fnExactSecondProjectionSpec : ChangeSpec := { name := "fnExactSecondProjection", fn := fun _ => fun
  | [d1, d2] => { results := [.lit (.bool true)], args := [d1, d2] }
  | _ => none }
def fnExactSecondProjectionRow : OpenClaim := { program := "ytpfcfhjpgngneab", sum := "e96eb15e63c1d1b244029436ab549ffc2ba1b05701142fc8e19292a85ee7aada", func := "loop.example/g01083/laws.FnExactSecondProjection", spec := "fnExactSecondProjection", unfollowed := true, recurses := true, plainKeys := false, apart := false }
def FnExactSecondProjectionSaid : Prop := fnExactSecondProjectionRow.holds Try.pinned (OpenSpec.ofChange fnExactSecondProjectionSpec)

/-- ITS FALSE NEIGHBOUR: 'it returns false'. Refute it at one input. -/
def fnExactSecondProjectionWrong : ChangeSpec := { name := "fnExactSecondProjection", fn := fun _ => fun
  | [d1, d2] => { results := [.lit (.bool false)], args := [d1, d2] }
  | _ => none }
def FnExactSecondProjectionWrongFalsely : Prop := fnExactSecondProjectionRow.holds Try.pinned (OpenSpec.ofChange fnExactSecondProjectionWrong)

/-- 'laws.FnExactPairFunctors': WHATEVER THE INPUT: true; the input reads as it did. -/
def fnExactPairFunctorsSpec : ChangeSpec := { name := "fnExactPairFunctors", fn := fun _ => fun
  | [d1, d2] => { results := [.lit (.bool true)], args := [d1, d2] }
  | _ => none }
def fnExactPairFunctorsRow : OpenClaim := { program := "ytpfcfhjpgngneab", sum := "e96eb15e63c1d1b244029436ab549ffc2ba1b05701142fc8e19292a85ee7aada", func := "loop.example/g01083/laws.FnExactPairFunctors", spec := "fnExactPairFunctors", unfollowed := true, recurses := true, plainKeys := false, apart := false }
def FnExactPairFunctorsSaid : Prop := fnExactPairFunctorsRow.holds Try.pinned (OpenSpec.ofChange fnExactPairFunctorsSpec)

/-- ITS FALSE NEIGHBOUR: 'it returns false'. Refute it at one input. -/
def fnExactPairFunctorsWrong : ChangeSpec := { name := "fnExactPairFunctors", fn := fun _ => fun
  | [d1, d2] => { results := [.lit (.bool false)], args := [d1, d2] }
  | _ => none }
def FnExactPairFunctorsWrongFalsely : Prop := fnExactPairFunctorsRow.holds Try.pinned (OpenSpec.ofChange fnExactPairFunctorsWrong)

/-- 'laws.FnExactCopairFunctors': WHATEVER THE INPUT: true; the input reads as it did. -/
def fnExactCopairFunctorsSpec : ChangeSpec := { name := "fnExactCopairFunctors", fn := fun _ => fun
  | [d1, d2] => { results := [.lit (.bool true)], args := [d1, d2] }
  | _ => none }
def fnExactCopairFunctorsRow : OpenClaim := { program := "ytpfcfhjpgngneab", sum := "e96eb15e63c1d1b244029436ab549ffc2ba1b05701142fc8e19292a85ee7aada", func := "loop.example/g01083/laws.FnExactCopairFunctors", spec := "fnExactCopairFunctors", unfollowed := true, recurses := true, plainKeys := false, apart := false }
def FnExactCopairFunctorsSaid : Prop := fnExactCopairFunctorsRow.holds Try.pinned (OpenSpec.ofChange fnExactCopairFunctorsSpec)

/-- ITS FALSE NEIGHBOUR: 'it returns false'. Refute it at one input. -/
def fnExactCopairFunctorsWrong : ChangeSpec := { name := "fnExactCopairFunctors", fn := fun _ => fun
  | [d1, d2] => { results := [.lit (.bool false)], args := [d1, d2] }
  | _ => none }
def FnExactCopairFunctorsWrongFalsely : Prop := fnExactCopairFunctorsRow.holds Try.pinned (OpenSpec.ofChange fnExactCopairFunctorsWrong)

/-- 'laws.FnExactInclusionFunctor': WHATEVER THE INPUT: true; the input reads as it did. -/
def fnExactInclusionFunctorSpec : ChangeSpec := { name := "fnExactInclusionFunctor", fn := fun _ => fun
  | [d1, d2] => { results := [.lit (.bool true)], args := [d1, d2] }
  | _ => none }
def fnExactInclusionFunctorRow : OpenClaim := { program := "ytpfcfhjpgngneab", sum := "e96eb15e63c1d1b244029436ab549ffc2ba1b05701142fc8e19292a85ee7aada", func := "loop.example/g01083/laws.FnExactInclusionFunctor", spec := "fnExactInclusionFunctor", unfollowed := true, recurses := true, plainKeys := false, apart := false }
def FnExactInclusionFunctorSaid : Prop := fnExactInclusionFunctorRow.holds Try.pinned (OpenSpec.ofChange fnExactInclusionFunctorSpec)

/-- ITS FALSE NEIGHBOUR: 'it returns false'. Refute it at one input. -/
def fnExactInclusionFunctorWrong : ChangeSpec := { name := "fnExactInclusionFunctor", fn := fun _ => fun
  | [d1, d2] => { results := [.lit (.bool false)], args := [d1, d2] }
  | _ => none }
def FnExactInclusionFunctorWrongFalsely : Prop := fnExactInclusionFunctorRow.holds Try.pinned (OpenSpec.ofChange fnExactInclusionFunctorWrong)

/-- 'laws.FnExactQuotientFunctor': WHATEVER THE INPUT: true; the input reads as it did. -/
def fnExactQuotientFunctorSpec : ChangeSpec := { name := "fnExactQuotientFunctor", fn := fun _ => fun
  | [d1, d2] => { results := [.lit (.bool true)], args := [d1, d2] }
  | _ => none }
def fnExactQuotientFunctorRow : OpenClaim := { program := "ytpfcfhjpgngneab", sum := "e96eb15e63c1d1b244029436ab549ffc2ba1b05701142fc8e19292a85ee7aada", func := "loop.example/g01083/laws.FnExactQuotientFunctor", spec := "fnExactQuotientFunctor", unfollowed := true, recurses := true, plainKeys := false, apart := false }
def FnExactQuotientFunctorSaid : Prop := fnExactQuotientFunctorRow.holds Try.pinned (OpenSpec.ofChange fnExactQuotientFunctorSpec)

/-- ITS FALSE NEIGHBOUR: 'it returns false'. Refute it at one input. -/
def fnExactQuotientFunctorWrong : ChangeSpec := { name := "fnExactQuotientFunctor", fn := fun _ => fun
  | [d1, d2] => { results := [.lit (.bool false)], args := [d1, d2] }
  | _ => none }
def FnExactQuotientFunctorWrongFalsely : Prop := fnExactQuotientFunctorRow.holds Try.pinned (OpenSpec.ofChange fnExactQuotientFunctorWrong)

/-- 'laws.FnExactSubcategoryOf': WHATEVER THE INPUT: true; the input reads as it did. -/
def fnExactSubcategoryOfSpec : ChangeSpec := { name := "fnExactSubcategoryOf", fn := fun _ => fun
  | [d1, d2] => { results := [.lit (.bool true)], args := [d1, d2] }
  | _ => none }
def fnExactSubcategoryOfRow : OpenClaim := { program := "ytpfcfhjpgngneab", sum := "e96eb15e63c1d1b244029436ab549ffc2ba1b05701142fc8e19292a85ee7aada", func := "loop.example/g01083/laws.FnExactSubcategoryOf", spec := "fnExactSubcategoryOf", unfollowed := true, recurses := true, plainKeys := false, apart := false }
def FnExactSubcategoryOfSaid : Prop := fnExactSubcategoryOfRow.holds Try.pinned (OpenSpec.ofChange fnExactSubcategoryOfSpec)

/-- ITS FALSE NEIGHBOUR: 'it returns false'. Refute it at one input. -/
def fnExactSubcategoryOfWrong : ChangeSpec := { name := "fnExactSubcategoryOf", fn := fun _ => fun
  | [d1, d2] => { results := [.lit (.bool false)], args := [d1, d2] }
  | _ => none }
def FnExactSubcategoryOfWrongFalsely : Prop := fnExactSubcategoryOfRow.holds Try.pinned (OpenSpec.ofChange fnExactSubcategoryOfWrong)

/-- 'laws.FnExactProductCategory': WHATEVER THE INPUT: true; the input reads as it did. -/
def fnExactProductCategorySpec : ChangeSpec := { name := "fnExactProductCategory", fn := fun _ => fun
  | [d1, d2] => { results := [.lit (.bool true)], args := [d1, d2] }
  | _ => none }
def fnExactProductCategoryRow : OpenClaim := { program := "ytpfcfhjpgngneab", sum := "e96eb15e63c1d1b244029436ab549ffc2ba1b05701142fc8e19292a85ee7aada", func := "loop.example/g01083/laws.FnExactProductCategory", spec := "fnExactProductCategory", unfollowed := true, recurses := true, plainKeys := false, apart := false }
def FnExactProductCategorySaid : Prop := fnExactProductCategoryRow.holds Try.pinned (OpenSpec.ofChange fnExactProductCategorySpec)

/-- ITS FALSE NEIGHBOUR: 'it returns false'. Refute it at one input. -/
def fnExactProductCategoryWrong : ChangeSpec := { name := "fnExactProductCategory", fn := fun _ => fun
  | [d1, d2] => { results := [.lit (.bool false)], args := [d1, d2] }
  | _ => none }
def FnExactProductCategoryWrongFalsely : Prop := fnExactProductCategoryRow.holds Try.pinned (OpenSpec.ofChange fnExactProductCategoryWrong)

/-- 'laws.FnExactSumCategory': WHATEVER THE INPUT: true; the input reads as it did. -/
def fnExactSumCategorySpec : ChangeSpec := { name := "fnExactSumCategory", fn := fun _ => fun
  | [d1, d2] => { results := [.lit (.bool true)], args := [d1, d2] }
  | _ => none }
def fnExactSumCategoryRow : OpenClaim := { program := "ytpfcfhjpgngneab", sum := "e96eb15e63c1d1b244029436ab549ffc2ba1b05701142fc8e19292a85ee7aada", func := "loop.example/g01083/laws.FnExactSumCategory", spec := "fnExactSumCategory", unfollowed := true, recurses := true, plainKeys := false, apart := false }
def FnExactSumCategorySaid : Prop := fnExactSumCategoryRow.holds Try.pinned (OpenSpec.ofChange fnExactSumCategorySpec)

/-- ITS FALSE NEIGHBOUR: 'it returns false'. Refute it at one input. -/
def fnExactSumCategoryWrong : ChangeSpec := { name := "fnExactSumCategory", fn := fun _ => fun
  | [d1, d2] => { results := [.lit (.bool false)], args := [d1, d2] }
  | _ => none }
def FnExactSumCategoryWrongFalsely : Prop := fnExactSumCategoryRow.holds Try.pinned (OpenSpec.ofChange fnExactSumCategoryWrong)

/-- 'laws.FnExactQuotientCategory': WHATEVER THE INPUT: true; the input reads as it did. -/
def fnExactQuotientCategorySpec : ChangeSpec := { name := "fnExactQuotientCategory", fn := fun _ => fun
  | [d1, d2] => { results := [.lit (.bool true)], args := [d1, d2] }
  | _ => none }
def fnExactQuotientCategoryRow : OpenClaim := { program := "ytpfcfhjpgngneab", sum := "e96eb15e63c1d1b244029436ab549ffc2ba1b05701142fc8e19292a85ee7aada", func := "loop.example/g01083/laws.FnExactQuotientCategory", spec := "fnExactQuotientCategory", unfollowed := true, recurses := true, plainKeys := false, apart := false }
def FnExactQuotientCategorySaid : Prop := fnExactQuotientCategoryRow.holds Try.pinned (OpenSpec.ofChange fnExactQuotientCategorySpec)

/-- ITS FALSE NEIGHBOUR: 'it returns false'. Refute it at one input. -/
def fnExactQuotientCategoryWrong : ChangeSpec := { name := "fnExactQuotientCategory", fn := fun _ => fun
  | [d1, d2] => { results := [.lit (.bool false)], args := [d1, d2] }
  | _ => none }
def FnExactQuotientCategoryWrongFalsely : Prop := fnExactQuotientCategoryRow.holds Try.pinned (OpenSpec.ofChange fnExactQuotientCategoryWrong)

/-- 'laws.FnExactOppositeCategory': WHATEVER THE INPUT: true; the input reads as it did. -/
def fnExactOppositeCategorySpec : ChangeSpec := { name := "fnExactOppositeCategory", fn := fun _ => fun
  | [d] => { results := [.lit (.bool true)], args := [d] }
  | _ => none }
def fnExactOppositeCategoryRow : OpenClaim := { program := "ytpfcfhjpgngneab", sum := "e96eb15e63c1d1b244029436ab549ffc2ba1b05701142fc8e19292a85ee7aada", func := "loop.example/g01083/laws.FnExactOppositeCategory", spec := "fnExactOppositeCategory", unfollowed := true, recurses := true, plainKeys := false, apart := false }
def FnExactOppositeCategorySaid : Prop := fnExactOppositeCategoryRow.holds Try.pinned (OpenSpec.ofChange fnExactOppositeCategorySpec)

/-- ITS FALSE NEIGHBOUR: 'it returns false'. Refute it at one input. -/
def fnExactOppositeCategoryWrong : ChangeSpec := { name := "fnExactOppositeCategory", fn := fun _ => fun
  | [d] => { results := [.lit (.bool false)], args := [d] }
  | _ => none }
def FnExactOppositeCategoryWrongFalsely : Prop := fnExactOppositeCategoryRow.holds Try.pinned (OpenSpec.ofChange fnExactOppositeCategoryWrong)

/- THE SECOND FORM. 'bulk': how many values and letters a reading holds, each counted each time it is reached (what is shared counts as often as it is met; a slice's spare places count too). A statement '..UptoSaid' is the law's where the arguments, and the package variables that the reading takes, are together of bulk at most 1048576: NARROWER than '..Said'. Prove '..Said' where nothing that the law and all that it calls make is longer than what came in: it says more and counts as full. Else prove '..UptoSaid'. A law counts once. -/
mutual
def uptoBulk {H : Type} : DataW H → Nat
  | .lit (.string bytes) => bytes.length + 1
  | .lit _ => 1
  | .nil => 1
  | .ptr d => uptoBulk d + 1
  | .slice elems spare => uptoBulkAll elems + uptoBulkAll spare + 1
  | .agg parts => uptoBulkAll parts + 1
  | .iface _ d => uptoBulk d + 1
  | .map entries => uptoBulkEntries entries + 1
  | .held _ => 1
def uptoBulkAll {H : Type} : List (DataW H) → Nat
  | [] => 0
  | d :: r => uptoBulk d + uptoBulkAll r
def uptoBulkEntries {H : Type} : List (Lit × DataW H) → Nat
  | [] => 0
  | x :: r => uptoBulkEntry x + uptoBulkEntries r
def uptoBulkEntry {H : Type} : Lit × DataW H → Nat
  | (.string bytes, d) => bytes.length + uptoBulk d + 1
  | (_, d) => uptoBulk d + 1
 end
def uptoSmall : (H : Type) → List (DataW H) → Bool := fun _ ds => decide (uptoBulkAll ds ≤ 1048576)
def OpenSpec.upto (s : _root_.Go.ChangeSpec) : _root_.Go.OpenSpec := { _root_.Go.OpenSpec.ofChange s with cond := some uptoSmall }

/-- 'laws.FnExactProductFunctor', WHERE WHAT IT READS IS OF BULK AT MOST 1048576: true; the input reads as it did. -/
def fnExactProductFunctorUptoRow : OpenClaim := { program := "ytpfcfhjpgngneab", sum := "e96eb15e63c1d1b244029436ab549ffc2ba1b05701142fc8e19292a85ee7aada", func := "loop.example/g01083/laws.FnExactProductFunctor", spec := "fnExactProductFunctor", unfollowed := true, recurses := true, plainKeys := false, apart := false, narrowed := true }
def FnExactProductFunctorUptoSaid : Prop := fnExactProductFunctorUptoRow.holds Try.pinned (OpenSpec.upto fnExactProductFunctorSpec)

/-- 'laws.FnExactFirstProjection', WHERE WHAT IT READS IS OF BULK AT MOST 1048576: true; the input reads as it did. -/
def fnExactFirstProjectionUptoRow : OpenClaim := { program := "ytpfcfhjpgngneab", sum := "e96eb15e63c1d1b244029436ab549ffc2ba1b05701142fc8e19292a85ee7aada", func := "loop.example/g01083/laws.FnExactFirstProjection", spec := "fnExactFirstProjection", unfollowed := true, recurses := true, plainKeys := false, apart := false, narrowed := true }
def FnExactFirstProjectionUptoSaid : Prop := fnExactFirstProjectionUptoRow.holds Try.pinned (OpenSpec.upto fnExactFirstProjectionSpec)

/-- 'laws.FnExactSecondProjection', WHERE WHAT IT READS IS OF BULK AT MOST 1048576: true; the input reads as it did. -/
def fnExactSecondProjectionUptoRow : OpenClaim := { program := "ytpfcfhjpgngneab", sum := "e96eb15e63c1d1b244029436ab549ffc2ba1b05701142fc8e19292a85ee7aada", func := "loop.example/g01083/laws.FnExactSecondProjection", spec := "fnExactSecondProjection", unfollowed := true, recurses := true, plainKeys := false, apart := false, narrowed := true }
def FnExactSecondProjectionUptoSaid : Prop := fnExactSecondProjectionUptoRow.holds Try.pinned (OpenSpec.upto fnExactSecondProjectionSpec)

/-- 'laws.FnExactPairFunctors', WHERE WHAT IT READS IS OF BULK AT MOST 1048576: true; the input reads as it did. -/
def fnExactPairFunctorsUptoRow : OpenClaim := { program := "ytpfcfhjpgngneab", sum := "e96eb15e63c1d1b244029436ab549ffc2ba1b05701142fc8e19292a85ee7aada", func := "loop.example/g01083/laws.FnExactPairFunctors", spec := "fnExactPairFunctors", unfollowed := true, recurses := true, plainKeys := false, apart := false, narrowed := true }
def FnExactPairFunctorsUptoSaid : Prop := fnExactPairFunctorsUptoRow.holds Try.pinned (OpenSpec.upto fnExactPairFunctorsSpec)

/-- 'laws.FnExactCopairFunctors', WHERE WHAT IT READS IS OF BULK AT MOST 1048576: true; the input reads as it did. -/
def fnExactCopairFunctorsUptoRow : OpenClaim := { program := "ytpfcfhjpgngneab", sum := "e96eb15e63c1d1b244029436ab549ffc2ba1b05701142fc8e19292a85ee7aada", func := "loop.example/g01083/laws.FnExactCopairFunctors", spec := "fnExactCopairFunctors", unfollowed := true, recurses := true, plainKeys := false, apart := false, narrowed := true }
def FnExactCopairFunctorsUptoSaid : Prop := fnExactCopairFunctorsUptoRow.holds Try.pinned (OpenSpec.upto fnExactCopairFunctorsSpec)

/-- 'laws.FnExactInclusionFunctor', WHERE WHAT IT READS IS OF BULK AT MOST 1048576: true; the input reads as it did. -/
def fnExactInclusionFunctorUptoRow : OpenClaim := { program := "ytpfcfhjpgngneab", sum := "e96eb15e63c1d1b244029436ab549ffc2ba1b05701142fc8e19292a85ee7aada", func := "loop.example/g01083/laws.FnExactInclusionFunctor", spec := "fnExactInclusionFunctor", unfollowed := true, recurses := true, plainKeys := false, apart := false, narrowed := true }
def FnExactInclusionFunctorUptoSaid : Prop := fnExactInclusionFunctorUptoRow.holds Try.pinned (OpenSpec.upto fnExactInclusionFunctorSpec)

/-- 'laws.FnExactQuotientFunctor', WHERE WHAT IT READS IS OF BULK AT MOST 1048576: true; the input reads as it did. -/
def fnExactQuotientFunctorUptoRow : OpenClaim := { program := "ytpfcfhjpgngneab", sum := "e96eb15e63c1d1b244029436ab549ffc2ba1b05701142fc8e19292a85ee7aada", func := "loop.example/g01083/laws.FnExactQuotientFunctor", spec := "fnExactQuotientFunctor", unfollowed := true, recurses := true, plainKeys := false, apart := false, narrowed := true }
def FnExactQuotientFunctorUptoSaid : Prop := fnExactQuotientFunctorUptoRow.holds Try.pinned (OpenSpec.upto fnExactQuotientFunctorSpec)

/-- 'laws.FnExactSubcategoryOf', WHERE WHAT IT READS IS OF BULK AT MOST 1048576: true; the input reads as it did. -/
def fnExactSubcategoryOfUptoRow : OpenClaim := { program := "ytpfcfhjpgngneab", sum := "e96eb15e63c1d1b244029436ab549ffc2ba1b05701142fc8e19292a85ee7aada", func := "loop.example/g01083/laws.FnExactSubcategoryOf", spec := "fnExactSubcategoryOf", unfollowed := true, recurses := true, plainKeys := false, apart := false, narrowed := true }
def FnExactSubcategoryOfUptoSaid : Prop := fnExactSubcategoryOfUptoRow.holds Try.pinned (OpenSpec.upto fnExactSubcategoryOfSpec)

/-- 'laws.FnExactProductCategory', WHERE WHAT IT READS IS OF BULK AT MOST 1048576: true; the input reads as it did. -/
def fnExactProductCategoryUptoRow : OpenClaim := { program := "ytpfcfhjpgngneab", sum := "e96eb15e63c1d1b244029436ab549ffc2ba1b05701142fc8e19292a85ee7aada", func := "loop.example/g01083/laws.FnExactProductCategory", spec := "fnExactProductCategory", unfollowed := true, recurses := true, plainKeys := false, apart := false, narrowed := true }
def FnExactProductCategoryUptoSaid : Prop := fnExactProductCategoryUptoRow.holds Try.pinned (OpenSpec.upto fnExactProductCategorySpec)

/-- 'laws.FnExactSumCategory', WHERE WHAT IT READS IS OF BULK AT MOST 1048576: true; the input reads as it did. -/
def fnExactSumCategoryUptoRow : OpenClaim := { program := "ytpfcfhjpgngneab", sum := "e96eb15e63c1d1b244029436ab549ffc2ba1b05701142fc8e19292a85ee7aada", func := "loop.example/g01083/laws.FnExactSumCategory", spec := "fnExactSumCategory", unfollowed := true, recurses := true, plainKeys := false, apart := false, narrowed := true }
def FnExactSumCategoryUptoSaid : Prop := fnExactSumCategoryUptoRow.holds Try.pinned (OpenSpec.upto fnExactSumCategorySpec)

/-- 'laws.FnExactQuotientCategory', WHERE WHAT IT READS IS OF BULK AT MOST 1048576: true; the input reads as it did. -/
def fnExactQuotientCategoryUptoRow : OpenClaim := { program := "ytpfcfhjpgngneab", sum := "e96eb15e63c1d1b244029436ab549ffc2ba1b05701142fc8e19292a85ee7aada", func := "loop.example/g01083/laws.FnExactQuotientCategory", spec := "fnExactQuotientCategory", unfollowed := true, recurses := true, plainKeys := false, apart := false, narrowed := true }
def FnExactQuotientCategoryUptoSaid : Prop := fnExactQuotientCategoryUptoRow.holds Try.pinned (OpenSpec.upto fnExactQuotientCategorySpec)

/-- 'laws.FnExactOppositeCategory', WHERE WHAT IT READS IS OF BULK AT MOST 1048576: true; the input reads as it did. -/
def fnExactOppositeCategoryUptoRow : OpenClaim := { program := "ytpfcfhjpgngneab", sum := "e96eb15e63c1d1b244029436ab549ffc2ba1b05701142fc8e19292a85ee7aada", func := "loop.example/g01083/laws.FnExactOppositeCategory", spec := "fnExactOppositeCategory", unfollowed := true, recurses := true, plainKeys := false, apart := false, narrowed := true }
def FnExactOppositeCategoryUptoSaid : Prop := fnExactOppositeCategoryUptoRow.holds Try.pinned (OpenSpec.upto fnExactOppositeCategorySpec)

end Rows
end Go.Proofs.Ytpfcfhjpgngneab
