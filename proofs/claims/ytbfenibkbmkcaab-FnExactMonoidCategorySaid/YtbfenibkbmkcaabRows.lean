/-
  No cell of these rows narrows 'for every input' (looked for: loops, veiled, ifaces, maps, wideKeys, modest, calm, conditions, laid).
  DERIVED. THE GIVEN ROWS OF THIS SEAT. 4 by the template 'for every input the law returns true; each argument reads behind the call as it read before'; 0 by the template 'total and deterministic' (their statements: YtbfenibkbmkcaabTotals.lean).
  GIVEN WITH THE SEED: the statements are not yours to turn. If you find one false, say at which input.
  Laid BY PROGRAM, IN A SANDBOX (cutbox-rows.mjs): the forced cells as the released guide's own fill.sh prints them over the translation 5cf7f8db401b7405… (all of the seat's roots in one cut). By AI agents, Wed Nov 11 2026. No macro, syntax, notation, axiom, sorry.
-/
import Derived.Test.YtbfenibkbmkcaabChecked
import GoSem.Claim
import GoSem.ClaimJoined
import GoSem.ClaimMapViews
import Derived.JoinedTies
import Derived.KernelRfl
namespace Go.Proofs.Ytbfenibkbmkcaab
/- THE CELL 'sum', in the pinned program and in every row, IS THE sha256 OF THE DUMP (.gsa) THAT YtbfenibkbmkcaabProg.lean LOADS. Nothing in Lean hashes anything: it is a label: what it is worth is what the hold of that sum in a sandbox is worth. -/
noncomputable def Try.pinned : Pinned := { name := "ytbfenibkbmkcaab", sum := "5cf7f8db401b74053fdf43d8d11ab62e7b038d68f2a6ea95d14f0a30ec84a386", checked := Try.checked }
namespace Rows
def none {H : Type} : Left H := { results := [], args := [] }

/-- 'laws.FnExactChainCategory': WHATEVER THE INPUT: true; the input reads as it did. -/
def fnExactChainCategorySpec : ChangeSpec := { name := "fnExactChainCategory", fn := fun _ => fun
  | [d] => { results := [.lit (.bool true)], args := [d] }
  | _ => none }
def fnExactChainCategoryRow : OpenClaim := { program := "ytbfenibkbmkcaab", sum := "5cf7f8db401b74053fdf43d8d11ab62e7b038d68f2a6ea95d14f0a30ec84a386", func := "loop.example/g01083/laws.FnExactChainCategory", spec := "fnExactChainCategory", unfollowed := true, recurses := true, plainKeys := false, apart := false }
def FnExactChainCategorySaid : Prop := fnExactChainCategoryRow.holds Try.pinned (OpenSpec.ofChange fnExactChainCategorySpec)

/-- ITS FALSE NEIGHBOUR: 'it returns false'. Refute it at one input. -/
def fnExactChainCategoryWrong : ChangeSpec := { name := "fnExactChainCategory", fn := fun _ => fun
  | [d] => { results := [.lit (.bool false)], args := [d] }
  | _ => none }
def FnExactChainCategoryWrongFalsely : Prop := fnExactChainCategoryRow.holds Try.pinned (OpenSpec.ofChange fnExactChainCategoryWrong)

/-- 'laws.FnExactMonoidCategory': WHATEVER THE INPUT: true; the input reads as it did. -/
def fnExactMonoidCategorySpec : ChangeSpec := { name := "fnExactMonoidCategory", fn := fun _ => fun
  | [d] => { results := [.lit (.bool true)], args := [d] }
  | _ => none }
def fnExactMonoidCategoryRow : OpenClaim := { program := "ytbfenibkbmkcaab", sum := "5cf7f8db401b74053fdf43d8d11ab62e7b038d68f2a6ea95d14f0a30ec84a386", func := "loop.example/g01083/laws.FnExactMonoidCategory", spec := "fnExactMonoidCategory", unfollowed := true, recurses := true, plainKeys := false, apart := false }
def FnExactMonoidCategorySaid : Prop := fnExactMonoidCategoryRow.holds Try.pinned (OpenSpec.ofChange fnExactMonoidCategorySpec)

/-- ITS FALSE NEIGHBOUR: 'it returns false'. Refute it at one input. -/
def fnExactMonoidCategoryWrong : ChangeSpec := { name := "fnExactMonoidCategory", fn := fun _ => fun
  | [d] => { results := [.lit (.bool false)], args := [d] }
  | _ => none }
def FnExactMonoidCategoryWrongFalsely : Prop := fnExactMonoidCategoryRow.holds Try.pinned (OpenSpec.ofChange fnExactMonoidCategoryWrong)

/-- 'laws.FnExactSubobjectsOf': WHATEVER THE INPUT: true; the input reads as it did. -/
def fnExactSubobjectsOfSpec : ChangeSpec := { name := "fnExactSubobjectsOf", fn := fun _ => fun
  | [d1, d2] => { results := [.lit (.bool true)], args := [d1, d2] }
  | _ => none }
def fnExactSubobjectsOfRow : OpenClaim := { program := "ytbfenibkbmkcaab", sum := "5cf7f8db401b74053fdf43d8d11ab62e7b038d68f2a6ea95d14f0a30ec84a386", func := "loop.example/g01083/laws.FnExactSubobjectsOf", spec := "fnExactSubobjectsOf", unfollowed := true, recurses := true, plainKeys := false, apart := false }
def FnExactSubobjectsOfSaid : Prop := fnExactSubobjectsOfRow.holds Try.pinned (OpenSpec.ofChange fnExactSubobjectsOfSpec)

/-- ITS FALSE NEIGHBOUR: 'it returns false'. Refute it at one input. -/
def fnExactSubobjectsOfWrong : ChangeSpec := { name := "fnExactSubobjectsOf", fn := fun _ => fun
  | [d1, d2] => { results := [.lit (.bool false)], args := [d1, d2] }
  | _ => none }
def FnExactSubobjectsOfWrongFalsely : Prop := fnExactSubobjectsOfRow.holds Try.pinned (OpenSpec.ofChange fnExactSubobjectsOfWrong)

/-- 'laws.FnExactQuotientsOf': WHATEVER THE INPUT: true; the input reads as it did. -/
def fnExactQuotientsOfSpec : ChangeSpec := { name := "fnExactQuotientsOf", fn := fun _ => fun
  | [d1, d2] => { results := [.lit (.bool true)], args := [d1, d2] }
  | _ => none }
def fnExactQuotientsOfRow : OpenClaim := { program := "ytbfenibkbmkcaab", sum := "5cf7f8db401b74053fdf43d8d11ab62e7b038d68f2a6ea95d14f0a30ec84a386", func := "loop.example/g01083/laws.FnExactQuotientsOf", spec := "fnExactQuotientsOf", unfollowed := true, recurses := true, plainKeys := false, apart := false }
def FnExactQuotientsOfSaid : Prop := fnExactQuotientsOfRow.holds Try.pinned (OpenSpec.ofChange fnExactQuotientsOfSpec)

/-- ITS FALSE NEIGHBOUR: 'it returns false'. Refute it at one input. -/
def fnExactQuotientsOfWrong : ChangeSpec := { name := "fnExactQuotientsOf", fn := fun _ => fun
  | [d1, d2] => { results := [.lit (.bool false)], args := [d1, d2] }
  | _ => none }
def FnExactQuotientsOfWrongFalsely : Prop := fnExactQuotientsOfRow.holds Try.pinned (OpenSpec.ofChange fnExactQuotientsOfWrong)

/- THE SECOND FORM. 'bulk': how many values and letters a reading holds, each counted each time it is reached (what is shared counts as often as it is met; a slice's spare places count too). A statement '..UptoSaid' is the law's where the arguments, and the package variables that the reading takes, are together of bulk at most 1048576: NARROWER than '..Said'. Prove '..Said' where nothing that the law and all that it calls make is longer than what came in: it says more and counts as full. Else prove '..UptoSaid'. A law counts once. -/
mutual
def uptoBulk {H : Type} : DataW H → Nat
  | .lit (.string bytes) => bytes.length + 1
  | .lit _ => 1
  | .nil => 1
  | .ptr d => uptoBulk d + 1
  | .slice elems spare => uptoBulkAll elems + uptoBulkAll spare + 1
  | .agg parts => uptoBulkAll parts + 1
  | .iface _ d => uptoBulk d + 1
  | .map entries => uptoBulkEntries entries + 1
  | .held _ => 1
def uptoBulkAll {H : Type} : List (DataW H) → Nat
  | [] => 0
  | d :: r => uptoBulk d + uptoBulkAll r
def uptoBulkEntries {H : Type} : List (Lit × DataW H) → Nat
  | [] => 0
  | x :: r => uptoBulkEntry x + uptoBulkEntries r
def uptoBulkEntry {H : Type} : Lit × DataW H → Nat
  | (.string bytes, d) => bytes.length + uptoBulk d + 1
  | (_, d) => uptoBulk d + 1
 end
def uptoSmall : (H : Type) → List (DataW H) → Bool := fun _ ds => decide (uptoBulkAll ds ≤ 1048576)
def OpenSpec.upto (s : _root_.Go.ChangeSpec) : _root_.Go.OpenSpec := { _root_.Go.OpenSpec.ofChange s with cond := some uptoSmall }

/-- 'laws.FnExactChainCategory', WHERE WHAT IT READS IS OF BULK AT MOST 1048576: true; the input reads as it did. -/
def fnExactChainCategoryUptoRow : OpenClaim := { program := "ytbfenibkbmkcaab", sum := "5cf7f8db401b74053fdf43d8d11ab62e7b038d68f2a6ea95d14f0a30ec84a386", func := "loop.example/g01083/laws.FnExactChainCategory", spec := "fnExactChainCategory", unfollowed := true, recurses := true, plainKeys := false, apart := false, narrowed := true }
def FnExactChainCategoryUptoSaid : Prop := fnExactChainCategoryUptoRow.holds Try.pinned (OpenSpec.upto fnExactChainCategorySpec)

/-- 'laws.FnExactMonoidCategory', WHERE WHAT IT READS IS OF BULK AT MOST 1048576: true; the input reads as it did. -/
def fnExactMonoidCategoryUptoRow : OpenClaim := { program := "ytbfenibkbmkcaab", sum := "5cf7f8db401b74053fdf43d8d11ab62e7b038d68f2a6ea95d14f0a30ec84a386", func := "loop.example/g01083/laws.FnExactMonoidCategory", spec := "fnExactMonoidCategory", unfollowed := true, recurses := true, plainKeys := false, apart := false, narrowed := true }
def FnExactMonoidCategoryUptoSaid : Prop := fnExactMonoidCategoryUptoRow.holds Try.pinned (OpenSpec.upto fnExactMonoidCategorySpec)

/-- 'laws.FnExactSubobjectsOf', WHERE WHAT IT READS IS OF BULK AT MOST 1048576: true; the input reads as it did. -/
def fnExactSubobjectsOfUptoRow : OpenClaim := { program := "ytbfenibkbmkcaab", sum := "5cf7f8db401b74053fdf43d8d11ab62e7b038d68f2a6ea95d14f0a30ec84a386", func := "loop.example/g01083/laws.FnExactSubobjectsOf", spec := "fnExactSubobjectsOf", unfollowed := true, recurses := true, plainKeys := false, apart := false, narrowed := true }
def FnExactSubobjectsOfUptoSaid : Prop := fnExactSubobjectsOfUptoRow.holds Try.pinned (OpenSpec.upto fnExactSubobjectsOfSpec)

/-- 'laws.FnExactQuotientsOf', WHERE WHAT IT READS IS OF BULK AT MOST 1048576: true; the input reads as it did. -/
def fnExactQuotientsOfUptoRow : OpenClaim := { program := "ytbfenibkbmkcaab", sum := "5cf7f8db401b74053fdf43d8d11ab62e7b038d68f2a6ea95d14f0a30ec84a386", func := "loop.example/g01083/laws.FnExactQuotientsOf", spec := "fnExactQuotientsOf", unfollowed := true, recurses := true, plainKeys := false, apart := false, narrowed := true }
def FnExactQuotientsOfUptoSaid : Prop := fnExactQuotientsOfUptoRow.holds Try.pinned (OpenSpec.upto fnExactQuotientsOfSpec)

end Rows
end Go.Proofs.Ytbfenibkbmkcaab
