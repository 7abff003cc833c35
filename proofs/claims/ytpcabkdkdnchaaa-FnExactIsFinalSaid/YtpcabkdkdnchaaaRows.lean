/-
  No cell of these rows narrows 'for every input' (looked for: loops, veiled, ifaces, maps, wideKeys, modest, calm, conditions, laid).
  DERIVED. THE GIVEN ROWS OF THIS SEAT. 4 by the template 'for every input the law returns true; each argument reads behind the call as it read before'; 0 by the template 'total and deterministic' (their statements: YtpcabkdkdnchaaaTotals.lean).
  GIVEN WITH THE SEED: the statements are not yours to turn. If you find one false, say at which input.
  Laid BY PROGRAM, IN A SANDBOX (cutbox-rows.mjs): the forced cells as the released guide's own fill.sh prints them over the translation d834d68017bc0f72… (all of the seat's roots in one cut). By AI agents, Wed Nov 11 2026. No macro, syntax, notation, axiom, sorry.
-/
import Derived.Test.YtpcabkdkdnchaaaChecked
import GoSem.Claim
import GoSem.ClaimJoined
import GoSem.ClaimMapViews
import Derived.JoinedTies
import Derived.KernelRfl
namespace Go.Proofs.Ytpcabkdkdnchaaa
/- THE CELL 'sum', in the pinned program and in every row, IS THE sha256 OF THE DUMP (.gsa) THAT YtpcabkdkdnchaaaProg.lean LOADS. Nothing in Lean hashes anything: it is a label: what it is worth is what the hold of that sum in a sandbox is worth. -/
noncomputable def Try.pinned : Pinned := { name := "ytpcabkdkdnchaaa", sum := "d834d68017bc0f72ff7ef4bc595860237e05338d35c3476ddc0848c51a54ac01", checked := Try.checked }
namespace Rows
def none {H : Type} : Left H := { results := [], args := [] }

/-- 'laws.FnExactCommaCategory': WHATEVER THE INPUT: true; the input reads as it did. -/
def fnExactCommaCategorySpec : ChangeSpec := { name := "fnExactCommaCategory", fn := fun _ => fun
  | [d1, d2] => { results := [.lit (.bool true)], args := [d1, d2] }
  | _ => none }
def fnExactCommaCategoryRow : OpenClaim := { program := "ytpcabkdkdnchaaa", sum := "d834d68017bc0f72ff7ef4bc595860237e05338d35c3476ddc0848c51a54ac01", func := "loop.example/g01083/laws.FnExactCommaCategory", spec := "fnExactCommaCategory", unfollowed := true, recurses := true, plainKeys := false, apart := false }
def FnExactCommaCategorySaid : Prop := fnExactCommaCategoryRow.holds Try.pinned (OpenSpec.ofChange fnExactCommaCategorySpec)

/-- ITS FALSE NEIGHBOUR: 'it returns false'. Refute it at one input. -/
def fnExactCommaCategoryWrong : ChangeSpec := { name := "fnExactCommaCategory", fn := fun _ => fun
  | [d1, d2] => { results := [.lit (.bool false)], args := [d1, d2] }
  | _ => none }
def FnExactCommaCategoryWrongFalsely : Prop := fnExactCommaCategoryRow.holds Try.pinned (OpenSpec.ofChange fnExactCommaCategoryWrong)

/-- 'laws.FnExactCommaObjects': WHATEVER THE INPUT: true; the input reads as it did. -/
def fnExactCommaObjectsSpec : ChangeSpec := { name := "fnExactCommaObjects", fn := fun _ => fun
  | [d1, d2] => { results := [.lit (.bool true)], args := [d1, d2] }
  | _ => none }
def fnExactCommaObjectsRow : OpenClaim := { program := "ytpcabkdkdnchaaa", sum := "d834d68017bc0f72ff7ef4bc595860237e05338d35c3476ddc0848c51a54ac01", func := "loop.example/g01083/laws.FnExactCommaObjects", spec := "fnExactCommaObjects", unfollowed := true, recurses := true, plainKeys := false, apart := false }
def FnExactCommaObjectsSaid : Prop := fnExactCommaObjectsRow.holds Try.pinned (OpenSpec.ofChange fnExactCommaObjectsSpec)

/-- ITS FALSE NEIGHBOUR: 'it returns false'. Refute it at one input. -/
def fnExactCommaObjectsWrong : ChangeSpec := { name := "fnExactCommaObjects", fn := fun _ => fun
  | [d1, d2] => { results := [.lit (.bool false)], args := [d1, d2] }
  | _ => none }
def FnExactCommaObjectsWrongFalsely : Prop := fnExactCommaObjectsRow.holds Try.pinned (OpenSpec.ofChange fnExactCommaObjectsWrong)

/-- 'laws.FnExactCommaArrows': WHATEVER THE INPUT: true; the input reads as it did. -/
def fnExactCommaArrowsSpec : ChangeSpec := { name := "fnExactCommaArrows", fn := fun _ => fun
  | [d1, d2] => { results := [.lit (.bool true)], args := [d1, d2] }
  | _ => none }
def fnExactCommaArrowsRow : OpenClaim := { program := "ytpcabkdkdnchaaa", sum := "d834d68017bc0f72ff7ef4bc595860237e05338d35c3476ddc0848c51a54ac01", func := "loop.example/g01083/laws.FnExactCommaArrows", spec := "fnExactCommaArrows", unfollowed := true, recurses := true, plainKeys := false, apart := false }
def FnExactCommaArrowsSaid : Prop := fnExactCommaArrowsRow.holds Try.pinned (OpenSpec.ofChange fnExactCommaArrowsSpec)

/-- ITS FALSE NEIGHBOUR: 'it returns false'. Refute it at one input. -/
def fnExactCommaArrowsWrong : ChangeSpec := { name := "fnExactCommaArrows", fn := fun _ => fun
  | [d1, d2] => { results := [.lit (.bool false)], args := [d1, d2] }
  | _ => none }
def FnExactCommaArrowsWrongFalsely : Prop := fnExactCommaArrowsRow.holds Try.pinned (OpenSpec.ofChange fnExactCommaArrowsWrong)

/-- 'laws.FnExactIsFinal': WHATEVER THE INPUT: true; the input reads as it did. -/
def fnExactIsFinalSpec : ChangeSpec := { name := "fnExactIsFinal", fn := fun _ => fun
  | [d] => { results := [.lit (.bool true)], args := [d] }
  | _ => none }
def fnExactIsFinalRow : OpenClaim := { program := "ytpcabkdkdnchaaa", sum := "d834d68017bc0f72ff7ef4bc595860237e05338d35c3476ddc0848c51a54ac01", func := "loop.example/g01083/laws.FnExactIsFinal", spec := "fnExactIsFinal", unfollowed := true, recurses := true, plainKeys := false, apart := false }
def FnExactIsFinalSaid : Prop := fnExactIsFinalRow.holds Try.pinned (OpenSpec.ofChange fnExactIsFinalSpec)

/-- ITS FALSE NEIGHBOUR: 'it returns false'. Refute it at one input. -/
def fnExactIsFinalWrong : ChangeSpec := { name := "fnExactIsFinal", fn := fun _ => fun
  | [d] => { results := [.lit (.bool false)], args := [d] }
  | _ => none }
def FnExactIsFinalWrongFalsely : Prop := fnExactIsFinalRow.holds Try.pinned (OpenSpec.ofChange fnExactIsFinalWrong)

/- THE SECOND FORM. 'bulk': how many values and letters a reading holds, each counted each time it is reached (what is shared counts as often as it is met; a slice's spare places count too). A statement '..UptoSaid' is the law's where the arguments, and the package variables that the reading takes, are together of bulk at most 1048576: NARROWER than '..Said'. Prove '..Said' where nothing that the law and all that it calls make is longer than what came in: it says more and counts as full. Else prove '..UptoSaid'. A law counts once. -/
mutual
def uptoBulk {H : Type} : DataW H → Nat
  | .lit (.string bytes) => bytes.length + 1
  | .lit _ => 1
  | .nil => 1
  | .ptr d => uptoBulk d + 1
  | .slice elems spare => uptoBulkAll elems + uptoBulkAll spare + 1
  | .agg parts => uptoBulkAll parts + 1
  | .iface _ d => uptoBulk d + 1
  | .map entries => uptoBulkEntries entries + 1
  | .held _ => 1
def uptoBulkAll {H : Type} : List (DataW H) → Nat
  | [] => 0
  | d :: r => uptoBulk d + uptoBulkAll r
def uptoBulkEntries {H : Type} : List (Lit × DataW H) → Nat
  | [] => 0
  | x :: r => uptoBulkEntry x + uptoBulkEntries r
def uptoBulkEntry {H : Type} : Lit × DataW H → Nat
  | (.string bytes, d) => bytes.length + uptoBulk d + 1
  | (_, d) => uptoBulk d + 1
 end
def uptoSmall : (H : Type) → List (DataW H) → Bool := fun _ ds => decide (uptoBulkAll ds ≤ 1048576)
def OpenSpec.upto (s : _root_.Go.ChangeSpec) : _root_.Go.OpenSpec := { _root_.Go.OpenSpec.ofChange s with cond := some uptoSmall }

/-- 'laws.FnExactCommaCategory', WHERE WHAT IT READS IS OF BULK AT MOST 1048576: true; the input reads as it did. -/
def fnExactCommaCategoryUptoRow : OpenClaim := { program := "ytpcabkdkdnchaaa", sum := "d834d68017bc0f72ff7ef4bc595860237e05338d35c3476ddc0848c51a54ac01", func := "loop.example/g01083/laws.FnExactCommaCategory", spec := "fnExactCommaCategory", unfollowed := true, recurses := true, plainKeys := false, apart := false, narrowed := true }
def FnExactCommaCategoryUptoSaid : Prop := fnExactCommaCategoryUptoRow.holds Try.pinned (OpenSpec.upto fnExactCommaCategorySpec)

/-- 'laws.FnExactCommaObjects', WHERE WHAT IT READS IS OF BULK AT MOST 1048576: true; the input reads as it did. -/
def fnExactCommaObjectsUptoRow : OpenClaim := { program := "ytpcabkdkdnchaaa", sum := "d834d68017bc0f72ff7ef4bc595860237e05338d35c3476ddc0848c51a54ac01", func := "loop.example/g01083/laws.FnExactCommaObjects", spec := "fnExactCommaObjects", unfollowed := true, recurses := true, plainKeys := false, apart := false, narrowed := true }
def FnExactCommaObjectsUptoSaid : Prop := fnExactCommaObjectsUptoRow.holds Try.pinned (OpenSpec.upto fnExactCommaObjectsSpec)

/-- 'laws.FnExactCommaArrows', WHERE WHAT IT READS IS OF BULK AT MOST 1048576: true; the input reads as it did. -/
def fnExactCommaArrowsUptoRow : OpenClaim := { program := "ytpcabkdkdnchaaa", sum := "d834d68017bc0f72ff7ef4bc595860237e05338d35c3476ddc0848c51a54ac01", func := "loop.example/g01083/laws.FnExactCommaArrows", spec := "fnExactCommaArrows", unfollowed := true, recurses := true, plainKeys := false, apart := false, narrowed := true }
def FnExactCommaArrowsUptoSaid : Prop := fnExactCommaArrowsUptoRow.holds Try.pinned (OpenSpec.upto fnExactCommaArrowsSpec)

/-- 'laws.FnExactIsFinal', WHERE WHAT IT READS IS OF BULK AT MOST 1048576: true; the input reads as it did. -/
def fnExactIsFinalUptoRow : OpenClaim := { program := "ytpcabkdkdnchaaa", sum := "d834d68017bc0f72ff7ef4bc595860237e05338d35c3476ddc0848c51a54ac01", func := "loop.example/g01083/laws.FnExactIsFinal", spec := "fnExactIsFinal", unfollowed := true, recurses := true, plainKeys := false, apart := false, narrowed := true }
def FnExactIsFinalUptoSaid : Prop := fnExactIsFinalUptoRow.holds Try.pinned (OpenSpec.upto fnExactIsFinalSpec)

end Rows
end Go.Proofs.Ytpcabkdkdnchaaa
