/-
  No cell of these rows narrows 'for every input' (looked for: loops, veiled, ifaces, maps, wideKeys, modest, calm, conditions, laid).
  DERIVED. THE GIVEN ROWS OF THIS SEAT. 10 by the template 'for every input the law returns true; each argument reads behind the call as it read before'; 0 by the template 'total and deterministic' (their statements: YtpppoipaabofgaaTotals.lean).
  GIVEN WITH THE SEED: the statements are not yours to turn. If you find one false, say at which input.
  Laid BY PROGRAM, IN A SANDBOX (cutbox-rows.mjs): the forced cells as the released guide's own fill.sh prints them over the translation d5ce57020132c6e6… (all of the seat's roots in one cut). By AI agents, Wed Nov 11 2026. No macro, syntax, notation, axiom, sorry.
-/
import Derived.Test.YtpppoipaabofgaaChecked
import GoSem.Claim
import GoSem.ClaimJoined
import GoSem.ClaimMapViews
import Derived.JoinedTies
import Derived.KernelRfl
namespace Go.Proofs.Ytpppoipaabofgaa
/- THE CELL 'sum', in the pinned program and in every row, IS THE sha256 OF THE DUMP (.gsa) THAT YtpppoipaabofgaaProg.lean LOADS. Nothing in Lean hashes anything: it is a label: what it is worth is what the hold of that sum in a sandbox is worth. -/
noncomputable def Try.pinned : Pinned := { name := "ytpppoipaabofgaa", sum := "d5ce57020132c6e669d8948fc82a089a241a3c5a29faada8abbac1938a9d196e", checked := Try.checked }
namespace Rows
def none {H : Type} : Left H := { results := [], args := [] }

/-- 'laws.FnExactIsTransformation': WHATEVER THE INPUT: true; the input reads as it did. -/
def fnExactIsTransformationSpec : ChangeSpec := { name := "fnExactIsTransformation", fn := fun _ => fun
  | [d] => { results := [.lit (.bool true)], args := [d] }
  | _ => none }
def fnExactIsTransformationRow : OpenClaim := { program := "ytpppoipaabofgaa", sum := "d5ce57020132c6e669d8948fc82a089a241a3c5a29faada8abbac1938a9d196e", func := "loop.example/g01083/laws.FnExactIsTransformation", spec := "fnExactIsTransformation", unfollowed := true, recurses := true, apart := false }
def FnExactIsTransformationSaid : Prop := fnExactIsTransformationRow.holds Try.pinned (OpenSpec.ofChange fnExactIsTransformationSpec)

/-- ITS FALSE NEIGHBOUR: 'it returns false'. Refute it at one input. -/
def fnExactIsTransformationWrong : ChangeSpec := { name := "fnExactIsTransformation", fn := fun _ => fun
  | [d] => { results := [.lit (.bool false)], args := [d] }
  | _ => none }
def FnExactIsTransformationWrongFalsely : Prop := fnExactIsTransformationRow.holds Try.pinned (OpenSpec.ofChange fnExactIsTransformationWrong)

/-- 'laws.FnExactFirstUnnatural': WHATEVER THE INPUT: true; the input reads as it did. -/
def fnExactFirstUnnaturalSpec : ChangeSpec := { name := "fnExactFirstUnnatural", fn := fun _ => fun
  | [d] => { results := [.lit (.bool true)], args := [d] }
  | _ => none }
def fnExactFirstUnnaturalRow : OpenClaim := { program := "ytpppoipaabofgaa", sum := "d5ce57020132c6e669d8948fc82a089a241a3c5a29faada8abbac1938a9d196e", func := "loop.example/g01083/laws.FnExactFirstUnnatural", spec := "fnExactFirstUnnatural", unfollowed := true, recurses := true, apart := false }
def FnExactFirstUnnaturalSaid : Prop := fnExactFirstUnnaturalRow.holds Try.pinned (OpenSpec.ofChange fnExactFirstUnnaturalSpec)

/-- ITS FALSE NEIGHBOUR: 'it returns false'. Refute it at one input. -/
def fnExactFirstUnnaturalWrong : ChangeSpec := { name := "fnExactFirstUnnatural", fn := fun _ => fun
  | [d] => { results := [.lit (.bool false)], args := [d] }
  | _ => none }
def FnExactFirstUnnaturalWrongFalsely : Prop := fnExactFirstUnnaturalRow.holds Try.pinned (OpenSpec.ofChange fnExactFirstUnnaturalWrong)

/-- 'laws.FnExactIdentityTransformation': WHATEVER THE INPUT: true; the input reads as it did. -/
def fnExactIdentityTransformationSpec : ChangeSpec := { name := "fnExactIdentityTransformation", fn := fun _ => fun
  | [d] => { results := [.lit (.bool true)], args := [d] }
  | _ => none }
def fnExactIdentityTransformationRow : OpenClaim := { program := "ytpppoipaabofgaa", sum := "d5ce57020132c6e669d8948fc82a089a241a3c5a29faada8abbac1938a9d196e", func := "loop.example/g01083/laws.FnExactIdentityTransformation", spec := "fnExactIdentityTransformation", apart := false }
def FnExactIdentityTransformationSaid : Prop := fnExactIdentityTransformationRow.holds Try.pinned (OpenSpec.ofChange fnExactIdentityTransformationSpec)

/-- ITS FALSE NEIGHBOUR: 'it returns false'. Refute it at one input. -/
def fnExactIdentityTransformationWrong : ChangeSpec := { name := "fnExactIdentityTransformation", fn := fun _ => fun
  | [d] => { results := [.lit (.bool false)], args := [d] }
  | _ => none }
def FnExactIdentityTransformationWrongFalsely : Prop := fnExactIdentityTransformationRow.holds Try.pinned (OpenSpec.ofChange fnExactIdentityTransformationWrong)

/-- 'laws.FnExactThenTransformations': WHATEVER THE INPUT: true; the input reads as it did. -/
def fnExactThenTransformationsSpec : ChangeSpec := { name := "fnExactThenTransformations", fn := fun _ => fun
  | [d1, d2] => { results := [.lit (.bool true)], args := [d1, d2] }
  | _ => none }
def fnExactThenTransformationsRow : OpenClaim := { program := "ytpppoipaabofgaa", sum := "d5ce57020132c6e669d8948fc82a089a241a3c5a29faada8abbac1938a9d196e", func := "loop.example/g01083/laws.FnExactThenTransformations", spec := "fnExactThenTransformations", unfollowed := true, recurses := true, apart := false }
def FnExactThenTransformationsSaid : Prop := fnExactThenTransformationsRow.holds Try.pinned (OpenSpec.ofChange fnExactThenTransformationsSpec)

/-- ITS FALSE NEIGHBOUR: 'it returns false'. Refute it at one input. -/
def fnExactThenTransformationsWrong : ChangeSpec := { name := "fnExactThenTransformations", fn := fun _ => fun
  | [d1, d2] => { results := [.lit (.bool false)], args := [d1, d2] }
  | _ => none }
def FnExactThenTransformationsWrongFalsely : Prop := fnExactThenTransformationsRow.holds Try.pinned (OpenSpec.ofChange fnExactThenTransformationsWrong)

/-- 'laws.FnExactFunctorBefore': WHATEVER THE INPUT: true; the input reads as it did. -/
def fnExactFunctorBeforeSpec : ChangeSpec := { name := "fnExactFunctorBefore", fn := fun _ => fun
  | [d1, d2] => { results := [.lit (.bool true)], args := [d1, d2] }
  | _ => none }
def fnExactFunctorBeforeRow : OpenClaim := { program := "ytpppoipaabofgaa", sum := "d5ce57020132c6e669d8948fc82a089a241a3c5a29faada8abbac1938a9d196e", func := "loop.example/g01083/laws.FnExactFunctorBefore", spec := "fnExactFunctorBefore", unfollowed := true, recurses := true, apart := false }
def FnExactFunctorBeforeSaid : Prop := fnExactFunctorBeforeRow.holds Try.pinned (OpenSpec.ofChange fnExactFunctorBeforeSpec)

/-- ITS FALSE NEIGHBOUR: 'it returns false'. Refute it at one input. -/
def fnExactFunctorBeforeWrong : ChangeSpec := { name := "fnExactFunctorBefore", fn := fun _ => fun
  | [d1, d2] => { results := [.lit (.bool false)], args := [d1, d2] }
  | _ => none }
def FnExactFunctorBeforeWrongFalsely : Prop := fnExactFunctorBeforeRow.holds Try.pinned (OpenSpec.ofChange fnExactFunctorBeforeWrong)

/-- 'laws.FnExactFunctorBehind': WHATEVER THE INPUT: true; the input reads as it did. -/
def fnExactFunctorBehindSpec : ChangeSpec := { name := "fnExactFunctorBehind", fn := fun _ => fun
  | [d1, d2] => { results := [.lit (.bool true)], args := [d1, d2] }
  | _ => none }
def fnExactFunctorBehindRow : OpenClaim := { program := "ytpppoipaabofgaa", sum := "d5ce57020132c6e669d8948fc82a089a241a3c5a29faada8abbac1938a9d196e", func := "loop.example/g01083/laws.FnExactFunctorBehind", spec := "fnExactFunctorBehind", unfollowed := true, recurses := true, apart := false }
def FnExactFunctorBehindSaid : Prop := fnExactFunctorBehindRow.holds Try.pinned (OpenSpec.ofChange fnExactFunctorBehindSpec)

/-- ITS FALSE NEIGHBOUR: 'it returns false'. Refute it at one input. -/
def fnExactFunctorBehindWrong : ChangeSpec := { name := "fnExactFunctorBehind", fn := fun _ => fun
  | [d1, d2] => { results := [.lit (.bool false)], args := [d1, d2] }
  | _ => none }
def FnExactFunctorBehindWrongFalsely : Prop := fnExactFunctorBehindRow.holds Try.pinned (OpenSpec.ofChange fnExactFunctorBehindWrong)

/-- 'laws.FnExactHorizontalComposite': WHATEVER THE INPUT: true; the input reads as it did. -/
def fnExactHorizontalCompositeSpec : ChangeSpec := { name := "fnExactHorizontalComposite", fn := fun _ => fun
  | [d1, d2] => { results := [.lit (.bool true)], args := [d1, d2] }
  | _ => none }
def fnExactHorizontalCompositeRow : OpenClaim := { program := "ytpppoipaabofgaa", sum := "d5ce57020132c6e669d8948fc82a089a241a3c5a29faada8abbac1938a9d196e", func := "loop.example/g01083/laws.FnExactHorizontalComposite", spec := "fnExactHorizontalComposite", unfollowed := true, recurses := true, apart := false }
def FnExactHorizontalCompositeSaid : Prop := fnExactHorizontalCompositeRow.holds Try.pinned (OpenSpec.ofChange fnExactHorizontalCompositeSpec)

/-- ITS FALSE NEIGHBOUR: 'it returns false'. Refute it at one input. -/
def fnExactHorizontalCompositeWrong : ChangeSpec := { name := "fnExactHorizontalComposite", fn := fun _ => fun
  | [d1, d2] => { results := [.lit (.bool false)], args := [d1, d2] }
  | _ => none }
def FnExactHorizontalCompositeWrongFalsely : Prop := fnExactHorizontalCompositeRow.holds Try.pinned (OpenSpec.ofChange fnExactHorizontalCompositeWrong)

/-- 'laws.FnExactIsNaturalIsomorphism': WHATEVER THE INPUT: true; the input reads as it did. -/
def fnExactIsNaturalIsomorphismSpec : ChangeSpec := { name := "fnExactIsNaturalIsomorphism", fn := fun _ => fun
  | [d] => { results := [.lit (.bool true)], args := [d] }
  | _ => none }
def fnExactIsNaturalIsomorphismRow : OpenClaim := { program := "ytpppoipaabofgaa", sum := "d5ce57020132c6e669d8948fc82a089a241a3c5a29faada8abbac1938a9d196e", func := "loop.example/g01083/laws.FnExactIsNaturalIsomorphism", spec := "fnExactIsNaturalIsomorphism", unfollowed := true, recurses := true, apart := false }
def FnExactIsNaturalIsomorphismSaid : Prop := fnExactIsNaturalIsomorphismRow.holds Try.pinned (OpenSpec.ofChange fnExactIsNaturalIsomorphismSpec)

/-- ITS FALSE NEIGHBOUR: 'it returns false'. Refute it at one input. -/
def fnExactIsNaturalIsomorphismWrong : ChangeSpec := { name := "fnExactIsNaturalIsomorphism", fn := fun _ => fun
  | [d] => { results := [.lit (.bool false)], args := [d] }
  | _ => none }
def FnExactIsNaturalIsomorphismWrongFalsely : Prop := fnExactIsNaturalIsomorphismRow.holds Try.pinned (OpenSpec.ofChange fnExactIsNaturalIsomorphismWrong)

/-- 'laws.FnExactInverseTransformation': WHATEVER THE INPUT: true; the input reads as it did. -/
def fnExactInverseTransformationSpec : ChangeSpec := { name := "fnExactInverseTransformation", fn := fun _ => fun
  | [d] => { results := [.lit (.bool true)], args := [d] }
  | _ => none }
def fnExactInverseTransformationRow : OpenClaim := { program := "ytpppoipaabofgaa", sum := "d5ce57020132c6e669d8948fc82a089a241a3c5a29faada8abbac1938a9d196e", func := "loop.example/g01083/laws.FnExactInverseTransformation", spec := "fnExactInverseTransformation", unfollowed := true, recurses := true, apart := false }
def FnExactInverseTransformationSaid : Prop := fnExactInverseTransformationRow.holds Try.pinned (OpenSpec.ofChange fnExactInverseTransformationSpec)

/-- ITS FALSE NEIGHBOUR: 'it returns false'. Refute it at one input. -/
def fnExactInverseTransformationWrong : ChangeSpec := { name := "fnExactInverseTransformation", fn := fun _ => fun
  | [d] => { results := [.lit (.bool false)], args := [d] }
  | _ => none }
def FnExactInverseTransformationWrongFalsely : Prop := fnExactInverseTransformationRow.holds Try.pinned (OpenSpec.ofChange fnExactInverseTransformationWrong)

/-- 'laws.FnExactThenFunctors': WHATEVER THE INPUT: true; the input reads as it did. -/
def fnExactThenFunctorsSpec : ChangeSpec := { name := "fnExactThenFunctors", fn := fun _ => fun
  | [d1, d2] => { results := [.lit (.bool true)], args := [d1, d2] }
  | _ => none }
def fnExactThenFunctorsRow : OpenClaim := { program := "ytpppoipaabofgaa", sum := "d5ce57020132c6e669d8948fc82a089a241a3c5a29faada8abbac1938a9d196e", func := "loop.example/g01083/laws.FnExactThenFunctors", spec := "fnExactThenFunctors", unfollowed := true, recurses := true, apart := false }
def FnExactThenFunctorsSaid : Prop := fnExactThenFunctorsRow.holds Try.pinned (OpenSpec.ofChange fnExactThenFunctorsSpec)

/-- ITS FALSE NEIGHBOUR: 'it returns false'. Refute it at one input. -/
def fnExactThenFunctorsWrong : ChangeSpec := { name := "fnExactThenFunctors", fn := fun _ => fun
  | [d1, d2] => { results := [.lit (.bool false)], args := [d1, d2] }
  | _ => none }
def FnExactThenFunctorsWrongFalsely : Prop := fnExactThenFunctorsRow.holds Try.pinned (OpenSpec.ofChange fnExactThenFunctorsWrong)

/- THE SECOND FORM. 'bulk': how many values and letters a reading holds, each counted each time it is reached (what is shared counts as often as it is met; a slice's spare places count too). A statement '..UptoSaid' is the law's where the arguments, and the package variables that the reading takes, are together of bulk at most 1048576: NARROWER than '..Said'. Prove '..Said' where nothing that the law and all that it calls make is longer than what came in: it says more and counts as full. Else prove '..UptoSaid'. A law counts once. -/
mutual
def uptoBulk {H : Type} : DataW H → Nat
  | .lit (.string bytes) => bytes.length + 1
  | .lit _ => 1
  | .nil => 1
  | .ptr d => uptoBulk d + 1
  | .slice elems spare => uptoBulkAll elems + uptoBulkAll spare + 1
  | .agg parts => uptoBulkAll parts + 1
  | .iface _ d => uptoBulk d + 1
  | .map entries => uptoBulkEntries entries + 1
  | .held _ => 1
def uptoBulkAll {H : Type} : List (DataW H) → Nat
  | [] => 0
  | d :: r => uptoBulk d + uptoBulkAll r
def uptoBulkEntries {H : Type} : List (Lit × DataW H) → Nat
  | [] => 0
  | x :: r => uptoBulkEntry x + uptoBulkEntries r
def uptoBulkEntry {H : Type} : Lit × DataW H → Nat
  | (.string bytes, d) => bytes.length + uptoBulk d + 1
  | (_, d) => uptoBulk d + 1
 end
def uptoSmall : (H : Type) → List (DataW H) → Bool := fun _ ds => decide (uptoBulkAll ds ≤ 1048576)
def OpenSpec.upto (s : _root_.Go.ChangeSpec) : _root_.Go.OpenSpec := { _root_.Go.OpenSpec.ofChange s with cond := some uptoSmall }

/-- 'laws.FnExactIsTransformation', WHERE WHAT IT READS IS OF BULK AT MOST 1048576: true; the input reads as it did. -/
def fnExactIsTransformationUptoRow : OpenClaim := { program := "ytpppoipaabofgaa", sum := "d5ce57020132c6e669d8948fc82a089a241a3c5a29faada8abbac1938a9d196e", func := "loop.example/g01083/laws.FnExactIsTransformation", spec := "fnExactIsTransformation", unfollowed := true, recurses := true, apart := false, narrowed := true }
def FnExactIsTransformationUptoSaid : Prop := fnExactIsTransformationUptoRow.holds Try.pinned (OpenSpec.upto fnExactIsTransformationSpec)

/-- 'laws.FnExactFirstUnnatural', WHERE WHAT IT READS IS OF BULK AT MOST 1048576: true; the input reads as it did. -/
def fnExactFirstUnnaturalUptoRow : OpenClaim := { program := "ytpppoipaabofgaa", sum := "d5ce57020132c6e669d8948fc82a089a241a3c5a29faada8abbac1938a9d196e", func := "loop.example/g01083/laws.FnExactFirstUnnatural", spec := "fnExactFirstUnnatural", unfollowed := true, recurses := true, apart := false, narrowed := true }
def FnExactFirstUnnaturalUptoSaid : Prop := fnExactFirstUnnaturalUptoRow.holds Try.pinned (OpenSpec.upto fnExactFirstUnnaturalSpec)

/-- 'laws.FnExactIdentityTransformation', WHERE WHAT IT READS IS OF BULK AT MOST 1048576: true; the input reads as it did. -/
def fnExactIdentityTransformationUptoRow : OpenClaim := { program := "ytpppoipaabofgaa", sum := "d5ce57020132c6e669d8948fc82a089a241a3c5a29faada8abbac1938a9d196e", func := "loop.example/g01083/laws.FnExactIdentityTransformation", spec := "fnExactIdentityTransformation", apart := false, narrowed := true }
def FnExactIdentityTransformationUptoSaid : Prop := fnExactIdentityTransformationUptoRow.holds Try.pinned (OpenSpec.upto fnExactIdentityTransformationSpec)

/-- 'laws.FnExactThenTransformations', WHERE WHAT IT READS IS OF BULK AT MOST 1048576: true; the input reads as it did. -/
def fnExactThenTransformationsUptoRow : OpenClaim := { program := "ytpppoipaabofgaa", sum := "d5ce57020132c6e669d8948fc82a089a241a3c5a29faada8abbac1938a9d196e", func := "loop.example/g01083/laws.FnExactThenTransformations", spec := "fnExactThenTransformations", unfollowed := true, recurses := true, apart := false, narrowed := true }
def FnExactThenTransformationsUptoSaid : Prop := fnExactThenTransformationsUptoRow.holds Try.pinned (OpenSpec.upto fnExactThenTransformationsSpec)

/-- 'laws.FnExactFunctorBefore', WHERE WHAT IT READS IS OF BULK AT MOST 1048576: true; the input reads as it did. -/
def fnExactFunctorBeforeUptoRow : OpenClaim := { program := "ytpppoipaabofgaa", sum := "d5ce57020132c6e669d8948fc82a089a241a3c5a29faada8abbac1938a9d196e", func := "loop.example/g01083/laws.FnExactFunctorBefore", spec := "fnExactFunctorBefore", unfollowed := true, recurses := true, apart := false, narrowed := true }
def FnExactFunctorBeforeUptoSaid : Prop := fnExactFunctorBeforeUptoRow.holds Try.pinned (OpenSpec.upto fnExactFunctorBeforeSpec)

/-- 'laws.FnExactFunctorBehind', WHERE WHAT IT READS IS OF BULK AT MOST 1048576: true; the input reads as it did. -/
def fnExactFunctorBehindUptoRow : OpenClaim := { program := "ytpppoipaabofgaa", sum := "d5ce57020132c6e669d8948fc82a089a241a3c5a29faada8abbac1938a9d196e", func := "loop.example/g01083/laws.FnExactFunctorBehind", spec := "fnExactFunctorBehind", unfollowed := true, recurses := true, apart := false, narrowed := true }
def FnExactFunctorBehindUptoSaid : Prop := fnExactFunctorBehindUptoRow.holds Try.pinned (OpenSpec.upto fnExactFunctorBehindSpec)

/-- 'laws.FnExactHorizontalComposite', WHERE WHAT IT READS IS OF BULK AT MOST 1048576: true; the input reads as it did. -/
def fnExactHorizontalCompositeUptoRow : OpenClaim := { program := "ytpppoipaabofgaa", sum := "d5ce57020132c6e669d8948fc82a089a241a3c5a29faada8abbac1938a9d196e", func := "loop.example/g01083/laws.FnExactHorizontalComposite", spec := "fnExactHorizontalComposite", unfollowed := true, recurses := true, apart := false, narrowed := true }
def FnExactHorizontalCompositeUptoSaid : Prop := fnExactHorizontalCompositeUptoRow.holds Try.pinned (OpenSpec.upto fnExactHorizontalCompositeSpec)

/-- 'laws.FnExactIsNaturalIsomorphism', WHERE WHAT IT READS IS OF BULK AT MOST 1048576: true; the input reads as it did. -/
def fnExactIsNaturalIsomorphismUptoRow : OpenClaim := { program := "ytpppoipaabofgaa", sum := "d5ce57020132c6e669d8948fc82a089a241a3c5a29faada8abbac1938a9d196e", func := "loop.example/g01083/laws.FnExactIsNaturalIsomorphism", spec := "fnExactIsNaturalIsomorphism", unfollowed := true, recurses := true, apart := false, narrowed := true }
def FnExactIsNaturalIsomorphismUptoSaid : Prop := fnExactIsNaturalIsomorphismUptoRow.holds Try.pinned (OpenSpec.upto fnExactIsNaturalIsomorphismSpec)

/-- 'laws.FnExactInverseTransformation', WHERE WHAT IT READS IS OF BULK AT MOST 1048576: true; the input reads as it did. -/
def fnExactInverseTransformationUptoRow : OpenClaim := { program := "ytpppoipaabofgaa", sum := "d5ce57020132c6e669d8948fc82a089a241a3c5a29faada8abbac1938a9d196e", func := "loop.example/g01083/laws.FnExactInverseTransformation", spec := "fnExactInverseTransformation", unfollowed := true, recurses := true, apart := false, narrowed := true }
def FnExactInverseTransformationUptoSaid : Prop := fnExactInverseTransformationUptoRow.holds Try.pinned (OpenSpec.upto fnExactInverseTransformationSpec)

/-- 'laws.FnExactThenFunctors', WHERE WHAT IT READS IS OF BULK AT MOST 1048576: true; the input reads as it did. -/
def fnExactThenFunctorsUptoRow : OpenClaim := { program := "ytpppoipaabofgaa", sum := "d5ce57020132c6e669d8948fc82a089a241a3c5a29faada8abbac1938a9d196e", func := "loop.example/g01083/laws.FnExactThenFunctors", spec := "fnExactThenFunctors", unfollowed := true, recurses := true, apart := false, narrowed := true }
def FnExactThenFunctorsUptoSaid : Prop := fnExactThenFunctorsUptoRow.holds Try.pinned (OpenSpec.upto fnExactThenFunctorsSpec)

end Rows
end Go.Proofs.Ytpppoipaabofgaa
