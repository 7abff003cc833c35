/-
  No cell of these rows narrows 'for every input' (looked for: loops, veiled, ifaces, maps, wideKeys, modest, calm, conditions, laid).
  DERIVED. THE GIVEN ROWS OF THIS SEAT. 12 by the template 'for every input the law returns true; each argument reads behind the call as it read before'; 0 by the template 'total and deterministic' (their statements: YtpfcfhjpgngneaaTotals.lean).
  GIVEN WITH THE SEED: the statements are not yours to turn. If you find one false, say at which input.
  Laid BY PROGRAM, IN A SANDBOX (cutbox-rows.mjs): the forced cells as the released guide's own fill.sh prints them over the translation 9d8edbd0d548b4ac… (all of the seat's roots in one cut). By AI agents, Wed Nov 11 2026. No macro, syntax, notation, axiom, sorry.
-/
import Derived.Test.YtpfcfhjpgngneaaChecked
import GoSem.Claim
import GoSem.ClaimJoined
import GoSem.ClaimMapViews
import Derived.JoinedTies
import Derived.KernelRfl
namespace Go.Proofs.Ytpfcfhjpgngneaa
/- THE CELL 'sum', in the pinned program and in every row, IS THE sha256 OF THE DUMP (.gsa) THAT YtpfcfhjpgngneaaProg.lean LOADS. Nothing in Lean hashes anything: it is a label: what it is worth is what the hold of that sum in a sandbox is worth. -/
noncomputable def Try.pinned : Pinned := { name := "ytpfcfhjpgngneaa", sum := "9d8edbd0d548b4ac8d2a1fc6b332ef71eed549fbc722209b2ab487cec5f6cf66", checked := Try.checked }
namespace Rows
def none {H : Type} : Left H := { results := [], args := [] }

/-- 'laws.FnExactIsFunctor': WHATEVER THE INPUT: true; the input reads as it did. -/
def fnExactIsFunctorSpec : ChangeSpec := { name := "fnExactIsFunctor", fn := fun _ => fun
  | [d] => { results := [.lit (.bool true)], args := [d] }
  | _ => none }
def fnExactIsFunctorRow : OpenClaim := { program := "ytpfcfhjpgngneaa", sum := "9d8edbd0d548b4ac8d2a1fc6b332ef71eed549fbc722209b2ab487cec5f6cf66", func := "loop.example/g01083/laws.FnExactIsFunctor", spec := "fnExactIsFunctor", plainKeys := false, apart := false }
def FnExactIsFunctorSaid : Prop := fnExactIsFunctorRow.holds Try.pinned (OpenSpec.ofChange fnExactIsFunctorSpec)

/-- ITS FALSE NEIGHBOUR: 'it returns false'. Refute it at one input. -/
def fnExactIsFunctorWrong : ChangeSpec := { name := "fnExactIsFunctor", fn := fun _ => fun
  | [d] => { results := [.lit (.bool false)], args := [d] }
  | _ => none }
def FnExactIsFunctorWrongFalsely : Prop := fnExactIsFunctorRow.holds Try.pinned (OpenSpec.ofChange fnExactIsFunctorWrong)

/-- 'laws.FnExactIdentityFunctor': WHATEVER THE INPUT: true; the input reads as it did. -/
def fnExactIdentityFunctorSpec : ChangeSpec := { name := "fnExactIdentityFunctor", fn := fun _ => fun
  | [d] => { results := [.lit (.bool true)], args := [d] }
  | _ => none }
def fnExactIdentityFunctorRow : OpenClaim := { program := "ytpfcfhjpgngneaa", sum := "9d8edbd0d548b4ac8d2a1fc6b332ef71eed549fbc722209b2ab487cec5f6cf66", func := "loop.example/g01083/laws.FnExactIdentityFunctor", spec := "fnExactIdentityFunctor", unfollowed := true, recurses := true, plainKeys := false, apart := false }
def FnExactIdentityFunctorSaid : Prop := fnExactIdentityFunctorRow.holds Try.pinned (OpenSpec.ofChange fnExactIdentityFunctorSpec)

/-- ITS FALSE NEIGHBOUR: 'it returns false'. Refute it at one input. -/
def fnExactIdentityFunctorWrong : ChangeSpec := { name := "fnExactIdentityFunctor", fn := fun _ => fun
  | [d] => { results := [.lit (.bool false)], args := [d] }
  | _ => none }
def FnExactIdentityFunctorWrongFalsely : Prop := fnExactIdentityFunctorRow.holds Try.pinned (OpenSpec.ofChange fnExactIdentityFunctorWrong)

/-- 'laws.FnExactConstantFunctor': WHATEVER THE INPUT: true; the input reads as it did. -/
def fnExactConstantFunctorSpec : ChangeSpec := { name := "fnExactConstantFunctor", fn := fun _ => fun
  | [d1, d2, d3] => { results := [.lit (.bool true)], args := [d1, d2, d3] }
  | _ => none }
def fnExactConstantFunctorRow : OpenClaim := { program := "ytpfcfhjpgngneaa", sum := "9d8edbd0d548b4ac8d2a1fc6b332ef71eed549fbc722209b2ab487cec5f6cf66", func := "loop.example/g01083/laws.FnExactConstantFunctor", spec := "fnExactConstantFunctor", unfollowed := true, recurses := true, plainKeys := false, apart := false }
def FnExactConstantFunctorSaid : Prop := fnExactConstantFunctorRow.holds Try.pinned (OpenSpec.ofChange fnExactConstantFunctorSpec)

/-- ITS FALSE NEIGHBOUR: 'it returns false'. Refute it at one input. -/
def fnExactConstantFunctorWrong : ChangeSpec := { name := "fnExactConstantFunctor", fn := fun _ => fun
  | [d1, d2, d3] => { results := [.lit (.bool false)], args := [d1, d2, d3] }
  | _ => none }
def FnExactConstantFunctorWrongFalsely : Prop := fnExactConstantFunctorRow.holds Try.pinned (OpenSpec.ofChange fnExactConstantFunctorWrong)

/-- 'laws.FnExactThenFunctors': WHATEVER THE INPUT: true; the input reads as it did. -/
def fnExactThenFunctorsSpec : ChangeSpec := { name := "fnExactThenFunctors", fn := fun _ => fun
  | [d1, d2] => { results := [.lit (.bool true)], args := [d1, d2] }
  | _ => none }
def fnExactThenFunctorsRow : OpenClaim := { program := "ytpfcfhjpgngneaa", sum := "9d8edbd0d548b4ac8d2a1fc6b332ef71eed549fbc722209b2ab487cec5f6cf66", func := "loop.example/g01083/laws.FnExactThenFunctors", spec := "fnExactThenFunctors", unfollowed := true, recurses := true, plainKeys := false, apart := false }
def FnExactThenFunctorsSaid : Prop := fnExactThenFunctorsRow.holds Try.pinned (OpenSpec.ofChange fnExactThenFunctorsSpec)

/-- ITS FALSE NEIGHBOUR: 'it returns false'. Refute it at one input. -/
def fnExactThenFunctorsWrong : ChangeSpec := { name := "fnExactThenFunctors", fn := fun _ => fun
  | [d1, d2] => { results := [.lit (.bool false)], args := [d1, d2] }
  | _ => none }
def FnExactThenFunctorsWrongFalsely : Prop := fnExactThenFunctorsRow.holds Try.pinned (OpenSpec.ofChange fnExactThenFunctorsWrong)

/-- 'laws.FnExactIsFaithful': WHATEVER THE INPUT: true; the input reads as it did. -/
def fnExactIsFaithfulSpec : ChangeSpec := { name := "fnExactIsFaithful", fn := fun _ => fun
  | [d] => { results := [.lit (.bool true)], args := [d] }
  | _ => none }
def fnExactIsFaithfulRow : OpenClaim := { program := "ytpfcfhjpgngneaa", sum := "9d8edbd0d548b4ac8d2a1fc6b332ef71eed549fbc722209b2ab487cec5f6cf66", func := "loop.example/g01083/laws.FnExactIsFaithful", spec := "fnExactIsFaithful", unfollowed := true, recurses := true, plainKeys := false, apart := false }
def FnExactIsFaithfulSaid : Prop := fnExactIsFaithfulRow.holds Try.pinned (OpenSpec.ofChange fnExactIsFaithfulSpec)

/-- ITS FALSE NEIGHBOUR: 'it returns false'. Refute it at one input. -/
def fnExactIsFaithfulWrong : ChangeSpec := { name := "fnExactIsFaithful", fn := fun _ => fun
  | [d] => { results := [.lit (.bool false)], args := [d] }
  | _ => none }
def FnExactIsFaithfulWrongFalsely : Prop := fnExactIsFaithfulRow.holds Try.pinned (OpenSpec.ofChange fnExactIsFaithfulWrong)

/-- 'laws.FnExactIsFull': WHATEVER THE INPUT: true; the input reads as it did. -/
def fnExactIsFullSpec : ChangeSpec := { name := "fnExactIsFull", fn := fun _ => fun
  | [d] => { results := [.lit (.bool true)], args := [d] }
  | _ => none }
def fnExactIsFullRow : OpenClaim := { program := "ytpfcfhjpgngneaa", sum := "9d8edbd0d548b4ac8d2a1fc6b332ef71eed549fbc722209b2ab487cec5f6cf66", func := "loop.example/g01083/laws.FnExactIsFull", spec := "fnExactIsFull", unfollowed := true, recurses := true, plainKeys := false, apart := false }
def FnExactIsFullSaid : Prop := fnExactIsFullRow.holds Try.pinned (OpenSpec.ofChange fnExactIsFullSpec)

/-- ITS FALSE NEIGHBOUR: 'it returns false'. Refute it at one input. -/
def fnExactIsFullWrong : ChangeSpec := { name := "fnExactIsFull", fn := fun _ => fun
  | [d] => { results := [.lit (.bool false)], args := [d] }
  | _ => none }
def FnExactIsFullWrongFalsely : Prop := fnExactIsFullRow.holds Try.pinned (OpenSpec.ofChange fnExactIsFullWrong)

/-- 'laws.FnExactIsEssentiallySurjective': WHATEVER THE INPUT: true; the input reads as it did. -/
def fnExactIsEssentiallySurjectiveSpec : ChangeSpec := { name := "fnExactIsEssentiallySurjective", fn := fun _ => fun
  | [d] => { results := [.lit (.bool true)], args := [d] }
  | _ => none }
def fnExactIsEssentiallySurjectiveRow : OpenClaim := { program := "ytpfcfhjpgngneaa", sum := "9d8edbd0d548b4ac8d2a1fc6b332ef71eed549fbc722209b2ab487cec5f6cf66", func := "loop.example/g01083/laws.FnExactIsEssentiallySurjective", spec := "fnExactIsEssentiallySurjective", unfollowed := true, recurses := true, plainKeys := false, apart := false }
def FnExactIsEssentiallySurjectiveSaid : Prop := fnExactIsEssentiallySurjectiveRow.holds Try.pinned (OpenSpec.ofChange fnExactIsEssentiallySurjectiveSpec)

/-- ITS FALSE NEIGHBOUR: 'it returns false'. Refute it at one input. -/
def fnExactIsEssentiallySurjectiveWrong : ChangeSpec := { name := "fnExactIsEssentiallySurjective", fn := fun _ => fun
  | [d] => { results := [.lit (.bool false)], args := [d] }
  | _ => none }
def FnExactIsEssentiallySurjectiveWrongFalsely : Prop := fnExactIsEssentiallySurjectiveRow.holds Try.pinned (OpenSpec.ofChange fnExactIsEssentiallySurjectiveWrong)

/-- 'laws.FnExactIsIsomorphism': WHATEVER THE INPUT: true; the input reads as it did. -/
def fnExactIsIsomorphismSpec : ChangeSpec := { name := "fnExactIsIsomorphism", fn := fun _ => fun
  | [d] => { results := [.lit (.bool true)], args := [d] }
  | _ => none }
def fnExactIsIsomorphismRow : OpenClaim := { program := "ytpfcfhjpgngneaa", sum := "9d8edbd0d548b4ac8d2a1fc6b332ef71eed549fbc722209b2ab487cec5f6cf66", func := "loop.example/g01083/laws.FnExactIsIsomorphism", spec := "fnExactIsIsomorphism", unfollowed := true, recurses := true, plainKeys := false, apart := false }
def FnExactIsIsomorphismSaid : Prop := fnExactIsIsomorphismRow.holds Try.pinned (OpenSpec.ofChange fnExactIsIsomorphismSpec)

/-- ITS FALSE NEIGHBOUR: 'it returns false'. Refute it at one input. -/
def fnExactIsIsomorphismWrong : ChangeSpec := { name := "fnExactIsIsomorphism", fn := fun _ => fun
  | [d] => { results := [.lit (.bool false)], args := [d] }
  | _ => none }
def FnExactIsIsomorphismWrongFalsely : Prop := fnExactIsIsomorphismRow.holds Try.pinned (OpenSpec.ofChange fnExactIsIsomorphismWrong)

/-- 'laws.FnExactInverseFunctor': WHATEVER THE INPUT: true; the input reads as it did. -/
def fnExactInverseFunctorSpec : ChangeSpec := { name := "fnExactInverseFunctor", fn := fun _ => fun
  | [d] => { results := [.lit (.bool true)], args := [d] }
  | _ => none }
def fnExactInverseFunctorRow : OpenClaim := { program := "ytpfcfhjpgngneaa", sum := "9d8edbd0d548b4ac8d2a1fc6b332ef71eed549fbc722209b2ab487cec5f6cf66", func := "loop.example/g01083/laws.FnExactInverseFunctor", spec := "fnExactInverseFunctor", plainKeys := false, apart := false }
def FnExactInverseFunctorSaid : Prop := fnExactInverseFunctorRow.holds Try.pinned (OpenSpec.ofChange fnExactInverseFunctorSpec)

/-- ITS FALSE NEIGHBOUR: 'it returns false'. Refute it at one input. -/
def fnExactInverseFunctorWrong : ChangeSpec := { name := "fnExactInverseFunctor", fn := fun _ => fun
  | [d] => { results := [.lit (.bool false)], args := [d] }
  | _ => none }
def FnExactInverseFunctorWrongFalsely : Prop := fnExactInverseFunctorRow.holds Try.pinned (OpenSpec.ofChange fnExactInverseFunctorWrong)

/-- 'laws.FnExactImageArrows': WHATEVER THE INPUT: true; the input reads as it did. -/
def fnExactImageArrowsSpec : ChangeSpec := { name := "fnExactImageArrows", fn := fun _ => fun
  | [d] => { results := [.lit (.bool true)], args := [d] }
  | _ => none }
def fnExactImageArrowsRow : OpenClaim := { program := "ytpfcfhjpgngneaa", sum := "9d8edbd0d548b4ac8d2a1fc6b332ef71eed549fbc722209b2ab487cec5f6cf66", func := "loop.example/g01083/laws.FnExactImageArrows", spec := "fnExactImageArrows", unfollowed := true, recurses := true, plainKeys := false, apart := false }
def FnExactImageArrowsSaid : Prop := fnExactImageArrowsRow.holds Try.pinned (OpenSpec.ofChange fnExactImageArrowsSpec)

/-- ITS FALSE NEIGHBOUR: 'it returns false'. Refute it at one input. -/
def fnExactImageArrowsWrong : ChangeSpec := { name := "fnExactImageArrows", fn := fun _ => fun
  | [d] => { results := [.lit (.bool false)], args := [d] }
  | _ => none }
def FnExactImageArrowsWrongFalsely : Prop := fnExactImageArrowsRow.holds Try.pinned (OpenSpec.ofChange fnExactImageArrowsWrong)

/-- 'laws.FnExactKernelCongruence': WHATEVER THE INPUT: true; the input reads as it did. -/
def fnExactKernelCongruenceSpec : ChangeSpec := { name := "fnExactKernelCongruence", fn := fun _ => fun
  | [d] => { results := [.lit (.bool true)], args := [d] }
  | _ => none }
def fnExactKernelCongruenceRow : OpenClaim := { program := "ytpfcfhjpgngneaa", sum := "9d8edbd0d548b4ac8d2a1fc6b332ef71eed549fbc722209b2ab487cec5f6cf66", func := "loop.example/g01083/laws.FnExactKernelCongruence", spec := "fnExactKernelCongruence", unfollowed := true, recurses := true, plainKeys := false, apart := false }
def FnExactKernelCongruenceSaid : Prop := fnExactKernelCongruenceRow.holds Try.pinned (OpenSpec.ofChange fnExactKernelCongruenceSpec)

/-- ITS FALSE NEIGHBOUR: 'it returns false'. Refute it at one input. -/
def fnExactKernelCongruenceWrong : ChangeSpec := { name := "fnExactKernelCongruence", fn := fun _ => fun
  | [d] => { results := [.lit (.bool false)], args := [d] }
  | _ => none }
def FnExactKernelCongruenceWrongFalsely : Prop := fnExactKernelCongruenceRow.holds Try.pinned (OpenSpec.ofChange fnExactKernelCongruenceWrong)

/-- 'laws.FnExactOppositeFunctor': WHATEVER THE INPUT: true; the input reads as it did. -/
def fnExactOppositeFunctorSpec : ChangeSpec := { name := "fnExactOppositeFunctor", fn := fun _ => fun
  | [d] => { results := [.lit (.bool true)], args := [d] }
  | _ => none }
def fnExactOppositeFunctorRow : OpenClaim := { program := "ytpfcfhjpgngneaa", sum := "9d8edbd0d548b4ac8d2a1fc6b332ef71eed549fbc722209b2ab487cec5f6cf66", func := "loop.example/g01083/laws.FnExactOppositeFunctor", spec := "fnExactOppositeFunctor", unfollowed := true, recurses := true, plainKeys := false, apart := false }
def FnExactOppositeFunctorSaid : Prop := fnExactOppositeFunctorRow.holds Try.pinned (OpenSpec.ofChange fnExactOppositeFunctorSpec)

/-- ITS FALSE NEIGHBOUR: 'it returns false'. Refute it at one input. -/
def fnExactOppositeFunctorWrong : ChangeSpec := { name := "fnExactOppositeFunctor", fn := fun _ => fun
  | [d] => { results := [.lit (.bool false)], args := [d] }
  | _ => none }
def FnExactOppositeFunctorWrongFalsely : Prop := fnExactOppositeFunctorRow.holds Try.pinned (OpenSpec.ofChange fnExactOppositeFunctorWrong)

/- THE SECOND FORM. 'bulk': how many values and letters a reading holds, each counted each time it is reached (what is shared counts as often as it is met; a slice's spare places count too). A statement '..UptoSaid' is the law's where the arguments, and the package variables that the reading takes, are together of bulk at most 1048576: NARROWER than '..Said'. Prove '..Said' where nothing that the law and all that it calls make is longer than what came in: it says more and counts as full. Else prove '..UptoSaid'. A law counts once. -/
mutual
def uptoBulk {H : Type} : DataW H → Nat
  | .lit (.string bytes) => bytes.length + 1
  | .lit _ => 1
  | .nil => 1
  | .ptr d => uptoBulk d + 1
  | .slice elems spare => uptoBulkAll elems + uptoBulkAll spare + 1
  | .agg parts => uptoBulkAll parts + 1
  | .iface _ d => uptoBulk d + 1
  | .map entries => uptoBulkEntries entries + 1
  | .held _ => 1
def uptoBulkAll {H : Type} : List (DataW H) → Nat
  | [] => 0
  | d :: r => uptoBulk d + uptoBulkAll r
def uptoBulkEntries {H : Type} : List (Lit × DataW H) → Nat
  | [] => 0
  | x :: r => uptoBulkEntry x + uptoBulkEntries r
def uptoBulkEntry {H : Type} : Lit × DataW H → Nat
  | (.string bytes, d) => bytes.length + uptoBulk d + 1
  | (_, d) => uptoBulk d + 1
 end
def uptoSmall : (H : Type) → List (DataW H) → Bool := fun _ ds => decide (uptoBulkAll ds ≤ 1048576)
def OpenSpec.upto (s : _root_.Go.ChangeSpec) : _root_.Go.OpenSpec := { _root_.Go.OpenSpec.ofChange s with cond := some uptoSmall }

/-- 'laws.FnExactIsFunctor', WHERE WHAT IT READS IS OF BULK AT MOST 1048576: true; the input reads as it did. -/
def fnExactIsFunctorUptoRow : OpenClaim := { program := "ytpfcfhjpgngneaa", sum := "9d8edbd0d548b4ac8d2a1fc6b332ef71eed549fbc722209b2ab487cec5f6cf66", func := "loop.example/g01083/laws.FnExactIsFunctor", spec := "fnExactIsFunctor", plainKeys := false, apart := false, narrowed := true }
def FnExactIsFunctorUptoSaid : Prop := fnExactIsFunctorUptoRow.holds Try.pinned (OpenSpec.upto fnExactIsFunctorSpec)

/-- 'laws.FnExactIdentityFunctor', WHERE WHAT IT READS IS OF BULK AT MOST 1048576: true; the input reads as it did. -/
def fnExactIdentityFunctorUptoRow : OpenClaim := { program := "ytpfcfhjpgngneaa", sum := "9d8edbd0d548b4ac8d2a1fc6b332ef71eed549fbc722209b2ab487cec5f6cf66", func := "loop.example/g01083/laws.FnExactIdentityFunctor", spec := "fnExactIdentityFunctor", unfollowed := true, recurses := true, plainKeys := false, apart := false, narrowed := true }
def FnExactIdentityFunctorUptoSaid : Prop := fnExactIdentityFunctorUptoRow.holds Try.pinned (OpenSpec.upto fnExactIdentityFunctorSpec)

/-- 'laws.FnExactConstantFunctor', WHERE WHAT IT READS IS OF BULK AT MOST 1048576: true; the input reads as it did. -/
def fnExactConstantFunctorUptoRow : OpenClaim := { program := "ytpfcfhjpgngneaa", sum := "9d8edbd0d548b4ac8d2a1fc6b332ef71eed549fbc722209b2ab487cec5f6cf66", func := "loop.example/g01083/laws.FnExactConstantFunctor", spec := "fnExactConstantFunctor", unfollowed := true, recurses := true, plainKeys := false, apart := false, narrowed := true }
def FnExactConstantFunctorUptoSaid : Prop := fnExactConstantFunctorUptoRow.holds Try.pinned (OpenSpec.upto fnExactConstantFunctorSpec)

/-- 'laws.FnExactThenFunctors', WHERE WHAT IT READS IS OF BULK AT MOST 1048576: true; the input reads as it did. -/
def fnExactThenFunctorsUptoRow : OpenClaim := { program := "ytpfcfhjpgngneaa", sum := "9d8edbd0d548b4ac8d2a1fc6b332ef71eed549fbc722209b2ab487cec5f6cf66", func := "loop.example/g01083/laws.FnExactThenFunctors", spec := "fnExactThenFunctors", unfollowed := true, recurses := true, plainKeys := false, apart := false, narrowed := true }
def FnExactThenFunctorsUptoSaid : Prop := fnExactThenFunctorsUptoRow.holds Try.pinned (OpenSpec.upto fnExactThenFunctorsSpec)

/-- 'laws.FnExactIsFaithful', WHERE WHAT IT READS IS OF BULK AT MOST 1048576: true; the input reads as it did. -/
def fnExactIsFaithfulUptoRow : OpenClaim := { program := "ytpfcfhjpgngneaa", sum := "9d8edbd0d548b4ac8d2a1fc6b332ef71eed549fbc722209b2ab487cec5f6cf66", func := "loop.example/g01083/laws.FnExactIsFaithful", spec := "fnExactIsFaithful", unfollowed := true, recurses := true, plainKeys := false, apart := false, narrowed := true }
def FnExactIsFaithfulUptoSaid : Prop := fnExactIsFaithfulUptoRow.holds Try.pinned (OpenSpec.upto fnExactIsFaithfulSpec)

/-- 'laws.FnExactIsFull', WHERE WHAT IT READS IS OF BULK AT MOST 1048576: true; the input reads as it did. -/
def fnExactIsFullUptoRow : OpenClaim := { program := "ytpfcfhjpgngneaa", sum := "9d8edbd0d548b4ac8d2a1fc6b332ef71eed549fbc722209b2ab487cec5f6cf66", func := "loop.example/g01083/laws.FnExactIsFull", spec := "fnExactIsFull", unfollowed := true, recurses := true, plainKeys := false, apart := false, narrowed := true }
def FnExactIsFullUptoSaid : Prop := fnExactIsFullUptoRow.holds Try.pinned (OpenSpec.upto fnExactIsFullSpec)

/-- 'laws.FnExactIsEssentiallySurjective', WHERE WHAT IT READS IS OF BULK AT MOST 1048576: true; the input reads as it did. -/
def fnExactIsEssentiallySurjectiveUptoRow : OpenClaim := { program := "ytpfcfhjpgngneaa", sum := "9d8edbd0d548b4ac8d2a1fc6b332ef71eed549fbc722209b2ab487cec5f6cf66", func := "loop.example/g01083/laws.FnExactIsEssentiallySurjective", spec := "fnExactIsEssentiallySurjective", unfollowed := true, recurses := true, plainKeys := false, apart := false, narrowed := true }
def FnExactIsEssentiallySurjectiveUptoSaid : Prop := fnExactIsEssentiallySurjectiveUptoRow.holds Try.pinned (OpenSpec.upto fnExactIsEssentiallySurjectiveSpec)

/-- 'laws.FnExactIsIsomorphism', WHERE WHAT IT READS IS OF BULK AT MOST 1048576: true; the input reads as it did. -/
def fnExactIsIsomorphismUptoRow : OpenClaim := { program := "ytpfcfhjpgngneaa", sum := "9d8edbd0d548b4ac8d2a1fc6b332ef71eed549fbc722209b2ab487cec5f6cf66", func := "loop.example/g01083/laws.FnExactIsIsomorphism", spec := "fnExactIsIsomorphism", unfollowed := true, recurses := true, plainKeys := false, apart := false, narrowed := true }
def FnExactIsIsomorphismUptoSaid : Prop := fnExactIsIsomorphismUptoRow.holds Try.pinned (OpenSpec.upto fnExactIsIsomorphismSpec)

/-- 'laws.FnExactInverseFunctor', WHERE WHAT IT READS IS OF BULK AT MOST 1048576: true; the input reads as it did. -/
def fnExactInverseFunctorUptoRow : OpenClaim := { program := "ytpfcfhjpgngneaa", sum := "9d8edbd0d548b4ac8d2a1fc6b332ef71eed549fbc722209b2ab487cec5f6cf66", func := "loop.example/g01083/laws.FnExactInverseFunctor", spec := "fnExactInverseFunctor", plainKeys := false, apart := false, narrowed := true }
def FnExactInverseFunctorUptoSaid : Prop := fnExactInverseFunctorUptoRow.holds Try.pinned (OpenSpec.upto fnExactInverseFunctorSpec)

/-- 'laws.FnExactImageArrows', WHERE WHAT IT READS IS OF BULK AT MOST 1048576: true; the input reads as it did. -/
def fnExactImageArrowsUptoRow : OpenClaim := { program := "ytpfcfhjpgngneaa", sum := "9d8edbd0d548b4ac8d2a1fc6b332ef71eed549fbc722209b2ab487cec5f6cf66", func := "loop.example/g01083/laws.FnExactImageArrows", spec := "fnExactImageArrows", unfollowed := true, recurses := true, plainKeys := false, apart := false, narrowed := true }
def FnExactImageArrowsUptoSaid : Prop := fnExactImageArrowsUptoRow.holds Try.pinned (OpenSpec.upto fnExactImageArrowsSpec)

/-- 'laws.FnExactKernelCongruence', WHERE WHAT IT READS IS OF BULK AT MOST 1048576: true; the input reads as it did. -/
def fnExactKernelCongruenceUptoRow : OpenClaim := { program := "ytpfcfhjpgngneaa", sum := "9d8edbd0d548b4ac8d2a1fc6b332ef71eed549fbc722209b2ab487cec5f6cf66", func := "loop.example/g01083/laws.FnExactKernelCongruence", spec := "fnExactKernelCongruence", unfollowed := true, recurses := true, plainKeys := false, apart := false, narrowed := true }
def FnExactKernelCongruenceUptoSaid : Prop := fnExactKernelCongruenceUptoRow.holds Try.pinned (OpenSpec.upto fnExactKernelCongruenceSpec)

/-- 'laws.FnExactOppositeFunctor', WHERE WHAT IT READS IS OF BULK AT MOST 1048576: true; the input reads as it did. -/
def fnExactOppositeFunctorUptoRow : OpenClaim := { program := "ytpfcfhjpgngneaa", sum := "9d8edbd0d548b4ac8d2a1fc6b332ef71eed549fbc722209b2ab487cec5f6cf66", func := "loop.example/g01083/laws.FnExactOppositeFunctor", spec := "fnExactOppositeFunctor", unfollowed := true, recurses := true, plainKeys := false, apart := false, narrowed := true }
def FnExactOppositeFunctorUptoSaid : Prop := fnExactOppositeFunctorUptoRow.holds Try.pinned (OpenSpec.upto fnExactOppositeFunctorSpec)

end Rows
end Go.Proofs.Ytpfcfhjpgngneaa
