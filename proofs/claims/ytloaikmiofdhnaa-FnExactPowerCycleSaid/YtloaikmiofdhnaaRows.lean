/-
  No cell of these rows narrows 'for every input' (looked for: loops, veiled, ifaces, maps, wideKeys, modest, calm, conditions, laid).
  DERIVED. THE GIVEN ROWS OF THIS SEAT. 12 by the template 'for every input the law returns true; each argument reads behind the call as it read before'; 0 by the template 'total and deterministic' (their statements: YtloaikmiofdhnaaTotals.lean).
  GIVEN WITH THE SEED: the statements are not yours to turn. If you find one false, say at which input.
  Laid BY PROGRAM, IN A SANDBOX (cutbox-rows.mjs): the forced cells as the released guide's own fill.sh prints them over the translation 46b0cec5f00d92b9… (all of the seat's roots in one cut). By AI agents, Wed Nov 11 2026. No macro, syntax, notation, axiom, sorry.
-/
import Derived.Test.YtloaikmiofdhnaaChecked
import GoSem.Claim
import GoSem.ClaimJoined
import GoSem.ClaimMapViews
import Derived.JoinedTies
import Derived.KernelRfl
namespace Go.Proofs.Ytloaikmiofdhnaa
/- THE CELL 'sum', in the pinned program and in every row, IS THE sha256 OF THE DUMP (.gsa) THAT YtloaikmiofdhnaaProg.lean LOADS. Nothing in Lean hashes anything: it is a label: what it is worth is what the hold of that sum in a sandbox is worth. -/
noncomputable def Try.pinned : Pinned := { name := "ytloaikmiofdhnaa", sum := "46b0cec5f00d92b9dfb63b52bf22438a6f37699a2c102913b873751015cacbde", checked := Try.checked }
namespace Rows
def none {H : Type} : Left H := { results := [], args := [] }

/-- 'laws.FnExactIsMono': WHATEVER THE INPUT: true; the input reads as it did. -/
def fnExactIsMonoSpec : ChangeSpec := { name := "fnExactIsMono", fn := fun _ => fun
  | [d1, d2] => { results := [.lit (.bool true)], args := [d1, d2] }
  | _ => none }
def fnExactIsMonoRow : OpenClaim := { program := "ytloaikmiofdhnaa", sum := "46b0cec5f00d92b9dfb63b52bf22438a6f37699a2c102913b873751015cacbde", func := "loop.example/g01083/laws.FnExactIsMono", spec := "fnExactIsMono", unfollowed := true, recurses := true, apart := false }
def FnExactIsMonoSaid : Prop := fnExactIsMonoRow.holds Try.pinned (OpenSpec.ofChange fnExactIsMonoSpec)

/-- ITS FALSE NEIGHBOUR: 'it returns false'. Refute it at one input. -/
def fnExactIsMonoWrong : ChangeSpec := { name := "fnExactIsMono", fn := fun _ => fun
  | [d1, d2] => { results := [.lit (.bool false)], args := [d1, d2] }
  | _ => none }
def FnExactIsMonoWrongFalsely : Prop := fnExactIsMonoRow.holds Try.pinned (OpenSpec.ofChange fnExactIsMonoWrong)

/-- 'laws.FnExactIsEpi': WHATEVER THE INPUT: true; the input reads as it did. -/
def fnExactIsEpiSpec : ChangeSpec := { name := "fnExactIsEpi", fn := fun _ => fun
  | [d1, d2] => { results := [.lit (.bool true)], args := [d1, d2] }
  | _ => none }
def fnExactIsEpiRow : OpenClaim := { program := "ytloaikmiofdhnaa", sum := "46b0cec5f00d92b9dfb63b52bf22438a6f37699a2c102913b873751015cacbde", func := "loop.example/g01083/laws.FnExactIsEpi", spec := "fnExactIsEpi", unfollowed := true, recurses := true, apart := false }
def FnExactIsEpiSaid : Prop := fnExactIsEpiRow.holds Try.pinned (OpenSpec.ofChange fnExactIsEpiSpec)

/-- ITS FALSE NEIGHBOUR: 'it returns false'. Refute it at one input. -/
def fnExactIsEpiWrong : ChangeSpec := { name := "fnExactIsEpi", fn := fun _ => fun
  | [d1, d2] => { results := [.lit (.bool false)], args := [d1, d2] }
  | _ => none }
def FnExactIsEpiWrongFalsely : Prop := fnExactIsEpiRow.holds Try.pinned (OpenSpec.ofChange fnExactIsEpiWrong)

/-- 'laws.FnExactRetractionsOf': WHATEVER THE INPUT: true; the input reads as it did. -/
def fnExactRetractionsOfSpec : ChangeSpec := { name := "fnExactRetractionsOf", fn := fun _ => fun
  | [d1, d2] => { results := [.lit (.bool true)], args := [d1, d2] }
  | _ => none }
def fnExactRetractionsOfRow : OpenClaim := { program := "ytloaikmiofdhnaa", sum := "46b0cec5f00d92b9dfb63b52bf22438a6f37699a2c102913b873751015cacbde", func := "loop.example/g01083/laws.FnExactRetractionsOf", spec := "fnExactRetractionsOf", unfollowed := true, recurses := true, apart := false }
def FnExactRetractionsOfSaid : Prop := fnExactRetractionsOfRow.holds Try.pinned (OpenSpec.ofChange fnExactRetractionsOfSpec)

/-- ITS FALSE NEIGHBOUR: 'it returns false'. Refute it at one input. -/
def fnExactRetractionsOfWrong : ChangeSpec := { name := "fnExactRetractionsOf", fn := fun _ => fun
  | [d1, d2] => { results := [.lit (.bool false)], args := [d1, d2] }
  | _ => none }
def FnExactRetractionsOfWrongFalsely : Prop := fnExactRetractionsOfRow.holds Try.pinned (OpenSpec.ofChange fnExactRetractionsOfWrong)

/-- 'laws.FnExactSectionsOf': WHATEVER THE INPUT: true; the input reads as it did. -/
def fnExactSectionsOfSpec : ChangeSpec := { name := "fnExactSectionsOf", fn := fun _ => fun
  | [d1, d2] => { results := [.lit (.bool true)], args := [d1, d2] }
  | _ => none }
def fnExactSectionsOfRow : OpenClaim := { program := "ytloaikmiofdhnaa", sum := "46b0cec5f00d92b9dfb63b52bf22438a6f37699a2c102913b873751015cacbde", func := "loop.example/g01083/laws.FnExactSectionsOf", spec := "fnExactSectionsOf", unfollowed := true, recurses := true, apart := false }
def FnExactSectionsOfSaid : Prop := fnExactSectionsOfRow.holds Try.pinned (OpenSpec.ofChange fnExactSectionsOfSpec)

/-- ITS FALSE NEIGHBOUR: 'it returns false'. Refute it at one input. -/
def fnExactSectionsOfWrong : ChangeSpec := { name := "fnExactSectionsOf", fn := fun _ => fun
  | [d1, d2] => { results := [.lit (.bool false)], args := [d1, d2] }
  | _ => none }
def FnExactSectionsOfWrongFalsely : Prop := fnExactSectionsOfRow.holds Try.pinned (OpenSpec.ofChange fnExactSectionsOfWrong)

/-- 'laws.FnExactIsIso': WHATEVER THE INPUT: true; the input reads as it did. -/
def fnExactIsIsoSpec : ChangeSpec := { name := "fnExactIsIso", fn := fun _ => fun
  | [d1, d2] => { results := [.lit (.bool true)], args := [d1, d2] }
  | _ => none }
def fnExactIsIsoRow : OpenClaim := { program := "ytloaikmiofdhnaa", sum := "46b0cec5f00d92b9dfb63b52bf22438a6f37699a2c102913b873751015cacbde", func := "loop.example/g01083/laws.FnExactIsIso", spec := "fnExactIsIso", unfollowed := true, recurses := true, apart := false }
def FnExactIsIsoSaid : Prop := fnExactIsIsoRow.holds Try.pinned (OpenSpec.ofChange fnExactIsIsoSpec)

/-- ITS FALSE NEIGHBOUR: 'it returns false'. Refute it at one input. -/
def fnExactIsIsoWrong : ChangeSpec := { name := "fnExactIsIso", fn := fun _ => fun
  | [d1, d2] => { results := [.lit (.bool false)], args := [d1, d2] }
  | _ => none }
def FnExactIsIsoWrongFalsely : Prop := fnExactIsIsoRow.holds Try.pinned (OpenSpec.ofChange fnExactIsIsoWrong)

/-- 'laws.FnExactInverseArrow': WHATEVER THE INPUT: true; the input reads as it did. -/
def fnExactInverseArrowSpec : ChangeSpec := { name := "fnExactInverseArrow", fn := fun _ => fun
  | [d1, d2] => { results := [.lit (.bool true)], args := [d1, d2] }
  | _ => none }
def fnExactInverseArrowRow : OpenClaim := { program := "ytloaikmiofdhnaa", sum := "46b0cec5f00d92b9dfb63b52bf22438a6f37699a2c102913b873751015cacbde", func := "loop.example/g01083/laws.FnExactInverseArrow", spec := "fnExactInverseArrow", apart := false }
def FnExactInverseArrowSaid : Prop := fnExactInverseArrowRow.holds Try.pinned (OpenSpec.ofChange fnExactInverseArrowSpec)

/-- ITS FALSE NEIGHBOUR: 'it returns false'. Refute it at one input. -/
def fnExactInverseArrowWrong : ChangeSpec := { name := "fnExactInverseArrow", fn := fun _ => fun
  | [d1, d2] => { results := [.lit (.bool false)], args := [d1, d2] }
  | _ => none }
def FnExactInverseArrowWrongFalsely : Prop := fnExactInverseArrowRow.holds Try.pinned (OpenSpec.ofChange fnExactInverseArrowWrong)

/-- 'laws.FnExactLiftsOf': WHATEVER THE INPUT: true; the input reads as it did. -/
def fnExactLiftsOfSpec : ChangeSpec := { name := "fnExactLiftsOf", fn := fun _ => fun
  | [d1, d2, d3] => { results := [.lit (.bool true)], args := [d1, d2, d3] }
  | _ => none }
def fnExactLiftsOfRow : OpenClaim := { program := "ytloaikmiofdhnaa", sum := "46b0cec5f00d92b9dfb63b52bf22438a6f37699a2c102913b873751015cacbde", func := "loop.example/g01083/laws.FnExactLiftsOf", spec := "fnExactLiftsOf", unfollowed := true, recurses := true, apart := false }
def FnExactLiftsOfSaid : Prop := fnExactLiftsOfRow.holds Try.pinned (OpenSpec.ofChange fnExactLiftsOfSpec)

/-- ITS FALSE NEIGHBOUR: 'it returns false'. Refute it at one input. -/
def fnExactLiftsOfWrong : ChangeSpec := { name := "fnExactLiftsOf", fn := fun _ => fun
  | [d1, d2, d3] => { results := [.lit (.bool false)], args := [d1, d2, d3] }
  | _ => none }
def FnExactLiftsOfWrongFalsely : Prop := fnExactLiftsOfRow.holds Try.pinned (OpenSpec.ofChange fnExactLiftsOfWrong)

/-- 'laws.FnExactExtensionsOf': WHATEVER THE INPUT: true; the input reads as it did. -/
def fnExactExtensionsOfSpec : ChangeSpec := { name := "fnExactExtensionsOf", fn := fun _ => fun
  | [d1, d2, d3] => { results := [.lit (.bool true)], args := [d1, d2, d3] }
  | _ => none }
def fnExactExtensionsOfRow : OpenClaim := { program := "ytloaikmiofdhnaa", sum := "46b0cec5f00d92b9dfb63b52bf22438a6f37699a2c102913b873751015cacbde", func := "loop.example/g01083/laws.FnExactExtensionsOf", spec := "fnExactExtensionsOf", unfollowed := true, recurses := true, apart := false }
def FnExactExtensionsOfSaid : Prop := fnExactExtensionsOfRow.holds Try.pinned (OpenSpec.ofChange fnExactExtensionsOfSpec)

/-- ITS FALSE NEIGHBOUR: 'it returns false'. Refute it at one input. -/
def fnExactExtensionsOfWrong : ChangeSpec := { name := "fnExactExtensionsOf", fn := fun _ => fun
  | [d1, d2, d3] => { results := [.lit (.bool false)], args := [d1, d2, d3] }
  | _ => none }
def FnExactExtensionsOfWrongFalsely : Prop := fnExactExtensionsOfRow.holds Try.pinned (OpenSpec.ofChange fnExactExtensionsOfWrong)

/-- 'laws.FnExactIsIdempotent': WHATEVER THE INPUT: true; the input reads as it did. -/
def fnExactIsIdempotentSpec : ChangeSpec := { name := "fnExactIsIdempotent", fn := fun _ => fun
  | [d1, d2] => { results := [.lit (.bool true)], args := [d1, d2] }
  | _ => none }
def fnExactIsIdempotentRow : OpenClaim := { program := "ytloaikmiofdhnaa", sum := "46b0cec5f00d92b9dfb63b52bf22438a6f37699a2c102913b873751015cacbde", func := "loop.example/g01083/laws.FnExactIsIdempotent", spec := "fnExactIsIdempotent", unfollowed := true, recurses := true, apart := false }
def FnExactIsIdempotentSaid : Prop := fnExactIsIdempotentRow.holds Try.pinned (OpenSpec.ofChange fnExactIsIdempotentSpec)

/-- ITS FALSE NEIGHBOUR: 'it returns false'. Refute it at one input. -/
def fnExactIsIdempotentWrong : ChangeSpec := { name := "fnExactIsIdempotent", fn := fun _ => fun
  | [d1, d2] => { results := [.lit (.bool false)], args := [d1, d2] }
  | _ => none }
def FnExactIsIdempotentWrongFalsely : Prop := fnExactIsIdempotentRow.holds Try.pinned (OpenSpec.ofChange fnExactIsIdempotentWrong)

/-- 'laws.FnExactPowerCycle': WHATEVER THE INPUT: true; the input reads as it did. -/
def fnExactPowerCycleSpec : ChangeSpec := { name := "fnExactPowerCycle", fn := fun _ => fun
  | [d1, d2] => { results := [.lit (.bool true)], args := [d1, d2] }
  | _ => none }
def fnExactPowerCycleRow : OpenClaim := { program := "ytloaikmiofdhnaa", sum := "46b0cec5f00d92b9dfb63b52bf22438a6f37699a2c102913b873751015cacbde", func := "loop.example/g01083/laws.FnExactPowerCycle", spec := "fnExactPowerCycle", apart := false }
def FnExactPowerCycleSaid : Prop := fnExactPowerCycleRow.holds Try.pinned (OpenSpec.ofChange fnExactPowerCycleSpec)

/-- ITS FALSE NEIGHBOUR: 'it returns false'. Refute it at one input. -/
def fnExactPowerCycleWrong : ChangeSpec := { name := "fnExactPowerCycle", fn := fun _ => fun
  | [d1, d2] => { results := [.lit (.bool false)], args := [d1, d2] }
  | _ => none }
def FnExactPowerCycleWrongFalsely : Prop := fnExactPowerCycleRow.holds Try.pinned (OpenSpec.ofChange fnExactPowerCycleWrong)

/-- 'laws.FnExactArrowKinds': WHATEVER THE INPUT: true; the input reads as it did. -/
def fnExactArrowKindsSpec : ChangeSpec := { name := "fnExactArrowKinds", fn := fun _ => fun
  | [d] => { results := [.lit (.bool true)], args := [d] }
  | _ => none }
def fnExactArrowKindsRow : OpenClaim := { program := "ytloaikmiofdhnaa", sum := "46b0cec5f00d92b9dfb63b52bf22438a6f37699a2c102913b873751015cacbde", func := "loop.example/g01083/laws.FnExactArrowKinds", spec := "fnExactArrowKinds", unfollowed := true, recurses := true, apart := false }
def FnExactArrowKindsSaid : Prop := fnExactArrowKindsRow.holds Try.pinned (OpenSpec.ofChange fnExactArrowKindsSpec)

/-- ITS FALSE NEIGHBOUR: 'it returns false'. Refute it at one input. -/
def fnExactArrowKindsWrong : ChangeSpec := { name := "fnExactArrowKinds", fn := fun _ => fun
  | [d] => { results := [.lit (.bool false)], args := [d] }
  | _ => none }
def FnExactArrowKindsWrongFalsely : Prop := fnExactArrowKindsRow.holds Try.pinned (OpenSpec.ofChange fnExactArrowKindsWrong)

/-- 'laws.FnExactIsBalanced': WHATEVER THE INPUT: true; the input reads as it did. -/
def fnExactIsBalancedSpec : ChangeSpec := { name := "fnExactIsBalanced", fn := fun _ => fun
  | [d] => { results := [.lit (.bool true)], args := [d] }
  | _ => none }
def fnExactIsBalancedRow : OpenClaim := { program := "ytloaikmiofdhnaa", sum := "46b0cec5f00d92b9dfb63b52bf22438a6f37699a2c102913b873751015cacbde", func := "loop.example/g01083/laws.FnExactIsBalanced", spec := "fnExactIsBalanced", unfollowed := true, recurses := true, apart := false }
def FnExactIsBalancedSaid : Prop := fnExactIsBalancedRow.holds Try.pinned (OpenSpec.ofChange fnExactIsBalancedSpec)

/-- ITS FALSE NEIGHBOUR: 'it returns false'. Refute it at one input. -/
def fnExactIsBalancedWrong : ChangeSpec := { name := "fnExactIsBalanced", fn := fun _ => fun
  | [d] => { results := [.lit (.bool false)], args := [d] }
  | _ => none }
def FnExactIsBalancedWrongFalsely : Prop := fnExactIsBalancedRow.holds Try.pinned (OpenSpec.ofChange fnExactIsBalancedWrong)

/- THE SECOND FORM. 'bulk': how many values and letters a reading holds, each counted each time it is reached (what is shared counts as often as it is met; a slice's spare places count too). A statement '..UptoSaid' is the law's where the arguments, and the package variables that the reading takes, are together of bulk at most 1048576: NARROWER than '..Said'. Prove '..Said' where nothing that the law and all that it calls make is longer than what came in: it says more and counts as full. Else prove '..UptoSaid'. A law counts once. -/
mutual
def uptoBulk {H : Type} : DataW H → Nat
  | .lit (.string bytes) => bytes.length + 1
  | .lit _ => 1
  | .nil => 1
  | .ptr d => uptoBulk d + 1
  | .slice elems spare => uptoBulkAll elems + uptoBulkAll spare + 1
  | .agg parts => uptoBulkAll parts + 1
  | .iface _ d => uptoBulk d + 1
  | .map entries => uptoBulkEntries entries + 1
  | .held _ => 1
def uptoBulkAll {H : Type} : List (DataW H) → Nat
  | [] => 0
  | d :: r => uptoBulk d + uptoBulkAll r
def uptoBulkEntries {H : Type} : List (Lit × DataW H) → Nat
  | [] => 0
  | x :: r => uptoBulkEntry x + uptoBulkEntries r
def uptoBulkEntry {H : Type} : Lit × DataW H → Nat
  | (.string bytes, d) => bytes.length + uptoBulk d + 1
  | (_, d) => uptoBulk d + 1
 end
def uptoSmall : (H : Type) → List (DataW H) → Bool := fun _ ds => decide (uptoBulkAll ds ≤ 1048576)
def OpenSpec.upto (s : _root_.Go.ChangeSpec) : _root_.Go.OpenSpec := { _root_.Go.OpenSpec.ofChange s with cond := some uptoSmall }

/-- 'laws.FnExactIsMono', WHERE WHAT IT READS IS OF BULK AT MOST 1048576: true; the input reads as it did. -/
def fnExactIsMonoUptoRow : OpenClaim := { program := "ytloaikmiofdhnaa", sum := "46b0cec5f00d92b9dfb63b52bf22438a6f37699a2c102913b873751015cacbde", func := "loop.example/g01083/laws.FnExactIsMono", spec := "fnExactIsMono", unfollowed := true, recurses := true, apart := false, narrowed := true }
def FnExactIsMonoUptoSaid : Prop := fnExactIsMonoUptoRow.holds Try.pinned (OpenSpec.upto fnExactIsMonoSpec)

/-- 'laws.FnExactIsEpi', WHERE WHAT IT READS IS OF BULK AT MOST 1048576: true; the input reads as it did. -/
def fnExactIsEpiUptoRow : OpenClaim := { program := "ytloaikmiofdhnaa", sum := "46b0cec5f00d92b9dfb63b52bf22438a6f37699a2c102913b873751015cacbde", func := "loop.example/g01083/laws.FnExactIsEpi", spec := "fnExactIsEpi", unfollowed := true, recurses := true, apart := false, narrowed := true }
def FnExactIsEpiUptoSaid : Prop := fnExactIsEpiUptoRow.holds Try.pinned (OpenSpec.upto fnExactIsEpiSpec)

/-- 'laws.FnExactRetractionsOf', WHERE WHAT IT READS IS OF BULK AT MOST 1048576: true; the input reads as it did. -/
def fnExactRetractionsOfUptoRow : OpenClaim := { program := "ytloaikmiofdhnaa", sum := "46b0cec5f00d92b9dfb63b52bf22438a6f37699a2c102913b873751015cacbde", func := "loop.example/g01083/laws.FnExactRetractionsOf", spec := "fnExactRetractionsOf", unfollowed := true, recurses := true, apart := false, narrowed := true }
def FnExactRetractionsOfUptoSaid : Prop := fnExactRetractionsOfUptoRow.holds Try.pinned (OpenSpec.upto fnExactRetractionsOfSpec)

/-- 'laws.FnExactSectionsOf', WHERE WHAT IT READS IS OF BULK AT MOST 1048576: true; the input reads as it did. -/
def fnExactSectionsOfUptoRow : OpenClaim := { program := "ytloaikmiofdhnaa", sum := "46b0cec5f00d92b9dfb63b52bf22438a6f37699a2c102913b873751015cacbde", func := "loop.example/g01083/laws.FnExactSectionsOf", spec := "fnExactSectionsOf", unfollowed := true, recurses := true, apart := false, narrowed := true }
def FnExactSectionsOfUptoSaid : Prop := fnExactSectionsOfUptoRow.holds Try.pinned (OpenSpec.upto fnExactSectionsOfSpec)

/-- 'laws.FnExactIsIso', WHERE WHAT IT READS IS OF BULK AT MOST 1048576: true; the input reads as it did. -/
def fnExactIsIsoUptoRow : OpenClaim := { program := "ytloaikmiofdhnaa", sum := "46b0cec5f00d92b9dfb63b52bf22438a6f37699a2c102913b873751015cacbde", func := "loop.example/g01083/laws.FnExactIsIso", spec := "fnExactIsIso", unfollowed := true, recurses := true, apart := false, narrowed := true }
def FnExactIsIsoUptoSaid : Prop := fnExactIsIsoUptoRow.holds Try.pinned (OpenSpec.upto fnExactIsIsoSpec)

/-- 'laws.FnExactInverseArrow', WHERE WHAT IT READS IS OF BULK AT MOST 1048576: true; the input reads as it did. -/
def fnExactInverseArrowUptoRow : OpenClaim := { program := "ytloaikmiofdhnaa", sum := "46b0cec5f00d92b9dfb63b52bf22438a6f37699a2c102913b873751015cacbde", func := "loop.example/g01083/laws.FnExactInverseArrow", spec := "fnExactInverseArrow", apart := false, narrowed := true }
def FnExactInverseArrowUptoSaid : Prop := fnExactInverseArrowUptoRow.holds Try.pinned (OpenSpec.upto fnExactInverseArrowSpec)

/-- 'laws.FnExactLiftsOf', WHERE WHAT IT READS IS OF BULK AT MOST 1048576: true; the input reads as it did. -/
def fnExactLiftsOfUptoRow : OpenClaim := { program := "ytloaikmiofdhnaa", sum := "46b0cec5f00d92b9dfb63b52bf22438a6f37699a2c102913b873751015cacbde", func := "loop.example/g01083/laws.FnExactLiftsOf", spec := "fnExactLiftsOf", unfollowed := true, recurses := true, apart := false, narrowed := true }
def FnExactLiftsOfUptoSaid : Prop := fnExactLiftsOfUptoRow.holds Try.pinned (OpenSpec.upto fnExactLiftsOfSpec)

/-- 'laws.FnExactExtensionsOf', WHERE WHAT IT READS IS OF BULK AT MOST 1048576: true; the input reads as it did. -/
def fnExactExtensionsOfUptoRow : OpenClaim := { program := "ytloaikmiofdhnaa", sum := "46b0cec5f00d92b9dfb63b52bf22438a6f37699a2c102913b873751015cacbde", func := "loop.example/g01083/laws.FnExactExtensionsOf", spec := "fnExactExtensionsOf", unfollowed := true, recurses := true, apart := false, narrowed := true }
def FnExactExtensionsOfUptoSaid : Prop := fnExactExtensionsOfUptoRow.holds Try.pinned (OpenSpec.upto fnExactExtensionsOfSpec)

/-- 'laws.FnExactIsIdempotent', WHERE WHAT IT READS IS OF BULK AT MOST 1048576: true; the input reads as it did. -/
def fnExactIsIdempotentUptoRow : OpenClaim := { program := "ytloaikmiofdhnaa", sum := "46b0cec5f00d92b9dfb63b52bf22438a6f37699a2c102913b873751015cacbde", func := "loop.example/g01083/laws.FnExactIsIdempotent", spec := "fnExactIsIdempotent", unfollowed := true, recurses := true, apart := false, narrowed := true }
def FnExactIsIdempotentUptoSaid : Prop := fnExactIsIdempotentUptoRow.holds Try.pinned (OpenSpec.upto fnExactIsIdempotentSpec)

/-- 'laws.FnExactPowerCycle', WHERE WHAT IT READS IS OF BULK AT MOST 1048576: true; the input reads as it did. -/
def fnExactPowerCycleUptoRow : OpenClaim := { program := "ytloaikmiofdhnaa", sum := "46b0cec5f00d92b9dfb63b52bf22438a6f37699a2c102913b873751015cacbde", func := "loop.example/g01083/laws.FnExactPowerCycle", spec := "fnExactPowerCycle", apart := false, narrowed := true }
def FnExactPowerCycleUptoSaid : Prop := fnExactPowerCycleUptoRow.holds Try.pinned (OpenSpec.upto fnExactPowerCycleSpec)

/-- 'laws.FnExactArrowKinds', WHERE WHAT IT READS IS OF BULK AT MOST 1048576: true; the input reads as it did. -/
def fnExactArrowKindsUptoRow : OpenClaim := { program := "ytloaikmiofdhnaa", sum := "46b0cec5f00d92b9dfb63b52bf22438a6f37699a2c102913b873751015cacbde", func := "loop.example/g01083/laws.FnExactArrowKinds", spec := "fnExactArrowKinds", unfollowed := true, recurses := true, apart := false, narrowed := true }
def FnExactArrowKindsUptoSaid : Prop := fnExactArrowKindsUptoRow.holds Try.pinned (OpenSpec.upto fnExactArrowKindsSpec)

/-- 'laws.FnExactIsBalanced', WHERE WHAT IT READS IS OF BULK AT MOST 1048576: true; the input reads as it did. -/
def fnExactIsBalancedUptoRow : OpenClaim := { program := "ytloaikmiofdhnaa", sum := "46b0cec5f00d92b9dfb63b52bf22438a6f37699a2c102913b873751015cacbde", func := "loop.example/g01083/laws.FnExactIsBalanced", spec := "fnExactIsBalanced", unfollowed := true, recurses := true, apart := false, narrowed := true }
def FnExactIsBalancedUptoSaid : Prop := fnExactIsBalancedUptoRow.holds Try.pinned (OpenSpec.upto fnExactIsBalancedSpec)

end Rows
end Go.Proofs.Ytloaikmiofdhnaa
