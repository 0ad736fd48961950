/-
  No cell of these rows narrows 'for every input' (looked for: loops, veiled, ifaces, maps, wideKeys, modest, calm, conditions, laid).
  DERIVED. THE GIVEN ROWS OF THIS SEAT. 14 by the template 'for every input the law returns true; each argument reads behind the call as it read before'; 0 by the template 'total and deterministic' (their statements: YtaefgkhbgljkoaaTotals.lean).
  GIVEN WITH THE SEED: the statements are not yours to turn. If you find one false, say at which input.
  Laid BY PROGRAM, IN A SANDBOX (cutbox-rows.mjs): the forced cells as the released guide's own fill.sh prints them over the translation 32c164f5f4991631… (all of the seat's roots in one cut). By AI agents, Wed Nov 11 2026. No macro, syntax, notation, axiom, sorry.
-/
import Derived.Test.YtaefgkhbgljkoaaChecked
import GoSem.Claim
import GoSem.ClaimJoined
import GoSem.ClaimMapViews
import Derived.JoinedTies
import Derived.KernelRfl
namespace Go.Proofs.Ytaefgkhbgljkoaa
/- THE CELL 'sum', in the pinned program and in every row, IS THE sha256 OF THE DUMP (.gsa) THAT YtaefgkhbgljkoaaProg.lean LOADS. Nothing in Lean hashes anything: it is a label: what it is worth is what the hold of that sum in a sandbox is worth. -/
noncomputable def Try.pinned : Pinned := { name := "ytaefgkhbgljkoaa", sum := "32c164f5f499163118085b1853b97a906cb99748aff93d5ad6b0b0d12c147452", checked := Try.checked }
namespace Rows
def none {H : Type} : Left H := { results := [], args := [] }

/-- 'laws.FnTrains': WHATEVER THE INPUT: true; the input reads as it did. -/
def fnTrainsSpec : ChangeSpec := { name := "fnTrains", fn := fun _ => fun
  | [d1, d2] => { results := [.lit (.bool true)], args := [d1, d2] }
  | _ => none }
def fnTrainsRow : OpenClaim := { program := "ytaefgkhbgljkoaa", sum := "32c164f5f499163118085b1853b97a906cb99748aff93d5ad6b0b0d12c147452", func := "loop.example/g00930/laws.FnTrains", spec := "fnTrains", unfollowed := true, recurses := true, apart := false }
def FnTrainsSaid : Prop := fnTrainsRow.holds Try.pinned (OpenSpec.ofChange fnTrainsSpec)

/-- ITS FALSE NEIGHBOUR: 'it returns false'. Refute it at one input. -/
def fnTrainsWrong : ChangeSpec := { name := "fnTrains", fn := fun _ => fun
  | [d1, d2] => { results := [.lit (.bool false)], args := [d1, d2] }
  | _ => none }
def FnTrainsWrongFalsely : Prop := fnTrainsRow.holds Try.pinned (OpenSpec.ofChange fnTrainsWrong)

/-- 'laws.FnChains': WHATEVER THE INPUT: true; the input reads as it did. -/
def fnChainsSpec : ChangeSpec := { name := "fnChains", fn := fun _ => fun
  | [d1, d2] => { results := [.lit (.bool true)], args := [d1, d2] }
  | _ => none }
def fnChainsRow : OpenClaim := { program := "ytaefgkhbgljkoaa", sum := "32c164f5f499163118085b1853b97a906cb99748aff93d5ad6b0b0d12c147452", func := "loop.example/g00930/laws.FnChains", spec := "fnChains", apart := false }
def FnChainsSaid : Prop := fnChainsRow.holds Try.pinned (OpenSpec.ofChange fnChainsSpec)

/-- ITS FALSE NEIGHBOUR: 'it returns false'. Refute it at one input. -/
def fnChainsWrong : ChangeSpec := { name := "fnChains", fn := fun _ => fun
  | [d1, d2] => { results := [.lit (.bool false)], args := [d1, d2] }
  | _ => none }
def FnChainsWrongFalsely : Prop := fnChainsRow.holds Try.pinned (OpenSpec.ofChange fnChainsWrong)

/-- 'laws.FnExactValidTrain': WHATEVER THE INPUT: true; the input reads as it did. -/
def fnExactValidTrainSpec : ChangeSpec := { name := "fnExactValidTrain", fn := fun _ => fun
  | [d] => { results := [.lit (.bool true)], args := [d] }
  | _ => none }
def fnExactValidTrainRow : OpenClaim := { program := "ytaefgkhbgljkoaa", sum := "32c164f5f499163118085b1853b97a906cb99748aff93d5ad6b0b0d12c147452", func := "loop.example/g00930/laws.FnExactValidTrain", spec := "fnExactValidTrain", apart := false }
def FnExactValidTrainSaid : Prop := fnExactValidTrainRow.holds Try.pinned (OpenSpec.ofChange fnExactValidTrainSpec)

/-- ITS FALSE NEIGHBOUR: 'it returns false'. Refute it at one input. -/
def fnExactValidTrainWrong : ChangeSpec := { name := "fnExactValidTrain", fn := fun _ => fun
  | [d] => { results := [.lit (.bool false)], args := [d] }
  | _ => none }
def FnExactValidTrainWrongFalsely : Prop := fnExactValidTrainRow.holds Try.pinned (OpenSpec.ofChange fnExactValidTrainWrong)

/-- 'laws.FnExactRatioOf': WHATEVER THE INPUT: true; the input reads as it did. -/
def fnExactRatioOfSpec : ChangeSpec := { name := "fnExactRatioOf", fn := fun _ => fun
  | [d] => { results := [.lit (.bool true)], args := [d] }
  | _ => none }
def fnExactRatioOfRow : OpenClaim := { program := "ytaefgkhbgljkoaa", sum := "32c164f5f499163118085b1853b97a906cb99748aff93d5ad6b0b0d12c147452", func := "loop.example/g00930/laws.FnExactRatioOf", spec := "fnExactRatioOf", recurses := true, apart := false }
def FnExactRatioOfSaid : Prop := fnExactRatioOfRow.holds Try.pinned (OpenSpec.ofChange fnExactRatioOfSpec)

/-- ITS FALSE NEIGHBOUR: 'it returns false'. Refute it at one input. -/
def fnExactRatioOfWrong : ChangeSpec := { name := "fnExactRatioOf", fn := fun _ => fun
  | [d] => { results := [.lit (.bool false)], args := [d] }
  | _ => none }
def FnExactRatioOfWrongFalsely : Prop := fnExactRatioOfRow.holds Try.pinned (OpenSpec.ofChange fnExactRatioOfWrong)

/-- 'laws.FnExactOutputTurns': WHATEVER THE INPUT: true; the input reads as it did. -/
def fnExactOutputTurnsSpec : ChangeSpec := { name := "fnExactOutputTurns", fn := fun _ => fun
  | [d1, d2] => { results := [.lit (.bool true)], args := [d1, d2] }
  | _ => none }
def fnExactOutputTurnsRow : OpenClaim := { program := "ytaefgkhbgljkoaa", sum := "32c164f5f499163118085b1853b97a906cb99748aff93d5ad6b0b0d12c147452", func := "loop.example/g00930/laws.FnExactOutputTurns", spec := "fnExactOutputTurns", recurses := true, apart := false }
def FnExactOutputTurnsSaid : Prop := fnExactOutputTurnsRow.holds Try.pinned (OpenSpec.ofChange fnExactOutputTurnsSpec)

/-- ITS FALSE NEIGHBOUR: 'it returns false'. Refute it at one input. -/
def fnExactOutputTurnsWrong : ChangeSpec := { name := "fnExactOutputTurns", fn := fun _ => fun
  | [d1, d2] => { results := [.lit (.bool false)], args := [d1, d2] }
  | _ => none }
def FnExactOutputTurnsWrongFalsely : Prop := fnExactOutputTurnsRow.holds Try.pinned (OpenSpec.ofChange fnExactOutputTurnsWrong)

/-- 'laws.FnExactLeastTurns': WHATEVER THE INPUT: true; the input reads as it did. -/
def fnExactLeastTurnsSpec : ChangeSpec := { name := "fnExactLeastTurns", fn := fun _ => fun
  | [d] => { results := [.lit (.bool true)], args := [d] }
  | _ => none }
def fnExactLeastTurnsRow : OpenClaim := { program := "ytaefgkhbgljkoaa", sum := "32c164f5f499163118085b1853b97a906cb99748aff93d5ad6b0b0d12c147452", func := "loop.example/g00930/laws.FnExactLeastTurns", spec := "fnExactLeastTurns", recurses := true, apart := false }
def FnExactLeastTurnsSaid : Prop := fnExactLeastTurnsRow.holds Try.pinned (OpenSpec.ofChange fnExactLeastTurnsSpec)

/-- ITS FALSE NEIGHBOUR: 'it returns false'. Refute it at one input. -/
def fnExactLeastTurnsWrong : ChangeSpec := { name := "fnExactLeastTurns", fn := fun _ => fun
  | [d] => { results := [.lit (.bool false)], args := [d] }
  | _ => none }
def FnExactLeastTurnsWrongFalsely : Prop := fnExactLeastTurnsRow.holds Try.pinned (OpenSpec.ofChange fnExactLeastTurnsWrong)

/-- 'laws.FnExactBackTrain': WHATEVER THE INPUT: true; the input reads as it did. -/
def fnExactBackTrainSpec : ChangeSpec := { name := "fnExactBackTrain", fn := fun _ => fun
  | [d] => { results := [.lit (.bool true)], args := [d] }
  | _ => none }
def fnExactBackTrainRow : OpenClaim := { program := "ytaefgkhbgljkoaa", sum := "32c164f5f499163118085b1853b97a906cb99748aff93d5ad6b0b0d12c147452", func := "loop.example/g00930/laws.FnExactBackTrain", spec := "fnExactBackTrain", unfollowed := true, recurses := true, apart := false }
def FnExactBackTrainSaid : Prop := fnExactBackTrainRow.holds Try.pinned (OpenSpec.ofChange fnExactBackTrainSpec)

/-- ITS FALSE NEIGHBOUR: 'it returns false'. Refute it at one input. -/
def fnExactBackTrainWrong : ChangeSpec := { name := "fnExactBackTrain", fn := fun _ => fun
  | [d] => { results := [.lit (.bool false)], args := [d] }
  | _ => none }
def FnExactBackTrainWrongFalsely : Prop := fnExactBackTrainRow.holds Try.pinned (OpenSpec.ofChange fnExactBackTrainWrong)

/-- 'laws.FnExactJoinTrains': WHATEVER THE INPUT: true; the input reads as it did. -/
def fnExactJoinTrainsSpec : ChangeSpec := { name := "fnExactJoinTrains", fn := fun _ => fun
  | [d1, d2] => { results := [.lit (.bool true)], args := [d1, d2] }
  | _ => none }
def fnExactJoinTrainsRow : OpenClaim := { program := "ytaefgkhbgljkoaa", sum := "32c164f5f499163118085b1853b97a906cb99748aff93d5ad6b0b0d12c147452", func := "loop.example/g00930/laws.FnExactJoinTrains", spec := "fnExactJoinTrains", apart := false }
def FnExactJoinTrainsSaid : Prop := fnExactJoinTrainsRow.holds Try.pinned (OpenSpec.ofChange fnExactJoinTrainsSpec)

/-- ITS FALSE NEIGHBOUR: 'it returns false'. Refute it at one input. -/
def fnExactJoinTrainsWrong : ChangeSpec := { name := "fnExactJoinTrains", fn := fun _ => fun
  | [d1, d2] => { results := [.lit (.bool false)], args := [d1, d2] }
  | _ => none }
def FnExactJoinTrainsWrongFalsely : Prop := fnExactJoinTrainsRow.holds Try.pinned (OpenSpec.ofChange fnExactJoinTrainsWrong)

/-- 'laws.FnExactFindTrain': WHATEVER THE INPUT: true; the input reads as it did. -/
def fnExactFindTrainSpec : ChangeSpec := { name := "fnExactFindTrain", fn := fun _ => fun
  | [d1, d2] => { results := [.lit (.bool true)], args := [d1, d2] }
  | _ => none }
def fnExactFindTrainRow : OpenClaim := { program := "ytaefgkhbgljkoaa", sum := "32c164f5f499163118085b1853b97a906cb99748aff93d5ad6b0b0d12c147452", func := "loop.example/g00930/laws.FnExactFindTrain", spec := "fnExactFindTrain", recurses := true, apart := false }
def FnExactFindTrainSaid : Prop := fnExactFindTrainRow.holds Try.pinned (OpenSpec.ofChange fnExactFindTrainSpec)

/-- ITS FALSE NEIGHBOUR: 'it returns false'. Refute it at one input. -/
def fnExactFindTrainWrong : ChangeSpec := { name := "fnExactFindTrain", fn := fun _ => fun
  | [d1, d2] => { results := [.lit (.bool false)], args := [d1, d2] }
  | _ => none }
def FnExactFindTrainWrongFalsely : Prop := fnExactFindTrainRow.holds Try.pinned (OpenSpec.ofChange fnExactFindTrainWrong)

/-- 'laws.FnExactValidChain': WHATEVER THE INPUT: true; the input reads as it did. -/
def fnExactValidChainSpec : ChangeSpec := { name := "fnExactValidChain", fn := fun _ => fun
  | [d] => { results := [.lit (.bool true)], args := [d] }
  | _ => none }
def fnExactValidChainRow : OpenClaim := { program := "ytaefgkhbgljkoaa", sum := "32c164f5f499163118085b1853b97a906cb99748aff93d5ad6b0b0d12c147452", func := "loop.example/g00930/laws.FnExactValidChain", spec := "fnExactValidChain", apart := false }
def FnExactValidChainSaid : Prop := fnExactValidChainRow.holds Try.pinned (OpenSpec.ofChange fnExactValidChainSpec)

/-- ITS FALSE NEIGHBOUR: 'it returns false'. Refute it at one input. -/
def fnExactValidChainWrong : ChangeSpec := { name := "fnExactValidChain", fn := fun _ => fun
  | [d] => { results := [.lit (.bool false)], args := [d] }
  | _ => none }
def FnExactValidChainWrongFalsely : Prop := fnExactValidChainRow.holds Try.pinned (OpenSpec.ofChange fnExactValidChainWrong)

/-- 'laws.FnExactSameChain': WHATEVER THE INPUT: true; the input reads as it did. -/
def fnExactSameChainSpec : ChangeSpec := { name := "fnExactSameChain", fn := fun _ => fun
  | [d1, d2] => { results := [.lit (.bool true)], args := [d1, d2] }
  | _ => none }
def fnExactSameChainRow : OpenClaim := { program := "ytaefgkhbgljkoaa", sum := "32c164f5f499163118085b1853b97a906cb99748aff93d5ad6b0b0d12c147452", func := "loop.example/g00930/laws.FnExactSameChain", spec := "fnExactSameChain", apart := false }
def FnExactSameChainSaid : Prop := fnExactSameChainRow.holds Try.pinned (OpenSpec.ofChange fnExactSameChainSpec)

/-- ITS FALSE NEIGHBOUR: 'it returns false'. Refute it at one input. -/
def fnExactSameChainWrong : ChangeSpec := { name := "fnExactSameChain", fn := fun _ => fun
  | [d1, d2] => { results := [.lit (.bool false)], args := [d1, d2] }
  | _ => none }
def FnExactSameChainWrongFalsely : Prop := fnExactSameChainRow.holds Try.pinned (OpenSpec.ofChange fnExactSameChainWrong)

/-- 'laws.FnExactMoveChain': WHATEVER THE INPUT: true; the input reads as it did. -/
def fnExactMoveChainSpec : ChangeSpec := { name := "fnExactMoveChain", fn := fun _ => fun
  | [d1, d2] => { results := [.lit (.bool true)], args := [d1, d2] }
  | _ => none }
def fnExactMoveChainRow : OpenClaim := { program := "ytaefgkhbgljkoaa", sum := "32c164f5f499163118085b1853b97a906cb99748aff93d5ad6b0b0d12c147452", func := "loop.example/g00930/laws.FnExactMoveChain", spec := "fnExactMoveChain", apart := false }
def FnExactMoveChainSaid : Prop := fnExactMoveChainRow.holds Try.pinned (OpenSpec.ofChange fnExactMoveChainSpec)

/-- ITS FALSE NEIGHBOUR: 'it returns false'. Refute it at one input. -/
def fnExactMoveChainWrong : ChangeSpec := { name := "fnExactMoveChain", fn := fun _ => fun
  | [d1, d2] => { results := [.lit (.bool false)], args := [d1, d2] }
  | _ => none }
def FnExactMoveChainWrongFalsely : Prop := fnExactMoveChainRow.holds Try.pinned (OpenSpec.ofChange fnExactMoveChainWrong)

/-- 'laws.FnExactTotalPlay': WHATEVER THE INPUT: true; the input reads as it did. -/
def fnExactTotalPlaySpec : ChangeSpec := { name := "fnExactTotalPlay", fn := fun _ => fun
  | [d] => { results := [.lit (.bool true)], args := [d] }
  | _ => none }
def fnExactTotalPlayRow : OpenClaim := { program := "ytaefgkhbgljkoaa", sum := "32c164f5f499163118085b1853b97a906cb99748aff93d5ad6b0b0d12c147452", func := "loop.example/g00930/laws.FnExactTotalPlay", spec := "fnExactTotalPlay", apart := false }
def FnExactTotalPlaySaid : Prop := fnExactTotalPlayRow.holds Try.pinned (OpenSpec.ofChange fnExactTotalPlaySpec)

/-- ITS FALSE NEIGHBOUR: 'it returns false'. Refute it at one input. -/
def fnExactTotalPlayWrong : ChangeSpec := { name := "fnExactTotalPlay", fn := fun _ => fun
  | [d] => { results := [.lit (.bool false)], args := [d] }
  | _ => none }
def FnExactTotalPlayWrongFalsely : Prop := fnExactTotalPlayRow.holds Try.pinned (OpenSpec.ofChange fnExactTotalPlayWrong)

/-- 'laws.FnExactMoveNeeded': WHATEVER THE INPUT: true; the input reads as it did. -/
def fnExactMoveNeededSpec : ChangeSpec := { name := "fnExactMoveNeeded", fn := fun _ => fun
  | [d1, d2] => { results := [.lit (.bool true)], args := [d1, d2] }
  | _ => none }
def fnExactMoveNeededRow : OpenClaim := { program := "ytaefgkhbgljkoaa", sum := "32c164f5f499163118085b1853b97a906cb99748aff93d5ad6b0b0d12c147452", func := "loop.example/g00930/laws.FnExactMoveNeeded", spec := "fnExactMoveNeeded", apart := false }
def FnExactMoveNeededSaid : Prop := fnExactMoveNeededRow.holds Try.pinned (OpenSpec.ofChange fnExactMoveNeededSpec)

/-- ITS FALSE NEIGHBOUR: 'it returns false'. Refute it at one input. -/
def fnExactMoveNeededWrong : ChangeSpec := { name := "fnExactMoveNeeded", fn := fun _ => fun
  | [d1, d2] => { results := [.lit (.bool false)], args := [d1, d2] }
  | _ => none }
def FnExactMoveNeededWrongFalsely : Prop := fnExactMoveNeededRow.holds Try.pinned (OpenSpec.ofChange fnExactMoveNeededWrong)

/- THE SECOND FORM. 'bulk': how many values and letters a reading holds, each counted each time it is reached (what is shared counts as often as it is met; a slice's spare places count too). A statement '..UptoSaid' is the law's where the arguments, and the package variables that the reading takes, are together of bulk at most 1048576: NARROWER than '..Said'. Prove '..Said' where nothing that the law and all that it calls make is longer than what came in: it says more and counts as full. Else prove '..UptoSaid'. A law counts once. -/
mutual
def uptoBulk {H : Type} : DataW H → Nat
  | .lit (.string bytes) => bytes.length + 1
  | .lit _ => 1
  | .nil => 1
  | .ptr d => uptoBulk d + 1
  | .slice elems spare => uptoBulkAll elems + uptoBulkAll spare + 1
  | .agg parts => uptoBulkAll parts + 1
  | .iface _ d => uptoBulk d + 1
  | .map entries => uptoBulkEntries entries + 1
  | .held _ => 1
def uptoBulkAll {H : Type} : List (DataW H) → Nat
  | [] => 0
  | d :: r => uptoBulk d + uptoBulkAll r
def uptoBulkEntries {H : Type} : List (Lit × DataW H) → Nat
  | [] => 0
  | x :: r => uptoBulkEntry x + uptoBulkEntries r
def uptoBulkEntry {H : Type} : Lit × DataW H → Nat
  | (.string bytes, d) => bytes.length + uptoBulk d + 1
  | (_, d) => uptoBulk d + 1
 end
def uptoSmall : (H : Type) → List (DataW H) → Bool := fun _ ds => decide (uptoBulkAll ds ≤ 1048576)
def OpenSpec.upto (s : _root_.Go.ChangeSpec) : _root_.Go.OpenSpec := { _root_.Go.OpenSpec.ofChange s with cond := some uptoSmall }

/-- 'laws.FnTrains', WHERE WHAT IT READS IS OF BULK AT MOST 1048576: true; the input reads as it did. -/
def fnTrainsUptoRow : OpenClaim := { program := "ytaefgkhbgljkoaa", sum := "32c164f5f499163118085b1853b97a906cb99748aff93d5ad6b0b0d12c147452", func := "loop.example/g00930/laws.FnTrains", spec := "fnTrains", unfollowed := true, recurses := true, apart := false, narrowed := true }
def FnTrainsUptoSaid : Prop := fnTrainsUptoRow.holds Try.pinned (OpenSpec.upto fnTrainsSpec)

/-- 'laws.FnChains', WHERE WHAT IT READS IS OF BULK AT MOST 1048576: true; the input reads as it did. -/
def fnChainsUptoRow : OpenClaim := { program := "ytaefgkhbgljkoaa", sum := "32c164f5f499163118085b1853b97a906cb99748aff93d5ad6b0b0d12c147452", func := "loop.example/g00930/laws.FnChains", spec := "fnChains", apart := false, narrowed := true }
def FnChainsUptoSaid : Prop := fnChainsUptoRow.holds Try.pinned (OpenSpec.upto fnChainsSpec)

/-- 'laws.FnExactValidTrain', WHERE WHAT IT READS IS OF BULK AT MOST 1048576: true; the input reads as it did. -/
def fnExactValidTrainUptoRow : OpenClaim := { program := "ytaefgkhbgljkoaa", sum := "32c164f5f499163118085b1853b97a906cb99748aff93d5ad6b0b0d12c147452", func := "loop.example/g00930/laws.FnExactValidTrain", spec := "fnExactValidTrain", apart := false, narrowed := true }
def FnExactValidTrainUptoSaid : Prop := fnExactValidTrainUptoRow.holds Try.pinned (OpenSpec.upto fnExactValidTrainSpec)

/-- 'laws.FnExactRatioOf', WHERE WHAT IT READS IS OF BULK AT MOST 1048576: true; the input reads as it did. -/
def fnExactRatioOfUptoRow : OpenClaim := { program := "ytaefgkhbgljkoaa", sum := "32c164f5f499163118085b1853b97a906cb99748aff93d5ad6b0b0d12c147452", func := "loop.example/g00930/laws.FnExactRatioOf", spec := "fnExactRatioOf", recurses := true, apart := false, narrowed := true }
def FnExactRatioOfUptoSaid : Prop := fnExactRatioOfUptoRow.holds Try.pinned (OpenSpec.upto fnExactRatioOfSpec)

/-- 'laws.FnExactOutputTurns', WHERE WHAT IT READS IS OF BULK AT MOST 1048576: true; the input reads as it did. -/
def fnExactOutputTurnsUptoRow : OpenClaim := { program := "ytaefgkhbgljkoaa", sum := "32c164f5f499163118085b1853b97a906cb99748aff93d5ad6b0b0d12c147452", func := "loop.example/g00930/laws.FnExactOutputTurns", spec := "fnExactOutputTurns", recurses := true, apart := false, narrowed := true }
def FnExactOutputTurnsUptoSaid : Prop := fnExactOutputTurnsUptoRow.holds Try.pinned (OpenSpec.upto fnExactOutputTurnsSpec)

/-- 'laws.FnExactLeastTurns', WHERE WHAT IT READS IS OF BULK AT MOST 1048576: true; the input reads as it did. -/
def fnExactLeastTurnsUptoRow : OpenClaim := { program := "ytaefgkhbgljkoaa", sum := "32c164f5f499163118085b1853b97a906cb99748aff93d5ad6b0b0d12c147452", func := "loop.example/g00930/laws.FnExactLeastTurns", spec := "fnExactLeastTurns", recurses := true, apart := false, narrowed := true }
def FnExactLeastTurnsUptoSaid : Prop := fnExactLeastTurnsUptoRow.holds Try.pinned (OpenSpec.upto fnExactLeastTurnsSpec)

/-- 'laws.FnExactBackTrain', WHERE WHAT IT READS IS OF BULK AT MOST 1048576: true; the input reads as it did. -/
def fnExactBackTrainUptoRow : OpenClaim := { program := "ytaefgkhbgljkoaa", sum := "32c164f5f499163118085b1853b97a906cb99748aff93d5ad6b0b0d12c147452", func := "loop.example/g00930/laws.FnExactBackTrain", spec := "fnExactBackTrain", unfollowed := true, recurses := true, apart := false, narrowed := true }
def FnExactBackTrainUptoSaid : Prop := fnExactBackTrainUptoRow.holds Try.pinned (OpenSpec.upto fnExactBackTrainSpec)

/-- 'laws.FnExactJoinTrains', WHERE WHAT IT READS IS OF BULK AT MOST 1048576: true; the input reads as it did. -/
def fnExactJoinTrainsUptoRow : OpenClaim := { program := "ytaefgkhbgljkoaa", sum := "32c164f5f499163118085b1853b97a906cb99748aff93d5ad6b0b0d12c147452", func := "loop.example/g00930/laws.FnExactJoinTrains", spec := "fnExactJoinTrains", apart := false, narrowed := true }
def FnExactJoinTrainsUptoSaid : Prop := fnExactJoinTrainsUptoRow.holds Try.pinned (OpenSpec.upto fnExactJoinTrainsSpec)

/-- 'laws.FnExactFindTrain', WHERE WHAT IT READS IS OF BULK AT MOST 1048576: true; the input reads as it did. -/
def fnExactFindTrainUptoRow : OpenClaim := { program := "ytaefgkhbgljkoaa", sum := "32c164f5f499163118085b1853b97a906cb99748aff93d5ad6b0b0d12c147452", func := "loop.example/g00930/laws.FnExactFindTrain", spec := "fnExactFindTrain", recurses := true, apart := false, narrowed := true }
def FnExactFindTrainUptoSaid : Prop := fnExactFindTrainUptoRow.holds Try.pinned (OpenSpec.upto fnExactFindTrainSpec)

/-- 'laws.FnExactValidChain', WHERE WHAT IT READS IS OF BULK AT MOST 1048576: true; the input reads as it did. -/
def fnExactValidChainUptoRow : OpenClaim := { program := "ytaefgkhbgljkoaa", sum := "32c164f5f499163118085b1853b97a906cb99748aff93d5ad6b0b0d12c147452", func := "loop.example/g00930/laws.FnExactValidChain", spec := "fnExactValidChain", apart := false, narrowed := true }
def FnExactValidChainUptoSaid : Prop := fnExactValidChainUptoRow.holds Try.pinned (OpenSpec.upto fnExactValidChainSpec)

/-- 'laws.FnExactSameChain', WHERE WHAT IT READS IS OF BULK AT MOST 1048576: true; the input reads as it did. -/
def fnExactSameChainUptoRow : OpenClaim := { program := "ytaefgkhbgljkoaa", sum := "32c164f5f499163118085b1853b97a906cb99748aff93d5ad6b0b0d12c147452", func := "loop.example/g00930/laws.FnExactSameChain", spec := "fnExactSameChain", apart := false, narrowed := true }
def FnExactSameChainUptoSaid : Prop := fnExactSameChainUptoRow.holds Try.pinned (OpenSpec.upto fnExactSameChainSpec)

/-- 'laws.FnExactMoveChain', WHERE WHAT IT READS IS OF BULK AT MOST 1048576: true; the input reads as it did. -/
def fnExactMoveChainUptoRow : OpenClaim := { program := "ytaefgkhbgljkoaa", sum := "32c164f5f499163118085b1853b97a906cb99748aff93d5ad6b0b0d12c147452", func := "loop.example/g00930/laws.FnExactMoveChain", spec := "fnExactMoveChain", apart := false, narrowed := true }
def FnExactMoveChainUptoSaid : Prop := fnExactMoveChainUptoRow.holds Try.pinned (OpenSpec.upto fnExactMoveChainSpec)

/-- 'laws.FnExactTotalPlay', WHERE WHAT IT READS IS OF BULK AT MOST 1048576: true; the input reads as it did. -/
def fnExactTotalPlayUptoRow : OpenClaim := { program := "ytaefgkhbgljkoaa", sum := "32c164f5f499163118085b1853b97a906cb99748aff93d5ad6b0b0d12c147452", func := "loop.example/g00930/laws.FnExactTotalPlay", spec := "fnExactTotalPlay", apart := false, narrowed := true }
def FnExactTotalPlayUptoSaid : Prop := fnExactTotalPlayUptoRow.holds Try.pinned (OpenSpec.upto fnExactTotalPlaySpec)

/-- 'laws.FnExactMoveNeeded', WHERE WHAT IT READS IS OF BULK AT MOST 1048576: true; the input reads as it did. -/
def fnExactMoveNeededUptoRow : OpenClaim := { program := "ytaefgkhbgljkoaa", sum := "32c164f5f499163118085b1853b97a906cb99748aff93d5ad6b0b0d12c147452", func := "loop.example/g00930/laws.FnExactMoveNeeded", spec := "fnExactMoveNeeded", apart := false, narrowed := true }
def FnExactMoveNeededUptoSaid : Prop := fnExactMoveNeededUptoRow.holds Try.pinned (OpenSpec.upto fnExactMoveNeededSpec)

end Rows
end Go.Proofs.Ytaefgkhbgljkoaa
