/-
  No cell of these rows narrows 'for every input' (looked for: loops, veiled, ifaces, maps, wideKeys, modest, calm, conditions, laid).
  DERIVED. THE GIVEN ROWS OF THIS SEAT. 12 by the template 'for every input the law returns true; each argument reads behind the call as it read before'; 0 by the template 'total and deterministic' (their statements: YtkhfbhphmdcelaaTotals.lean).
  GIVEN WITH THE SEED: the statements are not yours to turn. If you find one false, say at which input.
  Laid BY PROGRAM, IN A SANDBOX (cutbox-rows.mjs): the forced cells as the released guide's own fill.sh prints them over the translation 51aab2f44a105f1d… (all of the seat's roots in one cut). By AI agents, Wed Nov 11 2026. No macro, syntax, notation, axiom, sorry.
-/
import Derived.Test.YtkhfbhphmdcelaaChecked
import GoSem.Claim
import GoSem.ClaimJoined
import GoSem.ClaimMapViews
import Derived.JoinedTies
import Derived.KernelRfl
namespace Go.Proofs.Ytkhfbhphmdcelaa
/- THE CELL 'sum', in the pinned program and in every row, IS THE sha256 OF THE DUMP (.gsa) THAT YtkhfbhphmdcelaaProg.lean LOADS. Nothing in Lean hashes anything: it is a label: what it is worth is what the hold of that sum in a sandbox is worth. -/
noncomputable def Try.pinned : Pinned := { name := "ytkhfbhphmdcelaa", sum := "51aab2f44a105f1de81b7cb132ceede40add0fd3a9f9021649fe16675a34c3a6", checked := Try.checked }
namespace Rows
def none {H : Type} : Left H := { results := [], args := [] }

/-- 'laws.FnAbaci': WHATEVER THE INPUT: true; the input reads as it did. -/
def fnAbaciSpec : ChangeSpec := { name := "fnAbaci", fn := fun _ => fun
  | [d] => { results := [.lit (.bool true)], args := [d] }
  | _ => none }
def fnAbaciRow : OpenClaim := { program := "ytkhfbhphmdcelaa", sum := "51aab2f44a105f1de81b7cb132ceede40add0fd3a9f9021649fe16675a34c3a6", func := "loop.example/g00930/laws.FnAbaci", spec := "fnAbaci", inPlace := ["internal/abi.NoEscape", "internal/bytealg.MakeNoZero"], unfollowed := true, recurses := true, apart := false }
def FnAbaciSaid : Prop := fnAbaciRow.holds Try.pinned (OpenSpec.ofChange fnAbaciSpec)

/-- ITS FALSE NEIGHBOUR: 'it returns false'. Refute it at one input. -/
def fnAbaciWrong : ChangeSpec := { name := "fnAbaci", fn := fun _ => fun
  | [d] => { results := [.lit (.bool false)], args := [d] }
  | _ => none }
def FnAbaciWrongFalsely : Prop := fnAbaciRow.holds Try.pinned (OpenSpec.ofChange fnAbaciWrong)

/-- 'laws.FnBeads': WHATEVER THE INPUT: true; the input reads as it did. -/
def fnBeadsSpec : ChangeSpec := { name := "fnBeads", fn := fun _ => fun
  | [d] => { results := [.lit (.bool true)], args := [d] }
  | _ => none }
def fnBeadsRow : OpenClaim := { program := "ytkhfbhphmdcelaa", sum := "51aab2f44a105f1de81b7cb132ceede40add0fd3a9f9021649fe16675a34c3a6", func := "loop.example/g00930/laws.FnBeads", spec := "fnBeads", unfollowed := true, recurses := true, apart := false }
def FnBeadsSaid : Prop := fnBeadsRow.holds Try.pinned (OpenSpec.ofChange fnBeadsSpec)

/-- ITS FALSE NEIGHBOUR: 'it returns false'. Refute it at one input. -/
def fnBeadsWrong : ChangeSpec := { name := "fnBeads", fn := fun _ => fun
  | [d] => { results := [.lit (.bool false)], args := [d] }
  | _ => none }
def FnBeadsWrongFalsely : Prop := fnBeadsRow.holds Try.pinned (OpenSpec.ofChange fnBeadsWrong)

/-- 'laws.FnTurned': WHATEVER THE INPUT: true; the input reads as it did. -/
def fnTurnedSpec : ChangeSpec := { name := "fnTurned", fn := fun _ => fun
  | [d] => { results := [.lit (.bool true)], args := [d] }
  | _ => none }
def fnTurnedRow : OpenClaim := { program := "ytkhfbhphmdcelaa", sum := "51aab2f44a105f1de81b7cb132ceede40add0fd3a9f9021649fe16675a34c3a6", func := "loop.example/g00930/laws.FnTurned", spec := "fnTurned", unfollowed := true, recurses := true, apart := false }
def FnTurnedSaid : Prop := fnTurnedRow.holds Try.pinned (OpenSpec.ofChange fnTurnedSpec)

/-- ITS FALSE NEIGHBOUR: 'it returns false'. Refute it at one input. -/
def fnTurnedWrong : ChangeSpec := { name := "fnTurned", fn := fun _ => fun
  | [d] => { results := [.lit (.bool false)], args := [d] }
  | _ => none }
def FnTurnedWrongFalsely : Prop := fnTurnedRow.holds Try.pinned (OpenSpec.ofChange fnTurnedWrong)

/-- 'laws.FnExactValidDrum': WHATEVER THE INPUT: true; the input reads as it did. -/
def fnExactValidDrumSpec : ChangeSpec := { name := "fnExactValidDrum", fn := fun _ => fun
  | [d] => { results := [.lit (.bool true)], args := [d] }
  | _ => none }
def fnExactValidDrumRow : OpenClaim := { program := "ytkhfbhphmdcelaa", sum := "51aab2f44a105f1de81b7cb132ceede40add0fd3a9f9021649fe16675a34c3a6", func := "loop.example/g00930/laws.FnExactValidDrum", spec := "fnExactValidDrum", apart := false }
def FnExactValidDrumSaid : Prop := fnExactValidDrumRow.holds Try.pinned (OpenSpec.ofChange fnExactValidDrumSpec)

/-- ITS FALSE NEIGHBOUR: 'it returns false'. Refute it at one input. -/
def fnExactValidDrumWrong : ChangeSpec := { name := "fnExactValidDrum", fn := fun _ => fun
  | [d] => { results := [.lit (.bool false)], args := [d] }
  | _ => none }
def FnExactValidDrumWrongFalsely : Prop := fnExactValidDrumRow.holds Try.pinned (OpenSpec.ofChange fnExactValidDrumWrong)

/-- 'laws.FnExactStepTimes': WHATEVER THE INPUT: true; the input reads as it did. -/
def fnExactStepTimesSpec : ChangeSpec := { name := "fnExactStepTimes", fn := fun _ => fun
  | [d1, d2] => { results := [.lit (.bool true)], args := [d1, d2] }
  | _ => none }
def fnExactStepTimesRow : OpenClaim := { program := "ytkhfbhphmdcelaa", sum := "51aab2f44a105f1de81b7cb132ceede40add0fd3a9f9021649fe16675a34c3a6", func := "loop.example/g00930/laws.FnExactStepTimes", spec := "fnExactStepTimes", unfollowed := true, recurses := true, apart := false }
def FnExactStepTimesSaid : Prop := fnExactStepTimesRow.holds Try.pinned (OpenSpec.ofChange fnExactStepTimesSpec)

/-- ITS FALSE NEIGHBOUR: 'it returns false'. Refute it at one input. -/
def fnExactStepTimesWrong : ChangeSpec := { name := "fnExactStepTimes", fn := fun _ => fun
  | [d1, d2] => { results := [.lit (.bool false)], args := [d1, d2] }
  | _ => none }
def FnExactStepTimesWrongFalsely : Prop := fnExactStepTimesRow.holds Try.pinned (OpenSpec.ofChange fnExactStepTimesWrong)

/-- 'laws.FnExactStepsBy': WHATEVER THE INPUT: true; the input reads as it did. -/
def fnExactStepsBySpec : ChangeSpec := { name := "fnExactStepsBy", fn := fun _ => fun
  | [d1, d2, d3] => { results := [.lit (.bool true)], args := [d1, d2, d3] }
  | _ => none }
def fnExactStepsByRow : OpenClaim := { program := "ytkhfbhphmdcelaa", sum := "51aab2f44a105f1de81b7cb132ceede40add0fd3a9f9021649fe16675a34c3a6", func := "loop.example/g00930/laws.FnExactStepsBy", spec := "fnExactStepsBy", unfollowed := true, recurses := true, apart := false }
def FnExactStepsBySaid : Prop := fnExactStepsByRow.holds Try.pinned (OpenSpec.ofChange fnExactStepsBySpec)

/-- ITS FALSE NEIGHBOUR: 'it returns false'. Refute it at one input. -/
def fnExactStepsByWrong : ChangeSpec := { name := "fnExactStepsBy", fn := fun _ => fun
  | [d1, d2, d3] => { results := [.lit (.bool false)], args := [d1, d2, d3] }
  | _ => none }
def FnExactStepsByWrongFalsely : Prop := fnExactStepsByRow.holds Try.pinned (OpenSpec.ofChange fnExactStepsByWrong)

/-- 'laws.FnExactStepsBetween': WHATEVER THE INPUT: true; the input reads as it did. -/
def fnExactStepsBetweenSpec : ChangeSpec := { name := "fnExactStepsBetween", fn := fun _ => fun
  | [d1, d2, d3, d4] => { results := [.lit (.bool true)], args := [d1, d2, d3, d4] }
  | _ => none }
def fnExactStepsBetweenRow : OpenClaim := { program := "ytkhfbhphmdcelaa", sum := "51aab2f44a105f1de81b7cb132ceede40add0fd3a9f9021649fe16675a34c3a6", func := "loop.example/g00930/laws.FnExactStepsBetween", spec := "fnExactStepsBetween", unfollowed := true, recurses := true, apart := false }
def FnExactStepsBetweenSaid : Prop := fnExactStepsBetweenRow.holds Try.pinned (OpenSpec.ofChange fnExactStepsBetweenSpec)

/-- ITS FALSE NEIGHBOUR: 'it returns false'. Refute it at one input. -/
def fnExactStepsBetweenWrong : ChangeSpec := { name := "fnExactStepsBetween", fn := fun _ => fun
  | [d1, d2, d3, d4] => { results := [.lit (.bool false)], args := [d1, d2, d3, d4] }
  | _ => none }
def FnExactStepsBetweenWrongFalsely : Prop := fnExactStepsBetweenRow.holds Try.pinned (OpenSpec.ofChange fnExactStepsBetweenWrong)

/-- 'laws.FnExactDigitFor': WHATEVER THE INPUT: true; the input reads as it did. -/
def fnExactDigitForSpec : ChangeSpec := { name := "fnExactDigitFor", fn := fun _ => fun
  | [d1, d2] => { results := [.lit (.bool true)], args := [d1, d2] }
  | _ => none }
def fnExactDigitForRow : OpenClaim := { program := "ytkhfbhphmdcelaa", sum := "51aab2f44a105f1de81b7cb132ceede40add0fd3a9f9021649fe16675a34c3a6", func := "loop.example/g00930/laws.FnExactDigitFor", spec := "fnExactDigitFor", unfollowed := true, recurses := true, apart := false }
def FnExactDigitForSaid : Prop := fnExactDigitForRow.holds Try.pinned (OpenSpec.ofChange fnExactDigitForSpec)

/-- ITS FALSE NEIGHBOUR: 'it returns false'. Refute it at one input. -/
def fnExactDigitForWrong : ChangeSpec := { name := "fnExactDigitFor", fn := fun _ => fun
  | [d1, d2] => { results := [.lit (.bool false)], args := [d1, d2] }
  | _ => none }
def FnExactDigitForWrongFalsely : Prop := fnExactDigitForRow.holds Try.pinned (OpenSpec.ofChange fnExactDigitForWrong)

/-- 'laws.FnExactBrokenSteps': WHATEVER THE INPUT: true; the input reads as it did. -/
def fnExactBrokenStepsSpec : ChangeSpec := { name := "fnExactBrokenSteps", fn := fun _ => fun
  | [d1, d2, d3] => { results := [.lit (.bool true)], args := [d1, d2, d3] }
  | _ => none }
def fnExactBrokenStepsRow : OpenClaim := { program := "ytkhfbhphmdcelaa", sum := "51aab2f44a105f1de81b7cb132ceede40add0fd3a9f9021649fe16675a34c3a6", func := "loop.example/g00930/laws.FnExactBrokenSteps", spec := "fnExactBrokenSteps", unfollowed := true, recurses := true, apart := false }
def FnExactBrokenStepsSaid : Prop := fnExactBrokenStepsRow.holds Try.pinned (OpenSpec.ofChange fnExactBrokenStepsSpec)

/-- ITS FALSE NEIGHBOUR: 'it returns false'. Refute it at one input. -/
def fnExactBrokenStepsWrong : ChangeSpec := { name := "fnExactBrokenSteps", fn := fun _ => fun
  | [d1, d2, d3] => { results := [.lit (.bool false)], args := [d1, d2, d3] }
  | _ => none }
def FnExactBrokenStepsWrongFalsely : Prop := fnExactBrokenStepsRow.holds Try.pinned (OpenSpec.ofChange fnExactBrokenStepsWrong)

/-- 'laws.FnExactBusiestTime': WHATEVER THE INPUT: true; the input reads as it did. -/
def fnExactBusiestTimeSpec : ChangeSpec := { name := "fnExactBusiestTime", fn := fun _ => fun
  | [d1, d2] => { results := [.lit (.bool true)], args := [d1, d2] }
  | _ => none }
def fnExactBusiestTimeRow : OpenClaim := { program := "ytkhfbhphmdcelaa", sum := "51aab2f44a105f1de81b7cb132ceede40add0fd3a9f9021649fe16675a34c3a6", func := "loop.example/g00930/laws.FnExactBusiestTime", spec := "fnExactBusiestTime", unfollowed := true, recurses := true, apart := false }
def FnExactBusiestTimeSaid : Prop := fnExactBusiestTimeRow.holds Try.pinned (OpenSpec.ofChange fnExactBusiestTimeSpec)

/-- ITS FALSE NEIGHBOUR: 'it returns false'. Refute it at one input. -/
def fnExactBusiestTimeWrong : ChangeSpec := { name := "fnExactBusiestTime", fn := fun _ => fun
  | [d1, d2] => { results := [.lit (.bool false)], args := [d1, d2] }
  | _ => none }
def FnExactBusiestTimeWrongFalsely : Prop := fnExactBusiestTimeRow.holds Try.pinned (OpenSpec.ofChange fnExactBusiestTimeWrong)

/-- 'laws.FnExactTurnDrums': WHATEVER THE INPUT: true; the input reads as it did. -/
def fnExactTurnDrumsSpec : ChangeSpec := { name := "fnExactTurnDrums", fn := fun _ => fun
  | [d1, d2, d3, d4] => { results := [.lit (.bool true)], args := [d1, d2, d3, d4] }
  | _ => none }
def fnExactTurnDrumsRow : OpenClaim := { program := "ytkhfbhphmdcelaa", sum := "51aab2f44a105f1de81b7cb132ceede40add0fd3a9f9021649fe16675a34c3a6", func := "loop.example/g00930/laws.FnExactTurnDrums", spec := "fnExactTurnDrums", unfollowed := true, recurses := true, apart := false }
def FnExactTurnDrumsSaid : Prop := fnExactTurnDrumsRow.holds Try.pinned (OpenSpec.ofChange fnExactTurnDrumsSpec)

/-- ITS FALSE NEIGHBOUR: 'it returns false'. Refute it at one input. -/
def fnExactTurnDrumsWrong : ChangeSpec := { name := "fnExactTurnDrums", fn := fun _ => fun
  | [d1, d2, d3, d4] => { results := [.lit (.bool false)], args := [d1, d2, d3, d4] }
  | _ => none }
def FnExactTurnDrumsWrongFalsely : Prop := fnExactTurnDrumsRow.holds Try.pinned (OpenSpec.ofChange fnExactTurnDrumsWrong)

/-- 'laws.FnExactDrumLines': WHATEVER THE INPUT: true; the input reads as it did. -/
def fnExactDrumLinesSpec : ChangeSpec := { name := "fnExactDrumLines", fn := fun _ => fun
  | [d] => { results := [.lit (.bool true)], args := [d] }
  | _ => none }
def fnExactDrumLinesRow : OpenClaim := { program := "ytkhfbhphmdcelaa", sum := "51aab2f44a105f1de81b7cb132ceede40add0fd3a9f9021649fe16675a34c3a6", func := "loop.example/g00930/laws.FnExactDrumLines", spec := "fnExactDrumLines", inPlace := ["internal/bytealg.MakeNoZero"], unfollowed := true, recurses := true, apart := false }
def FnExactDrumLinesSaid : Prop := fnExactDrumLinesRow.holds Try.pinned (OpenSpec.ofChange fnExactDrumLinesSpec)

/-- ITS FALSE NEIGHBOUR: 'it returns false'. Refute it at one input. -/
def fnExactDrumLinesWrong : ChangeSpec := { name := "fnExactDrumLines", fn := fun _ => fun
  | [d] => { results := [.lit (.bool false)], args := [d] }
  | _ => none }
def FnExactDrumLinesWrongFalsely : Prop := fnExactDrumLinesRow.holds Try.pinned (OpenSpec.ofChange fnExactDrumLinesWrong)

/- THE SECOND FORM. 'bulk': how many values and letters a reading holds, each counted each time it is reached (what is shared counts as often as it is met; a slice's spare places count too). A statement '..UptoSaid' is the law's where the arguments, and the package variables that the reading takes, are together of bulk at most 1048576: NARROWER than '..Said'. Prove '..Said' where nothing that the law and all that it calls make is longer than what came in: it says more and counts as full. Else prove '..UptoSaid'. A law counts once. -/
mutual
def uptoBulk {H : Type} : DataW H → Nat
  | .lit (.string bytes) => bytes.length + 1
  | .lit _ => 1
  | .nil => 1
  | .ptr d => uptoBulk d + 1
  | .slice elems spare => uptoBulkAll elems + uptoBulkAll spare + 1
  | .agg parts => uptoBulkAll parts + 1
  | .iface _ d => uptoBulk d + 1
  | .map entries => uptoBulkEntries entries + 1
  | .held _ => 1
def uptoBulkAll {H : Type} : List (DataW H) → Nat
  | [] => 0
  | d :: r => uptoBulk d + uptoBulkAll r
def uptoBulkEntries {H : Type} : List (Lit × DataW H) → Nat
  | [] => 0
  | x :: r => uptoBulkEntry x + uptoBulkEntries r
def uptoBulkEntry {H : Type} : Lit × DataW H → Nat
  | (.string bytes, d) => bytes.length + uptoBulk d + 1
  | (_, d) => uptoBulk d + 1
 end
def uptoSmall : (H : Type) → List (DataW H) → Bool := fun _ ds => decide (uptoBulkAll ds ≤ 1048576)
def OpenSpec.upto (s : _root_.Go.ChangeSpec) : _root_.Go.OpenSpec := { _root_.Go.OpenSpec.ofChange s with cond := some uptoSmall }

/-- 'laws.FnAbaci', WHERE WHAT IT READS IS OF BULK AT MOST 1048576: true; the input reads as it did. -/
def fnAbaciUptoRow : OpenClaim := { program := "ytkhfbhphmdcelaa", sum := "51aab2f44a105f1de81b7cb132ceede40add0fd3a9f9021649fe16675a34c3a6", func := "loop.example/g00930/laws.FnAbaci", spec := "fnAbaci", inPlace := ["internal/abi.NoEscape", "internal/bytealg.MakeNoZero"], unfollowed := true, recurses := true, apart := false, narrowed := true }
def FnAbaciUptoSaid : Prop := fnAbaciUptoRow.holds Try.pinned (OpenSpec.upto fnAbaciSpec)

/-- 'laws.FnBeads', WHERE WHAT IT READS IS OF BULK AT MOST 1048576: true; the input reads as it did. -/
def fnBeadsUptoRow : OpenClaim := { program := "ytkhfbhphmdcelaa", sum := "51aab2f44a105f1de81b7cb132ceede40add0fd3a9f9021649fe16675a34c3a6", func := "loop.example/g00930/laws.FnBeads", spec := "fnBeads", unfollowed := true, recurses := true, apart := false, narrowed := true }
def FnBeadsUptoSaid : Prop := fnBeadsUptoRow.holds Try.pinned (OpenSpec.upto fnBeadsSpec)

/-- 'laws.FnTurned', WHERE WHAT IT READS IS OF BULK AT MOST 1048576: true; the input reads as it did. -/
def fnTurnedUptoRow : OpenClaim := { program := "ytkhfbhphmdcelaa", sum := "51aab2f44a105f1de81b7cb132ceede40add0fd3a9f9021649fe16675a34c3a6", func := "loop.example/g00930/laws.FnTurned", spec := "fnTurned", unfollowed := true, recurses := true, apart := false, narrowed := true }
def FnTurnedUptoSaid : Prop := fnTurnedUptoRow.holds Try.pinned (OpenSpec.upto fnTurnedSpec)

/-- 'laws.FnExactValidDrum', WHERE WHAT IT READS IS OF BULK AT MOST 1048576: true; the input reads as it did. -/
def fnExactValidDrumUptoRow : OpenClaim := { program := "ytkhfbhphmdcelaa", sum := "51aab2f44a105f1de81b7cb132ceede40add0fd3a9f9021649fe16675a34c3a6", func := "loop.example/g00930/laws.FnExactValidDrum", spec := "fnExactValidDrum", apart := false, narrowed := true }
def FnExactValidDrumUptoSaid : Prop := fnExactValidDrumUptoRow.holds Try.pinned (OpenSpec.upto fnExactValidDrumSpec)

/-- 'laws.FnExactStepTimes', WHERE WHAT IT READS IS OF BULK AT MOST 1048576: true; the input reads as it did. -/
def fnExactStepTimesUptoRow : OpenClaim := { program := "ytkhfbhphmdcelaa", sum := "51aab2f44a105f1de81b7cb132ceede40add0fd3a9f9021649fe16675a34c3a6", func := "loop.example/g00930/laws.FnExactStepTimes", spec := "fnExactStepTimes", unfollowed := true, recurses := true, apart := false, narrowed := true }
def FnExactStepTimesUptoSaid : Prop := fnExactStepTimesUptoRow.holds Try.pinned (OpenSpec.upto fnExactStepTimesSpec)

/-- 'laws.FnExactStepsBy', WHERE WHAT IT READS IS OF BULK AT MOST 1048576: true; the input reads as it did. -/
def fnExactStepsByUptoRow : OpenClaim := { program := "ytkhfbhphmdcelaa", sum := "51aab2f44a105f1de81b7cb132ceede40add0fd3a9f9021649fe16675a34c3a6", func := "loop.example/g00930/laws.FnExactStepsBy", spec := "fnExactStepsBy", unfollowed := true, recurses := true, apart := false, narrowed := true }
def FnExactStepsByUptoSaid : Prop := fnExactStepsByUptoRow.holds Try.pinned (OpenSpec.upto fnExactStepsBySpec)

/-- 'laws.FnExactStepsBetween', WHERE WHAT IT READS IS OF BULK AT MOST 1048576: true; the input reads as it did. -/
def fnExactStepsBetweenUptoRow : OpenClaim := { program := "ytkhfbhphmdcelaa", sum := "51aab2f44a105f1de81b7cb132ceede40add0fd3a9f9021649fe16675a34c3a6", func := "loop.example/g00930/laws.FnExactStepsBetween", spec := "fnExactStepsBetween", unfollowed := true, recurses := true, apart := false, narrowed := true }
def FnExactStepsBetweenUptoSaid : Prop := fnExactStepsBetweenUptoRow.holds Try.pinned (OpenSpec.upto fnExactStepsBetweenSpec)

/-- 'laws.FnExactDigitFor', WHERE WHAT IT READS IS OF BULK AT MOST 1048576: true; the input reads as it did. -/
def fnExactDigitForUptoRow : OpenClaim := { program := "ytkhfbhphmdcelaa", sum := "51aab2f44a105f1de81b7cb132ceede40add0fd3a9f9021649fe16675a34c3a6", func := "loop.example/g00930/laws.FnExactDigitFor", spec := "fnExactDigitFor", unfollowed := true, recurses := true, apart := false, narrowed := true }
def FnExactDigitForUptoSaid : Prop := fnExactDigitForUptoRow.holds Try.pinned (OpenSpec.upto fnExactDigitForSpec)

/-- 'laws.FnExactBrokenSteps', WHERE WHAT IT READS IS OF BULK AT MOST 1048576: true; the input reads as it did. -/
def fnExactBrokenStepsUptoRow : OpenClaim := { program := "ytkhfbhphmdcelaa", sum := "51aab2f44a105f1de81b7cb132ceede40add0fd3a9f9021649fe16675a34c3a6", func := "loop.example/g00930/laws.FnExactBrokenSteps", spec := "fnExactBrokenSteps", unfollowed := true, recurses := true, apart := false, narrowed := true }
def FnExactBrokenStepsUptoSaid : Prop := fnExactBrokenStepsUptoRow.holds Try.pinned (OpenSpec.upto fnExactBrokenStepsSpec)

/-- 'laws.FnExactBusiestTime', WHERE WHAT IT READS IS OF BULK AT MOST 1048576: true; the input reads as it did. -/
def fnExactBusiestTimeUptoRow : OpenClaim := { program := "ytkhfbhphmdcelaa", sum := "51aab2f44a105f1de81b7cb132ceede40add0fd3a9f9021649fe16675a34c3a6", func := "loop.example/g00930/laws.FnExactBusiestTime", spec := "fnExactBusiestTime", unfollowed := true, recurses := true, apart := false, narrowed := true }
def FnExactBusiestTimeUptoSaid : Prop := fnExactBusiestTimeUptoRow.holds Try.pinned (OpenSpec.upto fnExactBusiestTimeSpec)

/-- 'laws.FnExactTurnDrums', WHERE WHAT IT READS IS OF BULK AT MOST 1048576: true; the input reads as it did. -/
def fnExactTurnDrumsUptoRow : OpenClaim := { program := "ytkhfbhphmdcelaa", sum := "51aab2f44a105f1de81b7cb132ceede40add0fd3a9f9021649fe16675a34c3a6", func := "loop.example/g00930/laws.FnExactTurnDrums", spec := "fnExactTurnDrums", unfollowed := true, recurses := true, apart := false, narrowed := true }
def FnExactTurnDrumsUptoSaid : Prop := fnExactTurnDrumsUptoRow.holds Try.pinned (OpenSpec.upto fnExactTurnDrumsSpec)

/-- 'laws.FnExactDrumLines', WHERE WHAT IT READS IS OF BULK AT MOST 1048576: true; the input reads as it did. -/
def fnExactDrumLinesUptoRow : OpenClaim := { program := "ytkhfbhphmdcelaa", sum := "51aab2f44a105f1de81b7cb132ceede40add0fd3a9f9021649fe16675a34c3a6", func := "loop.example/g00930/laws.FnExactDrumLines", spec := "fnExactDrumLines", inPlace := ["internal/bytealg.MakeNoZero"], unfollowed := true, recurses := true, apart := false, narrowed := true }
def FnExactDrumLinesUptoSaid : Prop := fnExactDrumLinesUptoRow.holds Try.pinned (OpenSpec.upto fnExactDrumLinesSpec)

end Rows
end Go.Proofs.Ytkhfbhphmdcelaa
