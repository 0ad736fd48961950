/-
  No cell of these rows narrows 'for every input' (looked for: loops, veiled, ifaces, maps, wideKeys, modest, calm, conditions, laid).
  DERIVED. THE GIVEN ROWS OF THIS SEAT. 14 by the template 'for every input the law returns true; each argument reads behind the call as it read before'; 0 by the template 'total and deterministic' (their statements: YtgfpjcckkbhdjaaTotals.lean).
  GIVEN WITH THE SEED: the statements are not yours to turn. If you find one false, say at which input.
  Laid BY PROGRAM, IN A SANDBOX (cutbox-rows.mjs): the forced cells as the released guide's own fill.sh prints them over the translation da6fe9e9316a4ae5… (all of the seat's roots in one cut). By AI agents, Wed Nov 11 2026. No macro, syntax, notation, axiom, sorry.
-/
import Derived.Test.YtgfpjcckkbhdjaaChecked
import GoSem.Claim
import GoSem.ClaimJoined
import GoSem.ClaimMapViews
import Derived.JoinedTies
import Derived.KernelRfl
namespace Go.Proofs.Ytgfpjcckkbhdjaa
/- THE CELL 'sum', in the pinned program and in every row, IS THE sha256 OF THE DUMP (.gsa) THAT YtgfpjcckkbhdjaaProg.lean LOADS. Nothing in Lean hashes anything: it is a label: what it is worth is what the hold of that sum in a sandbox is worth. -/
noncomputable def Try.pinned : Pinned := { name := "ytgfpjcckkbhdjaa", sum := "da6fe9e9316a4ae5c14fb3aaec5e7276909686e9c7095ad420382eb2fbd7c024", checked := Try.checked }
namespace Rows
def none {H : Type} : Left H := { results := [], args := [] }

/-- 'laws.FnEvents': WHATEVER THE INPUT: true; the input reads as it did. -/
def fnEventsSpec : ChangeSpec := { name := "fnEvents", fn := fun _ => fun
  | [d] => { results := [.lit (.bool true)], args := [d] }
  | _ => none }
def fnEventsRow : OpenClaim := { program := "ytgfpjcckkbhdjaa", sum := "da6fe9e9316a4ae5c14fb3aaec5e7276909686e9c7095ad420382eb2fbd7c024", func := "loop.example/g00930/laws.FnEvents", spec := "fnEvents", unfollowed := true, recurses := true, leaving := true, apart := false }
def FnEventsSaid : Prop := fnEventsRow.holds Try.pinned (OpenSpec.ofChange fnEventsSpec)

/-- ITS FALSE NEIGHBOUR: 'it returns false'. Refute it at one input. -/
def fnEventsWrong : ChangeSpec := { name := "fnEvents", fn := fun _ => fun
  | [d] => { results := [.lit (.bool false)], args := [d] }
  | _ => none }
def FnEventsWrongFalsely : Prop := fnEventsRow.holds Try.pinned (OpenSpec.ofChange fnEventsWrong)

/-- 'laws.FnWorst': WHATEVER THE INPUT: true; the input reads as it did. -/
def fnWorstSpec : ChangeSpec := { name := "fnWorst", fn := fun _ => fun
  | [d] => { results := [.lit (.bool true)], args := [d] }
  | _ => none }
def fnWorstRow : OpenClaim := { program := "ytgfpjcckkbhdjaa", sum := "da6fe9e9316a4ae5c14fb3aaec5e7276909686e9c7095ad420382eb2fbd7c024", func := "loop.example/g00930/laws.FnWorst", spec := "fnWorst", unfollowed := true, recurses := true, leaving := true, apart := false }
def FnWorstSaid : Prop := fnWorstRow.holds Try.pinned (OpenSpec.ofChange fnWorstSpec)

/-- ITS FALSE NEIGHBOUR: 'it returns false'. Refute it at one input. -/
def fnWorstWrong : ChangeSpec := { name := "fnWorst", fn := fun _ => fun
  | [d] => { results := [.lit (.bool false)], args := [d] }
  | _ => none }
def FnWorstWrongFalsely : Prop := fnWorstRow.holds Try.pinned (OpenSpec.ofChange fnWorstWrong)

/-- 'laws.FnAbaci': WHATEVER THE INPUT: true; the input reads as it did. -/
def fnAbaciSpec : ChangeSpec := { name := "fnAbaci", fn := fun _ => fun
  | [d] => { results := [.lit (.bool true)], args := [d] }
  | _ => none }
def fnAbaciRow : OpenClaim := { program := "ytgfpjcckkbhdjaa", sum := "da6fe9e9316a4ae5c14fb3aaec5e7276909686e9c7095ad420382eb2fbd7c024", func := "loop.example/g00930/laws.FnAbaci", spec := "fnAbaci", inPlace := ["internal/abi.NoEscape", "internal/bytealg.MakeNoZero"], unfollowed := true, recurses := true, leaving := true, apart := false }
def FnAbaciSaid : Prop := fnAbaciRow.holds Try.pinned (OpenSpec.ofChange fnAbaciSpec)

/-- ITS FALSE NEIGHBOUR: 'it returns false'. Refute it at one input. -/
def fnAbaciWrong : ChangeSpec := { name := "fnAbaci", fn := fun _ => fun
  | [d] => { results := [.lit (.bool false)], args := [d] }
  | _ => none }
def FnAbaciWrongFalsely : Prop := fnAbaciRow.holds Try.pinned (OpenSpec.ofChange fnAbaciWrong)

/-- 'laws.FnBeads': WHATEVER THE INPUT: true; the input reads as it did. -/
def fnBeadsSpec : ChangeSpec := { name := "fnBeads", fn := fun _ => fun
  | [d] => { results := [.lit (.bool true)], args := [d] }
  | _ => none }
def fnBeadsRow : OpenClaim := { program := "ytgfpjcckkbhdjaa", sum := "da6fe9e9316a4ae5c14fb3aaec5e7276909686e9c7095ad420382eb2fbd7c024", func := "loop.example/g00930/laws.FnBeads", spec := "fnBeads", unfollowed := true, recurses := true, leaving := true, apart := false }
def FnBeadsSaid : Prop := fnBeadsRow.holds Try.pinned (OpenSpec.ofChange fnBeadsSpec)

/-- ITS FALSE NEIGHBOUR: 'it returns false'. Refute it at one input. -/
def fnBeadsWrong : ChangeSpec := { name := "fnBeads", fn := fun _ => fun
  | [d] => { results := [.lit (.bool false)], args := [d] }
  | _ => none }
def FnBeadsWrongFalsely : Prop := fnBeadsRow.holds Try.pinned (OpenSpec.ofChange fnBeadsWrong)

/-- 'laws.FnTurned': WHATEVER THE INPUT: true; the input reads as it did. -/
def fnTurnedSpec : ChangeSpec := { name := "fnTurned", fn := fun _ => fun
  | [d] => { results := [.lit (.bool true)], args := [d] }
  | _ => none }
def fnTurnedRow : OpenClaim := { program := "ytgfpjcckkbhdjaa", sum := "da6fe9e9316a4ae5c14fb3aaec5e7276909686e9c7095ad420382eb2fbd7c024", func := "loop.example/g00930/laws.FnTurned", spec := "fnTurned", unfollowed := true, recurses := true, leaving := true, apart := false }
def FnTurnedSaid : Prop := fnTurnedRow.holds Try.pinned (OpenSpec.ofChange fnTurnedSpec)

/-- ITS FALSE NEIGHBOUR: 'it returns false'. Refute it at one input. -/
def fnTurnedWrong : ChangeSpec := { name := "fnTurned", fn := fun _ => fun
  | [d] => { results := [.lit (.bool false)], args := [d] }
  | _ => none }
def FnTurnedWrongFalsely : Prop := fnTurnedRow.holds Try.pinned (OpenSpec.ofChange fnTurnedWrong)

/-- 'laws.FnExactTurnWheels': WHATEVER THE INPUT: true; the input reads as it did. -/
def fnExactTurnWheelsSpec : ChangeSpec := { name := "fnExactTurnWheels", fn := fun _ => fun
  | [d1, d2] => { results := [.lit (.bool true)], args := [d1, d2] }
  | _ => none }
def fnExactTurnWheelsRow : OpenClaim := { program := "ytgfpjcckkbhdjaa", sum := "da6fe9e9316a4ae5c14fb3aaec5e7276909686e9c7095ad420382eb2fbd7c024", func := "loop.example/g00930/laws.FnExactTurnWheels", spec := "fnExactTurnWheels", unfollowed := true, recurses := true, leaving := true, apart := false }
def FnExactTurnWheelsSaid : Prop := fnExactTurnWheelsRow.holds Try.pinned (OpenSpec.ofChange fnExactTurnWheelsSpec)

/-- ITS FALSE NEIGHBOUR: 'it returns false'. Refute it at one input. -/
def fnExactTurnWheelsWrong : ChangeSpec := { name := "fnExactTurnWheels", fn := fun _ => fun
  | [d1, d2] => { results := [.lit (.bool false)], args := [d1, d2] }
  | _ => none }
def FnExactTurnWheelsWrongFalsely : Prop := fnExactTurnWheelsRow.holds Try.pinned (OpenSpec.ofChange fnExactTurnWheelsWrong)

/-- 'laws.FnExactPushLevers': WHATEVER THE INPUT: true; the input reads as it did. -/
def fnExactPushLeversSpec : ChangeSpec := { name := "fnExactPushLevers", fn := fun _ => fun
  | [d1, d2] => { results := [.lit (.bool true)], args := [d1, d2] }
  | _ => none }
def fnExactPushLeversRow : OpenClaim := { program := "ytgfpjcckkbhdjaa", sum := "da6fe9e9316a4ae5c14fb3aaec5e7276909686e9c7095ad420382eb2fbd7c024", func := "loop.example/g00930/laws.FnExactPushLevers", spec := "fnExactPushLevers", unfollowed := true, recurses := true, leaving := true, apart := false }
def FnExactPushLeversSaid : Prop := fnExactPushLeversRow.holds Try.pinned (OpenSpec.ofChange fnExactPushLeversSpec)

/-- ITS FALSE NEIGHBOUR: 'it returns false'. Refute it at one input. -/
def fnExactPushLeversWrong : ChangeSpec := { name := "fnExactPushLevers", fn := fun _ => fun
  | [d1, d2] => { results := [.lit (.bool false)], args := [d1, d2] }
  | _ => none }
def FnExactPushLeversWrongFalsely : Prop := fnExactPushLeversRow.holds Try.pinned (OpenSpec.ofChange fnExactPushLeversWrong)

/-- 'laws.FnExactAddSlowly': WHATEVER THE INPUT: true; the input reads as it did. -/
def fnExactAddSlowlySpec : ChangeSpec := { name := "fnExactAddSlowly", fn := fun _ => fun
  | [d1, d2] => { results := [.lit (.bool true)], args := [d1, d2] }
  | _ => none }
def fnExactAddSlowlyRow : OpenClaim := { program := "ytgfpjcckkbhdjaa", sum := "da6fe9e9316a4ae5c14fb3aaec5e7276909686e9c7095ad420382eb2fbd7c024", func := "loop.example/g00930/laws.FnExactAddSlowly", spec := "fnExactAddSlowly", unfollowed := true, recurses := true, leaving := true, apart := false }
def FnExactAddSlowlySaid : Prop := fnExactAddSlowlyRow.holds Try.pinned (OpenSpec.ofChange fnExactAddSlowlySpec)

/-- ITS FALSE NEIGHBOUR: 'it returns false'. Refute it at one input. -/
def fnExactAddSlowlyWrong : ChangeSpec := { name := "fnExactAddSlowly", fn := fun _ => fun
  | [d1, d2] => { results := [.lit (.bool false)], args := [d1, d2] }
  | _ => none }
def FnExactAddSlowlyWrongFalsely : Prop := fnExactAddSlowlyRow.holds Try.pinned (OpenSpec.ofChange fnExactAddSlowlyWrong)

/-- 'laws.FnExactEventsOf': WHATEVER THE INPUT: true; the input reads as it did. -/
def fnExactEventsOfSpec : ChangeSpec := { name := "fnExactEventsOf", fn := fun _ => fun
  | [d1, d2] => { results := [.lit (.bool true)], args := [d1, d2] }
  | _ => none }
def fnExactEventsOfRow : OpenClaim := { program := "ytgfpjcckkbhdjaa", sum := "da6fe9e9316a4ae5c14fb3aaec5e7276909686e9c7095ad420382eb2fbd7c024", func := "loop.example/g00930/laws.FnExactEventsOf", spec := "fnExactEventsOf", unfollowed := true, recurses := true, leaving := true, apart := false }
def FnExactEventsOfSaid : Prop := fnExactEventsOfRow.holds Try.pinned (OpenSpec.ofChange fnExactEventsOfSpec)

/-- ITS FALSE NEIGHBOUR: 'it returns false'. Refute it at one input. -/
def fnExactEventsOfWrong : ChangeSpec := { name := "fnExactEventsOf", fn := fun _ => fun
  | [d1, d2] => { results := [.lit (.bool false)], args := [d1, d2] }
  | _ => none }
def FnExactEventsOfWrongFalsely : Prop := fnExactEventsOfRow.holds Try.pinned (OpenSpec.ofChange fnExactEventsOfWrong)

/-- 'laws.FnExactReplayEvents': WHATEVER THE INPUT: true; the input reads as it did. -/
def fnExactReplayEventsSpec : ChangeSpec := { name := "fnExactReplayEvents", fn := fun _ => fun
  | [d1, d2] => { results := [.lit (.bool true)], args := [d1, d2] }
  | _ => none }
def fnExactReplayEventsRow : OpenClaim := { program := "ytgfpjcckkbhdjaa", sum := "da6fe9e9316a4ae5c14fb3aaec5e7276909686e9c7095ad420382eb2fbd7c024", func := "loop.example/g00930/laws.FnExactReplayEvents", spec := "fnExactReplayEvents", unfollowed := true, recurses := true, leaving := true, apart := false }
def FnExactReplayEventsSaid : Prop := fnExactReplayEventsRow.holds Try.pinned (OpenSpec.ofChange fnExactReplayEventsSpec)

/-- ITS FALSE NEIGHBOUR: 'it returns false'. Refute it at one input. -/
def fnExactReplayEventsWrong : ChangeSpec := { name := "fnExactReplayEvents", fn := fun _ => fun
  | [d1, d2] => { results := [.lit (.bool false)], args := [d1, d2] }
  | _ => none }
def FnExactReplayEventsWrongFalsely : Prop := fnExactReplayEventsRow.holds Try.pinned (OpenSpec.ofChange fnExactReplayEventsWrong)

/-- 'laws.FnExactCountPushes': WHATEVER THE INPUT: true; the input reads as it did. -/
def fnExactCountPushesSpec : ChangeSpec := { name := "fnExactCountPushes", fn := fun _ => fun
  | [d1, d2] => { results := [.lit (.bool true)], args := [d1, d2] }
  | _ => none }
def fnExactCountPushesRow : OpenClaim := { program := "ytgfpjcckkbhdjaa", sum := "da6fe9e9316a4ae5c14fb3aaec5e7276909686e9c7095ad420382eb2fbd7c024", func := "loop.example/g00930/laws.FnExactCountPushes", spec := "fnExactCountPushes", unfollowed := true, recurses := true, leaving := true, apart := false }
def FnExactCountPushesSaid : Prop := fnExactCountPushesRow.holds Try.pinned (OpenSpec.ofChange fnExactCountPushesSpec)

/-- ITS FALSE NEIGHBOUR: 'it returns false'. Refute it at one input. -/
def fnExactCountPushesWrong : ChangeSpec := { name := "fnExactCountPushes", fn := fun _ => fun
  | [d1, d2] => { results := [.lit (.bool false)], args := [d1, d2] }
  | _ => none }
def FnExactCountPushesWrongFalsely : Prop := fnExactCountPushesRow.holds Try.pinned (OpenSpec.ofChange fnExactCountPushesWrong)

/-- 'laws.FnExactRippleOf': WHATEVER THE INPUT: true; the input reads as it did. -/
def fnExactRippleOfSpec : ChangeSpec := { name := "fnExactRippleOf", fn := fun _ => fun
  | [d1, d2] => { results := [.lit (.bool true)], args := [d1, d2] }
  | _ => none }
def fnExactRippleOfRow : OpenClaim := { program := "ytgfpjcckkbhdjaa", sum := "da6fe9e9316a4ae5c14fb3aaec5e7276909686e9c7095ad420382eb2fbd7c024", func := "loop.example/g00930/laws.FnExactRippleOf", spec := "fnExactRippleOf", unfollowed := true, recurses := true, leaving := true, apart := false }
def FnExactRippleOfSaid : Prop := fnExactRippleOfRow.holds Try.pinned (OpenSpec.ofChange fnExactRippleOfSpec)

/-- ITS FALSE NEIGHBOUR: 'it returns false'. Refute it at one input. -/
def fnExactRippleOfWrong : ChangeSpec := { name := "fnExactRippleOf", fn := fun _ => fun
  | [d1, d2] => { results := [.lit (.bool false)], args := [d1, d2] }
  | _ => none }
def FnExactRippleOfWrongFalsely : Prop := fnExactRippleOfRow.holds Try.pinned (OpenSpec.ofChange fnExactRippleOfWrong)

/-- 'laws.FnExactWorstRipple': WHATEVER THE INPUT: true; the input reads as it did. -/
def fnExactWorstRippleSpec : ChangeSpec := { name := "fnExactWorstRipple", fn := fun _ => fun
  | [d1, d2] => { results := [.lit (.bool true)], args := [d1, d2] }
  | _ => none }
def fnExactWorstRippleRow : OpenClaim := { program := "ytgfpjcckkbhdjaa", sum := "da6fe9e9316a4ae5c14fb3aaec5e7276909686e9c7095ad420382eb2fbd7c024", func := "loop.example/g00930/laws.FnExactWorstRipple", spec := "fnExactWorstRipple", unfollowed := true, recurses := true, leaving := true, apart := false }
def FnExactWorstRippleSaid : Prop := fnExactWorstRippleRow.holds Try.pinned (OpenSpec.ofChange fnExactWorstRippleSpec)

/-- ITS FALSE NEIGHBOUR: 'it returns false'. Refute it at one input. -/
def fnExactWorstRippleWrong : ChangeSpec := { name := "fnExactWorstRipple", fn := fun _ => fun
  | [d1, d2] => { results := [.lit (.bool false)], args := [d1, d2] }
  | _ => none }
def FnExactWorstRippleWrongFalsely : Prop := fnExactWorstRippleRow.holds Try.pinned (OpenSpec.ofChange fnExactWorstRippleWrong)

/-- 'laws.FnExactEventText': WHATEVER THE INPUT: true; the input reads as it did. -/
def fnExactEventTextSpec : ChangeSpec := { name := "fnExactEventText", fn := fun _ => fun
  | [d] => { results := [.lit (.bool true)], args := [d] }
  | _ => none }
def fnExactEventTextRow : OpenClaim := { program := "ytgfpjcckkbhdjaa", sum := "da6fe9e9316a4ae5c14fb3aaec5e7276909686e9c7095ad420382eb2fbd7c024", func := "loop.example/g00930/laws.FnExactEventText", spec := "fnExactEventText", unfollowed := true, recurses := true, leaving := true, apart := false }
def FnExactEventTextSaid : Prop := fnExactEventTextRow.holds Try.pinned (OpenSpec.ofChange fnExactEventTextSpec)

/-- ITS FALSE NEIGHBOUR: 'it returns false'. Refute it at one input. -/
def fnExactEventTextWrong : ChangeSpec := { name := "fnExactEventText", fn := fun _ => fun
  | [d] => { results := [.lit (.bool false)], args := [d] }
  | _ => none }
def FnExactEventTextWrongFalsely : Prop := fnExactEventTextRow.holds Try.pinned (OpenSpec.ofChange fnExactEventTextWrong)

/- THE SECOND FORM. 'bulk': how many values and letters a reading holds, each counted each time it is reached (what is shared counts as often as it is met; a slice's spare places count too). A statement '..UptoSaid' is the law's where the arguments, and the package variables that the reading takes, are together of bulk at most 1048576: NARROWER than '..Said'. Prove '..Said' where nothing that the law and all that it calls make is longer than what came in: it says more and counts as full. Else prove '..UptoSaid'. A law counts once. -/
mutual
def uptoBulk {H : Type} : DataW H → Nat
  | .lit (.string bytes) => bytes.length + 1
  | .lit _ => 1
  | .nil => 1
  | .ptr d => uptoBulk d + 1
  | .slice elems spare => uptoBulkAll elems + uptoBulkAll spare + 1
  | .agg parts => uptoBulkAll parts + 1
  | .iface _ d => uptoBulk d + 1
  | .map entries => uptoBulkEntries entries + 1
  | .held _ => 1
def uptoBulkAll {H : Type} : List (DataW H) → Nat
  | [] => 0
  | d :: r => uptoBulk d + uptoBulkAll r
def uptoBulkEntries {H : Type} : List (Lit × DataW H) → Nat
  | [] => 0
  | x :: r => uptoBulkEntry x + uptoBulkEntries r
def uptoBulkEntry {H : Type} : Lit × DataW H → Nat
  | (.string bytes, d) => bytes.length + uptoBulk d + 1
  | (_, d) => uptoBulk d + 1
 end
def uptoSmall : (H : Type) → List (DataW H) → Bool := fun _ ds => decide (uptoBulkAll ds ≤ 1048576)
def OpenSpec.upto (s : _root_.Go.ChangeSpec) : _root_.Go.OpenSpec := { _root_.Go.OpenSpec.ofChange s with cond := some uptoSmall }

/-- 'laws.FnEvents', WHERE WHAT IT READS IS OF BULK AT MOST 1048576: true; the input reads as it did. -/
def fnEventsUptoRow : OpenClaim := { program := "ytgfpjcckkbhdjaa", sum := "da6fe9e9316a4ae5c14fb3aaec5e7276909686e9c7095ad420382eb2fbd7c024", func := "loop.example/g00930/laws.FnEvents", spec := "fnEvents", unfollowed := true, recurses := true, leaving := true, apart := false, narrowed := true }
def FnEventsUptoSaid : Prop := fnEventsUptoRow.holds Try.pinned (OpenSpec.upto fnEventsSpec)

/-- 'laws.FnWorst', WHERE WHAT IT READS IS OF BULK AT MOST 1048576: true; the input reads as it did. -/
def fnWorstUptoRow : OpenClaim := { program := "ytgfpjcckkbhdjaa", sum := "da6fe9e9316a4ae5c14fb3aaec5e7276909686e9c7095ad420382eb2fbd7c024", func := "loop.example/g00930/laws.FnWorst", spec := "fnWorst", unfollowed := true, recurses := true, leaving := true, apart := false, narrowed := true }
def FnWorstUptoSaid : Prop := fnWorstUptoRow.holds Try.pinned (OpenSpec.upto fnWorstSpec)

/-- 'laws.FnAbaci', WHERE WHAT IT READS IS OF BULK AT MOST 1048576: true; the input reads as it did. -/
def fnAbaciUptoRow : OpenClaim := { program := "ytgfpjcckkbhdjaa", sum := "da6fe9e9316a4ae5c14fb3aaec5e7276909686e9c7095ad420382eb2fbd7c024", func := "loop.example/g00930/laws.FnAbaci", spec := "fnAbaci", inPlace := ["internal/abi.NoEscape", "internal/bytealg.MakeNoZero"], unfollowed := true, recurses := true, leaving := true, apart := false, narrowed := true }
def FnAbaciUptoSaid : Prop := fnAbaciUptoRow.holds Try.pinned (OpenSpec.upto fnAbaciSpec)

/-- 'laws.FnBeads', WHERE WHAT IT READS IS OF BULK AT MOST 1048576: true; the input reads as it did. -/
def fnBeadsUptoRow : OpenClaim := { program := "ytgfpjcckkbhdjaa", sum := "da6fe9e9316a4ae5c14fb3aaec5e7276909686e9c7095ad420382eb2fbd7c024", func := "loop.example/g00930/laws.FnBeads", spec := "fnBeads", unfollowed := true, recurses := true, leaving := true, apart := false, narrowed := true }
def FnBeadsUptoSaid : Prop := fnBeadsUptoRow.holds Try.pinned (OpenSpec.upto fnBeadsSpec)

/-- 'laws.FnTurned', WHERE WHAT IT READS IS OF BULK AT MOST 1048576: true; the input reads as it did. -/
def fnTurnedUptoRow : OpenClaim := { program := "ytgfpjcckkbhdjaa", sum := "da6fe9e9316a4ae5c14fb3aaec5e7276909686e9c7095ad420382eb2fbd7c024", func := "loop.example/g00930/laws.FnTurned", spec := "fnTurned", unfollowed := true, recurses := true, leaving := true, apart := false, narrowed := true }
def FnTurnedUptoSaid : Prop := fnTurnedUptoRow.holds Try.pinned (OpenSpec.upto fnTurnedSpec)

/-- 'laws.FnExactTurnWheels', WHERE WHAT IT READS IS OF BULK AT MOST 1048576: true; the input reads as it did. -/
def fnExactTurnWheelsUptoRow : OpenClaim := { program := "ytgfpjcckkbhdjaa", sum := "da6fe9e9316a4ae5c14fb3aaec5e7276909686e9c7095ad420382eb2fbd7c024", func := "loop.example/g00930/laws.FnExactTurnWheels", spec := "fnExactTurnWheels", unfollowed := true, recurses := true, leaving := true, apart := false, narrowed := true }
def FnExactTurnWheelsUptoSaid : Prop := fnExactTurnWheelsUptoRow.holds Try.pinned (OpenSpec.upto fnExactTurnWheelsSpec)

/-- 'laws.FnExactPushLevers', WHERE WHAT IT READS IS OF BULK AT MOST 1048576: true; the input reads as it did. -/
def fnExactPushLeversUptoRow : OpenClaim := { program := "ytgfpjcckkbhdjaa", sum := "da6fe9e9316a4ae5c14fb3aaec5e7276909686e9c7095ad420382eb2fbd7c024", func := "loop.example/g00930/laws.FnExactPushLevers", spec := "fnExactPushLevers", unfollowed := true, recurses := true, leaving := true, apart := false, narrowed := true }
def FnExactPushLeversUptoSaid : Prop := fnExactPushLeversUptoRow.holds Try.pinned (OpenSpec.upto fnExactPushLeversSpec)

/-- 'laws.FnExactAddSlowly', WHERE WHAT IT READS IS OF BULK AT MOST 1048576: true; the input reads as it did. -/
def fnExactAddSlowlyUptoRow : OpenClaim := { program := "ytgfpjcckkbhdjaa", sum := "da6fe9e9316a4ae5c14fb3aaec5e7276909686e9c7095ad420382eb2fbd7c024", func := "loop.example/g00930/laws.FnExactAddSlowly", spec := "fnExactAddSlowly", unfollowed := true, recurses := true, leaving := true, apart := false, narrowed := true }
def FnExactAddSlowlyUptoSaid : Prop := fnExactAddSlowlyUptoRow.holds Try.pinned (OpenSpec.upto fnExactAddSlowlySpec)

/-- 'laws.FnExactEventsOf', WHERE WHAT IT READS IS OF BULK AT MOST 1048576: true; the input reads as it did. -/
def fnExactEventsOfUptoRow : OpenClaim := { program := "ytgfpjcckkbhdjaa", sum := "da6fe9e9316a4ae5c14fb3aaec5e7276909686e9c7095ad420382eb2fbd7c024", func := "loop.example/g00930/laws.FnExactEventsOf", spec := "fnExactEventsOf", unfollowed := true, recurses := true, leaving := true, apart := false, narrowed := true }
def FnExactEventsOfUptoSaid : Prop := fnExactEventsOfUptoRow.holds Try.pinned (OpenSpec.upto fnExactEventsOfSpec)

/-- 'laws.FnExactReplayEvents', WHERE WHAT IT READS IS OF BULK AT MOST 1048576: true; the input reads as it did. -/
def fnExactReplayEventsUptoRow : OpenClaim := { program := "ytgfpjcckkbhdjaa", sum := "da6fe9e9316a4ae5c14fb3aaec5e7276909686e9c7095ad420382eb2fbd7c024", func := "loop.example/g00930/laws.FnExactReplayEvents", spec := "fnExactReplayEvents", unfollowed := true, recurses := true, leaving := true, apart := false, narrowed := true }
def FnExactReplayEventsUptoSaid : Prop := fnExactReplayEventsUptoRow.holds Try.pinned (OpenSpec.upto fnExactReplayEventsSpec)

/-- 'laws.FnExactCountPushes', WHERE WHAT IT READS IS OF BULK AT MOST 1048576: true; the input reads as it did. -/
def fnExactCountPushesUptoRow : OpenClaim := { program := "ytgfpjcckkbhdjaa", sum := "da6fe9e9316a4ae5c14fb3aaec5e7276909686e9c7095ad420382eb2fbd7c024", func := "loop.example/g00930/laws.FnExactCountPushes", spec := "fnExactCountPushes", unfollowed := true, recurses := true, leaving := true, apart := false, narrowed := true }
def FnExactCountPushesUptoSaid : Prop := fnExactCountPushesUptoRow.holds Try.pinned (OpenSpec.upto fnExactCountPushesSpec)

/-- 'laws.FnExactRippleOf', WHERE WHAT IT READS IS OF BULK AT MOST 1048576: true; the input reads as it did. -/
def fnExactRippleOfUptoRow : OpenClaim := { program := "ytgfpjcckkbhdjaa", sum := "da6fe9e9316a4ae5c14fb3aaec5e7276909686e9c7095ad420382eb2fbd7c024", func := "loop.example/g00930/laws.FnExactRippleOf", spec := "fnExactRippleOf", unfollowed := true, recurses := true, leaving := true, apart := false, narrowed := true }
def FnExactRippleOfUptoSaid : Prop := fnExactRippleOfUptoRow.holds Try.pinned (OpenSpec.upto fnExactRippleOfSpec)

/-- 'laws.FnExactWorstRipple', WHERE WHAT IT READS IS OF BULK AT MOST 1048576: true; the input reads as it did. -/
def fnExactWorstRippleUptoRow : OpenClaim := { program := "ytgfpjcckkbhdjaa", sum := "da6fe9e9316a4ae5c14fb3aaec5e7276909686e9c7095ad420382eb2fbd7c024", func := "loop.example/g00930/laws.FnExactWorstRipple", spec := "fnExactWorstRipple", unfollowed := true, recurses := true, leaving := true, apart := false, narrowed := true }
def FnExactWorstRippleUptoSaid : Prop := fnExactWorstRippleUptoRow.holds Try.pinned (OpenSpec.upto fnExactWorstRippleSpec)

/-- 'laws.FnExactEventText', WHERE WHAT IT READS IS OF BULK AT MOST 1048576: true; the input reads as it did. -/
def fnExactEventTextUptoRow : OpenClaim := { program := "ytgfpjcckkbhdjaa", sum := "da6fe9e9316a4ae5c14fb3aaec5e7276909686e9c7095ad420382eb2fbd7c024", func := "loop.example/g00930/laws.FnExactEventText", spec := "fnExactEventText", unfollowed := true, recurses := true, leaving := true, apart := false, narrowed := true }
def FnExactEventTextUptoSaid : Prop := fnExactEventTextUptoRow.holds Try.pinned (OpenSpec.upto fnExactEventTextSpec)

end Rows
end Go.Proofs.Ytgfpjcckkbhdjaa
