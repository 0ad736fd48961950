/-
  No cell of these rows narrows 'for every input' (looked for: loops, veiled, ifaces, maps, wideKeys, modest, calm, conditions, laid).
  DERIVED. THE GIVEN ROWS OF THIS SEAT. 15 by the template 'for every input the law returns true; each argument reads behind the call as it read before'; 0 by the template 'total and deterministic' (their statements: YthhphopmkmbmiaaTotals.lean).
  GIVEN WITH THE SEED: the statements are not yours to turn. If you find one false, say at which input.
  Laid BY PROGRAM, IN A SANDBOX (cutbox-rows.mjs): the forced cells as the released guide's own fill.sh prints them over the translation ba75d7b497b3d7b7… (all of the seat's roots in one cut). By AI agents, Wed Nov 11 2026. No macro, syntax, notation, axiom, sorry.
-/
import Derived.Test.YthhphopmkmbmiaaChecked
import GoSem.Claim
import GoSem.ClaimJoined
import GoSem.ClaimMapViews
import Derived.JoinedTies
import Derived.KernelRfl
namespace Go.Proofs.Ythhphopmkmbmiaa
/- THE CELL 'sum', in the pinned program and in every row, IS THE sha256 OF THE DUMP (.gsa) THAT YthhphopmkmbmiaaProg.lean LOADS. Nothing in Lean hashes anything: it is a label: what it is worth is what the hold of that sum in a sandbox is worth. -/
noncomputable def Try.pinned : Pinned := { name := "ythhphopmkmbmiaa", sum := "ba75d7b497b3d7b71bee24eb851fa8f05850acaeaadbf6883f05edce486f0ec9", checked := Try.checked }
namespace Rows
def none {H : Type} : Left H := { results := [], args := [] }

/-- 'laws.FnShiftedDigits': WHATEVER THE INPUT: true; the input reads as it did. -/
def fnShiftedDigitsSpec : ChangeSpec := { name := "fnShiftedDigits", fn := fun _ => fun
  | [d1, d2] => { results := [.lit (.bool true)], args := [d1, d2] }
  | _ => none }
def fnShiftedDigitsRow : OpenClaim := { program := "ythhphopmkmbmiaa", sum := "ba75d7b497b3d7b71bee24eb851fa8f05850acaeaadbf6883f05edce486f0ec9", func := "loop.example/g00930/laws.FnShiftedDigits", spec := "fnShiftedDigits", unfollowed := true, recurses := true, apart := false }
def FnShiftedDigitsSaid : Prop := fnShiftedDigitsRow.holds Try.pinned (OpenSpec.ofChange fnShiftedDigitsSpec)

/-- ITS FALSE NEIGHBOUR: 'it returns false'. Refute it at one input. -/
def fnShiftedDigitsWrong : ChangeSpec := { name := "fnShiftedDigits", fn := fun _ => fun
  | [d1, d2] => { results := [.lit (.bool false)], args := [d1, d2] }
  | _ => none }
def FnShiftedDigitsWrongFalsely : Prop := fnShiftedDigitsRow.holds Try.pinned (OpenSpec.ofChange fnShiftedDigitsWrong)

/-- 'laws.FnAbaci': WHATEVER THE INPUT: true; the input reads as it did. -/
def fnAbaciSpec : ChangeSpec := { name := "fnAbaci", fn := fun _ => fun
  | [d] => { results := [.lit (.bool true)], args := [d] }
  | _ => none }
def fnAbaciRow : OpenClaim := { program := "ythhphopmkmbmiaa", sum := "ba75d7b497b3d7b71bee24eb851fa8f05850acaeaadbf6883f05edce486f0ec9", func := "loop.example/g00930/laws.FnAbaci", spec := "fnAbaci", inPlace := ["internal/abi.NoEscape", "internal/bytealg.MakeNoZero"], unfollowed := true, recurses := true, apart := false }
def FnAbaciSaid : Prop := fnAbaciRow.holds Try.pinned (OpenSpec.ofChange fnAbaciSpec)

/-- ITS FALSE NEIGHBOUR: 'it returns false'. Refute it at one input. -/
def fnAbaciWrong : ChangeSpec := { name := "fnAbaci", fn := fun _ => fun
  | [d] => { results := [.lit (.bool false)], args := [d] }
  | _ => none }
def FnAbaciWrongFalsely : Prop := fnAbaciRow.holds Try.pinned (OpenSpec.ofChange fnAbaciWrong)

/-- 'laws.FnBeads': WHATEVER THE INPUT: true; the input reads as it did. -/
def fnBeadsSpec : ChangeSpec := { name := "fnBeads", fn := fun _ => fun
  | [d] => { results := [.lit (.bool true)], args := [d] }
  | _ => none }
def fnBeadsRow : OpenClaim := { program := "ythhphopmkmbmiaa", sum := "ba75d7b497b3d7b71bee24eb851fa8f05850acaeaadbf6883f05edce486f0ec9", func := "loop.example/g00930/laws.FnBeads", spec := "fnBeads", unfollowed := true, recurses := true, apart := false }
def FnBeadsSaid : Prop := fnBeadsRow.holds Try.pinned (OpenSpec.ofChange fnBeadsSpec)

/-- ITS FALSE NEIGHBOUR: 'it returns false'. Refute it at one input. -/
def fnBeadsWrong : ChangeSpec := { name := "fnBeads", fn := fun _ => fun
  | [d] => { results := [.lit (.bool false)], args := [d] }
  | _ => none }
def FnBeadsWrongFalsely : Prop := fnBeadsRow.holds Try.pinned (OpenSpec.ofChange fnBeadsWrong)

/-- 'laws.FnExactSplitWords': WHATEVER THE INPUT: true; the input reads as it did. -/
def fnExactSplitWordsSpec : ChangeSpec := { name := "fnExactSplitWords", fn := fun _ => fun
  | [d] => { results := [.lit (.bool true)], args := [d] }
  | _ => none }
def fnExactSplitWordsRow : OpenClaim := { program := "ythhphopmkmbmiaa", sum := "ba75d7b497b3d7b71bee24eb851fa8f05850acaeaadbf6883f05edce486f0ec9", func := "loop.example/g00930/laws.FnExactSplitWords", spec := "fnExactSplitWords", unfollowed := true, recurses := true, apart := false }
def FnExactSplitWordsSaid : Prop := fnExactSplitWordsRow.holds Try.pinned (OpenSpec.ofChange fnExactSplitWordsSpec)

/-- ITS FALSE NEIGHBOUR: 'it returns false'. Refute it at one input. -/
def fnExactSplitWordsWrong : ChangeSpec := { name := "fnExactSplitWords", fn := fun _ => fun
  | [d] => { results := [.lit (.bool false)], args := [d] }
  | _ => none }
def FnExactSplitWordsWrongFalsely : Prop := fnExactSplitWordsRow.holds Try.pinned (OpenSpec.ofChange fnExactSplitWordsWrong)

/-- 'laws.FnExactValidAbacus': WHATEVER THE INPUT: true; the input reads as it did. -/
def fnExactValidAbacusSpec : ChangeSpec := { name := "fnExactValidAbacus", fn := fun _ => fun
  | [d] => { results := [.lit (.bool true)], args := [d] }
  | _ => none }
def fnExactValidAbacusRow : OpenClaim := { program := "ythhphopmkmbmiaa", sum := "ba75d7b497b3d7b71bee24eb851fa8f05850acaeaadbf6883f05edce486f0ec9", func := "loop.example/g00930/laws.FnExactValidAbacus", spec := "fnExactValidAbacus", unfollowed := true, recurses := true, apart := false }
def FnExactValidAbacusSaid : Prop := fnExactValidAbacusRow.holds Try.pinned (OpenSpec.ofChange fnExactValidAbacusSpec)

/-- ITS FALSE NEIGHBOUR: 'it returns false'. Refute it at one input. -/
def fnExactValidAbacusWrong : ChangeSpec := { name := "fnExactValidAbacus", fn := fun _ => fun
  | [d] => { results := [.lit (.bool false)], args := [d] }
  | _ => none }
def FnExactValidAbacusWrongFalsely : Prop := fnExactValidAbacusRow.holds Try.pinned (OpenSpec.ofChange fnExactValidAbacusWrong)

/-- 'laws.FnExactSameAbacus': WHATEVER THE INPUT: true; the input reads as it did. -/
def fnExactSameAbacusSpec : ChangeSpec := { name := "fnExactSameAbacus", fn := fun _ => fun
  | [d1, d2] => { results := [.lit (.bool true)], args := [d1, d2] }
  | _ => none }
def fnExactSameAbacusRow : OpenClaim := { program := "ythhphopmkmbmiaa", sum := "ba75d7b497b3d7b71bee24eb851fa8f05850acaeaadbf6883f05edce486f0ec9", func := "loop.example/g00930/laws.FnExactSameAbacus", spec := "fnExactSameAbacus", apart := false }
def FnExactSameAbacusSaid : Prop := fnExactSameAbacusRow.holds Try.pinned (OpenSpec.ofChange fnExactSameAbacusSpec)

/-- ITS FALSE NEIGHBOUR: 'it returns false'. Refute it at one input. -/
def fnExactSameAbacusWrong : ChangeSpec := { name := "fnExactSameAbacus", fn := fun _ => fun
  | [d1, d2] => { results := [.lit (.bool false)], args := [d1, d2] }
  | _ => none }
def FnExactSameAbacusWrongFalsely : Prop := fnExactSameAbacusRow.holds Try.pinned (OpenSpec.ofChange fnExactSameAbacusWrong)

/-- 'laws.FnExactAbacusValue': WHATEVER THE INPUT: true; the input reads as it did. -/
def fnExactAbacusValueSpec : ChangeSpec := { name := "fnExactAbacusValue", fn := fun _ => fun
  | [d] => { results := [.lit (.bool true)], args := [d] }
  | _ => none }
def fnExactAbacusValueRow : OpenClaim := { program := "ythhphopmkmbmiaa", sum := "ba75d7b497b3d7b71bee24eb851fa8f05850acaeaadbf6883f05edce486f0ec9", func := "loop.example/g00930/laws.FnExactAbacusValue", spec := "fnExactAbacusValue", unfollowed := true, recurses := true, apart := false }
def FnExactAbacusValueSaid : Prop := fnExactAbacusValueRow.holds Try.pinned (OpenSpec.ofChange fnExactAbacusValueSpec)

/-- ITS FALSE NEIGHBOUR: 'it returns false'. Refute it at one input. -/
def fnExactAbacusValueWrong : ChangeSpec := { name := "fnExactAbacusValue", fn := fun _ => fun
  | [d] => { results := [.lit (.bool false)], args := [d] }
  | _ => none }
def FnExactAbacusValueWrongFalsely : Prop := fnExactAbacusValueRow.holds Try.pinned (OpenSpec.ofChange fnExactAbacusValueWrong)

/-- 'laws.FnExactSetAbacus': WHATEVER THE INPUT: true; the input reads as it did. -/
def fnExactSetAbacusSpec : ChangeSpec := { name := "fnExactSetAbacus", fn := fun _ => fun
  | [d1, d2] => { results := [.lit (.bool true)], args := [d1, d2] }
  | _ => none }
def fnExactSetAbacusRow : OpenClaim := { program := "ythhphopmkmbmiaa", sum := "ba75d7b497b3d7b71bee24eb851fa8f05850acaeaadbf6883f05edce486f0ec9", func := "loop.example/g00930/laws.FnExactSetAbacus", spec := "fnExactSetAbacus", unfollowed := true, recurses := true, apart := false }
def FnExactSetAbacusSaid : Prop := fnExactSetAbacusRow.holds Try.pinned (OpenSpec.ofChange fnExactSetAbacusSpec)

/-- ITS FALSE NEIGHBOUR: 'it returns false'. Refute it at one input. -/
def fnExactSetAbacusWrong : ChangeSpec := { name := "fnExactSetAbacus", fn := fun _ => fun
  | [d1, d2] => { results := [.lit (.bool false)], args := [d1, d2] }
  | _ => none }
def FnExactSetAbacusWrongFalsely : Prop := fnExactSetAbacusRow.holds Try.pinned (OpenSpec.ofChange fnExactSetAbacusWrong)

/-- 'laws.FnExactIsPlain': WHATEVER THE INPUT: true; the input reads as it did. -/
def fnExactIsPlainSpec : ChangeSpec := { name := "fnExactIsPlain", fn := fun _ => fun
  | [d] => { results := [.lit (.bool true)], args := [d] }
  | _ => none }
def fnExactIsPlainRow : OpenClaim := { program := "ythhphopmkmbmiaa", sum := "ba75d7b497b3d7b71bee24eb851fa8f05850acaeaadbf6883f05edce486f0ec9", func := "loop.example/g00930/laws.FnExactIsPlain", spec := "fnExactIsPlain", unfollowed := true, recurses := true, apart := false }
def FnExactIsPlainSaid : Prop := fnExactIsPlainRow.holds Try.pinned (OpenSpec.ofChange fnExactIsPlainSpec)

/-- ITS FALSE NEIGHBOUR: 'it returns false'. Refute it at one input. -/
def fnExactIsPlainWrong : ChangeSpec := { name := "fnExactIsPlain", fn := fun _ => fun
  | [d] => { results := [.lit (.bool false)], args := [d] }
  | _ => none }
def FnExactIsPlainWrongFalsely : Prop := fnExactIsPlainRow.holds Try.pinned (OpenSpec.ofChange fnExactIsPlainWrong)

/-- 'laws.FnExactPlainAbacus': WHATEVER THE INPUT: true; the input reads as it did. -/
def fnExactPlainAbacusSpec : ChangeSpec := { name := "fnExactPlainAbacus", fn := fun _ => fun
  | [d] => { results := [.lit (.bool true)], args := [d] }
  | _ => none }
def fnExactPlainAbacusRow : OpenClaim := { program := "ythhphopmkmbmiaa", sum := "ba75d7b497b3d7b71bee24eb851fa8f05850acaeaadbf6883f05edce486f0ec9", func := "loop.example/g00930/laws.FnExactPlainAbacus", spec := "fnExactPlainAbacus", unfollowed := true, recurses := true, apart := false }
def FnExactPlainAbacusSaid : Prop := fnExactPlainAbacusRow.holds Try.pinned (OpenSpec.ofChange fnExactPlainAbacusSpec)

/-- ITS FALSE NEIGHBOUR: 'it returns false'. Refute it at one input. -/
def fnExactPlainAbacusWrong : ChangeSpec := { name := "fnExactPlainAbacus", fn := fun _ => fun
  | [d] => { results := [.lit (.bool false)], args := [d] }
  | _ => none }
def FnExactPlainAbacusWrongFalsely : Prop := fnExactPlainAbacusRow.holds Try.pinned (OpenSpec.ofChange fnExactPlainAbacusWrong)

/-- 'laws.FnExactMoveBeads': WHATEVER THE INPUT: true; the input reads as it did. -/
def fnExactMoveBeadsSpec : ChangeSpec := { name := "fnExactMoveBeads", fn := fun _ => fun
  | [d1, d2] => { results := [.lit (.bool true)], args := [d1, d2] }
  | _ => none }
def fnExactMoveBeadsRow : OpenClaim := { program := "ythhphopmkmbmiaa", sum := "ba75d7b497b3d7b71bee24eb851fa8f05850acaeaadbf6883f05edce486f0ec9", func := "loop.example/g00930/laws.FnExactMoveBeads", spec := "fnExactMoveBeads", unfollowed := true, recurses := true, apart := false }
def FnExactMoveBeadsSaid : Prop := fnExactMoveBeadsRow.holds Try.pinned (OpenSpec.ofChange fnExactMoveBeadsSpec)

/-- ITS FALSE NEIGHBOUR: 'it returns false'. Refute it at one input. -/
def fnExactMoveBeadsWrong : ChangeSpec := { name := "fnExactMoveBeads", fn := fun _ => fun
  | [d1, d2] => { results := [.lit (.bool false)], args := [d1, d2] }
  | _ => none }
def FnExactMoveBeadsWrongFalsely : Prop := fnExactMoveBeadsRow.holds Try.pinned (OpenSpec.ofChange fnExactMoveBeadsWrong)

/-- 'laws.FnExactBeadsBetween': WHATEVER THE INPUT: true; the input reads as it did. -/
def fnExactBeadsBetweenSpec : ChangeSpec := { name := "fnExactBeadsBetween", fn := fun _ => fun
  | [d1, d2] => { results := [.lit (.bool true)], args := [d1, d2] }
  | _ => none }
def fnExactBeadsBetweenRow : OpenClaim := { program := "ythhphopmkmbmiaa", sum := "ba75d7b497b3d7b71bee24eb851fa8f05850acaeaadbf6883f05edce486f0ec9", func := "loop.example/g00930/laws.FnExactBeadsBetween", spec := "fnExactBeadsBetween", unfollowed := true, recurses := true, apart := false }
def FnExactBeadsBetweenSaid : Prop := fnExactBeadsBetweenRow.holds Try.pinned (OpenSpec.ofChange fnExactBeadsBetweenSpec)

/-- ITS FALSE NEIGHBOUR: 'it returns false'. Refute it at one input. -/
def fnExactBeadsBetweenWrong : ChangeSpec := { name := "fnExactBeadsBetween", fn := fun _ => fun
  | [d1, d2] => { results := [.lit (.bool false)], args := [d1, d2] }
  | _ => none }
def FnExactBeadsBetweenWrongFalsely : Prop := fnExactBeadsBetweenRow.holds Try.pinned (OpenSpec.ofChange fnExactBeadsBetweenWrong)

/-- 'laws.FnExactAddOnAbacus': WHATEVER THE INPUT: true; the input reads as it did. -/
def fnExactAddOnAbacusSpec : ChangeSpec := { name := "fnExactAddOnAbacus", fn := fun _ => fun
  | [d1, d2] => { results := [.lit (.bool true)], args := [d1, d2] }
  | _ => none }
def fnExactAddOnAbacusRow : OpenClaim := { program := "ythhphopmkmbmiaa", sum := "ba75d7b497b3d7b71bee24eb851fa8f05850acaeaadbf6883f05edce486f0ec9", func := "loop.example/g00930/laws.FnExactAddOnAbacus", spec := "fnExactAddOnAbacus", unfollowed := true, recurses := true, apart := false }
def FnExactAddOnAbacusSaid : Prop := fnExactAddOnAbacusRow.holds Try.pinned (OpenSpec.ofChange fnExactAddOnAbacusSpec)

/-- ITS FALSE NEIGHBOUR: 'it returns false'. Refute it at one input. -/
def fnExactAddOnAbacusWrong : ChangeSpec := { name := "fnExactAddOnAbacus", fn := fun _ => fun
  | [d1, d2] => { results := [.lit (.bool false)], args := [d1, d2] }
  | _ => none }
def FnExactAddOnAbacusWrongFalsely : Prop := fnExactAddOnAbacusRow.holds Try.pinned (OpenSpec.ofChange fnExactAddOnAbacusWrong)

/-- 'laws.FnExactReplayBeads': WHATEVER THE INPUT: true; the input reads as it did. -/
def fnExactReplayBeadsSpec : ChangeSpec := { name := "fnExactReplayBeads", fn := fun _ => fun
  | [d1, d2] => { results := [.lit (.bool true)], args := [d1, d2] }
  | _ => none }
def fnExactReplayBeadsRow : OpenClaim := { program := "ythhphopmkmbmiaa", sum := "ba75d7b497b3d7b71bee24eb851fa8f05850acaeaadbf6883f05edce486f0ec9", func := "loop.example/g00930/laws.FnExactReplayBeads", spec := "fnExactReplayBeads", unfollowed := true, recurses := true, apart := false }
def FnExactReplayBeadsSaid : Prop := fnExactReplayBeadsRow.holds Try.pinned (OpenSpec.ofChange fnExactReplayBeadsSpec)

/-- ITS FALSE NEIGHBOUR: 'it returns false'. Refute it at one input. -/
def fnExactReplayBeadsWrong : ChangeSpec := { name := "fnExactReplayBeads", fn := fun _ => fun
  | [d1, d2] => { results := [.lit (.bool false)], args := [d1, d2] }
  | _ => none }
def FnExactReplayBeadsWrongFalsely : Prop := fnExactReplayBeadsRow.holds Try.pinned (OpenSpec.ofChange fnExactReplayBeadsWrong)

/-- 'laws.FnExactAbacusPicture': WHATEVER THE INPUT: true; the input reads as it did. -/
def fnExactAbacusPictureSpec : ChangeSpec := { name := "fnExactAbacusPicture", fn := fun _ => fun
  | [d] => { results := [.lit (.bool true)], args := [d] }
  | _ => none }
def fnExactAbacusPictureRow : OpenClaim := { program := "ythhphopmkmbmiaa", sum := "ba75d7b497b3d7b71bee24eb851fa8f05850acaeaadbf6883f05edce486f0ec9", func := "loop.example/g00930/laws.FnExactAbacusPicture", spec := "fnExactAbacusPicture", inPlace := ["internal/abi.NoEscape", "internal/bytealg.MakeNoZero"], unfollowed := true, recurses := true, apart := false }
def FnExactAbacusPictureSaid : Prop := fnExactAbacusPictureRow.holds Try.pinned (OpenSpec.ofChange fnExactAbacusPictureSpec)

/-- ITS FALSE NEIGHBOUR: 'it returns false'. Refute it at one input. -/
def fnExactAbacusPictureWrong : ChangeSpec := { name := "fnExactAbacusPicture", fn := fun _ => fun
  | [d] => { results := [.lit (.bool false)], args := [d] }
  | _ => none }
def FnExactAbacusPictureWrongFalsely : Prop := fnExactAbacusPictureRow.holds Try.pinned (OpenSpec.ofChange fnExactAbacusPictureWrong)

/- THE SECOND FORM. 'bulk': how many values and letters a reading holds, each counted each time it is reached (what is shared counts as often as it is met; a slice's spare places count too). A statement '..UptoSaid' is the law's where the arguments, and the package variables that the reading takes, are together of bulk at most 1048576: NARROWER than '..Said'. Prove '..Said' where nothing that the law and all that it calls make is longer than what came in: it says more and counts as full. Else prove '..UptoSaid'. A law counts once. -/
mutual
def uptoBulk {H : Type} : DataW H → Nat
  | .lit (.string bytes) => bytes.length + 1
  | .lit _ => 1
  | .nil => 1
  | .ptr d => uptoBulk d + 1
  | .slice elems spare => uptoBulkAll elems + uptoBulkAll spare + 1
  | .agg parts => uptoBulkAll parts + 1
  | .iface _ d => uptoBulk d + 1
  | .map entries => uptoBulkEntries entries + 1
  | .held _ => 1
def uptoBulkAll {H : Type} : List (DataW H) → Nat
  | [] => 0
  | d :: r => uptoBulk d + uptoBulkAll r
def uptoBulkEntries {H : Type} : List (Lit × DataW H) → Nat
  | [] => 0
  | x :: r => uptoBulkEntry x + uptoBulkEntries r
def uptoBulkEntry {H : Type} : Lit × DataW H → Nat
  | (.string bytes, d) => bytes.length + uptoBulk d + 1
  | (_, d) => uptoBulk d + 1
 end
def uptoSmall : (H : Type) → List (DataW H) → Bool := fun _ ds => decide (uptoBulkAll ds ≤ 1048576)
def OpenSpec.upto (s : _root_.Go.ChangeSpec) : _root_.Go.OpenSpec := { _root_.Go.OpenSpec.ofChange s with cond := some uptoSmall }

/-- 'laws.FnShiftedDigits', WHERE WHAT IT READS IS OF BULK AT MOST 1048576: true; the input reads as it did. -/
def fnShiftedDigitsUptoRow : OpenClaim := { program := "ythhphopmkmbmiaa", sum := "ba75d7b497b3d7b71bee24eb851fa8f05850acaeaadbf6883f05edce486f0ec9", func := "loop.example/g00930/laws.FnShiftedDigits", spec := "fnShiftedDigits", unfollowed := true, recurses := true, apart := false, narrowed := true }
def FnShiftedDigitsUptoSaid : Prop := fnShiftedDigitsUptoRow.holds Try.pinned (OpenSpec.upto fnShiftedDigitsSpec)

/-- 'laws.FnAbaci', WHERE WHAT IT READS IS OF BULK AT MOST 1048576: true; the input reads as it did. -/
def fnAbaciUptoRow : OpenClaim := { program := "ythhphopmkmbmiaa", sum := "ba75d7b497b3d7b71bee24eb851fa8f05850acaeaadbf6883f05edce486f0ec9", func := "loop.example/g00930/laws.FnAbaci", spec := "fnAbaci", inPlace := ["internal/abi.NoEscape", "internal/bytealg.MakeNoZero"], unfollowed := true, recurses := true, apart := false, narrowed := true }
def FnAbaciUptoSaid : Prop := fnAbaciUptoRow.holds Try.pinned (OpenSpec.upto fnAbaciSpec)

/-- 'laws.FnBeads', WHERE WHAT IT READS IS OF BULK AT MOST 1048576: true; the input reads as it did. -/
def fnBeadsUptoRow : OpenClaim := { program := "ythhphopmkmbmiaa", sum := "ba75d7b497b3d7b71bee24eb851fa8f05850acaeaadbf6883f05edce486f0ec9", func := "loop.example/g00930/laws.FnBeads", spec := "fnBeads", unfollowed := true, recurses := true, apart := false, narrowed := true }
def FnBeadsUptoSaid : Prop := fnBeadsUptoRow.holds Try.pinned (OpenSpec.upto fnBeadsSpec)

/-- 'laws.FnExactSplitWords', WHERE WHAT IT READS IS OF BULK AT MOST 1048576: true; the input reads as it did. -/
def fnExactSplitWordsUptoRow : OpenClaim := { program := "ythhphopmkmbmiaa", sum := "ba75d7b497b3d7b71bee24eb851fa8f05850acaeaadbf6883f05edce486f0ec9", func := "loop.example/g00930/laws.FnExactSplitWords", spec := "fnExactSplitWords", unfollowed := true, recurses := true, apart := false, narrowed := true }
def FnExactSplitWordsUptoSaid : Prop := fnExactSplitWordsUptoRow.holds Try.pinned (OpenSpec.upto fnExactSplitWordsSpec)

/-- 'laws.FnExactValidAbacus', WHERE WHAT IT READS IS OF BULK AT MOST 1048576: true; the input reads as it did. -/
def fnExactValidAbacusUptoRow : OpenClaim := { program := "ythhphopmkmbmiaa", sum := "ba75d7b497b3d7b71bee24eb851fa8f05850acaeaadbf6883f05edce486f0ec9", func := "loop.example/g00930/laws.FnExactValidAbacus", spec := "fnExactValidAbacus", unfollowed := true, recurses := true, apart := false, narrowed := true }
def FnExactValidAbacusUptoSaid : Prop := fnExactValidAbacusUptoRow.holds Try.pinned (OpenSpec.upto fnExactValidAbacusSpec)

/-- 'laws.FnExactSameAbacus', WHERE WHAT IT READS IS OF BULK AT MOST 1048576: true; the input reads as it did. -/
def fnExactSameAbacusUptoRow : OpenClaim := { program := "ythhphopmkmbmiaa", sum := "ba75d7b497b3d7b71bee24eb851fa8f05850acaeaadbf6883f05edce486f0ec9", func := "loop.example/g00930/laws.FnExactSameAbacus", spec := "fnExactSameAbacus", apart := false, narrowed := true }
def FnExactSameAbacusUptoSaid : Prop := fnExactSameAbacusUptoRow.holds Try.pinned (OpenSpec.upto fnExactSameAbacusSpec)

/-- 'laws.FnExactAbacusValue', WHERE WHAT IT READS IS OF BULK AT MOST 1048576: true; the input reads as it did. -/
def fnExactAbacusValueUptoRow : OpenClaim := { program := "ythhphopmkmbmiaa", sum := "ba75d7b497b3d7b71bee24eb851fa8f05850acaeaadbf6883f05edce486f0ec9", func := "loop.example/g00930/laws.FnExactAbacusValue", spec := "fnExactAbacusValue", unfollowed := true, recurses := true, apart := false, narrowed := true }
def FnExactAbacusValueUptoSaid : Prop := fnExactAbacusValueUptoRow.holds Try.pinned (OpenSpec.upto fnExactAbacusValueSpec)

/-- 'laws.FnExactSetAbacus', WHERE WHAT IT READS IS OF BULK AT MOST 1048576: true; the input reads as it did. -/
def fnExactSetAbacusUptoRow : OpenClaim := { program := "ythhphopmkmbmiaa", sum := "ba75d7b497b3d7b71bee24eb851fa8f05850acaeaadbf6883f05edce486f0ec9", func := "loop.example/g00930/laws.FnExactSetAbacus", spec := "fnExactSetAbacus", unfollowed := true, recurses := true, apart := false, narrowed := true }
def FnExactSetAbacusUptoSaid : Prop := fnExactSetAbacusUptoRow.holds Try.pinned (OpenSpec.upto fnExactSetAbacusSpec)

/-- 'laws.FnExactIsPlain', WHERE WHAT IT READS IS OF BULK AT MOST 1048576: true; the input reads as it did. -/
def fnExactIsPlainUptoRow : OpenClaim := { program := "ythhphopmkmbmiaa", sum := "ba75d7b497b3d7b71bee24eb851fa8f05850acaeaadbf6883f05edce486f0ec9", func := "loop.example/g00930/laws.FnExactIsPlain", spec := "fnExactIsPlain", unfollowed := true, recurses := true, apart := false, narrowed := true }
def FnExactIsPlainUptoSaid : Prop := fnExactIsPlainUptoRow.holds Try.pinned (OpenSpec.upto fnExactIsPlainSpec)

/-- 'laws.FnExactPlainAbacus', WHERE WHAT IT READS IS OF BULK AT MOST 1048576: true; the input reads as it did. -/
def fnExactPlainAbacusUptoRow : OpenClaim := { program := "ythhphopmkmbmiaa", sum := "ba75d7b497b3d7b71bee24eb851fa8f05850acaeaadbf6883f05edce486f0ec9", func := "loop.example/g00930/laws.FnExactPlainAbacus", spec := "fnExactPlainAbacus", unfollowed := true, recurses := true, apart := false, narrowed := true }
def FnExactPlainAbacusUptoSaid : Prop := fnExactPlainAbacusUptoRow.holds Try.pinned (OpenSpec.upto fnExactPlainAbacusSpec)

/-- 'laws.FnExactMoveBeads', WHERE WHAT IT READS IS OF BULK AT MOST 1048576: true; the input reads as it did. -/
def fnExactMoveBeadsUptoRow : OpenClaim := { program := "ythhphopmkmbmiaa", sum := "ba75d7b497b3d7b71bee24eb851fa8f05850acaeaadbf6883f05edce486f0ec9", func := "loop.example/g00930/laws.FnExactMoveBeads", spec := "fnExactMoveBeads", unfollowed := true, recurses := true, apart := false, narrowed := true }
def FnExactMoveBeadsUptoSaid : Prop := fnExactMoveBeadsUptoRow.holds Try.pinned (OpenSpec.upto fnExactMoveBeadsSpec)

/-- 'laws.FnExactBeadsBetween', WHERE WHAT IT READS IS OF BULK AT MOST 1048576: true; the input reads as it did. -/
def fnExactBeadsBetweenUptoRow : OpenClaim := { program := "ythhphopmkmbmiaa", sum := "ba75d7b497b3d7b71bee24eb851fa8f05850acaeaadbf6883f05edce486f0ec9", func := "loop.example/g00930/laws.FnExactBeadsBetween", spec := "fnExactBeadsBetween", unfollowed := true, recurses := true, apart := false, narrowed := true }
def FnExactBeadsBetweenUptoSaid : Prop := fnExactBeadsBetweenUptoRow.holds Try.pinned (OpenSpec.upto fnExactBeadsBetweenSpec)

/-- 'laws.FnExactAddOnAbacus', WHERE WHAT IT READS IS OF BULK AT MOST 1048576: true; the input reads as it did. -/
def fnExactAddOnAbacusUptoRow : OpenClaim := { program := "ythhphopmkmbmiaa", sum := "ba75d7b497b3d7b71bee24eb851fa8f05850acaeaadbf6883f05edce486f0ec9", func := "loop.example/g00930/laws.FnExactAddOnAbacus", spec := "fnExactAddOnAbacus", unfollowed := true, recurses := true, apart := false, narrowed := true }
def FnExactAddOnAbacusUptoSaid : Prop := fnExactAddOnAbacusUptoRow.holds Try.pinned (OpenSpec.upto fnExactAddOnAbacusSpec)

/-- 'laws.FnExactReplayBeads', WHERE WHAT IT READS IS OF BULK AT MOST 1048576: true; the input reads as it did. -/
def fnExactReplayBeadsUptoRow : OpenClaim := { program := "ythhphopmkmbmiaa", sum := "ba75d7b497b3d7b71bee24eb851fa8f05850acaeaadbf6883f05edce486f0ec9", func := "loop.example/g00930/laws.FnExactReplayBeads", spec := "fnExactReplayBeads", unfollowed := true, recurses := true, apart := false, narrowed := true }
def FnExactReplayBeadsUptoSaid : Prop := fnExactReplayBeadsUptoRow.holds Try.pinned (OpenSpec.upto fnExactReplayBeadsSpec)

/-- 'laws.FnExactAbacusPicture', WHERE WHAT IT READS IS OF BULK AT MOST 1048576: true; the input reads as it did. -/
def fnExactAbacusPictureUptoRow : OpenClaim := { program := "ythhphopmkmbmiaa", sum := "ba75d7b497b3d7b71bee24eb851fa8f05850acaeaadbf6883f05edce486f0ec9", func := "loop.example/g00930/laws.FnExactAbacusPicture", spec := "fnExactAbacusPicture", inPlace := ["internal/abi.NoEscape", "internal/bytealg.MakeNoZero"], unfollowed := true, recurses := true, apart := false, narrowed := true }
def FnExactAbacusPictureUptoSaid : Prop := fnExactAbacusPictureUptoRow.holds Try.pinned (OpenSpec.upto fnExactAbacusPictureSpec)

end Rows
end Go.Proofs.Ythhphopmkmbmiaa
