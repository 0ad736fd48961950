/-
  No cell of these rows narrows 'for every input' (looked for: loops, veiled, ifaces, maps, wideKeys, modest, calm, conditions, laid).
  DERIVED. THE GIVEN ROWS OF THIS SEAT. 13 by the template 'for every input the law returns true; each argument reads behind the call as it read before'; 0 by the template 'total and deterministic' (their statements: YtfhiialalglefaaTotals.lean).
  GIVEN WITH THE SEED: the statements are not yours to turn. If you find one false, say at which input.
  Laid BY PROGRAM, IN A SANDBOX (cutbox-rows.mjs): the forced cells as the released guide's own fill.sh prints them over the translation 371bd726f469f206… (all of the seat's roots in one cut). By AI agents, Wed Nov 11 2026. No macro, syntax, notation, axiom, sorry.
-/
import Derived.Test.YtfhiialalglefaaChecked
import GoSem.Claim
import GoSem.ClaimJoined
import GoSem.ClaimMapViews
import Derived.JoinedTies
import Derived.KernelRfl
namespace Go.Proofs.Ytfhiialalglefaa
/- THE CELL 'sum', in the pinned program and in every row, IS THE sha256 OF THE DUMP (.gsa) THAT YtfhiialalglefaaProg.lean LOADS. Nothing in Lean hashes anything: it is a label: what it is worth is what the hold of that sum in a sandbox is worth. -/
noncomputable def Try.pinned : Pinned := { name := "ytfhiialalglefaa", sum := "371bd726f469f2063c2019b996d3b8f380ae2470e0149a2c62e3160805470eeb", checked := Try.checked }
namespace Rows
def none {H : Type} : Left H := { results := [], args := [] }

/-- 'laws.FnShiftedDigits': WHATEVER THE INPUT: true; the input reads as it did. -/
def fnShiftedDigitsSpec : ChangeSpec := { name := "fnShiftedDigits", fn := fun _ => fun
  | [d1, d2] => { results := [.lit (.bool true)], args := [d1, d2] }
  | _ => none }
def fnShiftedDigitsRow : OpenClaim := { program := "ytfhiialalglefaa", sum := "371bd726f469f2063c2019b996d3b8f380ae2470e0149a2c62e3160805470eeb", func := "loop.example/g00930/laws.FnShiftedDigits", spec := "fnShiftedDigits", unfollowed := true, recurses := true, apart := false }
def FnShiftedDigitsSaid : Prop := fnShiftedDigitsRow.holds Try.pinned (OpenSpec.ofChange fnShiftedDigitsSpec)

/-- ITS FALSE NEIGHBOUR: 'it returns false'. Refute it at one input. -/
def fnShiftedDigitsWrong : ChangeSpec := { name := "fnShiftedDigits", fn := fun _ => fun
  | [d1, d2] => { results := [.lit (.bool false)], args := [d1, d2] }
  | _ => none }
def FnShiftedDigitsWrongFalsely : Prop := fnShiftedDigitsRow.holds Try.pinned (OpenSpec.ofChange fnShiftedDigitsWrong)

/-- 'laws.FnExactIsName': WHATEVER THE INPUT: true; the input reads as it did. -/
def fnExactIsNameSpec : ChangeSpec := { name := "fnExactIsName", fn := fun _ => fun
  | [d] => { results := [.lit (.bool true)], args := [d] }
  | _ => none }
def fnExactIsNameRow : OpenClaim := { program := "ytfhiialalglefaa", sum := "371bd726f469f2063c2019b996d3b8f380ae2470e0149a2c62e3160805470eeb", func := "loop.example/g00930/laws.FnExactIsName", spec := "fnExactIsName", apart := false }
def FnExactIsNameSaid : Prop := fnExactIsNameRow.holds Try.pinned (OpenSpec.ofChange fnExactIsNameSpec)

/-- ITS FALSE NEIGHBOUR: 'it returns false'. Refute it at one input. -/
def fnExactIsNameWrong : ChangeSpec := { name := "fnExactIsName", fn := fun _ => fun
  | [d] => { results := [.lit (.bool false)], args := [d] }
  | _ => none }
def FnExactIsNameWrongFalsely : Prop := fnExactIsNameRow.holds Try.pinned (OpenSpec.ofChange fnExactIsNameWrong)

/-- 'laws.FnExactSplitWords': WHATEVER THE INPUT: true; the input reads as it did. -/
def fnExactSplitWordsSpec : ChangeSpec := { name := "fnExactSplitWords", fn := fun _ => fun
  | [d] => { results := [.lit (.bool true)], args := [d] }
  | _ => none }
def fnExactSplitWordsRow : OpenClaim := { program := "ytfhiialalglefaa", sum := "371bd726f469f2063c2019b996d3b8f380ae2470e0149a2c62e3160805470eeb", func := "loop.example/g00930/laws.FnExactSplitWords", spec := "fnExactSplitWords", unfollowed := true, recurses := true, apart := false }
def FnExactSplitWordsSaid : Prop := fnExactSplitWordsRow.holds Try.pinned (OpenSpec.ofChange fnExactSplitWordsSpec)

/-- ITS FALSE NEIGHBOUR: 'it returns false'. Refute it at one input. -/
def fnExactSplitWordsWrong : ChangeSpec := { name := "fnExactSplitWords", fn := fun _ => fun
  | [d] => { results := [.lit (.bool false)], args := [d] }
  | _ => none }
def FnExactSplitWordsWrongFalsely : Prop := fnExactSplitWordsRow.holds Try.pinned (OpenSpec.ofChange fnExactSplitWordsWrong)

/-- 'laws.FnExactValidRegister': WHATEVER THE INPUT: true; the input reads as it did. -/
def fnExactValidRegisterSpec : ChangeSpec := { name := "fnExactValidRegister", fn := fun _ => fun
  | [d] => { results := [.lit (.bool true)], args := [d] }
  | _ => none }
def fnExactValidRegisterRow : OpenClaim := { program := "ytfhiialalglefaa", sum := "371bd726f469f2063c2019b996d3b8f380ae2470e0149a2c62e3160805470eeb", func := "loop.example/g00930/laws.FnExactValidRegister", spec := "fnExactValidRegister", unfollowed := true, recurses := true, apart := false }
def FnExactValidRegisterSaid : Prop := fnExactValidRegisterRow.holds Try.pinned (OpenSpec.ofChange fnExactValidRegisterSpec)

/-- ITS FALSE NEIGHBOUR: 'it returns false'. Refute it at one input. -/
def fnExactValidRegisterWrong : ChangeSpec := { name := "fnExactValidRegister", fn := fun _ => fun
  | [d] => { results := [.lit (.bool false)], args := [d] }
  | _ => none }
def FnExactValidRegisterWrongFalsely : Prop := fnExactValidRegisterRow.holds Try.pinned (OpenSpec.ofChange fnExactValidRegisterWrong)

/-- 'laws.FnExactSameRegister': WHATEVER THE INPUT: true; the input reads as it did. -/
def fnExactSameRegisterSpec : ChangeSpec := { name := "fnExactSameRegister", fn := fun _ => fun
  | [d1, d2] => { results := [.lit (.bool true)], args := [d1, d2] }
  | _ => none }
def fnExactSameRegisterRow : OpenClaim := { program := "ytfhiialalglefaa", sum := "371bd726f469f2063c2019b996d3b8f380ae2470e0149a2c62e3160805470eeb", func := "loop.example/g00930/laws.FnExactSameRegister", spec := "fnExactSameRegister", apart := false }
def FnExactSameRegisterSaid : Prop := fnExactSameRegisterRow.holds Try.pinned (OpenSpec.ofChange fnExactSameRegisterSpec)

/-- ITS FALSE NEIGHBOUR: 'it returns false'. Refute it at one input. -/
def fnExactSameRegisterWrong : ChangeSpec := { name := "fnExactSameRegister", fn := fun _ => fun
  | [d1, d2] => { results := [.lit (.bool false)], args := [d1, d2] }
  | _ => none }
def FnExactSameRegisterWrongFalsely : Prop := fnExactSameRegisterRow.holds Try.pinned (OpenSpec.ofChange fnExactSameRegisterWrong)

/-- 'laws.FnExactNewRegister': WHATEVER THE INPUT: true; the input reads as it did. -/
def fnExactNewRegisterSpec : ChangeSpec := { name := "fnExactNewRegister", fn := fun _ => fun
  | [d1, d2, d3] => { results := [.lit (.bool true)], args := [d1, d2, d3] }
  | _ => none }
def fnExactNewRegisterRow : OpenClaim := { program := "ytfhiialalglefaa", sum := "371bd726f469f2063c2019b996d3b8f380ae2470e0149a2c62e3160805470eeb", func := "loop.example/g00930/laws.FnExactNewRegister", spec := "fnExactNewRegister", apart := false }
def FnExactNewRegisterSaid : Prop := fnExactNewRegisterRow.holds Try.pinned (OpenSpec.ofChange fnExactNewRegisterSpec)

/-- ITS FALSE NEIGHBOUR: 'it returns false'. Refute it at one input. -/
def fnExactNewRegisterWrong : ChangeSpec := { name := "fnExactNewRegister", fn := fun _ => fun
  | [d1, d2, d3] => { results := [.lit (.bool false)], args := [d1, d2, d3] }
  | _ => none }
def FnExactNewRegisterWrongFalsely : Prop := fnExactNewRegisterRow.holds Try.pinned (OpenSpec.ofChange fnExactNewRegisterWrong)

/-- 'laws.FnExactValueOf': WHATEVER THE INPUT: true; the input reads as it did. -/
def fnExactValueOfSpec : ChangeSpec := { name := "fnExactValueOf", fn := fun _ => fun
  | [d] => { results := [.lit (.bool true)], args := [d] }
  | _ => none }
def fnExactValueOfRow : OpenClaim := { program := "ytfhiialalglefaa", sum := "371bd726f469f2063c2019b996d3b8f380ae2470e0149a2c62e3160805470eeb", func := "loop.example/g00930/laws.FnExactValueOf", spec := "fnExactValueOf", unfollowed := true, recurses := true, apart := false }
def FnExactValueOfSaid : Prop := fnExactValueOfRow.holds Try.pinned (OpenSpec.ofChange fnExactValueOfSpec)

/-- ITS FALSE NEIGHBOUR: 'it returns false'. Refute it at one input. -/
def fnExactValueOfWrong : ChangeSpec := { name := "fnExactValueOf", fn := fun _ => fun
  | [d] => { results := [.lit (.bool false)], args := [d] }
  | _ => none }
def FnExactValueOfWrongFalsely : Prop := fnExactValueOfRow.holds Try.pinned (OpenSpec.ofChange fnExactValueOfWrong)

/-- 'laws.FnExactAddRegisters': WHATEVER THE INPUT: true; the input reads as it did. -/
def fnExactAddRegistersSpec : ChangeSpec := { name := "fnExactAddRegisters", fn := fun _ => fun
  | [d1, d2] => { results := [.lit (.bool true)], args := [d1, d2] }
  | _ => none }
def fnExactAddRegistersRow : OpenClaim := { program := "ytfhiialalglefaa", sum := "371bd726f469f2063c2019b996d3b8f380ae2470e0149a2c62e3160805470eeb", func := "loop.example/g00930/laws.FnExactAddRegisters", spec := "fnExactAddRegisters", unfollowed := true, recurses := true, apart := false }
def FnExactAddRegistersSaid : Prop := fnExactAddRegistersRow.holds Try.pinned (OpenSpec.ofChange fnExactAddRegistersSpec)

/-- ITS FALSE NEIGHBOUR: 'it returns false'. Refute it at one input. -/
def fnExactAddRegistersWrong : ChangeSpec := { name := "fnExactAddRegisters", fn := fun _ => fun
  | [d1, d2] => { results := [.lit (.bool false)], args := [d1, d2] }
  | _ => none }
def FnExactAddRegistersWrongFalsely : Prop := fnExactAddRegistersRow.holds Try.pinned (OpenSpec.ofChange fnExactAddRegistersWrong)

/-- 'laws.FnExactSubRegisters': WHATEVER THE INPUT: true; the input reads as it did. -/
def fnExactSubRegistersSpec : ChangeSpec := { name := "fnExactSubRegisters", fn := fun _ => fun
  | [d1, d2] => { results := [.lit (.bool true)], args := [d1, d2] }
  | _ => none }
def fnExactSubRegistersRow : OpenClaim := { program := "ytfhiialalglefaa", sum := "371bd726f469f2063c2019b996d3b8f380ae2470e0149a2c62e3160805470eeb", func := "loop.example/g00930/laws.FnExactSubRegisters", spec := "fnExactSubRegisters", unfollowed := true, recurses := true, apart := false }
def FnExactSubRegistersSaid : Prop := fnExactSubRegistersRow.holds Try.pinned (OpenSpec.ofChange fnExactSubRegistersSpec)

/-- ITS FALSE NEIGHBOUR: 'it returns false'. Refute it at one input. -/
def fnExactSubRegistersWrong : ChangeSpec := { name := "fnExactSubRegisters", fn := fun _ => fun
  | [d1, d2] => { results := [.lit (.bool false)], args := [d1, d2] }
  | _ => none }
def FnExactSubRegistersWrongFalsely : Prop := fnExactSubRegistersRow.holds Try.pinned (OpenSpec.ofChange fnExactSubRegistersWrong)

/-- 'laws.FnExactComplementOf': WHATEVER THE INPUT: true; the input reads as it did. -/
def fnExactComplementOfSpec : ChangeSpec := { name := "fnExactComplementOf", fn := fun _ => fun
  | [d] => { results := [.lit (.bool true)], args := [d] }
  | _ => none }
def fnExactComplementOfRow : OpenClaim := { program := "ytfhiialalglefaa", sum := "371bd726f469f2063c2019b996d3b8f380ae2470e0149a2c62e3160805470eeb", func := "loop.example/g00930/laws.FnExactComplementOf", spec := "fnExactComplementOf", unfollowed := true, recurses := true, apart := false }
def FnExactComplementOfSaid : Prop := fnExactComplementOfRow.holds Try.pinned (OpenSpec.ofChange fnExactComplementOfSpec)

/-- ITS FALSE NEIGHBOUR: 'it returns false'. Refute it at one input. -/
def fnExactComplementOfWrong : ChangeSpec := { name := "fnExactComplementOf", fn := fun _ => fun
  | [d] => { results := [.lit (.bool false)], args := [d] }
  | _ => none }
def FnExactComplementOfWrongFalsely : Prop := fnExactComplementOfRow.holds Try.pinned (OpenSpec.ofChange fnExactComplementOfWrong)

/-- 'laws.FnExactCarriesOf': WHATEVER THE INPUT: true; the input reads as it did. -/
def fnExactCarriesOfSpec : ChangeSpec := { name := "fnExactCarriesOf", fn := fun _ => fun
  | [d1, d2] => { results := [.lit (.bool true)], args := [d1, d2] }
  | _ => none }
def fnExactCarriesOfRow : OpenClaim := { program := "ytfhiialalglefaa", sum := "371bd726f469f2063c2019b996d3b8f380ae2470e0149a2c62e3160805470eeb", func := "loop.example/g00930/laws.FnExactCarriesOf", spec := "fnExactCarriesOf", unfollowed := true, recurses := true, apart := false }
def FnExactCarriesOfSaid : Prop := fnExactCarriesOfRow.holds Try.pinned (OpenSpec.ofChange fnExactCarriesOfSpec)

/-- ITS FALSE NEIGHBOUR: 'it returns false'. Refute it at one input. -/
def fnExactCarriesOfWrong : ChangeSpec := { name := "fnExactCarriesOf", fn := fun _ => fun
  | [d1, d2] => { results := [.lit (.bool false)], args := [d1, d2] }
  | _ => none }
def FnExactCarriesOfWrongFalsely : Prop := fnExactCarriesOfRow.holds Try.pinned (OpenSpec.ofChange fnExactCarriesOfWrong)

/-- 'laws.FnExactShiftRegister': WHATEVER THE INPUT: true; the input reads as it did. -/
def fnExactShiftRegisterSpec : ChangeSpec := { name := "fnExactShiftRegister", fn := fun _ => fun
  | [d1, d2] => { results := [.lit (.bool true)], args := [d1, d2] }
  | _ => none }
def fnExactShiftRegisterRow : OpenClaim := { program := "ytfhiialalglefaa", sum := "371bd726f469f2063c2019b996d3b8f380ae2470e0149a2c62e3160805470eeb", func := "loop.example/g00930/laws.FnExactShiftRegister", spec := "fnExactShiftRegister", unfollowed := true, recurses := true, apart := false }
def FnExactShiftRegisterSaid : Prop := fnExactShiftRegisterRow.holds Try.pinned (OpenSpec.ofChange fnExactShiftRegisterSpec)

/-- ITS FALSE NEIGHBOUR: 'it returns false'. Refute it at one input. -/
def fnExactShiftRegisterWrong : ChangeSpec := { name := "fnExactShiftRegister", fn := fun _ => fun
  | [d1, d2] => { results := [.lit (.bool false)], args := [d1, d2] }
  | _ => none }
def FnExactShiftRegisterWrongFalsely : Prop := fnExactShiftRegisterRow.holds Try.pinned (OpenSpec.ofChange fnExactShiftRegisterWrong)

/-- 'laws.FnExactCompareRegisters': WHATEVER THE INPUT: true; the input reads as it did. -/
def fnExactCompareRegistersSpec : ChangeSpec := { name := "fnExactCompareRegisters", fn := fun _ => fun
  | [d1, d2] => { results := [.lit (.bool true)], args := [d1, d2] }
  | _ => none }
def fnExactCompareRegistersRow : OpenClaim := { program := "ytfhiialalglefaa", sum := "371bd726f469f2063c2019b996d3b8f380ae2470e0149a2c62e3160805470eeb", func := "loop.example/g00930/laws.FnExactCompareRegisters", spec := "fnExactCompareRegisters", unfollowed := true, recurses := true, apart := false }
def FnExactCompareRegistersSaid : Prop := fnExactCompareRegistersRow.holds Try.pinned (OpenSpec.ofChange fnExactCompareRegistersSpec)

/-- ITS FALSE NEIGHBOUR: 'it returns false'. Refute it at one input. -/
def fnExactCompareRegistersWrong : ChangeSpec := { name := "fnExactCompareRegisters", fn := fun _ => fun
  | [d1, d2] => { results := [.lit (.bool false)], args := [d1, d2] }
  | _ => none }
def FnExactCompareRegistersWrongFalsely : Prop := fnExactCompareRegistersRow.holds Try.pinned (OpenSpec.ofChange fnExactCompareRegistersWrong)

/- THE SECOND FORM. 'bulk': how many values and letters a reading holds, each counted each time it is reached (what is shared counts as often as it is met; a slice's spare places count too). A statement '..UptoSaid' is the law's where the arguments, and the package variables that the reading takes, are together of bulk at most 1048576: NARROWER than '..Said'. Prove '..Said' where nothing that the law and all that it calls make is longer than what came in: it says more and counts as full. Else prove '..UptoSaid'. A law counts once. -/
mutual
def uptoBulk {H : Type} : DataW H → Nat
  | .lit (.string bytes) => bytes.length + 1
  | .lit _ => 1
  | .nil => 1
  | .ptr d => uptoBulk d + 1
  | .slice elems spare => uptoBulkAll elems + uptoBulkAll spare + 1
  | .agg parts => uptoBulkAll parts + 1
  | .iface _ d => uptoBulk d + 1
  | .map entries => uptoBulkEntries entries + 1
  | .held _ => 1
def uptoBulkAll {H : Type} : List (DataW H) → Nat
  | [] => 0
  | d :: r => uptoBulk d + uptoBulkAll r
def uptoBulkEntries {H : Type} : List (Lit × DataW H) → Nat
  | [] => 0
  | x :: r => uptoBulkEntry x + uptoBulkEntries r
def uptoBulkEntry {H : Type} : Lit × DataW H → Nat
  | (.string bytes, d) => bytes.length + uptoBulk d + 1
  | (_, d) => uptoBulk d + 1
 end
def uptoSmall : (H : Type) → List (DataW H) → Bool := fun _ ds => decide (uptoBulkAll ds ≤ 1048576)
def OpenSpec.upto (s : _root_.Go.ChangeSpec) : _root_.Go.OpenSpec := { _root_.Go.OpenSpec.ofChange s with cond := some uptoSmall }

/-- 'laws.FnShiftedDigits', WHERE WHAT IT READS IS OF BULK AT MOST 1048576: true; the input reads as it did. -/
def fnShiftedDigitsUptoRow : OpenClaim := { program := "ytfhiialalglefaa", sum := "371bd726f469f2063c2019b996d3b8f380ae2470e0149a2c62e3160805470eeb", func := "loop.example/g00930/laws.FnShiftedDigits", spec := "fnShiftedDigits", unfollowed := true, recurses := true, apart := false, narrowed := true }
def FnShiftedDigitsUptoSaid : Prop := fnShiftedDigitsUptoRow.holds Try.pinned (OpenSpec.upto fnShiftedDigitsSpec)

/-- 'laws.FnExactIsName', WHERE WHAT IT READS IS OF BULK AT MOST 1048576: true; the input reads as it did. -/
def fnExactIsNameUptoRow : OpenClaim := { program := "ytfhiialalglefaa", sum := "371bd726f469f2063c2019b996d3b8f380ae2470e0149a2c62e3160805470eeb", func := "loop.example/g00930/laws.FnExactIsName", spec := "fnExactIsName", apart := false, narrowed := true }
def FnExactIsNameUptoSaid : Prop := fnExactIsNameUptoRow.holds Try.pinned (OpenSpec.upto fnExactIsNameSpec)

/-- 'laws.FnExactSplitWords', WHERE WHAT IT READS IS OF BULK AT MOST 1048576: true; the input reads as it did. -/
def fnExactSplitWordsUptoRow : OpenClaim := { program := "ytfhiialalglefaa", sum := "371bd726f469f2063c2019b996d3b8f380ae2470e0149a2c62e3160805470eeb", func := "loop.example/g00930/laws.FnExactSplitWords", spec := "fnExactSplitWords", unfollowed := true, recurses := true, apart := false, narrowed := true }
def FnExactSplitWordsUptoSaid : Prop := fnExactSplitWordsUptoRow.holds Try.pinned (OpenSpec.upto fnExactSplitWordsSpec)

/-- 'laws.FnExactValidRegister', WHERE WHAT IT READS IS OF BULK AT MOST 1048576: true; the input reads as it did. -/
def fnExactValidRegisterUptoRow : OpenClaim := { program := "ytfhiialalglefaa", sum := "371bd726f469f2063c2019b996d3b8f380ae2470e0149a2c62e3160805470eeb", func := "loop.example/g00930/laws.FnExactValidRegister", spec := "fnExactValidRegister", unfollowed := true, recurses := true, apart := false, narrowed := true }
def FnExactValidRegisterUptoSaid : Prop := fnExactValidRegisterUptoRow.holds Try.pinned (OpenSpec.upto fnExactValidRegisterSpec)

/-- 'laws.FnExactSameRegister', WHERE WHAT IT READS IS OF BULK AT MOST 1048576: true; the input reads as it did. -/
def fnExactSameRegisterUptoRow : OpenClaim := { program := "ytfhiialalglefaa", sum := "371bd726f469f2063c2019b996d3b8f380ae2470e0149a2c62e3160805470eeb", func := "loop.example/g00930/laws.FnExactSameRegister", spec := "fnExactSameRegister", apart := false, narrowed := true }
def FnExactSameRegisterUptoSaid : Prop := fnExactSameRegisterUptoRow.holds Try.pinned (OpenSpec.upto fnExactSameRegisterSpec)

/-- 'laws.FnExactNewRegister', WHERE WHAT IT READS IS OF BULK AT MOST 1048576: true; the input reads as it did. -/
def fnExactNewRegisterUptoRow : OpenClaim := { program := "ytfhiialalglefaa", sum := "371bd726f469f2063c2019b996d3b8f380ae2470e0149a2c62e3160805470eeb", func := "loop.example/g00930/laws.FnExactNewRegister", spec := "fnExactNewRegister", apart := false, narrowed := true }
def FnExactNewRegisterUptoSaid : Prop := fnExactNewRegisterUptoRow.holds Try.pinned (OpenSpec.upto fnExactNewRegisterSpec)

/-- 'laws.FnExactValueOf', WHERE WHAT IT READS IS OF BULK AT MOST 1048576: true; the input reads as it did. -/
def fnExactValueOfUptoRow : OpenClaim := { program := "ytfhiialalglefaa", sum := "371bd726f469f2063c2019b996d3b8f380ae2470e0149a2c62e3160805470eeb", func := "loop.example/g00930/laws.FnExactValueOf", spec := "fnExactValueOf", unfollowed := true, recurses := true, apart := false, narrowed := true }
def FnExactValueOfUptoSaid : Prop := fnExactValueOfUptoRow.holds Try.pinned (OpenSpec.upto fnExactValueOfSpec)

/-- 'laws.FnExactAddRegisters', WHERE WHAT IT READS IS OF BULK AT MOST 1048576: true; the input reads as it did. -/
def fnExactAddRegistersUptoRow : OpenClaim := { program := "ytfhiialalglefaa", sum := "371bd726f469f2063c2019b996d3b8f380ae2470e0149a2c62e3160805470eeb", func := "loop.example/g00930/laws.FnExactAddRegisters", spec := "fnExactAddRegisters", unfollowed := true, recurses := true, apart := false, narrowed := true }
def FnExactAddRegistersUptoSaid : Prop := fnExactAddRegistersUptoRow.holds Try.pinned (OpenSpec.upto fnExactAddRegistersSpec)

/-- 'laws.FnExactSubRegisters', WHERE WHAT IT READS IS OF BULK AT MOST 1048576: true; the input reads as it did. -/
def fnExactSubRegistersUptoRow : OpenClaim := { program := "ytfhiialalglefaa", sum := "371bd726f469f2063c2019b996d3b8f380ae2470e0149a2c62e3160805470eeb", func := "loop.example/g00930/laws.FnExactSubRegisters", spec := "fnExactSubRegisters", unfollowed := true, recurses := true, apart := false, narrowed := true }
def FnExactSubRegistersUptoSaid : Prop := fnExactSubRegistersUptoRow.holds Try.pinned (OpenSpec.upto fnExactSubRegistersSpec)

/-- 'laws.FnExactComplementOf', WHERE WHAT IT READS IS OF BULK AT MOST 1048576: true; the input reads as it did. -/
def fnExactComplementOfUptoRow : OpenClaim := { program := "ytfhiialalglefaa", sum := "371bd726f469f2063c2019b996d3b8f380ae2470e0149a2c62e3160805470eeb", func := "loop.example/g00930/laws.FnExactComplementOf", spec := "fnExactComplementOf", unfollowed := true, recurses := true, apart := false, narrowed := true }
def FnExactComplementOfUptoSaid : Prop := fnExactComplementOfUptoRow.holds Try.pinned (OpenSpec.upto fnExactComplementOfSpec)

/-- 'laws.FnExactCarriesOf', WHERE WHAT IT READS IS OF BULK AT MOST 1048576: true; the input reads as it did. -/
def fnExactCarriesOfUptoRow : OpenClaim := { program := "ytfhiialalglefaa", sum := "371bd726f469f2063c2019b996d3b8f380ae2470e0149a2c62e3160805470eeb", func := "loop.example/g00930/laws.FnExactCarriesOf", spec := "fnExactCarriesOf", unfollowed := true, recurses := true, apart := false, narrowed := true }
def FnExactCarriesOfUptoSaid : Prop := fnExactCarriesOfUptoRow.holds Try.pinned (OpenSpec.upto fnExactCarriesOfSpec)

/-- 'laws.FnExactShiftRegister', WHERE WHAT IT READS IS OF BULK AT MOST 1048576: true; the input reads as it did. -/
def fnExactShiftRegisterUptoRow : OpenClaim := { program := "ytfhiialalglefaa", sum := "371bd726f469f2063c2019b996d3b8f380ae2470e0149a2c62e3160805470eeb", func := "loop.example/g00930/laws.FnExactShiftRegister", spec := "fnExactShiftRegister", unfollowed := true, recurses := true, apart := false, narrowed := true }
def FnExactShiftRegisterUptoSaid : Prop := fnExactShiftRegisterUptoRow.holds Try.pinned (OpenSpec.upto fnExactShiftRegisterSpec)

/-- 'laws.FnExactCompareRegisters', WHERE WHAT IT READS IS OF BULK AT MOST 1048576: true; the input reads as it did. -/
def fnExactCompareRegistersUptoRow : OpenClaim := { program := "ytfhiialalglefaa", sum := "371bd726f469f2063c2019b996d3b8f380ae2470e0149a2c62e3160805470eeb", func := "loop.example/g00930/laws.FnExactCompareRegisters", spec := "fnExactCompareRegisters", unfollowed := true, recurses := true, apart := false, narrowed := true }
def FnExactCompareRegistersUptoSaid : Prop := fnExactCompareRegistersUptoRow.holds Try.pinned (OpenSpec.upto fnExactCompareRegistersSpec)

end Rows
end Go.Proofs.Ytfhiialalglefaa
