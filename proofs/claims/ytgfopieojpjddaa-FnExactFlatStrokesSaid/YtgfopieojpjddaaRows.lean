/-
  No cell of these rows narrows 'for every input' (looked for: loops, veiled, ifaces, maps, wideKeys, modest, calm, conditions, laid).
  DERIVED. THE GIVEN ROWS OF THIS SEAT. 5 by the template 'for every input the law returns true; each argument reads behind the call as it read before'; 0 by the template 'total and deterministic' (their statements: YtgfopieojpjddaaTotals.lean).
  GIVEN WITH THE SEED: the statements are not yours to turn. If you find one false, say at which input.
  Laid BY PROGRAM, IN A SANDBOX (cutbox-rows.mjs): the forced cells as the released guide's own fill.sh prints them over the translation 57c2cc7e44ba5310… (all of the seat's roots in one cut). By AI agents, Wed Nov 11 2026. No macro, syntax, notation, axiom, sorry.
-/
import Derived.Test.YtgfopieojpjddaaChecked
import GoSem.Claim
import GoSem.ClaimJoined
import GoSem.ClaimMapViews
import Derived.JoinedTies
import Derived.KernelRfl
namespace Go.Proofs.Ytgfopieojpjddaa
/- THE CELL 'sum', in the pinned program and in every row, IS THE sha256 OF THE DUMP (.gsa) THAT YtgfopieojpjddaaProg.lean LOADS. Nothing in Lean hashes anything: it is a label: what it is worth is what the hold of that sum in a sandbox is worth. -/
noncomputable def Try.pinned : Pinned := { name := "ytgfopieojpjddaa", sum := "57c2cc7e44ba5310741f79f26e1c70f52b53ed65f47c59d08079e6ef935aaed4", checked := Try.checked }
namespace Rows
def none {H : Type} : Left H := { results := [], args := [] }

/-- 'laws.FnExactValidProgram': WHATEVER THE INPUT: true; the input reads as it did. -/
def fnExactValidProgramSpec : ChangeSpec := { name := "fnExactValidProgram", fn := fun _ => fun
  | [d] => { results := [.lit (.bool true)], args := [d] }
  | _ => none }
def fnExactValidProgramRow : OpenClaim := { program := "ytgfopieojpjddaa", sum := "57c2cc7e44ba5310741f79f26e1c70f52b53ed65f47c59d08079e6ef935aaed4", func := "loop.example/g00930/laws.FnExactValidProgram", spec := "fnExactValidProgram", apart := false }
def FnExactValidProgramSaid : Prop := fnExactValidProgramRow.holds Try.pinned (OpenSpec.ofChange fnExactValidProgramSpec)

/-- ITS FALSE NEIGHBOUR: 'it returns false'. Refute it at one input. -/
def fnExactValidProgramWrong : ChangeSpec := { name := "fnExactValidProgram", fn := fun _ => fun
  | [d] => { results := [.lit (.bool false)], args := [d] }
  | _ => none }
def FnExactValidProgramWrongFalsely : Prop := fnExactValidProgramRow.holds Try.pinned (OpenSpec.ofChange fnExactValidProgramWrong)

/-- 'laws.FnExactSameProgram': WHATEVER THE INPUT: true; the input reads as it did. -/
def fnExactSameProgramSpec : ChangeSpec := { name := "fnExactSameProgram", fn := fun _ => fun
  | [d1, d2] => { results := [.lit (.bool true)], args := [d1, d2] }
  | _ => none }
def fnExactSameProgramRow : OpenClaim := { program := "ytgfopieojpjddaa", sum := "57c2cc7e44ba5310741f79f26e1c70f52b53ed65f47c59d08079e6ef935aaed4", func := "loop.example/g00930/laws.FnExactSameProgram", spec := "fnExactSameProgram", apart := false }
def FnExactSameProgramSaid : Prop := fnExactSameProgramRow.holds Try.pinned (OpenSpec.ofChange fnExactSameProgramSpec)

/-- ITS FALSE NEIGHBOUR: 'it returns false'. Refute it at one input. -/
def fnExactSameProgramWrong : ChangeSpec := { name := "fnExactSameProgram", fn := fun _ => fun
  | [d1, d2] => { results := [.lit (.bool false)], args := [d1, d2] }
  | _ => none }
def FnExactSameProgramWrongFalsely : Prop := fnExactSameProgramRow.holds Try.pinned (OpenSpec.ofChange fnExactSameProgramWrong)

/-- 'laws.FnExactMatchOf': WHATEVER THE INPUT: true; the input reads as it did. -/
def fnExactMatchOfSpec : ChangeSpec := { name := "fnExactMatchOf", fn := fun _ => fun
  | [d1, d2] => { results := [.lit (.bool true)], args := [d1, d2] }
  | _ => none }
def fnExactMatchOfRow : OpenClaim := { program := "ytgfopieojpjddaa", sum := "57c2cc7e44ba5310741f79f26e1c70f52b53ed65f47c59d08079e6ef935aaed4", func := "loop.example/g00930/laws.FnExactMatchOf", spec := "fnExactMatchOf", apart := false }
def FnExactMatchOfSaid : Prop := fnExactMatchOfRow.holds Try.pinned (OpenSpec.ofChange fnExactMatchOfSpec)

/-- ITS FALSE NEIGHBOUR: 'it returns false'. Refute it at one input. -/
def fnExactMatchOfWrong : ChangeSpec := { name := "fnExactMatchOf", fn := fun _ => fun
  | [d1, d2] => { results := [.lit (.bool false)], args := [d1, d2] }
  | _ => none }
def FnExactMatchOfWrongFalsely : Prop := fnExactMatchOfRow.holds Try.pinned (OpenSpec.ofChange fnExactMatchOfWrong)

/-- 'laws.FnExactDepthOfProgram': WHATEVER THE INPUT: true; the input reads as it did. -/
def fnExactDepthOfProgramSpec : ChangeSpec := { name := "fnExactDepthOfProgram", fn := fun _ => fun
  | [d] => { results := [.lit (.bool true)], args := [d] }
  | _ => none }
def fnExactDepthOfProgramRow : OpenClaim := { program := "ytgfopieojpjddaa", sum := "57c2cc7e44ba5310741f79f26e1c70f52b53ed65f47c59d08079e6ef935aaed4", func := "loop.example/g00930/laws.FnExactDepthOfProgram", spec := "fnExactDepthOfProgram", apart := false }
def FnExactDepthOfProgramSaid : Prop := fnExactDepthOfProgramRow.holds Try.pinned (OpenSpec.ofChange fnExactDepthOfProgramSpec)

/-- ITS FALSE NEIGHBOUR: 'it returns false'. Refute it at one input. -/
def fnExactDepthOfProgramWrong : ChangeSpec := { name := "fnExactDepthOfProgram", fn := fun _ => fun
  | [d] => { results := [.lit (.bool false)], args := [d] }
  | _ => none }
def FnExactDepthOfProgramWrongFalsely : Prop := fnExactDepthOfProgramRow.holds Try.pinned (OpenSpec.ofChange fnExactDepthOfProgramWrong)

/-- 'laws.FnExactFlatStrokes': WHATEVER THE INPUT: true; the input reads as it did. -/
def fnExactFlatStrokesSpec : ChangeSpec := { name := "fnExactFlatStrokes", fn := fun _ => fun
  | [d] => { results := [.lit (.bool true)], args := [d] }
  | _ => none }
def fnExactFlatStrokesRow : OpenClaim := { program := "ytgfopieojpjddaa", sum := "57c2cc7e44ba5310741f79f26e1c70f52b53ed65f47c59d08079e6ef935aaed4", func := "loop.example/g00930/laws.FnExactFlatStrokes", spec := "fnExactFlatStrokes", recurses := true, apart := false }
def FnExactFlatStrokesSaid : Prop := fnExactFlatStrokesRow.holds Try.pinned (OpenSpec.ofChange fnExactFlatStrokesSpec)

/-- ITS FALSE NEIGHBOUR: 'it returns false'. Refute it at one input. -/
def fnExactFlatStrokesWrong : ChangeSpec := { name := "fnExactFlatStrokes", fn := fun _ => fun
  | [d] => { results := [.lit (.bool false)], args := [d] }
  | _ => none }
def FnExactFlatStrokesWrongFalsely : Prop := fnExactFlatStrokesRow.holds Try.pinned (OpenSpec.ofChange fnExactFlatStrokesWrong)

/- THE SECOND FORM. 'bulk': how many values and letters a reading holds, each counted each time it is reached (what is shared counts as often as it is met; a slice's spare places count too). A statement '..UptoSaid' is the law's where the arguments, and the package variables that the reading takes, are together of bulk at most 1048576: NARROWER than '..Said'. Prove '..Said' where nothing that the law and all that it calls make is longer than what came in: it says more and counts as full. Else prove '..UptoSaid'. A law counts once. -/
mutual
def uptoBulk {H : Type} : DataW H → Nat
  | .lit (.string bytes) => bytes.length + 1
  | .lit _ => 1
  | .nil => 1
  | .ptr d => uptoBulk d + 1
  | .slice elems spare => uptoBulkAll elems + uptoBulkAll spare + 1
  | .agg parts => uptoBulkAll parts + 1
  | .iface _ d => uptoBulk d + 1
  | .map entries => uptoBulkEntries entries + 1
  | .held _ => 1
def uptoBulkAll {H : Type} : List (DataW H) → Nat
  | [] => 0
  | d :: r => uptoBulk d + uptoBulkAll r
def uptoBulkEntries {H : Type} : List (Lit × DataW H) → Nat
  | [] => 0
  | x :: r => uptoBulkEntry x + uptoBulkEntries r
def uptoBulkEntry {H : Type} : Lit × DataW H → Nat
  | (.string bytes, d) => bytes.length + uptoBulk d + 1
  | (_, d) => uptoBulk d + 1
 end
def uptoSmall : (H : Type) → List (DataW H) → Bool := fun _ ds => decide (uptoBulkAll ds ≤ 1048576)
def OpenSpec.upto (s : _root_.Go.ChangeSpec) : _root_.Go.OpenSpec := { _root_.Go.OpenSpec.ofChange s with cond := some uptoSmall }

/-- 'laws.FnExactValidProgram', WHERE WHAT IT READS IS OF BULK AT MOST 1048576: true; the input reads as it did. -/
def fnExactValidProgramUptoRow : OpenClaim := { program := "ytgfopieojpjddaa", sum := "57c2cc7e44ba5310741f79f26e1c70f52b53ed65f47c59d08079e6ef935aaed4", func := "loop.example/g00930/laws.FnExactValidProgram", spec := "fnExactValidProgram", apart := false, narrowed := true }
def FnExactValidProgramUptoSaid : Prop := fnExactValidProgramUptoRow.holds Try.pinned (OpenSpec.upto fnExactValidProgramSpec)

/-- 'laws.FnExactSameProgram', WHERE WHAT IT READS IS OF BULK AT MOST 1048576: true; the input reads as it did. -/
def fnExactSameProgramUptoRow : OpenClaim := { program := "ytgfopieojpjddaa", sum := "57c2cc7e44ba5310741f79f26e1c70f52b53ed65f47c59d08079e6ef935aaed4", func := "loop.example/g00930/laws.FnExactSameProgram", spec := "fnExactSameProgram", apart := false, narrowed := true }
def FnExactSameProgramUptoSaid : Prop := fnExactSameProgramUptoRow.holds Try.pinned (OpenSpec.upto fnExactSameProgramSpec)

/-- 'laws.FnExactMatchOf', WHERE WHAT IT READS IS OF BULK AT MOST 1048576: true; the input reads as it did. -/
def fnExactMatchOfUptoRow : OpenClaim := { program := "ytgfopieojpjddaa", sum := "57c2cc7e44ba5310741f79f26e1c70f52b53ed65f47c59d08079e6ef935aaed4", func := "loop.example/g00930/laws.FnExactMatchOf", spec := "fnExactMatchOf", apart := false, narrowed := true }
def FnExactMatchOfUptoSaid : Prop := fnExactMatchOfUptoRow.holds Try.pinned (OpenSpec.upto fnExactMatchOfSpec)

/-- 'laws.FnExactDepthOfProgram', WHERE WHAT IT READS IS OF BULK AT MOST 1048576: true; the input reads as it did. -/
def fnExactDepthOfProgramUptoRow : OpenClaim := { program := "ytgfopieojpjddaa", sum := "57c2cc7e44ba5310741f79f26e1c70f52b53ed65f47c59d08079e6ef935aaed4", func := "loop.example/g00930/laws.FnExactDepthOfProgram", spec := "fnExactDepthOfProgram", apart := false, narrowed := true }
def FnExactDepthOfProgramUptoSaid : Prop := fnExactDepthOfProgramUptoRow.holds Try.pinned (OpenSpec.upto fnExactDepthOfProgramSpec)

/-- 'laws.FnExactFlatStrokes', WHERE WHAT IT READS IS OF BULK AT MOST 1048576: true; the input reads as it did. -/
def fnExactFlatStrokesUptoRow : OpenClaim := { program := "ytgfopieojpjddaa", sum := "57c2cc7e44ba5310741f79f26e1c70f52b53ed65f47c59d08079e6ef935aaed4", func := "loop.example/g00930/laws.FnExactFlatStrokes", spec := "fnExactFlatStrokes", recurses := true, apart := false, narrowed := true }
def FnExactFlatStrokesUptoSaid : Prop := fnExactFlatStrokesUptoRow.holds Try.pinned (OpenSpec.upto fnExactFlatStrokesSpec)

end Rows
end Go.Proofs.Ytgfopieojpjddaa
