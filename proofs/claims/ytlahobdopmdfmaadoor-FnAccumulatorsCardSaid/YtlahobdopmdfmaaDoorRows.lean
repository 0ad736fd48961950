/-
  NARROWER THAN 'FOR EVERY INPUT', by the rows' own cells (each row's printed sentence says how): FnCounted: ifaces, laid · FnAccumulators: ifaces, laid · FnAccumulated: ifaces, laid · FnExactNewMachine: ifaces, laid · FnExactValidMachine: ifaces, laid · FnExactSetValue: ifaces, laid · FnExactSetDigit: ifaces, laid · FnExactDoStroke: ifaces, laid · FnExactDoStrokes: ifaces, laid · FnExactPlacesOf: ifaces, laid · FnExactMachineText: ifaces, laid · FnExactStrokeName: laid · FnExactTransferTo: ifaces, laid.
  DERIVED. THE GIVEN ROWS OF THIS SEAT. 13 by the template 'for every input the law returns true; each argument reads behind the call as it read before'; 0 by the template 'total and deterministic' (their statements: YtlahobdopmdfmaaDoorTotals.lean).
  GIVEN WITH THE SEED: the statements are not yours to turn. If you find one false, say at which input.
  Laid BY PROGRAM, IN A SANDBOX (cutbox-rows.mjs): the forced cells as the released guide's own fill.sh prints them over the translation 5160bd6bbf7caf0d… (all of the seat's roots in one cut). By AI agents, Wed Nov 11 2026. No macro, syntax, notation, axiom, sorry.
-/
import Derived.Test.YtlahobdopmdfmaaDoorChecked
import GoSem.Claim
import GoSem.ClaimJoined
import GoSem.ClaimMapViews
import Derived.JoinedTies
import Derived.KernelRfl
namespace Go.Proofs.YtlahobdopmdfmaaDoor
/- THE CELL 'sum', in the pinned program and in every row, IS THE sha256 OF THE DUMP (.gsa) THAT YtlahobdopmdfmaaDoorProg.lean LOADS. Nothing in Lean hashes anything: it is a label: what it is worth is what the hold of that sum in a sandbox is worth. -/
noncomputable def Tryd.pinned : Pinned := { name := "ytlahobdopmdfmaadoor", sum := "5160bd6bbf7caf0d0538cdd6ee7ab467619090251e8cd70abc4fa31058e181d7", checked := Tryd.checked }
namespace Rows
def none {H : Type} : Left H := { results := [], args := [] }

/- WHAT THE LISTED PACKAGE-LEVEL VARIABLES READ AS WHEN THE CALL BEGINS. Each datum BY PROGRAM (the guide's laid-datum.mjs) off the statement by which the dump's own 'gosem.cut.vars' lays the variable. In a bare row this is a premise. The card (YtlahobdopmdfmaaDoorCards.lean) ties it to the program's text. -/
def laid_loop_example_g00930_impl_errBell {H : Type} : DataW H := .iface "*errors.errorString" (.ptr (.agg [.lit (.string [116, 104, 101, 32, 98, 101, 108, 108, 32, 114, 105, 110, 103, 115])]))
def laid_math_bits_deBruijn32tab {H : Type} : DataW H := .agg [.lit (.int .u8 0), .lit (.int .u8 1), .lit (.int .u8 28), .lit (.int .u8 2), .lit (.int .u8 29), .lit (.int .u8 14), .lit (.int .u8 24), .lit (.int .u8 3), .lit (.int .u8 30), .lit (.int .u8 22), .lit (.int .u8 20), .lit (.int .u8 15), .lit (.int .u8 25), .lit (.int .u8 17), .lit (.int .u8 4), .lit (.int .u8 8), .lit (.int .u8 31), .lit (.int .u8 27), .lit (.int .u8 13), .lit (.int .u8 23), .lit (.int .u8 21), .lit (.int .u8 19), .lit (.int .u8 16), .lit (.int .u8 7), .lit (.int .u8 26), .lit (.int .u8 12), .lit (.int .u8 18), .lit (.int .u8 6), .lit (.int .u8 11), .lit (.int .u8 5), .lit (.int .u8 10), .lit (.int .u8 9)]
def laid_math_bits_deBruijn64tab {H : Type} : DataW H := .agg [.lit (.int .u8 0), .lit (.int .u8 1), .lit (.int .u8 56), .lit (.int .u8 2), .lit (.int .u8 57), .lit (.int .u8 49), .lit (.int .u8 28), .lit (.int .u8 3), .lit (.int .u8 61), .lit (.int .u8 58), .lit (.int .u8 42), .lit (.int .u8 50), .lit (.int .u8 38), .lit (.int .u8 29), .lit (.int .u8 17), .lit (.int .u8 4), .lit (.int .u8 62), .lit (.int .u8 47), .lit (.int .u8 59), .lit (.int .u8 36), .lit (.int .u8 45), .lit (.int .u8 43), .lit (.int .u8 51), .lit (.int .u8 22), .lit (.int .u8 53), .lit (.int .u8 39), .lit (.int .u8 33), .lit (.int .u8 30), .lit (.int .u8 24), .lit (.int .u8 18), .lit (.int .u8 12), .lit (.int .u8 5), .lit (.int .u8 63), .lit (.int .u8 55), .lit (.int .u8 48), .lit (.int .u8 27), .lit (.int .u8 60), .lit (.int .u8 41), .lit (.int .u8 37), .lit (.int .u8 16), .lit (.int .u8 46), .lit (.int .u8 35), .lit (.int .u8 44), .lit (.int .u8 21), .lit (.int .u8 52), .lit (.int .u8 32), .lit (.int .u8 23), .lit (.int .u8 11), .lit (.int .u8 54), .lit (.int .u8 26), .lit (.int .u8 40), .lit (.int .u8 15), .lit (.int .u8 34), .lit (.int .u8 20), .lit (.int .u8 31), .lit (.int .u8 10), .lit (.int .u8 25), .lit (.int .u8 14), .lit (.int .u8 19), .lit (.int .u8 9), .lit (.int .u8 13), .lit (.int .u8 8), .lit (.int .u8 7), .lit (.int .u8 6)]
def laid_internal_strconv_uint64pow10 {H : Type} : DataW H := .agg [.lit (.int .u64 1), .lit (.int .u64 10), .lit (.int .u64 100), .lit (.int .u64 1000), .lit (.int .u64 10000), .lit (.int .u64 100000), .lit (.int .u64 1000000), .lit (.int .u64 10000000), .lit (.int .u64 100000000), .lit (.int .u64 1000000000), .lit (.int .u64 10000000000), .lit (.int .u64 100000000000), .lit (.int .u64 1000000000000), .lit (.int .u64 10000000000000), .lit (.int .u64 100000000000000), .lit (.int .u64 1000000000000000), .lit (.int .u64 10000000000000000), .lit (.int .u64 100000000000000000), .lit (.int .u64 1000000000000000000), .lit (.int .u64 10000000000000000000)]
def laid_loop_example_g00930_impl_strokeNames {H : Type} : DataW H := .agg [.lit (.string []), .lit (.string [97, 100, 100]), .lit (.string [115, 117, 98]), .lit (.string [114, 105, 103, 104, 116]), .lit (.string [108, 101, 102, 116]), .lit (.string [99, 108, 101, 97, 114]), .lit (.string [122, 101, 114, 111])]

/-- 'laws.FnCounted': WHATEVER THE INPUT: true; the input reads as it did. -/
def fnCountedSpec : ChangeSpec := { name := "fnCounted", vars := ["loop.example/g00930/impl.errBell"], fn := fun _ => fun
  | [d1, d2, g1] => { results := [.lit (.bool true)], args := [d1, d2], vars := [g1] }
  | _ => none }
def fnCountedRow : OpenClaim := { program := "ytlahobdopmdfmaadoor", sum := "5160bd6bbf7caf0d0538cdd6ee7ab467619090251e8cd70abc4fa31058e181d7", func := "loop.example/g00930/laws.FnCounted", spec := "fnCounted", unfollowed := true, recurses := true, named := ["loop.example/g00930/impl.errBell"], ifaces := true, apart := false, laid := [("loop.example/g00930/impl.errBell", laid_loop_example_g00930_impl_errBell)] }
def FnCountedSaid : Prop := fnCountedRow.holds Tryd.pinned (OpenSpec.ofChange fnCountedSpec)

/-- ITS FALSE NEIGHBOUR: 'it returns false'. Refute it at one input. -/
def fnCountedWrong : ChangeSpec := { name := "fnCounted", vars := ["loop.example/g00930/impl.errBell"], fn := fun _ => fun
  | [d1, d2, g1] => { results := [.lit (.bool false)], args := [d1, d2], vars := [g1] }
  | _ => none }
def FnCountedWrongFalsely : Prop := fnCountedRow.holds Tryd.pinned (OpenSpec.ofChange fnCountedWrong)

/-- 'laws.FnAccumulators': WHATEVER THE INPUT: true; the input reads as it did. -/
def fnAccumulatorsSpec : ChangeSpec := { name := "fnAccumulators", vars := ["loop.example/g00930/impl.errBell"], fn := fun _ => fun
  | [d, g1] => { results := [.lit (.bool true)], args := [d], vars := [g1] }
  | _ => none }
def fnAccumulatorsRow : OpenClaim := { program := "ytlahobdopmdfmaadoor", sum := "5160bd6bbf7caf0d0538cdd6ee7ab467619090251e8cd70abc4fa31058e181d7", func := "loop.example/g00930/laws.FnAccumulators", spec := "fnAccumulators", inPlace := ["internal/reflectlite.TypeOf"], unfollowed := true, recurses := true, named := ["loop.example/g00930/impl.errBell", "internal/strconv.uint64pow10", "math/bits.deBruijn32tab", "math/bits.deBruijn64tab"], ifaces := true, apart := false, laid := [("math/bits.deBruijn32tab", laid_math_bits_deBruijn32tab), ("math/bits.deBruijn64tab", laid_math_bits_deBruijn64tab), ("internal/strconv.uint64pow10", laid_internal_strconv_uint64pow10), ("loop.example/g00930/impl.errBell", laid_loop_example_g00930_impl_errBell)] }
def FnAccumulatorsSaid : Prop := fnAccumulatorsRow.holds Tryd.pinned (OpenSpec.ofChange fnAccumulatorsSpec)

/-- ITS FALSE NEIGHBOUR: 'it returns false'. Refute it at one input. -/
def fnAccumulatorsWrong : ChangeSpec := { name := "fnAccumulators", vars := ["loop.example/g00930/impl.errBell"], fn := fun _ => fun
  | [d, g1] => { results := [.lit (.bool false)], args := [d], vars := [g1] }
  | _ => none }
def FnAccumulatorsWrongFalsely : Prop := fnAccumulatorsRow.holds Tryd.pinned (OpenSpec.ofChange fnAccumulatorsWrong)

/-- 'laws.FnAccumulated': WHATEVER THE INPUT: true; the input reads as it did. -/
def fnAccumulatedSpec : ChangeSpec := { name := "fnAccumulated", vars := ["loop.example/g00930/impl.errBell"], fn := fun _ => fun
  | [d, g1] => { results := [.lit (.bool true)], args := [d], vars := [g1] }
  | _ => none }
def fnAccumulatedRow : OpenClaim := { program := "ytlahobdopmdfmaadoor", sum := "5160bd6bbf7caf0d0538cdd6ee7ab467619090251e8cd70abc4fa31058e181d7", func := "loop.example/g00930/laws.FnAccumulated", spec := "fnAccumulated", inPlace := ["internal/reflectlite.TypeOf"], unfollowed := true, recurses := true, named := ["loop.example/g00930/impl.errBell"], ifaces := true, apart := false, laid := [("loop.example/g00930/impl.errBell", laid_loop_example_g00930_impl_errBell)] }
def FnAccumulatedSaid : Prop := fnAccumulatedRow.holds Tryd.pinned (OpenSpec.ofChange fnAccumulatedSpec)

/-- ITS FALSE NEIGHBOUR: 'it returns false'. Refute it at one input. -/
def fnAccumulatedWrong : ChangeSpec := { name := "fnAccumulated", vars := ["loop.example/g00930/impl.errBell"], fn := fun _ => fun
  | [d, g1] => { results := [.lit (.bool false)], args := [d], vars := [g1] }
  | _ => none }
def FnAccumulatedWrongFalsely : Prop := fnAccumulatedRow.holds Tryd.pinned (OpenSpec.ofChange fnAccumulatedWrong)

/-- 'laws.FnExactNewMachine': WHATEVER THE INPUT: true; the input reads as it did. -/
def fnExactNewMachineSpec : ChangeSpec := { name := "fnExactNewMachine", vars := ["loop.example/g00930/impl.errBell"], fn := fun _ => fun
  | [d1, d2, d3, d4, g1] => { results := [.lit (.bool true)], args := [d1, d2, d3, d4], vars := [g1] }
  | _ => none }
def fnExactNewMachineRow : OpenClaim := { program := "ytlahobdopmdfmaadoor", sum := "5160bd6bbf7caf0d0538cdd6ee7ab467619090251e8cd70abc4fa31058e181d7", func := "loop.example/g00930/laws.FnExactNewMachine", spec := "fnExactNewMachine", unfollowed := true, recurses := true, named := ["loop.example/g00930/impl.errBell"], ifaces := true, apart := false, laid := [("loop.example/g00930/impl.errBell", laid_loop_example_g00930_impl_errBell)] }
def FnExactNewMachineSaid : Prop := fnExactNewMachineRow.holds Tryd.pinned (OpenSpec.ofChange fnExactNewMachineSpec)

/-- ITS FALSE NEIGHBOUR: 'it returns false'. Refute it at one input. -/
def fnExactNewMachineWrong : ChangeSpec := { name := "fnExactNewMachine", vars := ["loop.example/g00930/impl.errBell"], fn := fun _ => fun
  | [d1, d2, d3, d4, g1] => { results := [.lit (.bool false)], args := [d1, d2, d3, d4], vars := [g1] }
  | _ => none }
def FnExactNewMachineWrongFalsely : Prop := fnExactNewMachineRow.holds Tryd.pinned (OpenSpec.ofChange fnExactNewMachineWrong)

/-- 'laws.FnExactValidMachine': WHATEVER THE INPUT: true; the input reads as it did. -/
def fnExactValidMachineSpec : ChangeSpec := { name := "fnExactValidMachine", vars := ["loop.example/g00930/impl.errBell"], fn := fun _ => fun
  | [d, g1] => { results := [.lit (.bool true)], args := [d], vars := [g1] }
  | _ => none }
def fnExactValidMachineRow : OpenClaim := { program := "ytlahobdopmdfmaadoor", sum := "5160bd6bbf7caf0d0538cdd6ee7ab467619090251e8cd70abc4fa31058e181d7", func := "loop.example/g00930/laws.FnExactValidMachine", spec := "fnExactValidMachine", unfollowed := true, recurses := true, named := ["loop.example/g00930/impl.errBell"], ifaces := true, apart := false, laid := [("loop.example/g00930/impl.errBell", laid_loop_example_g00930_impl_errBell)] }
def FnExactValidMachineSaid : Prop := fnExactValidMachineRow.holds Tryd.pinned (OpenSpec.ofChange fnExactValidMachineSpec)

/-- ITS FALSE NEIGHBOUR: 'it returns false'. Refute it at one input. -/
def fnExactValidMachineWrong : ChangeSpec := { name := "fnExactValidMachine", vars := ["loop.example/g00930/impl.errBell"], fn := fun _ => fun
  | [d, g1] => { results := [.lit (.bool false)], args := [d], vars := [g1] }
  | _ => none }
def FnExactValidMachineWrongFalsely : Prop := fnExactValidMachineRow.holds Tryd.pinned (OpenSpec.ofChange fnExactValidMachineWrong)

/-- 'laws.FnExactSetValue': WHATEVER THE INPUT: true; the input reads as it did. -/
def fnExactSetValueSpec : ChangeSpec := { name := "fnExactSetValue", vars := ["loop.example/g00930/impl.errBell"], fn := fun _ => fun
  | [d1, d2, g1] => { results := [.lit (.bool true)], args := [d1, d2], vars := [g1] }
  | _ => none }
def fnExactSetValueRow : OpenClaim := { program := "ytlahobdopmdfmaadoor", sum := "5160bd6bbf7caf0d0538cdd6ee7ab467619090251e8cd70abc4fa31058e181d7", func := "loop.example/g00930/laws.FnExactSetValue", spec := "fnExactSetValue", unfollowed := true, recurses := true, named := ["loop.example/g00930/impl.errBell"], ifaces := true, apart := false, laid := [("loop.example/g00930/impl.errBell", laid_loop_example_g00930_impl_errBell)] }
def FnExactSetValueSaid : Prop := fnExactSetValueRow.holds Tryd.pinned (OpenSpec.ofChange fnExactSetValueSpec)

/-- ITS FALSE NEIGHBOUR: 'it returns false'. Refute it at one input. -/
def fnExactSetValueWrong : ChangeSpec := { name := "fnExactSetValue", vars := ["loop.example/g00930/impl.errBell"], fn := fun _ => fun
  | [d1, d2, g1] => { results := [.lit (.bool false)], args := [d1, d2], vars := [g1] }
  | _ => none }
def FnExactSetValueWrongFalsely : Prop := fnExactSetValueRow.holds Tryd.pinned (OpenSpec.ofChange fnExactSetValueWrong)

/-- 'laws.FnExactSetDigit': WHATEVER THE INPUT: true; the input reads as it did. -/
def fnExactSetDigitSpec : ChangeSpec := { name := "fnExactSetDigit", vars := ["loop.example/g00930/impl.errBell"], fn := fun _ => fun
  | [d1, d2, d3, g1] => { results := [.lit (.bool true)], args := [d1, d2, d3], vars := [g1] }
  | _ => none }
def fnExactSetDigitRow : OpenClaim := { program := "ytlahobdopmdfmaadoor", sum := "5160bd6bbf7caf0d0538cdd6ee7ab467619090251e8cd70abc4fa31058e181d7", func := "loop.example/g00930/laws.FnExactSetDigit", spec := "fnExactSetDigit", unfollowed := true, recurses := true, named := ["loop.example/g00930/impl.errBell"], ifaces := true, apart := false, laid := [("loop.example/g00930/impl.errBell", laid_loop_example_g00930_impl_errBell)] }
def FnExactSetDigitSaid : Prop := fnExactSetDigitRow.holds Tryd.pinned (OpenSpec.ofChange fnExactSetDigitSpec)

/-- ITS FALSE NEIGHBOUR: 'it returns false'. Refute it at one input. -/
def fnExactSetDigitWrong : ChangeSpec := { name := "fnExactSetDigit", vars := ["loop.example/g00930/impl.errBell"], fn := fun _ => fun
  | [d1, d2, d3, g1] => { results := [.lit (.bool false)], args := [d1, d2, d3], vars := [g1] }
  | _ => none }
def FnExactSetDigitWrongFalsely : Prop := fnExactSetDigitRow.holds Tryd.pinned (OpenSpec.ofChange fnExactSetDigitWrong)

/-- 'laws.FnExactDoStroke': WHATEVER THE INPUT: true; the input reads as it did. -/
def fnExactDoStrokeSpec : ChangeSpec := { name := "fnExactDoStroke", vars := ["loop.example/g00930/impl.errBell"], fn := fun _ => fun
  | [d1, d2, g1] => { results := [.lit (.bool true)], args := [d1, d2], vars := [g1] }
  | _ => none }
def fnExactDoStrokeRow : OpenClaim := { program := "ytlahobdopmdfmaadoor", sum := "5160bd6bbf7caf0d0538cdd6ee7ab467619090251e8cd70abc4fa31058e181d7", func := "loop.example/g00930/laws.FnExactDoStroke", spec := "fnExactDoStroke", unfollowed := true, recurses := true, named := ["loop.example/g00930/impl.errBell"], ifaces := true, apart := false, laid := [("loop.example/g00930/impl.errBell", laid_loop_example_g00930_impl_errBell)] }
def FnExactDoStrokeSaid : Prop := fnExactDoStrokeRow.holds Tryd.pinned (OpenSpec.ofChange fnExactDoStrokeSpec)

/-- ITS FALSE NEIGHBOUR: 'it returns false'. Refute it at one input. -/
def fnExactDoStrokeWrong : ChangeSpec := { name := "fnExactDoStroke", vars := ["loop.example/g00930/impl.errBell"], fn := fun _ => fun
  | [d1, d2, g1] => { results := [.lit (.bool false)], args := [d1, d2], vars := [g1] }
  | _ => none }
def FnExactDoStrokeWrongFalsely : Prop := fnExactDoStrokeRow.holds Tryd.pinned (OpenSpec.ofChange fnExactDoStrokeWrong)

/-- 'laws.FnExactDoStrokes': WHATEVER THE INPUT: true; the input reads as it did. -/
def fnExactDoStrokesSpec : ChangeSpec := { name := "fnExactDoStrokes", vars := ["loop.example/g00930/impl.errBell"], fn := fun _ => fun
  | [d1, d2, g1] => { results := [.lit (.bool true)], args := [d1, d2], vars := [g1] }
  | _ => none }
def fnExactDoStrokesRow : OpenClaim := { program := "ytlahobdopmdfmaadoor", sum := "5160bd6bbf7caf0d0538cdd6ee7ab467619090251e8cd70abc4fa31058e181d7", func := "loop.example/g00930/laws.FnExactDoStrokes", spec := "fnExactDoStrokes", unfollowed := true, recurses := true, named := ["loop.example/g00930/impl.errBell"], ifaces := true, apart := false, laid := [("loop.example/g00930/impl.errBell", laid_loop_example_g00930_impl_errBell)] }
def FnExactDoStrokesSaid : Prop := fnExactDoStrokesRow.holds Tryd.pinned (OpenSpec.ofChange fnExactDoStrokesSpec)

/-- ITS FALSE NEIGHBOUR: 'it returns false'. Refute it at one input. -/
def fnExactDoStrokesWrong : ChangeSpec := { name := "fnExactDoStrokes", vars := ["loop.example/g00930/impl.errBell"], fn := fun _ => fun
  | [d1, d2, g1] => { results := [.lit (.bool false)], args := [d1, d2], vars := [g1] }
  | _ => none }
def FnExactDoStrokesWrongFalsely : Prop := fnExactDoStrokesRow.holds Tryd.pinned (OpenSpec.ofChange fnExactDoStrokesWrong)

/-- 'laws.FnExactPlacesOf': WHATEVER THE INPUT: true; the input reads as it did. -/
def fnExactPlacesOfSpec : ChangeSpec := { name := "fnExactPlacesOf", vars := ["loop.example/g00930/impl.errBell"], fn := fun _ => fun
  | [d, g1] => { results := [.lit (.bool true)], args := [d], vars := [g1] }
  | _ => none }
def fnExactPlacesOfRow : OpenClaim := { program := "ytlahobdopmdfmaadoor", sum := "5160bd6bbf7caf0d0538cdd6ee7ab467619090251e8cd70abc4fa31058e181d7", func := "loop.example/g00930/laws.FnExactPlacesOf", spec := "fnExactPlacesOf", unfollowed := true, recurses := true, named := ["loop.example/g00930/impl.errBell"], ifaces := true, apart := false, laid := [("loop.example/g00930/impl.errBell", laid_loop_example_g00930_impl_errBell)] }
def FnExactPlacesOfSaid : Prop := fnExactPlacesOfRow.holds Tryd.pinned (OpenSpec.ofChange fnExactPlacesOfSpec)

/-- ITS FALSE NEIGHBOUR: 'it returns false'. Refute it at one input. -/
def fnExactPlacesOfWrong : ChangeSpec := { name := "fnExactPlacesOf", vars := ["loop.example/g00930/impl.errBell"], fn := fun _ => fun
  | [d, g1] => { results := [.lit (.bool false)], args := [d], vars := [g1] }
  | _ => none }
def FnExactPlacesOfWrongFalsely : Prop := fnExactPlacesOfRow.holds Tryd.pinned (OpenSpec.ofChange fnExactPlacesOfWrong)

/-- 'laws.FnExactMachineText': WHATEVER THE INPUT: true; the input reads as it did. -/
def fnExactMachineTextSpec : ChangeSpec := { name := "fnExactMachineText", vars := ["loop.example/g00930/impl.errBell"], fn := fun _ => fun
  | [d, g1] => { results := [.lit (.bool true)], args := [d], vars := [g1] }
  | _ => none }
def fnExactMachineTextRow : OpenClaim := { program := "ytlahobdopmdfmaadoor", sum := "5160bd6bbf7caf0d0538cdd6ee7ab467619090251e8cd70abc4fa31058e181d7", func := "loop.example/g00930/laws.FnExactMachineText", spec := "fnExactMachineText", inPlace := ["internal/abi.NoEscape", "internal/bytealg.MakeNoZero"], unfollowed := true, recurses := true, named := ["loop.example/g00930/impl.errBell", "internal/strconv.uint64pow10", "math/bits.deBruijn32tab", "math/bits.deBruijn64tab"], ifaces := true, apart := false, laid := [("math/bits.deBruijn32tab", laid_math_bits_deBruijn32tab), ("math/bits.deBruijn64tab", laid_math_bits_deBruijn64tab), ("internal/strconv.uint64pow10", laid_internal_strconv_uint64pow10), ("loop.example/g00930/impl.errBell", laid_loop_example_g00930_impl_errBell)] }
def FnExactMachineTextSaid : Prop := fnExactMachineTextRow.holds Tryd.pinned (OpenSpec.ofChange fnExactMachineTextSpec)

/-- ITS FALSE NEIGHBOUR: 'it returns false'. Refute it at one input. -/
def fnExactMachineTextWrong : ChangeSpec := { name := "fnExactMachineText", vars := ["loop.example/g00930/impl.errBell"], fn := fun _ => fun
  | [d, g1] => { results := [.lit (.bool false)], args := [d], vars := [g1] }
  | _ => none }
def FnExactMachineTextWrongFalsely : Prop := fnExactMachineTextRow.holds Tryd.pinned (OpenSpec.ofChange fnExactMachineTextWrong)

/-- 'laws.FnExactStrokeName': WHATEVER THE INPUT: true; the input reads as it did. -/
def fnExactStrokeNameSpec : ChangeSpec := { name := "fnExactStrokeName", vars := ["loop.example/g00930/impl.strokeNames"], fn := fun _ => fun
  | [d, g1] => { results := [.lit (.bool true)], args := [d], vars := [g1] }
  | _ => none }
def fnExactStrokeNameRow : OpenClaim := { program := "ytlahobdopmdfmaadoor", sum := "5160bd6bbf7caf0d0538cdd6ee7ab467619090251e8cd70abc4fa31058e181d7", func := "loop.example/g00930/laws.FnExactStrokeName", spec := "fnExactStrokeName", named := ["loop.example/g00930/impl.strokeNames"], apart := false, laid := [("loop.example/g00930/impl.strokeNames", laid_loop_example_g00930_impl_strokeNames)] }
def FnExactStrokeNameSaid : Prop := fnExactStrokeNameRow.holds Tryd.pinned (OpenSpec.ofChange fnExactStrokeNameSpec)

/-- ITS FALSE NEIGHBOUR: 'it returns false'. Refute it at one input. -/
def fnExactStrokeNameWrong : ChangeSpec := { name := "fnExactStrokeName", vars := ["loop.example/g00930/impl.strokeNames"], fn := fun _ => fun
  | [d, g1] => { results := [.lit (.bool false)], args := [d], vars := [g1] }
  | _ => none }
def FnExactStrokeNameWrongFalsely : Prop := fnExactStrokeNameRow.holds Tryd.pinned (OpenSpec.ofChange fnExactStrokeNameWrong)

/-- 'laws.FnExactTransferTo': WHATEVER THE INPUT: true; the input reads as it did. -/
def fnExactTransferToSpec : ChangeSpec := { name := "fnExactTransferTo", vars := ["loop.example/g00930/impl.errBell"], fn := fun _ => fun
  | [d1, d2, g1] => { results := [.lit (.bool true)], args := [d1, d2], vars := [g1] }
  | _ => none }
def fnExactTransferToRow : OpenClaim := { program := "ytlahobdopmdfmaadoor", sum := "5160bd6bbf7caf0d0538cdd6ee7ab467619090251e8cd70abc4fa31058e181d7", func := "loop.example/g00930/laws.FnExactTransferTo", spec := "fnExactTransferTo", inPlace := ["internal/reflectlite.TypeOf"], unfollowed := true, recurses := true, named := ["loop.example/g00930/impl.errBell"], ifaces := true, apart := false, laid := [("loop.example/g00930/impl.errBell", laid_loop_example_g00930_impl_errBell)] }
def FnExactTransferToSaid : Prop := fnExactTransferToRow.holds Tryd.pinned (OpenSpec.ofChange fnExactTransferToSpec)

/-- ITS FALSE NEIGHBOUR: 'it returns false'. Refute it at one input. -/
def fnExactTransferToWrong : ChangeSpec := { name := "fnExactTransferTo", vars := ["loop.example/g00930/impl.errBell"], fn := fun _ => fun
  | [d1, d2, g1] => { results := [.lit (.bool false)], args := [d1, d2], vars := [g1] }
  | _ => none }
def FnExactTransferToWrongFalsely : Prop := fnExactTransferToRow.holds Tryd.pinned (OpenSpec.ofChange fnExactTransferToWrong)

/- THE SECOND FORM. 'bulk': how many values and letters a reading holds, each counted each time it is reached (what is shared counts as often as it is met; a slice's spare places count too). A statement '..UptoSaid' is the law's where the arguments, and the package variables that the reading takes, are together of bulk at most 1048576: NARROWER than '..Said'. Prove '..Said' where nothing that the law and all that it calls make is longer than what came in: it says more and counts as full. Else prove '..UptoSaid'. A law counts once. -/
mutual
def uptoBulk {H : Type} : DataW H → Nat
  | .lit (.string bytes) => bytes.length + 1
  | .lit _ => 1
  | .nil => 1
  | .ptr d => uptoBulk d + 1
  | .slice elems spare => uptoBulkAll elems + uptoBulkAll spare + 1
  | .agg parts => uptoBulkAll parts + 1
  | .iface _ d => uptoBulk d + 1
  | .map entries => uptoBulkEntries entries + 1
  | .held _ => 1
def uptoBulkAll {H : Type} : List (DataW H) → Nat
  | [] => 0
  | d :: r => uptoBulk d + uptoBulkAll r
def uptoBulkEntries {H : Type} : List (Lit × DataW H) → Nat
  | [] => 0
  | x :: r => uptoBulkEntry x + uptoBulkEntries r
def uptoBulkEntry {H : Type} : Lit × DataW H → Nat
  | (.string bytes, d) => bytes.length + uptoBulk d + 1
  | (_, d) => uptoBulk d + 1
 end
def uptoSmall : (H : Type) → List (DataW H) → Bool := fun _ ds => decide (uptoBulkAll ds ≤ 1048576)
def OpenSpec.upto (s : _root_.Go.ChangeSpec) : _root_.Go.OpenSpec := { _root_.Go.OpenSpec.ofChange s with cond := some uptoSmall }

/-- 'laws.FnCounted', WHERE WHAT IT READS IS OF BULK AT MOST 1048576: true; the input reads as it did. -/
def fnCountedUptoRow : OpenClaim := { program := "ytlahobdopmdfmaadoor", sum := "5160bd6bbf7caf0d0538cdd6ee7ab467619090251e8cd70abc4fa31058e181d7", func := "loop.example/g00930/laws.FnCounted", spec := "fnCounted", unfollowed := true, recurses := true, named := ["loop.example/g00930/impl.errBell"], ifaces := true, apart := false, laid := [("loop.example/g00930/impl.errBell", laid_loop_example_g00930_impl_errBell)], narrowed := true }
def FnCountedUptoSaid : Prop := fnCountedUptoRow.holds Tryd.pinned (OpenSpec.upto fnCountedSpec)

/-- 'laws.FnAccumulators', WHERE WHAT IT READS IS OF BULK AT MOST 1048576: true; the input reads as it did. -/
def fnAccumulatorsUptoRow : OpenClaim := { program := "ytlahobdopmdfmaadoor", sum := "5160bd6bbf7caf0d0538cdd6ee7ab467619090251e8cd70abc4fa31058e181d7", func := "loop.example/g00930/laws.FnAccumulators", spec := "fnAccumulators", inPlace := ["internal/reflectlite.TypeOf"], unfollowed := true, recurses := true, named := ["loop.example/g00930/impl.errBell", "internal/strconv.uint64pow10", "math/bits.deBruijn32tab", "math/bits.deBruijn64tab"], ifaces := true, apart := false, laid := [("math/bits.deBruijn32tab", laid_math_bits_deBruijn32tab), ("math/bits.deBruijn64tab", laid_math_bits_deBruijn64tab), ("internal/strconv.uint64pow10", laid_internal_strconv_uint64pow10), ("loop.example/g00930/impl.errBell", laid_loop_example_g00930_impl_errBell)], narrowed := true }
def FnAccumulatorsUptoSaid : Prop := fnAccumulatorsUptoRow.holds Tryd.pinned (OpenSpec.upto fnAccumulatorsSpec)

/-- 'laws.FnAccumulated', WHERE WHAT IT READS IS OF BULK AT MOST 1048576: true; the input reads as it did. -/
def fnAccumulatedUptoRow : OpenClaim := { program := "ytlahobdopmdfmaadoor", sum := "5160bd6bbf7caf0d0538cdd6ee7ab467619090251e8cd70abc4fa31058e181d7", func := "loop.example/g00930/laws.FnAccumulated", spec := "fnAccumulated", inPlace := ["internal/reflectlite.TypeOf"], unfollowed := true, recurses := true, named := ["loop.example/g00930/impl.errBell"], ifaces := true, apart := false, laid := [("loop.example/g00930/impl.errBell", laid_loop_example_g00930_impl_errBell)], narrowed := true }
def FnAccumulatedUptoSaid : Prop := fnAccumulatedUptoRow.holds Tryd.pinned (OpenSpec.upto fnAccumulatedSpec)

/-- 'laws.FnExactNewMachine', WHERE WHAT IT READS IS OF BULK AT MOST 1048576: true; the input reads as it did. -/
def fnExactNewMachineUptoRow : OpenClaim := { program := "ytlahobdopmdfmaadoor", sum := "5160bd6bbf7caf0d0538cdd6ee7ab467619090251e8cd70abc4fa31058e181d7", func := "loop.example/g00930/laws.FnExactNewMachine", spec := "fnExactNewMachine", unfollowed := true, recurses := true, named := ["loop.example/g00930/impl.errBell"], ifaces := true, apart := false, laid := [("loop.example/g00930/impl.errBell", laid_loop_example_g00930_impl_errBell)], narrowed := true }
def FnExactNewMachineUptoSaid : Prop := fnExactNewMachineUptoRow.holds Tryd.pinned (OpenSpec.upto fnExactNewMachineSpec)

/-- 'laws.FnExactValidMachine', WHERE WHAT IT READS IS OF BULK AT MOST 1048576: true; the input reads as it did. -/
def fnExactValidMachineUptoRow : OpenClaim := { program := "ytlahobdopmdfmaadoor", sum := "5160bd6bbf7caf0d0538cdd6ee7ab467619090251e8cd70abc4fa31058e181d7", func := "loop.example/g00930/laws.FnExactValidMachine", spec := "fnExactValidMachine", unfollowed := true, recurses := true, named := ["loop.example/g00930/impl.errBell"], ifaces := true, apart := false, laid := [("loop.example/g00930/impl.errBell", laid_loop_example_g00930_impl_errBell)], narrowed := true }
def FnExactValidMachineUptoSaid : Prop := fnExactValidMachineUptoRow.holds Tryd.pinned (OpenSpec.upto fnExactValidMachineSpec)

/-- 'laws.FnExactSetValue', WHERE WHAT IT READS IS OF BULK AT MOST 1048576: true; the input reads as it did. -/
def fnExactSetValueUptoRow : OpenClaim := { program := "ytlahobdopmdfmaadoor", sum := "5160bd6bbf7caf0d0538cdd6ee7ab467619090251e8cd70abc4fa31058e181d7", func := "loop.example/g00930/laws.FnExactSetValue", spec := "fnExactSetValue", unfollowed := true, recurses := true, named := ["loop.example/g00930/impl.errBell"], ifaces := true, apart := false, laid := [("loop.example/g00930/impl.errBell", laid_loop_example_g00930_impl_errBell)], narrowed := true }
def FnExactSetValueUptoSaid : Prop := fnExactSetValueUptoRow.holds Tryd.pinned (OpenSpec.upto fnExactSetValueSpec)

/-- 'laws.FnExactSetDigit', WHERE WHAT IT READS IS OF BULK AT MOST 1048576: true; the input reads as it did. -/
def fnExactSetDigitUptoRow : OpenClaim := { program := "ytlahobdopmdfmaadoor", sum := "5160bd6bbf7caf0d0538cdd6ee7ab467619090251e8cd70abc4fa31058e181d7", func := "loop.example/g00930/laws.FnExactSetDigit", spec := "fnExactSetDigit", unfollowed := true, recurses := true, named := ["loop.example/g00930/impl.errBell"], ifaces := true, apart := false, laid := [("loop.example/g00930/impl.errBell", laid_loop_example_g00930_impl_errBell)], narrowed := true }
def FnExactSetDigitUptoSaid : Prop := fnExactSetDigitUptoRow.holds Tryd.pinned (OpenSpec.upto fnExactSetDigitSpec)

/-- 'laws.FnExactDoStroke', WHERE WHAT IT READS IS OF BULK AT MOST 1048576: true; the input reads as it did. -/
def fnExactDoStrokeUptoRow : OpenClaim := { program := "ytlahobdopmdfmaadoor", sum := "5160bd6bbf7caf0d0538cdd6ee7ab467619090251e8cd70abc4fa31058e181d7", func := "loop.example/g00930/laws.FnExactDoStroke", spec := "fnExactDoStroke", unfollowed := true, recurses := true, named := ["loop.example/g00930/impl.errBell"], ifaces := true, apart := false, laid := [("loop.example/g00930/impl.errBell", laid_loop_example_g00930_impl_errBell)], narrowed := true }
def FnExactDoStrokeUptoSaid : Prop := fnExactDoStrokeUptoRow.holds Tryd.pinned (OpenSpec.upto fnExactDoStrokeSpec)

/-- 'laws.FnExactDoStrokes', WHERE WHAT IT READS IS OF BULK AT MOST 1048576: true; the input reads as it did. -/
def fnExactDoStrokesUptoRow : OpenClaim := { program := "ytlahobdopmdfmaadoor", sum := "5160bd6bbf7caf0d0538cdd6ee7ab467619090251e8cd70abc4fa31058e181d7", func := "loop.example/g00930/laws.FnExactDoStrokes", spec := "fnExactDoStrokes", unfollowed := true, recurses := true, named := ["loop.example/g00930/impl.errBell"], ifaces := true, apart := false, laid := [("loop.example/g00930/impl.errBell", laid_loop_example_g00930_impl_errBell)], narrowed := true }
def FnExactDoStrokesUptoSaid : Prop := fnExactDoStrokesUptoRow.holds Tryd.pinned (OpenSpec.upto fnExactDoStrokesSpec)

/-- 'laws.FnExactPlacesOf', WHERE WHAT IT READS IS OF BULK AT MOST 1048576: true; the input reads as it did. -/
def fnExactPlacesOfUptoRow : OpenClaim := { program := "ytlahobdopmdfmaadoor", sum := "5160bd6bbf7caf0d0538cdd6ee7ab467619090251e8cd70abc4fa31058e181d7", func := "loop.example/g00930/laws.FnExactPlacesOf", spec := "fnExactPlacesOf", unfollowed := true, recurses := true, named := ["loop.example/g00930/impl.errBell"], ifaces := true, apart := false, laid := [("loop.example/g00930/impl.errBell", laid_loop_example_g00930_impl_errBell)], narrowed := true }
def FnExactPlacesOfUptoSaid : Prop := fnExactPlacesOfUptoRow.holds Tryd.pinned (OpenSpec.upto fnExactPlacesOfSpec)

/-- 'laws.FnExactMachineText', WHERE WHAT IT READS IS OF BULK AT MOST 1048576: true; the input reads as it did. -/
def fnExactMachineTextUptoRow : OpenClaim := { program := "ytlahobdopmdfmaadoor", sum := "5160bd6bbf7caf0d0538cdd6ee7ab467619090251e8cd70abc4fa31058e181d7", func := "loop.example/g00930/laws.FnExactMachineText", spec := "fnExactMachineText", inPlace := ["internal/abi.NoEscape", "internal/bytealg.MakeNoZero"], unfollowed := true, recurses := true, named := ["loop.example/g00930/impl.errBell", "internal/strconv.uint64pow10", "math/bits.deBruijn32tab", "math/bits.deBruijn64tab"], ifaces := true, apart := false, laid := [("math/bits.deBruijn32tab", laid_math_bits_deBruijn32tab), ("math/bits.deBruijn64tab", laid_math_bits_deBruijn64tab), ("internal/strconv.uint64pow10", laid_internal_strconv_uint64pow10), ("loop.example/g00930/impl.errBell", laid_loop_example_g00930_impl_errBell)], narrowed := true }
def FnExactMachineTextUptoSaid : Prop := fnExactMachineTextUptoRow.holds Tryd.pinned (OpenSpec.upto fnExactMachineTextSpec)

/-- 'laws.FnExactStrokeName', WHERE WHAT IT READS IS OF BULK AT MOST 1048576: true; the input reads as it did. -/
def fnExactStrokeNameUptoRow : OpenClaim := { program := "ytlahobdopmdfmaadoor", sum := "5160bd6bbf7caf0d0538cdd6ee7ab467619090251e8cd70abc4fa31058e181d7", func := "loop.example/g00930/laws.FnExactStrokeName", spec := "fnExactStrokeName", named := ["loop.example/g00930/impl.strokeNames"], apart := false, laid := [("loop.example/g00930/impl.strokeNames", laid_loop_example_g00930_impl_strokeNames)], narrowed := true }
def FnExactStrokeNameUptoSaid : Prop := fnExactStrokeNameUptoRow.holds Tryd.pinned (OpenSpec.upto fnExactStrokeNameSpec)

/-- 'laws.FnExactTransferTo', WHERE WHAT IT READS IS OF BULK AT MOST 1048576: true; the input reads as it did. -/
def fnExactTransferToUptoRow : OpenClaim := { program := "ytlahobdopmdfmaadoor", sum := "5160bd6bbf7caf0d0538cdd6ee7ab467619090251e8cd70abc4fa31058e181d7", func := "loop.example/g00930/laws.FnExactTransferTo", spec := "fnExactTransferTo", inPlace := ["internal/reflectlite.TypeOf"], unfollowed := true, recurses := true, named := ["loop.example/g00930/impl.errBell"], ifaces := true, apart := false, laid := [("loop.example/g00930/impl.errBell", laid_loop_example_g00930_impl_errBell)], narrowed := true }
def FnExactTransferToUptoSaid : Prop := fnExactTransferToUptoRow.holds Tryd.pinned (OpenSpec.upto fnExactTransferToSpec)

end Rows
end Go.Proofs.YtlahobdopmdfmaaDoor
