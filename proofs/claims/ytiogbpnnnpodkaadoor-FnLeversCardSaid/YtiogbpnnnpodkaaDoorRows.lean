/-
  NARROWER THAN 'FOR EVERY INPUT', by the rows' own cells (each row's printed sentence says how): FnExactSetAccumulator: ifaces, laid · FnExactNumberOf: ifaces, laid · FnExactNegateAccumulator: ifaces, laid · FnExactAccumulateNumber: ifaces, laid · FnExactAccumulateAll: ifaces, laid · FnExactTransferTo: ifaces, laid · FnExactWidenAccumulator: ifaces, laid · FnExactAccumulatorText: ifaces, laid · FnAccumulators: ifaces, laid · FnAccumulated: ifaces, laid · FnLevers: laid.
  DERIVED. THE GIVEN ROWS OF THIS SEAT. 11 by the template 'for every input the law returns true; each argument reads behind the call as it read before'; 0 by the template 'total and deterministic' (their statements: YtiogbpnnnpodkaaDoorTotals.lean).
  GIVEN WITH THE SEED: the statements are not yours to turn. If you find one false, say at which input.
  Laid BY PROGRAM, IN A SANDBOX (cutbox-rows.mjs): the forced cells as the released guide's own fill.sh prints them over the translation 464b5a2bed855a0a… (all of the seat's roots in one cut). By AI agents, Wed Nov 11 2026. No macro, syntax, notation, axiom, sorry.
-/
import Derived.Test.YtiogbpnnnpodkaaDoorChecked
import GoSem.Claim
import GoSem.ClaimJoined
import GoSem.ClaimMapViews
import Derived.JoinedTies
import Derived.KernelRfl
namespace Go.Proofs.YtiogbpnnnpodkaaDoor
/- THE CELL 'sum', in the pinned program and in every row, IS THE sha256 OF THE DUMP (.gsa) THAT YtiogbpnnnpodkaaDoorProg.lean LOADS. Nothing in Lean hashes anything: it is a label: what it is worth is what the hold of that sum in a sandbox is worth. -/
noncomputable def Tryd.pinned : Pinned := { name := "ytiogbpnnnpodkaadoor", sum := "464b5a2bed855a0a6565681a9e0900d2c3ff2436e4ae680b6e59d5d9c7bcd9fb", checked := Tryd.checked }
namespace Rows
def none {H : Type} : Left H := { results := [], args := [] }

/- WHAT THE LISTED PACKAGE-LEVEL VARIABLES READ AS WHEN THE CALL BEGINS. Each datum BY PROGRAM (the guide's laid-datum.mjs) off the statement by which the dump's own 'gosem.cut.vars' lays the variable. In a bare row this is a premise. The card (YtiogbpnnnpodkaaDoorCards.lean) ties it to the program's text. -/
def laid_loop_example_g00930_impl_errBell {H : Type} : DataW H := .iface "*errors.errorString" (.ptr (.agg [.lit (.string [116, 104, 101, 32, 98, 101, 108, 108, 32, 114, 105, 110, 103, 115])]))
def laid_math_bits_deBruijn32tab {H : Type} : DataW H := .agg [.lit (.int .u8 0), .lit (.int .u8 1), .lit (.int .u8 28), .lit (.int .u8 2), .lit (.int .u8 29), .lit (.int .u8 14), .lit (.int .u8 24), .lit (.int .u8 3), .lit (.int .u8 30), .lit (.int .u8 22), .lit (.int .u8 20), .lit (.int .u8 15), .lit (.int .u8 25), .lit (.int .u8 17), .lit (.int .u8 4), .lit (.int .u8 8), .lit (.int .u8 31), .lit (.int .u8 27), .lit (.int .u8 13), .lit (.int .u8 23), .lit (.int .u8 21), .lit (.int .u8 19), .lit (.int .u8 16), .lit (.int .u8 7), .lit (.int .u8 26), .lit (.int .u8 12), .lit (.int .u8 18), .lit (.int .u8 6), .lit (.int .u8 11), .lit (.int .u8 5), .lit (.int .u8 10), .lit (.int .u8 9)]
def laid_math_bits_deBruijn64tab {H : Type} : DataW H := .agg [.lit (.int .u8 0), .lit (.int .u8 1), .lit (.int .u8 56), .lit (.int .u8 2), .lit (.int .u8 57), .lit (.int .u8 49), .lit (.int .u8 28), .lit (.int .u8 3), .lit (.int .u8 61), .lit (.int .u8 58), .lit (.int .u8 42), .lit (.int .u8 50), .lit (.int .u8 38), .lit (.int .u8 29), .lit (.int .u8 17), .lit (.int .u8 4), .lit (.int .u8 62), .lit (.int .u8 47), .lit (.int .u8 59), .lit (.int .u8 36), .lit (.int .u8 45), .lit (.int .u8 43), .lit (.int .u8 51), .lit (.int .u8 22), .lit (.int .u8 53), .lit (.int .u8 39), .lit (.int .u8 33), .lit (.int .u8 30), .lit (.int .u8 24), .lit (.int .u8 18), .lit (.int .u8 12), .lit (.int .u8 5), .lit (.int .u8 63), .lit (.int .u8 55), .lit (.int .u8 48), .lit (.int .u8 27), .lit (.int .u8 60), .lit (.int .u8 41), .lit (.int .u8 37), .lit (.int .u8 16), .lit (.int .u8 46), .lit (.int .u8 35), .lit (.int .u8 44), .lit (.int .u8 21), .lit (.int .u8 52), .lit (.int .u8 32), .lit (.int .u8 23), .lit (.int .u8 11), .lit (.int .u8 54), .lit (.int .u8 26), .lit (.int .u8 40), .lit (.int .u8 15), .lit (.int .u8 34), .lit (.int .u8 20), .lit (.int .u8 31), .lit (.int .u8 10), .lit (.int .u8 25), .lit (.int .u8 14), .lit (.int .u8 19), .lit (.int .u8 9), .lit (.int .u8 13), .lit (.int .u8 8), .lit (.int .u8 7), .lit (.int .u8 6)]
def laid_internal_strconv_uint64pow10 {H : Type} : DataW H := .agg [.lit (.int .u64 1), .lit (.int .u64 10), .lit (.int .u64 100), .lit (.int .u64 1000), .lit (.int .u64 10000), .lit (.int .u64 100000), .lit (.int .u64 1000000), .lit (.int .u64 10000000), .lit (.int .u64 100000000), .lit (.int .u64 1000000000), .lit (.int .u64 10000000000), .lit (.int .u64 100000000000), .lit (.int .u64 1000000000000), .lit (.int .u64 10000000000000), .lit (.int .u64 100000000000000), .lit (.int .u64 1000000000000000), .lit (.int .u64 10000000000000000), .lit (.int .u64 100000000000000000), .lit (.int .u64 1000000000000000000), .lit (.int .u64 10000000000000000000)]
def laid_strconv_ErrRange {H : Type} : DataW H := .iface "*errors.errorString" (.ptr (.agg [.lit (.string [118, 97, 108, 117, 101, 32, 111, 117, 116, 32, 111, 102, 32, 114, 97, 110, 103, 101])]))
def laid_strconv_ErrSyntax {H : Type} : DataW H := .iface "*errors.errorString" (.ptr (.agg [.lit (.string [105, 110, 118, 97, 108, 105, 100, 32, 115, 121, 110, 116, 97, 120])]))
def laid_loop_example_g00930_impl_faultWords {H : Type} : DataW H := .agg [.lit (.string []), .lit (.string [109, 105, 115, 115, 105, 110, 103]), .lit (.string [115, 116, 117, 99, 107]), .lit (.string [108, 97, 116, 101])]

/-- 'laws.FnExactSetAccumulator': WHATEVER THE INPUT: true; the input reads as it did. -/
def fnExactSetAccumulatorSpec : ChangeSpec := { name := "fnExactSetAccumulator", vars := ["loop.example/g00930/impl.errBell"], fn := fun _ => fun
  | [d1, d2, d3, g1] => { results := [.lit (.bool true)], args := [d1, d2, d3], vars := [g1] }
  | _ => none }
def fnExactSetAccumulatorRow : OpenClaim := { program := "ytiogbpnnnpodkaadoor", sum := "464b5a2bed855a0a6565681a9e0900d2c3ff2436e4ae680b6e59d5d9c7bcd9fb", func := "loop.example/g00930/laws.FnExactSetAccumulator", spec := "fnExactSetAccumulator", inPlace := ["internal/reflectlite.TypeOf"], unfollowed := true, recurses := true, named := ["loop.example/g00930/impl.errBell"], ifaces := true, apart := false, laid := [("loop.example/g00930/impl.errBell", laid_loop_example_g00930_impl_errBell)] }
def FnExactSetAccumulatorSaid : Prop := fnExactSetAccumulatorRow.holds Tryd.pinned (OpenSpec.ofChange fnExactSetAccumulatorSpec)

/-- ITS FALSE NEIGHBOUR: 'it returns false'. Refute it at one input. -/
def fnExactSetAccumulatorWrong : ChangeSpec := { name := "fnExactSetAccumulator", vars := ["loop.example/g00930/impl.errBell"], fn := fun _ => fun
  | [d1, d2, d3, g1] => { results := [.lit (.bool false)], args := [d1, d2, d3], vars := [g1] }
  | _ => none }
def FnExactSetAccumulatorWrongFalsely : Prop := fnExactSetAccumulatorRow.holds Tryd.pinned (OpenSpec.ofChange fnExactSetAccumulatorWrong)

/-- 'laws.FnExactNumberOf': WHATEVER THE INPUT: true; the input reads as it did. -/
def fnExactNumberOfSpec : ChangeSpec := { name := "fnExactNumberOf", vars := ["loop.example/g00930/impl.errBell"], fn := fun _ => fun
  | [d, g1] => { results := [.lit (.bool true)], args := [d], vars := [g1] }
  | _ => none }
def fnExactNumberOfRow : OpenClaim := { program := "ytiogbpnnnpodkaadoor", sum := "464b5a2bed855a0a6565681a9e0900d2c3ff2436e4ae680b6e59d5d9c7bcd9fb", func := "loop.example/g00930/laws.FnExactNumberOf", spec := "fnExactNumberOf", unfollowed := true, recurses := true, named := ["loop.example/g00930/impl.errBell"], ifaces := true, apart := false, laid := [("loop.example/g00930/impl.errBell", laid_loop_example_g00930_impl_errBell)] }
def FnExactNumberOfSaid : Prop := fnExactNumberOfRow.holds Tryd.pinned (OpenSpec.ofChange fnExactNumberOfSpec)

/-- ITS FALSE NEIGHBOUR: 'it returns false'. Refute it at one input. -/
def fnExactNumberOfWrong : ChangeSpec := { name := "fnExactNumberOf", vars := ["loop.example/g00930/impl.errBell"], fn := fun _ => fun
  | [d, g1] => { results := [.lit (.bool false)], args := [d], vars := [g1] }
  | _ => none }
def FnExactNumberOfWrongFalsely : Prop := fnExactNumberOfRow.holds Tryd.pinned (OpenSpec.ofChange fnExactNumberOfWrong)

/-- 'laws.FnExactNegateAccumulator': WHATEVER THE INPUT: true; the input reads as it did. -/
def fnExactNegateAccumulatorSpec : ChangeSpec := { name := "fnExactNegateAccumulator", vars := ["loop.example/g00930/impl.errBell"], fn := fun _ => fun
  | [d, g1] => { results := [.lit (.bool true)], args := [d], vars := [g1] }
  | _ => none }
def fnExactNegateAccumulatorRow : OpenClaim := { program := "ytiogbpnnnpodkaadoor", sum := "464b5a2bed855a0a6565681a9e0900d2c3ff2436e4ae680b6e59d5d9c7bcd9fb", func := "loop.example/g00930/laws.FnExactNegateAccumulator", spec := "fnExactNegateAccumulator", inPlace := ["internal/reflectlite.TypeOf"], unfollowed := true, recurses := true, named := ["loop.example/g00930/impl.errBell"], ifaces := true, apart := false, laid := [("loop.example/g00930/impl.errBell", laid_loop_example_g00930_impl_errBell)] }
def FnExactNegateAccumulatorSaid : Prop := fnExactNegateAccumulatorRow.holds Tryd.pinned (OpenSpec.ofChange fnExactNegateAccumulatorSpec)

/-- ITS FALSE NEIGHBOUR: 'it returns false'. Refute it at one input. -/
def fnExactNegateAccumulatorWrong : ChangeSpec := { name := "fnExactNegateAccumulator", vars := ["loop.example/g00930/impl.errBell"], fn := fun _ => fun
  | [d, g1] => { results := [.lit (.bool false)], args := [d], vars := [g1] }
  | _ => none }
def FnExactNegateAccumulatorWrongFalsely : Prop := fnExactNegateAccumulatorRow.holds Tryd.pinned (OpenSpec.ofChange fnExactNegateAccumulatorWrong)

/-- 'laws.FnExactAccumulateNumber': WHATEVER THE INPUT: true; the input reads as it did. -/
def fnExactAccumulateNumberSpec : ChangeSpec := { name := "fnExactAccumulateNumber", vars := ["loop.example/g00930/impl.errBell"], fn := fun _ => fun
  | [d1, d2, g1] => { results := [.lit (.bool true)], args := [d1, d2], vars := [g1] }
  | _ => none }
def fnExactAccumulateNumberRow : OpenClaim := { program := "ytiogbpnnnpodkaadoor", sum := "464b5a2bed855a0a6565681a9e0900d2c3ff2436e4ae680b6e59d5d9c7bcd9fb", func := "loop.example/g00930/laws.FnExactAccumulateNumber", spec := "fnExactAccumulateNumber", inPlace := ["internal/reflectlite.TypeOf"], unfollowed := true, recurses := true, named := ["loop.example/g00930/impl.errBell"], ifaces := true, apart := false, laid := [("loop.example/g00930/impl.errBell", laid_loop_example_g00930_impl_errBell)] }
def FnExactAccumulateNumberSaid : Prop := fnExactAccumulateNumberRow.holds Tryd.pinned (OpenSpec.ofChange fnExactAccumulateNumberSpec)

/-- ITS FALSE NEIGHBOUR: 'it returns false'. Refute it at one input. -/
def fnExactAccumulateNumberWrong : ChangeSpec := { name := "fnExactAccumulateNumber", vars := ["loop.example/g00930/impl.errBell"], fn := fun _ => fun
  | [d1, d2, g1] => { results := [.lit (.bool false)], args := [d1, d2], vars := [g1] }
  | _ => none }
def FnExactAccumulateNumberWrongFalsely : Prop := fnExactAccumulateNumberRow.holds Tryd.pinned (OpenSpec.ofChange fnExactAccumulateNumberWrong)

/-- 'laws.FnExactAccumulateAll': WHATEVER THE INPUT: true; the input reads as it did. -/
def fnExactAccumulateAllSpec : ChangeSpec := { name := "fnExactAccumulateAll", vars := ["loop.example/g00930/impl.errBell"], fn := fun _ => fun
  | [d1, d2, g1] => { results := [.lit (.bool true)], args := [d1, d2], vars := [g1] }
  | _ => none }
def fnExactAccumulateAllRow : OpenClaim := { program := "ytiogbpnnnpodkaadoor", sum := "464b5a2bed855a0a6565681a9e0900d2c3ff2436e4ae680b6e59d5d9c7bcd9fb", func := "loop.example/g00930/laws.FnExactAccumulateAll", spec := "fnExactAccumulateAll", inPlace := ["internal/reflectlite.TypeOf"], unfollowed := true, recurses := true, named := ["loop.example/g00930/impl.errBell"], ifaces := true, apart := false, laid := [("loop.example/g00930/impl.errBell", laid_loop_example_g00930_impl_errBell)] }
def FnExactAccumulateAllSaid : Prop := fnExactAccumulateAllRow.holds Tryd.pinned (OpenSpec.ofChange fnExactAccumulateAllSpec)

/-- ITS FALSE NEIGHBOUR: 'it returns false'. Refute it at one input. -/
def fnExactAccumulateAllWrong : ChangeSpec := { name := "fnExactAccumulateAll", vars := ["loop.example/g00930/impl.errBell"], fn := fun _ => fun
  | [d1, d2, g1] => { results := [.lit (.bool false)], args := [d1, d2], vars := [g1] }
  | _ => none }
def FnExactAccumulateAllWrongFalsely : Prop := fnExactAccumulateAllRow.holds Tryd.pinned (OpenSpec.ofChange fnExactAccumulateAllWrong)

/-- 'laws.FnExactTransferTo': WHATEVER THE INPUT: true; the input reads as it did. -/
def fnExactTransferToSpec : ChangeSpec := { name := "fnExactTransferTo", vars := ["loop.example/g00930/impl.errBell"], fn := fun _ => fun
  | [d1, d2, g1] => { results := [.lit (.bool true)], args := [d1, d2], vars := [g1] }
  | _ => none }
def fnExactTransferToRow : OpenClaim := { program := "ytiogbpnnnpodkaadoor", sum := "464b5a2bed855a0a6565681a9e0900d2c3ff2436e4ae680b6e59d5d9c7bcd9fb", func := "loop.example/g00930/laws.FnExactTransferTo", spec := "fnExactTransferTo", inPlace := ["internal/reflectlite.TypeOf"], unfollowed := true, recurses := true, named := ["loop.example/g00930/impl.errBell"], ifaces := true, apart := false, laid := [("loop.example/g00930/impl.errBell", laid_loop_example_g00930_impl_errBell)] }
def FnExactTransferToSaid : Prop := fnExactTransferToRow.holds Tryd.pinned (OpenSpec.ofChange fnExactTransferToSpec)

/-- ITS FALSE NEIGHBOUR: 'it returns false'. Refute it at one input. -/
def fnExactTransferToWrong : ChangeSpec := { name := "fnExactTransferTo", vars := ["loop.example/g00930/impl.errBell"], fn := fun _ => fun
  | [d1, d2, g1] => { results := [.lit (.bool false)], args := [d1, d2], vars := [g1] }
  | _ => none }
def FnExactTransferToWrongFalsely : Prop := fnExactTransferToRow.holds Tryd.pinned (OpenSpec.ofChange fnExactTransferToWrong)

/-- 'laws.FnExactWidenAccumulator': WHATEVER THE INPUT: true; the input reads as it did. -/
def fnExactWidenAccumulatorSpec : ChangeSpec := { name := "fnExactWidenAccumulator", vars := ["loop.example/g00930/impl.errBell"], fn := fun _ => fun
  | [d1, d2, g1] => { results := [.lit (.bool true)], args := [d1, d2], vars := [g1] }
  | _ => none }
def fnExactWidenAccumulatorRow : OpenClaim := { program := "ytiogbpnnnpodkaadoor", sum := "464b5a2bed855a0a6565681a9e0900d2c3ff2436e4ae680b6e59d5d9c7bcd9fb", func := "loop.example/g00930/laws.FnExactWidenAccumulator", spec := "fnExactWidenAccumulator", unfollowed := true, recurses := true, named := ["loop.example/g00930/impl.errBell"], ifaces := true, apart := false, laid := [("loop.example/g00930/impl.errBell", laid_loop_example_g00930_impl_errBell)] }
def FnExactWidenAccumulatorSaid : Prop := fnExactWidenAccumulatorRow.holds Tryd.pinned (OpenSpec.ofChange fnExactWidenAccumulatorSpec)

/-- ITS FALSE NEIGHBOUR: 'it returns false'. Refute it at one input. -/
def fnExactWidenAccumulatorWrong : ChangeSpec := { name := "fnExactWidenAccumulator", vars := ["loop.example/g00930/impl.errBell"], fn := fun _ => fun
  | [d1, d2, g1] => { results := [.lit (.bool false)], args := [d1, d2], vars := [g1] }
  | _ => none }
def FnExactWidenAccumulatorWrongFalsely : Prop := fnExactWidenAccumulatorRow.holds Tryd.pinned (OpenSpec.ofChange fnExactWidenAccumulatorWrong)

/-- 'laws.FnExactAccumulatorText': WHATEVER THE INPUT: true; the input reads as it did. -/
def fnExactAccumulatorTextSpec : ChangeSpec := { name := "fnExactAccumulatorText", vars := ["loop.example/g00930/impl.errBell"], fn := fun _ => fun
  | [d, g1] => { results := [.lit (.bool true)], args := [d], vars := [g1] }
  | _ => none }
def fnExactAccumulatorTextRow : OpenClaim := { program := "ytiogbpnnnpodkaadoor", sum := "464b5a2bed855a0a6565681a9e0900d2c3ff2436e4ae680b6e59d5d9c7bcd9fb", func := "loop.example/g00930/laws.FnExactAccumulatorText", spec := "fnExactAccumulatorText", unfollowed := true, recurses := true, named := ["loop.example/g00930/impl.errBell", "internal/strconv.uint64pow10", "math/bits.deBruijn32tab", "math/bits.deBruijn64tab"], ifaces := true, apart := false, laid := [("math/bits.deBruijn32tab", laid_math_bits_deBruijn32tab), ("math/bits.deBruijn64tab", laid_math_bits_deBruijn64tab), ("internal/strconv.uint64pow10", laid_internal_strconv_uint64pow10), ("loop.example/g00930/impl.errBell", laid_loop_example_g00930_impl_errBell)] }
def FnExactAccumulatorTextSaid : Prop := fnExactAccumulatorTextRow.holds Tryd.pinned (OpenSpec.ofChange fnExactAccumulatorTextSpec)

/-- ITS FALSE NEIGHBOUR: 'it returns false'. Refute it at one input. -/
def fnExactAccumulatorTextWrong : ChangeSpec := { name := "fnExactAccumulatorText", vars := ["loop.example/g00930/impl.errBell"], fn := fun _ => fun
  | [d, g1] => { results := [.lit (.bool false)], args := [d], vars := [g1] }
  | _ => none }
def FnExactAccumulatorTextWrongFalsely : Prop := fnExactAccumulatorTextRow.holds Tryd.pinned (OpenSpec.ofChange fnExactAccumulatorTextWrong)

/-- 'laws.FnAccumulators': WHATEVER THE INPUT: true; the input reads as it did. -/
def fnAccumulatorsSpec : ChangeSpec := { name := "fnAccumulators", vars := ["loop.example/g00930/impl.errBell"], fn := fun _ => fun
  | [d, g1] => { results := [.lit (.bool true)], args := [d], vars := [g1] }
  | _ => none }
def fnAccumulatorsRow : OpenClaim := { program := "ytiogbpnnnpodkaadoor", sum := "464b5a2bed855a0a6565681a9e0900d2c3ff2436e4ae680b6e59d5d9c7bcd9fb", func := "loop.example/g00930/laws.FnAccumulators", spec := "fnAccumulators", inPlace := ["internal/reflectlite.TypeOf"], unfollowed := true, recurses := true, named := ["loop.example/g00930/impl.errBell", "internal/strconv.uint64pow10", "math/bits.deBruijn32tab", "math/bits.deBruijn64tab"], ifaces := true, apart := false, laid := [("math/bits.deBruijn32tab", laid_math_bits_deBruijn32tab), ("math/bits.deBruijn64tab", laid_math_bits_deBruijn64tab), ("internal/strconv.uint64pow10", laid_internal_strconv_uint64pow10), ("loop.example/g00930/impl.errBell", laid_loop_example_g00930_impl_errBell)] }
def FnAccumulatorsSaid : Prop := fnAccumulatorsRow.holds Tryd.pinned (OpenSpec.ofChange fnAccumulatorsSpec)

/-- ITS FALSE NEIGHBOUR: 'it returns false'. Refute it at one input. -/
def fnAccumulatorsWrong : ChangeSpec := { name := "fnAccumulators", vars := ["loop.example/g00930/impl.errBell"], fn := fun _ => fun
  | [d, g1] => { results := [.lit (.bool false)], args := [d], vars := [g1] }
  | _ => none }
def FnAccumulatorsWrongFalsely : Prop := fnAccumulatorsRow.holds Tryd.pinned (OpenSpec.ofChange fnAccumulatorsWrong)

/-- 'laws.FnAccumulated': WHATEVER THE INPUT: true; the input reads as it did. -/
def fnAccumulatedSpec : ChangeSpec := { name := "fnAccumulated", vars := ["loop.example/g00930/impl.errBell"], fn := fun _ => fun
  | [d, g1] => { results := [.lit (.bool true)], args := [d], vars := [g1] }
  | _ => none }
def fnAccumulatedRow : OpenClaim := { program := "ytiogbpnnnpodkaadoor", sum := "464b5a2bed855a0a6565681a9e0900d2c3ff2436e4ae680b6e59d5d9c7bcd9fb", func := "loop.example/g00930/laws.FnAccumulated", spec := "fnAccumulated", inPlace := ["internal/reflectlite.TypeOf"], unfollowed := true, recurses := true, named := ["loop.example/g00930/impl.errBell"], ifaces := true, apart := false, laid := [("loop.example/g00930/impl.errBell", laid_loop_example_g00930_impl_errBell)] }
def FnAccumulatedSaid : Prop := fnAccumulatedRow.holds Tryd.pinned (OpenSpec.ofChange fnAccumulatedSpec)

/-- ITS FALSE NEIGHBOUR: 'it returns false'. Refute it at one input. -/
def fnAccumulatedWrong : ChangeSpec := { name := "fnAccumulated", vars := ["loop.example/g00930/impl.errBell"], fn := fun _ => fun
  | [d, g1] => { results := [.lit (.bool false)], args := [d], vars := [g1] }
  | _ => none }
def FnAccumulatedWrongFalsely : Prop := fnAccumulatedRow.holds Tryd.pinned (OpenSpec.ofChange fnAccumulatedWrong)

/-- 'laws.FnLevers': WHATEVER THE INPUT: true; the input reads as it did. -/
def fnLeversSpec : ChangeSpec := { name := "fnLevers", vars := ["loop.example/g00930/impl.faultWords"], fn := fun _ => fun
  | [d1, d2, g1] => { results := [.lit (.bool true)], args := [d1, d2], vars := [g1] }
  | _ => none }
def fnLeversRow : OpenClaim := { program := "ytiogbpnnnpodkaadoor", sum := "464b5a2bed855a0a6565681a9e0900d2c3ff2436e4ae680b6e59d5d9c7bcd9fb", func := "loop.example/g00930/laws.FnLevers", spec := "fnLevers", inPlace := ["internal/bytealg.IndexByteString", "internal/bytealg.IndexString"], unfollowed := true, recurses := true, named := ["loop.example/g00930/impl.faultWords", "internal/strconv.uint64pow10", "math/bits.deBruijn32tab", "math/bits.deBruijn64tab", "internal/bytealg.MaxLen", "strconv.ErrSyntax", "strconv.ErrRange"], apart := false, laid := [("math/bits.deBruijn32tab", laid_math_bits_deBruijn32tab), ("math/bits.deBruijn64tab", laid_math_bits_deBruijn64tab), ("internal/strconv.uint64pow10", laid_internal_strconv_uint64pow10), ("strconv.ErrRange", laid_strconv_ErrRange), ("strconv.ErrSyntax", laid_strconv_ErrSyntax), ("loop.example/g00930/impl.faultWords", laid_loop_example_g00930_impl_faultWords)] }
def FnLeversSaid : Prop := fnLeversRow.holds Tryd.pinned (OpenSpec.ofChange fnLeversSpec)

/-- ITS FALSE NEIGHBOUR: 'it returns false'. Refute it at one input. -/
def fnLeversWrong : ChangeSpec := { name := "fnLevers", vars := ["loop.example/g00930/impl.faultWords"], fn := fun _ => fun
  | [d1, d2, g1] => { results := [.lit (.bool false)], args := [d1, d2], vars := [g1] }
  | _ => none }
def FnLeversWrongFalsely : Prop := fnLeversRow.holds Tryd.pinned (OpenSpec.ofChange fnLeversWrong)

/- THE SECOND FORM. 'bulk': how many values and letters a reading holds, each counted each time it is reached (what is shared counts as often as it is met; a slice's spare places count too). A statement '..UptoSaid' is the law's where the arguments, and the package variables that the reading takes, are together of bulk at most 1048576: NARROWER than '..Said'. Prove '..Said' where nothing that the law and all that it calls make is longer than what came in: it says more and counts as full. Else prove '..UptoSaid'. A law counts once. -/
mutual
def uptoBulk {H : Type} : DataW H → Nat
  | .lit (.string bytes) => bytes.length + 1
  | .lit _ => 1
  | .nil => 1
  | .ptr d => uptoBulk d + 1
  | .slice elems spare => uptoBulkAll elems + uptoBulkAll spare + 1
  | .agg parts => uptoBulkAll parts + 1
  | .iface _ d => uptoBulk d + 1
  | .map entries => uptoBulkEntries entries + 1
  | .held _ => 1
def uptoBulkAll {H : Type} : List (DataW H) → Nat
  | [] => 0
  | d :: r => uptoBulk d + uptoBulkAll r
def uptoBulkEntries {H : Type} : List (Lit × DataW H) → Nat
  | [] => 0
  | x :: r => uptoBulkEntry x + uptoBulkEntries r
def uptoBulkEntry {H : Type} : Lit × DataW H → Nat
  | (.string bytes, d) => bytes.length + uptoBulk d + 1
  | (_, d) => uptoBulk d + 1
 end
def uptoSmall : (H : Type) → List (DataW H) → Bool := fun _ ds => decide (uptoBulkAll ds ≤ 1048576)
def OpenSpec.upto (s : _root_.Go.ChangeSpec) : _root_.Go.OpenSpec := { _root_.Go.OpenSpec.ofChange s with cond := some uptoSmall }

/-- 'laws.FnExactSetAccumulator', WHERE WHAT IT READS IS OF BULK AT MOST 1048576: true; the input reads as it did. -/
def fnExactSetAccumulatorUptoRow : OpenClaim := { program := "ytiogbpnnnpodkaadoor", sum := "464b5a2bed855a0a6565681a9e0900d2c3ff2436e4ae680b6e59d5d9c7bcd9fb", func := "loop.example/g00930/laws.FnExactSetAccumulator", spec := "fnExactSetAccumulator", inPlace := ["internal/reflectlite.TypeOf"], unfollowed := true, recurses := true, named := ["loop.example/g00930/impl.errBell"], ifaces := true, apart := false, laid := [("loop.example/g00930/impl.errBell", laid_loop_example_g00930_impl_errBell)], narrowed := true }
def FnExactSetAccumulatorUptoSaid : Prop := fnExactSetAccumulatorUptoRow.holds Tryd.pinned (OpenSpec.upto fnExactSetAccumulatorSpec)

/-- 'laws.FnExactNumberOf', WHERE WHAT IT READS IS OF BULK AT MOST 1048576: true; the input reads as it did. -/
def fnExactNumberOfUptoRow : OpenClaim := { program := "ytiogbpnnnpodkaadoor", sum := "464b5a2bed855a0a6565681a9e0900d2c3ff2436e4ae680b6e59d5d9c7bcd9fb", func := "loop.example/g00930/laws.FnExactNumberOf", spec := "fnExactNumberOf", unfollowed := true, recurses := true, named := ["loop.example/g00930/impl.errBell"], ifaces := true, apart := false, laid := [("loop.example/g00930/impl.errBell", laid_loop_example_g00930_impl_errBell)], narrowed := true }
def FnExactNumberOfUptoSaid : Prop := fnExactNumberOfUptoRow.holds Tryd.pinned (OpenSpec.upto fnExactNumberOfSpec)

/-- 'laws.FnExactNegateAccumulator', WHERE WHAT IT READS IS OF BULK AT MOST 1048576: true; the input reads as it did. -/
def fnExactNegateAccumulatorUptoRow : OpenClaim := { program := "ytiogbpnnnpodkaadoor", sum := "464b5a2bed855a0a6565681a9e0900d2c3ff2436e4ae680b6e59d5d9c7bcd9fb", func := "loop.example/g00930/laws.FnExactNegateAccumulator", spec := "fnExactNegateAccumulator", inPlace := ["internal/reflectlite.TypeOf"], unfollowed := true, recurses := true, named := ["loop.example/g00930/impl.errBell"], ifaces := true, apart := false, laid := [("loop.example/g00930/impl.errBell", laid_loop_example_g00930_impl_errBell)], narrowed := true }
def FnExactNegateAccumulatorUptoSaid : Prop := fnExactNegateAccumulatorUptoRow.holds Tryd.pinned (OpenSpec.upto fnExactNegateAccumulatorSpec)

/-- 'laws.FnExactAccumulateNumber', WHERE WHAT IT READS IS OF BULK AT MOST 1048576: true; the input reads as it did. -/
def fnExactAccumulateNumberUptoRow : OpenClaim := { program := "ytiogbpnnnpodkaadoor", sum := "464b5a2bed855a0a6565681a9e0900d2c3ff2436e4ae680b6e59d5d9c7bcd9fb", func := "loop.example/g00930/laws.FnExactAccumulateNumber", spec := "fnExactAccumulateNumber", inPlace := ["internal/reflectlite.TypeOf"], unfollowed := true, recurses := true, named := ["loop.example/g00930/impl.errBell"], ifaces := true, apart := false, laid := [("loop.example/g00930/impl.errBell", laid_loop_example_g00930_impl_errBell)], narrowed := true }
def FnExactAccumulateNumberUptoSaid : Prop := fnExactAccumulateNumberUptoRow.holds Tryd.pinned (OpenSpec.upto fnExactAccumulateNumberSpec)

/-- 'laws.FnExactAccumulateAll', WHERE WHAT IT READS IS OF BULK AT MOST 1048576: true; the input reads as it did. -/
def fnExactAccumulateAllUptoRow : OpenClaim := { program := "ytiogbpnnnpodkaadoor", sum := "464b5a2bed855a0a6565681a9e0900d2c3ff2436e4ae680b6e59d5d9c7bcd9fb", func := "loop.example/g00930/laws.FnExactAccumulateAll", spec := "fnExactAccumulateAll", inPlace := ["internal/reflectlite.TypeOf"], unfollowed := true, recurses := true, named := ["loop.example/g00930/impl.errBell"], ifaces := true, apart := false, laid := [("loop.example/g00930/impl.errBell", laid_loop_example_g00930_impl_errBell)], narrowed := true }
def FnExactAccumulateAllUptoSaid : Prop := fnExactAccumulateAllUptoRow.holds Tryd.pinned (OpenSpec.upto fnExactAccumulateAllSpec)

/-- 'laws.FnExactTransferTo', WHERE WHAT IT READS IS OF BULK AT MOST 1048576: true; the input reads as it did. -/
def fnExactTransferToUptoRow : OpenClaim := { program := "ytiogbpnnnpodkaadoor", sum := "464b5a2bed855a0a6565681a9e0900d2c3ff2436e4ae680b6e59d5d9c7bcd9fb", func := "loop.example/g00930/laws.FnExactTransferTo", spec := "fnExactTransferTo", inPlace := ["internal/reflectlite.TypeOf"], unfollowed := true, recurses := true, named := ["loop.example/g00930/impl.errBell"], ifaces := true, apart := false, laid := [("loop.example/g00930/impl.errBell", laid_loop_example_g00930_impl_errBell)], narrowed := true }
def FnExactTransferToUptoSaid : Prop := fnExactTransferToUptoRow.holds Tryd.pinned (OpenSpec.upto fnExactTransferToSpec)

/-- 'laws.FnExactWidenAccumulator', WHERE WHAT IT READS IS OF BULK AT MOST 1048576: true; the input reads as it did. -/
def fnExactWidenAccumulatorUptoRow : OpenClaim := { program := "ytiogbpnnnpodkaadoor", sum := "464b5a2bed855a0a6565681a9e0900d2c3ff2436e4ae680b6e59d5d9c7bcd9fb", func := "loop.example/g00930/laws.FnExactWidenAccumulator", spec := "fnExactWidenAccumulator", unfollowed := true, recurses := true, named := ["loop.example/g00930/impl.errBell"], ifaces := true, apart := false, laid := [("loop.example/g00930/impl.errBell", laid_loop_example_g00930_impl_errBell)], narrowed := true }
def FnExactWidenAccumulatorUptoSaid : Prop := fnExactWidenAccumulatorUptoRow.holds Tryd.pinned (OpenSpec.upto fnExactWidenAccumulatorSpec)

/-- 'laws.FnExactAccumulatorText', WHERE WHAT IT READS IS OF BULK AT MOST 1048576: true; the input reads as it did. -/
def fnExactAccumulatorTextUptoRow : OpenClaim := { program := "ytiogbpnnnpodkaadoor", sum := "464b5a2bed855a0a6565681a9e0900d2c3ff2436e4ae680b6e59d5d9c7bcd9fb", func := "loop.example/g00930/laws.FnExactAccumulatorText", spec := "fnExactAccumulatorText", unfollowed := true, recurses := true, named := ["loop.example/g00930/impl.errBell", "internal/strconv.uint64pow10", "math/bits.deBruijn32tab", "math/bits.deBruijn64tab"], ifaces := true, apart := false, laid := [("math/bits.deBruijn32tab", laid_math_bits_deBruijn32tab), ("math/bits.deBruijn64tab", laid_math_bits_deBruijn64tab), ("internal/strconv.uint64pow10", laid_internal_strconv_uint64pow10), ("loop.example/g00930/impl.errBell", laid_loop_example_g00930_impl_errBell)], narrowed := true }
def FnExactAccumulatorTextUptoSaid : Prop := fnExactAccumulatorTextUptoRow.holds Tryd.pinned (OpenSpec.upto fnExactAccumulatorTextSpec)

/-- 'laws.FnAccumulators', WHERE WHAT IT READS IS OF BULK AT MOST 1048576: true; the input reads as it did. -/
def fnAccumulatorsUptoRow : OpenClaim := { program := "ytiogbpnnnpodkaadoor", sum := "464b5a2bed855a0a6565681a9e0900d2c3ff2436e4ae680b6e59d5d9c7bcd9fb", func := "loop.example/g00930/laws.FnAccumulators", spec := "fnAccumulators", inPlace := ["internal/reflectlite.TypeOf"], unfollowed := true, recurses := true, named := ["loop.example/g00930/impl.errBell", "internal/strconv.uint64pow10", "math/bits.deBruijn32tab", "math/bits.deBruijn64tab"], ifaces := true, apart := false, laid := [("math/bits.deBruijn32tab", laid_math_bits_deBruijn32tab), ("math/bits.deBruijn64tab", laid_math_bits_deBruijn64tab), ("internal/strconv.uint64pow10", laid_internal_strconv_uint64pow10), ("loop.example/g00930/impl.errBell", laid_loop_example_g00930_impl_errBell)], narrowed := true }
def FnAccumulatorsUptoSaid : Prop := fnAccumulatorsUptoRow.holds Tryd.pinned (OpenSpec.upto fnAccumulatorsSpec)

/-- 'laws.FnAccumulated', WHERE WHAT IT READS IS OF BULK AT MOST 1048576: true; the input reads as it did. -/
def fnAccumulatedUptoRow : OpenClaim := { program := "ytiogbpnnnpodkaadoor", sum := "464b5a2bed855a0a6565681a9e0900d2c3ff2436e4ae680b6e59d5d9c7bcd9fb", func := "loop.example/g00930/laws.FnAccumulated", spec := "fnAccumulated", inPlace := ["internal/reflectlite.TypeOf"], unfollowed := true, recurses := true, named := ["loop.example/g00930/impl.errBell"], ifaces := true, apart := false, laid := [("loop.example/g00930/impl.errBell", laid_loop_example_g00930_impl_errBell)], narrowed := true }
def FnAccumulatedUptoSaid : Prop := fnAccumulatedUptoRow.holds Tryd.pinned (OpenSpec.upto fnAccumulatedSpec)

/-- 'laws.FnLevers', WHERE WHAT IT READS IS OF BULK AT MOST 1048576: true; the input reads as it did. -/
def fnLeversUptoRow : OpenClaim := { program := "ytiogbpnnnpodkaadoor", sum := "464b5a2bed855a0a6565681a9e0900d2c3ff2436e4ae680b6e59d5d9c7bcd9fb", func := "loop.example/g00930/laws.FnLevers", spec := "fnLevers", inPlace := ["internal/bytealg.IndexByteString", "internal/bytealg.IndexString"], unfollowed := true, recurses := true, named := ["loop.example/g00930/impl.faultWords", "internal/strconv.uint64pow10", "math/bits.deBruijn32tab", "math/bits.deBruijn64tab", "internal/bytealg.MaxLen", "strconv.ErrSyntax", "strconv.ErrRange"], apart := false, laid := [("math/bits.deBruijn32tab", laid_math_bits_deBruijn32tab), ("math/bits.deBruijn64tab", laid_math_bits_deBruijn64tab), ("internal/strconv.uint64pow10", laid_internal_strconv_uint64pow10), ("strconv.ErrRange", laid_strconv_ErrRange), ("strconv.ErrSyntax", laid_strconv_ErrSyntax), ("loop.example/g00930/impl.faultWords", laid_loop_example_g00930_impl_faultWords)], narrowed := true }
def FnLeversUptoSaid : Prop := fnLeversUptoRow.holds Tryd.pinned (OpenSpec.upto fnLeversSpec)

end Rows
end Go.Proofs.YtiogbpnnnpodkaaDoor
