/-
  NARROWER THAN 'FOR EVERY INPUT', by the rows' own cells (each row's printed sentence says how): FnExactGroupSignals: calm · FnExactCarriesAhead: calm.
  DERIVED. THE GIVEN ROWS OF THIS SEAT. 11 by the template 'for every input the law returns true; each argument reads behind the call as it read before'; 0 by the template 'total and deterministic' (their statements: YtcfpfhlgcfmioaaTotals.lean).
  GIVEN WITH THE SEED: the statements are not yours to turn. If you find one false, say at which input.
  Laid BY PROGRAM, IN A SANDBOX (cutbox-rows.mjs): the forced cells as the released guide's own fill.sh prints them over the translation 6c577a6bfbae0d87… (all of the seat's roots in one cut). By AI agents, Wed Nov 11 2026. No macro, syntax, notation, axiom, sorry.
-/
import Derived.Test.YtcfpfhlgcfmioaaChecked
import GoSem.Claim
import GoSem.ClaimJoined
import GoSem.ClaimMapViews
import Derived.JoinedTies
import Derived.KernelRfl
namespace Go.Proofs.Ytcfpfhlgcfmioaa
/- THE CELL 'sum', in the pinned program and in every row, IS THE sha256 OF THE DUMP (.gsa) THAT YtcfpfhlgcfmioaaProg.lean LOADS. Nothing in Lean hashes anything: it is a label: what it is worth is what the hold of that sum in a sandbox is worth. -/
noncomputable def Try.pinned : Pinned := { name := "ytcfpfhlgcfmioaa", sum := "6c577a6bfbae0d870cd72688238a48b36d388a446f2e8c76e9347838e1001113", checked := Try.checked }
namespace Rows
def none {H : Type} : Left H := { results := [], args := [] }

/-- 'laws.FnBeads': WHATEVER THE INPUT: true; the input reads as it did. -/
def fnBeadsSpec : ChangeSpec := { name := "fnBeads", fn := fun _ => fun
  | [d] => { results := [.lit (.bool true)], args := [d] }
  | _ => none }
def fnBeadsRow : OpenClaim := { program := "ytcfpfhlgcfmioaa", sum := "6c577a6bfbae0d870cd72688238a48b36d388a446f2e8c76e9347838e1001113", func := "loop.example/g00930/laws.FnBeads", spec := "fnBeads", unfollowed := true, recurses := true, leaving := true, apart := false }
def FnBeadsSaid : Prop := fnBeadsRow.holds Try.pinned (OpenSpec.ofChange fnBeadsSpec)

/-- ITS FALSE NEIGHBOUR: 'it returns false'. Refute it at one input. -/
def fnBeadsWrong : ChangeSpec := { name := "fnBeads", fn := fun _ => fun
  | [d] => { results := [.lit (.bool false)], args := [d] }
  | _ => none }
def FnBeadsWrongFalsely : Prop := fnBeadsRow.holds Try.pinned (OpenSpec.ofChange fnBeadsWrong)

/-- 'laws.FnSignals': WHATEVER THE INPUT: true; the input reads as it did. -/
def fnSignalsSpec : ChangeSpec := { name := "fnSignals", fn := fun _ => fun
  | [d1, d2] => { results := [.lit (.bool true)], args := [d1, d2] }
  | _ => none }
def fnSignalsRow : OpenClaim := { program := "ytcfpfhlgcfmioaa", sum := "6c577a6bfbae0d870cd72688238a48b36d388a446f2e8c76e9347838e1001113", func := "loop.example/g00930/laws.FnSignals", spec := "fnSignals", apart := false }
def FnSignalsSaid : Prop := fnSignalsRow.holds Try.pinned (OpenSpec.ofChange fnSignalsSpec)

/-- ITS FALSE NEIGHBOUR: 'it returns false'. Refute it at one input. -/
def fnSignalsWrong : ChangeSpec := { name := "fnSignals", fn := fun _ => fun
  | [d1, d2] => { results := [.lit (.bool false)], args := [d1, d2] }
  | _ => none }
def FnSignalsWrongFalsely : Prop := fnSignalsRow.holds Try.pinned (OpenSpec.ofChange fnSignalsWrong)

/-- 'laws.FnExactSignalsOf': WHATEVER THE INPUT: true; the input reads as it did. -/
def fnExactSignalsOfSpec : ChangeSpec := { name := "fnExactSignalsOf", fn := fun _ => fun
  | [d1, d2] => { results := [.lit (.bool true)], args := [d1, d2] }
  | _ => none }
def fnExactSignalsOfRow : OpenClaim := { program := "ytcfpfhlgcfmioaa", sum := "6c577a6bfbae0d870cd72688238a48b36d388a446f2e8c76e9347838e1001113", func := "loop.example/g00930/laws.FnExactSignalsOf", spec := "fnExactSignalsOf", unfollowed := true, recurses := true, leaving := true, apart := false }
def FnExactSignalsOfSaid : Prop := fnExactSignalsOfRow.holds Try.pinned (OpenSpec.ofChange fnExactSignalsOfSpec)

/-- ITS FALSE NEIGHBOUR: 'it returns false'. Refute it at one input. -/
def fnExactSignalsOfWrong : ChangeSpec := { name := "fnExactSignalsOf", fn := fun _ => fun
  | [d1, d2] => { results := [.lit (.bool false)], args := [d1, d2] }
  | _ => none }
def FnExactSignalsOfWrongFalsely : Prop := fnExactSignalsOfRow.holds Try.pinned (OpenSpec.ofChange fnExactSignalsOfWrong)

/-- 'laws.FnExactJoinSignals': WHATEVER THE INPUT: true; the input reads as it did. -/
def fnExactJoinSignalsSpec : ChangeSpec := { name := "fnExactJoinSignals", fn := fun _ => fun
  | [d1, d2] => { results := [.lit (.bool true)], args := [d1, d2] }
  | _ => none }
def fnExactJoinSignalsRow : OpenClaim := { program := "ytcfpfhlgcfmioaa", sum := "6c577a6bfbae0d870cd72688238a48b36d388a446f2e8c76e9347838e1001113", func := "loop.example/g00930/laws.FnExactJoinSignals", spec := "fnExactJoinSignals", apart := false }
def FnExactJoinSignalsSaid : Prop := fnExactJoinSignalsRow.holds Try.pinned (OpenSpec.ofChange fnExactJoinSignalsSpec)

/-- ITS FALSE NEIGHBOUR: 'it returns false'. Refute it at one input. -/
def fnExactJoinSignalsWrong : ChangeSpec := { name := "fnExactJoinSignals", fn := fun _ => fun
  | [d1, d2] => { results := [.lit (.bool false)], args := [d1, d2] }
  | _ => none }
def FnExactJoinSignalsWrongFalsely : Prop := fnExactJoinSignalsRow.holds Try.pinned (OpenSpec.ofChange fnExactJoinSignalsWrong)

/-- 'laws.FnExactCarryThrough': WHATEVER THE INPUT: true; the input reads as it did. -/
def fnExactCarryThroughSpec : ChangeSpec := { name := "fnExactCarryThrough", fn := fun _ => fun
  | [d1, d2] => { results := [.lit (.bool true)], args := [d1, d2] }
  | _ => none }
def fnExactCarryThroughRow : OpenClaim := { program := "ytcfpfhlgcfmioaa", sum := "6c577a6bfbae0d870cd72688238a48b36d388a446f2e8c76e9347838e1001113", func := "loop.example/g00930/laws.FnExactCarryThrough", spec := "fnExactCarryThrough", apart := false }
def FnExactCarryThroughSaid : Prop := fnExactCarryThroughRow.holds Try.pinned (OpenSpec.ofChange fnExactCarryThroughSpec)

/-- ITS FALSE NEIGHBOUR: 'it returns false'. Refute it at one input. -/
def fnExactCarryThroughWrong : ChangeSpec := { name := "fnExactCarryThrough", fn := fun _ => fun
  | [d1, d2] => { results := [.lit (.bool false)], args := [d1, d2] }
  | _ => none }
def FnExactCarryThroughWrongFalsely : Prop := fnExactCarryThroughRow.holds Try.pinned (OpenSpec.ofChange fnExactCarryThroughWrong)

/-- 'laws.FnExactGroupSignals': WHATEVER THE INPUT: true; the input reads as it did. -/
def fnExactGroupSignalsSpec : ChangeSpec := { name := "fnExactGroupSignals", fn := fun _ => fun
  | [d1, d2] => { results := [.lit (.bool true)], args := [d1, d2] }
  | _ => none }
def fnExactGroupSignalsRow : OpenClaim := { program := "ytcfpfhlgcfmioaa", sum := "6c577a6bfbae0d870cd72688238a48b36d388a446f2e8c76e9347838e1001113", func := "loop.example/g00930/laws.FnExactGroupSignals", spec := "fnExactGroupSignals", inPlace := ["sync/atomic.LoadUint32", "(*internal/sync.Mutex).Lock", "internal/race.Disable", "sync/atomic.CompareAndSwapInt32", "internal/race.Enable", "internal/race.Acquire", "(*internal/sync.Mutex).lockSlow", "internal/sync.runtime_canSpin", "internal/sync.runtime_doSpin", "internal/sync.throw", "internal/sync.runtime_nanotime", "internal/sync.runtime_SemacquireMutex", "sync/atomic.AddInt32", "(*internal/sync.Mutex).Unlock", "internal/race.ReleaseMerge", "(*internal/sync.Mutex).unlockSlow", "internal/sync.fatal", "internal/sync.runtime_Semrelease", "sync/atomic.StoreUint32"], unfollowed := true, recurses := true, leaving := true, apart := false, calm := true, outside := [.timePasses] }
def FnExactGroupSignalsSaid : Prop := fnExactGroupSignalsRow.holds Try.pinned (OpenSpec.ofChange fnExactGroupSignalsSpec)

/-- ITS FALSE NEIGHBOUR: 'it returns false'. Refute it at one input. -/
def fnExactGroupSignalsWrong : ChangeSpec := { name := "fnExactGroupSignals", fn := fun _ => fun
  | [d1, d2] => { results := [.lit (.bool false)], args := [d1, d2] }
  | _ => none }
def FnExactGroupSignalsWrongFalsely : Prop := fnExactGroupSignalsRow.holds Try.pinned (OpenSpec.ofChange fnExactGroupSignalsWrong)

/-- 'laws.FnExactPrefixSignals': WHATEVER THE INPUT: true; the input reads as it did. -/
def fnExactPrefixSignalsSpec : ChangeSpec := { name := "fnExactPrefixSignals", fn := fun _ => fun
  | [d] => { results := [.lit (.bool true)], args := [d] }
  | _ => none }
def fnExactPrefixSignalsRow : OpenClaim := { program := "ytcfpfhlgcfmioaa", sum := "6c577a6bfbae0d870cd72688238a48b36d388a446f2e8c76e9347838e1001113", func := "loop.example/g00930/laws.FnExactPrefixSignals", spec := "fnExactPrefixSignals", unfollowed := true, recurses := true, leaving := true, apart := false }
def FnExactPrefixSignalsSaid : Prop := fnExactPrefixSignalsRow.holds Try.pinned (OpenSpec.ofChange fnExactPrefixSignalsSpec)

/-- ITS FALSE NEIGHBOUR: 'it returns false'. Refute it at one input. -/
def fnExactPrefixSignalsWrong : ChangeSpec := { name := "fnExactPrefixSignals", fn := fun _ => fun
  | [d] => { results := [.lit (.bool false)], args := [d] }
  | _ => none }
def FnExactPrefixSignalsWrongFalsely : Prop := fnExactPrefixSignalsRow.holds Try.pinned (OpenSpec.ofChange fnExactPrefixSignalsWrong)

/-- 'laws.FnExactCarriesAhead': WHATEVER THE INPUT: true; the input reads as it did. -/
def fnExactCarriesAheadSpec : ChangeSpec := { name := "fnExactCarriesAhead", fn := fun _ => fun
  | [d1, d2, d3] => { results := [.lit (.bool true)], args := [d1, d2, d3] }
  | _ => none }
def fnExactCarriesAheadRow : OpenClaim := { program := "ytcfpfhlgcfmioaa", sum := "6c577a6bfbae0d870cd72688238a48b36d388a446f2e8c76e9347838e1001113", func := "loop.example/g00930/laws.FnExactCarriesAhead", spec := "fnExactCarriesAhead", inPlace := ["(*sync.WaitGroup).Add", "internal/race.ReleaseMerge", "internal/race.Disable", "internal/race.Enable", "internal/synctest.IsInBubble", "internal/synctest.Associate[sync.WaitGroup]", "sync.fatal", "sync/atomic.OrUint64", "sync/atomic.AddUint64", "internal/race.Read", "sync/atomic.LoadUint64", "sync/atomic.StoreUint64", "internal/synctest.Disassociate[sync.WaitGroup]", "sync.runtime_Semrelease", "(*sync.WaitGroup).Done", "sync/atomic.LoadUint32", "(*internal/sync.Mutex).Lock", "sync/atomic.CompareAndSwapInt32", "internal/race.Acquire", "(*internal/sync.Mutex).lockSlow", "internal/sync.runtime_canSpin", "internal/sync.runtime_doSpin", "internal/sync.throw", "internal/sync.runtime_nanotime", "internal/sync.runtime_SemacquireMutex", "sync/atomic.AddInt32", "(*internal/sync.Mutex).Unlock", "(*internal/sync.Mutex).unlockSlow", "internal/sync.fatal", "internal/sync.runtime_Semrelease", "sync/atomic.StoreUint32", "(*sync.WaitGroup).Wait", "internal/synctest.IsAssociated[sync.WaitGroup]", "sync/atomic.CompareAndSwapUint64", "internal/race.Write", "sync.runtime_SemacquireWaitGroup"], unfollowed := true, recurses := true, leaving := true, apart := false, calm := true, outside := [.timePasses] }
def FnExactCarriesAheadSaid : Prop := fnExactCarriesAheadRow.holds Try.pinned (OpenSpec.ofChange fnExactCarriesAheadSpec)

/-- ITS FALSE NEIGHBOUR: 'it returns false'. Refute it at one input. -/
def fnExactCarriesAheadWrong : ChangeSpec := { name := "fnExactCarriesAhead", fn := fun _ => fun
  | [d1, d2, d3] => { results := [.lit (.bool false)], args := [d1, d2, d3] }
  | _ => none }
def FnExactCarriesAheadWrongFalsely : Prop := fnExactCarriesAheadRow.holds Try.pinned (OpenSpec.ofChange fnExactCarriesAheadWrong)

/-- 'laws.FnExactDepthAhead': WHATEVER THE INPUT: true; the input reads as it did. -/
def fnExactDepthAheadSpec : ChangeSpec := { name := "fnExactDepthAhead", fn := fun _ => fun
  | [d1, d2] => { results := [.lit (.bool true)], args := [d1, d2] }
  | _ => none }
def fnExactDepthAheadRow : OpenClaim := { program := "ytcfpfhlgcfmioaa", sum := "6c577a6bfbae0d870cd72688238a48b36d388a446f2e8c76e9347838e1001113", func := "loop.example/g00930/laws.FnExactDepthAhead", spec := "fnExactDepthAhead", apart := false }
def FnExactDepthAheadSaid : Prop := fnExactDepthAheadRow.holds Try.pinned (OpenSpec.ofChange fnExactDepthAheadSpec)

/-- ITS FALSE NEIGHBOUR: 'it returns false'. Refute it at one input. -/
def fnExactDepthAheadWrong : ChangeSpec := { name := "fnExactDepthAhead", fn := fun _ => fun
  | [d1, d2] => { results := [.lit (.bool false)], args := [d1, d2] }
  | _ => none }
def FnExactDepthAheadWrongFalsely : Prop := fnExactDepthAheadRow.holds Try.pinned (OpenSpec.ofChange fnExactDepthAheadWrong)

/-- 'laws.FnExactBestGroup': WHATEVER THE INPUT: true; the input reads as it did. -/
def fnExactBestGroupSpec : ChangeSpec := { name := "fnExactBestGroup", fn := fun _ => fun
  | [d] => { results := [.lit (.bool true)], args := [d] }
  | _ => none }
def fnExactBestGroupRow : OpenClaim := { program := "ytcfpfhlgcfmioaa", sum := "6c577a6bfbae0d870cd72688238a48b36d388a446f2e8c76e9347838e1001113", func := "loop.example/g00930/laws.FnExactBestGroup", spec := "fnExactBestGroup", apart := false }
def FnExactBestGroupSaid : Prop := fnExactBestGroupRow.holds Try.pinned (OpenSpec.ofChange fnExactBestGroupSpec)

/-- ITS FALSE NEIGHBOUR: 'it returns false'. Refute it at one input. -/
def fnExactBestGroupWrong : ChangeSpec := { name := "fnExactBestGroup", fn := fun _ => fun
  | [d] => { results := [.lit (.bool false)], args := [d] }
  | _ => none }
def FnExactBestGroupWrongFalsely : Prop := fnExactBestGroupRow.holds Try.pinned (OpenSpec.ofChange fnExactBestGroupWrong)

/-- 'laws.FnExactSignalText': WHATEVER THE INPUT: true; the input reads as it did. -/
def fnExactSignalTextSpec : ChangeSpec := { name := "fnExactSignalText", fn := fun _ => fun
  | [d] => { results := [.lit (.bool true)], args := [d] }
  | _ => none }
def fnExactSignalTextRow : OpenClaim := { program := "ytcfpfhlgcfmioaa", sum := "6c577a6bfbae0d870cd72688238a48b36d388a446f2e8c76e9347838e1001113", func := "loop.example/g00930/laws.FnExactSignalText", spec := "fnExactSignalText", inPlace := ["internal/abi.NoEscape"], apart := false }
def FnExactSignalTextSaid : Prop := fnExactSignalTextRow.holds Try.pinned (OpenSpec.ofChange fnExactSignalTextSpec)

/-- ITS FALSE NEIGHBOUR: 'it returns false'. Refute it at one input. -/
def fnExactSignalTextWrong : ChangeSpec := { name := "fnExactSignalText", fn := fun _ => fun
  | [d] => { results := [.lit (.bool false)], args := [d] }
  | _ => none }
def FnExactSignalTextWrongFalsely : Prop := fnExactSignalTextRow.holds Try.pinned (OpenSpec.ofChange fnExactSignalTextWrong)

/- THE SECOND FORM. 'bulk': how many values and letters a reading holds, each counted each time it is reached (what is shared counts as often as it is met; a slice's spare places count too). A statement '..UptoSaid' is the law's where the arguments, and the package variables that the reading takes, are together of bulk at most 1048576: NARROWER than '..Said'. Prove '..Said' where nothing that the law and all that it calls make is longer than what came in: it says more and counts as full. Else prove '..UptoSaid'. A law counts once. -/
mutual
def uptoBulk {H : Type} : DataW H → Nat
  | .lit (.string bytes) => bytes.length + 1
  | .lit _ => 1
  | .nil => 1
  | .ptr d => uptoBulk d + 1
  | .slice elems spare => uptoBulkAll elems + uptoBulkAll spare + 1
  | .agg parts => uptoBulkAll parts + 1
  | .iface _ d => uptoBulk d + 1
  | .map entries => uptoBulkEntries entries + 1
  | .held _ => 1
def uptoBulkAll {H : Type} : List (DataW H) → Nat
  | [] => 0
  | d :: r => uptoBulk d + uptoBulkAll r
def uptoBulkEntries {H : Type} : List (Lit × DataW H) → Nat
  | [] => 0
  | x :: r => uptoBulkEntry x + uptoBulkEntries r
def uptoBulkEntry {H : Type} : Lit × DataW H → Nat
  | (.string bytes, d) => bytes.length + uptoBulk d + 1
  | (_, d) => uptoBulk d + 1
 end
def uptoSmall : (H : Type) → List (DataW H) → Bool := fun _ ds => decide (uptoBulkAll ds ≤ 1048576)
def OpenSpec.upto (s : _root_.Go.ChangeSpec) : _root_.Go.OpenSpec := { _root_.Go.OpenSpec.ofChange s with cond := some uptoSmall }

/-- 'laws.FnBeads', WHERE WHAT IT READS IS OF BULK AT MOST 1048576: true; the input reads as it did. -/
def fnBeadsUptoRow : OpenClaim := { program := "ytcfpfhlgcfmioaa", sum := "6c577a6bfbae0d870cd72688238a48b36d388a446f2e8c76e9347838e1001113", func := "loop.example/g00930/laws.FnBeads", spec := "fnBeads", unfollowed := true, recurses := true, leaving := true, apart := false, narrowed := true }
def FnBeadsUptoSaid : Prop := fnBeadsUptoRow.holds Try.pinned (OpenSpec.upto fnBeadsSpec)

/-- 'laws.FnSignals', WHERE WHAT IT READS IS OF BULK AT MOST 1048576: true; the input reads as it did. -/
def fnSignalsUptoRow : OpenClaim := { program := "ytcfpfhlgcfmioaa", sum := "6c577a6bfbae0d870cd72688238a48b36d388a446f2e8c76e9347838e1001113", func := "loop.example/g00930/laws.FnSignals", spec := "fnSignals", apart := false, narrowed := true }
def FnSignalsUptoSaid : Prop := fnSignalsUptoRow.holds Try.pinned (OpenSpec.upto fnSignalsSpec)

/-- 'laws.FnExactSignalsOf', WHERE WHAT IT READS IS OF BULK AT MOST 1048576: true; the input reads as it did. -/
def fnExactSignalsOfUptoRow : OpenClaim := { program := "ytcfpfhlgcfmioaa", sum := "6c577a6bfbae0d870cd72688238a48b36d388a446f2e8c76e9347838e1001113", func := "loop.example/g00930/laws.FnExactSignalsOf", spec := "fnExactSignalsOf", unfollowed := true, recurses := true, leaving := true, apart := false, narrowed := true }
def FnExactSignalsOfUptoSaid : Prop := fnExactSignalsOfUptoRow.holds Try.pinned (OpenSpec.upto fnExactSignalsOfSpec)

/-- 'laws.FnExactJoinSignals', WHERE WHAT IT READS IS OF BULK AT MOST 1048576: true; the input reads as it did. -/
def fnExactJoinSignalsUptoRow : OpenClaim := { program := "ytcfpfhlgcfmioaa", sum := "6c577a6bfbae0d870cd72688238a48b36d388a446f2e8c76e9347838e1001113", func := "loop.example/g00930/laws.FnExactJoinSignals", spec := "fnExactJoinSignals", apart := false, narrowed := true }
def FnExactJoinSignalsUptoSaid : Prop := fnExactJoinSignalsUptoRow.holds Try.pinned (OpenSpec.upto fnExactJoinSignalsSpec)

/-- 'laws.FnExactCarryThrough', WHERE WHAT IT READS IS OF BULK AT MOST 1048576: true; the input reads as it did. -/
def fnExactCarryThroughUptoRow : OpenClaim := { program := "ytcfpfhlgcfmioaa", sum := "6c577a6bfbae0d870cd72688238a48b36d388a446f2e8c76e9347838e1001113", func := "loop.example/g00930/laws.FnExactCarryThrough", spec := "fnExactCarryThrough", apart := false, narrowed := true }
def FnExactCarryThroughUptoSaid : Prop := fnExactCarryThroughUptoRow.holds Try.pinned (OpenSpec.upto fnExactCarryThroughSpec)

/-- 'laws.FnExactGroupSignals', WHERE WHAT IT READS IS OF BULK AT MOST 1048576: true; the input reads as it did. -/
def fnExactGroupSignalsUptoRow : OpenClaim := { program := "ytcfpfhlgcfmioaa", sum := "6c577a6bfbae0d870cd72688238a48b36d388a446f2e8c76e9347838e1001113", func := "loop.example/g00930/laws.FnExactGroupSignals", spec := "fnExactGroupSignals", inPlace := ["sync/atomic.LoadUint32", "(*internal/sync.Mutex).Lock", "internal/race.Disable", "sync/atomic.CompareAndSwapInt32", "internal/race.Enable", "internal/race.Acquire", "(*internal/sync.Mutex).lockSlow", "internal/sync.runtime_canSpin", "internal/sync.runtime_doSpin", "internal/sync.throw", "internal/sync.runtime_nanotime", "internal/sync.runtime_SemacquireMutex", "sync/atomic.AddInt32", "(*internal/sync.Mutex).Unlock", "internal/race.ReleaseMerge", "(*internal/sync.Mutex).unlockSlow", "internal/sync.fatal", "internal/sync.runtime_Semrelease", "sync/atomic.StoreUint32"], unfollowed := true, recurses := true, leaving := true, apart := false, calm := true, outside := [.timePasses], narrowed := true }
def FnExactGroupSignalsUptoSaid : Prop := fnExactGroupSignalsUptoRow.holds Try.pinned (OpenSpec.upto fnExactGroupSignalsSpec)

/-- 'laws.FnExactPrefixSignals', WHERE WHAT IT READS IS OF BULK AT MOST 1048576: true; the input reads as it did. -/
def fnExactPrefixSignalsUptoRow : OpenClaim := { program := "ytcfpfhlgcfmioaa", sum := "6c577a6bfbae0d870cd72688238a48b36d388a446f2e8c76e9347838e1001113", func := "loop.example/g00930/laws.FnExactPrefixSignals", spec := "fnExactPrefixSignals", unfollowed := true, recurses := true, leaving := true, apart := false, narrowed := true }
def FnExactPrefixSignalsUptoSaid : Prop := fnExactPrefixSignalsUptoRow.holds Try.pinned (OpenSpec.upto fnExactPrefixSignalsSpec)

/-- 'laws.FnExactCarriesAhead', WHERE WHAT IT READS IS OF BULK AT MOST 1048576: true; the input reads as it did. -/
def fnExactCarriesAheadUptoRow : OpenClaim := { program := "ytcfpfhlgcfmioaa", sum := "6c577a6bfbae0d870cd72688238a48b36d388a446f2e8c76e9347838e1001113", func := "loop.example/g00930/laws.FnExactCarriesAhead", spec := "fnExactCarriesAhead", inPlace := ["(*sync.WaitGroup).Add", "internal/race.ReleaseMerge", "internal/race.Disable", "internal/race.Enable", "internal/synctest.IsInBubble", "internal/synctest.Associate[sync.WaitGroup]", "sync.fatal", "sync/atomic.OrUint64", "sync/atomic.AddUint64", "internal/race.Read", "sync/atomic.LoadUint64", "sync/atomic.StoreUint64", "internal/synctest.Disassociate[sync.WaitGroup]", "sync.runtime_Semrelease", "(*sync.WaitGroup).Done", "sync/atomic.LoadUint32", "(*internal/sync.Mutex).Lock", "sync/atomic.CompareAndSwapInt32", "internal/race.Acquire", "(*internal/sync.Mutex).lockSlow", "internal/sync.runtime_canSpin", "internal/sync.runtime_doSpin", "internal/sync.throw", "internal/sync.runtime_nanotime", "internal/sync.runtime_SemacquireMutex", "sync/atomic.AddInt32", "(*internal/sync.Mutex).Unlock", "(*internal/sync.Mutex).unlockSlow", "internal/sync.fatal", "internal/sync.runtime_Semrelease", "sync/atomic.StoreUint32", "(*sync.WaitGroup).Wait", "internal/synctest.IsAssociated[sync.WaitGroup]", "sync/atomic.CompareAndSwapUint64", "internal/race.Write", "sync.runtime_SemacquireWaitGroup"], unfollowed := true, recurses := true, leaving := true, apart := false, calm := true, outside := [.timePasses], narrowed := true }
def FnExactCarriesAheadUptoSaid : Prop := fnExactCarriesAheadUptoRow.holds Try.pinned (OpenSpec.upto fnExactCarriesAheadSpec)

/-- 'laws.FnExactDepthAhead', WHERE WHAT IT READS IS OF BULK AT MOST 1048576: true; the input reads as it did. -/
def fnExactDepthAheadUptoRow : OpenClaim := { program := "ytcfpfhlgcfmioaa", sum := "6c577a6bfbae0d870cd72688238a48b36d388a446f2e8c76e9347838e1001113", func := "loop.example/g00930/laws.FnExactDepthAhead", spec := "fnExactDepthAhead", apart := false, narrowed := true }
def FnExactDepthAheadUptoSaid : Prop := fnExactDepthAheadUptoRow.holds Try.pinned (OpenSpec.upto fnExactDepthAheadSpec)

/-- 'laws.FnExactBestGroup', WHERE WHAT IT READS IS OF BULK AT MOST 1048576: true; the input reads as it did. -/
def fnExactBestGroupUptoRow : OpenClaim := { program := "ytcfpfhlgcfmioaa", sum := "6c577a6bfbae0d870cd72688238a48b36d388a446f2e8c76e9347838e1001113", func := "loop.example/g00930/laws.FnExactBestGroup", spec := "fnExactBestGroup", apart := false, narrowed := true }
def FnExactBestGroupUptoSaid : Prop := fnExactBestGroupUptoRow.holds Try.pinned (OpenSpec.upto fnExactBestGroupSpec)

/-- 'laws.FnExactSignalText', WHERE WHAT IT READS IS OF BULK AT MOST 1048576: true; the input reads as it did. -/
def fnExactSignalTextUptoRow : OpenClaim := { program := "ytcfpfhlgcfmioaa", sum := "6c577a6bfbae0d870cd72688238a48b36d388a446f2e8c76e9347838e1001113", func := "loop.example/g00930/laws.FnExactSignalText", spec := "fnExactSignalText", inPlace := ["internal/abi.NoEscape"], apart := false, narrowed := true }
def FnExactSignalTextUptoSaid : Prop := fnExactSignalTextUptoRow.holds Try.pinned (OpenSpec.upto fnExactSignalTextSpec)

end Rows
end Go.Proofs.Ytcfpfhlgcfmioaa
