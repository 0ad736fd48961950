/-
  No cell of these rows narrows 'for every input' (looked for: loops, veiled, ifaces, maps, wideKeys, modest, calm, conditions, laid).
  DERIVED. THE GIVEN ROWS OF THIS SEAT. 10 by the template 'for every input the law returns true; each argument reads behind the call as it read before'; 0 by the template 'total and deterministic' (their statements: YtmdngcoccekdgaaTotals.lean).
  GIVEN WITH THE SEED: the statements are not yours to turn. If you find one false, say at which input.
  Laid BY PROGRAM, IN A SANDBOX (cutbox-rows.mjs): the forced cells as the released guide's own fill.sh prints them over the translation 96aae6e4a00cca51… (all of the seat's roots in one cut). By AI agents, Wed Nov 11 2026. No macro, syntax, notation, axiom, sorry.
-/
import Derived.Test.YtmdngcoccekdgaaChecked
import GoSem.Claim
import GoSem.ClaimJoined
import GoSem.ClaimMapViews
import Derived.JoinedTies
import Derived.KernelRfl
namespace Go.Proofs.Ytmdngcoccekdgaa
/- THE CELL 'sum', in the pinned program and in every row, IS THE sha256 OF THE DUMP (.gsa) THAT YtmdngcoccekdgaaProg.lean LOADS. Nothing in Lean hashes anything: it is a label: what it is worth is what the hold of that sum in a sandbox is worth. -/
noncomputable def Try.pinned : Pinned := { name := "ytmdngcoccekdgaa", sum := "96aae6e4a00cca5196f6151f9d356e8e2bd5f53a4fd8965a64d4476652ce72f0", checked := Try.checked }
namespace Rows
def none {H : Type} : Left H := { results := [], args := [] }

/-- 'laws.FnTables': WHATEVER THE INPUT: true; the input reads as it did. -/
def fnTablesSpec : ChangeSpec := { name := "fnTables", fn := fun _ => fun
  | [d1, d2] => { results := [.lit (.bool true)], args := [d1, d2] }
  | _ => none }
def fnTablesRow : OpenClaim := { program := "ytmdngcoccekdgaa", sum := "96aae6e4a00cca5196f6151f9d356e8e2bd5f53a4fd8965a64d4476652ce72f0", func := "loop.example/g00930/laws.FnTables", spec := "fnTables", unfollowed := true, recurses := true, plainKeys := false, apart := false }
def FnTablesSaid : Prop := fnTablesRow.holds Try.pinned (OpenSpec.ofChange fnTablesSpec)

/-- ITS FALSE NEIGHBOUR: 'it returns false'. Refute it at one input. -/
def fnTablesWrong : ChangeSpec := { name := "fnTables", fn := fun _ => fun
  | [d1, d2] => { results := [.lit (.bool false)], args := [d1, d2] }
  | _ => none }
def FnTablesWrongFalsely : Prop := fnTablesRow.holds Try.pinned (OpenSpec.ofChange fnTablesWrong)

/-- 'laws.FnExactValidFaults': WHATEVER THE INPUT: true; the input reads as it did. -/
def fnExactValidFaultsSpec : ChangeSpec := { name := "fnExactValidFaults", fn := fun _ => fun
  | [d1, d2] => { results := [.lit (.bool true)], args := [d1, d2] }
  | _ => none }
def fnExactValidFaultsRow : OpenClaim := { program := "ytmdngcoccekdgaa", sum := "96aae6e4a00cca5196f6151f9d356e8e2bd5f53a4fd8965a64d4476652ce72f0", func := "loop.example/g00930/laws.FnExactValidFaults", spec := "fnExactValidFaults", plainKeys := false, apart := false }
def FnExactValidFaultsSaid : Prop := fnExactValidFaultsRow.holds Try.pinned (OpenSpec.ofChange fnExactValidFaultsSpec)

/-- ITS FALSE NEIGHBOUR: 'it returns false'. Refute it at one input. -/
def fnExactValidFaultsWrong : ChangeSpec := { name := "fnExactValidFaults", fn := fun _ => fun
  | [d1, d2] => { results := [.lit (.bool false)], args := [d1, d2] }
  | _ => none }
def FnExactValidFaultsWrongFalsely : Prop := fnExactValidFaultsRow.holds Try.pinned (OpenSpec.ofChange fnExactValidFaultsWrong)

/-- 'laws.FnExactAddWithFaults': WHATEVER THE INPUT: true; the input reads as it did. -/
def fnExactAddWithFaultsSpec : ChangeSpec := { name := "fnExactAddWithFaults", fn := fun _ => fun
  | [d1, d2, d3] => { results := [.lit (.bool true)], args := [d1, d2, d3] }
  | _ => none }
def fnExactAddWithFaultsRow : OpenClaim := { program := "ytmdngcoccekdgaa", sum := "96aae6e4a00cca5196f6151f9d356e8e2bd5f53a4fd8965a64d4476652ce72f0", func := "loop.example/g00930/laws.FnExactAddWithFaults", spec := "fnExactAddWithFaults", unfollowed := true, recurses := true, plainKeys := false, apart := false }
def FnExactAddWithFaultsSaid : Prop := fnExactAddWithFaultsRow.holds Try.pinned (OpenSpec.ofChange fnExactAddWithFaultsSpec)

/-- ITS FALSE NEIGHBOUR: 'it returns false'. Refute it at one input. -/
def fnExactAddWithFaultsWrong : ChangeSpec := { name := "fnExactAddWithFaults", fn := fun _ => fun
  | [d1, d2, d3] => { results := [.lit (.bool false)], args := [d1, d2, d3] }
  | _ => none }
def FnExactAddWithFaultsWrongFalsely : Prop := fnExactAddWithFaultsRow.holds Try.pinned (OpenSpec.ofChange fnExactAddWithFaultsWrong)

/-- 'laws.FnExactShowsFaults': WHATEVER THE INPUT: true; the input reads as it did. -/
def fnExactShowsFaultsSpec : ChangeSpec := { name := "fnExactShowsFaults", fn := fun _ => fun
  | [d1, d2, d3] => { results := [.lit (.bool true)], args := [d1, d2, d3] }
  | _ => none }
def fnExactShowsFaultsRow : OpenClaim := { program := "ytmdngcoccekdgaa", sum := "96aae6e4a00cca5196f6151f9d356e8e2bd5f53a4fd8965a64d4476652ce72f0", func := "loop.example/g00930/laws.FnExactShowsFaults", spec := "fnExactShowsFaults", unfollowed := true, recurses := true, plainKeys := false, apart := false }
def FnExactShowsFaultsSaid : Prop := fnExactShowsFaultsRow.holds Try.pinned (OpenSpec.ofChange fnExactShowsFaultsSpec)

/-- ITS FALSE NEIGHBOUR: 'it returns false'. Refute it at one input. -/
def fnExactShowsFaultsWrong : ChangeSpec := { name := "fnExactShowsFaults", fn := fun _ => fun
  | [d1, d2, d3] => { results := [.lit (.bool false)], args := [d1, d2, d3] }
  | _ => none }
def FnExactShowsFaultsWrongFalsely : Prop := fnExactShowsFaultsRow.holds Try.pinned (OpenSpec.ofChange fnExactShowsFaultsWrong)

/-- 'laws.FnExactWitnessOf': WHATEVER THE INPUT: true; the input reads as it did. -/
def fnExactWitnessOfSpec : ChangeSpec := { name := "fnExactWitnessOf", fn := fun _ => fun
  | [d1, d2, d3] => { results := [.lit (.bool true)], args := [d1, d2, d3] }
  | _ => none }
def fnExactWitnessOfRow : OpenClaim := { program := "ytmdngcoccekdgaa", sum := "96aae6e4a00cca5196f6151f9d356e8e2bd5f53a4fd8965a64d4476652ce72f0", func := "loop.example/g00930/laws.FnExactWitnessOf", spec := "fnExactWitnessOf", unfollowed := true, recurses := true, plainKeys := false, apart := false }
def FnExactWitnessOfSaid : Prop := fnExactWitnessOfRow.holds Try.pinned (OpenSpec.ofChange fnExactWitnessOfSpec)

/-- ITS FALSE NEIGHBOUR: 'it returns false'. Refute it at one input. -/
def fnExactWitnessOfWrong : ChangeSpec := { name := "fnExactWitnessOf", fn := fun _ => fun
  | [d1, d2, d3] => { results := [.lit (.bool false)], args := [d1, d2, d3] }
  | _ => none }
def FnExactWitnessOfWrongFalsely : Prop := fnExactWitnessOfRow.holds Try.pinned (OpenSpec.ofChange fnExactWitnessOfWrong)

/-- 'laws.FnExactRightTable': WHATEVER THE INPUT: true; the input reads as it did. -/
def fnExactRightTableSpec : ChangeSpec := { name := "fnExactRightTable", fn := fun _ => fun
  | [d] => { results := [.lit (.bool true)], args := [d] }
  | _ => none }
def fnExactRightTableRow : OpenClaim := { program := "ytmdngcoccekdgaa", sum := "96aae6e4a00cca5196f6151f9d356e8e2bd5f53a4fd8965a64d4476652ce72f0", func := "loop.example/g00930/laws.FnExactRightTable", spec := "fnExactRightTable", unfollowed := true, recurses := true, plainKeys := false, apart := false }
def FnExactRightTableSaid : Prop := fnExactRightTableRow.holds Try.pinned (OpenSpec.ofChange fnExactRightTableSpec)

/-- ITS FALSE NEIGHBOUR: 'it returns false'. Refute it at one input. -/
def fnExactRightTableWrong : ChangeSpec := { name := "fnExactRightTable", fn := fun _ => fun
  | [d] => { results := [.lit (.bool false)], args := [d] }
  | _ => none }
def FnExactRightTableWrongFalsely : Prop := fnExactRightTableRow.holds Try.pinned (OpenSpec.ofChange fnExactRightTableWrong)

/-- 'laws.FnExactTableFault': WHATEVER THE INPUT: true; the input reads as it did. -/
def fnExactTableFaultSpec : ChangeSpec := { name := "fnExactTableFault", fn := fun _ => fun
  | [d1, d2] => { results := [.lit (.bool true)], args := [d1, d2] }
  | _ => none }
def fnExactTableFaultRow : OpenClaim := { program := "ytmdngcoccekdgaa", sum := "96aae6e4a00cca5196f6151f9d356e8e2bd5f53a4fd8965a64d4476652ce72f0", func := "loop.example/g00930/laws.FnExactTableFault", spec := "fnExactTableFault", unfollowed := true, recurses := true, plainKeys := false, apart := false }
def FnExactTableFaultSaid : Prop := fnExactTableFaultRow.holds Try.pinned (OpenSpec.ofChange fnExactTableFaultSpec)

/-- ITS FALSE NEIGHBOUR: 'it returns false'. Refute it at one input. -/
def fnExactTableFaultWrong : ChangeSpec := { name := "fnExactTableFault", fn := fun _ => fun
  | [d1, d2] => { results := [.lit (.bool false)], args := [d1, d2] }
  | _ => none }
def FnExactTableFaultWrongFalsely : Prop := fnExactTableFaultRow.holds Try.pinned (OpenSpec.ofChange fnExactTableFaultWrong)

/-- 'laws.FnExactAddByTable': WHATEVER THE INPUT: true; the input reads as it did. -/
def fnExactAddByTableSpec : ChangeSpec := { name := "fnExactAddByTable", fn := fun _ => fun
  | [d1, d2, d3] => { results := [.lit (.bool true)], args := [d1, d2, d3] }
  | _ => none }
def fnExactAddByTableRow : OpenClaim := { program := "ytmdngcoccekdgaa", sum := "96aae6e4a00cca5196f6151f9d356e8e2bd5f53a4fd8965a64d4476652ce72f0", func := "loop.example/g00930/laws.FnExactAddByTable", spec := "fnExactAddByTable", unfollowed := true, recurses := true, plainKeys := false, apart := false }
def FnExactAddByTableSaid : Prop := fnExactAddByTableRow.holds Try.pinned (OpenSpec.ofChange fnExactAddByTableSpec)

/-- ITS FALSE NEIGHBOUR: 'it returns false'. Refute it at one input. -/
def fnExactAddByTableWrong : ChangeSpec := { name := "fnExactAddByTable", fn := fun _ => fun
  | [d1, d2, d3] => { results := [.lit (.bool false)], args := [d1, d2, d3] }
  | _ => none }
def FnExactAddByTableWrongFalsely : Prop := fnExactAddByTableRow.holds Try.pinned (OpenSpec.ofChange fnExactAddByTableWrong)

/-- 'laws.FnExactTableWitness': WHATEVER THE INPUT: true; the input reads as it did. -/
def fnExactTableWitnessSpec : ChangeSpec := { name := "fnExactTableWitness", fn := fun _ => fun
  | [d1, d2] => { results := [.lit (.bool true)], args := [d1, d2] }
  | _ => none }
def fnExactTableWitnessRow : OpenClaim := { program := "ytmdngcoccekdgaa", sum := "96aae6e4a00cca5196f6151f9d356e8e2bd5f53a4fd8965a64d4476652ce72f0", func := "loop.example/g00930/laws.FnExactTableWitness", spec := "fnExactTableWitness", unfollowed := true, recurses := true, plainKeys := false, apart := false }
def FnExactTableWitnessSaid : Prop := fnExactTableWitnessRow.holds Try.pinned (OpenSpec.ofChange fnExactTableWitnessSpec)

/-- ITS FALSE NEIGHBOUR: 'it returns false'. Refute it at one input. -/
def fnExactTableWitnessWrong : ChangeSpec := { name := "fnExactTableWitness", fn := fun _ => fun
  | [d1, d2] => { results := [.lit (.bool false)], args := [d1, d2] }
  | _ => none }
def FnExactTableWitnessWrongFalsely : Prop := fnExactTableWitnessRow.holds Try.pinned (OpenSpec.ofChange fnExactTableWitnessWrong)

/-- 'laws.FnExactGroupSignals': WHATEVER THE INPUT: true; the input reads as it did. -/
def fnExactGroupSignalsSpec : ChangeSpec := { name := "fnExactGroupSignals", fn := fun _ => fun
  | [d1, d2] => { results := [.lit (.bool true)], args := [d1, d2] }
  | _ => none }
def fnExactGroupSignalsRow : OpenClaim := { program := "ytmdngcoccekdgaa", sum := "96aae6e4a00cca5196f6151f9d356e8e2bd5f53a4fd8965a64d4476652ce72f0", func := "loop.example/g00930/laws.FnExactGroupSignals", spec := "fnExactGroupSignals", inPlace := ["sync/atomic.LoadUint32", "(*internal/sync.Mutex).Lock", "internal/race.Disable", "sync/atomic.CompareAndSwapInt32", "internal/race.Enable", "internal/race.Acquire", "(*internal/sync.Mutex).lockSlow", "internal/sync.runtime_canSpin", "internal/sync.runtime_doSpin", "internal/sync.throw", "internal/sync.runtime_nanotime", "internal/sync.runtime_SemacquireMutex", "sync/atomic.AddInt32", "(*internal/sync.Mutex).Unlock", "internal/race.ReleaseMerge", "(*internal/sync.Mutex).unlockSlow", "internal/sync.fatal", "internal/sync.runtime_Semrelease", "sync/atomic.StoreUint32"], unfollowed := true, recurses := true, plainKeys := false, apart := false }
def FnExactGroupSignalsSaid : Prop := fnExactGroupSignalsRow.holds Try.pinned (OpenSpec.ofChange fnExactGroupSignalsSpec)

/-- ITS FALSE NEIGHBOUR: 'it returns false'. Refute it at one input. -/
def fnExactGroupSignalsWrong : ChangeSpec := { name := "fnExactGroupSignals", fn := fun _ => fun
  | [d1, d2] => { results := [.lit (.bool false)], args := [d1, d2] }
  | _ => none }
def FnExactGroupSignalsWrongFalsely : Prop := fnExactGroupSignalsRow.holds Try.pinned (OpenSpec.ofChange fnExactGroupSignalsWrong)

/- THE SECOND FORM. 'bulk': how many values and letters a reading holds, each counted each time it is reached (what is shared counts as often as it is met; a slice's spare places count too). A statement '..UptoSaid' is the law's where the arguments, and the package variables that the reading takes, are together of bulk at most 1048576: NARROWER than '..Said'. Prove '..Said' where nothing that the law and all that it calls make is longer than what came in: it says more and counts as full. Else prove '..UptoSaid'. A law counts once. -/
mutual
def uptoBulk {H : Type} : DataW H → Nat
  | .lit (.string bytes) => bytes.length + 1
  | .lit _ => 1
  | .nil => 1
  | .ptr d => uptoBulk d + 1
  | .slice elems spare => uptoBulkAll elems + uptoBulkAll spare + 1
  | .agg parts => uptoBulkAll parts + 1
  | .iface _ d => uptoBulk d + 1
  | .map entries => uptoBulkEntries entries + 1
  | .held _ => 1
def uptoBulkAll {H : Type} : List (DataW H) → Nat
  | [] => 0
  | d :: r => uptoBulk d + uptoBulkAll r
def uptoBulkEntries {H : Type} : List (Lit × DataW H) → Nat
  | [] => 0
  | x :: r => uptoBulkEntry x + uptoBulkEntries r
def uptoBulkEntry {H : Type} : Lit × DataW H → Nat
  | (.string bytes, d) => bytes.length + uptoBulk d + 1
  | (_, d) => uptoBulk d + 1
 end
def uptoSmall : (H : Type) → List (DataW H) → Bool := fun _ ds => decide (uptoBulkAll ds ≤ 1048576)
def OpenSpec.upto (s : _root_.Go.ChangeSpec) : _root_.Go.OpenSpec := { _root_.Go.OpenSpec.ofChange s with cond := some uptoSmall }

/-- 'laws.FnTables', WHERE WHAT IT READS IS OF BULK AT MOST 1048576: true; the input reads as it did. -/
def fnTablesUptoRow : OpenClaim := { program := "ytmdngcoccekdgaa", sum := "96aae6e4a00cca5196f6151f9d356e8e2bd5f53a4fd8965a64d4476652ce72f0", func := "loop.example/g00930/laws.FnTables", spec := "fnTables", unfollowed := true, recurses := true, plainKeys := false, apart := false, narrowed := true }
def FnTablesUptoSaid : Prop := fnTablesUptoRow.holds Try.pinned (OpenSpec.upto fnTablesSpec)

/-- 'laws.FnExactValidFaults', WHERE WHAT IT READS IS OF BULK AT MOST 1048576: true; the input reads as it did. -/
def fnExactValidFaultsUptoRow : OpenClaim := { program := "ytmdngcoccekdgaa", sum := "96aae6e4a00cca5196f6151f9d356e8e2bd5f53a4fd8965a64d4476652ce72f0", func := "loop.example/g00930/laws.FnExactValidFaults", spec := "fnExactValidFaults", plainKeys := false, apart := false, narrowed := true }
def FnExactValidFaultsUptoSaid : Prop := fnExactValidFaultsUptoRow.holds Try.pinned (OpenSpec.upto fnExactValidFaultsSpec)

/-- 'laws.FnExactAddWithFaults', WHERE WHAT IT READS IS OF BULK AT MOST 1048576: true; the input reads as it did. -/
def fnExactAddWithFaultsUptoRow : OpenClaim := { program := "ytmdngcoccekdgaa", sum := "96aae6e4a00cca5196f6151f9d356e8e2bd5f53a4fd8965a64d4476652ce72f0", func := "loop.example/g00930/laws.FnExactAddWithFaults", spec := "fnExactAddWithFaults", unfollowed := true, recurses := true, plainKeys := false, apart := false, narrowed := true }
def FnExactAddWithFaultsUptoSaid : Prop := fnExactAddWithFaultsUptoRow.holds Try.pinned (OpenSpec.upto fnExactAddWithFaultsSpec)

/-- 'laws.FnExactShowsFaults', WHERE WHAT IT READS IS OF BULK AT MOST 1048576: true; the input reads as it did. -/
def fnExactShowsFaultsUptoRow : OpenClaim := { program := "ytmdngcoccekdgaa", sum := "96aae6e4a00cca5196f6151f9d356e8e2bd5f53a4fd8965a64d4476652ce72f0", func := "loop.example/g00930/laws.FnExactShowsFaults", spec := "fnExactShowsFaults", unfollowed := true, recurses := true, plainKeys := false, apart := false, narrowed := true }
def FnExactShowsFaultsUptoSaid : Prop := fnExactShowsFaultsUptoRow.holds Try.pinned (OpenSpec.upto fnExactShowsFaultsSpec)

/-- 'laws.FnExactWitnessOf', WHERE WHAT IT READS IS OF BULK AT MOST 1048576: true; the input reads as it did. -/
def fnExactWitnessOfUptoRow : OpenClaim := { program := "ytmdngcoccekdgaa", sum := "96aae6e4a00cca5196f6151f9d356e8e2bd5f53a4fd8965a64d4476652ce72f0", func := "loop.example/g00930/laws.FnExactWitnessOf", spec := "fnExactWitnessOf", unfollowed := true, recurses := true, plainKeys := false, apart := false, narrowed := true }
def FnExactWitnessOfUptoSaid : Prop := fnExactWitnessOfUptoRow.holds Try.pinned (OpenSpec.upto fnExactWitnessOfSpec)

/-- 'laws.FnExactRightTable', WHERE WHAT IT READS IS OF BULK AT MOST 1048576: true; the input reads as it did. -/
def fnExactRightTableUptoRow : OpenClaim := { program := "ytmdngcoccekdgaa", sum := "96aae6e4a00cca5196f6151f9d356e8e2bd5f53a4fd8965a64d4476652ce72f0", func := "loop.example/g00930/laws.FnExactRightTable", spec := "fnExactRightTable", unfollowed := true, recurses := true, plainKeys := false, apart := false, narrowed := true }
def FnExactRightTableUptoSaid : Prop := fnExactRightTableUptoRow.holds Try.pinned (OpenSpec.upto fnExactRightTableSpec)

/-- 'laws.FnExactTableFault', WHERE WHAT IT READS IS OF BULK AT MOST 1048576: true; the input reads as it did. -/
def fnExactTableFaultUptoRow : OpenClaim := { program := "ytmdngcoccekdgaa", sum := "96aae6e4a00cca5196f6151f9d356e8e2bd5f53a4fd8965a64d4476652ce72f0", func := "loop.example/g00930/laws.FnExactTableFault", spec := "fnExactTableFault", unfollowed := true, recurses := true, plainKeys := false, apart := false, narrowed := true }
def FnExactTableFaultUptoSaid : Prop := fnExactTableFaultUptoRow.holds Try.pinned (OpenSpec.upto fnExactTableFaultSpec)

/-- 'laws.FnExactAddByTable', WHERE WHAT IT READS IS OF BULK AT MOST 1048576: true; the input reads as it did. -/
def fnExactAddByTableUptoRow : OpenClaim := { program := "ytmdngcoccekdgaa", sum := "96aae6e4a00cca5196f6151f9d356e8e2bd5f53a4fd8965a64d4476652ce72f0", func := "loop.example/g00930/laws.FnExactAddByTable", spec := "fnExactAddByTable", unfollowed := true, recurses := true, plainKeys := false, apart := false, narrowed := true }
def FnExactAddByTableUptoSaid : Prop := fnExactAddByTableUptoRow.holds Try.pinned (OpenSpec.upto fnExactAddByTableSpec)

/-- 'laws.FnExactTableWitness', WHERE WHAT IT READS IS OF BULK AT MOST 1048576: true; the input reads as it did. -/
def fnExactTableWitnessUptoRow : OpenClaim := { program := "ytmdngcoccekdgaa", sum := "96aae6e4a00cca5196f6151f9d356e8e2bd5f53a4fd8965a64d4476652ce72f0", func := "loop.example/g00930/laws.FnExactTableWitness", spec := "fnExactTableWitness", unfollowed := true, recurses := true, plainKeys := false, apart := false, narrowed := true }
def FnExactTableWitnessUptoSaid : Prop := fnExactTableWitnessUptoRow.holds Try.pinned (OpenSpec.upto fnExactTableWitnessSpec)

/-- 'laws.FnExactGroupSignals', WHERE WHAT IT READS IS OF BULK AT MOST 1048576: true; the input reads as it did. -/
def fnExactGroupSignalsUptoRow : OpenClaim := { program := "ytmdngcoccekdgaa", sum := "96aae6e4a00cca5196f6151f9d356e8e2bd5f53a4fd8965a64d4476652ce72f0", func := "loop.example/g00930/laws.FnExactGroupSignals", spec := "fnExactGroupSignals", inPlace := ["sync/atomic.LoadUint32", "(*internal/sync.Mutex).Lock", "internal/race.Disable", "sync/atomic.CompareAndSwapInt32", "internal/race.Enable", "internal/race.Acquire", "(*internal/sync.Mutex).lockSlow", "internal/sync.runtime_canSpin", "internal/sync.runtime_doSpin", "internal/sync.throw", "internal/sync.runtime_nanotime", "internal/sync.runtime_SemacquireMutex", "sync/atomic.AddInt32", "(*internal/sync.Mutex).Unlock", "internal/race.ReleaseMerge", "(*internal/sync.Mutex).unlockSlow", "internal/sync.fatal", "internal/sync.runtime_Semrelease", "sync/atomic.StoreUint32"], unfollowed := true, recurses := true, plainKeys := false, apart := false, narrowed := true }
def FnExactGroupSignalsUptoSaid : Prop := fnExactGroupSignalsUptoRow.holds Try.pinned (OpenSpec.upto fnExactGroupSignalsSpec)

end Rows
end Go.Proofs.Ytmdngcoccekdgaa
