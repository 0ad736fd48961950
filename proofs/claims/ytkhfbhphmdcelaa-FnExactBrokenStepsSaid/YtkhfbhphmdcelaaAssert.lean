/-
  An assertion that fails: an interface's method is missing.
-/
import Derived.Test.YtkhfbhphmdcelaaDrumI
import Derived.Laws.Entries
namespace Go.Proofs.Ytkhfbhphmdcelaa
open Go.RowKit

theorem missing_some {want : Array (String × TypeId)} {got : Array Method} {x : String × TypeId} (h : (want.toList.filter fun (name, sig) => !got.any fun m => m.name == name && m.sig == sig) = [x]) : ∃ m, Instr.missingMethod want got = some m := by
  unfold Instr.missingMethod
  simp only [h, List.map_cons, List.map_nil]
  cases hc : x.1.contains '.' with
  | true => exact ⟨_, by simp [List.partition, List.partition.loop, hc, Instr.least]; rfl⟩
  | false => exact ⟨_, by simp [List.partition, List.partition.loop, hc, Instr.least]; rfl⟩
theorem name_missing {nm a : String} {sig : TypeId} {got : Array Method} (h : got.map (·.name) = #[a]) (hne : (a == nm) = false) : ∃ m, Instr.missingMethod #[(nm, sig)] got = some m := by
  refine missing_some (x := (nm, sig)) ?_
  obtain ⟨x, rfl, hx⟩ : ∃ x, got = #[x] ∧ x.name = a := by simpa using h
  simp [hx, beq_eq_false_iff_ne.1 hne]
theorem run_typeInfoD {P : Program} {t : TypeId} {i : TypeInfo} (h : P.info? t = some i) (w : World) : (typeInfo t).run P w = .ok i w := by
  simp [typeInfo, go_sem, h]
theorem assert_fails {P : Program} {w : World} {t tA ty : TypeId} {v z : Value} {want : Array (String × TypeId)} {i : TypeInfo} (hu : P.underlying tA = some (.interface want)) (hi : P.info? t = some i) (hz : ∀ w, (zeroValue tA).run P w = .ok z w)
    (hm : ∃ m, Instr.missingMethod want i.methods = some m) : (Instr.typeAssert (.iface t v) ty tA true).run P w = .ok (.tuple #[z, .bool false]) w := by
  obtain ⟨m, hm⟩ := hm
  simp [Instr.typeAssert, go_sem, run_underlying hu, run_typeInfoD hi, hm, hz]
theorem asserts3 (B T F : Int) (w : World) : (Instr.typeAssert (.iface 206 (.agg #[.int .i64 3, .int .i64 B, .int .i64 T, .int .i64 F])) 165 162 true).run Try.prog w = .ok (.tuple #[.nilIface, .bool false]) w := by
  have hn : (Try.prog.info? 206).map (fun i => i.methods.map (·.name)) = some #["loop.example/g00930/impl.stepTime"] := by kernel_rfl
  cases hi : Try.prog.info? 206 with
  | none => rw [hi] at hn; cases hn
  | some i =>
    rw [hi] at hn
    have hn' : i.methods.map (·.name) = #["loop.example/g00930/impl.stepTime"] := by simpa using hn
    exact assert_fails Try.underlying162 hi (fun _ => by kernel_rfl) (name_missing hn' (by decide))
end Go.Proofs.Ytkhfbhphmdcelaa
