/-
  The laws' drums: how one that comes in reads, its copy.
-/
import Derived.Test.YtkhfbhphmdcelaaRows
import Derived.Test.YtkhfbhphmdcelaaFrameF
import Derived.Test.YtkhfbhphmdcelaaFrameI
import Derived.ShutString
namespace Go.Proofs.Ytkhfbhphmdcelaa
open Go.ChangeShapes Go.WideShapes Go.ChangeAt Go.RowKit Go.Joins Go.Deep

set_option maxHeartbeats 400000 in
theorem toDrum_any (K B T F : Int) (w : World) : Calls Try.prog 60 #[.agg #[.int .i64 K, .int .i64 B, .int .i64 T, .int .i64 F]] w fun e w' => e = .returned (.agg #[.int .i64 K, .int .i64 B, .int .i64 T, .int .i64 F]) ∧ Below w.heap.size w w' := by
  go_enter Try.func60, Try.ntmps60
  go_wp2
  exact bodyPost_ret (v := .agg #[.int .i64 K, .int .i64 B, .int .i64 T, .int .i64 F]) (by simp [results, Try.results60, go_sem]) rfl ⟨rfl, (by repeat (first | exact Below.refl _ _ | refine Below.setCell ?_ (by first | omega | (simp <;> omega)) _ | refine Below.alloc ?_ (by first | omega | (simp <;> omega)) _ | refine Below.drew ?_))⟩

section
variable {H : Type} {enc : TypeId × Value → H} {W : World} {base : Nat} {v : Value} {d : DataW H} {p : List MemPlace}
set_option maxRecDepth 100000 in
theorem open_Drum (hval : Value.okWide Try.prog W .any base 73 v) (h : DataW.Trod enc Try.prog W 0 (fun _ => true) true 73 v d p) :
    ∃ K B T F : Int, v = .agg #[.int .i64 K, .int .i64 B, .int .i64 T, .int .i64 F] ∧ I64 K ∧ I64 B ∧ I64 T ∧ I64 F := by
  obtain ⟨c0, c1, c2, c3, y0, y1, y2, y3, m, rfl, rfl, rfl, h0, h1, h2, h3⟩ := open_agg4 Try.underlying73 (by kernel_rfl) (by kernel_rfl) hval h
  obtain ⟨K, e0, rfl, w0⟩ := DataW.trod_int Try.underlying2 h0
  obtain ⟨B, e1, rfl, w1⟩ := DataW.trod_int Try.underlying2 h1
  obtain ⟨T, e2, rfl, w2⟩ := DataW.trod_int Try.underlying2 h2
  obtain ⟨F, e3, rfl, w3⟩ := DataW.trod_int Try.underlying2 h3
  simp at e0 e1 e2 e3
  subst e0 e1 e2 e3
  exact ⟨K, B, T, F, rfl, w0, w1, w2, w3⟩
end
end Go.Proofs.Ytkhfbhphmdcelaa
