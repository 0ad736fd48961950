/-
  How the laws' arguments read: events of an addition.
-/
import Derived.Test.YtgfpjcckkbhdjaaRows
import Derived.Test.YtgfpjcckkbhdjaaKnob
import Derived.Test.YtgfpjcckkbhdjaaFrameF
import Derived.ShutString
namespace Go.Proofs.Ytgfpjcckkbhdjaa
open Go.ChangeShapes Go.WideShapes Go.ChangeAt Go.RowKit Go.Joins Go.Deep

section
variable {H : Type} {enc : TypeId × Value → H} {W : World} {base : Nat} {v : Value} {d : DataW H} {p : List MemPlace}

set_option maxRecDepth 100000 in
theorem open_CarryEvent (hval : Value.okWide Try.prog W .any base 113 v) (h : DataW.Trod enc Try.prog W 0 (fun _ => true) true 113 v d p) :
    ∃ x : Int × Int × Int, v = .agg #[.int .i64 x.1, .int .i64 x.2.1, .int .i64 x.2.2] ∧ I64 x.1 ∧ I64 x.2.1 ∧ I64 x.2.2 := by
  obtain ⟨c0, c1, c2, y0, y1, y2, m, rfl, rfl, rfl, h0, h1, h2⟩ := open_agg3 Try.underlying113 (by kernel_rfl) (by kernel_rfl) hval h
  obtain ⟨U, e0, rfl, wU⟩ := DataW.trod_int Try.underlying2 h0
  obtain ⟨L, e1, rfl, wL⟩ := DataW.trod_int Try.underlying2 h1
  obtain ⟨Wo, e2, rfl, wW⟩ := DataW.trod_int Try.underlying2 h2
  simp at e0 e1 e2
  subst e0 e1 e2
  exact ⟨(U, L, Wo), rfl, wU, wL, wW⟩

set_option maxRecDepth 100000 in
theorem open_CarryEventS (hval : Value.okWide Try.prog W .any base 108 v) (h : DataW.Trod enc Try.prog W 0 (fun _ => true) true 108 v d p) :
    ∃ A C xs, v = .slice A (List.length xs) C ∧ RawF tripF (fun x => I64 x.1 ∧ I64 x.2.1 ∧ I64 x.2.2) W A xs := by
  obtain ⟨a0, len, cap, rfl⟩ := okWide_slice Try.underlying108 hval
  obtain ⟨fuel, hf⟩ := h
  exact row_trips Try.underlying108 Try.underlying113 (by kernel_rfl) (by kernel_rfl) rfl rfl rfl Try.underlying2 (by simpa [Value.cells] using hf)
end
end Go.Proofs.Ytgfpjcckkbhdjaa
