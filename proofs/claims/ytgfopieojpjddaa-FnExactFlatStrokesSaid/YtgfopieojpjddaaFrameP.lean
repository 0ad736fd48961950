/-
  How the laws' arguments read: instructions, lists of them.
-/
import Derived.Test.YtgfopieojpjddaaRows
import Derived.Test.YtgfopieojpjddaaKnob
import Derived.Test.YtgfopieojpjddaaFrameF
import Derived.ShutString
namespace Go.Proofs.Ytgfopieojpjddaa
open Go.ChangeShapes Go.WideShapes Go.ChangeAt Go.RowKit Go.Joins Go.Deep

section
variable {H : Type} {enc : TypeId × Value → H} {W : World} {base : Nat} {v : Value} {d : DataW H} {p : List MemPlace}

set_option maxRecDepth 100000 in
theorem open_Instr (hval : Value.okWide Try.prog W .any base 43 v) (h : DataW.Trod enc Try.prog W 0 (fun _ => true) true 43 v d p) :
    ∃ x : Int × Int, v = .agg #[.int .i64 x.1, .int .i64 x.2] ∧ I64 x.1 ∧ I64 x.2 := by
  obtain ⟨c0, c1, y0, y1, m, rfl, rfl, rfl, h0, h1⟩ := open_agg2 Try.underlying43 (by kernel_rfl) (by kernel_rfl) hval h
  obtain ⟨U, e0, rfl, wU⟩ := DataW.trod_int Try.underlying2 h0
  obtain ⟨L, e1, rfl, wL⟩ := DataW.trod_int Try.underlying2 h1
  simp at e0 e1
  subst e0 e1
  exact ⟨(U, L), rfl, wU, wL⟩

set_option maxRecDepth 100000 in
theorem open_InstrS (hval : Value.okWide Try.prog W .any base 22 v) (h : DataW.Trod enc Try.prog W 0 (fun _ => true) true 22 v d p) :
    ∃ A C xs, v = .slice A (List.length xs) C ∧ RawF pairF (fun x => I64 x.1 ∧ I64 x.2) W A xs := by
  obtain ⟨a0, len, cap, rfl⟩ := okWide_slice Try.underlying22 hval
  obtain ⟨fuel, hf⟩ := h
  exact row_pairs Try.underlying22 Try.underlying43 (by kernel_rfl) (by kernel_rfl) rfl rfl Try.underlying2 (by simpa [Value.cells] using hf)
end
end Go.Proofs.Ytgfopieojpjddaa
