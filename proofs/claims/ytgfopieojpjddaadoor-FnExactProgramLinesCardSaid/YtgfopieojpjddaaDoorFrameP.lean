/-
  How the laws' arguments read: instructions, lists of them.
-/
import Derived.Test.YtgfopieojpjddaaDoorRows
import Derived.Test.YtgfopieojpjddaaDoorKnob
import Derived.Test.YtgfopieojpjddaaDoorFrameF
import Derived.ShutString
namespace Go.Proofs.YtgfopieojpjddaaDoor
open Go.ChangeShapes Go.WideShapes Go.ChangeAt Go.RowKit Go.Joins Go.Deep

section
variable {H : Type} {enc : TypeId × Value → H} {W : World} {base : Nat} {v : Value} {d : DataW H} {p : List MemPlace}

set_option maxRecDepth 100000 in
theorem open_Instr (hval : Value.okWide Tryd.prog W .any base 89 v) (h : DataW.Trod enc Tryd.prog W 0 (fun _ => true) true 89 v d p) :
    ∃ x : Int × Int, v = .agg #[.int .i64 x.1, .int .i64 x.2] ∧ I64 x.1 ∧ I64 x.2 := by
  obtain ⟨c0, c1, y0, y1, m, rfl, rfl, rfl, h0, h1⟩ := open_agg2 Tryd.underlying89 (by kernel_rfl) (by kernel_rfl) hval h
  obtain ⟨U, e0, rfl, wU⟩ := DataW.trod_int Tryd.underlying2 h0
  obtain ⟨L, e1, rfl, wL⟩ := DataW.trod_int Tryd.underlying2 h1
  simp at e0 e1
  subst e0 e1
  exact ⟨(U, L), rfl, wU, wL⟩

set_option maxRecDepth 100000 in
theorem open_InstrS (hval : Value.okWide Tryd.prog W .any base 34 v) (h : DataW.Trod enc Tryd.prog W 0 (fun _ => true) true 34 v d p) :
    ∃ A C xs, v = .slice A (List.length xs) C ∧ RawF pairF (fun x => I64 x.1 ∧ I64 x.2) W A xs := by
  obtain ⟨a0, len, cap, rfl⟩ := okWide_slice Tryd.underlying34 hval
  obtain ⟨fuel, hf⟩ := h
  exact row_pairs Tryd.underlying34 Tryd.underlying89 (by kernel_rfl) (by kernel_rfl) rfl rfl Tryd.underlying2 (by simpa [Value.cells] using hf)
end
end Go.Proofs.YtgfopieojpjddaaDoor
