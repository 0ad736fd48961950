/-
  What the frame of each statement's proof wants: how the arguments of a law read.
-/
import Derived.Test.YtlahobdopmdfmaaDoorFrameI
namespace Go.Proofs.YtlahobdopmdfmaaDoor
open Go.ChangeShapes Go.WideShapes Go.ChangeAt Go.RowKit Go.Joins
open Go.ChangeMaps (open_string shut_string)

section
variable {H : Type} {enc : TypeId × Value → H} {W : World} {base : Nat} {v : Value} {d : DataW H} {p : List MemPlace}

theorem cells_Register : Tryd.prog.cellsOf 70 = 2 := by kernel_rfl
set_option maxRecDepth 100000 in
theorem open_Register (hval : Value.okWide Tryd.prog W .any base 70 v) (h : DataW.Trod enc Tryd.prog W 0 (fun _ => true) true 70 v d p) :
    ∃ B A C Z, v = .agg #[.int .i64 B, .slice A (List.length Z) C] ∧ Raw W A Z ∧ I64 B := by
  obtain ⟨c0, c1, y0, y1, m, rfl, rfl, rfl, hy0, hy1⟩ := open_agg2 Tryd.underlying70 (by kernel_rfl) cells_Register hval h
  obtain ⟨B, e0, rfl, wB⟩ := DataW.trod_int Tryd.underlying2 hy0
  obtain ⟨A, C, Z, rfl, hr⟩ := raw_of_trod hy1
  simp at e0
  subst e0
  exact ⟨B, A, C, Z, rfl, hr, wB⟩
end
end Go.Proofs.YtlahobdopmdfmaaDoor
