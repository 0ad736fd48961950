/-
  How the laws' arguments of chapter 4 read: trains, chains.
-/
import Derived.Test.YtaefgkhbgljkoaaRows
import Derived.Test.YtaefgkhbgljkoaaKnob
import Derived.Test.YtaefgkhbgljkoaaFrameF
import Derived.Test.YtaefgkhbgljkoaaFrameI
import Derived.Test.YtaefgkhbgljkoaaOwn2
namespace Go.Proofs.Ytaefgkhbgljkoaa
open Go.ChangeShapes Go.WideShapes Go.ChangeAt Go.RowKit Go.Joins Go.Deep

section
variable {H : Type} {enc : TypeId × Value → H} {W : World} {base : Nat} {v : Value} {d : DataW H} {p : List MemPlace}

set_option maxRecDepth 100000 in
theorem open_GearPairS (hval : Value.okWide Try.prog W .any base 50 v) (h : DataW.Trod enc Try.prog W 0 (fun _ => true) true 50 v d p) :
    ∃ A C xs, v = .slice A (List.length xs) C ∧ RawF pairF (fun x => I64 x.1 ∧ I64 x.2) W A xs := by
  obtain ⟨a0, len, cap, rfl⟩ := okWide_slice Try.underlying50 hval
  obtain ⟨fuel, hf⟩ := h
  exact row_pairs Try.underlying50 Try.underlying92 (by kernel_rfl) (by kernel_rfl) rfl rfl Try.underlying2 (by simpa [Value.cells] using hf)

set_option maxRecDepth 100000 in
theorem open_Chain (hval : Value.okWide Try.prog W .any base 60 v) (h : DataW.Trod enc Try.prog W 0 (fun _ => true) true 60 v d p) :
    ∃ A C P D E Q, v = .agg #[.slice A (List.length P) C, .slice D (List.length Q) E] ∧ Raw2 W A P D Q := by
  obtain ⟨c0, c1, y0, y1, m, rfl, rfl, rfl, hy0, hy1⟩ := open_agg2 Try.underlying60 (by kernel_rfl) (by kernel_rfl) hval h
  obtain ⟨A, C, P, e0, hp⟩ := raw_of_trod hy0
  obtain ⟨D, E, Q, e1, hq⟩ := raw_of_trod hy1
  subst e0 e1
  exact ⟨A, C, P, D, E, Q, rfl, hp, hq⟩
end
end Go.Proofs.Ytaefgkhbgljkoaa
