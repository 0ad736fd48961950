/-
  How the laws' arguments read: rows of a table.
-/
import Derived.Test.YtmdngcoccekdgaaRows
import Derived.Test.YtmdngcoccekdgaaKnob
import Derived.Test.YtmdngcoccekdgaaFlat5
import Derived.ShutString
namespace Go.Proofs.Ytmdngcoccekdgaa
open Go.ChangeShapes Go.WideShapes Go.ChangeAt Go.RowKit Go.Joins Go.Deep

section
variable {H : Type} {enc : TypeId × Value → H} {W : World} {base : Nat} {v : Value} {d : DataW H} {p : List MemPlace}
set_option maxRecDepth 100000 in
theorem open_AddRowS (hval : Value.okWide Try.prog W .any base 66 v) (h : DataW.Trod enc Try.prog W 0 (fun _ => true) true 66 v d p) :
    ∃ A C xs, v = .slice A (List.length xs) C ∧ RawF quinF (fun x => I64 x.1 ∧ I64 x.2.1 ∧ I64 x.2.2.1 ∧ I64 x.2.2.2.1 ∧ I64 x.2.2.2.2) W A xs := by
  obtain ⟨a0, len, cap, rfl⟩ := okWide_slice Try.underlying66 hval
  obtain ⟨fuel, hf⟩ := h
  exact row_quins Try.underlying66 Try.underlying118 (by kernel_rfl) (by kernel_rfl) rfl rfl rfl rfl rfl Try.underlying2 (by simpa [Value.cells] using hf)
end
end Go.Proofs.Ytmdngcoccekdgaa
