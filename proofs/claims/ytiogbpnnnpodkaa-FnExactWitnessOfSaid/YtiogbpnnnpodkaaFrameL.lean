/-
  How the laws' arguments read: faults of levers, lists of them.
-/
import Derived.Test.YtiogbpnnnpodkaaRows
import Derived.Test.YtiogbpnnnpodkaaKnob
import Derived.Test.YtiogbpnnnpodkaaFrameF
import Derived.ShutString
namespace Go.Proofs.Ytiogbpnnnpodkaa
open Go.ChangeShapes Go.WideShapes Go.ChangeAt Go.RowKit Go.Joins Go.Deep

section
variable {H : Type} {enc : TypeId × Value → H} {W : World} {base : Nat} {v : Value} {d : DataW H} {p : List MemPlace}

set_option maxRecDepth 100000 in
theorem open_LeverFault (hval : Value.okWide Try.prog W .any base 39 v) (h : DataW.Trod enc Try.prog W 0 (fun _ => true) true 39 v d p) :
    ∃ x : Int × Int, v = .agg #[.int .i64 x.1, .int .i64 x.2] ∧ I64 x.1 ∧ I64 x.2 := by
  obtain ⟨c0, c1, y0, y1, m, rfl, rfl, rfl, h0, h1⟩ := open_agg2 Try.underlying39 (by kernel_rfl) (by kernel_rfl) hval h
  obtain ⟨U, e0, rfl, wU⟩ := DataW.trod_int Try.underlying2 h0
  obtain ⟨L, e1, rfl, wL⟩ := DataW.trod_int Try.underlying2 h1
  simp at e0 e1
  subst e0 e1
  exact ⟨(U, L), rfl, wU, wL⟩

end
end Go.Proofs.Ytiogbpnnnpodkaa
