/-
  How the laws' arguments read: abaci, moves of beads.
-/
import Derived.Test.YtmnnciiiifjjcaaRows
import Derived.Test.YtmnnciiiifjjcaaKnob
import Derived.Test.YtmnnciiiifjjcaaFrameF
import Derived.ShutString
namespace Go.Proofs.Ytmnnciiiifjjcaa
open Go.ChangeShapes Go.WideShapes Go.ChangeAt Go.RowKit Go.Joins Go.Deep

section
variable {H : Type} {enc : TypeId × Value → H} {W : World} {base : Nat} {v : Value} {d : DataW H} {p : List MemPlace}

set_option maxRecDepth 100000 in
theorem open_Abacus (hval : Value.okWide Try.prog W .any base 61 v) (h : DataW.Trod enc Try.prog W 0 (fun _ => true) true 61 v d p) :
    ∃ U L Wo A C rs, v = .agg #[.int .i64 U, .int .i64 L, .int .i64 Wo, .slice A (List.length rs) C] ∧ RawF pairF (fun x => I64 x.1 ∧ I64 x.2) W A rs ∧ I64 U ∧ I64 L ∧ I64 Wo := by
  obtain ⟨c0, c1, c2, c3, y0, y1, y2, y3, m, rfl, rfl, rfl, h0, h1, h2, h3⟩ := open_agg4 Try.underlying61 (by kernel_rfl) (by kernel_rfl) hval h
  obtain ⟨U, e0, rfl, wU⟩ := DataW.trod_int Try.underlying2 h0
  obtain ⟨L, e1, rfl, wL⟩ := DataW.trod_int Try.underlying2 h1
  obtain ⟨Wo, e2, rfl, wW⟩ := DataW.trod_int Try.underlying2 h2
  obtain ⟨A, C, rs, rfl, hr⟩ := row_pairs Try.underlying59 Try.underlying152 (by kernel_rfl) (by kernel_rfl) rfl rfl Try.underlying2 h3
  simp at e0 e1 e2
  subst e0 e1 e2
  exact ⟨U, L, Wo, A, C, rs, rfl, hr, wU, wL, wW⟩

end
end Go.Proofs.Ytmnnciiiifjjcaa
