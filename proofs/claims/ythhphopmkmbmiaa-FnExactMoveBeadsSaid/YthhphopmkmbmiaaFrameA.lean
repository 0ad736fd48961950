/-
  How the laws' arguments read: abaci, moves of beads.
-/
import Derived.Test.YthhphopmkmbmiaaRows
import Derived.Test.YthhphopmkmbmiaaKnob
import Derived.Test.YthhphopmkmbmiaaFrameF
import Derived.ShutString
namespace Go.Proofs.Ythhphopmkmbmiaa
open Go.ChangeShapes Go.WideShapes Go.ChangeAt Go.RowKit Go.Joins Go.Deep

section
variable {H : Type} {enc : TypeId × Value → H} {W : World} {base : Nat} {v : Value} {d : DataW H} {p : List MemPlace}

set_option maxRecDepth 100000 in
theorem open_Abacus (hval : Value.okWide Try.prog W .any base 73 v) (h : DataW.Trod enc Try.prog W 0 (fun _ => true) true 73 v d p) :
    ∃ U L Wo A C rs, v = .agg #[.int .i64 U, .int .i64 L, .int .i64 Wo, .slice A (List.length rs) C] ∧ RawF pairF (fun x => I64 x.1 ∧ I64 x.2) W A rs ∧ I64 U ∧ I64 L ∧ I64 Wo := by
  obtain ⟨c0, c1, c2, c3, y0, y1, y2, y3, m, rfl, rfl, rfl, h0, h1, h2, h3⟩ := open_agg4 Try.underlying73 (by kernel_rfl) (by kernel_rfl) hval h
  obtain ⟨U, e0, rfl, wU⟩ := DataW.trod_int Try.underlying2 h0
  obtain ⟨L, e1, rfl, wL⟩ := DataW.trod_int Try.underlying2 h1
  obtain ⟨Wo, e2, rfl, wW⟩ := DataW.trod_int Try.underlying2 h2
  obtain ⟨A, C, rs, rfl, hr⟩ := row_pairs Try.underlying71 Try.underlying188 (by kernel_rfl) (by kernel_rfl) rfl rfl Try.underlying2 h3
  simp at e0 e1 e2
  subst e0 e1 e2
  exact ⟨U, L, Wo, A, C, rs, rfl, hr, wU, wL, wW⟩

set_option maxRecDepth 100000 in
theorem open_BeadMove (hval : Value.okWide Try.prog W .any base 80 v) (h : DataW.Trod enc Try.prog W 0 (fun _ => true) true 80 v d p) :
    ∃ x : Int × Int × Int, v = .agg #[.int .i64 x.1, .int .i64 x.2.1, .int .i64 x.2.2] ∧ I64 x.1 ∧ I64 x.2.1 ∧ I64 x.2.2 := by
  obtain ⟨c0, c1, c2, y0, y1, y2, m, rfl, rfl, rfl, h0, h1, h2⟩ := open_agg3 Try.underlying80 (by kernel_rfl) (by kernel_rfl) hval h
  obtain ⟨U, e0, rfl, wU⟩ := DataW.trod_int Try.underlying2 h0
  obtain ⟨L, e1, rfl, wL⟩ := DataW.trod_int Try.underlying2 h1
  obtain ⟨Wo, e2, rfl, wW⟩ := DataW.trod_int Try.underlying2 h2
  simp at e0 e1 e2
  subst e0 e1 e2
  exact ⟨(U, L, Wo), rfl, wU, wL, wW⟩

set_option maxRecDepth 100000 in
theorem open_BeadMoveS (hval : Value.okWide Try.prog W .any base 84 v) (h : DataW.Trod enc Try.prog W 0 (fun _ => true) true 84 v d p) :
    ∃ A C xs, v = .slice A (List.length xs) C ∧ RawF tripF (fun x => I64 x.1 ∧ I64 x.2.1 ∧ I64 x.2.2) W A xs := by
  obtain ⟨a0, len, cap, rfl⟩ := okWide_slice Try.underlying84 hval
  obtain ⟨fuel, hf⟩ := h
  exact row_trips Try.underlying84 Try.underlying80 (by kernel_rfl) (by kernel_rfl) rfl rfl rfl Try.underlying2 (by simpa [Value.cells] using hf)
end
end Go.Proofs.Ythhphopmkmbmiaa
