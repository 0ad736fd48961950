/-
  laws: LeverFault and []LeverFault: copies, equality, sizes, marks.
-/
import Derived.Test.YtgfopieojpjddaaDoorProg
import Derived.Test.YtgfopieojpjddaaDoorFlat
import Derived.Test.YtgfopieojpjddaaDoorLeft
namespace Go.Proofs.YtgfopieojpjddaaDoor
open Go.RowKit

theorem info_LeverFault : (Tryd.prog.info? 53).map (fun i => (i.zero, i.size, i.bytes)) = some (some (.agg #[.int .i64 0, .int .i64 0]), 2, 16) := by kernel_rfl

theorem LeverFault_ext {x y : (Int × Int)} (h0 : x.1 = y.1) (h1 : x.2 = y.2) : x = y := by
  obtain ⟨a0, a1⟩ := x
  obtain ⟨b0, b1⟩ := y
  simp only at h0 h1
  subst h0 h1
  rfl

set_option maxHeartbeats 400000 in
theorem eqLeverFault_any (x y : (Int × Int)) (w : World) : Calls Tryd.prog 39 #[.agg #[.int .i64 x.1, .int .i64 x.2], .agg #[.int .i64 y.1, .int .i64 y.2]] w fun e w' => e = .returned (.bool (decide (x = y))) ∧ Below w.heap.size w w' := by
  by_cases h0 : x.1 = y.1
  · have b0 : (x.1 != y.1) = false := by simp [h0]
    have H0 := Lib.hid h0
    clear h0
    by_cases h1 : x.2 = y.2
    · have b1 : (x.2 != y.2) = false := by simp [h1]
      have H1 := Lib.hid h1
      clear h1
      go_enter Tryd.func39, Tryd.ntmps39
      go_wp2
      go_ret
      exact ⟨ret_bool (decide_eq_true (LeverFault_ext H0.out H1.out)).symm, (by repeat (first | exact Below.refl _ _ | refine Below.setCell ?_ (by first | omega | (simp <;> omega)) _ | refine Below.alloc ?_ (by first | omega | (simp <;> omega)) _ | refine Below.drew ?_))⟩
    · have b1 : (x.2 != y.2) = true := by simp [h1]
      have H1 := Lib.hid h1
      clear h1
      go_enter Tryd.func39, Tryd.ntmps39
      go_wp2
      go_ret
      exact ⟨ret_bool (decide_eq_false (by rintro rfl; exact H1.out rfl)).symm, (by repeat (first | exact Below.refl _ _ | refine Below.setCell ?_ (by first | omega | (simp <;> omega)) _ | refine Below.alloc ?_ (by first | omega | (simp <;> omega)) _ | refine Below.drew ?_))⟩
  · have b0 : (x.1 != y.1) = true := by simp [h0]
    have H0 := Lib.hid h0
    clear h0
    go_enter Tryd.func39, Tryd.ntmps39
    go_wp2
    go_ret
    exact ⟨ret_bool (decide_eq_false (by rintro rfl; exact H0.out rfl)).symm, (by repeat (first | exact Below.refl _ _ | refine Below.setCell ?_ (by first | omega | (simp <;> omega)) _ | refine Below.alloc ?_ (by first | omega | (simp <;> omega)) _ | refine Below.drew ?_))⟩

end Go.Proofs.YtgfopieojpjddaaDoor
