/-
  laws: LeverFault and []LeverFault: copies, equality, sizes, marks.
-/
import Derived.Test.YtiogbpnnnpodkaaProg
import Derived.Test.YtiogbpnnnpodkaaFlat
import Derived.Test.YtiogbpnnnpodkaaLeft
namespace Go.Proofs.Ytiogbpnnnpodkaa
open Go.RowKit

theorem info_LeverFault : (Try.prog.info? 42).map (fun i => (i.zero, i.size, i.bytes)) = some (some (.agg #[.int .i64 0, .int .i64 0]), 2, 16) := by kernel_rfl

set_option maxHeartbeats 400000 in
theorem toLeverFault_any (x : (Int × Int)) (w : World) : Calls Try.prog 19 #[.agg #[.int .i64 x.1, .int .i64 x.2]] w fun e w' => e = .returned (.agg #[.int .i64 x.1, .int .i64 x.2]) ∧ Below w.heap.size w w' := by
  go_enter Try.func19, Try.ntmps19
  go_wp2
  exact bodyPost_ret (v := .agg #[.int .i64 x.1, .int .i64 x.2]) (by simp [results, Try.results19, go_sem]) rfl ⟨rfl, (by repeat (first | exact Below.refl _ _ | refine Below.setCell ?_ (by first | omega | (simp <;> omega)) _ | refine Below.alloc ?_ (by first | omega | (simp <;> omega)) _ | refine Below.drew ?_))⟩

theorem LeverFault_ext {x y : (Int × Int)} (h0 : x.1 = y.1) (h1 : x.2 = y.2) : x = y := by
  obtain ⟨a0, a1⟩ := x
  obtain ⟨b0, b1⟩ := y
  simp only at h0 h1
  subst h0 h1
  rfl

end Go.Proofs.Ytiogbpnnnpodkaa
