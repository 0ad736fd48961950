/-
  isWidth, l07Size: is a number a width?
-/
import Derived.Test.YtgfopieojpjddaaDoorProg
import Derived.Test.YtgfopieojpjddaaDoorInS
namespace Go.Proofs.YtgfopieojpjddaaDoor
open Go.RowKit

set_option maxHeartbeats 1000000 in
theorem isWidth_any (n : Int) (w : World) : Calls Tryd.prog 89 #[.int .i64 n] w fun e w' => e = .returned (.bool (inB n 1 16)) ∧ w' = w := by
  cases h : inB n 1 16 with
  | true =>
    obtain ⟨h1, h2⟩ := inB_true h
    have d1 : decide (n ≥ 1) = true := decide_eq_true h1
    have d2 : decide (n ≤ 16) = true := decide_eq_true h2
    clear h
    go_enter Tryd.func89, Tryd.ntmps89
    go_wp2
    go_ret
    exact ⟨rfl, rfl⟩
  | false =>
    have hh := inB_false h
    clear h
    rcases Int.lt_or_le n 1 with h1 | h1
    · have d1 : decide (n ≥ 1) = false := decide_eq_false (by omega)
      have h1' : ¬ 1 ≤ n := by omega
      clear hh h1
      go_enter Tryd.func89, Tryd.ntmps89
      go_wp2
      go_ret
      exact ⟨rfl, rfl⟩
    · have d1 : decide (n ≥ 1) = true := decide_eq_true h1
      have d2 : decide (n ≤ 16) = false := decide_eq_false (by omega)
      have h2 : ¬ n ≤ 16 := by omega
      clear hh
      go_enter Tryd.func89, Tryd.ntmps89
      go_wp2
      go_ret
      exact ⟨rfl, rfl⟩
theorem isWidth_at {b : Bool} (n : Int) (w : World) (h : inB n 1 16 = b) : Calls Tryd.prog 89 #[.int .i64 n] w fun e w' => e = .returned (.bool b) ∧ w' = w := by
  subst h; exact isWidth_any n w

end Go.Proofs.YtgfopieojpjddaaDoor
