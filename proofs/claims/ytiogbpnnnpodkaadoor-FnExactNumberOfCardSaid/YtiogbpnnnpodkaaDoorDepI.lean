/-
  DepthAhead, BestGroup: the program's and the model's.
-/
import Derived.Test.YtiogbpnnnpodkaaDoorSigM
import Derived.Lib.MinMax
namespace Go.Proofs.YtiogbpnnnpodkaaDoor
open Go.RowKit

set_option maxHeartbeats 1000000 in
theorem isWidth_any (n : Int) (w : World) : Calls Tryd.prog 112 #[.int .i64 n] w fun e w' => e = .returned (.bool (inB n 1 16)) ∧ w' = w := by
  cases h : inB n 1 16 with
  | true =>
    obtain ⟨h1, h2⟩ := inB_true h
    have d1 : decide (n ≥ 1) = true := decide_eq_true h1
    have d2 : decide (n ≤ 16) = true := decide_eq_true h2
    clear h
    go_enter Tryd.func112, Tryd.ntmps112
    go_wp2
    go_ret
    exact ⟨rfl, rfl⟩
  | false =>
    have hh := inB_false h
    clear h
    rcases Int.lt_or_le n 1 with h1 | h1
    · have d1 : decide (n ≥ 1) = false := decide_eq_false (by omega)
      have h1' : ¬ 1 ≤ n := by omega
      clear hh h1
      go_enter Tryd.func112, Tryd.ntmps112
      go_wp2
      go_ret
      exact ⟨rfl, rfl⟩
    · have d1 : decide (n ≥ 1) = true := decide_eq_true h1
      have d2 : decide (n ≤ 16) = false := decide_eq_false (by omega)
      have h2 : ¬ n ≤ 16 := by omega
      clear hh
      go_enter Tryd.func112, Tryd.ntmps112
      go_wp2
      go_ret
      exact ⟨rfl, rfl⟩
theorem isWidth_at {b : Bool} (n : Int) (w : World) (h : inB n 1 16 = b) : Calls Tryd.prog 112 #[.int .i64 n] w fun e w' => e = .returned (.bool b) ∧ w' = w := by
  subst h; exact isWidth_any n w

/-- What a division yields. -/
theorem dep_name {w s : Int} (h1 : 1 ≤ w) (h2 : w ≤ 16) (h3 : 1 ≤ s) (h4 : s ≤ 16) : ∃ q m : Int, (w + s - 1).tdiv s = q ∧ min w s = m ∧ dep w s = 2 * m + q - 1 ∧ 0 ≤ q ∧ q ≤ 31 ∧ 1 ≤ m ∧ m ≤ 16 := by
  have := dep_bd h1 h2 h3 h4
  exact ⟨_, _, by rw [Int.tdiv_eq_ediv_of_nonneg (by omega)], rfl, rfl, this.1, this.2, by omega, by omega⟩

theorem depR_ok {w s : Int} (h1 : inB w 1 16 = true) (h2 : inB s 1 16 = true) : depR w s = (dep w s, 0) := by simp [depR, h1, h2]
theorem depR_bad1 {w s : Int} (h1 : inB w 1 16 = false) : depR w s = (0, 2) := by simp [depR, h1]
theorem depR_bad2 {w s : Int} (h2 : inB s 1 16 = false) : depR w s = (0, 2) := by simp [depR, h2]

theorem bgR_ok {n : Int} (h : inB n 1 16 = true) : bgR n = (bst n 16, dep n (bst n 16), 0) := by simp [bgR, h]
theorem bgR_bad {n : Int} (h : inB n 1 16 = false) : bgR n = (0, 0, 2) := by simp [bgR, h]
theorem dep_lo {n s : Int} (h1 : 1 ≤ n) (h2 : n ≤ 16) (h3 : 1 ≤ s) (h4 : s ≤ 16) : 0 ≤ dep n s ∧ dep n s ≤ 100 := by
  obtain ⟨q, m, _, _, hd, _⟩ := dep_name h1 h2 h3 h4
  omega

end Go.Proofs.YtiogbpnnnpodkaaDoor
