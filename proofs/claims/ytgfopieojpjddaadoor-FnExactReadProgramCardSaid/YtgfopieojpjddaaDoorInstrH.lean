/-
  laws: []Instr: marks are held.
-/
import Derived.Test.YtgfopieojpjddaaDoorInstrS
namespace Go.Proofs.YtgfopieojpjddaaDoor
open Go.RowKit

set_option maxHeartbeats 1000000 in
theorem heldInstrS_any (A : Option Addr) (C : Nat) (k : Int) (n : Nat) (w : World) (ha : RdF pairF w A (seq2 k n)) (h0 : 0 ≤ k) (h1 : k ≤ 1000000000000) :
    Calls Tryd.prog 22 #[.slice A n C, .int .i64 k] w fun e w' => e = .returned (.int .i64 (k + 2 * (n : Int))) ∧ w = w' := by
  have hx := ha.len
  rw [seq2_len] at hx
  go_enter Tryd.func22, Tryd.ntmps22
  go_wp2
  go_loop [1, 5] (fun q i => ∃ j : Nat, j ≤ n ∧ i = .int .i64 j ∧ q = .int .i64 (k + 2 * (j : Int))) (fun _ i => n - (intOf i).toNat)
  case atStart => exact ⟨0, Nat.zero_le _, rfl, by go_num⟩
  case round =>
    obtain ⟨j, hj, rfl, rfl⟩ := hrel
    by_cases hlt : j < n
    · obtain ⟨b, off, rfl, hc0, hc1⟩ := ha.at2 (k := j) (by rw [seq2_len]; exact hlt)
      rw [seq2_at hlt] at hc0 hc1
      simp only at hc0 hc1
      have b0 : (k + 2 * (j : Int) != k + 2 * (j : Int)) = false := by simp
      have b1 : (k + 2 * (j : Int) + 1 != k + 2 * (j : Int) + 1) = false := by simp
      go_wp2
      go_round
      case rel => exact ⟨j + 1, by omega, by go_num, by first | go_num | (congr 1; omega)⟩
      case measure => (simp [intOf]) <;> omega
    · obtain rfl : j = n := by omega
      go_wp2
      go_ret
      exact ⟨rfl, rfl⟩

end Go.Proofs.YtgfopieojpjddaaDoor
