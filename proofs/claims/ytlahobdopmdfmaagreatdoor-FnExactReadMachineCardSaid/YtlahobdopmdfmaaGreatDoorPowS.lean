/-
  spec: the power of a base, whether all registers of a width are valid; AccumulatorRange.
-/
import Derived.Test.YtlahobdopmdfmaaGreatDoorInS
import Derived.Test.YtlahobdopmdfmaaGreatDoorAccM
import Derived.Test.YtlahobdopmdfmaaGreatDoorOkS
namespace Go.Proofs.YtlahobdopmdfmaaGreatDoor
open Go.RowKit

set_option maxHeartbeats 1000000 in
theorem l10Power_any (B : Int) (n : Nat) (w : World) (b1 : 1 ≤ B) (b2 : B ≤ 16) (hn : n ≤ 16) :
    Calls Tryz.prog 111 #[.int .i64 B, .int .i64 n] w fun e w' => e = .returned (.int .i64 (capW B n)) ∧ w' = w := by
  go_enter Tryz.func111, Tryz.ntmps111
  go_wp2
  go_loop [1, 5] (fun i o => ∃ k m : Nat, k + m = n ∧ i = .int .i64 m ∧ o = .int .i64 (capW B k)) (fun i _ => (intOf i).toNat)
  case atStart => exact ⟨0, n, by omega, rfl, by rw [capW_zero]⟩
  case round =>
    obtain ⟨k, m, hkm, rfl, rfl⟩ := hrel
    by_cases hlt : 0 < m
    · have hb := capW_bd b1 k
      have hm0 : capW B k * B ≤ 1000000000002 * 16 := Int.mul_le_mul hb.2 b2 (by omega) (by omega)
      have hm1 : 0 ≤ capW B k * B := Int.mul_nonneg (by omega) (by omega)
      have hs := Lib.hid (capW_succ b1 k)
      obtain ⟨q, hq⟩ : ∃ q, q = capW B k * B := ⟨_, rfl⟩
      rw [← hq] at hs hm0 hm1
      have hw1 : IntKind.i64.wrap (capW B k * B) = q := by rw [← hq]; exact IntWalk.i64_in _ (by omega)
      have hw2 : wrap64 (capW B k * B) = q := by rw [← hq]; unfold wrap64; omega
      clear hq hm0 hm1
      go_wp2_with (go_at_call 83; refine (l00Min_any _ _ _).mono ?_; rintro e w1 ⟨rfl, rfl⟩)
      go_round
      case rel => exact ⟨k + 1, m - 1, by omega, by go_num, by rw [← hs.out]⟩
      case measure => simp [intOf]; omega
    · obtain rfl : m = 0 := by omega
      obtain rfl : k = n := by omega
      go_wp2
      go_ret
      exact ⟨rfl, rfl⟩

theorem l10Full_any (B : Int) (n : Nat) (w : World) (b1 : 1 ≤ B) (b2 : B ≤ 16) (hn : n ≤ 16) :
    Calls Tryz.prog 71 #[.int .i64 B, .int .i64 n] w fun e w' => e = .returned (.bool (decide (B ^ n - 1 ≤ 1000000000000))) ∧ w' = w := by
  have hb := capW_bd b1 n
  have ht := Lib.hid (show decide (capW B n - 1 ≤ 1000000000000) = decide (B ^ n - 1 ≤ 1000000000000) from decide_eq_decide.2 capW_test)
  go_enter Tryz.func71, Tryz.ntmps71
  go_wp2_with fail
  refine (l10Power_any B n _ b1 b2 hn).mono ?_
  rintro e w1 ⟨rfl, rfl⟩
  go_wp2
  go_ret
  exact ⟨ret_bool ht.out, rfl⟩

end Go.Proofs.YtlahobdopmdfmaaGreatDoor
