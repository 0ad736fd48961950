/-
  spec: the power of a base, whether all registers of a width are valid; AccumulatorRange.
-/
import Derived.Test.YtlahobdopmdfmaaDoorInS
import Derived.Test.YtlahobdopmdfmaaDoorAccM
import Derived.Test.YtlahobdopmdfmaaDoorOkS
namespace Go.Proofs.YtlahobdopmdfmaaDoor
open Go.RowKit

set_option maxHeartbeats 1000000 in
theorem l10Power_any (B : Int) (n : Nat) (w : World) (b1 : 1 ≤ B) (b2 : B ≤ 16) (hn : n ≤ 16) :
    Calls Tryd.prog 103 #[.int .i64 B, .int .i64 n] w fun e w' => e = .returned (.int .i64 (capW B n)) ∧ w' = w := by
  go_enter Tryd.func103, Tryd.ntmps103
  go_wp2
  go_loop [1, 5] (fun i o => ∃ k m : Nat, k + m = n ∧ i = .int .i64 m ∧ o = .int .i64 (capW B k)) (fun i _ => (intOf i).toNat)
  case atStart => exact ⟨0, n, by omega, rfl, by rw [capW_zero]⟩
  case round =>
    obtain ⟨k, m, hkm, rfl, rfl⟩ := hrel
    by_cases hlt : 0 < m
    · have hb := capW_bd b1 k
      have hm0 : capW B k * B ≤ 1000000000002 * 16 := Int.mul_le_mul hb.2 b2 (by omega) (by omega)
      have hm1 : 0 ≤ capW B k * B := Int.mul_nonneg (by omega) (by omega)
      have hs := Lib.hid (capW_succ b1 k)
      obtain ⟨q, hq⟩ : ∃ q, q = capW B k * B := ⟨_, rfl⟩
      rw [← hq] at hs hm0 hm1
      have hw1 : IntKind.i64.wrap (capW B k * B) = q := by rw [← hq]; exact IntWalk.i64_in _ (by omega)
      have hw2 : wrap64 (capW B k * B) = q := by rw [← hq]; unfold wrap64; omega
      clear hq hm0 hm1
      go_wp2_with (go_at_call 158; refine (l00Min_any _ _ _).mono ?_; rintro e w1 ⟨rfl, rfl⟩)
      go_round
      case rel => exact ⟨k + 1, m - 1, by omega, by go_num, by rw [← hs.out]⟩
      case measure => simp [intOf]; omega
    · obtain rfl : m = 0 := by omega
      obtain rfl : k = n := by omega
      go_wp2
      go_ret
      exact ⟨rfl, rfl⟩

theorem l10Full_any (B : Int) (n : Nat) (w : World) (b1 : 1 ≤ B) (b2 : B ≤ 16) (hn : n ≤ 16) :
    Calls Tryd.prog 119 #[.int .i64 B, .int .i64 n] w fun e w' => e = .returned (.bool (decide (B ^ n - 1 ≤ 1000000000000))) ∧ w' = w := by
  have hb := capW_bd b1 n
  have ht := Lib.hid (show decide (capW B n - 1 ≤ 1000000000000) = decide (B ^ n - 1 ≤ 1000000000000) from decide_eq_decide.2 capW_test)
  go_enter Tryd.func119, Tryd.ntmps119
  go_wp2_with fail
  refine (l10Power_any B n _ b1 b2 hn).mono ?_
  rintro e w1 ⟨rfl, rfl⟩
  go_wp2
  go_ret
  exact ⟨ret_bool ht.out, rfl⟩

theorem l09Low_any (B : Int) (n : Nat) (w : World) (b1 : 1 ≤ B) (b2 : B ≤ 16) (hn : n ≤ 16) :
    Calls Tryd.prog 101 #[.int .i64 B, .int .i64 n] w fun e w' => e = .returned (.int .i64 (capW B n / 2)) ∧ w' = w := by
  have hb := capW_bd b1 n
  have ht : (capW B n).tdiv 2 = capW B n / 2 := Int.tdiv_eq_ediv_of_nonneg (by omega)
  obtain ⟨q, hq⟩ : ∃ q, q = capW B n / 2 := ⟨_, rfl⟩
  rw [← hq] at ht ⊢
  have hq2 : 0 ≤ q ∧ q ≤ 1000000000002 := by omega
  clear hq
  go_enter Tryd.func101, Tryd.ntmps101
  go_wp2_with fail
  refine (l10Power_any B n _ b1 b2 hn).mono ?_
  rintro e w1 ⟨rfl, rfl⟩
  go_wp2
  go_ret
  exact ⟨rfl, rfl⟩

theorem l09Size_any (B n : Int) (w : World) :
    Calls Tryd.prog 99 #[.int .i64 B, .int .i64 n] w fun e w' => e = .returned (.bool (fullB B n)) ∧ w' = w := by
  cases hb : baseB B with
  | false =>
    have HF := Lib.hid (show fullB B n = false by have := baseB_false hb; simp only [fullB, decide_eq_false_iff_not]; omega)
    have HB := Lib.hid (l02Base_any B)
    rw [hb] at HB
    clear hb
    go_enter Tryd.func99, Tryd.ntmps99
    go_wp2_with (go_at_call 133; refine (HB.out _).mono ?_; rintro e w1 ⟨rfl, rfl⟩)
    go_ret
    exact ⟨ret_bool HF.out.symm, rfl⟩
  | true =>
    have HB := Lib.hid (l02Base_any B)
    rw [hb] at HB
    obtain ⟨h1, h2⟩ := baseB_true hb
    clear hb
    cases hn : inB n 1 16 with
    | false =>
      have HF := Lib.hid (show fullB B n = false by have := inB_false hn; simp only [fullB, decide_eq_false_iff_not]; omega)
      have HI := Lib.hid (fun w => l00In_false n 1 16 w (inB_false hn))
      clear hn
      go_enter Tryd.func99, Tryd.ntmps99
      go_wp2_with (first | (go_at_call 133; refine (HB.out _).mono ?_; rintro e w1 ⟨rfl, rfl⟩) | (go_at_call 118; refine (HI.out _).mono ?_; rintro e w1 ⟨rfl, rfl⟩))
      go_ret
      exact ⟨ret_bool HF.out.symm, rfl⟩
    | true =>
      obtain ⟨n1, n2⟩ := inB_true hn
      have HI := Lib.hid (fun w => l00In_true n 1 16 w n1 n2)
      obtain ⟨m, rfl⟩ := Int.eq_ofNat_of_zero_le (show 0 ≤ n by omega)
      have HL := Lib.hid (fun w => l10Full_any B m w (by omega) h2 (by omega))
      have HF := Lib.hid (show decide (B ^ m - 1 ≤ 1000000000000) = fullB B (m : Int) by simp only [fullB, Int.toNat_natCast]; exact decide_eq_decide.2 ⟨fun h => ⟨h1, h2, n1, n2, h⟩, fun h => h.2.2.2.2⟩)
      clear hn
      go_enter Tryd.func99, Tryd.ntmps99
      go_wp2_with (first | (go_at_call 133; refine (HB.out _).mono ?_; rintro e w1 ⟨rfl, rfl⟩) | (go_at_call 118; refine (HI.out _).mono ?_; rintro e w1 ⟨rfl, rfl⟩) | (go_at_call 119; refine (HL.out _).mono ?_; rintro e w1 ⟨rfl, rfl⟩))
      go_ret
      exact ⟨ret_bool HF.out, rfl⟩

set_option maxHeartbeats 1000000 in
theorem specAccumulatorRange (B n : Int) (w : World) (_ : I64 B) (_ : I64 n) :
    Calls Tryd.prog 31 #[.int .i64 B, .int .i64 n] w fun e w' => e = .returned (.tuple #[.int .i64 (rngA B n).1, .int .i64 (rngA B n).2.1, .int .i64 (rngA B n).2.2]) ∧ Below w.heap.size w w' := by
  have HS := Lib.hid (fun w => l09Size_any B n w)
  cases hf : fullB B n with
  | false =>
    have HR := Lib.hid (show rngA B n = (0, 0, 2) by simp [rngA, hf])
    rw [hf] at HS
    clear hf
    go_enter Tryd.func31, Tryd.ntmps31
    go_wp2_with (go_at_call 99; refine (HS.out _).mono ?_; rintro e w1 ⟨rfl, rfl⟩)
    exact bodyPost_ret (v := .tuple #[.int .i64 0, .int .i64 0, .int .i64 2]) (by simp [results, Tryd.results31, go_sem]) rfl ⟨by rw [HR.out], Below.refl _ _⟩
  | true =>
    obtain ⟨h1, h2, n1, n2, h5⟩ := fullB_spec hf
    have hc := cntA_bd hf
    obtain ⟨m, rfl⟩ := Int.eq_ofNat_of_zero_le (show 0 ≤ n by omega)
    have hcap : capW B m = cntA B (m : Int) := by rw [capW_full (by simpa using h5)]; simp [cntA]
    have HP := Lib.hid (fun w => l10Power_any B m w (by omega) h2 (by omega))
    have HL := Lib.hid (fun w => l09Low_any B m w (by omega) h2 (by omega))
    rw [hcap] at HP HL
    have HR := Lib.hid (show rngA B m = (-(cntA B m / 2), cntA B m - 1 + -(cntA B m / 2), 0) by simp [rngA, hf])
    rw [hf] at HS
    obtain ⟨q, hq⟩ : ∃ q, q = cntA B m / 2 := ⟨_, rfl⟩
    rw [← hq] at HL HR
    have hq2 : 0 ≤ q ∧ q ≤ 1000000000002 := by omega
    clear hf hq hcap h5
    go_enter Tryd.func31, Tryd.ntmps31
    go_wp2_with (first | (go_at_call 99; refine (HS.out _).mono ?_; rintro e w1 ⟨rfl, rfl⟩) | (go_at_call 103; refine (HP.out _).mono ?_; rintro e w1 ⟨rfl, rfl⟩) | (go_at_call 101; refine (HL.out _).mono ?_; rintro e w1 ⟨rfl, rfl⟩))
    exact bodyPost_ret (v := .tuple #[.int .i64 (-q), .int .i64 (cntA B m - 1 - q), .int .i64 0]) (by simp [results, Tryd.results31, go_sem]) rfl ⟨by rw [HR.out]; simp only [Int.sub_eq_add_neg], Below.refl _ _⟩
end Go.Proofs.YtlahobdopmdfmaaDoor
