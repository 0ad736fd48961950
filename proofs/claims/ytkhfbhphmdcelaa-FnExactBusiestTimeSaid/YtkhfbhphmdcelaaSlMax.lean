/-
  slices.Max, slices.Index; impl.BusiestTime.
-/
import Derived.Test.YtkhfbhphmdcelaaDrumK
import Derived.Test.YtkhfbhphmdcelaaOkI
import Derived.Test.YtkhfbhphmdcelaaBusyM
import Derived.Lib.MinMax
namespace Go.Proofs.Ytkhfbhphmdcelaa
open Go.RowKit

set_option maxHeartbeats 1000000 in
theorem slicesMax_any (a : Option Addr) (c n : Nat) (zs : List Int) (w : World) (ha : Rd w a zs) (hn : zs.length = n + 1) :
    Calls Try.prog 141 #[.slice a (n + 1) c] w fun e w' => e = .returned (.int .i64 (nth zs (bestTo zs n))) ∧ w = w' := by
  have hl := ha.len
  obtain ⟨b, off, rfl, hc⟩ := ha.cells (by rintro rfl; simp at hn)
  have hc0 := hc 0 (by omega)
  have H0 := Lib.hid hn
  rw [Nat.add_zero] at hc0
  have hn1 : n ≤ 1000000000 := by omega
  clear hn hl
  go_enter Try.func141, Try.ntmps141
  go_wp2
  go_loop [3, 4] (fun v i => ∃ k : Nat, k ≤ n ∧ i = .int .i64 ((k : Int) + 1) ∧ v = .int .i64 (nth zs (bestTo zs k))) (fun _ i => n + 1 - (intOf i).toNat)
  case atStart => exact ⟨0, Nat.zero_le _, by go_num, rfl⟩
  case round =>
    obtain ⟨k, hk, rfl, rfl⟩ := hrel
    by_cases hlt : k < n
    · have hck := hc (k + 1) (by have := H0.out; omega)
      have e8 : ((k : Int) + 1).toNat = k + 1 := by omega
      have HS := Lib.hid (bestTo_step zs k)
      have hw1 : IntKind.i64.wrap ((k : Int) + 1) = (k : Int) + 1 := IntWalk.i64_in _ (by omega)

      go_wp2
      go_round
      case rel => exact ⟨k + 1, by omega, by go_num, by rw [HS.out]⟩
      case measure => (simp [intOf]) <;> omega
    · obtain rfl : k = n := by omega
      go_wp2
      go_ret
      exact ⟨rfl, rfl⟩

set_option maxHeartbeats 1000000 in
theorem slicesIndex_any (a : Option Addr) (c n : Nat) (zs : List Int) (w : World) (ha : Rd w a zs) (hn : zs.length = n + 1) :
    Calls Try.prog 142 #[.slice a (n + 1) c, .int .i64 (nth zs (bestTo zs n))] w fun e w' => e = .returned (.int .i64 (bestTo zs n : Nat)) ∧ w = w' := by
  have hl := ha.len
  obtain ⟨b, off, rfl, hc⟩ := ha.cells (by rintro rfl; simp at hn)
  have H0 := Lib.hid hn
  have hn1 : n ≤ 1000000000 := by omega
  have hb := bestTo_le zs n
  have HF := Lib.hid (bestTo_first zs n)
  obtain ⟨p, hp⟩ : ∃ p, p = bestTo zs n := ⟨_, rfl⟩
  rw [← hp] at hb HF ⊢
  clear hn hl hp
  go_enter Try.func142, Try.ntmps142
  go_wp2
  go_loop [5, 8] (fun _ i => ∃ k : Nat, k ≤ p ∧ i = .int .i64 k) (fun _ i => n + 1 - (intOf i).toNat)
  case atStart => exact ⟨0, Nat.zero_le _, rfl⟩
  case round =>
    obtain ⟨k, hk, rfl⟩ := hrel
    have hck := hc k (by have := H0.out; omega)
    have hkn : k < n + 1 := by omega
    by_cases hlt : k < p
    · have hne := HF.out k hlt
      have hbe : (nth zs p == nth zs k) = false := beq_eq_false_iff_ne.2 (by omega)
      clear hne
      go_wp2
      go_round
      case rel => exact ⟨k + 1, by omega, by go_num⟩
      case measure => (simp [intOf]) <;> omega
    · obtain rfl : k = p := by omega
      go_wp2
      go_ret
      exact ⟨rfl, rfl⟩
end Go.Proofs.Ytkhfbhphmdcelaa
