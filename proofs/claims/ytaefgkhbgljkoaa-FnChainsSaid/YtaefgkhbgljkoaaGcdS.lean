/-
  spec.l04Gcd, l04Size, l04Make.
-/
import Derived.Test.YtaefgkhbgljkoaaGear
import Derived.IntWalk
namespace Go.Proofs.Ytaefgkhbgljkoaa
open Go.RowKit

theorem gcd_stepS (a b : Nat) : Nat.gcd b (a % b) = Nat.gcd a b := by rw [Nat.gcd_comm a b, Nat.gcd_rec b a, Nat.gcd_comm]
theorem gcd_any (a b : Nat) (w : World) (ha : a ≤ 9223372036854775807) (hb : b ≤ 9223372036854775807) :
    Calls Try.prog 80 #[.int .i64 (a : Int), .int .i64 (b : Int)] w fun e w' => e = .returned (.int .i64 (Nat.gcd a b : Nat)) ∧ w' = w := by
  go_enter Try.func80, Try.ntmps80
  go_wp2
  go_loop [0, 1] (fun x y => ∃ m n : Nat, x = .int .i64 m ∧ y = .int .i64 n ∧ m ≤ 9223372036854775807 ∧ n ≤ 9223372036854775807 ∧ Hid (Nat.gcd m n = Nat.gcd a b)) (fun _ y => (intOf y).toNat)
  case atStart => exact ⟨a, b, rfl, rfl, ha, hb, Lib.hid rfl⟩
  case round =>
    obtain ⟨m, n, rfl, rfl, hm, hn, HG⟩ := hrel
    rcases Nat.eq_zero_or_pos n with h0 | h0
    · subst h0
      have HG' := Lib.hid (show Nat.gcd a b = m by rw [← HG.out, Nat.gcd_zero_right])
      go_wp2
      go_ret
      exact ⟨ret_int (by rw [HG'.out]), rfl⟩
    · have HS := Lib.hid (gcd_stepS m n)
      have hlt : m % n < n := Nat.mod_lt _ h0
      have e1 : ((m : Int)).tmod (n : Int) = ((m % n : Nat) : Int) := by rw [Int.tmod_eq_emod_of_nonneg (by omega)]; rfl
      have hbe : ((n : Int) != 0) = true := by simp; omega
      have hb0 : ¬ ((n : Int) = 0) := by omega
      have e2 : IntKind.i64.wrap (((m % n : Nat) : Int)) = ((m % n : Nat) : Int) := IntWalk.i64_in _ (by omega)
      have HL := Lib.hid hlt
      clear hlt
      go_wp2
      go_round
      case rel => exact ⟨n, m % n, rfl, rfl, hn, by have := HL.out; omega, Lib.hid (HS.out.trans HG.out)⟩
      case measure => have := HL.out; (simp [intOf]) <;> omega

theorem size_any (n : Int) (w : World) (h : n.natAbs ≤ 9000000000000000000) : Calls Try.prog 99 #[.int .i64 n] w fun e w' => e = .returned (.int .i64 (n.natAbs : Int)) ∧ w' = w := by
  rcases Int.lt_or_le n 0 with h1 | h1
  · have H := Lib.hid (show (n.natAbs : Int) = -n by omega)
    go_enter Try.func99, Try.ntmps99
    go_wp2
    go_ret
    exact ⟨ret_int H.out.symm, rfl⟩
  · have H := Lib.hid (show (n.natAbs : Int) = n by omega)
    go_enter Try.func99, Try.ntmps99
    go_wp2
    go_ret
    exact ⟨ret_int H.out.symm, rfl⟩

set_option maxHeartbeats 1000000 in
theorem make_any (n d : Int) (w : World) (hn : n.natAbs ≤ 9000000000000000000) (hd : 0 < d) (hd2 : d ≤ 9000000000000000000) :
    Calls Try.prog 79 #[.int .i64 n, .int .i64 d] w fun e w' => e = .returned (.agg #[.int .i64 (red n d.toNat).num, .int .i64 ((red n d.toNat).den : Int)]) ∧ Below w.heap.size w w' := by
  obtain ⟨D, rfl⟩ : ∃ D : Nat, d = D := ⟨d.toNat, by omega⟩
  rw [Int.toNat_natCast]
  have hg : 0 < Nat.gcd n.natAbs D := Nat.gcd_pos_of_pos_right _ (by omega)
  have hr := red_num (n := n) (d := D) (by omega)
  have hr2 := red_den (n := n) (d := D) (by omega)
  have b1 := red_num_le n D
  have b2 := red_den_le n (d := D) (by omega)
  have HD := Lib.hid (fun w => gcd_any n.natAbs D w (by omega) (by omega))
  obtain ⟨g, hgg⟩ : ∃ g, g = Nat.gcd n.natAbs D := ⟨_, rfl⟩
  rw [← hgg] at hg hr hr2 HD
  have e1 : IntKind.i64.wrap (n.tdiv (g : Int)) = (red n D).num := by rw [hr]; exact IntWalk.i64_in _ (by omega)
  have e2 : IntKind.i64.wrap ((D : Int).tdiv (g : Int)) = ((red n D).den : Int) := by rw [hr2]; exact IntWalk.i64_in _ (by omega)
  have hg0 : ¬ ((g : Int) = 0) := by omega
  have E2 : wrap64 ((D : Int) / (g : Int)) = ((red n D).den : Int) := by rw [← Int.tdiv_eq_ediv_of_nonneg (by omega), hr2]; unfold wrap64; omega
  clear hgg hr hr2 b1 b2
  go_enter Try.func79, Try.ntmps79
  go_wp2_with (first | (go_at_call 99; refine (size_any n _ hn).mono ?_; rintro e w1 ⟨rfl, hq⟩; subst w1) | (go_at_call 80; refine (HD.out _).mono ?_; rintro e w1 ⟨rfl, hq⟩; subst w1))
  go_region
  go_wp2
  exact bodyPost_ret (v := .agg #[.int .i64 (red n D).num, .int .i64 ((red n D).den : Int)]) (by simp [results, Try.results79, go_sem, E2]) rfl ⟨rfl, (by repeat (first | exact Below.refl _ _ | refine Below.setCell ?_ (by first | omega | (simp <;> omega)) _ | refine Below.alloc ?_ (by first | omega | (simp <;> omega)) _ | refine Below.drew ?_))⟩
end Go.Proofs.Ytaefgkhbgljkoaa
