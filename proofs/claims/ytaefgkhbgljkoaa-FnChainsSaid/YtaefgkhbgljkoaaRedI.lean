/-
  impl.commonDivisor, commonMultiple, reduced.
-/
import Derived.Test.YtaefgkhbgljkoaaGear
import Derived.IntWalk
namespace Go.Proofs.Ytaefgkhbgljkoaa
open Go.RowKit

theorem gcd_step (a b : Nat) : Nat.gcd b (a % b) = Nat.gcd a b := by rw [Nat.gcd_comm a b, Nat.gcd_rec b a, Nat.gcd_comm]

theorem divisor_any : ∀ (n a b : Nat) (w : World), b ≤ n → a ≤ 9223372036854775807 → b ≤ 9223372036854775807 →
    Calls Try.prog 98 #[.int .i64 (a : Int), .int .i64 (b : Int)] w fun e w' => e = .returned (.int .i64 (Nat.gcd a b : Nat)) ∧ w' = w := by
  intro n
  induction n with
  | zero =>
    intro a b w hn ha hb
    obtain rfl : b = 0 := by omega
    have HG := Lib.hid (Nat.gcd_zero_right a)
    go_enter Try.func98, Try.ntmps98
    go_wp2
    go_ret
    exact ⟨ret_int (by rw [HG.out]), rfl⟩
  | succ n ih =>
    intro a b w hn ha hb
    rcases Nat.eq_zero_or_pos b with h0 | h0
    · subst h0
      have HG := Lib.hid (Nat.gcd_zero_right a)
      go_enter Try.func98, Try.ntmps98
      go_wp2
      go_ret
      exact ⟨ret_int (by rw [HG.out]), rfl⟩
    · have HG := Lib.hid (gcd_step a b)
      have hlt : a % b < b := Nat.mod_lt _ h0
      have HI := Lib.hid (ih b (a % b) w (by omega) hb (by omega))
      have e1 : ((a : Int)).tmod (b : Int) = ((a % b : Nat) : Int) := by rw [Int.tmod_eq_emod_of_nonneg (by omega)]; rfl
      have hbe : ((b : Int) == 0) = false := by simp; omega
      have hb0 : ¬ ((b : Int) = 0) := by omega
      have e2 : IntKind.i64.wrap (((a % b : Nat) : Int)) = ((a % b : Nat) : Int) := IntWalk.i64_in _ (by omega)
      clear hlt ih
      go_enter Try.func98, Try.ntmps98
      go_wp2_with (go_at_call 98; refine HI.out.mono ?_; rintro e w1 ⟨rfl, hq⟩; subst w1)
      go_ret
      exact ⟨ret_int (by rw [HG.out]), rfl⟩
theorem max_abs (n : Int) : (if n < -n then -n else n) = (n.natAbs : Int) := by omega

set_option maxHeartbeats 1000000 in
theorem reduced_any (n : Int) (d : Nat) (w : World) (hn : n.natAbs ≤ 9000000000000000000) (hd : 0 < d) (hd2 : d ≤ 9000000000000000000) :
    Calls Try.prog 68 #[.int .i64 n, .int .i64 (d : Int)] w fun e w' => e = .returned (.tuple #[.int .i64 (red n d).num, .int .i64 ((red n d).den : Int)]) ∧ ∃ k, w' = w.drewN k := by
  have hg : 0 < Nat.gcd n.natAbs d := Nat.gcd_pos_of_pos_right _ hd
  have hg2 : Nat.gcd n.natAbs d ≤ d := Nat.le_of_dvd hd (Nat.gcd_dvd_right _ _)
  have hr := red_num (n := n) (d := d) (by omega)
  have hr2 := red_den (n := n) (d := d) (by omega)
  have b1 := red_num_le n d
  have b2 := red_den_le n (d := d) (by omega)
  have hneg : IntKind.i64.wrap (-n) = -n := IntWalk.i64_in _ (by omega)
  have hmx := max_abs n
  obtain ⟨g, hgg⟩ : ∃ g, g = Nat.gcd n.natAbs d := ⟨_, rfl⟩
  rw [← hgg] at hg hg2 hr hr2
  have e1 : IntKind.i64.wrap (n.tdiv (g : Int)) = (red n d).num := by rw [hr]; exact IntWalk.i64_in _ (by omega)
  have e2 : IntKind.i64.wrap ((d : Int).tdiv (g : Int)) = ((red n d).den : Int) := by rw [hr2]; exact IntWalk.i64_in _ (by omega)
  have HD := Lib.hid (fun w => divisor_any d n.natAbs d w (Nat.le_refl _) (by omega) (by omega))
  rw [← hgg] at HD
  have hg0 : ¬ ((g : Int) = 0) := by omega
  have HG := Lib.hid hgg
  have E2 : wrap64 ((d : Int) / (g : Int)) = ((red n d).den : Int) := by rw [← Int.tdiv_eq_ediv_of_nonneg (by omega), hr2]; unfold wrap64; omega
  clear hgg hr hr2 b1 b2
  go_enter Try.func68, Try.ntmps68
  go_wp2_with (go_at_call 98; refine (HD.out _).mono ?_; rintro e w1 ⟨rfl, hq⟩; subst w1)
  go_quiet (fail)
  go_wp2
  exact bodyPost_ret (v := .tuple #[.int .i64 (red n d).num, .int .i64 ((red n d).den : Int)]) (by simp [results, Try.results68, go_sem, E2]) rfl ⟨rfl, _, rfl⟩

theorem reduced_at (n d : Int) (w : World) (hn : n.natAbs ≤ 9000000000000000000) (hd : 0 < d) (hd2 : d ≤ 9000000000000000000) :
    Calls Try.prog 68 #[.int .i64 n, .int .i64 d] w fun e w' => e = .returned (.tuple #[.int .i64 (red n d.toNat).num, .int .i64 ((red n d.toNat).den : Int)]) ∧ Below w.heap.size w w' := by
  obtain ⟨D, rfl⟩ : ∃ D : Nat, d = D := ⟨d.toNat, by omega⟩
  refine (reduced_any n D w hn (by omega) (by omega)).mono ?_
  rintro e w1 ⟨rfl, k, rfl⟩
  exact ⟨rfl, bel_drewN (Below.refl _ _) k⟩

set_option maxHeartbeats 1000000 in
theorem multiple_any (a b : Nat) (w : World) (ha : 0 < a) (ha2 : a ≤ 9000000000000000000) (hb : b ≤ 9000000000000000000) (hl : Nat.lcm a b ≤ 9000000000000000000) :
    Calls Try.prog 66 #[.int .i64 (a : Int), .int .i64 (b : Int)] w fun e w' => e = .returned (.int .i64 (Nat.lcm a b : Nat)) ∧ w' = w := by
  have hg : 0 < Nat.gcd a b := Nat.gcd_pos_of_pos_left _ ha
  have hs := lcm_step a b
  have hq : a / Nat.gcd a b ≤ a := Nat.div_le_self _ _
  have HD := Lib.hid (fun w => divisor_any b a b w (Nat.le_refl _) (by omega) (by omega))
  obtain ⟨g, hgg⟩ : ∃ g, g = Nat.gcd a b := ⟨_, rfl⟩
  rw [← hgg] at hg hs hq HD
  obtain ⟨q, hqq⟩ : ∃ q, q = a / g := ⟨_, rfl⟩
  rw [← hqq] at hs hq
  have hg0 : ¬ ((g : Int) = 0) := by omega
  have e0 : ((a : Int)).tdiv (g : Int) = (q : Int) := by rw [Int.tdiv_eq_ediv_of_nonneg (by omega), hqq]; rfl
  have e0' : ((a : Int)) / (g : Int) = (q : Int) := by rw [hqq]; rfl
  have hm : (q : Int) * (b : Int) = ((Nat.lcm a b : Nat) : Int) := by rw [← hs]; rfl
  have e2 : IntKind.i64.wrap ((q : Int) * (b : Int)) = ((Nat.lcm a b : Nat) : Int) := by rw [hm]; exact IntWalk.i64_in _ (by omega)
  have E2 : wrap64 ((q : Int) * (b : Int)) = ((Nat.lcm a b : Nat) : Int) := by rw [hm]; unfold wrap64; omega
  clear hgg hs hm hqq
  go_enter Try.func66, Try.ntmps66
  go_wp2_with (go_at_call 98; refine (HD.out _).mono ?_; rintro e w1 ⟨rfl, hq⟩; subst w1)
  go_ret
  exact ⟨ret_int (by first | rfl | rw [e2] | rw [E2]), rfl⟩
end Go.Proofs.Ytaefgkhbgljkoaa
