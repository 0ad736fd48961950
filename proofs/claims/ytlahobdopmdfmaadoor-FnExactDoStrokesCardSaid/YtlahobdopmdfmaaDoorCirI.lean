/-
  impl: the circle of the numbers of accumulators, the least and the greatest one; AccumulatorRange.
-/
import Derived.Test.YtlahobdopmdfmaaDoorInS
import Derived.Test.YtlahobdopmdfmaaDoorAccM
import Derived.Test.YtlahobdopmdfmaaDoorProg
import Derived.BigQuiet
import Derived.Deep.Cut
namespace Go.Proofs.YtlahobdopmdfmaaDoor
open Go.RowKit

theorem baseB_iff9 (B : Int) : baseB B = true ↔ 2 ≤ B ∧ B ≤ 16 := by simp [baseB]
theorem isBase9 (b : Int) (w : World) : Calls Tryd.prog 160 #[.int .i64 b] w fun e w' => e = .returned (.bool (baseB b)) ∧ w' = w := by
  by_cases h : 2 ≤ b
  · by_cases h2 : b ≤ 16
    · have H := Lib.hid ((baseB_iff9 b).2 ⟨h, h2⟩)
      go_enter Tryd.func160, Tryd.ntmps160
      go_wp2
      go_ret
      exact ⟨ret_bool H.out.symm, rfl⟩
    · have H := Lib.hid (show baseB b = false by cases e : baseB b with | false => rfl | true => exact absurd ((baseB_iff9 b).1 e).2 h2)
      go_enter Tryd.func160, Tryd.ntmps160
      go_wp2
      go_ret
      exact ⟨ret_bool H.out.symm, rfl⟩
  · have H := Lib.hid (show baseB b = false by cases e : baseB b with | false => rfl | true => exact absurd ((baseB_iff9 b).1 e).1 h)
    go_enter Tryd.func160, Tryd.ntmps160
    go_wp2
    go_ret
    exact ⟨ret_bool H.out.symm, rfl⟩

set_option maxHeartbeats 1000000 in
theorem isWidth9 (n : Int) (w : World) : Calls Tryd.prog 161 #[.int .i64 n] w fun e w' => e = .returned (.bool (inB n 1 16)) ∧ w' = w := by
  cases h : inB n 1 16 with
  | true =>
    obtain ⟨h1, h2⟩ := inB_true h
    have d1 : decide (n ≥ 1) = true := decide_eq_true h1
    have d2 : decide (n ≤ 16) = true := decide_eq_true h2
    clear h
    go_enter Tryd.func161, Tryd.ntmps161
    go_wp2
    go_ret
    exact ⟨rfl, rfl⟩
  | false =>
    have hh := inB_false h
    clear h
    rcases Int.lt_or_le n 1 with h1 | h1
    · have d1 : decide (n ≥ 1) = false := decide_eq_false (by omega)
      have h1' : ¬ 1 ≤ n := by omega
      clear hh h1
      go_enter Tryd.func161, Tryd.ntmps161
      go_wp2
      go_ret
      exact ⟨rfl, rfl⟩
    · have d1 : decide (n ≥ 1) = true := decide_eq_true h1
      have d2 : decide (n ≤ 16) = false := decide_eq_false (by omega)
      have h2 : ¬ n ≤ 16 := by omega
      clear hh
      go_enter Tryd.func161, Tryd.ntmps161
      go_wp2
      go_ret
      exact ⟨rfl, rfl⟩

theorem mod_twice {n c : Int} (hc : 1 ≤ c) : -c < n.tmod c ∧ n.tmod c < c ∧ (n.tmod c + c).tmod c = n % c := by
  have h1 : n.tmod c < c := Int.tmod_lt_of_pos _ (by omega)
  have h2 : -c < n.tmod c := by
    have := Int.tmod_lt_of_pos (-n) (show 0 < c by omega)
    rw [Int.neg_tmod] at this; omega
  refine ⟨h2, h1, ?_⟩
  rw [Int.tmod_eq_emod_of_nonneg (by omega), Int.add_emod_right]
  have e := Int.mul_tdiv_add_tmod n c
  conv => rhs; rw [← e, Int.add_comm, Int.add_mul_emod_self_left]

set_option maxHeartbeats 1000000 in
theorem modulo_any (n c : Int) (w : World) (h1 : 1 ≤ c) (h2 : c ≤ 1000000000001) :
    Calls Tryd.prog 132 #[.int .i64 n, .int .i64 c] w fun e w' => e = .returned (.int .i64 (n % c)) ∧ w' = w := by
  obtain ⟨m1, m2, m3⟩ := mod_twice (n := n) h1
  have hq1 := Int.emod_nonneg n (show c ≠ 0 by omega)
  have hq2 := Int.emod_lt_of_pos n (show 0 < c by omega)
  obtain ⟨q, hq⟩ : ∃ q, q = n % c := ⟨_, rfl⟩
  obtain ⟨r, hr⟩ : ∃ r, n.tmod c = r := ⟨_, rfl⟩
  rw [hr] at m1 m2 m3
  rw [← hq] at m3 hq1 hq2 ⊢
  have hc0 : ¬ c = 0 := by omega
  have hw1 : IntKind.i64.wrap (r + c) = r + c := IntWalk.i64_in _ (by omega)
  have hw2 : wrap64 (r + c) = r + c := by unfold wrap64; omega
  clear hq
  go_enter Tryd.func132, Tryd.ntmps132
  go_wp2
  go_ret
  exact ⟨rfl, rfl⟩

set_option maxHeartbeats 4000000 in
set_option maxRecDepth 100000 in
theorem circle_no (B n : Int) (w : World) (h : fullB B n = false) :
    Calls Tryd.prog 105 #[.int .i64 B, .int .i64 n] w fun e w' => e = .returned (.tuple #[.agg #[.int .i64 0, .int .i64 0, .int .i64 0], .bool false]) ∧ Below w.heap.size w w' := by
  obtain ⟨u, hu⟩ : ∃ u, u = w.alloc (.cells #[.int .i64 0, .int .i64 0, .int .i64 0] 113) := ⟨_, rfl⟩
  have bx : Bx u w.heap.size 113 #[.int .i64 0, .int .i64 0, .int .i64 0] := by rw [hu]; exact Bx.new _ _ _
  have hbel : Below w.heap.size w u := by rw [hu]; exact (by repeat (first | exact Below.refl _ _ | refine Below.setCell ?_ (by first | omega | (simp <;> omega)) _ | refine Below.alloc ?_ (by first | omega | (simp <;> omega)) _ | refine Below.drew ?_))
  have hsz := bx.lt
  have HU := Lib.hid hu
  clear hu
  have HB := Lib.hid (isBase9 B)
  have HW := Lib.hid (isWidth9 n)
  cases hb : baseB B with
  | false =>
    rw [hb] at HB
    have c0 := bx.at_ 0 rfl
    have c1 := bx.at_ 1 rfl
    have c2 := bx.at_ 2 rfl
    have f0 := bx.thaw 0
    have f1 := bx.thaw 1
    have f2 := bx.thaw 2
    clear hb h
    go_enter Tryd.func105, Tryd.ntmps105
    go_wp2_with fail
    rw [← HU.out]
    refine (HB.out u).mono ?_
    rintro e w1 ⟨rfl, hw⟩
    subst w1
    go_wp2
    exact bodyPost_ret (v := .tuple #[.agg #[.int .i64 0, .int .i64 0, .int .i64 0], .bool false]) (by simp [results, Tryd.results105, go_sem, c0, c1, c2]) rfl ⟨rfl, (by repeat (first | with_reducible exact hbel | with_reducible refine Below.setCell ?_ (by first | omega | (simp <;> omega)) _ | with_reducible refine Below.alloc ?_ (by first | omega | (simp <;> omega)) _ | with_reducible refine Below.drew ?_))⟩
  | true =>
    rw [hb] at HB
    obtain ⟨h1, h2⟩ := baseB_true hb
    clear hb
    cases hn : inB n 1 16 with
    | false =>
      rw [hn] at HW
      have c0 := bx.at_ 0 rfl
      have c1 := bx.at_ 1 rfl
      have c2 := bx.at_ 2 rfl
      have f0 := bx.thaw 0
      have f1 := bx.thaw 1
      have f2 := bx.thaw 2
      clear hn h
      go_enter Tryd.func105, Tryd.ntmps105
      go_wp2_with fail
      rw [← HU.out]
      refine (HB.out u).mono ?_
      rintro e w1 ⟨rfl, hw⟩
      subst w1
      go_wp2_with fail
      refine (HW.out _).mono ?_
      rintro e w1 ⟨rfl, hw⟩
      subst w1
      go_wp2
      exact bodyPost_ret (v := .tuple #[.agg #[.int .i64 0, .int .i64 0, .int .i64 0], .bool false]) (by simp [results, Tryd.results105, go_sem, c0, c1, c2]) rfl ⟨rfl, (by repeat (first | with_reducible exact hbel | with_reducible refine Below.setCell ?_ (by first | omega | (simp <;> omega)) _ | with_reducible refine Below.alloc ?_ (by first | omega | (simp <;> omega)) _ | with_reducible refine Below.drew ?_))⟩
    | true =>
      rw [hn] at HW
      obtain ⟨n1, n2⟩ := inB_true hn
      obtain ⟨m, rfl⟩ := Int.eq_ofNat_of_zero_le (show 0 ≤ n by omega)
      have hbig : 1000000000000 < B ^ m - 1 := by
        simp only [fullB, Int.toNat_natCast, decide_eq_false_iff_not] at h
        have : ¬ (B ^ m - 1 ≤ 1000000000000) := fun hh => h ⟨h1, h2, n1, n2, hh⟩
        omega
      have HG := Lib.hid hbig
      clear hn h hbig
      go_enter Tryd.func105, Tryd.ntmps105
      go_wp2_with fail
      rw [← HU.out]
      refine (HB.out u).mono ?_
      rintro e w1 ⟨rfl, hw⟩
      subst w1
      go_wp2_with fail
      refine (HW.out _).mono ?_
      rintro e w1 ⟨rfl, hw⟩
      subst w1
      go_wp2_with fail
      go_loopw [6, 17] (fun c i wr => ∃ (k : Nat) (x : Int), k ≤ m ∧ i = .int .i64 k ∧ c = .int .i64 x ∧ Hid (x = B ^ k) ∧ 1 ≤ x ∧ x ≤ 1000000000001 ∧ wr = u) (fun _ i _ => m - (intOf i).toNat)
      case atStart => exact ⟨0, 1, Nat.zero_le _, rfl, rfl, Lib.hid (by simp), by omega, by omega, rfl⟩
      case round =>
        obtain ⟨k, x, hk, rfl, rfl, HX, x1, x2, hw⟩ := hrel
        subst wr
        by_cases hlt : k < m
        · have hm0 : x * B ≤ 1000000000001 * 16 := Int.mul_le_mul x2 h2 (by omega) (by omega)
          have hm1 : x * 1 ≤ x * B := Int.mul_le_mul_of_nonneg_left (by omega) (by omega)
          obtain ⟨q, hq⟩ : ∃ q, q = x * B := ⟨_, rfl⟩
          have HQ := Lib.hid (show q = B ^ (k + 1) by rw [hq, HX.out, Int.pow_succ])
          rw [← hq] at hm0 hm1
          have hw1 : IntKind.i64.wrap (x * B) = q := by rw [← hq]; exact IntWalk.i64_in _ (by omega)
          have hw2 : wrap64 (x * B) = q := by rw [← hq]; unfold wrap64; omega
          clear hq
          by_cases hb2 : 1000000000000 < q - 1
          · have c0 := bx.at_ 0 rfl
            have c1 := bx.at_ 1 rfl
            have c2 := bx.at_ 2 rfl
            have f0 := bx.thaw 0
            have f1 := bx.thaw 1
            have f2 := bx.thaw 2
            go_wp2
            exact bodyPost_ret (v := .tuple #[.agg #[.int .i64 0, .int .i64 0, .int .i64 0], .bool false]) (by simp [results, Tryd.results105, go_sem, c0, c1, c2]) rfl ⟨rfl, (by repeat (first | with_reducible exact hbel | with_reducible refine Below.setCell ?_ (by first | omega | (simp <;> omega)) _ | with_reducible refine Below.alloc ?_ (by first | omega | (simp <;> omega)) _ | with_reducible refine Below.drew ?_))⟩
          · go_wp2
            go_roundw
            case rel => exact ⟨k + 1, q, by omega, by go_num, rfl, HQ, by omega, by omega, by simp⟩
            case measure => simp [intOf]; omega
        · exfalso
          have hm : k = m := by omega
          subst hm
          have e1 := HX.out
          have e2 := HG.out
          omega

set_option maxHeartbeats 4000000 in
set_option maxRecDepth 100000 in
theorem circle_ok (B n : Int) (w : World) (h : fullB B n = true) :
    Calls Tryd.prog 105 #[.int .i64 B, .int .i64 n] w fun e w' => e = .returned (.tuple #[.agg #[.int .i64 B, .int .i64 n, .int .i64 (cntA B n)], .bool true]) ∧ Below w.heap.size w w' := by
  obtain ⟨u, hu⟩ : ∃ u, u = w.alloc (.cells #[.int .i64 0, .int .i64 0, .int .i64 0] 113) := ⟨_, rfl⟩
  have bx : Bx u w.heap.size 113 #[.int .i64 0, .int .i64 0, .int .i64 0] := by rw [hu]; exact Bx.new _ _ _
  have hbel : Below w.heap.size w u := by rw [hu]; exact (by repeat (first | exact Below.refl _ _ | refine Below.setCell ?_ (by first | omega | (simp <;> omega)) _ | refine Below.alloc ?_ (by first | omega | (simp <;> omega)) _ | refine Below.drew ?_))
  have hsz := bx.lt
  have HU := Lib.hid hu
  clear hu
  obtain ⟨h1, h2, n1, n2, h5⟩ := fullB_spec h
  have HB := Lib.hid (isBase9 B)
  have HW := Lib.hid (isWidth9 n)
  rw [show baseB B = true by simp [baseB, h1, h2]] at HB
  rw [inB_yes n1 n2] at HW
  obtain ⟨m, rfl⟩ := Int.eq_ofNat_of_zero_le (show 0 ≤ n by omega)
  have HC := Lib.hid (show cntA B (m : Int) = B ^ m by simp [cntA])
  have HP := Lib.hid (fun k (hk : k ≤ m) => show B ^ k ≤ 1000000000001 by
    have := pow_mono' h1 hk
    rw [Int.toNat_natCast] at h5
    omega)
  clear h h5
  go_enter Tryd.func105, Tryd.ntmps105
  go_wp2_with fail
  rw [← HU.out]
  refine (HB.out u).mono ?_
  rintro e w1 ⟨rfl, hw⟩
  subst w1
  go_wp2_with fail
  refine (HW.out _).mono ?_
  rintro e w1 ⟨rfl, hw⟩
  subst w1
  go_wp2_with fail
  go_loopw [6, 17] (fun c i wr => ∃ (k : Nat) (x : Int), k ≤ m ∧ i = .int .i64 k ∧ c = .int .i64 x ∧ Hid (x = B ^ k) ∧ 1 ≤ x ∧ x ≤ 1000000000001 ∧ wr = u) (fun _ i _ => m - (intOf i).toNat)
  case atStart => exact ⟨0, 1, Nat.zero_le _, rfl, rfl, Lib.hid (by simp), by omega, by omega, rfl⟩
  case round =>
    obtain ⟨k, x, hk, rfl, rfl, HX, x1, x2, hw⟩ := hrel
    subst wr
    by_cases hlt : k < m
    · have hm1 : x * 1 ≤ x * B := Int.mul_le_mul_of_nonneg_left (by omega) (by omega)
      obtain ⟨q, hq⟩ : ∃ q, q = x * B := ⟨_, rfl⟩
      have hQ : q = B ^ (k + 1) := by rw [hq, HX.out, Int.pow_succ]
      have hm0 : q ≤ 1000000000001 := by rw [hQ]; exact HP.out _ (by omega)
      have HQ := Lib.hid hQ
      rw [← hq] at hm1
      have hw1 : IntKind.i64.wrap (x * B) = q := by rw [← hq]; exact IntWalk.i64_in _ (by omega)
      have hw2 : wrap64 (x * B) = q := by rw [← hq]; unfold wrap64; omega
      clear hq hQ
      go_wp2
      go_roundw
      case rel => exact ⟨k + 1, q, by omega, by go_num, rfl, HQ, by omega, by omega, by simp⟩
      case measure => simp [intOf]; omega
    · obtain rfl : k = m := by omega
      have HE := Lib.hid (HC.out.trans HX.out.symm)
      have c0 := bx.at_ 0 rfl
      have c1 := bx.at_ 1 rfl
      have c2 := bx.at_ 2 rfl
      have f0 := bx.thaw 0
      have f1 := bx.thaw 1
      have f2 := bx.thaw 2
      go_wp2
      exact bodyPost_ret (v := .tuple #[.agg #[.int .i64 B, .int .i64 k, .int .i64 x], .bool true]) (by simp [results, Tryd.results105, go_sem, c0, c1, c2]) rfl ⟨by rw [HE.out], (by repeat (first | with_reducible exact hbel | with_reducible refine Below.setCell ?_ (by first | omega | (simp <;> omega)) _ | with_reducible refine Below.alloc ?_ (by first | omega | (simp <;> omega)) _ | with_reducible refine Below.drew ?_))⟩

set_option maxHeartbeats 1000000 in
theorem least_any (B n N : Int) (w : World) (h1 : 1 ≤ N) (h2 : N ≤ 1000000000001) :
    Calls Tryd.prog 111 #[.agg #[.int .i64 B, .int .i64 n, .int .i64 N]] w fun e w' => e = .returned (.int .i64 (-(N / 2))) ∧ Below w.heap.size w w' := by
  have ht : N.tdiv 2 = N / 2 := Int.tdiv_eq_ediv_of_nonneg (by omega)
  obtain ⟨q, hq⟩ : ∃ q, q = N / 2 := ⟨_, rfl⟩
  rw [← hq] at ht ⊢
  have hq2 : 0 ≤ q ∧ q ≤ 1000000000002 := by omega
  clear hq
  go_enter Tryd.func111, Tryd.ntmps111
  go_wp2
  go_ret
  exact ⟨rfl, (by repeat (first | exact Below.refl _ _ | refine Below.setCell ?_ (by first | omega | (simp <;> omega)) _ | refine Below.alloc ?_ (by first | omega | (simp <;> omega)) _ | refine Below.drew ?_))⟩

set_option maxHeartbeats 1000000 in
theorem greatest_any (B n N : Int) (w : World) (h1 : 1 ≤ N) (h2 : N ≤ 1000000000001) :
    Calls Tryd.prog 112 #[.agg #[.int .i64 B, .int .i64 n, .int .i64 N]] w fun e w' => e = .returned (.int .i64 (N - 1 + -(N / 2))) ∧ Below w.heap.size w w' := by
  obtain ⟨u, hu⟩ : ∃ u, u = w.alloc (.cells #[.int .i64 B, .int .i64 n, .int .i64 N] 113) := ⟨_, rfl⟩
  have bx : Bx u w.heap.size 113 #[.int .i64 B, .int .i64 n, .int .i64 N] := by rw [hu]; exact Bx.new _ _ _
  have hbel : Below w.heap.size w u := by rw [hu]; exact (by repeat (first | exact Below.refl _ _ | refine Below.setCell ?_ (by first | omega | (simp <;> omega)) _ | refine Below.alloc ?_ (by first | omega | (simp <;> omega)) _ | refine Below.drew ?_))
  have c0 := kept_after (bx.at_ 0 rfl)
  have c1 := kept_after (bx.at_ 1 rfl)
  have c2 := kept_after (bx.at_ 2 rfl)
  have HC := Lib.hid (fun v => least_any B n N v h1 h2)
  obtain ⟨q, hq⟩ : ∃ q, q = N / 2 := ⟨_, rfl⟩
  rw [← hq] at HC ⊢
  have hq2 : 0 ≤ q ∧ q ≤ 1000000000002 := by omega
  have HU := Lib.hid hu
  clear hu bx hq
  go_enter Tryd.func112, Tryd.ntmps112
  go_wp2
  rw [← HU.out]
  refine wp_region_after (by kernel_rfl) (by kernel_rfl) ?_
  repeat (go_big_quiet_step ((go_at_call 111; exact calls_after (HC.out _))))
  refine wpQuiet_nil ?_
  intro u
  go_wp2
  go_ret
  exact ⟨rfl, hbel.trans (u.ok.mono hbel.size)⟩

set_option maxHeartbeats 1000000 in
theorem implAccumulatorRange (B n : Int) (w : World) (_ : I64 B) (_ : I64 n) :
    Calls Tryd.prog 30 #[.int .i64 B, .int .i64 n] w fun e w' => e = .returned (.tuple #[.int .i64 (rngA B n).1, .int .i64 (rngA B n).2.1, .int .i64 (rngA B n).2.2]) ∧ Below w.heap.size w w' := by
  have R := Tryd.results30
  cases hf : fullB B n with
  | false =>
    have HR := Lib.hid (show rngA B n = (0, 0, 2) by simp [rngA, hf])
    go_enter Tryd.func30, Tryd.ntmps30
    go_wp2_with fail
    refine (circle_no B n _ hf).mono ?_
    rintro e w1 ⟨rfl, hb⟩
    have hs := hb.size
    go_wp2
    exact bodyPost_ret (v := .tuple #[.int .i64 0, .int .i64 0, .int .i64 2]) (by simp [results, go_sem]) rfl ⟨by rw [HR.out], (by repeat (first | exact hb | refine Below.setCell ?_ (by first | omega | (simp <;> omega)) _ | refine Below.alloc ?_ (by first | omega | (simp <;> omega)) _ | refine Below.drew ?_))⟩
  | true =>
    have HR := Lib.hid (show rngA B n = (-(cntA B n / 2), cntA B n - 1 + -(cntA B n / 2), 0) by simp [rngA, hf])
    have hc := cntA_bd hf
    have HL := Lib.hid (fun v => least_any B n (cntA B n) v (by omega) (by omega))
    have HG := Lib.hid (fun v => greatest_any B n (cntA B n) v (by omega) (by omega))
    go_enter Tryd.func30, Tryd.ntmps30
    go_wp2_with fail
    refine (circle_ok B n _ hf).mono ?_
    rintro e w1 ⟨rfl, hb⟩
    have hs := hb.size
    go_wp2_with fail
    obtain ⟨u, hu⟩ : ∃ u, u = w1.alloc (.cells #[.int .i64 B, .int .i64 n, .int .i64 (cntA B n)] 113) := ⟨_, rfl⟩
    have bx : Bx u w1.heap.size 113 #[.int .i64 B, .int .i64 n, .int .i64 (cntA B n)] := by rw [hu]; exact Bx.new _ _ _
    have hbel : Below w.heap.size w u := by rw [hu]; exact (by repeat (first | exact hb | refine Below.setCell ?_ (by first | omega | (simp <;> omega)) _ | refine Below.alloc ?_ (by first | omega | (simp <;> omega)) _ | refine Below.drew ?_))
    first | rw [← hu] | skip
    have c0 := kept_after (bx.at_ 0 rfl)
    have c1 := kept_after (bx.at_ 1 rfl)
    have c2 := kept_after (bx.at_ 2 rfl)
    clear hu bx hf hc hb
    refine wp_region_after (by kernel_rfl) (by kernel_rfl) ?_
    repeat (go_big_quiet_step (first | (go_at_call 111; exact calls_after (HL.out _)) | (go_at_call 112; exact calls_after (HG.out _))))
    refine wpQuiet_nil ?_
    intro u
    go_wp2
    exact bodyPost_ret (v := .tuple #[.int .i64 (-(cntA B n / 2)), .int .i64 (cntA B n - 1 + -(cntA B n / 2)), .int .i64 0]) (by simp [results, go_sem]) rfl ⟨by rw [HR.out], hbel.trans (u.ok.mono hbel.size)⟩
end Go.Proofs.YtlahobdopmdfmaaDoor
