/-
  Several texts in one: CirI, SameI, SliEq, SameReg, Iter, Back, Value, OkI, PairI, Plus, Minus, Fin, ShnI, RgsI, IsI, SetI, Flat, Gear, Within, NegI, WidI, NegS, Dec, DecI, AtxI, MarkT, Left, StrS, F6, FrameI.
-/
import Derived.Test.YtlahobdopmdfmaaDoorAcuQ1
import Derived.Test.YtlahobdopmdfmaaDoorProg
import Derived.Test.YtlahobdopmdfmaaDoorBase
import Derived.Test.YtlahobdopmdfmaaDoorShFmt
import Derived.Test.YtlahobdopmdfmaaDoorRows
import Derived.Test.YtlahobdopmdfmaaDoorKnob
import Derived.BigQuiet
import Derived.Deep.Cut
import Derived.RangeFuncNested
import Derived.RangeFuncBound
import Derived.RangeFuncCalls
import Derived.RangeFuncLeaves
import Derived.RangeFuncBox
import Derived.Shelf.Abstract
import Derived.Shelf.RegionOpen
import Derived.OwnWalkIn
import Derived.TacticsInMore
import Derived.LoopNIn
import Derived.LoopIn
import Derived.WalkKit
import Derived.LaidEql
import Derived.RowKitTokens
import Derived.IntWalk
import Derived.Lib.ItoaNum
import Derived.Laws.IdiomStrings
import Derived.Lib.LaidTab
import Derived.KernelRfl
import Derived.Lib.AppendIntMem
import Derived.Lib.ItoaLen
import Derived.Laws.Concat
import Derived.Lib.SmallJoins
import Derived.Lib.Strings
import Derived.ProofKit
import Derived.OpenShut
import Derived.ShutString
import Derived.ChangeOld

/- CirI -/
namespace Go.Proofs.YtlahobdopmdfmaaDoor
open Go.RowKit

theorem baseB_iff9 (B : Int) : baseB B = true ↔ 2 ≤ B ∧ B ≤ 16 := by simp [baseB]
theorem isBase9 (b : Int) (w : World) : Calls Tryd.prog 160 #[.int .i64 b] w fun e w' => e = .returned (.bool (baseB b)) ∧ w' = w := by
  by_cases h : 2 ≤ b
  · by_cases h2 : b ≤ 16
    · have H := Lib.hid ((baseB_iff9 b).2 ⟨h, h2⟩)
      go_enter Tryd.func160, Tryd.ntmps160
      go_wp2
      go_ret
      exact ⟨ret_bool H.out.symm, rfl⟩
    · have H := Lib.hid (show baseB b = false by cases e : baseB b with | false => rfl | true => exact absurd ((baseB_iff9 b).1 e).2 h2)
      go_enter Tryd.func160, Tryd.ntmps160
      go_wp2
      go_ret
      exact ⟨ret_bool H.out.symm, rfl⟩
  · have H := Lib.hid (show baseB b = false by cases e : baseB b with | false => rfl | true => exact absurd ((baseB_iff9 b).1 e).1 h)
    go_enter Tryd.func160, Tryd.ntmps160
    go_wp2
    go_ret
    exact ⟨ret_bool H.out.symm, rfl⟩

set_option maxHeartbeats 1000000 in
theorem isWidth9 (n : Int) (w : World) : Calls Tryd.prog 161 #[.int .i64 n] w fun e w' => e = .returned (.bool (inB n 1 16)) ∧ w' = w := by
  cases h : inB n 1 16 with
  | true =>
    obtain ⟨h1, h2⟩ := inB_true h
    have d1 : decide (n ≥ 1) = true := decide_eq_true h1
    have d2 : decide (n ≤ 16) = true := decide_eq_true h2
    clear h
    go_enter Tryd.func161, Tryd.ntmps161
    go_wp2
    go_ret
    exact ⟨rfl, rfl⟩
  | false =>
    have hh := inB_false h
    clear h
    rcases Int.lt_or_le n 1 with h1 | h1
    · have d1 : decide (n ≥ 1) = false := decide_eq_false (by omega)
      have h1' : ¬ 1 ≤ n := by omega
      clear hh h1
      go_enter Tryd.func161, Tryd.ntmps161
      go_wp2
      go_ret
      exact ⟨rfl, rfl⟩
    · have d1 : decide (n ≥ 1) = true := decide_eq_true h1
      have d2 : decide (n ≤ 16) = false := decide_eq_false (by omega)
      have h2 : ¬ n ≤ 16 := by omega
      clear hh
      go_enter Tryd.func161, Tryd.ntmps161
      go_wp2
      go_ret
      exact ⟨rfl, rfl⟩

theorem mod_twice {n c : Int} (hc : 1 ≤ c) : -c < n.tmod c ∧ n.tmod c < c ∧ (n.tmod c + c).tmod c = n % c := by
  have h1 : n.tmod c < c := Int.tmod_lt_of_pos _ (by omega)
  have h2 : -c < n.tmod c := by
    have := Int.tmod_lt_of_pos (-n) (show 0 < c by omega)
    rw [Int.neg_tmod] at this; omega
  refine ⟨h2, h1, ?_⟩
  rw [Int.tmod_eq_emod_of_nonneg (by omega), Int.add_emod_right]
  have e := Int.mul_tdiv_add_tmod n c
  conv => rhs; rw [← e, Int.add_comm, Int.add_mul_emod_self_left]

set_option maxHeartbeats 1000000 in
theorem modulo_any (n c : Int) (w : World) (h1 : 1 ≤ c) (h2 : c ≤ 1000000000001) :
    Calls Tryd.prog 132 #[.int .i64 n, .int .i64 c] w fun e w' => e = .returned (.int .i64 (n % c)) ∧ w' = w := by
  obtain ⟨m1, m2, m3⟩ := mod_twice (n := n) h1
  have hq1 := Int.emod_nonneg n (show c ≠ 0 by omega)
  have hq2 := Int.emod_lt_of_pos n (show 0 < c by omega)
  obtain ⟨q, hq⟩ : ∃ q, q = n % c := ⟨_, rfl⟩
  obtain ⟨r, hr⟩ : ∃ r, n.tmod c = r := ⟨_, rfl⟩
  rw [hr] at m1 m2 m3
  rw [← hq] at m3 hq1 hq2 ⊢
  have hc0 : ¬ c = 0 := by omega
  have hw1 : IntKind.i64.wrap (r + c) = r + c := IntWalk.i64_in _ (by omega)
  have hw2 : wrap64 (r + c) = r + c := by unfold wrap64; omega
  clear hq
  go_enter Tryd.func132, Tryd.ntmps132
  go_wp2
  go_ret
  exact ⟨rfl, rfl⟩

set_option maxHeartbeats 4000000 in
set_option maxRecDepth 100000 in
theorem circle_no (B n : Int) (w : World) (h : fullB B n = false) :
    Calls Tryd.prog 105 #[.int .i64 B, .int .i64 n] w fun e w' => e = .returned (.tuple #[.agg #[.int .i64 0, .int .i64 0, .int .i64 0], .bool false]) ∧ Below w.heap.size w w' := by
  obtain ⟨u, hu⟩ : ∃ u, u = w.alloc (.cells #[.int .i64 0, .int .i64 0, .int .i64 0] 113) := ⟨_, rfl⟩
  have bx : Bx u w.heap.size 113 #[.int .i64 0, .int .i64 0, .int .i64 0] := by rw [hu]; exact Bx.new _ _ _
  have hbel : Below w.heap.size w u := by rw [hu]; exact (by repeat (first | exact Below.refl _ _ | refine Below.setCell ?_ (by first | omega | (simp <;> omega)) _ | refine Below.alloc ?_ (by first | omega | (simp <;> omega)) _ | refine Below.drew ?_))
  have hsz := bx.lt
  have HU := Lib.hid hu
  clear hu
  have HB := Lib.hid (isBase9 B)
  have HW := Lib.hid (isWidth9 n)
  cases hb : baseB B with
  | false =>
    rw [hb] at HB
    have c0 := bx.at_ 0 rfl
    have c1 := bx.at_ 1 rfl
    have c2 := bx.at_ 2 rfl
    have f0 := bx.thaw 0
    have f1 := bx.thaw 1
    have f2 := bx.thaw 2
    clear hb h
    go_enter Tryd.func105, Tryd.ntmps105
    go_wp2_with fail
    rw [← HU.out]
    refine (HB.out u).mono ?_
    rintro e w1 ⟨rfl, hw⟩
    subst w1
    go_wp2
    exact bodyPost_ret (v := .tuple #[.agg #[.int .i64 0, .int .i64 0, .int .i64 0], .bool false]) (by simp [results, Tryd.results105, go_sem, c0, c1, c2]) rfl ⟨rfl, (by repeat (first | with_reducible exact hbel | with_reducible refine Below.setCell ?_ (by first | omega | (simp <;> omega)) _ | with_reducible refine Below.alloc ?_ (by first | omega | (simp <;> omega)) _ | with_reducible refine Below.drew ?_))⟩
  | true =>
    rw [hb] at HB
    obtain ⟨h1, h2⟩ := baseB_true hb
    clear hb
    cases hn : inB n 1 16 with
    | false =>
      rw [hn] at HW
      have c0 := bx.at_ 0 rfl
      have c1 := bx.at_ 1 rfl
      have c2 := bx.at_ 2 rfl
      have f0 := bx.thaw 0
      have f1 := bx.thaw 1
      have f2 := bx.thaw 2
      clear hn h
      go_enter Tryd.func105, Tryd.ntmps105
      go_wp2_with fail
      rw [← HU.out]
      refine (HB.out u).mono ?_
      rintro e w1 ⟨rfl, hw⟩
      subst w1
      go_wp2_with fail
      refine (HW.out _).mono ?_
      rintro e w1 ⟨rfl, hw⟩
      subst w1
      go_wp2
      exact bodyPost_ret (v := .tuple #[.agg #[.int .i64 0, .int .i64 0, .int .i64 0], .bool false]) (by simp [results, Tryd.results105, go_sem, c0, c1, c2]) rfl ⟨rfl, (by repeat (first | with_reducible exact hbel | with_reducible refine Below.setCell ?_ (by first | omega | (simp <;> omega)) _ | with_reducible refine Below.alloc ?_ (by first | omega | (simp <;> omega)) _ | with_reducible refine Below.drew ?_))⟩
    | true =>
      rw [hn] at HW
      obtain ⟨n1, n2⟩ := inB_true hn
      obtain ⟨m, rfl⟩ := Int.eq_ofNat_of_zero_le (show 0 ≤ n by omega)
      have hbig : 1000000000000 < B ^ m - 1 := by
        simp only [fullB, Int.toNat_natCast, decide_eq_false_iff_not] at h
        have : ¬ (B ^ m - 1 ≤ 1000000000000) := fun hh => h ⟨h1, h2, n1, n2, hh⟩
        omega
      have HG := Lib.hid hbig
      clear hn h hbig
      go_enter Tryd.func105, Tryd.ntmps105
      go_wp2_with fail
      rw [← HU.out]
      refine (HB.out u).mono ?_
      rintro e w1 ⟨rfl, hw⟩
      subst w1
      go_wp2_with fail
      refine (HW.out _).mono ?_
      rintro e w1 ⟨rfl, hw⟩
      subst w1
      go_wp2_with fail
      go_loopw [6, 17] (fun c i wr => ∃ (k : Nat) (x : Int), k ≤ m ∧ i = .int .i64 k ∧ c = .int .i64 x ∧ Hid (x = B ^ k) ∧ 1 ≤ x ∧ x ≤ 1000000000001 ∧ wr = u) (fun _ i _ => m - (intOf i).toNat)
      case atStart => exact ⟨0, 1, Nat.zero_le _, rfl, rfl, Lib.hid (by simp), by omega, by omega, rfl⟩
      case round =>
        obtain ⟨k, x, hk, rfl, rfl, HX, x1, x2, hw⟩ := hrel
        subst wr
        by_cases hlt : k < m
        · have hm0 : x * B ≤ 1000000000001 * 16 := Int.mul_le_mul x2 h2 (by omega) (by omega)
          have hm1 : x * 1 ≤ x * B := Int.mul_le_mul_of_nonneg_left (by omega) (by omega)
          obtain ⟨q, hq⟩ : ∃ q, q = x * B := ⟨_, rfl⟩
          have HQ := Lib.hid (show q = B ^ (k + 1) by rw [hq, HX.out, Int.pow_succ])
          rw [← hq] at hm0 hm1
          have hw1 : IntKind.i64.wrap (x * B) = q := by rw [← hq]; exact IntWalk.i64_in _ (by omega)
          have hw2 : wrap64 (x * B) = q := by rw [← hq]; unfold wrap64; omega
          clear hq
          by_cases hb2 : 1000000000000 < q - 1
          · have c0 := bx.at_ 0 rfl
            have c1 := bx.at_ 1 rfl
            have c2 := bx.at_ 2 rfl
            have f0 := bx.thaw 0
            have f1 := bx.thaw 1
            have f2 := bx.thaw 2
            go_wp2
            exact bodyPost_ret (v := .tuple #[.agg #[.int .i64 0, .int .i64 0, .int .i64 0], .bool false]) (by simp [results, Tryd.results105, go_sem, c0, c1, c2]) rfl ⟨rfl, (by repeat (first | with_reducible exact hbel | with_reducible refine Below.setCell ?_ (by first | omega | (simp <;> omega)) _ | with_reducible refine Below.alloc ?_ (by first | omega | (simp <;> omega)) _ | with_reducible refine Below.drew ?_))⟩
          · go_wp2
            go_roundw
            case rel => exact ⟨k + 1, q, by omega, by go_num, rfl, HQ, by omega, by omega, by simp⟩
            case measure => simp [intOf]; omega
        · exfalso
          have hm : k = m := by omega
          subst hm
          have e1 := HX.out
          have e2 := HG.out
          omega

set_option maxHeartbeats 4000000 in
set_option maxRecDepth 100000 in
theorem circle_ok (B n : Int) (w : World) (h : fullB B n = true) :
    Calls Tryd.prog 105 #[.int .i64 B, .int .i64 n] w fun e w' => e = .returned (.tuple #[.agg #[.int .i64 B, .int .i64 n, .int .i64 (cntA B n)], .bool true]) ∧ Below w.heap.size w w' := by
  obtain ⟨u, hu⟩ : ∃ u, u = w.alloc (.cells #[.int .i64 0, .int .i64 0, .int .i64 0] 113) := ⟨_, rfl⟩
  have bx : Bx u w.heap.size 113 #[.int .i64 0, .int .i64 0, .int .i64 0] := by rw [hu]; exact Bx.new _ _ _
  have hbel : Below w.heap.size w u := by rw [hu]; exact (by repeat (first | exact Below.refl _ _ | refine Below.setCell ?_ (by first | omega | (simp <;> omega)) _ | refine Below.alloc ?_ (by first | omega | (simp <;> omega)) _ | refine Below.drew ?_))
  have hsz := bx.lt
  have HU := Lib.hid hu
  clear hu
  obtain ⟨h1, h2, n1, n2, h5⟩ := fullB_spec h
  have HB := Lib.hid (isBase9 B)
  have HW := Lib.hid (isWidth9 n)
  rw [show baseB B = true by simp [baseB, h1, h2]] at HB
  rw [inB_yes n1 n2] at HW
  obtain ⟨m, rfl⟩ := Int.eq_ofNat_of_zero_le (show 0 ≤ n by omega)
  have HC := Lib.hid (show cntA B (m : Int) = B ^ m by simp [cntA])
  have HP := Lib.hid (fun k (hk : k ≤ m) => show B ^ k ≤ 1000000000001 by
    have := pow_mono' h1 hk
    rw [Int.toNat_natCast] at h5
    omega)
  clear h h5
  go_enter Tryd.func105, Tryd.ntmps105
  go_wp2_with fail
  rw [← HU.out]
  refine (HB.out u).mono ?_
  rintro e w1 ⟨rfl, hw⟩
  subst w1
  go_wp2_with fail
  refine (HW.out _).mono ?_
  rintro e w1 ⟨rfl, hw⟩
  subst w1
  go_wp2_with fail
  go_loopw [6, 17] (fun c i wr => ∃ (k : Nat) (x : Int), k ≤ m ∧ i = .int .i64 k ∧ c = .int .i64 x ∧ Hid (x = B ^ k) ∧ 1 ≤ x ∧ x ≤ 1000000000001 ∧ wr = u) (fun _ i _ => m - (intOf i).toNat)
  case atStart => exact ⟨0, 1, Nat.zero_le _, rfl, rfl, Lib.hid (by simp), by omega, by omega, rfl⟩
  case round =>
    obtain ⟨k, x, hk, rfl, rfl, HX, x1, x2, hw⟩ := hrel
    subst wr
    by_cases hlt : k < m
    · have hm1 : x * 1 ≤ x * B := Int.mul_le_mul_of_nonneg_left (by omega) (by omega)
      obtain ⟨q, hq⟩ : ∃ q, q = x * B := ⟨_, rfl⟩
      have hQ : q = B ^ (k + 1) := by rw [hq, HX.out, Int.pow_succ]
      have hm0 : q ≤ 1000000000001 := by rw [hQ]; exact HP.out _ (by omega)
      have HQ := Lib.hid hQ
      rw [← hq] at hm1
      have hw1 : IntKind.i64.wrap (x * B) = q := by rw [← hq]; exact IntWalk.i64_in _ (by omega)
      have hw2 : wrap64 (x * B) = q := by rw [← hq]; unfold wrap64; omega
      clear hq hQ
      go_wp2
      go_roundw
      case rel => exact ⟨k + 1, q, by omega, by go_num, rfl, HQ, by omega, by omega, by simp⟩
      case measure => simp [intOf]; omega
    · obtain rfl : k = m := by omega
      have HE := Lib.hid (HC.out.trans HX.out.symm)
      have c0 := bx.at_ 0 rfl
      have c1 := bx.at_ 1 rfl
      have c2 := bx.at_ 2 rfl
      have f0 := bx.thaw 0
      have f1 := bx.thaw 1
      have f2 := bx.thaw 2
      go_wp2
      exact bodyPost_ret (v := .tuple #[.agg #[.int .i64 B, .int .i64 k, .int .i64 x], .bool true]) (by simp [results, Tryd.results105, go_sem, c0, c1, c2]) rfl ⟨by rw [HE.out], (by repeat (first | with_reducible exact hbel | with_reducible refine Below.setCell ?_ (by first | omega | (simp <;> omega)) _ | with_reducible refine Below.alloc ?_ (by first | omega | (simp <;> omega)) _ | with_reducible refine Below.drew ?_))⟩

set_option maxHeartbeats 1000000 in
theorem least_any (B n N : Int) (w : World) (h1 : 1 ≤ N) (h2 : N ≤ 1000000000001) :
    Calls Tryd.prog 111 #[.agg #[.int .i64 B, .int .i64 n, .int .i64 N]] w fun e w' => e = .returned (.int .i64 (-(N / 2))) ∧ Below w.heap.size w w' := by
  have ht : N.tdiv 2 = N / 2 := Int.tdiv_eq_ediv_of_nonneg (by omega)
  obtain ⟨q, hq⟩ : ∃ q, q = N / 2 := ⟨_, rfl⟩
  rw [← hq] at ht ⊢
  have hq2 : 0 ≤ q ∧ q ≤ 1000000000002 := by omega
  clear hq
  go_enter Tryd.func111, Tryd.ntmps111
  go_wp2
  go_ret
  exact ⟨rfl, (by repeat (first | exact Below.refl _ _ | refine Below.setCell ?_ (by first | omega | (simp <;> omega)) _ | refine Below.alloc ?_ (by first | omega | (simp <;> omega)) _ | refine Below.drew ?_))⟩

set_option maxHeartbeats 1000000 in
theorem greatest_any (B n N : Int) (w : World) (h1 : 1 ≤ N) (h2 : N ≤ 1000000000001) :
    Calls Tryd.prog 112 #[.agg #[.int .i64 B, .int .i64 n, .int .i64 N]] w fun e w' => e = .returned (.int .i64 (N - 1 + -(N / 2))) ∧ Below w.heap.size w w' := by
  obtain ⟨u, hu⟩ : ∃ u, u = w.alloc (.cells #[.int .i64 B, .int .i64 n, .int .i64 N] 113) := ⟨_, rfl⟩
  have bx : Bx u w.heap.size 113 #[.int .i64 B, .int .i64 n, .int .i64 N] := by rw [hu]; exact Bx.new _ _ _
  have hbel : Below w.heap.size w u := by rw [hu]; exact (by repeat (first | exact Below.refl _ _ | refine Below.setCell ?_ (by first | omega | (simp <;> omega)) _ | refine Below.alloc ?_ (by first | omega | (simp <;> omega)) _ | refine Below.drew ?_))
  have c0 := kept_after (bx.at_ 0 rfl)
  have c1 := kept_after (bx.at_ 1 rfl)
  have c2 := kept_after (bx.at_ 2 rfl)
  have HC := Lib.hid (fun v => least_any B n N v h1 h2)
  obtain ⟨q, hq⟩ : ∃ q, q = N / 2 := ⟨_, rfl⟩
  rw [← hq] at HC ⊢
  have hq2 : 0 ≤ q ∧ q ≤ 1000000000002 := by omega
  have HU := Lib.hid hu
  clear hu bx hq
  go_enter Tryd.func112, Tryd.ntmps112
  go_wp2
  rw [← HU.out]
  refine wp_region_after (by kernel_rfl) (by kernel_rfl) ?_
  repeat (go_big_quiet_step ((go_at_call 111; exact calls_after (HC.out _))))
  refine wpQuiet_nil ?_
  intro u
  go_wp2
  go_ret
  exact ⟨rfl, hbel.trans (u.ok.mono hbel.size)⟩

set_option maxHeartbeats 1000000 in
theorem implAccumulatorRange (B n : Int) (w : World) (_ : I64 B) (_ : I64 n) :
    Calls Tryd.prog 30 #[.int .i64 B, .int .i64 n] w fun e w' => e = .returned (.tuple #[.int .i64 (rngA B n).1, .int .i64 (rngA B n).2.1, .int .i64 (rngA B n).2.2]) ∧ Below w.heap.size w w' := by
  have R := Tryd.results30
  cases hf : fullB B n with
  | false =>
    have HR := Lib.hid (show rngA B n = (0, 0, 2) by simp [rngA, hf])
    go_enter Tryd.func30, Tryd.ntmps30
    go_wp2_with fail
    refine (circle_no B n _ hf).mono ?_
    rintro e w1 ⟨rfl, hb⟩
    have hs := hb.size
    go_wp2
    exact bodyPost_ret (v := .tuple #[.int .i64 0, .int .i64 0, .int .i64 2]) (by simp [results, go_sem]) rfl ⟨by rw [HR.out], (by repeat (first | exact hb | refine Below.setCell ?_ (by first | omega | (simp <;> omega)) _ | refine Below.alloc ?_ (by first | omega | (simp <;> omega)) _ | refine Below.drew ?_))⟩
  | true =>
    have HR := Lib.hid (show rngA B n = (-(cntA B n / 2), cntA B n - 1 + -(cntA B n / 2), 0) by simp [rngA, hf])
    have hc := cntA_bd hf
    have HL := Lib.hid (fun v => least_any B n (cntA B n) v (by omega) (by omega))
    have HG := Lib.hid (fun v => greatest_any B n (cntA B n) v (by omega) (by omega))
    go_enter Tryd.func30, Tryd.ntmps30
    go_wp2_with fail
    refine (circle_ok B n _ hf).mono ?_
    rintro e w1 ⟨rfl, hb⟩
    have hs := hb.size
    go_wp2_with fail
    obtain ⟨u, hu⟩ : ∃ u, u = w1.alloc (.cells #[.int .i64 B, .int .i64 n, .int .i64 (cntA B n)] 113) := ⟨_, rfl⟩
    have bx : Bx u w1.heap.size 113 #[.int .i64 B, .int .i64 n, .int .i64 (cntA B n)] := by rw [hu]; exact Bx.new _ _ _
    have hbel : Below w.heap.size w u := by rw [hu]; exact (by repeat (first | exact hb | refine Below.setCell ?_ (by first | omega | (simp <;> omega)) _ | refine Below.alloc ?_ (by first | omega | (simp <;> omega)) _ | refine Below.drew ?_))
    first | rw [← hu] | skip
    have c0 := kept_after (bx.at_ 0 rfl)
    have c1 := kept_after (bx.at_ 1 rfl)
    have c2 := kept_after (bx.at_ 2 rfl)
    clear hu bx hf hc hb
    refine wp_region_after (by kernel_rfl) (by kernel_rfl) ?_
    repeat (go_big_quiet_step (first | (go_at_call 111; exact calls_after (HL.out _)) | (go_at_call 112; exact calls_after (HG.out _))))
    refine wpQuiet_nil ?_
    intro u
    go_wp2
    exact bodyPost_ret (v := .tuple #[.int .i64 (-(cntA B n / 2)), .int .i64 (cntA B n - 1 + -(cntA B n / 2)), .int .i64 0]) (by simp [results, go_sem]) rfl ⟨by rw [HR.out], hbel.trans (u.ok.mono hbel.size)⟩
end Go.Proofs.YtlahobdopmdfmaaDoor

/- SameI -/
namespace Go.Proofs.YtlahobdopmdfmaaDoor
open Go.RowKit

set_option maxHeartbeats 400000 in
theorem l00Same_any (a b : Option Addr) (c d : Nat) (xs ys : List Int) (w : World) (ha : Rd w a xs) (hb : Rd w b ys) :
    Calls Tryd.prog 165 #[.slice a xs.length c, .slice b ys.length d] w fun e w' => e = .returned (.bool (decide (xs = ys))) ∧ ∃ n, w' = w.drewN n := by
  have hx1 := ha.len
  have hy1 := hb.len
  by_cases hl : xs.length = ys.length
  · have ht : ((xs.length : Int) != (ys.length : Int)) = false := by simp [hl]
    have HL := Lib.hid hl
    clear hl
    go_enter Tryd.func165, Tryd.ntmps165
    go_wp2
    go_loopw [5] (fun i wr => ∃ k n : Nat, k ≤ xs.length ∧ i = .int .i64 k ∧ wr = w.drewN n ∧ Hid (xs.take k = ys.take k)) (fun i _ => xs.length - (intOf i).toNat)
    case atStart => exact ⟨0, 0, Nat.zero_le _, rfl, rfl, Lib.hid (by simp)⟩
    case round =>
      obtain ⟨k, n, hk, rfl, rfl, HT⟩ := hrel
      by_cases hlt : k < xs.length
      · have hlt' : k < ys.length := by rw [← HL.out]; exact hlt
        obtain ⟨b1, o1, rfl, hc1⟩ := ha.at_ hlt
        obtain ⟨b2, o2, rfl, hc2⟩ := hb.at_ hlt'
        by_cases he : nth xs k = nth ys k
        · have hbe : (nth xs k != nth ys k) = false := by simp [he]
          have HE := Lib.hid he
          clear he
          go_wp2
          go_quiet (fail)
          go_wp2
          go_roundw
          case rel => exact ⟨k + 1, _, by omega, by go_num, rfl, Lib.hid (take_eq_snoc hlt HL.out HT.out HE.out)⟩
          case measure => simp [intOf]; omega
        · have hbe : (nth xs k != nth ys k) = true := by simp [he]
          have HE := Lib.hid he
          clear he
          go_wp2
          go_quiet (fail)
          go_wp2
          go_ret
          exact ⟨ret_bool (by simp [ne_of_at HE.out]), _, drewN_drewN _ _ _⟩
      · obtain rfl : k = xs.length := by omega
        go_wp2
        go_ret
        exact ⟨ret_bool (by simp [take_all_eq HL.out HT.out]), _, rfl⟩
  · have ht : ((xs.length : Int) != (ys.length : Int)) = true := by simp; omega
    have HL := Lib.hid hl
    clear hl
    go_enter Tryd.func165, Tryd.ntmps165
    go_wp2
    go_ret
    exact ⟨ret_bool (by rw [decide_eq_false]; rintro rfl; exact HL.out rfl), 0, rfl⟩
end Go.Proofs.YtlahobdopmdfmaaDoor

/- SliEq -/
namespace Go.Proofs.YtlahobdopmdfmaaDoor
open Go.RowKit

end Go.Proofs.YtlahobdopmdfmaaDoor

/- SameReg -/
namespace Go.Proofs.YtlahobdopmdfmaaDoor
open Go.RowKit

set_option maxHeartbeats 400000 in
theorem l02Same_any (p q : Nat) (B D : Int) (a b : Option Addr) (c d : Nat) (xs ys : List Int) (w : World) (ha : Rd w a xs) (hb : Rd w b ys)
    (hp0 : w.cell? ⟨p, 0, none⟩ = some (.int .i64 B)) (hp1 : w.cell? ⟨p, 1, none⟩ = some (.slice a xs.length c)) (hq0 : w.cell? ⟨q, 0, none⟩ = some (.int .i64 D)) (hq1 : w.cell? ⟨q, 1, none⟩ = some (.slice b ys.length d)) :
    Calls Tryd.prog 120 #[.pointer (some ⟨p, 0, none⟩), .pointer (some ⟨q, 0, none⟩)] w fun e w' => e = .returned (.bool (regEqB B D xs ys)) ∧ ∃ n, w' = w.drewN n := by
  by_cases h : B = D
  · have hbe : (B == D) = true := by simp [h]
    have H := Lib.hid h
    clear h
    go_enter Tryd.func120, Tryd.ntmps120
    go_wp2
    go_quiet ((go_at_call 165; exact Calls.quiet_of (l00Same_any _ _ _ _ _ _ _ (ha.drewN _) (hb.drewN _))))
    go_wp2
    go_ret
    exact ⟨ret_bool (by simp [regEqB, H.out]), _, rfl⟩
  · have hbe : (B == D) = false := by simp [h]
    have H := Lib.hid h
    clear h
    go_enter Tryd.func120, Tryd.ntmps120
    go_wp2
    go_quiet (fail)
    go_wp2
    go_ret
    exact ⟨ret_bool (by simp [regEqB, H.out]), _, rfl⟩

set_option maxHeartbeats 400000 in
theorem specSameRegister_any (B D : Int) (a b : Option Addr) (c d : Nat) (xs ys : List Int) (w : World) (ha : Rd w a xs) (hb : Rd w b ys) :
    Calls Tryd.prog 39 #[.agg #[.int .i64 B, .slice a xs.length c], .agg #[.int .i64 D, .slice b ys.length d]] w fun e w' =>
      e = .returned (.bool (regEqB B D xs ys)) ∧ Below w.heap.size w w' := by
  have hbel : Below w.heap.size w ((w.alloc (.cells #[.int .i64 B, .slice a xs.length c] 26)).alloc (.cells #[.int .i64 D, .slice b ys.length d] 26)) :=
    ((Below.refl _ _).alloc (Nat.le_refl _) _).alloc (by simp) _
  go_enter Tryd.func39, Tryd.ntmps39
  go_wp2_with fail
  refine (l02Same_any w.heap.size (w.heap.size + 1) B D a b c d xs ys _ (ha.below hbel) (hb.below hbel) (by go_simp) (by go_simp) (by go_simp) (by go_simp)).mono ?_
  rintro e w1 ⟨rfl, n, rfl⟩
  go_wp2
  go_ret
  exact ⟨rfl, bel_drewN hbel _⟩

theorem specSameRegister (xB : Int) (xA : Option Addr) (xC : Nat) (xZ : List Int) (yB : Int) (yA : Option Addr) (yC : Nat) (yZ : List Int) (w : World) (hx : Rd w xA xZ) (_ : All64 xZ) (_ : I64 xB) (hy : Rd w yA yZ) (_ : All64 yZ) (_ : I64 yB) :
    Calls Tryd.prog 39 #[.agg #[.int .i64 xB, .slice xA xZ.length xC], .agg #[.int .i64 yB, .slice yA yZ.length yC]] w fun e w' =>
      e = .returned (.bool (regEqB xB yB xZ yZ)) ∧ Below w.heap.size w w' := specSameRegister_any xB yB xA yA xC yC xZ yZ w hx hy
end Go.Proofs.YtlahobdopmdfmaaDoor

/- Iter -/
namespace Go.Proofs.YtlahobdopmdfmaaDoor
open Go.RowKit Go.Shelf

/-- A number of which p is known, with its index. -/
abbrev Ent (p : Int → Prop) := Nat × { d : Int // p d }
/-- The first k entries from the end of zs on. -/
def bwd {p : Int → Prop} (zs : List Int) (h : ∀ d ∈ zs, p d) : Nat → List (Ent p)
  | 0 => []
  | k + 1 => if hk : k < zs.length then bwd zs h k ++ [(zs.length - 1 - k, ⟨zs[zs.length - 1 - k], h _ (List.getElem_mem _)⟩)] else bwd zs h k
theorem bwd_succ {p : Int → Prop} {zs : List Int} {h : ∀ d ∈ zs, p d} {k : Nat} (hk : k < zs.length) :
    bwd zs h (k + 1) = bwd zs h k ++ [(zs.length - 1 - k, ⟨zs[zs.length - 1 - k], h _ (List.getElem_mem _)⟩)] := by rw [bwd, dif_pos hk]
theorem bwd_step {p : Int → Prop} {zs : List Int} {h : ∀ d ∈ zs, p d} {k j : Nat} (hj : k + (j + 1) = zs.length) (hpj : p (nth zs j)) : bwd zs h (k + 1) = bwd zs h k ++ [(j, ⟨nth zs j, hpj⟩)] := by
  have e : zs.length - 1 - k = j := by omega
  rw [bwd_succ (by omega)]
  congr 2
  have hg : nth zs j = zs[zs.length - 1 - k] := by rw [nth_get (by omega)]; congr 1; exact e.symm
  simp [e, hg]
theorem bwd_len {p : Int → Prop} {zs : List Int} {h : ∀ d ∈ zs, p d} : ∀ {k : Nat}, k ≤ zs.length → (bwd zs h k).length = k
  | 0, _ => rfl
  | k + 1, hk => by rw [bwd_succ (by omega), List.length_append, bwd_len (by omega)]; rfl
/-- Horner's sum of what has come. -/
def hor {p : Int → Prop} (b : Int) (pre : List (Ent p)) : Int := pre.foldl (fun s x => s * b + x.2.1) 0
theorem hor_snoc {p : Int → Prop} (b : Int) (pre : List (Ent p)) (x : Ent p) : hor b (pre ++ [x]) = hor b pre * b + x.2.1 := by simp [hor]
theorem hor_bwd {p : Int → Prop} (b : Int) {zs : List Int} {h : ∀ d ∈ zs, p d} : ∀ {k : Nat}, k ≤ zs.length → hor b (bwd zs h k) = valR b (zs.drop (zs.length - k))
  | 0, _ => by simp [hor, bwd, valR]
  | k + 1, hk => by
    rw [bwd_succ (by omega), hor_snoc, hor_bwd b (by omega)]
    rw [List.drop_eq_getElem_cons (show zs.length - (k + 1) < zs.length by omega)]
    have e1 : zs.length - (k + 1) + 1 = zs.length - k := by omega
    have e2 : valR b (zs[zs.length - (k + 1)] :: zs.drop (zs.length - (k + 1) + 1)) = zs[zs.length - (k + 1)] + b * valR b (zs.drop (zs.length - (k + 1) + 1)) := rfl
    rw [e2, e1, Int.mul_comm]
    have e3 : zs[zs.length - 1 - k] = zs[zs.length - (k + 1)] := by congr 1; omega
    simp only [e3]
    omega
/-- A sum of highest digits is not greater than the value. -/
theorem valR_drop_le {b : Int} (hb : 1 ≤ b) : ∀ (zs : List Int) (k : Nat), (∀ d ∈ zs, 0 ≤ d ∧ d < b) → valR b (zs.drop k) ≤ valR b zs
  | [], k, _ => by simp [valR]
  | d :: ds, 0, _ => by simp
  | d :: ds, k + 1, h => by
    have h1 := h d (by simp)
    have hds : ∀ x ∈ ds, 0 ≤ x ∧ x < b := fun x hx => h x (by simp [hx])
    have ih := valR_drop_le hb ds k hds
    have h2 := valR_nonneg (by omega : 0 ≤ b) hds
    have h3 : 1 * valR b ds ≤ b * valR b ds := Int.mul_le_mul_of_nonneg_right hb h2
    have e : valR b (d :: ds) = d + b * valR b ds := rfl
    rw [List.drop_succ_cons, e]
    omega

/-- What a round must keep: what lay below n₀, and the box of the slice that is ranged over. -/
def KeepB (n₀ Bs : Nat) (W W' : World) : Prop := Below n₀ W W' ∧ W'.heap[Bs]? = W.heap[Bs]?
theorem KeepB.refl (n₀ Bs : Nat) (W : World) : KeepB n₀ Bs W W := ⟨Below.refl _ _, rfl⟩
theorem keepB_t {n₀ Bs : Nat} {A B C : World} (h : KeepB n₀ Bs A B) (k : KeepB n₀ Bs B C) : KeepB n₀ Bs A C := ⟨h.1.trans k.1, k.2.trans h.2⟩
theorem keepB_b {n₀ Bs : Nat} {w : World} (hn : n₀ ≤ w.heap.size) (hB : Bs < w.heap.size) (W : World) (l : Nat) (o o' : Obj) (hl : w.heap.size ≤ l) (h : W.heap[l]? = some o) (_ : o.isCells = false) (_ : o.isWalk = false) : KeepB n₀ Bs W (W.putObj l o') :=
  ⟨belowK_b hn W l o o' hl h ‹_› ‹_›, (grownBy_putObj' W l o').block Bs (by have := (Array.getElem?_eq_some_iff.1 h).1; omega) (by intro e; cases e; omega)⟩
theorem KeepB.cell {n₀ Bs : Nat} {W W' : World} (h : KeepB n₀ Bs W W') {o : Nat} {v : Value} (hc : W.cell? ⟨Bs, o, none⟩ = some v) : W'.cell? ⟨Bs, o, none⟩ = some v := (World.cell?_of_block h.2).trans hc
theorem KeepB.set_ {n₀ Bs : Nat} (W : World) {p : Addr} (h1 : n₀ ≤ p.block) (h2 : p.block ≠ Bs) (u : Value) : KeepB n₀ Bs W (W.setCell p u) :=
  ⟨(Below.refl _ _).setCell h1 _, Below.heap_setCell _ _ _ _ (by omega)⟩
end Go.Proofs.YtlahobdopmdfmaaDoor

/- Back -/
namespace Go.Proofs.YtlahobdopmdfmaaDoor
open Go.RowKit Go.Shelf

attribute [local go_sem] Oper.semAt_some

set_option maxRecDepth 100000 in
set_option maxHeartbeats 2000000 in
theorem back1_in {p : Int → Prop} (F : Fence) (n : Nat) (hF : F.fn 197) (hro : F.round = none) (hn : 1 ≤ n) (l Bs n₀ : Nat) (a : Option Addr) (cap : Nat) (zs : List Int) (hp : ∀ d ∈ zs, p d)
    (J Jx : List (Ent p) → World → Prop)
    (hY : ∀ pre x W, J pre W → pre.length < zs.length → YieldAt F (n - 1) Tryd.prog l #[.int .i64 (x.1 : Int), .int .i64 x.2.1] W fun e W' =>
      (e = .returned (.bool true) ∧ J (pre ++ [x]) W' ∧ KeepB n₀ Bs W W') ∨ (e = .returned (.bool false) ∧ Jx (pre ++ [x]) W'))
    (W : World) (hBs : W.cell? ⟨Bs, 0, none⟩ = some (.slice a zs.length cap)) (hR : Rd W a zs) (hRn : zs ≠ [] → ∀ b off, a = some ⟨b, off, none⟩ → b < n₀) (h0 : J [] W) :
    CallsIn F n Tryd.prog 197 #[.func (.yield l) #[] #[], .pointer (some ⟨Bs, 0, none⟩)] W fun e W' => (∃ v, e = .returned v) ∧
      ((∃ ys, ys = bwd zs hp zs.length ∧ J ys W') ∨ (∃ pre, (∃ k, k ≤ zs.length ∧ pre = bwd zs hp k) ∧ Jx pre W')) := by
  have hlen := hR.len
  refine callsIn_of_wp Tryd.func197 rfl hF ?_ hro
  simp only [Tryd.ntmps197, List.size_toArray, List.length_cons, List.length_nil, Nat.reduceAdd, Nat.reduceSub, Array.replicate_succ, Array.replicate_zero, List.push_toArray, List.append_toArray, List.nil_append, List.cons_append]
  gi_wp2
  gi_loopw [3] (fun i wr => ∃ (j k : Nat), k + j = zs.length ∧ i = .int .i64 ((j : Int) - 1) ∧ J (bwd zs hp k) wr ∧ KeepB n₀ Bs W wr) (fun i _ => (intOf i + 1).toNat)
  case atStart => exact ⟨zs.length, 0, by omega, by go_num, h0, KeepB.refl _ _ _⟩
  case round =>
    obtain ⟨j, k, hk, hi, hJs, hnx⟩ := hrel
    subst hi
    have hBr := hnx.cell hBs
    cases j with
    | zero =>
      have hkl : k = zs.length := by omega
      gi_wp2
      go_end0
      exact ⟨⟨_, rfl⟩, .inl ⟨_, rfl, by rw [← hkl]; exact hJs⟩⟩
    | succ j =>
      rw [show ((j + 1 : Nat) : Int) - 1 = (j : Int) from by omega]
      have hjl : j < zs.length := by omega
      obtain ⟨q, off, rfl, hc⟩ := hR.at_ hjl
      have hq : q < n₀ := hRn (by rintro rfl; simp at hjl) q off rfl
      have hcr := (hnx.1.cell (p := ⟨q, off + j, none⟩) hq).trans hc
      have hpj : p (nth zs j) := by rw [nth_get hjl]; exact hp _ (List.getElem_mem _)
      obtain ⟨fn, tmps, assign, body, hy, hYR⟩ := hY _ (j, ⟨nth zs j, hpj⟩) wr hJs (by rw [bwd_len (by omega)]; omega)
      dsimp only at hy
      have HK := Lib.hid hk
      clear hk
      gi_wp2
      refine hYR.mono ?_
      rintro e W3 (⟨rfl, hJ3, hk3⟩ | ⟨rfl, hJx3⟩)
      · gi_wp2
        go_roundw
        case rel => exact ⟨j, k + 1, by have := HK.out; omega, by go_num, by rw [bwd_step HK.out hpj]; exact hJ3, keepB_t hnx hk3⟩
        case measure => (simp [intOf]) <;> omega
      · gi_wp2
        refine bodyPost_ret (results_none rfl _ _ _) rfl ?_
        exact ⟨⟨_, rfl⟩, .inr ⟨_, ⟨k + 1, by have := HK.out; omega, (bwd_step HK.out hpj).symm⟩, hJx3⟩⟩

set_option maxHeartbeats 1000000 in
theorem backward_in (F : Fence) (n : Nat) (hF : F.fn 188) (hro : F.round = none) (a : Option Addr) (len cap : Nat) (w : World) :
    CallsIn F n Tryd.prog 188 #[.slice a len cap] w fun e w' => e = .returned (.func (.func 197) #[] #[.pointer (some ⟨w.heap.size, 0, none⟩)]) ∧ w' = w.alloc (.cells #[.slice a len cap] 161) := by
  refine callsIn_of_wp Tryd.func188 rfl hF ?_ hro
  simp only [Tryd.ntmps188, List.size_toArray, List.length_cons, List.length_nil, Nat.reduceAdd, Nat.reduceSub, Array.replicate_succ, Array.replicate_zero, List.push_toArray, List.append_toArray, List.nil_append, List.cons_append]
  gi_wp2
  go_ret
  exact ⟨rfl, rfl⟩

theorem backward_stops {p : Int → Prop} (F : Fence) (n : Nat) (hF : F.fn 197) (hro : F.round = none) (hn : 1 ≤ n) (Bs n₀ : Nat) (a : Option Addr) (cap : Nat) (zs : List Int) (hp : ∀ d ∈ zs, p d) (w : World) (hBs : Bs < w.heap.size)
    (hc : w.cell? ⟨Bs, 0, none⟩ = some (.slice a zs.length cap)) (hR : Rd w a zs) (hRn : zs ≠ [] → ∀ b off, a = some ⟨b, off, none⟩ → b < n₀) :
    SeqStopsK F n Tryd.prog 197 #[.pointer (some ⟨Bs, 0, none⟩)] (fun x : Ent p => #[Value.int .i64 (x.1 : Int), Value.int .i64 x.2.1]) (KeepB n₀ Bs) (fun ys => ys = bwd zs hp zs.length)
      (fun pre => ∃ k, k ≤ zs.length ∧ pre = bwd zs hp k) zs.length w := fun l J Jx W hW _ _ hY h0 =>
  back1_in F n hF hro hn l Bs n₀ a cap zs hp J Jx hY W ((hW.cell (p := ⟨Bs, 0, none⟩) hBs).trans hc) (hR.below hW) hRn h0
end Go.Proofs.YtlahobdopmdfmaaDoor

/- Value -/
namespace Go.Proofs.YtlahobdopmdfmaaDoor
open Go.RowKit Go.Shelf

attribute [local go_sem] Oper.semAt_some

/-- A digit of a base up to 16. -/
def isDig (b d : Int) : Prop := 0 ≤ d ∧ d < b

set_option maxRecDepth 100000 in
set_option maxHeartbeats 2000000 in
theorem value_in (F : Fence) (n : Nat) (hf : F.fn 172) (hf1 : F.fn 188) (hf2 : F.fn 197) (hro : F.round = none) (hn : 3 ≤ n)
    (b : Int) (a : Option Addr) (cap : Nat) (zs : List Int) (w : World) (hb1 : 2 ≤ b) (hb2 : b ≤ 16) (hd : ∀ d ∈ zs, isDig b d) (hR : Rd w a zs) :
    CallsIn F n Tryd.prog 172 #[.slice a zs.length cap, .int .i64 b] w fun e W' =>
      e = .returned (.tuple #[.int .i64 (valOr b zs), .bool (valOk b zs)]) ∧ Below w.heap.size w W' := by
  have h1 : 1 ≤ n := by omega
  refine callsIn_of_wp_marks Tryd.func172 rfl hf ?_ hro
  simp only [Tryd.ntmps172, List.size_toArray, List.length_cons, List.length_nil, Nat.reduceAdd, Nat.reduceSub, Array.replicate_succ, Array.replicate_zero, List.push_toArray, List.append_toArray, List.nil_append, List.cons_append]
  gi_wp2_with (gi_at_call 188; refine (backward_in F (n - 1) hf1 hro _ _ _ _).mono ?_; rintro e w' ⟨rfl, rfl⟩)
  obtain ⟨W0, hW0⟩ : ∃ W0, W0 = ((((w.alloc (.cells #[.int .i64 b] 2)).alloc (.cells #[.int .i64 0] 2)).alloc (.cells #[.bool false] 4)).alloc (.cells #[.int .i64 0] 2)).alloc (.cells #[.slice a zs.length cap] 161) := ⟨_, rfl⟩
  rw [← hW0]
  have bx0 : Bx W0 w.heap.size 2 #[.int .i64 b] := by rw [hW0]; exact ((((Bx.new _ _ _).alloc _).alloc _).alloc _).alloc _
  have bx1 : Bx W0 (w.heap.size + 1) 2 #[.int .i64 0] := by rw [hW0]; exact ((by simpa using Bx.new (w.alloc (.cells #[.int .i64 b] 2)) #[.int .i64 0] 2 : Bx _ (w.heap.size + 1) _ _).alloc _).alloc _ |>.alloc _
  have bx2 : Bx W0 (w.heap.size + 1 + 1) 4 #[.bool false] := by rw [hW0]; exact ((by simpa using Bx.new ((w.alloc (.cells #[.int .i64 b] 2)).alloc (.cells #[.int .i64 0] 2)) #[.bool false] 4 : Bx _ (w.heap.size + 1 + 1) _ _).alloc _).alloc _
  have bx3 : Bx W0 (w.heap.size + 1 + 1 + 1) 2 #[.int .i64 0] := by rw [hW0]; exact (by simpa using Bx.new (((w.alloc (.cells #[.int .i64 b] 2)).alloc (.cells #[.int .i64 0] 2)).alloc (.cells #[.bool false] 4)) #[.int .i64 0] 2 : Bx _ (w.heap.size + 1 + 1 + 1) _ _).alloc _
  have bx4 : Bx W0 (w.heap.size + 1 + 1 + 1 + 1) 161 #[.slice a zs.length cap] := by rw [hW0]; simpa using Bx.new ((((w.alloc (.cells #[.int .i64 b] 2)).alloc (.cells #[.int .i64 0] 2)).alloc (.cells #[.bool false] 4)).alloc (.cells #[.int .i64 0] 2)) #[.slice a zs.length cap] 161
  have hB0 : Below w.heap.size w W0 := by rw [hW0]; exact (by repeat (first | exact Below.refl _ _ | refine Below.setCell ?_ (by first | omega | (simp <;> omega)) _ | refine Below.alloc ?_ (by first | omega | (simp <;> omega)) _ | refine Below.drew ?_))
  have hsz : W0.heap.size = w.heap.size + 5 := by rw [hW0]; simp
  clear hW0
  refine wpIn_rangeFunc_ownF hro h1 (gf := 197) (lb := #[.pointer (some ⟨w.heap.size + 1 + 1 + 1 + 1, 0, none⟩)]) rfl hf2 (enters_of Tryd.func197 (by kernel_rfl) rfl)
    (backward_stops F (n - 1) hf2 hro (by omega) (w.heap.size + 1 + 1 + 1 + 1) w.heap.size a cap zs hd W0 (by omega) (bx4.at_ 0 rfl) (hR.below hB0) (fun hne b' off ha => by
      obtain ⟨b'', off', e, hc⟩ := hR.cells hne
      rw [ha] at e
      cases e
      exact World.block_lt_of_cell? _ _ (hc 0 (List.length_pos_iff.2 hne)))) keepB_t (keepB_b (by omega) (by omega)) (Below.refl _ _) (fun _ => rfl)
    (fun pre W => ((0 ≤ hor b pre ∧ hor b pre ≤ 1000000000000) ∧ W.cell? ⟨w.heap.size, 0, none⟩ = some (.int .i64 b) ∧ W.cell? ⟨w.heap.size + 1, 0, none⟩ = some (.int .i64 0) ∧ W.frozen? ⟨w.heap.size + 1, 0, none⟩ = false ∧ W.cell? ⟨w.heap.size + 1 + 1, 0, none⟩ = some (.bool false) ∧ W.frozen? ⟨w.heap.size + 1 + 1, 0, none⟩ = false ∧
        W.cell? ⟨w.heap.size + 1 + 1 + 1, 0, none⟩ = some (.int .i64 (hor b pre)) ∧ W.frozen? ⟨w.heap.size + 1 + 1 + 1, 0, none⟩ = false) ∧ Below w.heap.size w W)
    (fun c pre W => (c = .ret ∧ 1000000000000 < hor b pre ∧ W.cell? ⟨w.heap.size + 1, 0, none⟩ = some (.int .i64 0) ∧ W.cell? ⟨w.heap.size + 1 + 1, 0, none⟩ = some (.bool false)) ∧ Below w.heap.size w W)
    (OwnFrom.and (Own.from (fun s A B row hs hg hr => ⟨hs.1, cell_kept hs.2.1 hg hr, cell_kept hs.2.2.1 hg hr, (frozen_kept hs.2.2.1 hg hr).trans hs.2.2.2.1, cell_kept hs.2.2.2.2.1 hg hr, (frozen_kept hs.2.2.2.2.1 hg hr).trans hs.2.2.2.2.2.1, cell_kept hs.2.2.2.2.2.2.1 hg hr, (frozen_kept hs.2.2.2.2.2.2.1 hg hr).trans hs.2.2.2.2.2.2.2⟩) _) (ownFrom_below (Nat.le_refl _) (by omega)))
    (fun c => OwnFrom.and (Own.from (fun s A B row hs hg hr => ⟨hs.1, hs.2.1, cell_kept hs.2.2.1 hg hr, cell_kept hs.2.2.2 hg hr⟩) _) (ownFrom_below (Nat.le_refl _) (by omega)))
    ⟨⟨⟨by simp [hor], by simp [hor]⟩, bx0.at_ 0 rfl, bx1.at_ 0 rfl, bx1.thaw 0, bx2.at_ 0 rfl, bx2.thaw 0, by simpa [hor] using bx3.at_ 0 rfl, bx3.thaw 0⟩, hB0⟩
    (fun x => { tmps := #[.slice a zs.length cap, .int .i64 b, undef, .pointer (some ⟨w.heap.size, 0, none⟩), .pointer (some ⟨w.heap.size + 1, 0, none⟩), .pointer (some ⟨w.heap.size + 1 + 1, 0, none⟩), .pointer (some ⟨w.heap.size + 1 + 1 + 1, 0, none⟩), undef, .int .i64 x.2.1, .slice a zs.length cap,
        .func (.func 197) #[] #[.pointer (some ⟨w.heap.size + 1 + 1 + 1 + 1, 0, none⟩)], .int .i64 (x.1 : Int), .int .i64 x.2.1, undef, undef, undef, undef, undef, undef, undef, undef], defers := [] }) ?assign ?body ?done ?stop
  case assign =>
    intro l x W K hK
    gi_wp2
    exact hK
  case body =>
    rintro l pre x W ⟨⟨⟨hl1, hl2⟩, c0, c1, f1, c2, f2, c3, f3⟩, hB⟩ _
    obtain ⟨x1, x2, hx1, hx2⟩ := x
    have hm1 : 0 ≤ hor b pre * b := Int.mul_nonneg hl1 (by omega)
    have hm2 : hor b pre * b ≤ 1000000000000 * 16 := Int.mul_le_mul hl2 hb2 (by omega) (by omega)
    by_cases hc : hor b pre * b + x2 ≤ 1000000000000
    · gi_wp2
      exact ⟨KeepsOthers.setCell _ _ _, KeepB.set_ W (by simp <;> omega) (by simp) _, ⟨by rw [hor_snoc]; exact ⟨by simp <;> omega, hc⟩, cell_far c0 (by simp <;> omega) _, cell_far c1 (by simp <;> omega) _, thaw_set f1 _ _, cell_far c2 (by simp) _, thaw_set f2 _ _,
        by rw [hor_snoc]; exact cell_put c3 _, thaw_set f3 _ _⟩, hB.setCell (by simp <;> omega) _⟩
    · gi_wp2
      refine ⟨((KeepsOthers.setCell _ _ _).trans (KeepsOthers.setCell _ _ _)).trans (KeepsOthers.setCell _ _ _), ⟨rfl, by rw [hor_snoc]; show 1000000000000 < hor b pre * b + x2; omega, ?_, ?_⟩, (by repeat (first | exact hB | refine Below.setCell ?_ (by first | omega | (simp <;> omega)) _ | refine Below.alloc ?_ (by first | omega | (simp <;> omega)) _ | refine Below.drew ?_))⟩
      · exact cell_far (cell_put (cell_far c1 (by simp <;> omega) _) _) (by simp) _
      · exact cell_put (cell_far (cell_far c2 (by simp) _) (by simp) _) _
  case done =>
    rintro D ys W hD rfl ⟨⟨⟨hl1, hl2⟩, c0, c1, f1, c2, f2, c3, f3⟩, hB⟩ hK
    rw [hor_bwd b (Nat.le_refl _), Nat.sub_self, List.drop_zero] at hl1 hl2 c3
    have HO := Lib.hid (valOr_le hl2)
    have HK := Lib.hid (valOk_le hl2)
    gi_wp2
    have hK' := (((KeepsOthers.setCell W ⟨w.heap.size + 1, 0, none⟩ (.int .i64 (valR b zs))).trans (KeepsOthers.setCell _ ⟨w.heap.size + 1 + 1, 0, none⟩ (.bool true)))).same D _ hK rfl
    refine ⟨by simp, .inl ⟨_, _, rfl, run_takeDeferred hK', ?_⟩⟩
    have r1 := cell_kept (cell_far (cell_put c1 (.int .i64 (valR b zs))) (p := ⟨w.heap.size + 1 + 1, 0, none⟩) (by simp) (.bool true)) (grownBy_putObj' _ D (.deferred none)) (fun r e => by cases e; exact ⟨_, hK', rfl⟩)
    have r2 := cell_kept (cell_put (cell_far c2 (p := ⟨w.heap.size + 1, 0, none⟩) (by simp) (.int .i64 (valR b zs))) (.bool true)) (grownBy_putObj' _ D (.deferred none)) (fun r e => by cases e; exact ⟨_, hK', rfl⟩)
    refine ⟨.tuple #[.int .i64 (valR b zs), .bool true], ?_, by rw [HO.out, HK.out], ((hB.setCell (p := ⟨w.heap.size + 1, 0, none⟩) (by simp) _).setCell (p := ⟨w.heap.size + 1 + 1, 0, none⟩) (by simp <;> omega) _).trans (belowK_b (w := w) (Nat.le_refl _) _ D _ _ (by omega) hK' rfl rfl)⟩
    simp [results, Tryd.f172, go_sem, r1, r2]
  case stop =>
    rintro D c pre W hD ⟨k, hk, rfl⟩ ⟨⟨rfl, hlt, c1, c2⟩, hB⟩ hK
    rw [hor_bwd b hk] at hlt
    have hgt := Int.lt_of_lt_of_le hlt (valR_drop_le (by omega : 1 ≤ b) zs (zs.length - k) hd)
    have HO := Lib.hid (valOr_gt hgt)
    have HK := Lib.hid (valOk_gt hgt)
    gi_wp2
    refine ⟨by simp, .inl ⟨_, _, rfl, run_takeDeferred hK, ?_⟩⟩
    have r1 := cell_kept c1 (grownBy_putObj' _ D (.deferred none)) (fun r e => by cases e; exact ⟨_, hK, rfl⟩)
    have r2 := cell_kept c2 (grownBy_putObj' _ D (.deferred none)) (fun r e => by cases e; exact ⟨_, hK, rfl⟩)
    refine ⟨.tuple #[.int .i64 0, .bool false], ?_, by rw [HO.out, HK.out], hB.trans (belowK_b (w := w) (Nat.le_refl _) W D _ _ (by omega) hK rfl rfl)⟩
    simp [results, Tryd.f172, go_sem, r1, r2]

theorem value_any (b : Int) (a : Option Addr) (cap : Nat) (zs : List Int) (w : World) (hb1 : 2 ≤ b) (hb2 : b ≤ 16) (hd : ∀ d ∈ zs, 0 ≤ d ∧ d < b) (hR : Rd w a zs) :
    Calls Tryd.prog 172 #[.slice a zs.length cap, .int .i64 b] w fun e W' =>
      e = .returned (.tuple #[.int .i64 (valOr b zs), .bool (valOk b zs)]) ∧ Below w.heap.size w W' :=
  callsIn_wide.1 (value_in Fence.wide 3 trivial trivial trivial rfl (Nat.le_refl _) b a cap zs w hb1 hb2 hd hR)
end Go.Proofs.YtlahobdopmdfmaaDoor

/- OkI -/
namespace Go.Proofs.YtlahobdopmdfmaaDoor
open Go.RowKit

set_option maxHeartbeats 400000 in
theorem areBelow_any (b : Int) (a : Option Addr) (c : Nat) (zs : List Int) (w : World) (ha : Rd w a zs) :
    Calls Tryd.prog 171 #[.slice a zs.length c, .int .i64 b] w fun e w' => e = .returned (.bool (digitsB b zs)) ∧ w' = w := by
  have hx := ha.len
  go_enter Tryd.func171, Tryd.ntmps171
  go_wp2
  go_loop [6, 9] (fun _ i => ∃ k : Nat, k ≤ zs.length ∧ i = .int .i64 k ∧ Hid (∀ d ∈ zs.take k, 0 ≤ d ∧ d < b)) (fun _ i => zs.length - (intOf i).toNat)
  case atStart => exact ⟨0, Nat.zero_le _, rfl, Lib.hid (by simp)⟩
  case round =>
    obtain ⟨k, hk, rfl, HT⟩ := hrel
    by_cases hlt : k < zs.length
    · obtain ⟨p, off, rfl, hc⟩ := ha.at_ hlt
      by_cases hd : 0 ≤ nth zs k ∧ nth zs k < b
      · obtain ⟨hd1, hd2⟩ := hd
        go_wp2
        go_round
        case rel => exact ⟨k + 1, by omega, by go_num, Lib.hid (all_take_succ (p := fun d => 0 ≤ d ∧ d < b) hlt HT.out ⟨hd1, hd2⟩)⟩
        case measure => (simp [intOf]) <;> omega
      · have hf : digitsB b zs = false := by
          cases h : digitsB b zs with
          | false => rfl
          | true => exact absurd (digitsB_nth h hlt) hd
        have HF := Lib.hid hf
        have hd' : nth zs k < 0 ∨ (0 ≤ nth zs k ∧ b ≤ nth zs k) := by omega
        clear hf hd
        rcases hd' with h1 | ⟨h1, h2⟩
        all_goals
          go_wp2
          go_ret
          exact ⟨ret_bool HF.out.symm, rfl⟩
    · obtain rfl : k = zs.length := by omega
      have HD := Lib.hid (show digitsB b zs = true by
        rw [digitsB, decide_eq_true_eq]
        have := HT.out
        rwa [List.take_of_length_le (Nat.le_refl _)] at this)
      go_wp2
      go_ret
      exact ⟨ret_bool HD.out.symm, rfl⟩

set_option maxHeartbeats 1000000 in
theorem implValidRegister (xB : Int) (xA : Option Addr) (xC : Nat) (xZ : List Int) (w : World) (ha : Rd w xA xZ) (_ : All64 xZ) (_ : I64 xB) :
    Calls Tryd.prog 131 #[.agg #[.int .i64 xB, .slice xA xZ.length xC]] w fun e w' => e = .returned (.bool (okB xB xZ)) ∧ Below w.heap.size w w' := by
  have hx := ha.len
  have hbel : Below w.heap.size w (w.alloc (.cells #[.int .i64 xB, .slice xA xZ.length xC] 26)) := (Below.refl _ _).alloc (Nat.le_refl _) _
  cases hb : baseB xB with
  | false =>
    have HO := Lib.hid (show okB xB xZ = false by simp [okB, hb])
    rcases baseB_false hb with h1 | ⟨h1, h2⟩
    all_goals
      clear hb
      go_enter Tryd.func131, Tryd.ntmps131
      go_wp2
      go_ret
      exact ⟨ret_bool HO.out.symm, hbel⟩
  | true =>
    obtain ⟨hb1, hb2⟩ := baseB_true hb
    cases hw : widthB xZ.length with
    | false =>
      have HO := Lib.hid (show okB xB xZ = false by simp [okB, hw])
      rcases widthB_false hw with h1 | h1
      all_goals
        clear hb hw
        go_enter Tryd.func131, Tryd.ntmps131
        go_wp2
        go_ret
        exact ⟨ret_bool HO.out.symm, hbel⟩
    | true =>
      obtain ⟨hw1, hw2⟩ := widthB_true hw
      have HA := Lib.hid (areBelow_any xB xA xC xZ _ (ha.below hbel))
      cases hd : digitsB xB xZ with
      | false =>
        have HO := Lib.hid (show okB xB xZ = false by simp [okB, hd])
        rw [hd] at HA
        clear hb hw hd
        go_enter Tryd.func131, Tryd.ntmps131
        go_wp2_with (first | (go_at_call 171; refine HA.out.mono ?_; rintro e w1 ⟨rfl, rfl⟩) | go_in)
        go_ret
        exact ⟨ret_bool HO.out.symm, hbel⟩
      | true =>
        have HD := Lib.hid (digitsB_true hd)
        have HO := Lib.hid (show okB xB xZ = valOk xB xZ by simp [okB, hb, hw, hd, valOk])
        rw [hd] at HA
        clear hb hw hd
        go_enter Tryd.func131, Tryd.ntmps131
        go_wp2_with (first | (go_at_call 171; refine HA.out.mono ?_; rintro e w1 ⟨rfl, rfl⟩) | (go_at_call 172; refine (value_any xB xA xC xZ _ hb1 hb2 HD.out (ha.below hbel)).mono ?_; rintro e w2 ⟨rfl, hb3⟩) | go_in)
        go_ret
        exact ⟨ret_bool HO.out.symm, hbel.trans (hb3.mono hbel.size)⟩

end Go.Proofs.YtlahobdopmdfmaaDoor

/- PairI -/
namespace Go.Proofs.YtlahobdopmdfmaaDoor
open Go.RowKit

end Go.Proofs.YtlahobdopmdfmaaDoor

/- Plus -/
namespace Go.Proofs.YtlahobdopmdfmaaDoor
open Go.RowKit

theorem pad_one (n : Nat) : pad (n + 1) [0] = pad (n + 1) [] := by simp [pad, List.replicate_succ]
theorem pad_get {n : Nat} {f : Nat → Int} {k m : Nat} (hm : m ≤ n) (h : k < m) : nth (pad n (tab f m)) k = f k := by
  rw [nth_get (by rw [pad_len (by rw [tab_len]; exact hm)]; omega)]
  unfold pad
  rw [List.getElem_append_left (by rw [tab_len]; exact h)]
  have := tab_nth (f := f) (n := m) (i := k) h
  rwa [nth_get (by rw [tab_len]; exact h)] at this
theorem pad_tab_set {n m : Nat} {f : Nat → Int} (h : m < n) (z : Int) (hz : f m = z) : (pad n (tab f m)).set m z = pad n (tab f (m + 1)) := by
  have := pad_set (n := n) (zs := tab f m) (by rw [tab_len]; exact h) z
  rw [tab_len] at this
  rw [this, tab_succ, hz]
theorem pad_tab_all {n : Nat} {f : Nat → Int} : pad n (tab f n) = tab f n := pad_all (tab_len _ _)
theorem pad_tab_len {n m : Nat} {f : Nat → Int} (h : m ≤ n) : (pad n (tab f m)).length = n := pad_len (by rw [tab_len]; exact h)

set_option maxRecDepth 100000 in
set_option maxHeartbeats 2000000 in
theorem plus_any (B : Int) (a b : Option Addr) (c d : Nat) (xs ys : List Int) (w : World) (ha : Rd w a xs) (hb : Rd w b ys) (hB1 : 2 ≤ B) (hB2 : B ≤ 16) (hlen : xs.length ≤ 16) (hl : xs.length = ys.length)
    (hx : ∀ k, k < xs.length → 0 ≤ nth xs k ∧ nth xs k < B) (hy : ∀ k, k < xs.length → 0 ≤ nth ys k ∧ nth ys k < B) :
    Calls Tryd.prog 184 #[.slice a xs.length c, .slice b ys.length d, .int .i64 B] w fun e w' => ∃ A1 C1 A2 C2, e = .returned (.tuple #[.slice A1 xs.length C1, .slice A2 (xs.length + 1) C2]) ∧
      Own 2 w' w.heap.size w'.heap.size (.slice A1 xs.length C1) (tab (sumD B xs ys) xs.length) ∧ Own 2 w' w.heap.size w'.heap.size (.slice A2 (xs.length + 1) C2) (tab (cK B xs ys) (xs.length + 1)) ∧ Below w.heap.size w w' := by
  have HL := Lib.hid hl
  have HX := Lib.hid hx
  have HY := Lib.hid hy
  clear hl hx hy
  go_enter Tryd.func184, Tryd.ntmps184
  go_wp2_with (first | (at_make; refine wpList_makeI rfl (.tmp 13) (.tmp 13) 161 2 rfl Tryd.underlying161 info_int64 xs.length rfl rfl (by omega) ?_; intro w1 hown1 hb1) | (at_make; go_must (refine wpList_makeI rfl (.tmp 17) (.tmp 17) 24 2 rfl Tryd.underlying24 info_int64 (xs.length + 1) (by rw [show ((xs.length + 1 : Nat) : Int) = (xs.length : Int) + 1 by omega]; rfl) (by rw [show ((xs.length + 1 : Nat) : Int) = (xs.length : Int) + 1 by omega]; rfl) (by omega) ?_); intro w2 hown2 hb2))
  have hs1 : w.heap.size < w1.heap.size := hown1.block.2.2
  have hs2 : w1.heap.size < w2.heap.size := hown2.block.2.2
  replace hown1 := hown1.lo hb2 (Nat.le_refl _)
  replace hb1 := hb1.trans (hb2.mono (Nat.le_of_lt hs1))
  replace hown2 := hown2.wide (Nat.le_refl _) (Nat.le_refl _)
  rw [← pad_one] at hown2
  clear hb2
  go_wp2
  go_loopw [10, 21] (fun _ i wr => ∃ k : Nat, k ≤ xs.length ∧ i = .int .i64 k ∧ Own 2 wr w.heap.size w1.heap.size (.slice (some ⟨w.heap.size, 0, none⟩) xs.length xs.length) (pad xs.length (tab (sumD B xs ys) k)) ∧
      Own 2 wr w1.heap.size wr.heap.size (.slice (some ⟨w1.heap.size, 0, none⟩) (xs.length + 1) (xs.length + 1)) (pad (xs.length + 1) (tab (cK B xs ys) (k + 1))) ∧ Below w.heap.size w wr) (fun _ i _ => xs.length - (intOf i).toNat)
  case atStart => exact ⟨0, Nat.zero_le _, rfl, hown1, hown2, hb1⟩
  case round =>
    obtain ⟨k, hk, rfl, own1, own2, hbel⟩ := hrel
    by_cases hlt : k < xs.length
    · obtain ⟨p1, o1, rfl, hc1⟩ := ha.at_ hlt
      have hlt2 : k < ys.length := by rw [← HL.out]; exact hlt
      obtain ⟨p2, o2, rfl, hc2⟩ := hb.at_ hlt2
      have f1 := kept hbel hc1
      have f2 := kept hbel hc2
      have hx := HX.out k hlt
      have hy := HY.out k hlt
      have hcb := cK_bd hB1 HX.out HY.out k hk
      have hq : 0 ≤ (nth xs k + nth ys k + cK B xs ys k) / B ∧ (nth xs k + nth ys k + cK B xs ys k) / B ≤ 1 := cK_bd hB1 HX.out HY.out (k + 1) hlt
      have hb0 : ¬ B = 0 := by omega
      have hrem : (nth xs k + nth ys k + cK B xs ys k).tmod B = (nth xs k + nth ys k + cK B xs ys k) % B := Int.tmod_eq_emod_of_nonneg (by omega)
      have hdiv : (nth xs k + nth ys k + cK B xs ys k).tdiv B = (nth xs k + nth ys k + cK B xs ys k) / B := Int.tdiv_eq_ediv_of_nonneg (by omega)
      have hwr : wrap64 ((nth xs k + nth ys k + cK B xs ys k) / B) = (nth xs k + nth ys k + cK B xs ys k) / B := IntWalk.wrap64_in _ ⟨by omega, by omega⟩
      have hw1 : IntKind.i64.wrap (nth xs k + nth ys k) = nth xs k + nth ys k := IntWalk.i64_in _ (by omega)
      have hw2 : IntKind.i64.wrap (nth xs k + nth ys k + cK B xs ys k) = nth xs k + nth ys k + cK B xs ys k := IntWalk.i64_in _ (by omega)
      have hi3 : (k : Int) < (xs.length : Int) + 1 := by omega
      have g3 := own2.get (j := k) (by rw [pad_tab_len (by omega)]; omega)
      rw [pad_get (by omega) (by omega)] at g3
      have g1 := own1.get (j := k) (by rw [pad_tab_len (by omega)]; omega)
      have t1 := own1.thaw k
      have g2 := own2.get (j := k + 1) (by rw [pad_tab_len (by omega)]; omega)
      have t2 := own2.thaw (k + 1)
      go_wp2
      go_quiet (fail)
      go_wp2
      have q1 := (own1.drewN nq).put k ((nth xs k + nth ys k + cK B xs ys k) % B)
      rw [pad_tab_set hlt ((nth xs k + nth ys k + cK B xs ys k) % B) rfl] at q1
      have q2 := ((own2.drewN nq).setCell (p := ⟨w.heap.size, k, none⟩) (.inl hs1) (.int .i64 ((nth xs k + nth ys k + cK B xs ys k) % B))).put (k + 1) ((nth xs k + nth ys k + cK B xs ys k) / B)
      rw [pad_tab_set (by omega) ((nth xs k + nth ys k + cK B xs ys k) / B) rfl] at q2
      go_roundw
      case rel => exact ⟨k + 1, by omega, by go_num, q1.setCell (p := ⟨w1.heap.size, k + 1, none⟩) (.inr (Nat.le_refl _)) _, q2.wide (Nat.le_refl _) (by simp), ((bel_drewN hbel nq).setCell (p := ⟨w.heap.size, k, none⟩) (by simp) _).setCell (p := ⟨w1.heap.size, k + 1, none⟩) (by simp <;> omega) _⟩
      case measure => (simp [intOf]) <;> omega
    · obtain rfl : k = xs.length := by omega
      rw [pad_tab_all] at own1 own2
      go_wp2
      refine bodyPost_ret (v := .tuple #[.slice (some ⟨w.heap.size, 0, none⟩) xs.length xs.length, .slice (some ⟨w1.heap.size, 0, none⟩) (xs.length + 1) (xs.length + 1)]) (by simp [results, Tryd.results184, go_sem]) rfl ?_
      exact ⟨_, _, _, _, rfl, own1.wide (Nat.le_refl _) (Nat.le_of_lt own2.block.2.2), own2.wide (Nat.le_of_lt hs1) (Nat.le_refl _), hbel⟩
end Go.Proofs.YtlahobdopmdfmaaDoor

/- Minus -/
namespace Go.Proofs.YtlahobdopmdfmaaDoor
open Go.RowKit

set_option maxRecDepth 100000 in
set_option maxHeartbeats 2000000 in
theorem minus_any (B : Int) (a b : Option Addr) (c d : Nat) (xs ys : List Int) (w : World) (ha : Rd w a xs) (hb : Rd w b ys) (hB1 : 2 ≤ B) (hB2 : B ≤ 16) (hlen : xs.length ≤ 16) (hl : xs.length = ys.length)
    (hx : ∀ k, k < xs.length → 0 ≤ nth xs k ∧ nth xs k < B) (hy : ∀ k, k < xs.length → 0 ≤ nth ys k ∧ nth ys k < B) :
    Calls Tryd.prog 185 #[.slice a xs.length c, .slice b ys.length d, .int .i64 B] w fun e w' => ∃ A1 C1, e = .returned (.tuple #[.slice A1 xs.length C1, .int .i64 (bK B xs ys xs.length)]) ∧
      Own 2 w' w.heap.size w'.heap.size (.slice A1 xs.length C1) (tab (subD B xs ys) xs.length) ∧ Below w.heap.size w w' := by
  have HL := Lib.hid hl
  have HX := Lib.hid hx
  have HY := Lib.hid hy
  clear hl hx hy
  go_enter Tryd.func185, Tryd.ntmps185
  go_wp2_with (at_make; refine wpList_makeI rfl (.tmp 13) (.tmp 13) 161 2 rfl Tryd.underlying161 info_int64 xs.length rfl rfl (by omega) ?_; intro w1 hown1 hb1)
  go_wp2
  go_loopw [9, 10, 17] (fun br _ i wr => ∃ k : Nat, k ≤ xs.length ∧ br = .int .i64 (bK B xs ys k) ∧ i = .int .i64 k ∧ Own 2 wr w.heap.size wr.heap.size (.slice (some ⟨w.heap.size, 0, none⟩) xs.length xs.length) (pad xs.length (tab (subD B xs ys) k)) ∧
      Below w.heap.size w wr) (fun _ _ i _ => xs.length - (intOf i).toNat)
  case atStart => exact ⟨0, Nat.zero_le _, rfl, rfl, hown1, hb1⟩
  case round =>
    obtain ⟨k, hk, rfl, rfl, own1, hbel⟩ := hrel
    by_cases hlt : k < xs.length
    · obtain ⟨p1, o1, rfl, hc1⟩ := ha.at_ hlt
      have hlt2 : k < ys.length := by rw [← HL.out]; exact hlt
      obtain ⟨p2, o2, rfl, hc2⟩ := hb.at_ hlt2
      have f1 := kept hbel hc1
      have f2 := kept hbel hc2
      have hx := HX.out k hlt
      have hy := HY.out k hlt
      have hbb := bK_bd B xs ys k
      have hw1 : IntKind.i64.wrap (nth xs k - nth ys k) = nth xs k - nth ys k := IntWalk.i64_in _ (by omega)
      have hw2 : IntKind.i64.wrap (nth xs k - nth ys k - bK B xs ys k) = nth xs k - nth ys k - bK B xs ys k := IntWalk.i64_in _ (by omega)
      have g1 := own1.get (j := k) (by rw [pad_tab_len (by omega)]; omega)
      have t1 := own1.thaw k
      by_cases hneg : nth xs k - nth ys k - bK B xs ys k < 0
      · have HB := Lib.hid (show bK B xs ys (k + 1) = 1 from if_pos hneg)
        have HD := Lib.hid (show subD B xs ys k = nth xs k - nth ys k - bK B xs ys k + B from if_pos hneg)
        go_wp2
        go_quiet (fail)
        go_wp2
        have q1 := (own1.drewN nq).put k (nth xs k - nth ys k - bK B xs ys k + B)
        rw [pad_tab_set hlt (nth xs k - nth ys k - bK B xs ys k + B) HD.out] at q1
        go_roundw
        case rel => exact ⟨k + 1, by omega, by rw [HB.out], by go_num, q1.wide (Nat.le_refl _) (by simp), (bel_drewN hbel nq).setCell (p := ⟨w.heap.size, k, none⟩) (by simp) _⟩
        case measure => (simp [intOf]) <;> omega
      · have HB := Lib.hid (show bK B xs ys (k + 1) = 0 from if_neg hneg)
        have HD := Lib.hid (show subD B xs ys k = nth xs k - nth ys k - bK B xs ys k from if_neg hneg)
        go_wp2
        go_quiet (fail)
        go_wp2
        have q1 := (own1.drewN nq).put k (nth xs k - nth ys k - bK B xs ys k)
        rw [pad_tab_set hlt (nth xs k - nth ys k - bK B xs ys k) HD.out] at q1
        go_roundw
        case rel => exact ⟨k + 1, by omega, by rw [HB.out], by go_num, q1.wide (Nat.le_refl _) (by simp), (bel_drewN hbel nq).setCell (p := ⟨w.heap.size, k, none⟩) (by simp) _⟩
        case measure => (simp [intOf]) <;> omega
    · obtain rfl : k = xs.length := by omega
      rw [pad_tab_all] at own1
      go_wp2
      refine bodyPost_ret (v := .tuple #[.slice (some ⟨w.heap.size, 0, none⟩) xs.length xs.length, .int .i64 (bK B xs ys xs.length)]) (by simp [results, Tryd.results185, go_sem]) rfl ?_
      exact ⟨_, _, rfl, own1, hbel⟩

/-- What has been moved when the first n digits have been. -/
def mvD (xs : List Int) (m : Int) (n : Nat) (k : Nat) : Int := if 0 ≤ (k : Int) - m ∧ (k : Int) - m < (n : Int) then nth xs ((k : Int) - m).toNat else 0
theorem mvD_all (xs : List Int) (m : Int) : mvD xs m xs.length = shD xs m := by
  funext k
  unfold mvD shD
  by_cases h : 0 ≤ (k : Int) - m ∧ (k : Int) - m < (xs.length : Int)
  · rw [if_pos h, if_pos (by omega)]
  · rw [if_neg h, if_neg (by omega)]
theorem mvD_in {xs : List Int} {m : Int} {n j : Nat} (h : (n : Int) + m = j) (k : Nat) : mvD xs m (n + 1) k = if k = j then nth xs n else mvD xs m n k := by
  unfold mvD
  by_cases hk : k = j
  · subst hk
    rw [if_pos rfl, if_pos (by omega), show (k : Int) - m = n by omega]; rfl
  · rw [if_neg hk]
    by_cases h2 : 0 ≤ (k : Int) - m ∧ (k : Int) - m < (n : Int)
    · rw [if_pos h2, if_pos (by omega)]
    · rw [if_neg h2, if_neg (by omega)]
theorem mvD_out {xs : List Int} {m : Int} {n k : Nat} (h : (n : Int) + m ≠ k) : mvD xs m (n + 1) k = mvD xs m n k := by
  unfold mvD
  by_cases h2 : 0 ≤ (k : Int) - m ∧ (k : Int) - m < (n : Int)
  · rw [if_pos h2, if_pos (by omega)]
  · rw [if_neg h2, if_neg (by omega)]
theorem tab_ext {f g : Nat → Int} {n : Nat} (h : ∀ k, k < n → f k = g k) : tab f n = tab g n := by
  apply List.ext_getElem (by rw [tab_len, tab_len])
  intro k h1 h2
  rw [tab_len] at h1
  have e1 := tab_nth (f := f) (n := n) (i := k) h1
  have e2 := tab_nth (f := g) (n := n) (i := k) h1
  rw [nth_get (by rw [tab_len]; exact h1)] at e1 e2
  rw [e1, e2, h k h1]
theorem tab_set {f g : Nat → Int} {n j : Nat} {z : Int} (h : ∀ k, k < n → g k = if k = j then z else f k) : (tab f n).set j z = tab g n := by
  apply List.ext_getElem (by rw [List.length_set, tab_len, tab_len])
  intro k h1 h2
  rw [tab_len] at h2
  have e1 := tab_nth (f := f) (n := n) (i := k) h2
  have e2 := tab_nth (f := g) (n := n) (i := k) h2
  rw [nth_get (by rw [tab_len]; exact h2)] at e1 e2
  rw [e2, h k h2, List.getElem_set]
  by_cases hk : k = j
  · rw [if_pos hk, if_pos hk.symm]
  · rw [if_neg hk, if_neg (Ne.symm hk), e1]
theorem mvD_none (xs : List Int) (m : Int) (n : Nat) : tab (mvD xs m 0) n = List.replicate n 0 := by
  rw [← show tab (fun _ => (0 : Int)) n = List.replicate n 0 by
    apply List.ext_getElem (by simp [tab_len])
    intro k h1 h2
    rw [tab_len] at h1
    have e1 := tab_nth (f := fun _ => (0 : Int)) (n := n) (i := k) h1
    rw [nth_get (by rw [tab_len]; exact h1)] at e1
    rw [e1]; simp]
  apply tab_ext
  intro k _
  unfold mvD
  rw [if_neg (by omega)]

end Go.Proofs.YtlahobdopmdfmaaDoor

/- Fin -/
namespace Go.Proofs.YtlahobdopmdfmaaDoor
open Go.RowKit

set_option maxRecDepth 100000 in
set_option maxHeartbeats 1000000 in
theorem implValueOf (xB : Int) (xA : Option Addr) (xC : Nat) (xZ : List Int) (w : World) (ha : Rd w xA xZ) (z : All64 xZ) (b : I64 xB) :
    Calls Tryd.prog 167 #[.agg #[.int .i64 xB, .slice xA xZ.length xC]] w fun e w' => e = .returned (.tuple #[.int .i64 (vofR xB xZ).1, .int .i64 (vofR xB xZ).2]) ∧ Below w.heap.size w w' := by
  go_enter Tryd.func167, Tryd.ntmps167
  go_wp2_with fail
  obtain ⟨u, hu⟩ : ∃ u, u = w.alloc (.cells #[.int .i64 xB, .slice xA xZ.length xC] 26) := ⟨_, rfl⟩
  rw [← hu]
  have hbel : Below w.heap.size w u := by rw [hu]; exact (by repeat (first | exact Below.refl _ _ | refine Below.setCell ?_ (by first | omega | (simp <;> omega)) _ | refine Below.alloc ?_ (by first | omega | (simp <;> omega)) _ | refine Below.drew ?_))
  have ax : Bx u w.heap.size 26 #[.int .i64 xB, .slice xA xZ.length xC] := by rw [hu]; exact Bx.new _ _ _
  clear hu
  replace ha := ha.below hbel
  refine (implValidRegister xB xA xC xZ u ha z b).mono ?_
  rintro e v ⟨rfl, hb1⟩
  replace ha := ha.below hb1
  replace ax := ax.below hb1
  replace hbel := hbel.trans (hb1.mono hbel.size)
  clear hb1 u
  have c0 := ax.at_ 0 rfl
  have c1 := ax.at_ 1 rfl
  cases h : okB xB xZ with
  | false =>
    have HV := Lib.hid (show vofR xB xZ = (0, 1) by simp [vofR, h])
    go_wp2
    refine bodyPost_ret (v := .tuple #[.int .i64 0, .int .i64 1]) (by simp [results, Tryd.results167, go_sem]) rfl ?_
    exact ⟨by rw [HV.out], hbel⟩
  | true =>
    have HV := Lib.hid (show vofR xB xZ = (valR xB xZ, 0) by simp [vofR, h])
    have HO := Lib.hid (okB_spec h)
    clear h
    go_wp2_with fail
    refine (value_any xB xA xC xZ v HO.out.1 HO.out.2.1 HO.out.2.2.2.2.1 ha).mono ?_
    rintro e w2 ⟨rfl, hb3⟩
    rw [valOr_le HO.out.2.2.2.2.2]
    go_wp2
    refine bodyPost_ret (v := .tuple #[.int .i64 (valR xB xZ), .int .i64 0]) (by simp [results, Tryd.results167, go_sem]) rfl ?_
    exact ⟨by rw [HV.out], hbel.trans (hb3.mono hbel.size)⟩
end Go.Proofs.YtlahobdopmdfmaaDoor

/- ShnI -/
namespace Go.Proofs.YtlahobdopmdfmaaDoor
open Go.RowKit

/-- The error of the bell, as a value. -/
def bellV (a : Addr) : Value := .iface 220 (.pointer (some a))
/-- errBell holds it. -/
def BellAt (w : World) (a : Addr) : Prop := w.cell? ⟨0, 0, none⟩ = some (bellV a)
/-- Whichever it is. -/
def BellD (w : World) : Prop := ∃ a, BellAt w a
theorem BellAt.below {w w' : World} {a : Addr} (h : BellAt w a) (hb : Below w.heap.size w w') : BellAt w' a := kept hb h
theorem BellD.below {w w' : World} (h : BellD w) (hb : Below w.heap.size w w') : BellD w' := h.elim fun a ha => ⟨a, ha.below hb⟩

set_option maxHeartbeats 4000000 in
theorem shown_in (B n N x : Int) (w : World) (h1 : 1 ≤ N) (h2 : N ≤ 1000000000001) (bx : I64 x) (hi : inA N x = true) :
    Calls Tryd.prog 106 #[.agg #[.int .i64 B, .int .i64 n, .int .i64 N], .int .i64 x] w fun e w' => e = .returned (.tuple #[.int .i64 x, .nilIface]) ∧ Below w.heap.size w w' := by
  have hs : shn N x = x := (shn_eq h1 x).2 hi
  obtain ⟨u, hu⟩ : ∃ u, u = w.alloc (.cells #[.int .i64 B, .int .i64 n, .int .i64 N] 113) := ⟨_, rfl⟩
  have bc : Bx u w.heap.size 113 #[.int .i64 B, .int .i64 n, .int .i64 N] := by rw [hu]; exact Bx.new _ _ _
  have hbel : Below w.heap.size w u := by rw [hu]; exact (by repeat (first | exact Below.refl _ _ | refine Below.setCell ?_ (by first | omega | (simp <;> omega)) _ | refine Below.alloc ?_ (by first | omega | (simp <;> omega)) _ | refine Below.drew ?_))
  have HU := Lib.hid hu
  have HM := Lib.hid (fun w => modulo_any x N w h1 h2)
  have HG := Lib.hid (fun w => greatest_any B n N w h1 h2)
  have q1 := Int.emod_nonneg x (show N ≠ 0 by omega)
  have q2 := Int.emod_lt_of_pos x (show 0 < N by omega)
  unfold shn at hs
  obtain ⟨q, hq⟩ : ∃ q, q = x % N := ⟨_, rfl⟩
  obtain ⟨g, hg⟩ : ∃ g, g = N - 1 + -(N / 2) := ⟨_, rfl⟩
  rw [← hq] at HM q1 q2
  rw [← hq, ← hg] at hs
  rw [← hg] at HG
  have HU := Lib.hid hu
  have c0 := bc.at_ 0 rfl
  have c1 := bc.at_ 1 rfl
  have c2 := bc.at_ 2 rfl
  clear hu hq hg hi
  by_cases hc : g < q
  · rw [if_pos hc] at hs
    have hne : (q - N == x) = true := by simp [hs]
    go_enter Tryd.func106, Tryd.ntmps106
    go_wp2_with fail
    rw [← HU.out]
    refine (HM.out _).mono ?_
    rintro e w1 ⟨rfl, hw⟩
    subst w1
    go_wp2_with fail
    refine (HG.out _).mono ?_
    rintro e w2 ⟨rfl, hb⟩
    have d2 := kept hb c2
    clear c0 c1 c2
    go_wp2
    exact bodyPost_ret (v := .tuple #[.int .i64 x, .nilIface]) (by simp [results, Tryd.results106, go_sem]) rfl ⟨rfl, hbel.trans (hb.mono hbel.size)⟩
  · rw [if_neg hc] at hs
    subst x
    go_enter Tryd.func106, Tryd.ntmps106
    go_wp2_with fail
    rw [← HU.out]
    refine (HM.out _).mono ?_
    rintro e w1 ⟨rfl, hw⟩
    subst w1
    go_wp2_with fail
    refine (HG.out _).mono ?_
    rintro e w2 ⟨rfl, hb⟩
    have d2 := kept hb c2
    clear c0 c1 c2
    go_wp2
    exact bodyPost_ret (v := .tuple #[.int .i64 q, .nilIface]) (by simp [results, Tryd.results106, go_sem]) rfl ⟨rfl, hbel.trans (hb.mono hbel.size)⟩

set_option maxHeartbeats 4000000 in
theorem shown_out (B n N x : Int) (a : Addr) (w : World) (h1 : 1 ≤ N) (h2 : N ≤ 1000000000001) (_ : I64 x) (hi : inA N x = false) (hl : BellAt w a) :
    Calls Tryd.prog 106 #[.agg #[.int .i64 B, .int .i64 n, .int .i64 N], .int .i64 x] w fun e w' => e = .returned (.tuple #[.int .i64 (shn N x), bellV a]) ∧ Below w.heap.size w w' := by
  have hs : ¬ shn N x = x := by rw [shn_eq h1 x, hi]; simp
  obtain ⟨u, hu⟩ : ∃ u, u = w.alloc (.cells #[.int .i64 B, .int .i64 n, .int .i64 N] 113) := ⟨_, rfl⟩
  have bc : Bx u w.heap.size 113 #[.int .i64 B, .int .i64 n, .int .i64 N] := by rw [hu]; exact Bx.new _ _ _
  have hbel : Below w.heap.size w u := by rw [hu]; exact (by repeat (first | exact Below.refl _ _ | refine Below.setCell ?_ (by first | omega | (simp <;> omega)) _ | refine Below.alloc ?_ (by first | omega | (simp <;> omega)) _ | refine Below.drew ?_))
  have HU := Lib.hid hu
  have HM := Lib.hid (fun w => modulo_any x N w h1 h2)
  have HG := Lib.hid (fun w => greatest_any B n N w h1 h2)
  have q1 := Int.emod_nonneg x (show N ≠ 0 by omega)
  have q2 := Int.emod_lt_of_pos x (show 0 < N by omega)
  obtain ⟨y, hy⟩ : ∃ y, y = shn N x := ⟨_, rfl⟩
  rw [← hy] at hs ⊢
  unfold shn at hy
  obtain ⟨q, hq⟩ : ∃ q, q = x % N := ⟨_, rfl⟩
  obtain ⟨g, hg⟩ : ∃ g, g = N - 1 + -(N / 2) := ⟨_, rfl⟩
  rw [← hq] at HM q1 q2
  rw [← hq, ← hg] at hy
  rw [← hg] at HG
  have c0 := bc.at_ 0 rfl
  have c1 := bc.at_ 1 rfl
  have c2 := bc.at_ 2 rfl
  replace hl := hl.below hbel
  clear hu hq hg hi
  by_cases hc : g < q
  · rw [if_pos hc] at hy
    subst y
    go_enter Tryd.func106, Tryd.ntmps106
    go_wp2_with fail
    rw [← HU.out]
    refine (HM.out _).mono ?_
    rintro e w1 ⟨rfl, hw⟩
    subst w1
    go_wp2_with fail
    refine (HG.out _).mono ?_
    rintro e w2 ⟨rfl, hb⟩
    have d2 := kept hb c2
    have d3 : ∀ u : After w2, u.now.cell? ⟨0, 0, none⟩ = some (bellV a) := kept_after (hl.below hb)
    clear c0 c1 c2
    go_wp2
    refine wp_region_after (by kernel_rfl) (by kernel_rfl) ?_
    repeat (go_big_quiet_step (fail))
    refine wpQuiet_nil ?_
    intro u2
    go_wp2
    exact bodyPost_ret (v := .tuple #[.int .i64 (q - N), bellV a]) (by simp [results, Tryd.results106, go_sem]) rfl ⟨rfl, (hbel.trans (hb.mono hbel.size)).trans (u2.ok.mono (hbel.trans (hb.mono hbel.size)).size)⟩
  · rw [if_neg hc] at hy
    subst y
    go_enter Tryd.func106, Tryd.ntmps106
    go_wp2_with fail
    rw [← HU.out]
    refine (HM.out _).mono ?_
    rintro e w1 ⟨rfl, hw⟩
    subst w1
    go_wp2_with fail
    refine (HG.out _).mono ?_
    rintro e w2 ⟨rfl, hb⟩
    have d2 := kept hb c2
    have d3 : ∀ u : After w2, u.now.cell? ⟨0, 0, none⟩ = some (bellV a) := kept_after (hl.below hb)
    clear c0 c1 c2
    go_wp2
    refine wp_region_after (by kernel_rfl) (by kernel_rfl) ?_
    repeat (go_big_quiet_step (fail))
    refine wpQuiet_nil ?_
    intro u2
    go_wp2
    exact bodyPost_ret (v := .tuple #[.int .i64 q, bellV a]) (by simp [results, Tryd.results106, go_sem]) rfl ⟨rfl, (hbel.trans (hb.mono hbel.size)).trans (u2.ok.mono (hbel.trans (hb.mono hbel.size)).size)⟩

/-- Whatever is shown. -/
theorem shown_any (B n N x : Int) (a : Addr) (w : World) (h1 : 1 ≤ N) (h2 : N ≤ 1000000000001) (bx : I64 x) (hl : BellAt w a) :
    Calls Tryd.prog 106 #[.agg #[.int .i64 B, .int .i64 n, .int .i64 N], .int .i64 x] w fun e w' => ∃ v, e = .returned (.tuple #[.int .i64 (shn N x), v]) ∧ Below w.heap.size w w' := by
  cases hi : inA N x with
  | true => exact (shown_in B n N x w h1 h2 bx hi).mono fun e w' h => ⟨.nilIface, by rw [(shn_eq h1 x).2 hi]; exact h.1, h.2⟩
  | false => exact (shown_out B n N x a w h1 h2 bx hi hl).mono fun e w' h => ⟨_, h.1, h.2⟩

set_option maxHeartbeats 4000000 in
set_option maxRecDepth 100000 in
theorem accOf_no (xB : Int) (xA : Option Addr) (xC : Nat) (xZ : List Int) (w : World) (ha : Rd w xA xZ) (z : All64 xZ) (b : I64 xB) (h : accB xB xZ = false) :
    Calls Tryd.prog 123 #[.agg #[.int .i64 xB, .slice xA xZ.length xC]] w fun e w' => e = .returned (.tuple #[.agg #[.int .i64 0, .int .i64 0, .int .i64 0], .int .i64 0, .bool false]) ∧ Below w.heap.size w w' := by
  have R := Tryd.results123
  have hbel : Below w.heap.size w w := Below.refl _ _
  cases ho : okB xB xZ with
  | false =>
    have HV := Lib.hid (show vofR xB xZ = (0, 1) by simp [vofR, ho])
    go_enter Tryd.func123, Tryd.ntmps123
    go_wp2_with fail
    obtain ⟨p, hp⟩ : ∃ g, g = w.heap.size := ⟨_, rfl⟩
    have hk_p : w.heap.size ≤ p := Nat.le_of_eq hp.symm
    obtain ⟨u, hu⟩ : ∃ V, V = (w.alloc (.cells #[.int .i64 xB, .slice xA xZ.length xC] 26)).alloc (.cells #[.int .i64 0, .int .i64 0, .int .i64 0] 113) := ⟨_, rfl⟩
    have b_p : Bx u p 26 #[.int .i64 xB, .slice xA xZ.length xC] := by rw [hu, hp]; exact (Bx.new _ _ _).alloc _
    have b_p1 : Bx u (p + 1) 113 #[.int .i64 0, .int .i64 0, .int .i64 0] := by rw [hu, hp]; simpa using Bx.new (w.alloc (.cells #[.int .i64 xB, .slice xA xZ.length xC] 26)) #[.int .i64 0, .int .i64 0, .int .i64 0] 113
    have hb : Below w.heap.size w u := by rw [hu]; exact ((Below.refl _ _).alloc (Nat.le_refl _) _).alloc (by simp) _
    rw [← hp, ← hu]
    clear hu hp
    replace ha := ha.below hb
    replace hbel := hbel.trans (hb.mono hbel.size)
    clear hb
    refine (implValueOf xB xA xC xZ u ha z b).mono ?_
    rintro e v ⟨rfl, hb⟩
    rw [HV.out]
    replace ha := ha.below hb
    replace b_p := b_p.below hb
    replace b_p1 := b_p1.below hb
    replace hbel := hbel.trans (hb.mono hbel.size)
    clear hb
    have r0 := b_p1.at_ 0 rfl
    have r1 := b_p1.at_ 1 rfl
    have r2 := b_p1.at_ 2 rfl
    have f0 := b_p1.thaw 0
    have f1 := b_p1.thaw 1
    have f2 := b_p1.thaw 2
    have hl := b_p1.lt
    go_wp2
    exact bodyPost_ret (v := .tuple #[.agg #[.int .i64 0, .int .i64 0, .int .i64 0], .int .i64 0, .bool false]) (by simp [results, go_sem, r0, r1, r2]) rfl ⟨rfl, (by repeat (first | with_reducible exact hbel | with_reducible refine Below.setCell ?_ (by first | omega | (simp <;> omega)) _ | with_reducible refine Below.alloc ?_ (by first | omega | (simp <;> omega)) _ | with_reducible refine Below.drew ?_))⟩
  | true =>
    have HV := Lib.hid (show vofR xB xZ = (valR xB xZ, 0) by simp [vofR, ho])
    have hf : fullB xB (xZ.length : Int) = false := by rw [← accB_of_full ho, h]
    go_enter Tryd.func123, Tryd.ntmps123
    go_wp2_with fail
    obtain ⟨p, hp⟩ : ∃ g, g = w.heap.size := ⟨_, rfl⟩
    have hk_p : w.heap.size ≤ p := Nat.le_of_eq hp.symm
    obtain ⟨u, hu⟩ : ∃ V, V = (w.alloc (.cells #[.int .i64 xB, .slice xA xZ.length xC] 26)).alloc (.cells #[.int .i64 0, .int .i64 0, .int .i64 0] 113) := ⟨_, rfl⟩
    have b_p : Bx u p 26 #[.int .i64 xB, .slice xA xZ.length xC] := by rw [hu, hp]; exact (Bx.new _ _ _).alloc _
    have b_p1 : Bx u (p + 1) 113 #[.int .i64 0, .int .i64 0, .int .i64 0] := by rw [hu, hp]; simpa using Bx.new (w.alloc (.cells #[.int .i64 xB, .slice xA xZ.length xC] 26)) #[.int .i64 0, .int .i64 0, .int .i64 0] 113
    have hb : Below w.heap.size w u := by rw [hu]; exact ((Below.refl _ _).alloc (Nat.le_refl _) _).alloc (by simp) _
    rw [← hp, ← hu]
    clear hu hp
    replace ha := ha.below hb
    replace hbel := hbel.trans (hb.mono hbel.size)
    clear hb
    refine (implValueOf xB xA xC xZ u ha z b).mono ?_
    rintro e v ⟨rfl, hb⟩
    rw [HV.out]
    replace ha := ha.below hb
    replace b_p := b_p.below hb
    replace b_p1 := b_p1.below hb
    replace hbel := hbel.trans (hb.mono hbel.size)
    clear hb
    have c0 := b_p.at_ 0 rfl
    have c1 := b_p.at_ 1 rfl
    go_wp2_with fail
    refine (circle_no xB xZ.length v hf).mono ?_
    rintro e v2 ⟨rfl, hb⟩
    replace ha := ha.below hb
    replace b_p := b_p.below hb
    replace b_p1 := b_p1.below hb
    replace hbel := hbel.trans (hb.mono hbel.size)
    clear hb
    have r0 := b_p1.at_ 0 rfl
    have r1 := b_p1.at_ 1 rfl
    have r2 := b_p1.at_ 2 rfl
    have f0 := b_p1.thaw 0
    have f1 := b_p1.thaw 1
    have f2 := b_p1.thaw 2
    have hl := b_p1.lt
    clear c0 c1 h ho hf
    go_upto_region 5 with fail
    obtain ⟨v3, hv3⟩ : ∃ v3, v3 = ((v2.setCell ⟨p + 1, 0, none⟩ (.int .i64 0)).setCell ⟨p + 1, 1, none⟩ (.int .i64 0)).setCell ⟨p + 1, 2, none⟩ (.int .i64 0) := ⟨_, rfl⟩
    have bq : Bx v3 (p + 1) 113 #[.int .i64 0, .int .i64 0, .int .i64 0] := by rw [hv3]; simpa using ((b_p1.set_ 0 (.int .i64 0)).set_ 1 (.int .i64 0)).set_ 2 (.int .i64 0)
    replace hbel : Below w.heap.size w v3 := by rw [hv3]; exact (by repeat (first | with_reducible exact hbel | with_reducible refine Below.setCell ?_ (by first | omega | (simp <;> omega)) _ | with_reducible refine Below.alloc ?_ (by first | omega | (simp <;> omega)) _ | with_reducible refine Below.drew ?_))
    first | rw [← hv3] | skip
    clear hv3 f0 f1 f2 hl r0 r1 r2
    have r0 := bq.at_ 0 rfl
    have r1 := bq.at_ 1 rfl
    have r2 := bq.at_ 2 rfl
    have f0 := bq.thaw 0
    have f1 := bq.thaw 1
    have f2 := bq.thaw 2
    have hl := bq.lt
    go_wp2
    exact bodyPost_ret (v := .tuple #[.agg #[.int .i64 0, .int .i64 0, .int .i64 0], .int .i64 0, .bool false]) (by simp [results, go_sem, r0, r1, r2]) rfl ⟨rfl, (by repeat (first | with_reducible exact hbel | with_reducible refine Below.setCell ?_ (by first | omega | (simp <;> omega)) _ | with_reducible refine Below.alloc ?_ (by first | omega | (simp <;> omega)) _ | with_reducible refine Below.drew ?_))⟩

set_option maxHeartbeats 4000000 in
set_option maxRecDepth 100000 in
theorem accOf_ok (a : Addr) (xB : Int) (xA : Option Addr) (xC : Nat) (xZ : List Int) (w : World) (ha : Rd w xA xZ) (z : All64 xZ) (b : I64 xB) (h : accB xB xZ = true) (hl : BellAt w a) :
    Calls Tryd.prog 123 #[.agg #[.int .i64 xB, .slice xA xZ.length xC]] w fun e w' => e = .returned (.tuple #[.agg #[.int .i64 xB, .int .i64 xZ.length, .int .i64 (cntA xB xZ.length)], .int .i64 (numA xB xZ), .bool true]) ∧ Below w.heap.size w w' := by
  have R := Tryd.results123
  have hbel : Below w.heap.size w w := Below.refl _ _
  have HV := Lib.hid (show vofR xB xZ = (valR xB xZ, 0) by simp [vofR, (accB_spec h).1])
  have HF := Lib.hid (accB_full h)
  have hc := cntA_bd HF.out
  have hv := valR_acc h
  have HE := Lib.hid (show numA xB xZ = shn (cntA xB xZ.length) (valR xB xZ) from rfl)
  have HO := Lib.hid (fun v => circle_ok xB xZ.length v HF.out)
  obtain ⟨N, hN⟩ : ∃ N, N = cntA xB xZ.length := ⟨_, rfl⟩
  rw [← hN] at HE HO hc ⊢
  obtain ⟨x, hx⟩ : ∃ x, x = valR xB xZ := ⟨_, rfl⟩
  rw [← hx] at HV HE hv
  rw [HE.out]
  have hx64 : I64 x := i64_of (by omega) (by omega)
  have hl1 := hl
  clear hN hx h
  go_enter Tryd.func123, Tryd.ntmps123
  go_wp2_with fail
  obtain ⟨p, hp⟩ : ∃ g, g = w.heap.size := ⟨_, rfl⟩
  have hk_p : w.heap.size ≤ p := Nat.le_of_eq hp.symm
  obtain ⟨u, hu⟩ : ∃ V, V = (w.alloc (.cells #[.int .i64 xB, .slice xA xZ.length xC] 26)).alloc (.cells #[.int .i64 0, .int .i64 0, .int .i64 0] 113) := ⟨_, rfl⟩
  have b_p : Bx u p 26 #[.int .i64 xB, .slice xA xZ.length xC] := by rw [hu, hp]; exact (Bx.new _ _ _).alloc _
  have b_p1 : Bx u (p + 1) 113 #[.int .i64 0, .int .i64 0, .int .i64 0] := by rw [hu, hp]; simpa using Bx.new (w.alloc (.cells #[.int .i64 xB, .slice xA xZ.length xC] 26)) #[.int .i64 0, .int .i64 0, .int .i64 0] 113
  have hb : Below w.heap.size w u := by rw [hu]; exact ((Below.refl _ _).alloc (Nat.le_refl _) _).alloc (by simp) _
  rw [← hp, ← hu]
  clear hu hp
  replace ha := ha.below hb
  replace hl := hl.below hb
  replace hbel := hbel.trans (hb.mono hbel.size)
  clear hb
  refine (implValueOf xB xA xC xZ u ha z b).mono ?_
  rintro e v ⟨rfl, hb⟩
  rw [HV.out]
  replace ha := ha.below hb
  replace hl := hl.below hb
  replace b_p := b_p.below hb
  replace b_p1 := b_p1.below hb
  replace hbel := hbel.trans (hb.mono hbel.size)
  clear hb
  have c0 := b_p.at_ 0 rfl
  have c1 := b_p.at_ 1 rfl
  have f0 := b_p1.thaw 0
  have f1 := b_p1.thaw 1
  have f2 := b_p1.thaw 2
  have hl0 := b_p1.lt
  go_wp2_with fail
  refine (HO.out v).mono ?_
  rintro e v2 ⟨rfl, hb⟩
  clear c0 c1 f0 f1 f2 hl0
  replace ha := ha.below hb
  replace hl := hl.below hb
  replace b_p := b_p.below hb
  replace b_p1 := b_p1.below hb
  replace hbel := hbel.trans (hb.mono hbel.size)
  clear hb
  have r0 := b_p1.at_ 0 rfl
  have r1 := b_p1.at_ 1 rfl
  have r2 := b_p1.at_ 2 rfl
  have f0 := b_p1.thaw 0
  have f1 := b_p1.thaw 1
  have f2 := b_p1.thaw 2
  have hl0 := b_p1.lt
  go_upto_region 5 with fail
  obtain ⟨v3, hv3⟩ : ∃ v3, v3 = ((v2.setCell ⟨p + 1, 0, none⟩ (.int .i64 xB)).setCell ⟨p + 1, 1, none⟩ (.int .i64 xZ.length)).setCell ⟨p + 1, 2, none⟩ (.int .i64 N) := ⟨_, rfl⟩
  have bq : Bx v3 (p + 1) 113 #[.int .i64 xB, .int .i64 xZ.length, .int .i64 N] := by rw [hv3]; simpa using ((b_p1.set_ 0 (.int .i64 xB)).set_ 1 (.int .i64 xZ.length)).set_ 2 (.int .i64 N)
  replace hbel : Below w.heap.size w v3 := by rw [hv3]; exact (by repeat (first | with_reducible exact hbel | with_reducible refine Below.setCell ?_ (by first | omega | (simp <;> omega)) _ | with_reducible refine Below.alloc ?_ (by first | omega | (simp <;> omega)) _ | with_reducible refine Below.drew ?_))
  replace hl : BellAt v3 a := hl1.below hbel
  first | rw [← hv3] | skip
  clear hv3 f0 f1 f2 hl0 b_p1 r0 r1 r2
  have r0 := bq.at_ 0 rfl
  have r1 := bq.at_ 1 rfl
  have r2 := bq.at_ 2 rfl
  have hl0 := bq.lt
  go_wp2_with fail
  refine (shown_any xB xZ.length N x a v3 (by omega) (by omega) hx64 hl).mono ?_
  rintro e v4 ⟨y, rfl, hb⟩
  replace bq := bq.below hb
  replace hbel := hbel.trans (hb.mono hbel.size)
  clear r0 r1 r2 hl0 hb
  have r0 := bq.at_ 0 rfl
  have r1 := bq.at_ 1 rfl
  have r2 := bq.at_ 2 rfl
  have f0 := bq.thaw 0
  have f1 := bq.thaw 1
  have f2 := bq.thaw 2
  have hl0 := bq.lt
  go_wp2
  exact bodyPost_ret (v := .tuple #[.agg #[.int .i64 xB, .int .i64 xZ.length, .int .i64 N], .int .i64 (shn N x), .bool true]) (by simp [results, go_sem, r0, r1, r2]) rfl ⟨rfl, (by repeat (first | with_reducible exact hbel | with_reducible refine Below.setCell ?_ (by first | omega | (simp <;> omega)) _ | with_reducible refine Below.alloc ?_ (by first | omega | (simp <;> omega)) _ | with_reducible refine Below.drew ?_))⟩

set_option maxHeartbeats 2000000 in
theorem numberOf_any (a : Addr) (xB : Int) (xA : Option Addr) (xC : Nat) (xZ : List Int) (w : World) (ha : Rd w xA xZ) (z : All64 xZ) (b : I64 xB) (hl : BellAt w a) :
    Calls Tryd.prog 42 #[.agg #[.int .i64 xB, .slice xA xZ.length xC]] w fun e w' => e = .returned (.tuple #[.int .i64 (numR xB xZ).1, .int .i64 (numR xB xZ).2]) ∧ Below w.heap.size w w' := by
  have R := Tryd.results42
  have hbel : Below w.heap.size w w := Below.refl _ _
  cases h : accB xB xZ with
  | false =>
    have HR := Lib.hid (show numR xB xZ = (0, 1) by simp [numR, h])
    go_enter Tryd.func42, Tryd.ntmps42
    go_wp2_with fail
    obtain ⟨p, hp⟩ : ∃ g, g = w.heap.size := ⟨_, rfl⟩
    have hk_p : w.heap.size ≤ p := Nat.le_of_eq hp.symm
    obtain ⟨u, hu⟩ : ∃ V, V = w.alloc (.cells #[.int .i64 xB, .slice xA xZ.length xC] 26) := ⟨_, rfl⟩
    have b_p : Bx u p 26 #[.int .i64 xB, .slice xA xZ.length xC] := by rw [hu, hp]; exact Bx.new _ _ _
    have hb : Below w.heap.size w u := by rw [hu]; exact (Below.refl _ _).alloc (Nat.le_refl _) _
    rw [← hp, ← hu]
    clear hu hp
    replace ha := ha.below hb
    replace hl := hl.below hb
    replace hbel := hbel.trans (hb.mono hbel.size)
    clear hb
    refine (accOf_no xB xA xC xZ u ha z b h).mono ?_
    rintro e v ⟨rfl, hb⟩
    replace hbel := hbel.trans (hb.mono hbel.size)
    have hs := hbel.size
    go_wp2
    exact bodyPost_ret (v := .tuple #[.int .i64 0, .int .i64 1]) (by simp [results, go_sem]) rfl ⟨by rw [HR.out], (by repeat (first | exact hbel | refine Below.setCell ?_ (by first | omega | (simp <;> omega)) _ | refine Below.alloc ?_ (by first | omega | (simp <;> omega)) _ | refine Below.drew ?_))⟩
  | true =>
    have HR := Lib.hid (show numR xB xZ = (numA xB xZ, 0) by simp [numR, h])
    go_enter Tryd.func42, Tryd.ntmps42
    go_wp2_with fail
    obtain ⟨p, hp⟩ : ∃ g, g = w.heap.size := ⟨_, rfl⟩
    have hk_p : w.heap.size ≤ p := Nat.le_of_eq hp.symm
    obtain ⟨u, hu⟩ : ∃ V, V = w.alloc (.cells #[.int .i64 xB, .slice xA xZ.length xC] 26) := ⟨_, rfl⟩
    have b_p : Bx u p 26 #[.int .i64 xB, .slice xA xZ.length xC] := by rw [hu, hp]; exact Bx.new _ _ _
    have hb : Below w.heap.size w u := by rw [hu]; exact (Below.refl _ _).alloc (Nat.le_refl _) _
    rw [← hp, ← hu]
    clear hu hp
    replace ha := ha.below hb
    replace hl := hl.below hb
    replace hbel := hbel.trans (hb.mono hbel.size)
    clear hb
    refine (accOf_ok a xB xA xC xZ u ha z b h hl).mono ?_
    rintro e v ⟨rfl, hb⟩
    replace hbel := hbel.trans (hb.mono hbel.size)
    have hs := hbel.size
    go_wp2
    exact bodyPost_ret (v := .tuple #[.int .i64 (numA xB xZ), .int .i64 0]) (by simp [results, go_sem]) rfl ⟨by rw [HR.out], (by repeat (first | exact hbel | refine Below.setCell ?_ (by first | omega | (simp <;> omega)) _ | refine Below.alloc ?_ (by first | omega | (simp <;> omega)) _ | refine Below.drew ?_))⟩
theorem implNumberOf (xB : Int) (xA : Option Addr) (xC : Nat) (xZ : List Int) (w : World) (ha : Rd w xA xZ) (z : All64 xZ) (b : I64 xB) (hD : BellD w) :
    Calls Tryd.prog 42 #[.agg #[.int .i64 xB, .slice xA xZ.length xC]] w fun e w' => e = .returned (.tuple #[.int .i64 (numR xB xZ).1, .int .i64 (numR xB xZ).2]) ∧ Below w.heap.size w w' :=
  hD.elim fun a hl => numberOf_any a xB xA xC xZ w ha z b hl
end Go.Proofs.YtlahobdopmdfmaaDoor

/- RgsI -/
namespace Go.Proofs.YtlahobdopmdfmaaDoor
open Go.RowKit

/-- A register of its own. -/
def RegVI (B : Int) (zs : List Int) (w : World) (e : Ending) (w' : World) : Prop := ∃ A C,
  e = .returned (.agg #[.int .i64 B, .slice A zs.length C]) ∧ Own 2 w' w.heap.size w'.heap.size (.slice A zs.length C) zs ∧ Below w.heap.size w w'

set_option maxRecDepth 100000 in
set_option maxHeartbeats 8000000 in
theorem register_any (B n x : Int) (w : World) (h : fullB B n = true) :
    Calls Tryd.prog 108 #[.agg #[.int .i64 B, .int .i64 n, .int .i64 (cntA B n)], .int .i64 x] w (RegVI B (setA B n x) w) := by
  have R := Tryd.results108
  have hbel : Below w.heap.size w w := Below.refl _ _
  obtain ⟨h1, h2, n1, n2, h5⟩ := fullB_spec h
  have hc := cntA_bd h
  have hm := modA_bd h x
  have HM := Lib.hid (fun w => modulo_any x (cntA B n) w (by omega) (by omega))
  have HN : Hid (∀ v : World, Calls Tryd.prog 136 #[.int .i64 B, .int .i64 n, .int .i64 (x % cntA B n)] v fun e w' => ∃ A C,
      e = .returned (.tuple #[.agg #[.int .i64 B, .slice A (setA B n x).length C], .int .i64 0]) ∧ Own 2 w' v.heap.size w'.heap.size (.slice A (setA B n x).length C) (setA B n x) ∧ Below v.heap.size v w') := Lib.hid fun v => by
    have := implNewRegister B n (x % cntA B n) v (i64_of (by omega) (by omega)) (i64_of (by omega) (by omega)) (i64_of (by omega) (by omega))
    unfold NewRegPost at this
    rw [nrR_set h] at this
    exact this
  obtain ⟨q, hq⟩ : ∃ q, q = x % cntA B n := ⟨_, rfl⟩
  rw [← hq] at HM HN
  obtain ⟨c, hcc⟩ : ∃ c, c = cntA B n := ⟨_, rfl⟩
  rw [← hcc] at HM ⊢
  clear hq hcc h5 h hm hc
  go_enter Tryd.func108, Tryd.ntmps108
  go_upto_region 1 with fail
  have hsu0 : ((w.alloc (.cells #[.int .i64 B, .int .i64 n, .int .i64 c] 113)).alloc (.cells #[.int .i64 0, .slice none 0 0] 26)).heap.size = w.heap.size + 2 := by simp
  obtain ⟨p, hp⟩ : ∃ g, g = w.heap.size := ⟨_, rfl⟩
  have hk_p : w.heap.size ≤ p := Nat.le_of_eq hp.symm
  obtain ⟨u, hu⟩ : ∃ V, V = (w.alloc (.cells #[.int .i64 B, .int .i64 n, .int .i64 c] 113)).alloc (.cells #[.int .i64 0, .slice none 0 0] 26) := ⟨_, rfl⟩
  have b_p : Bx u p 113 #[.int .i64 B, .int .i64 n, .int .i64 c] := by rw [hu, hp]; exact (Bx.new _ _ _).alloc _
  have b_p1 : Bx u (p + 1) 26 #[.int .i64 0, .slice none 0 0] := by rw [hu, hp]; simpa using Bx.new (w.alloc (.cells #[.int .i64 B, .int .i64 n, .int .i64 c] 113)) #[.int .i64 0, .slice none 0 0] 26
  have hb : Below w.heap.size w u := by rw [hu]; exact ((Below.refl _ _).alloc (Nat.le_refl _) _).alloc (by simp) _
  rw [← hp, ← hu]
  clear hu hp
  replace hbel := hbel.trans (hb.mono hbel.size)
  clear hb
  have hsu : w.heap.size + 2 ≤ u.heap.size := by have := b_p1.lt; omega
  have hpu : p + 1 < u.heap.size := b_p1.lt
  clear hsu0
  have k0 := kept_all (b_p.at_ 0 rfl)
  have k1 := kept_all (b_p.at_ 1 rfl)
  have k2 := kept_all (b_p.at_ 2 rfl)
  have hS : Below u.heap.size u u.drew := (Below.refl _ _).drew
  refine wp_region_marked (fun w' => Below u.heap.size u w') 14 (by kernel_rfl) ?_
  refine wpAnyM_take (i := 0) (v := ?_) rfl (by kernel_rfl) (by kernel_rfl) (by kernel_rfl) (by kernel_rfl) (by kernel_rfl) (fun _ _ _ h => h) hS (.inl ⟨by rfl, ?_⟩) ?_
  rotate_left 1
  · intro w' hS'; go_simp; try with_reducible rfl
  simp only [Act.put, List.setIfInBounds_toArray, List.set_cons_succ, List.set_cons_zero, List.getElem_toArray, List.getElem_cons_zero]
  refine wpAnyM_take (i := 1) (v := ?_) rfl (by kernel_rfl) (by kernel_rfl) (by kernel_rfl) (by kernel_rfl) (by kernel_rfl) (fun _ _ _ h => h) hS (.inl ⟨by rfl, ?_⟩) ?_
  rotate_left 1
  · intro w' hS'; go_simp; try with_reducible rfl
  simp only [Act.put, List.setIfInBounds_toArray, List.set_cons_succ, List.set_cons_zero, List.getElem_toArray, List.getElem_cons_succ, List.getElem_cons_zero]
  refine wpAnyM_take (i := 2) (v := ?_) rfl (by kernel_rfl) (by kernel_rfl) (by kernel_rfl) (by kernel_rfl) (by kernel_rfl) (fun _ _ _ h => h) hS (.inl ⟨by rfl, ?_⟩) ?_
  rotate_left 1
  · intro w' hS'; go_simp; try with_reducible rfl
  simp only [Act.put, List.setIfInBounds_toArray, List.set_cons_succ, List.set_cons_zero, List.getElem_toArray, List.getElem_cons_succ, List.getElem_cons_zero]
  refine wpAnyM_take (i := 3) (v := ?_) rfl (by kernel_rfl) (by kernel_rfl) (by kernel_rfl) (by kernel_rfl) (by kernel_rfl) (fun _ _ _ h => h) hS (.inl ⟨by rfl, ?_⟩) ?_
  rotate_left 1
  · intro w' hS'; go_simp; try with_reducible rfl
  simp only [Act.put, List.setIfInBounds_toArray, List.set_cons_succ, List.set_cons_zero, List.getElem_toArray, List.getElem_cons_succ, List.getElem_cons_zero]
  refine wpAnyM_take (i := 4) (v := ?_) rfl (by kernel_rfl) (by kernel_rfl) (by kernel_rfl) (by kernel_rfl) (by kernel_rfl) (fun _ _ _ h => h) hS (.inl ⟨by rfl, ?_⟩) ?_
  rotate_left 1
  · intro w' hS'; go_simp; try with_reducible rfl
  simp only [Act.put, List.setIfInBounds_toArray, List.set_cons_succ, List.set_cons_zero, List.getElem_toArray, List.getElem_cons_succ, List.getElem_cons_zero]
  refine wpAnyM_take (i := 5) (v := ?_) rfl (by kernel_rfl) (by kernel_rfl) (by kernel_rfl) (by kernel_rfl) (by kernel_rfl) (fun _ _ _ h => h) hS (.inl ⟨by rfl, ?_⟩) ?_
  rotate_left 1
  · intro w' hS'; go_simp; try with_reducible rfl
  simp only [Act.put, List.setIfInBounds_toArray, List.set_cons_succ, List.set_cons_zero, List.getElem_toArray, List.getElem_cons_succ, List.getElem_cons_zero]
  refine wpAnyM_take (i := 6) (v := ?_) rfl (by kernel_rfl) (by kernel_rfl) (by kernel_rfl) (by kernel_rfl) (by kernel_rfl) (fun _ _ _ h => h) hS (.inl ⟨by rfl, ?_⟩) ?_
  rotate_left 1
  · intro w' hS'; go_simp; try with_reducible rfl
  simp only [Act.put, List.setIfInBounds_toArray, List.set_cons_succ, List.set_cons_zero, List.getElem_toArray, List.getElem_cons_succ, List.getElem_cons_zero]
  refine wpAnyM_two (i := 7) (j := 12) (by kernel_rfl) rfl rfl (by rfl) (by rfl) (fun K hK => ?_) (fun K hK => ?_)
  · go_simp
    refine (HM.out _).mono ?_
    rintro e X ⟨rfl, hX⟩
    subst X
    refine hK _ _ (.inr hS) ?_
    try simp only [Act.put, List.setIfInBounds_toArray, List.set_cons_succ, List.set_cons_zero, List.getElem_toArray, List.getElem_cons_succ, List.getElem_cons_zero]
    clear hK K
    refine wpAnyM_two (i := 8) (j := 12) (by kernel_rfl) rfl rfl (by rfl) (by rfl) (fun K hK => ?_) (fun K hK => ?_)
    · go_simp
      refine (HN.out u.drew).mono ?_
      rintro e M ⟨A, C, rfl, own, hb⟩
      have hlo := hS.size
      replace hS : Below u.heap.size u M := hS.trans (hb.mono (by simp))
      refine hK _ _ (.inr hS) ?_
      try simp only [Act.put, List.setIfInBounds_toArray, List.set_cons_succ, List.set_cons_zero, List.getElem_toArray, List.getElem_cons_succ, List.getElem_cons_zero]
      clear hK K
      refine wpAnyM_take (i := 9) (v := ?_) rfl (by kernel_rfl) (by kernel_rfl) (by kernel_rfl) (by kernel_rfl) (by kernel_rfl) (fun _ _ _ h => h) hS (.inl ⟨by rfl, ?_⟩) ?_
      rotate_left 1
      · intro w' hS'; go_simp; try with_reducible rfl
      simp only [Act.put, List.setIfInBounds_toArray, List.set_cons_succ, List.set_cons_zero, List.getElem_toArray, List.getElem_cons_succ, List.getElem_cons_zero]
      refine wpAnyM_take (i := 10) (v := ?_) rfl (by kernel_rfl) (by kernel_rfl) (by kernel_rfl) (by kernel_rfl) (by kernel_rfl) (fun _ _ _ h => h) hS (.inl ⟨by rfl, ?_⟩) ?_
      rotate_left 1
      · intro w' hS'; go_simp; try with_reducible rfl
      simp only [Act.put, List.setIfInBounds_toArray, List.set_cons_succ, List.set_cons_zero, List.getElem_toArray, List.getElem_cons_succ, List.getElem_cons_zero]
      refine wpAnyM_take (i := 11) (v := ?_) rfl (by kernel_rfl) (by kernel_rfl) (by kernel_rfl) (by kernel_rfl) (by kernel_rfl) (fun _ _ _ h => h) hS (.inl ⟨by rfl, ?_⟩) ?_
      rotate_left 1
      · intro w' hS'; go_simp; try with_reducible rfl
      simp only [Act.put, List.setIfInBounds_toArray, List.set_cons_succ, List.set_cons_zero, List.getElem_toArray, List.getElem_cons_succ, List.getElem_cons_zero]
      refine wpAnyM_one (i := 12) (by kernel_rfl) rfl (by rfl) (fun K hK => ?_)
      go_simp
      have b5 : Bx (M.alloc (.cells #[.int .i64 0, .slice none 0 0] 26)) M.heap.size 26 #[.int .i64 0, .slice none 0 0] := Bx.new _ _ _
      have hsM : u.heap.size ≤ M.heap.size := hS.size
      replace hS := hS.alloc hsM (.cells #[.int .i64 0, .slice none 0 0] 26)
      obtain ⟨N, hN⟩ : ∃ N, N = M.alloc (.cells #[.int .i64 0, .slice none 0 0] 26) := ⟨_, rfl⟩
      obtain ⟨g, hg⟩ : ∃ g, g = M.heap.size := ⟨_, rfl⟩
      obtain ⟨lo, hlo2⟩ : ∃ lo, lo = u.heap.size := ⟨_, rfl⟩
      obtain ⟨hi, hhi⟩ : ∃ hi, hi = M.heap.size := ⟨_, rfl⟩
      replace own : Own 2 N lo hi (.slice A (setA B n x).length C) (setA B n x) := by rw [hN, hlo2, hhi]; simpa using own.alloc _
      have hgo : lo ≤ g ∧ hi ≤ g := by omega
      rw [← hN] at hS b5 ⊢
      rw [← hg] at b5 ⊢
      have hlw : w.heap.size + 2 ≤ lo := by rw [hlo2]; exact hsu
      have hlu : u.heap.size ≤ lo := by omega
      have hhN : hi ≤ N.heap.size := by rw [hN, hhi]; simp
      have hgu : u.heap.size ≤ g := by omega
      clear hN hg hlo2 hhi
      refine hK _ _ (.inr hS) ?_
      try simp only [Act.put, List.setIfInBounds_toArray, List.set_cons_succ, List.set_cons_zero, List.getElem_toArray, List.getElem_cons_succ, List.getElem_cons_zero]
      clear hK K
      have hg5 := b5.lt
      have hg6 := b5.thaw 0
      have hg7 := b5.thaw 1
      have hg8 := b5.at_ 0 rfl
      have hg9 := b5.at_ 1 rfl
      refine wpAnyM_one (i := 13) (by kernel_rfl) rfl (by rfl) (fun K hK => ?_)
      go_simp
      refine hK _ _ (.inr ((hS.setCell (p := ⟨g, 0, none⟩) (by simp <;> omega) _).setCell (p := ⟨g, 1, none⟩) (by simp <;> omega) _)) ?_
      try simp only [Act.put, List.setIfInBounds_toArray, List.set_cons_succ, List.set_cons_zero, List.getElem_toArray, List.getElem_cons_succ, List.getElem_cons_zero]
      clear hK K
      refine wpAnyM_one (i := 14) (by kernel_rfl) rfl (by rfl) (fun K hK => ?_)
      go_simp
      refine hK _ _ (.inl rfl) ?_
      clear hK K
      refine wpAnyM_done (by kernel_rfl) ?_ _
      try simp only [Act.put, List.setIfInBounds_toArray, List.set_cons_succ, List.set_cons_zero, List.getElem_toArray, List.getElem_cons_succ, List.getElem_cons_zero]
      replace b_p1 := b_p1.below hS
      replace hbel : Below w.heap.size w N := hbel.trans (hS.mono hbel.size)
      have r0 := b_p1.at_ 0 rfl
      have r1 := b_p1.at_ 1 rfl
      have f0 := b_p1.thaw 0
      have f1 := b_p1.thaw 1
      have hl := b_p1.lt
      have hne : ¬ p + 1 = g := by omega
      have hne2 : ¬ g = p + 1 := fun h => hne h.symm
      have hbs := hbel.size
      have og : g < lo ∨ hi ≤ g := by omega
      have op : p + 1 < lo ∨ hi ≤ p + 1 := .inl (by omega)
      go_wp2
      exact bodyPost_ret (v := .agg #[.int .i64 B, .slice A (setA B n x).length C]) (by simp [results, go_sem, r0, r1]) rfl
        ⟨A, C, rfl, (show Own 2 _ lo hi (.slice A (setA B n x).length C) (setA B n x) from (((own.setCell (p := ⟨g, 0, none⟩) og _).setCell (p := ⟨g, 1, none⟩) og _).setCell (p := ⟨p + 1, 0, none⟩) op _).setCell (p := ⟨p + 1, 1, none⟩) op _).wide (by omega) (by simp; omega), (by repeat (first | with_reducible exact hbel | with_reducible refine Below.setCell ?_ (by first | omega | (simp <;> omega)) _ | with_reducible refine Below.alloc ?_ (by first | omega | (simp <;> omega)) _ | with_reducible refine Below.drew ?_))⟩
    · go_simp
      obtain ⟨g, hg⟩ : ∃ g, g = u.heap.size := ⟨_, rfl⟩
      obtain ⟨V, hV⟩ : ∃ V, V = (u.alloc (.cells #[.int .i64 0, .slice none 0 0] 26)).drew := ⟨_, rfl⟩
      have b5 : Bx V g 26 #[.int .i64 0, .slice none 0 0] := by rw [hV, hg]; exact (Bx.new u _ _).drew
      replace hS : Below u.heap.size u V := by rw [hV]; exact ((Below.refl _ _).alloc (Nat.le_refl _) _).drew
      first | rw [← hV] | skip
      first | rw [← hg] | skip
      have hgu : u.heap.size ≤ g := by omega
      have hgV : g + 1 ≤ V.heap.size := by rw [hV, hg]; simp
      clear hV hg
      refine hK _ _ (.inr hS) ?_
      try simp only [Act.put, List.setIfInBounds_toArray, List.set_cons_succ, List.set_cons_zero, List.getElem_toArray, List.getElem_cons_succ, List.getElem_cons_zero]
      clear hK K
      refine wpAnyM_one (i := 8) (by kernel_rfl) rfl (by rfl) (fun K hK => ?_)
      go_simp
      refine (HN.out V).mono ?_
      rintro e M ⟨A, C, rfl, own, hb⟩
      have hlo := hS.size
      replace b5 := b5.below hb
      replace hS : Below u.heap.size u M := hS.trans (hb.mono hS.size)
      obtain ⟨lo, hlo2⟩ : ∃ lo, lo = V.heap.size := ⟨_, rfl⟩
      obtain ⟨hi, hhi⟩ : ∃ hi, hi = M.heap.size := ⟨_, rfl⟩
      rw [← hlo2, ← hhi] at own
      have hgo : g < lo := by omega
      have hlw : w.heap.size + 2 ≤ lo := by omega
      have hlu : u.heap.size ≤ lo := by omega
      have hhN : hi ≤ M.heap.size := by omega
      clear hlo2 hhi
      refine hK _ _ (.inr hS) ?_
      try simp only [Act.put, List.setIfInBounds_toArray, List.set_cons_succ, List.set_cons_zero, List.getElem_toArray, List.getElem_cons_succ, List.getElem_cons_zero]
      clear hK K
      refine wpAnyM_take (i := 9) (v := ?_) rfl (by kernel_rfl) (by kernel_rfl) (by kernel_rfl) (by kernel_rfl) (by kernel_rfl) (fun _ _ _ h => h) hS (.inl ⟨by rfl, ?_⟩) ?_
      rotate_left 1
      · intro w' hS'; go_simp; try with_reducible rfl
      simp only [Act.put, List.setIfInBounds_toArray, List.set_cons_succ, List.set_cons_zero, List.getElem_toArray, List.getElem_cons_succ, List.getElem_cons_zero]
      refine wpAnyM_take (i := 10) (v := ?_) rfl (by kernel_rfl) (by kernel_rfl) (by kernel_rfl) (by kernel_rfl) (by kernel_rfl) (fun _ _ _ h => h) hS (.inl ⟨by rfl, ?_⟩) ?_
      rotate_left 1
      · intro w' hS'; go_simp; try with_reducible rfl
      simp only [Act.put, List.setIfInBounds_toArray, List.set_cons_succ, List.set_cons_zero, List.getElem_toArray, List.getElem_cons_succ, List.getElem_cons_zero]
      refine wpAnyM_take (i := 11) (v := ?_) rfl (by kernel_rfl) (by kernel_rfl) (by kernel_rfl) (by kernel_rfl) (by kernel_rfl) (fun _ _ _ h => h) hS (.inl ⟨by rfl, ?_⟩) ?_
      rotate_left 1
      · intro w' hS'; go_simp; try with_reducible rfl
      simp only [Act.put, List.setIfInBounds_toArray, List.set_cons_succ, List.set_cons_zero, List.getElem_toArray, List.getElem_cons_succ, List.getElem_cons_zero]
      have hg5 := b5.lt
      have hg6 := b5.thaw 0
      have hg7 := b5.thaw 1
      have hg8 := b5.at_ 0 rfl
      have hg9 := b5.at_ 1 rfl
      refine wpAnyM_one (i := 13) (by kernel_rfl) rfl (by rfl) (fun K hK => ?_)
      go_simp
      refine hK _ _ (.inr ((hS.setCell (p := ⟨g, 0, none⟩) (by simp <;> omega) _).setCell (p := ⟨g, 1, none⟩) (by simp <;> omega) _)) ?_
      try simp only [Act.put, List.setIfInBounds_toArray, List.set_cons_succ, List.set_cons_zero, List.getElem_toArray, List.getElem_cons_succ, List.getElem_cons_zero]
      clear hK K
      refine wpAnyM_one (i := 14) (by kernel_rfl) rfl (by rfl) (fun K hK => ?_)
      go_simp
      refine hK _ _ (.inl rfl) ?_
      clear hK K
      refine wpAnyM_done (by kernel_rfl) ?_ _
      try simp only [Act.put, List.setIfInBounds_toArray, List.set_cons_succ, List.set_cons_zero, List.getElem_toArray, List.getElem_cons_succ, List.getElem_cons_zero]
      replace b_p1 := b_p1.below hS
      replace hbel : Below w.heap.size w M := hbel.trans (hS.mono hbel.size)
      have r0 := b_p1.at_ 0 rfl
      have r1 := b_p1.at_ 1 rfl
      have f0 := b_p1.thaw 0
      have f1 := b_p1.thaw 1
      have hl := b_p1.lt
      have hne : ¬ p + 1 = g := by omega
      have hne2 : ¬ g = p + 1 := fun h => hne h.symm
      have hbs := hbel.size
      have og : g < lo ∨ hi ≤ g := by omega
      have op : p + 1 < lo ∨ hi ≤ p + 1 := .inl (by omega)
      go_wp2
      exact bodyPost_ret (v := .agg #[.int .i64 B, .slice A (setA B n x).length C]) (by simp [results, go_sem, r0, r1]) rfl
        ⟨A, C, rfl, (show Own 2 _ lo hi (.slice A (setA B n x).length C) (setA B n x) from (((own.setCell (p := ⟨g, 0, none⟩) og _).setCell (p := ⟨g, 1, none⟩) og _).setCell (p := ⟨p + 1, 0, none⟩) op _).setCell (p := ⟨p + 1, 1, none⟩) op _).wide (by omega) (by simp; omega), (by repeat (first | with_reducible exact hbel | with_reducible refine Below.setCell ?_ (by first | omega | (simp <;> omega)) _ | with_reducible refine Below.alloc ?_ (by first | omega | (simp <;> omega)) _ | with_reducible refine Below.drew ?_))⟩
  · go_simp
    obtain ⟨g, hg⟩ : ∃ g, g = u.heap.size := ⟨_, rfl⟩
    obtain ⟨V, hV⟩ : ∃ V, V = (u.alloc (.cells #[.int .i64 0, .slice none 0 0] 26)).drew := ⟨_, rfl⟩
    have b5 : Bx V g 26 #[.int .i64 0, .slice none 0 0] := by rw [hV, hg]; exact (Bx.new u _ _).drew
    replace hS : Below u.heap.size u V := by rw [hV]; exact ((Below.refl _ _).alloc (Nat.le_refl _) _).drew
    first | rw [← hV] | skip
    first | rw [← hg] | skip
    have hgu : u.heap.size ≤ g := by omega
    have hgV : g + 1 ≤ V.heap.size := by rw [hV, hg]; simp
    clear hV hg
    refine hK _ _ (.inr hS) ?_
    try simp only [Act.put, List.setIfInBounds_toArray, List.set_cons_succ, List.set_cons_zero, List.getElem_toArray, List.getElem_cons_succ, List.getElem_cons_zero]
    clear hK K
    refine wpAnyM_one (i := 7) (by kernel_rfl) rfl (by rfl) (fun K hK => ?_)
    go_simp
    refine (HM.out _).mono ?_
    rintro e X ⟨rfl, hX⟩
    subst X
    refine hK _ _ (.inr hS) ?_
    try simp only [Act.put, List.setIfInBounds_toArray, List.set_cons_succ, List.set_cons_zero, List.getElem_toArray, List.getElem_cons_succ, List.getElem_cons_zero]
    clear hK K
    refine wpAnyM_one (i := 8) (by kernel_rfl) rfl (by rfl) (fun K hK => ?_)
    go_simp
    refine (HN.out V).mono ?_
    rintro e M ⟨A, C, rfl, own, hb⟩
    have hlo := hS.size
    replace b5 := b5.below hb
    replace hS : Below u.heap.size u M := hS.trans (hb.mono hS.size)
    obtain ⟨lo, hlo2⟩ : ∃ lo, lo = V.heap.size := ⟨_, rfl⟩
    obtain ⟨hi, hhi⟩ : ∃ hi, hi = M.heap.size := ⟨_, rfl⟩
    rw [← hlo2, ← hhi] at own
    have hgo : g < lo := by omega
    have hlw : w.heap.size + 2 ≤ lo := by omega
    have hlu : u.heap.size ≤ lo := by omega
    have hhN : hi ≤ M.heap.size := by omega
    clear hlo2 hhi
    refine hK _ _ (.inr hS) ?_
    try simp only [Act.put, List.setIfInBounds_toArray, List.set_cons_succ, List.set_cons_zero, List.getElem_toArray, List.getElem_cons_succ, List.getElem_cons_zero]
    clear hK K
    refine wpAnyM_take (i := 9) (v := ?_) rfl (by kernel_rfl) (by kernel_rfl) (by kernel_rfl) (by kernel_rfl) (by kernel_rfl) (fun _ _ _ h => h) hS (.inl ⟨by rfl, ?_⟩) ?_
    rotate_left 1
    · intro w' hS'; go_simp; try with_reducible rfl
    simp only [Act.put, List.setIfInBounds_toArray, List.set_cons_succ, List.set_cons_zero, List.getElem_toArray, List.getElem_cons_succ, List.getElem_cons_zero]
    refine wpAnyM_take (i := 10) (v := ?_) rfl (by kernel_rfl) (by kernel_rfl) (by kernel_rfl) (by kernel_rfl) (by kernel_rfl) (fun _ _ _ h => h) hS (.inl ⟨by rfl, ?_⟩) ?_
    rotate_left 1
    · intro w' hS'; go_simp; try with_reducible rfl
    simp only [Act.put, List.setIfInBounds_toArray, List.set_cons_succ, List.set_cons_zero, List.getElem_toArray, List.getElem_cons_succ, List.getElem_cons_zero]
    refine wpAnyM_take (i := 11) (v := ?_) rfl (by kernel_rfl) (by kernel_rfl) (by kernel_rfl) (by kernel_rfl) (by kernel_rfl) (fun _ _ _ h => h) hS (.inl ⟨by rfl, ?_⟩) ?_
    rotate_left 1
    · intro w' hS'; go_simp; try with_reducible rfl
    simp only [Act.put, List.setIfInBounds_toArray, List.set_cons_succ, List.set_cons_zero, List.getElem_toArray, List.getElem_cons_succ, List.getElem_cons_zero]
    have hg5 := b5.lt
    have hg6 := b5.thaw 0
    have hg7 := b5.thaw 1
    have hg8 := b5.at_ 0 rfl
    have hg9 := b5.at_ 1 rfl
    refine wpAnyM_one (i := 13) (by kernel_rfl) rfl (by rfl) (fun K hK => ?_)
    go_simp
    refine hK _ _ (.inr ((hS.setCell (p := ⟨g, 0, none⟩) (by simp <;> omega) _).setCell (p := ⟨g, 1, none⟩) (by simp <;> omega) _)) ?_
    try simp only [Act.put, List.setIfInBounds_toArray, List.set_cons_succ, List.set_cons_zero, List.getElem_toArray, List.getElem_cons_succ, List.getElem_cons_zero]
    clear hK K
    refine wpAnyM_one (i := 14) (by kernel_rfl) rfl (by rfl) (fun K hK => ?_)
    go_simp
    refine hK _ _ (.inl rfl) ?_
    clear hK K
    refine wpAnyM_done (by kernel_rfl) ?_ _
    try simp only [Act.put, List.setIfInBounds_toArray, List.set_cons_succ, List.set_cons_zero, List.getElem_toArray, List.getElem_cons_succ, List.getElem_cons_zero]
    replace b_p1 := b_p1.below hS
    replace hbel : Below w.heap.size w M := hbel.trans (hS.mono hbel.size)
    have r0 := b_p1.at_ 0 rfl
    have r1 := b_p1.at_ 1 rfl
    have f0 := b_p1.thaw 0
    have f1 := b_p1.thaw 1
    have hl := b_p1.lt
    have hne : ¬ p + 1 = g := by omega
    have hne2 : ¬ g = p + 1 := fun h => hne h.symm
    have hbs := hbel.size
    have og : g < lo ∨ hi ≤ g := by omega
    have op : p + 1 < lo ∨ hi ≤ p + 1 := .inl (by omega)
    go_wp2
    exact bodyPost_ret (v := .agg #[.int .i64 B, .slice A (setA B n x).length C]) (by simp [results, go_sem, r0, r1]) rfl
      ⟨A, C, rfl, (show Own 2 _ lo hi (.slice A (setA B n x).length C) (setA B n x) from (((own.setCell (p := ⟨g, 0, none⟩) og _).setCell (p := ⟨g, 1, none⟩) og _).setCell (p := ⟨p + 1, 0, none⟩) op _).setCell (p := ⟨p + 1, 1, none⟩) op _).wide (by omega) (by simp; omega), (by repeat (first | with_reducible exact hbel | with_reducible refine Below.setCell ?_ (by first | omega | (simp <;> omega)) _ | with_reducible refine Below.alloc ?_ (by first | omega | (simp <;> omega)) _ | with_reducible refine Below.drew ?_))⟩
end Go.Proofs.YtlahobdopmdfmaaDoor

/- IsI -/
namespace Go.Proofs.YtlahobdopmdfmaaDoor
open Go.RowKit Go.Extern.Stop Go.Stop Go.Extern

theorem isTypeOf (v : Value) (w : World) : (Extern.ReflectliteType.typeOf #[.iface 220 v]).run Tryd.prog w = .ok (.iface 187 (.agg #[.pointer (some ⟨6, 220, none⟩)])) w := by kernel_rfl
/-- What stands behind the name. -/
def cmpX : Array Value → Sem Value := Extern.ReflectliteType.method fun t => do Go.Extern.Rtype.noPackHeld "Comparable" t; pure (.bool (← typeInfo t).comparable)
theorem isComparable (w : World) : (cmpX #[.agg #[.pointer (some ⟨6, 220, none⟩)]]).run Tryd.prog w = .ok (.bool true) w := by kernel_rfl
set_option maxRecDepth 100000 in
theorem isMethodComparable (n : Nat) (v : Value) (w : World) : (Go.method (n + 1) 187 v "Comparable").run Tryd.prog w = .ok (227, v) w := by kernel_rfl
theorem isComp : (Tryd.prog.info? 220).map (·.comparable) = some true := by kernel_rfl
theorem isSize : (Tryd.prog.info? 243).map (·.size) = some 1 := by kernel_rfl

set_option maxRecDepth 100000 in
set_option maxHeartbeats 1000000 in
/-- errors.Is(x, x), x a pointer to an errors.errorString. -/
theorem is_same (a : Addr) (w : World) :
    Calls Tryd.prog 107 #[.iface 220 (.pointer (some a)), .iface 220 (.pointer (some a))] w fun e w' => e = .returned (.bool true) ∧ w' = w := by
  obtain ⟨i, hi, hcmp⟩ := Option.map_eq_some_iff.1 isComp
  obtain ⟨j, hj, hjs⟩ := Option.map_eq_some_iff.1 isSize
  have h8 := @run_callFunc_extern Tryd.prog 162 _ Extern.ReflectliteType.typeOf Tryd.func162 (by kernel_rfl) (by kernel_rfl) (by kernel_rfl) (by kernel_rfl)
  have h32 := @run_callFunc_extern Tryd.prog 227 _ cmpX Tryd.func227 (by kernel_rfl) (by kernel_rfl) (by kernel_rfl) (by kernel_rfl)
  have tT := isTypeOf
  have cT := isComparable
  have mR := isMethodComparable
  have heq := run_eql_iface_ptr_same (P := Tryd.prog) w a Tryd.underlying117 Tryd.underlying220 hi hcmp hj
  go_enter Tryd.func107, Tryd.ntmps107
  go_wp2
  refine wp_loop_rounds 1 ?_
  rw [rounds_succ]
  go_wp2
  go_ret
  exact ⟨rfl, rfl⟩

set_option maxHeartbeats 1000000 in
/-- errors.Is(nil, x). -/
theorem is_nil (b : Addr) (w : World) :
    Calls Tryd.prog 107 #[.nilIface, .iface 220 (.pointer (some b))] w fun e w' => e = .returned (.bool false) ∧ w' = w := by
  have hn := run_eql_iface_nil_left (P := Tryd.prog) w 220 (.pointer (some b)) Tryd.underlying117
  go_enter Tryd.func107, Tryd.ntmps107
  go_wp2
  go_ret
  exact ⟨rfl, rfl⟩
end Go.Proofs.YtlahobdopmdfmaaDoor

/- SetI -/
namespace Go.Proofs.YtlahobdopmdfmaaDoor
open Go.RowKit

set_option maxRecDepth 100000 in
set_option maxHeartbeats 4000000 in
theorem setAcc_any (a : Addr) (B n x : Int) (w : World) (_ : I64 B) (_ : I64 n) (bx : I64 x) (hl : BellAt w a) :
    Calls Tryd.prog 27 #[.int .i64 B, .int .i64 n, .int .i64 x] w (RegC (setAR B n x) w) := by
  have R := Tryd.results27
  have hbel : Below w.heap.size w w := Below.refl _ _
  cases hf : fullB B n with
  | false =>
    have HR := Lib.hid (show setAR B n x = (0, [], 2) by simp [setAR, hf])
    go_enter Tryd.func27, Tryd.ntmps27
    go_wp2_with fail
    obtain ⟨p, hp⟩ : ∃ g, g = w.heap.size := ⟨_, rfl⟩
    have hk_p : w.heap.size ≤ p := Nat.le_of_eq hp.symm
    obtain ⟨u, hu⟩ : ∃ V, V = w.alloc (.cells #[.int .i64 0, .slice none 0 0] 26) := ⟨_, rfl⟩
    have b_p : Bx u p 26 #[.int .i64 0, .slice none 0 0] := by rw [hu, hp]; exact Bx.new _ _ _
    have hb : Below w.heap.size w u := by rw [hu]; exact (Below.refl _ _).alloc (Nat.le_refl _) _
    rw [← hp, ← hu]
    clear hu hp
    replace hbel := hbel.trans (hb.mono hbel.size)
    clear hb
    refine (circle_no B n u hf).mono ?_
    rintro e v ⟨rfl, hb⟩
    replace b_p := b_p.below hb
    replace hbel := hbel.trans (hb.mono hbel.size)
    clear hb
    go_upto_region 2 with fail
    obtain ⟨q, hq⟩ : ∃ g, g = v.heap.size := ⟨_, rfl⟩
    have hk_q : v.heap.size ≤ q := Nat.le_of_eq hq.symm
    obtain ⟨u2, hu2⟩ : ∃ V, V = v.alloc (.cells #[.int .i64 0, .int .i64 0, .int .i64 0] 113) := ⟨_, rfl⟩
    have b_q : Bx u2 q 113 #[.int .i64 0, .int .i64 0, .int .i64 0] := by rw [hu2, hq]; exact Bx.new _ _ _
    have hb : Below v.heap.size v u2 := by rw [hu2]; exact (Below.refl _ _).alloc (Nat.le_refl _) _
    rw [← hq, ← hu2]
    clear hu2 hq
    replace b_p := b_p.below hb
    replace hbel := hbel.trans (hb.mono hbel.size)
    clear hb
    have r0 := b_p.at_ 0 rfl
    have r1 := b_p.at_ 1 rfl
    have f0 := b_p.thaw 0
    have f1 := b_p.thaw 1
    have hs := b_p.lt
    have hbs := hbel.size
    go_wp2
    exact bodyPost_ret (v := .tuple #[.agg #[.int .i64 0, .slice none 0 0], .int .i64 2]) (by simp [results, go_sem, r0, r1]) rfl
      (regC_err HR.out rfl (by repeat (first | with_reducible exact hbel | with_reducible refine Below.setCell ?_ (by first | omega | (simp <;> omega)) _ | with_reducible refine Below.alloc ?_ (by first | omega | (simp <;> omega)) _ | with_reducible refine Below.drew ?_)))
  | true =>
    have hc := cntA_bd hf
    cases hi : inA (cntA B n) x with
    | false =>
      have HR := Lib.hid (show setAR B n x = (0, [], 5) by simp [setAR, hf, hi])
      go_enter Tryd.func27, Tryd.ntmps27
      go_wp2_with fail
      obtain ⟨p, hp⟩ : ∃ g, g = w.heap.size := ⟨_, rfl⟩
      have hk_p : w.heap.size ≤ p := Nat.le_of_eq hp.symm
      obtain ⟨u, hu⟩ : ∃ V, V = w.alloc (.cells #[.int .i64 0, .slice none 0 0] 26) := ⟨_, rfl⟩
      have b_p : Bx u p 26 #[.int .i64 0, .slice none 0 0] := by rw [hu, hp]; exact Bx.new _ _ _
      have hb : Below w.heap.size w u := by rw [hu]; exact (Below.refl _ _).alloc (Nat.le_refl _) _
      rw [← hp, ← hu]
      clear hu hp
      replace hl := hl.below hb
      replace hbel := hbel.trans (hb.mono hbel.size)
      clear hb
      refine (circle_ok B n u hf).mono ?_
      rintro e v ⟨rfl, hb⟩
      replace hl := hl.below hb
      replace b_p := b_p.below hb
      replace hbel := hbel.trans (hb.mono hbel.size)
      clear hb
      go_upto_region 2 with fail
      obtain ⟨q, hq⟩ : ∃ g, g = v.heap.size := ⟨_, rfl⟩
      have hk_q : v.heap.size ≤ q := Nat.le_of_eq hq.symm
      obtain ⟨u2, hu2⟩ : ∃ V, V = v.alloc (.cells #[.int .i64 B, .int .i64 n, .int .i64 (cntA B n)] 113) := ⟨_, rfl⟩
      have b_q : Bx u2 q 113 #[.int .i64 B, .int .i64 n, .int .i64 (cntA B n)] := by rw [hu2, hq]; exact Bx.new _ _ _
      have hb : Below v.heap.size v u2 := by rw [hu2]; exact (Below.refl _ _).alloc (Nat.le_refl _) _
      rw [← hq, ← hu2]
      clear hu2 hq
      replace hl := hl.below hb
      replace b_p := b_p.below hb
      replace hbel := hbel.trans (hb.mono hbel.size)
      clear hb
      have c0 := b_q.at_ 0 rfl
      have c1 := b_q.at_ 1 rfl
      have c2 := b_q.at_ 2 rfl
      go_wp2_with fail
      refine (shown_out B n (cntA B n) x a u2 (by omega) (by omega) bx hi hl).mono ?_
      rintro e v2 ⟨rfl, hb⟩
      clear c0 c1 c2
      replace hl := hl.below hb
      replace b_p := b_p.below hb
      replace b_q := b_q.below hb
      replace hbel := hbel.trans (hb.mono hbel.size)
      clear hb
      have g0 : v2.cell? ⟨0, 0, none⟩ = some (bellV a) := hl
      go_wp2_with fail
      refine (is_same a _).mono ?_
      rintro e v3 ⟨rfl, hw⟩
      subst v3
      have r0 := b_p.at_ 0 rfl
      have r1 := b_p.at_ 1 rfl
      have f0 := b_p.thaw 0
      have f1 := b_p.thaw 1
      have hs := b_p.lt
      have hbs := hbel.size
      clear g0 hf hi hc
      go_wp2
      exact bodyPost_ret (v := .tuple #[.agg #[.int .i64 0, .slice none 0 0], .int .i64 5]) (by simp [results, go_sem, r0, r1]) rfl
        (regC_err HR.out rfl (by repeat (first | with_reducible exact hbel | with_reducible refine Below.setCell ?_ (by first | omega | (simp <;> omega)) _ | with_reducible refine Below.alloc ?_ (by first | omega | (simp <;> omega)) _ | with_reducible refine Below.drew ?_)))
    | true =>
      have HR := Lib.hid (show setAR B n x = (B, setA B n x, 0) by simp [setAR, hf, hi])
      go_enter Tryd.func27, Tryd.ntmps27
      go_wp2_with fail
      obtain ⟨p, hp⟩ : ∃ g, g = w.heap.size := ⟨_, rfl⟩
      have hk_p : w.heap.size ≤ p := Nat.le_of_eq hp.symm
      obtain ⟨u, hu⟩ : ∃ V, V = w.alloc (.cells #[.int .i64 0, .slice none 0 0] 26) := ⟨_, rfl⟩
      have b_p : Bx u p 26 #[.int .i64 0, .slice none 0 0] := by rw [hu, hp]; exact Bx.new _ _ _
      have hb : Below w.heap.size w u := by rw [hu]; exact (Below.refl _ _).alloc (Nat.le_refl _) _
      rw [← hp, ← hu]
      clear hu hp
      replace hl := hl.below hb
      replace hbel := hbel.trans (hb.mono hbel.size)
      clear hb
      refine (circle_ok B n u hf).mono ?_
      rintro e v ⟨rfl, hb⟩
      replace hl := hl.below hb
      replace b_p := b_p.below hb
      replace hbel := hbel.trans (hb.mono hbel.size)
      clear hb
      go_upto_region 2 with fail
      obtain ⟨q, hq⟩ : ∃ g, g = v.heap.size := ⟨_, rfl⟩
      have hk_q : v.heap.size ≤ q := Nat.le_of_eq hq.symm
      obtain ⟨u2, hu2⟩ : ∃ V, V = v.alloc (.cells #[.int .i64 B, .int .i64 n, .int .i64 (cntA B n)] 113) := ⟨_, rfl⟩
      have b_q : Bx u2 q 113 #[.int .i64 B, .int .i64 n, .int .i64 (cntA B n)] := by rw [hu2, hq]; exact Bx.new _ _ _
      have hb : Below v.heap.size v u2 := by rw [hu2]; exact (Below.refl _ _).alloc (Nat.le_refl _) _
      rw [← hq, ← hu2]
      clear hu2 hq
      replace hl := hl.below hb
      replace b_p := b_p.below hb
      replace hbel := hbel.trans (hb.mono hbel.size)
      clear hb
      have c0 := b_q.at_ 0 rfl
      have c1 := b_q.at_ 1 rfl
      have c2 := b_q.at_ 2 rfl
      go_wp2_with fail
      refine (shown_in B n (cntA B n) x u2 (by omega) (by omega) bx hi).mono ?_
      rintro e v2 ⟨rfl, hb⟩
      clear c0 c1 c2
      replace hl := hl.below hb
      replace b_p := b_p.below hb
      replace b_q := b_q.below hb
      replace hbel := hbel.trans (hb.mono hbel.size)
      clear hb
      have g0 : v2.cell? ⟨0, 0, none⟩ = some (bellV a) := hl
      go_wp2_with fail
      refine (is_nil a _).mono ?_
      rintro e v3 ⟨rfl, hw⟩
      subst v3
      have c0 := b_q.at_ 0 rfl
      have c1 := b_q.at_ 1 rfl
      have c2 := b_q.at_ 2 rfl
      clear g0 hc
      go_wp2_with fail
      refine (register_any B n x v2 hf).mono ?_
      rintro e v3 ⟨A, C, rfl, own, hb⟩
      clear c0 c1 c2
      have hpl : p < v2.heap.size := b_p.lt
      have hvs := hb.size
      replace hl := hl.below hb
      replace b_p := b_p.below hb
      replace b_q := b_q.below hb
      replace hbel := hbel.trans (hb.mono hbel.size)
      clear hb
      have r0 := b_p.at_ 0 rfl
      have r1 := b_p.at_ 1 rfl
      have f0 := b_p.thaw 0
      have f1 := b_p.thaw 1
      have hs := b_p.lt
      have hbs := hbel.size
      clear hf hi
      go_wp2
      exact bodyPost_ret (v := .tuple #[.agg #[.int .i64 B, .slice A (setA B n x).length C], .int .i64 0]) (by simp [results, go_sem, r0, r1]) rfl
        (regC_ok HR.out rfl ((own.setCell (p := ⟨p, 0, none⟩) (.inl hpl) _).setCell (p := ⟨p, 1, none⟩) (.inl hpl) _) (by have := hk_p; omega) (by simp) (by repeat (first | with_reducible exact hbel | with_reducible refine Below.setCell ?_ (by first | omega | (simp <;> omega)) _ | with_reducible refine Below.alloc ?_ (by first | omega | (simp <;> omega)) _ | with_reducible refine Below.drew ?_)))
theorem implSetAccumulator (B n x : Int) (w : World) (b1 : I64 B) (b2 : I64 n) (b3 : I64 x) (hD : BellD w) :
    Calls Tryd.prog 27 #[.int .i64 B, .int .i64 n, .int .i64 x] w (RegC (setAR B n x) w) :=
  hD.elim fun a hl => setAcc_any a B n x w b1 b2 b3 hl
end Go.Proofs.YtlahobdopmdfmaaDoor

/- Flat -/
namespace Go.Proofs.YtlahobdopmdfmaaDoor
open Go.RowKit

/-- How an element lies in cells. -/
structure Flat (α : Type) where
  sz : Nat
  cells : α → List Value
  zero : α
  len : ∀ x, (cells x).length = sz
  one : ∀ x, ∀ v ∈ cells x, v.oneCell' = true
  pos : 0 < sz

def pairF : Flat (Int × Int) := ⟨2, fun z => [.int .i64 z.1, .int .i64 z.2], (0, 0), fun _ => rfl, fun _ v hv => by simp at hv; rcases hv with rfl | rfl <;> rfl, by omega⟩
def tripF : Flat (Int × Int × Int) := ⟨3, fun z => [.int .i64 z.1, .int .i64 z.2.1, .int .i64 z.2.2], (0, 0, 0), fun _ => rfl, fun _ v hv => by simp at hv; rcases hv with rfl | rfl | rfl <;> rfl, by omega⟩
def textF : Flat ByteArray := ⟨1, fun s => [.string s], ByteArray.empty, fun _ => rfl, fun _ v hv => by simp at hv; subst hv; rfl, by omega⟩

section
variable {α : Type} (F : Flat α)
/-- The cells of a row, one element behind the other. -/
def flat (xs : List α) : List Value := xs.flatMap F.cells
/-- The k-th element (a word that the walk does not open). -/
def elt (xs : List α) (k : Nat) : α := xs[k]?.getD F.zero
variable {F}
theorem elt_get {xs : List α} {k : Nat} (h : k < xs.length) : elt F xs k = xs[k] := by simp [elt, h]
theorem elt_some {xs : List α} {k : Nat} (h : k < xs.length) : xs[k]? = some (elt F xs k) := by rw [elt_get h]; exact List.getElem?_eq_getElem h
theorem flat_len (xs : List α) : (flat F xs).length = xs.length * F.sz := by
  induction xs with
  | nil => simp [flat]
  | cons x xs ih => simp only [flat, List.flatMap_cons, List.length_append, F.len, List.length_cons] at ih ⊢; rw [ih, Nat.succ_mul, Nat.add_comm]
theorem flat_nil : flat F ([] : List α) = [] := rfl
theorem flat_append (xs ys : List α) : flat F (xs ++ ys) = flat F xs ++ flat F ys := by simp [flat]
theorem flat_one (x : α) : flat F [x] = F.cells x := by simp [flat]
theorem flat_cons (x : α) (xs : List α) : flat F (x :: xs) = F.cells x ++ flat F xs := by simp [flat]
theorem flat_get {xs : List α} {i j : Nat} {x : α} {v : Value} (h : xs[i]? = some x) (hj : (F.cells x)[j]? = some v) : (flat F xs)[i * F.sz + j]? = some v := by
  induction xs generalizing i with
  | nil => simp at h
  | cons y ys ih =>
    rw [flat_cons]
    have hj' : j < F.sz := by have := (List.getElem?_eq_some_iff.1 hj).1; rwa [F.len] at this
    cases i with
    | zero =>
      simp only [List.getElem?_cons_zero, Option.some.injEq] at h
      subst h
      rw [Nat.zero_mul, Nat.zero_add, List.getElem?_append_left (by rw [F.len]; exact hj')]
      exact hj
    | succ i =>
      rw [List.getElem?_append_right (by rw [F.len, Nat.succ_mul]; omega), F.len, show (i + 1) * F.sz + j - F.sz = i * F.sz + j by rw [Nat.succ_mul]; omega]
      exact ih (by simpa using h)
theorem flat_mem {xs : List α} : ∀ v ∈ flat F xs, v.oneCell' = true := by
  intro v hv
  simp only [flat, List.mem_flatMap] at hv
  obtain ⟨x, _, hx⟩ := hv
  exact F.one x v hx
/-- One cell of an element is written. -/
theorem flat_set {xs : List α} {i j : Nat} {x y : α} {v : Value} (h : xs[i]? = some x) (hj : j < F.sz) (hy : F.cells y = (F.cells x).set j v) : (flat F xs).set (i * F.sz + j) v = flat F (xs.set i y) := by
  induction xs generalizing i with
  | nil => simp at h
  | cons z zs ih =>
    cases i with
    | zero =>
      simp only [List.getElem?_cons_zero, Option.some.injEq] at h
      subst h
      rw [flat_cons, List.set_cons_zero, flat_cons, Nat.zero_mul, Nat.zero_add, List.set_append_left _ _ (by rw [F.len]; exact hj), hy]
    | succ i =>
      rw [flat_cons, List.set_cons_succ, flat_cons, List.set_append_right _ _ (by rw [F.len, Nat.succ_mul]; omega), F.len, show (i + 1) * F.sz + j - F.sz = i * F.sz + j by rw [Nat.succ_mul]; omega, ih (by simpa using h)]

theorem list_ext_elt {xs ys : List α} (hl : xs.length = ys.length) (h : ∀ k, k < xs.length → elt F xs k = elt F ys k) : xs = ys := by
  apply List.ext_getElem hl
  intro k h1 h2
  have := h k h1
  rwa [elt_get h1, elt_get h2] at this
theorem takeE_snoc {xs ys : List α} {k : Nat} (hk : k < xs.length) (hl : xs.length = ys.length) (h : xs.take k = ys.take k) (he : elt F xs k = elt F ys k) : xs.take (k + 1) = ys.take (k + 1) := by
  have hk' : k < ys.length := by omega
  rw [elt_get hk, elt_get hk'] at he
  rw [List.take_succ_eq_append_getElem hk, List.take_succ_eq_append_getElem hk', h, he]
theorem neE_of_at {xs ys : List α} {k : Nat} (he : ¬ elt F xs k = elt F ys k) : ¬ xs = ys := by rintro rfl; exact he rfl
theorem takeE_all {xs ys : List α} (hl : xs.length = ys.length) (h : xs.take xs.length = ys.take xs.length) : xs = ys := by
  rw [List.take_of_length_le (Nat.le_refl _), hl, List.take_of_length_le (Nat.le_refl _)] at h
  exact h
theorem takeE_succ {xs : List α} {k : Nat} (hk : k < xs.length) : xs.take (k + 1) = xs.take k ++ [elt F xs k] := by rw [List.take_succ_eq_append_getElem hk, elt_get hk]
theorem dropE {xs : List α} {k : Nat} (hk : k < xs.length) : xs.drop k = elt F xs k :: xs.drop (k + 1) := by rw [List.drop_eq_getElem_cons hk, elt_get hk]
theorem elt_mem {xs : List α} {k : Nat} (hk : k < xs.length) : elt F xs k ∈ xs := by rw [elt_get hk]; exact List.getElem_mem _
theorem allE_succ {p : α → Prop} {xs : List α} {k : Nat} (hk : k < xs.length) (h : ∀ x ∈ xs.take k, p x) (he : p (elt F xs k)) : ∀ x ∈ xs.take (k + 1), p x := by
  rw [takeE_succ (F := F) hk]
  intro x hx
  rcases List.mem_append.1 hx with h1 | h1
  · exact h x h1
  · rw [List.mem_singleton] at h1; subst h1; exact he
theorem elt_set_eq {xs : List α} {k : Nat} (hk : k < xs.length) (x : α) : elt F (xs.set k x) k = x := by simp [elt, hk]
theorem elt_set_ne {xs : List α} {k j : Nat} (h : j ≠ k) (x : α) : elt F (xs.set j x) k = elt F xs k := by simp [elt, List.getElem?_set_ne h]
theorem elt_append_left {xs ys : List α} {k : Nat} (h : k < xs.length) : elt F (xs ++ ys) k = elt F xs k := by simp [elt, List.getElem?_append_left h]

/-- The cells from this address on read as these elements, which are not too many. -/
structure RdF (F : Flat α) (w : World) (a : Option Addr) (xs : List α) : Prop where
  len : xs.length ≤ 1000000000
  cells : xs ≠ [] → ∃ b off, a = some ⟨b, off, none⟩ ∧ ∀ (i : Nat) (x : α), xs[i]? = some x → ∀ (j : Nat) (v : Value), (F.cells x)[j]? = some v → w.cell? ⟨b, off + i * F.sz + j, none⟩ = some v

theorem RdF.at_ {w : World} {a : Option Addr} {xs : List α} (h : RdF F w a xs) {k : Nat} (hk : k < xs.length) :
    ∃ b off, a = some ⟨b, off, none⟩ ∧ ∀ (j : Nat) (v : Value), (F.cells (elt F xs k))[j]? = some v → w.cell? ⟨b, off + k * F.sz + j, none⟩ = some v := by
  obtain ⟨b, off, rfl, hc⟩ := h.cells (by rintro rfl; simp at hk)
  exact ⟨b, off, rfl, fun j v hv => hc k _ (elt_some hk) j v hv⟩
theorem RdF.drewN {w : World} {a : Option Addr} {xs : List α} (h : RdF F w a xs) (n : Nat) : RdF F (w.drewN n) a xs := ⟨h.len, h.cells⟩
theorem RdF.drew {w : World} {a : Option Addr} {xs : List α} (h : RdF F w a xs) : RdF F w.drew a xs := ⟨h.len, h.cells⟩
theorem RdF.below {w w' : World} {a : Option Addr} {xs : List α} (h : RdF F w a xs) (hb : Below w.heap.size w w') : RdF F w' a xs := by
  refine ⟨h.len, fun hne => ?_⟩
  obtain ⟨b, off, rfl, hc⟩ := h.cells hne
  exact ⟨b, off, rfl, fun i x hx j v hv => (hb.cell (p := ⟨b, _, none⟩) (World.block_lt_of_cell? _ _ (hc i x hx j v hv))).trans (hc i x hx j v hv)⟩

/-- All numbers fit an int64. -/
def All2 (xs : List (Int × Int)) : Prop := ∀ x ∈ xs, I64 x.1 ∧ I64 x.2
def All3 (xs : List (Int × Int × Int)) : Prop := ∀ x ∈ xs, I64 x.1 ∧ I64 x.2.1 ∧ I64 x.2.2
/-- Elements that came in: of whatever number. -/
structure RawF (F : Flat α) (p : α → Prop) (w : World) (a : Option Addr) (xs : List α) : Prop where
  len : xs.length ≤ 9223372036854775807
  wf : ∀ x ∈ xs, p x
  cells : xs ≠ [] → ∃ b off, a = some ⟨b, off, none⟩ ∧ ∀ (i : Nat) (x : α), xs[i]? = some x → ∀ (j : Nat) (v : Value), (F.cells x)[j]? = some v → w.cell? ⟨b, off + i * F.sz + j, none⟩ = some v
theorem RawF.rd {p : α → Prop} {w : World} {a : Option Addr} {xs : List α} (h : RawF F p w a xs) (hl : xs.length ≤ 1000000000) : RdF F w a xs := ⟨hl, h.cells⟩

/-- v is a slice of the call's own that holds these elements; it lies among the blocks lo .. hi - 1. -/
structure OwnF (F : Flat α) (t : TypeId) (w : World) (lo hi : Nat) (v : Value) (xs : List α) : Prop where
  row : Row t F.sz w lo hi v xs.length (flat F xs)
  len : xs.length ≤ 1000000000

section
variable {t : TypeId} {w w' : World} {lo hi : Nat} {v : Value} {xs : List α}
theorem OwnF.lo_le (h : OwnF F t w lo hi v xs) {k : Nat} (hk : v.ownBlock = some k) : lo ≤ k ∧ k < hi ∧ k < w.heap.size := h.row.lo_le hk
theorem OwnF.touch {a b : Nat} (h : OwnF F t w lo hi v xs) (ht : Touch a b w w') (hd : hi ≤ a ∨ b ≤ lo) : OwnF F t w' lo hi v xs := ⟨h.row.touch ht hd, h.len⟩
theorem OwnF.below (h : OwnF F t w lo hi v xs) (hb : Below w.heap.size w w') : OwnF F t w' lo hi v xs := ⟨h.row.below hb, h.len⟩
theorem OwnF.drewN (h : OwnF F t w lo hi v xs) (n : Nat) : OwnF F t (w.drewN n) lo hi v xs := ⟨h.row.drewN n, h.len⟩
theorem OwnF.drew (h : OwnF F t w lo hi v xs) : OwnF F t w.drew lo hi v xs := ⟨h.row.drew, h.len⟩
theorem OwnF.alloc (h : OwnF F t w lo hi v xs) (o : Obj) : OwnF F t (w.alloc o) lo hi v xs := ⟨h.row.alloc o, h.len⟩
theorem OwnF.setCell (h : OwnF F t w lo hi v xs) {p : Addr} (hp : p.block < lo ∨ hi ≤ p.block) (u : Value) : OwnF F t (w.setCell p u) lo hi v xs := ⟨h.row.setCell hp u, h.len⟩
theorem OwnF.wide {lo' hi' : Nat} (h : OwnF F t w lo hi v xs) (hl : lo' ≤ lo) (hh : hi ≤ hi') : OwnF F t w lo' hi' v xs := ⟨h.row.wide hl hh, h.len⟩
theorem OwnF.form (h : OwnF F t w lo hi v xs) : ∃ a c, v = .slice a xs.length c := h.row.form
theorem OwnF.low {L : Nat} (h : OwnF F t w lo hi v xs) (hb : Below L w w') (hg : hi ≤ L) : OwnF F t w' lo hi v xs :=
  ⟨⟨ownsRow_same h.row.row fun k hk => hb.block k (by have := h.lo_le hk; omega), h.row.top⟩, h.len⟩
theorem ownF_nil (F : Flat α) (t : TypeId) (w : World) (lo hi : Nat) : OwnF F t w lo hi (.slice none 0 0) [] := ⟨row_nil _ _ _ _ _, by simp⟩
/-- What is owned can be read. -/
theorem OwnF.rd {a : Option Addr} {n c : Nat} (h : OwnF F t w lo hi (.slice a n c) xs) : RdF F w a xs := by
  refine ⟨h.len, fun hne => ?_⟩
  have hn : n = xs.length := by
    obtain ⟨a', c', e⟩ := h.form
    injection e
  subst hn
  rcases h.row.row.2 with ⟨_, h0⟩ | ⟨g, cap, cur, hv, hg, hh, hc, _, _, htk⟩
  · exact absurd (List.eq_nil_of_length_eq_zero h0) hne
  · injection hv with ha _ _
    subst ha
    refine ⟨g, 0, rfl, fun i x hx j v hv => ?_⟩
    have h1 := flat_get hx hv
    have hi : i * F.sz + j < xs.length * F.sz := by rw [← flat_len (F := F)]; exact (List.getElem?_eq_some_iff.1 h1).1
    rw [Nat.zero_add, h.row.row.cellAt _ hi, h1]
theorem OwnF.blk {g n c : Nat} (h : OwnF F t w lo hi (.slice (some ⟨g, 0, none⟩) n c) xs) : lo ≤ g ∧ g < hi ∧ g < w.heap.size := h.lo_le rfl
theorem OwnF.num {a : Option Addr} {n c : Nat} (h : OwnF F t w lo hi (.slice a n c) xs) : n = xs.length := by
  obtain ⟨a', c', e⟩ := h.form
  injection e
/-- A row that is not empty begins a block. -/
theorem OwnF.head {a : Option Addr} {n c : Nat} (h : OwnF F t w lo hi (.slice a n c) xs) (hne : 0 < xs.length) : ∃ g, a = some ⟨g, 0, none⟩ ∧ lo ≤ g ∧ g < hi ∧ g < w.heap.size := by
  rcases h.row.row.2 with ⟨_, h0⟩ | ⟨g, cap, cur, hv, _⟩
  · omega
  · injection hv with ha _ _
    subst ha
    exact ⟨g, rfl, h.lo_le rfl⟩
theorem OwnF.get {g n c : Nat} (h : OwnF F t w lo hi (.slice (some ⟨g, 0, none⟩) n c) xs) {k j : Nat} {u : Value} (hk : k < xs.length) (hv : (F.cells (elt F xs k))[j]? = some u) : w.cell? ⟨g, k * F.sz + j, none⟩ = some u := by
  obtain ⟨b, off, e, hc⟩ := h.rd.at_ hk
  have h1 := flat_get (F := F) (elt_some (F := F) hk) hv
  obtain rfl := h.num
  rw [h.row.row.cellAt _ (by rw [← flat_len (F := F)]; exact (List.getElem?_eq_some_iff.1 h1).1), h1]
theorem OwnF.thaw {g n c : Nat} (h : OwnF F t w lo hi (.slice (some ⟨g, 0, none⟩) n c) xs) (j : Nat) : w.frozen? ⟨g, j, none⟩ = false := by
  obtain rfl := h.num
  exact h.row.row.frozenAt j
/-- One cell of an element is written. -/
theorem OwnF.put {g n c : Nat} (h : OwnF F t w lo hi (.slice (some ⟨g, 0, none⟩) n c) xs) {k j : Nat} {y : α} {u : Value} (hk : k < xs.length) (hj : j < F.sz) (hy : F.cells y = (F.cells (elt F xs k)).set j u) :
    OwnF F t (w.setCell ⟨g, k * F.sz + j, none⟩ u) lo hi (.slice (some ⟨g, 0, none⟩) n c) (xs.set k y) := by
  obtain rfl := h.num
  have hs := (h.row.row.stored (k * F.sz + j) u).1
  rw [flat_set (elt_some hk) hj hy] at hs
  exact ⟨⟨by simpa using hs, by simpa using h.row.top⟩, by simpa using h.len⟩
theorem ownF_first {n c : Nat} (h : OwnF F t w lo hi (.slice (some ⟨lo, 0, none⟩) n c) xs) : OwnF F t w lo (lo + 1) (.slice (some ⟨lo, 0, none⟩) n c) xs :=
  ⟨⟨h.row.row, fun k hk => by simp [Value.ownBlock] at hk; omega⟩, h.len⟩
end
end

/-- Elements with empty ones behind them, up to n. -/
def padF {α : Type} (F : Flat α) (n : Nat) (xs : List α) : List α := xs ++ List.replicate (n - xs.length) F.zero
section
variable {α : Type} {F : Flat α}
theorem padF_len {n : Nat} {xs : List α} (h : xs.length ≤ n) : (padF F n xs).length = n := by simp [padF]; omega
theorem padF_set {n : Nat} {xs : List α} (h : xs.length < n) (x : α) : (padF F n xs).set xs.length x = padF F n (xs ++ [x]) := by
  unfold padF
  rw [List.set_append_right _ _ (Nat.le_refl _), Nat.sub_self]
  have : n - xs.length = (n - (xs ++ [x]).length) + 1 := by simp; omega
  rw [this, List.replicate_succ, List.set_cons_zero, List.append_assoc, List.singleton_append]
theorem padF_all {n : Nat} {xs : List α} (h : xs.length = n) : padF F n xs = xs := by simp [padF, h]
theorem elt_padF {n : Nat} {xs : List α} (h : xs.length < n) : elt F (padF F n xs) xs.length = F.zero := by
  unfold elt padF
  rw [List.getElem?_append_right (Nat.le_refl _), Nat.sub_self, List.getElem?_replicate, if_pos (by omega)]; rfl

theorem made_flat (F : Flat α) (z : Array Value) (n : Nat) (hz : z.toList = F.cells F.zero) : (madeCells z (n * F.sz)).toList = flat F (padF F n []) := by
  have hs : z.size = F.sz := by rw [← F.len F.zero, ← hz, Array.length_toList]
  apply List.ext_getElem?
  intro j
  by_cases hj : j < n * F.sz
  · have hq : j / F.sz < n := (Nat.div_lt_iff_lt_mul F.pos).2 hj
    have hr : j % F.sz < F.sz := Nat.mod_lt _ F.pos
    have h0 : (padF F n [])[j / F.sz]? = some F.zero := by simp [padF, hq]
    have hc : (F.cells F.zero)[j % F.sz]? = some (z[j % F.sz]'(by omega)) := by
      rw [← hz, Array.getElem?_toList]; exact Array.getElem?_eq_getElem (by omega)
    have := flat_get (F := F) h0 hc
    rw [show j / F.sz * F.sz + j % F.sz = j by rw [Nat.mul_comm]; exact Nat.div_add_mod j F.sz] at this
    rw [this]
    have hb : z[j % z.size]! = z[j % F.sz]'(by omega) := by
      have e : z[j % z.size]! = z[j % z.size]'(by rw [hs]; omega) := getElem!_pos z _ _
      rw [e]
      congr 1
      rw [hs]
    simp [madeCells, hj, hb]
  · rw [List.getElem?_eq_none (by rw [Array.length_toList, size_madeCells]; omega), List.getElem?_eq_none (by rw [flat_len, padF_len (by simp)]; omega)]

/-- make([]T, n). -/
theorem wpList_makeF (F : Flat α) {P : Program} {w : World} {ops : Array Oper} {rest : List Oper} {o : Oper} {a : Act} {Q : Exit → Act → World → Prop}
    (hg : o.guard = none) (l c : Operand) (t e : TypeId) (hop : o.op = Op.makeSlice t l c) (h1 : P.underlying t = some (.slice e)) (z0 : Value) (bytes : Nat)
    (hinfo : (P.info? e).map (fun i => (i.zero, i.size, i.bytes)) = some (some z0, F.sz, bytes)) (hz0 : z0.cells.toList = F.cells F.zero) (hby : bytes ≤ 128)
    (n : Nat) (hl : a.eval l = .int .i64 n) (hc : a.eval c = .int .i64 n) (hn : n ≤ 1000000000)
    (hK : ∀ w', OwnF F e w' w.heap.size w'.heap.size (.slice (some ⟨w.heap.size, 0, none⟩) n n) (padF F n []) → Below w.heap.size w w' → wpList P ops Q rest (a.put o.dst (.slice (some ⟨w.heap.size, 0, none⟩) n n)) w') :
    wpList P ops Q (o :: rest) a w := by
  obtain ⟨i, hi1, hi2, hi3, hi4⟩ := info_parts hinfo
  have hb : i.bytes * n ≤ 128 * 1000000000 := Nat.mul_le_mul (by omega) hn
  refine wpList_make_full w hg l c t hop w.heap.size e i _ F.sz h1 hi1 hi2 hi3 .i64 .i64 n n n hl hc rfl rfl (by omega) (by unfold maxLen; omega) (Nat.le_refl _) fun w' hown hgr => ?_
  rw [made_flat F _ n hz0] at hown
  exact hK w' ⟨⟨by rw [padF_len (by simp)]; exact hown, fun k hk => (hown.lt k hk).2⟩, by rw [padF_len (by simp)]; exact hn⟩ ((Below.refl _ _).grown hgr (Nat.le_refl _) (by simp))
end

theorem flat_split {α : Type} {F : Flat α} {xs : List α} {j : Nat} {v : Value} (h : (flat F xs)[j]? = some v) : ∃ x, xs[j / F.sz]? = some x ∧ (F.cells x)[j % F.sz]? = some v := by
  have hj : j < xs.length * F.sz := by rw [← flat_len (F := F)]; exact (List.getElem?_eq_some_iff.1 h).1
  have hq : j / F.sz < xs.length := (Nat.div_lt_iff_lt_mul F.pos).2 hj
  have hr : j % F.sz < (F.cells xs[j / F.sz]).length := by rw [F.len]; exact Nat.mod_lt _ F.pos
  refine ⟨xs[j / F.sz], List.getElem?_eq_getElem hq, ?_⟩
  have h2 := flat_get (F := F) (List.getElem?_eq_getElem hq) (List.getElem?_eq_getElem hr)
  rw [show j / F.sz * F.sz + j % F.sz = j by rw [Nat.mul_comm]; exact Nat.div_add_mod j F.sz, h] at h2
  rw [List.getElem?_eq_getElem hr]
  exact h2.symm
/-- All cells of a row that can be read. -/
theorem RdF.news {α : Type} {F : Flat α} {w : World} {b off : Nat} {xs : List α} (h : RdF F w (some ⟨b, off, none⟩) xs) : ∀ j u, (flat F xs)[j]? = some u → w.cell? ((⟨b, off, none⟩ : Addr).add j) = some u := by
  intro j u hj
  obtain ⟨x, hx, hv⟩ := flat_split hj
  have hne : xs ≠ [] := by rintro rfl; simp at hx
  obtain ⟨b', off', e, hc⟩ := h.cells hne
  injection e with e
  injection e with e1 e2 _
  subst e1 e2
  have := hc _ x hx _ u hv
  rw [show off + j / F.sz * F.sz + j % F.sz = off + j by rw [Nat.add_assoc, Nat.mul_comm (j / F.sz), Nat.div_add_mod]] at this
  have ea : (⟨b, off, none⟩ : Addr).add j = ⟨b, off + j, none⟩ := by
    by_cases h0 : j = 0
    · subst h0; rfl
    · simp [Addr.add, h0]
  rw [ea]
  exact this
section
variable {t : TypeId} {w : World} {lo hi g n c k : Nat}
theorem RdF.at2 {a : Option Addr} {xs : List (Int × Int)} (h : RdF pairF w a xs) (hk : k < xs.length) :
    ∃ b off, a = some ⟨b, off, none⟩ ∧ w.cell? ⟨b, off + k * 2, none⟩ = some (.int .i64 (elt pairF xs k).1) ∧ w.cell? ⟨b, off + k * 2 + 1, none⟩ = some (.int .i64 (elt pairF xs k).2) := by
  obtain ⟨b, off, rfl, hc⟩ := h.at_ hk
  exact ⟨b, off, rfl, hc 0 _ rfl, hc 1 _ rfl⟩
theorem RdF.at3 {a : Option Addr} {xs : List (Int × Int × Int)} (h : RdF tripF w a xs) (hk : k < xs.length) :
    ∃ b off, a = some ⟨b, off, none⟩ ∧ w.cell? ⟨b, off + k * 3, none⟩ = some (.int .i64 (elt tripF xs k).1) ∧ w.cell? ⟨b, off + k * 3 + 1, none⟩ = some (.int .i64 (elt tripF xs k).2.1) ∧
      w.cell? ⟨b, off + k * 3 + 2, none⟩ = some (.int .i64 (elt tripF xs k).2.2) := by
  obtain ⟨b, off, rfl, hc⟩ := h.at_ hk
  exact ⟨b, off, rfl, hc 0 _ rfl, hc 1 _ rfl, hc 2 _ rfl⟩
theorem OwnF.get2 {xs : List (Int × Int)} (h : OwnF pairF t w lo hi (.slice (some ⟨g, 0, none⟩) n c) xs) (hk : k < xs.length) :
    w.cell? ⟨g, k * 2, none⟩ = some (.int .i64 (elt pairF xs k).1) ∧ w.cell? ⟨g, k * 2 + 1, none⟩ = some (.int .i64 (elt pairF xs k).2) :=
  ⟨h.get (j := 0) hk rfl, h.get (j := 1) hk rfl⟩
theorem OwnF.get3 {xs : List (Int × Int × Int)} (h : OwnF tripF t w lo hi (.slice (some ⟨g, 0, none⟩) n c) xs) (hk : k < xs.length) :
    w.cell? ⟨g, k * 3, none⟩ = some (.int .i64 (elt tripF xs k).1) ∧ w.cell? ⟨g, k * 3 + 1, none⟩ = some (.int .i64 (elt tripF xs k).2.1) ∧ w.cell? ⟨g, k * 3 + 2, none⟩ = some (.int .i64 (elt tripF xs k).2.2) :=
  ⟨h.get (j := 0) hk rfl, h.get (j := 1) hk rfl, h.get (j := 2) hk rfl⟩
theorem OwnF.put20 {xs : List (Int × Int)} (h : OwnF pairF t w lo hi (.slice (some ⟨g, 0, none⟩) n c) xs) (hk : k < xs.length) (u : Int) :
    OwnF pairF t (w.setCell ⟨g, k * 2, none⟩ (.int .i64 u)) lo hi (.slice (some ⟨g, 0, none⟩) n c) (xs.set k (u, (elt pairF xs k).2)) := h.put (j := 0) hk (by decide) rfl
theorem OwnF.put21 {xs : List (Int × Int)} (h : OwnF pairF t w lo hi (.slice (some ⟨g, 0, none⟩) n c) xs) (hk : k < xs.length) (u : Int) :
    OwnF pairF t (w.setCell ⟨g, k * 2 + 1, none⟩ (.int .i64 u)) lo hi (.slice (some ⟨g, 0, none⟩) n c) (xs.set k ((elt pairF xs k).1, u)) := h.put (j := 1) hk (by decide) rfl
theorem OwnF.put30 {xs : List (Int × Int × Int)} (h : OwnF tripF t w lo hi (.slice (some ⟨g, 0, none⟩) n c) xs) (hk : k < xs.length) (u : Int) :
    OwnF tripF t (w.setCell ⟨g, k * 3, none⟩ (.int .i64 u)) lo hi (.slice (some ⟨g, 0, none⟩) n c) (xs.set k (u, (elt tripF xs k).2)) := h.put (j := 0) hk (by decide) rfl
theorem OwnF.put31 {xs : List (Int × Int × Int)} (h : OwnF tripF t w lo hi (.slice (some ⟨g, 0, none⟩) n c) xs) (hk : k < xs.length) (u : Int) :
    OwnF tripF t (w.setCell ⟨g, k * 3 + 1, none⟩ (.int .i64 u)) lo hi (.slice (some ⟨g, 0, none⟩) n c) (xs.set k ((elt tripF xs k).1, u, (elt tripF xs k).2.2)) := h.put (j := 1) hk (by decide) rfl
theorem OwnF.put32 {xs : List (Int × Int × Int)} (h : OwnF tripF t w lo hi (.slice (some ⟨g, 0, none⟩) n c) xs) (hk : k < xs.length) (u : Int) :
    OwnF tripF t (w.setCell ⟨g, k * 3 + 2, none⟩ (.int .i64 u)) lo hi (.slice (some ⟨g, 0, none⟩) n c) (xs.set k ((elt tripF xs k).1, (elt tripF xs k).2.1, u)) := h.put (j := 2) hk (by decide) rfl
/-- All cells of an element are written. -/
theorem OwnF.put2 {xs : List (Int × Int)} (h : OwnF pairF t w lo hi (.slice (some ⟨g, 0, none⟩) n c) xs) (hk : k < xs.length) (x : Int × Int) :
    OwnF pairF t ((w.setCell ⟨g, k * 2, none⟩ (.int .i64 x.1)).setCell ⟨g, k * 2 + 1, none⟩ (.int .i64 x.2)) lo hi (.slice (some ⟨g, 0, none⟩) n c) (xs.set k x) := by
  have := (h.put20 hk x.1).put21 (k := k) (by simpa using hk) x.2
  rwa [elt_set_eq hk, List.set_set] at this
theorem OwnF.put3 {xs : List (Int × Int × Int)} (h : OwnF tripF t w lo hi (.slice (some ⟨g, 0, none⟩) n c) xs) (hk : k < xs.length) (x : Int × Int × Int) :
    OwnF tripF t (((w.setCell ⟨g, k * 3, none⟩ (.int .i64 x.1)).setCell ⟨g, k * 3 + 1, none⟩ (.int .i64 x.2.1)).setCell ⟨g, k * 3 + 2, none⟩ (.int .i64 x.2.2)) lo hi (.slice (some ⟨g, 0, none⟩) n c) (xs.set k x) := by
  have := ((h.put30 hk x.1).put31 (k := k) (by simpa using hk) x.2.1).put32 (k := k) (by simpa using hk) x.2.2
  simpa only [List.set_set, elt_set_eq (F := tripF) hk] using this
end
theorem padF_copy {α : Type} {F : Flat α} {xs : List α} {k : Nat} (hk : k < xs.length) : (padF F xs.length (xs.take k)).set k (elt F xs k) = padF F xs.length (xs.take (k + 1)) := by
  have hl : (xs.take k).length = k := by rw [List.length_take]; omega
  have := padF_set (F := F) (n := xs.length) (xs := xs.take k) (by omega) (elt F xs k)
  rw [hl] at this
  rw [this, takeE_succ (F := F) hk]
theorem padF_copied {α : Type} {F : Flat α} {xs : List α} : padF F xs.length (xs.take xs.length) = xs := by rw [List.take_of_length_le (Nat.le_refl _)]; exact padF_all rfl
theorem padF_take_len {α : Type} {F : Flat α} {xs : List α} {k : Nat} (hk : k ≤ xs.length) : (padF F xs.length (xs.take k)).length = xs.length := padF_len (by rw [List.length_take]; omega)

/-- The first j elements marked, the others as they were. -/
def mrkF {α : Type} (f : Nat → α) (xs : List α) (j : Nat) : List α := (List.range j).map f ++ xs.drop j
section
variable {α : Type} {F : Flat α} {f : Nat → α} {xs : List α} {j : Nat}
theorem mrkF_len (h : j ≤ xs.length) : (mrkF f xs j).length = xs.length := by simp [mrkF]; omega
theorem mrkF_zero : mrkF f xs 0 = xs := by simp [mrkF]
theorem mrkF_all : mrkF f xs xs.length = (List.range xs.length).map f := by simp [mrkF]
theorem mrkF_set (h : j < xs.length) : (mrkF f xs j).set j (f j) = mrkF f xs (j + 1) := by
  unfold mrkF
  rw [List.set_append_right _ _ (by simp), List.length_map, List.length_range, Nat.sub_self, List.drop_eq_getElem_cons h, List.set_cons_zero, List.range_succ, List.map_append, List.map_singleton, List.append_assoc, List.singleton_append]
theorem elt_range {n : Nat} (h : j < n) : elt F ((List.range n).map f) j = f j := by rw [elt_get (by simpa using h)]; simp
end
/-- Marks from k on, two for an element. -/
def seq2 (k : Int) (n : Nat) : List (Int × Int) := (List.range n).map fun i : Nat => (k + 2 * (i : Int), k + 2 * (i : Int) + 1)
def seq3 (k : Int) (n : Nat) : List (Int × Int × Int) := (List.range n).map fun i : Nat => (k + 3 * (i : Int), k + 3 * (i : Int) + 1, k + 3 * (i : Int) + 1 + 1)
theorem seq2_len (k : Int) (n : Nat) : (seq2 k n).length = n := by simp [seq2]
theorem seq3_len (k : Int) (n : Nat) : (seq3 k n).length = n := by simp [seq3]
theorem seq2_at {k : Int} {n i : Nat} (h : i < n) : elt pairF (seq2 k n) i = (k + 2 * (i : Int), k + 2 * (i : Int) + 1) := elt_range h
theorem seq3_at {k : Int} {n i : Nat} (h : i < n) : elt tripF (seq3 k n) i = (k + 3 * (i : Int), k + 3 * (i : Int) + 1, k + 3 * (i : Int) + 1 + 1) := elt_range h
theorem ownF_row {α : Type} {F : Flat α} {t : TypeId} {w : World} {lo hi n : Nat} {v : Value} {xs : List α} (h : Row t F.sz w lo hi v n (flat F xs)) (hn : n = xs.length) (hl : xs.length ≤ 1000000000) : OwnF F t w lo hi v xs := by
  subst hn; exact ⟨h, hl⟩
end Go.Proofs.YtlahobdopmdfmaaDoor

/- Gear -/
namespace Go.Proofs.YtlahobdopmdfmaaDoor

/-- Are these the teeth of a pair? (a word that the walk does not open) -/
def teethB (x : Int × Int) : Bool := inB x.1 2 120 && inB x.2 2 120
theorem teethB_true {x : Int × Int} (h : teethB x = true) : (2 ≤ x.1 ∧ x.1 ≤ 120) ∧ (2 ≤ x.2 ∧ x.2 ≤ 120) := by
  simp only [teethB, Bool.and_eq_true] at h
  exact ⟨inB_true h.1, inB_true h.2⟩
theorem teethB_false {x : Int × Int} (h : teethB x = false) : (x.1 < 2 ∨ 120 < x.1) ∨ ((2 ≤ x.1 ∧ x.1 ≤ 120) ∧ (x.2 < 2 ∨ 120 < x.2)) := by
  cases h1 : inB x.1 2 120 with
  | false => exact .inl (inB_false h1)
  | true => rw [teethB, h1, Bool.true_and] at h; exact .inr ⟨inB_true h1, inB_false h⟩
/-- Are all of them pairs? -/
def pairsB (xs : List (Int × Int)) : Bool := xs.all teethB
theorem pairsB_true {xs : List (Int × Int)} : pairsB xs = true ↔ ∀ x ∈ xs, teethB x = true := by simp [pairsB]
theorem pairsB_bad {xs : List (Int × Int)} {k : Nat} (hk : k < xs.length) (h : teethB (elt pairF xs k) = false) : pairsB xs = false := by
  cases hp : pairsB xs with
  | false => rfl
  | true => rw [pairsB_true.1 hp _ (elt_mem hk)] at h; cases h
theorem pairsB_allT {xs : List (Int × Int)} (h : ∀ x ∈ xs.take xs.length, teethB x = true) : pairsB xs = true := by
  rw [List.take_of_length_le (Nat.le_refl _)] at h; exact pairsB_true.2 h
/-- Is their number that of a train? -/
def lenB (n : Nat) : Bool := decide (1 ≤ n ∧ n ≤ 6)
theorem lenB_true {n : Nat} (h : lenB n = true) : 1 ≤ n ∧ n ≤ 6 := by simpa [lenB] using h
theorem lenB_false {n : Nat} (h : lenB n = false) : n < 1 ∨ 6 < n := by simp [lenB] at h; omega
theorem lenB_in (n : Nat) : lenB n = inB (n : Int) 1 6 := by
  rw [lenB, inB, decide_eq_decide]; omega
/-- A train. -/
def trainB (xs : List (Int × Int)) : Bool := lenB xs.length && pairsB xs
structure TrainOf (xs : List (Int × Int)) : Prop where
  n0 : 1 ≤ xs.length
  n1 : xs.length ≤ 6
  all : ∀ x ∈ xs, teethB x = true
theorem train_of {xs : List (Int × Int)} (h : trainB xs = true) : TrainOf xs := by
  simp only [trainB, Bool.and_eq_true] at h
  exact ⟨(lenB_true h.1).1, (lenB_true h.1).2, pairsB_true.1 h.2⟩
theorem train_is {xs : List (Int × Int)} (h : TrainOf xs) : trainB xs = true := by
  simp only [trainB, Bool.and_eq_true]
  exact ⟨by simp [lenB, h.n0, h.n1], pairsB_true.2 h.all⟩
theorem TrainOf.at_ {xs : List (Int × Int)} (h : TrainOf xs) {k : Nat} (hk : k < xs.length) : (2 ≤ (elt pairF xs k).1 ∧ (elt pairF xs k).1 ≤ 120) ∧ (2 ≤ (elt pairF xs k).2 ∧ (elt pairF xs k).2 ≤ 120) := teethB_true (h.all _ (elt_mem hk))

/-- By what a pair multiplies the turns. -/
def fac (x : Int × Int) : Rat := mkRat (-x.1) x.2.toNat
/-- The ratio. -/
def ratQ (xs : List (Int × Int)) : Rat := xs.foldl (fun q x => q * fac x) 1
theorem ratQ_nil : ratQ [] = 1 := rfl
theorem ratQ_snoc (xs : List (Int × Int)) (x : Int × Int) : ratQ (xs ++ [x]) = ratQ xs * fac x := by simp [ratQ]
theorem ratQ_take {xs : List (Int × Int)} {k : Nat} (hk : k < xs.length) : ratQ (xs.take (k + 1)) = ratQ (xs.take k) * fac (elt pairF xs k) := by rw [takeE_succ (F := pairF) hk, ratQ_snoc]
/-- num / den in lowest terms. -/
def red (n : Int) (d : Nat) : Rat := mkRat n d
/-- What the two divisions give. -/
theorem red_num {n : Int} {d : Nat} (hd : d ≠ 0) : n.tdiv (Nat.gcd n.natAbs d) = (red n d).num := by
  rw [red, Rat.num_mkRat, if_neg hd, Nat.gcd_comm, Int.tdiv_eq_ediv_of_dvd]
  exact Int.ofNat_dvd_left.2 (Nat.gcd_dvd_right _ _)
theorem red_den {n : Int} {d : Nat} (hd : d ≠ 0) : (d : Int).tdiv (Nat.gcd n.natAbs d) = ((red n d).den : Int) := by
  rw [red, Rat.den_mkRat, if_neg hd, Nat.gcd_comm, Int.tdiv_eq_ediv_of_nonneg (by omega)]
  rfl
theorem red_mul (p q : Rat) : red (p.num * q.num) (p.den * q.den) = p * q := by rw [red, Rat.mul_def']
theorem red_fac (q : Rat) (x : Int × Int) : red (q.num * -x.1) (q.den * x.2.toNat) = q * fac x := by
  rw [red, fac, ← Rat.mkRat_mul_mkRat, Rat.mkRat_self]
theorem red_neg (q : Rat) (x : Int × Int) : red (-q.num * x.1) (q.den * x.2.toNat) = q * fac x := by
  rw [← red_fac]; congr 1; rw [Int.mul_neg, Int.neg_mul]
theorem abs_div_le (n : Int) (g : Nat) : (n / (g : Int)).natAbs ≤ n.natAbs := by
  rcases Nat.eq_zero_or_pos g with h | h
  · subst h; simp
  · rcases Int.le_total 0 n with h1 | h1
    · obtain ⟨k, rfl⟩ := Int.eq_ofNat_of_zero_le h1
      rw [← Int.natCast_ediv]; exact Nat.div_le_self _ _
    · have e := Int.ediv_mul_le n (b := (g : Int)) (by omega)
      have h2 : n / (g : Int) ≤ 0 := by
        rcases Int.lt_or_le 0 (n / (g : Int)) with h3 | h3
        · exfalso
          have : 0 < n / (g : Int) * g := Int.mul_pos h3 (by omega)
          omega
        · exact h3
      have h4 : n ≤ n / (g : Int) := by
        have := Int.le_ediv_of_mul_le (a := n) (b := n) (c := (g : Int)) (by omega) (by
          have : n * (g : Int) ≤ n * 1 := Int.mul_le_mul_of_nonpos_left h1 (by omega)
          omega)
        exact this
      omega
theorem num_le (p q : Rat) : (p * q).num.natAbs ≤ p.num.natAbs * q.num.natAbs := by
  rw [Rat.num_mul, ← Int.natAbs_mul]; exact abs_div_le _ _
theorem den_le (p q : Rat) : (p * q).den ≤ p.den * q.den := by rw [Rat.den_mul]; exact Nat.div_le_self _ _
theorem den_dvd (p q : Rat) : (p * q).den ∣ p.den * q.den := by
  rw [Rat.den_mul]; exact Nat.div_dvd_of_dvd (Nat.gcd_dvd_right _ _)
theorem red_num_le (n : Int) (d : Nat) : (red n d).num.natAbs ≤ n.natAbs := by
  rw [red, Rat.num_mkRat]; split
  · simp
  · exact abs_div_le _ _
theorem red_den_le (n : Int) {d : Nat} (hd : d ≠ 0) : (red n d).den ≤ d := by rw [red, Rat.den_mkRat, if_neg hd]; exact Nat.div_le_self _ _
theorem red_den_dvd (n : Int) {d : Nat} (hd : d ≠ 0) : (red n d).den ∣ d := by rw [red, Rat.den_mkRat, if_neg hd]; exact Nat.div_dvd_of_dvd (Nat.gcd_dvd_left _ _)
theorem fac_num_le {x : Int × Int} (h : teethB x = true) : (fac x).num.natAbs ≤ 120 := by
  have := teethB_true h
  have := red_num_le (-x.1) x.2.toNat
  rw [red] at this
  rw [fac]; omega
theorem fac_den_dvd {x : Int × Int} (h : teethB x = true) : (fac x).den ∣ x.2.toNat := by
  have := teethB_true h
  exact red_den_dvd (-x.1) (by omega)
theorem fac_den_le {x : Int × Int} (h : teethB x = true) : (fac x).den ≤ 120 := by
  have := teethB_true h
  have := Nat.le_of_dvd (by omega) (fac_den_dvd h)
  omega
/-- Bounds of a ratio of k pairs. -/
theorem ratQ_bd {xs : List (Int × Int)} (h : ∀ x ∈ xs, teethB x = true) : ∀ k, k ≤ xs.length → (ratQ (xs.take k)).num.natAbs ≤ 120 ^ k ∧ (ratQ (xs.take k)).den ≤ 120 ^ k
  | 0, _ => by simp [ratQ_nil]
  | k + 1, hk => by
    obtain ⟨h1, h2⟩ := ratQ_bd h k (by omega)
    have hk' : k < xs.length := by omega
    have ht := h _ (elt_mem (F := pairF) hk')
    rw [ratQ_take hk', Nat.pow_succ]
    exact ⟨Nat.le_trans (num_le _ _) (Nat.mul_le_mul h1 (fac_num_le ht)), Nat.le_trans (den_le _ _) (Nat.mul_le_mul h2 (fac_den_le ht))⟩
theorem pow_le {k : Nat} (h : k ≤ 6) : 120 ^ k ≤ 2985984000000 := by
  have := Nat.pow_le_pow_right (n := 120) (by omega) h
  have e : 120 ^ 6 = 2985984000000 := by decide
  omega
theorem ratQ_in {xs : List (Int × Int)} (h : ∀ x ∈ xs, teethB x = true) {k : Nat} (hk : k ≤ xs.length) (h6 : k ≤ 6) :
    (ratQ (xs.take k)).num.natAbs ≤ 2985984000000 ∧ (ratQ (xs.take k)).den ≤ 2985984000000 := by
  have := ratQ_bd h k hk
  have := pow_le h6
  omega
theorem ratQ_in' {xs : List (Int × Int)} (h : ∀ x ∈ xs, teethB x = true) {k : Nat} (hk : k ≤ xs.length) (h6 : k ≤ 5) :
    (ratQ (xs.take k)).num.natAbs ≤ 24883200000 ∧ (ratQ (xs.take k)).den ≤ 24883200000 := by
  have := ratQ_bd h k hk
  have := Nat.pow_le_pow_right (n := 120) (by omega) h6
  have e : 120 ^ 5 = 24883200000 := by decide
  omega
theorem den_pos (q : Rat) : 0 < q.den := Nat.pos_of_ne_zero q.den_nz

/-- The ratio, and the code. -/
def ratR (xs : List (Int × Int)) : (Int × Int) × Int := if trainB xs = true then (((ratQ xs).num, ((ratQ xs).den : Int)), 0) else ((0, 0), 1)
theorem ratR_bad {xs : List (Int × Int)} (h : trainB xs = false) : ratR xs = ((0, 0), 1) := by simp [ratR, h]
theorem ratR_ok {xs : List (Int × Int)} (h : trainB xs = true) : ratR xs = (((ratQ xs).num, ((ratQ xs).den : Int)), 0) := by simp [ratR, h]
/-- The ratio times turns, and the code. -/
def outR (xs : List (Int × Int)) (t : Int) : (Int × Int) × Int :=
  if trainB xs = true then (if inB t (-1000) 1000 = true then (((red ((ratQ xs).num * t) (ratQ xs).den).num, ((red ((ratQ xs).num * t) (ratQ xs).den).den : Int)), 0) else ((0, 0), 2)) else ((0, 0), 1)
theorem outR_bad {xs : List (Int × Int)} {t : Int} (h : trainB xs = false) : outR xs t = ((0, 0), 1) := by simp [outR, h]
theorem outR_range {xs : List (Int × Int)} {t : Int} (h : trainB xs = true) (ht : inB t (-1000) 1000 = false) : outR xs t = ((0, 0), 2) := by simp [outR, h, ht]
theorem outR_ok {xs : List (Int × Int)} {t : Int} (h : trainB xs = true) (ht : inB t (-1000) 1000 = true) : outR xs t = (((red ((ratQ xs).num * t) (ratQ xs).den).num, ((red ((ratQ xs).num * t) (ratQ xs).den).den : Int)), 0) := by simp [outR, h, ht]

/-- The least common multiple of the denominators of the first k ratios. -/
def lcmTo (xs : List (Int × Int)) : Nat → Nat
  | 0 => 1
  | k + 1 => Nat.lcm (lcmTo xs k) (ratQ (xs.take (k + 1))).den
def dprod (xs : List (Int × Int)) : Nat → Nat
  | 0 => 1
  | k + 1 => dprod xs k * (elt pairF xs k).2.toNat
theorem den_dprod {xs : List (Int × Int)} (h : ∀ x ∈ xs, teethB x = true) : ∀ k, k ≤ xs.length → (ratQ (xs.take k)).den ∣ dprod xs k
  | 0, _ => by simp [ratQ_nil, dprod]
  | k + 1, hk => by
    have hk' : k < xs.length := by omega
    rw [ratQ_take hk', dprod]
    exact Nat.dvd_trans (den_dvd _ _) (Nat.mul_dvd_mul (den_dprod h k (by omega)) (fac_den_dvd (h _ (elt_mem hk'))))
theorem lcm_dprod {xs : List (Int × Int)} (h : ∀ x ∈ xs, teethB x = true) : ∀ k, k ≤ xs.length → lcmTo xs k ∣ dprod xs k
  | 0, _ => by simp [lcmTo, dprod]
  | k + 1, hk => by
    rw [lcmTo]
    exact Nat.lcm_dvd (Nat.dvd_trans (lcm_dprod h k (by omega)) ⟨_, rfl⟩) (den_dprod h (k + 1) hk)
theorem dprod_bd {xs : List (Int × Int)} (h : ∀ x ∈ xs, teethB x = true) : ∀ k, k ≤ xs.length → 1 ≤ dprod xs k ∧ dprod xs k ≤ 120 ^ k
  | 0, _ => by simp [dprod]
  | k + 1, hk => by
    obtain ⟨h1, h2⟩ := dprod_bd h k (by omega)
    have := teethB_true (h _ (elt_mem (F := pairF) (show k < xs.length by omega)))
    rw [dprod, Nat.pow_succ]
    exact ⟨Nat.mul_pos h1 (by omega), Nat.mul_le_mul h2 (by omega)⟩
theorem lcmTo_bd {xs : List (Int × Int)} (h : ∀ x ∈ xs, teethB x = true) {k : Nat} (hk : k ≤ xs.length) (h6 : k ≤ 6) : 1 ≤ lcmTo xs k ∧ lcmTo xs k ≤ 2985984000000 := by
  obtain ⟨h1, h2⟩ := dprod_bd h k hk
  have hd := lcm_dprod h k hk
  have := Nat.le_of_dvd h1 hd
  have := pow_le h6
  exact ⟨Nat.pos_of_dvd_of_pos hd h1, by omega⟩
theorem lcm_step (a b : Nat) : a / Nat.gcd a b * b = Nat.lcm a b := by
  rw [Nat.lcm, Nat.mul_comm, ← Nat.mul_div_assoc _ (Nat.gcd_dvd_left a b), Nat.mul_comm]
def leastR (xs : List (Int × Int)) : Int × Int := if trainB xs = true then ((lcmTo xs xs.length : Int), 0) else (0, 1)
theorem leastR_bad {xs : List (Int × Int)} (h : trainB xs = false) : leastR xs = (0, 1) := by simp [leastR, h]
theorem leastR_ok {xs : List (Int × Int)} (h : trainB xs = true) : leastR xs = ((lcmTo xs xs.length : Int), 0) := by simp [leastR, h]

/-- The train that is driven from its end. -/
def swapP (x : Int × Int) : Int × Int := (x.2, x.1)
def backL (xs : List (Int × Int)) : List (Int × Int) := xs.reverse.map swapP
def backR' (xs : List (Int × Int)) : List (Int × Int) × Int := if trainB xs = true then (backL xs, 0) else ([], 1)
theorem backR'_bad {xs : List (Int × Int)} (h : trainB xs = false) : backR' xs = ([], 1) := by simp [backR', h]
theorem backR'_ok {xs : List (Int × Int)} (h : trainB xs = true) : backR' xs = (backL xs, 0) := by simp [backR', h]
/-- What has come when the pairs from j on have been turned. -/
def backTo (xs : List (Int × Int)) (j : Nat) : List (Int × Int) := (xs.drop j).reverse.map swapP
theorem backTo_all (xs : List (Int × Int)) : backTo xs 0 = backL xs := rfl
theorem backTo_len (xs : List (Int × Int)) : backTo xs xs.length = [] := by simp [backTo]
theorem backTo_step {xs : List (Int × Int)} {j : Nat} (hj : j < xs.length) : backTo xs j = backTo xs (j + 1) ++ [swapP (elt pairF xs j)] := by
  rw [backTo, dropE (F := pairF) hj]; simp [backTo]
theorem backTo_length (xs : List (Int × Int)) (j : Nat) : (backTo xs j).length = xs.length - j := by simp [backTo]
def joinR (xs ys : List (Int × Int)) : List (Int × Int) × Int :=
  if trainB xs = true ∧ trainB ys = true then (if xs.length + ys.length ≤ 6 then (xs ++ ys, 0) else ([], 5)) else ([], 1)
theorem joinR_bad {xs ys : List (Int × Int)} (h : trainB xs = false ∨ trainB ys = false) : joinR xs ys = ([], 1) := by
  rw [joinR, if_neg]; rintro ⟨h1, h2⟩; rcases h with h | h <;> simp_all
theorem joinR_full {xs ys : List (Int × Int)} (h1 : trainB xs = true) (h2 : trainB ys = true) (h : ¬ xs.length + ys.length ≤ 6) : joinR xs ys = ([], 5) := by rw [joinR, if_pos ⟨h1, h2⟩, if_neg h]
theorem joinR_ok {xs ys : List (Int × Int)} (h1 : trainB xs = true) (h2 : trainB ys = true) (h : xs.length + ys.length ≤ 6) : joinR xs ys = (xs ++ ys, 0) := by rw [joinR, if_pos ⟨h1, h2⟩, if_pos h]

/-- The first factor of n from p on, of k, that is as wanted; 0 for none. -/
def fF (n : Nat) : Nat → Nat → Nat
  | 0, _ => 0
  | k + 1, p => if n % p = 0 ∧ n / p ≤ 60 then p else fF n k (p + 1)
theorem fF_hit {n k p : Nat} (h : n % p = 0 ∧ n / p ≤ 60) : fF n (k + 1) p = p := by simp [fF, h]
theorem fF_miss {n k p : Nat} (h : ¬ (n % p = 0 ∧ n / p ≤ 60)) : fF n (k + 1) p = fF n k (p + 1) := by simp only [fF, if_neg h]
theorem fF_le {n : Nat} : ∀ k p, fF n k p < p + k ∨ fF n k p = 0
  | 0, _ => .inr rfl
  | k + 1, p => by
    unfold fF; split
    · exact .inl (by omega)
    · have := fF_le (n := n) k (p + 1); omega
theorem fF_past {n : Nat} (hn : 1 ≤ n) : ∀ k p, n < p → fF n k p = 0
  | 0, _, _ => rfl
  | k + 1, p, hp => by
    rw [fF_miss (by rw [Nat.mod_eq_of_lt hp]; omega)]
    exact fF_past hn k (p + 1) (by omega)
theorem fF_spec {n : Nat} : ∀ k p, fF n k p ≠ 0 → n % fF n k p = 0 ∧ n / fF n k p ≤ 60 ∧ p ≤ fF n k p
  | 0, _, h => absurd rfl h
  | k + 1, p, h => by
    by_cases hc : n % p = 0 ∧ n / p ≤ 60
    · rw [fF_hit hc]; exact ⟨hc.1, hc.2, Nat.le_refl _⟩
    · rw [fF_miss hc] at h ⊢
      have := fF_spec k (p + 1) h
      exact ⟨this.1, this.2.1, by omega⟩
def findL (n d : Nat) : List (Int × Int) := [(2 * (fF n 60 1 : Int), 2 * (fF d 60 1 : Int)), (2 * ((n / fF n 60 1 : Nat) : Int), 2 * ((d / fF d 60 1 : Nat) : Int))]
def findC (n d : Nat) : List (Int × Int) × Int := if fF n 60 1 ≠ 0 ∧ fF d 60 1 ≠ 0 then (findL n d, 0) else ([], 3)
def findR (num den : Int) : List (Int × Int) × Int :=
  if inB num 1 1000000 = true ∧ inB den 1 1000000 = true then findC (red num den.toNat).num.natAbs (red num den.toNat).den else ([], 2)
theorem findR_bad {num den : Int} (h : inB num 1 1000000 = false ∨ inB den 1 1000000 = false) : findR num den = ([], 2) := by
  rw [findR, if_neg]; rintro ⟨h1, h2⟩; rcases h with h | h <;> simp_all
theorem findR_ok {num den : Int} (h1 : inB num 1 1000000 = true) (h2 : inB den 1 1000000 = true) : findR num den = findC (red num den.toNat).num.natAbs (red num den.toNat).den := by rw [findR, if_pos ⟨h1, h2⟩]

/-- Does each place of a chain differ from the next one by at most the play? -/
def joinedAt (pl ps : List Int) (k : Nat) : Bool := decide (nth ps (k + 1) - nth ps k ≤ nth pl k ∧ nth ps k - nth ps (k + 1) ≤ nth pl k)
def joinedTo (pl ps : List Int) : Nat → Bool
  | 0 => true
  | k + 1 => joinedTo pl ps k && joinedAt pl ps k
theorem joinedTo_all {pl ps : List Int} : ∀ {n : Nat}, joinedTo pl ps n = true ↔ ∀ k, k < n → joinedAt pl ps k = true
  | 0 => by simp [joinedTo]
  | n + 1 => by
    rw [joinedTo, Bool.and_eq_true, joinedTo_all]
    constructor
    · rintro ⟨h1, h2⟩ k hk
      rcases Nat.lt_or_ge k n with h | h
      · exact h1 k h
      · obtain rfl : k = n := by omega
        exact h2
    · intro h; exact ⟨fun k hk => h k (by omega), h n (by omega)⟩
theorem joinedTo_bad {pl ps : List Int} {n k : Nat} (hk : k < n) (h : joinedAt pl ps k = false) : joinedTo pl ps n = false := by
  cases hj : joinedTo pl ps n with
  | false => rfl
  | true => rw [joinedTo_all.1 hj k hk] at h; cases h
/-- Are all numbers from lo to hi? -/
def rangeB (lo hi : Int) (zs : List Int) : Bool := zs.all fun z => inB z lo hi
theorem rangeB_true {lo hi : Int} {zs : List Int} : rangeB lo hi zs = true ↔ ∀ z ∈ zs, inB z lo hi = true := by simp [rangeB]
theorem nth_mem {zs : List Int} {k : Nat} (hk : k < zs.length) : nth zs k ∈ zs := by rw [nth_get hk]; exact List.getElem_mem _
theorem rangeB_bad {lo hi : Int} {zs : List Int} {k : Nat} (hk : k < zs.length) (h : inB (nth zs k) lo hi = false) : rangeB lo hi zs = false := by
  cases hp : rangeB lo hi zs with
  | false => rfl
  | true => rw [rangeB_true.1 hp _ (nth_mem hk)] at h; cases h
theorem rangeB_at {lo hi : Int} {zs : List Int} {k : Nat} (h : rangeB lo hi zs = true) (hk : k < zs.length) : lo ≤ nth zs k ∧ nth zs k ≤ hi := inB_true (rangeB_true.1 h _ (nth_mem hk))
theorem rangeB_allT {lo hi : Int} {zs : List Int} (h : ∀ z ∈ zs.take zs.length, inB z lo hi = true) : rangeB lo hi zs = true := by
  rw [List.take_of_length_le (Nat.le_refl _)] at h; exact rangeB_true.2 h
def linksB (pl ps : List Int) : Bool := decide ((1 ≤ pl.length ∧ pl.length ≤ 10) ∧ ps.length = pl.length + 1)
theorem linksB_true {pl ps : List Int} (h : linksB pl ps = true) : (1 ≤ pl.length ∧ pl.length ≤ 10) ∧ ps.length = pl.length + 1 := by simpa [linksB] using h
theorem linksB_false {pl ps : List Int} (h : linksB pl ps = false) : (pl.length < 1 ∨ 10 < pl.length) ∨ ((1 ≤ pl.length ∧ pl.length ≤ 10) ∧ ps.length ≠ pl.length + 1) := by simp [linksB] at h; omega
/-- A chain. -/
def chainB (pl ps : List Int) : Bool := linksB pl ps && (rangeB 0 100 pl && (rangeB (-1000000) 1000000 ps && joinedTo pl ps pl.length))
structure ChainOf (pl ps : List Int) : Prop where
  n0 : 1 ≤ pl.length
  n1 : pl.length ≤ 10
  ln : ps.length = pl.length + 1
  play : ∀ k, k < pl.length → 0 ≤ nth pl k ∧ nth pl k ≤ 100
  place : ∀ k, k < ps.length → -1000000 ≤ nth ps k ∧ nth ps k ≤ 1000000
  join : ∀ k, k < pl.length → nth ps (k + 1) - nth ps k ≤ nth pl k ∧ nth ps k - nth ps (k + 1) ≤ nth pl k
theorem chain_of {pl ps : List Int} (h : chainB pl ps = true) : ChainOf pl ps := by
  simp only [chainB, Bool.and_eq_true] at h
  obtain ⟨h1, h2, h3, h4⟩ := h
  have := linksB_true h1
  exact ⟨this.1.1, this.1.2, this.2, fun k hk => rangeB_at h2 hk, fun k hk => rangeB_at h3 hk, fun k hk => by simpa [joinedAt] using joinedTo_all.1 h4 k hk⟩
/-- Equal chains (a word that the walk does not open). -/
def chEqB (p p' q q' : List Int) : Bool := decide (p = p' ∧ q = q')
theorem chEqB_self (p q : List Int) : chEqB p p q q = true := by simp [chEqB]

/-- Where place k goes if the first one moves. -/
def mvF (pl ps : List Int) (tgt : Int) : Nat → Int
  | 0 => tgt
  | k + 1 => min (max (nth ps (k + 1)) (mvF pl ps tgt k - nth pl k)) (mvF pl ps tgt k + nth pl k)
theorem mvF_bd {pl ps : List Int} (h : ChainOf pl ps) {tgt : Int} (h0 : -1000000 ≤ tgt) (h1 : tgt ≤ 1000000) : ∀ k, k ≤ pl.length → -1001000 ≤ mvF pl ps tgt k ∧ mvF pl ps tgt k ≤ 1001000
  | 0, _ => by simp only [mvF]; omega
  | k + 1, hk => by
    have b := mvF_in h h0 h1 (k + 1) hk
    have := h.n1
    have : ((k + 1 : Nat) : Int) ≤ 10 := by omega
    omega
where mvF_in {pl ps : List Int} (h : ChainOf pl ps) {tgt : Int} (h0 : -1000000 ≤ tgt) (h1 : tgt ≤ 1000000) : ∀ k, k ≤ pl.length → -1000000 - 100 * (k : Int) ≤ mvF pl ps tgt k ∧ mvF pl ps tgt k ≤ 1000000 + 100 * (k : Int)
  | 0, _ => by simp only [mvF]; omega
  | k + 1, hk => by
    have b := mvF_in h h0 h1 k (by omega)
    have p := h.play k (by omega)
    have q := h.place (k + 1) (by have := h.ln; omega)
    simp only [mvF]; omega
def mvL (pl ps : List Int) (tgt : Int) : List Int := tab (mvF pl ps tgt) (pl.length + 1)
def mvR (pl ps : List Int) (tgt : Int) : List Int × List Int × Int :=
  if chainB pl ps = true then (if inB tgt (-1000000) 1000000 = true then (pl, mvL pl ps tgt, 0) else ([], [], 2)) else ([], [], 1)
theorem mvR_bad {pl ps : List Int} {tgt : Int} (h : chainB pl ps = false) : mvR pl ps tgt = ([], [], 1) := by simp [mvR, h]
theorem mvR_range {pl ps : List Int} {tgt : Int} (h : chainB pl ps = true) (ht : inB tgt (-1000000) 1000000 = false) : mvR pl ps tgt = ([], [], 2) := by simp [mvR, h, ht]
theorem mvR_ok {pl ps : List Int} {tgt : Int} (h : chainB pl ps = true) (ht : inB tgt (-1000000) 1000000 = true) : mvR pl ps tgt = (pl, mvL pl ps tgt, 0) := by simp [mvR, h, ht]
/-- The sum of the first k. -/
def sumTo (zs : List Int) : Nat → Int
  | 0 => 0
  | k + 1 => sumTo zs k + nth zs k
theorem sumTo_bd {pl ps : List Int} (h : ChainOf pl ps) : ∀ k, k ≤ pl.length → 0 ≤ sumTo pl k ∧ sumTo pl k ≤ 100 * (k : Int)
  | 0, _ => by simp [sumTo]
  | k + 1, hk => by
    have := sumTo_bd h k (by omega)
    have := h.play k (by omega)
    simp only [sumTo]; omega
def totR (pl ps : List Int) : Int × Int := if chainB pl ps = true then (sumTo pl pl.length, 0) else (0, 1)
theorem totR_bad {pl ps : List Int} (h : chainB pl ps = false) : totR pl ps = (0, 1) := by simp [totR, h]
theorem totR_ok {pl ps : List Int} (h : chainB pl ps = true) : totR pl ps = (sumTo pl pl.length, 0) := by simp [totR, h]
def needTo (pl ps : List Int) (g : Int) : Int := if nth ps pl.length < g then g + sumTo pl pl.length else if g < nth ps pl.length then g - sumTo pl pl.length else nth ps 0
def needR (pl ps : List Int) (g : Int) : Int × Int :=
  if chainB pl ps = true then (if inB g (-1000000) 1000000 = true ∧ inB (needTo pl ps g) (-1000000) 1000000 = true then (needTo pl ps g, 0) else (0, 2)) else (0, 1)
theorem needR_bad {pl ps : List Int} {g : Int} (h : chainB pl ps = false) : needR pl ps g = (0, 1) := by simp [needR, h]
theorem needR_range {pl ps : List Int} {g : Int} (h : chainB pl ps = true) (ht : inB g (-1000000) 1000000 = false ∨ inB (needTo pl ps g) (-1000000) 1000000 = false) : needR pl ps g = (0, 2) := by
  rw [needR, if_pos h, if_neg]; rintro ⟨h1, h2⟩; rcases ht with h | h <;> simp_all
theorem needR_ok {pl ps : List Int} {g : Int} (h : chainB pl ps = true) (h1 : inB g (-1000000) 1000000 = true) (h2 : inB (needTo pl ps g) (-1000000) 1000000 = true) : needR pl ps g = (needTo pl ps g, 0) := by
  rw [needR, if_pos h, if_pos ⟨h1, h2⟩]
theorem all_takeZ {zs : List Int} {p : Int → Prop} {k : Nat} (hk : k < zs.length) (h : ∀ d ∈ zs.take k, p d) (hn : p (nth zs k)) : ∀ d ∈ zs.take (k + 1), p d := by
  rw [List.take_succ_eq_append_getElem hk, ← nth_get hk]
  intro d hd
  rcases List.mem_append.1 hd with h1 | h1
  · exact h d h1
  · rw [List.mem_singleton] at h1; subst h1; exact hn
end Go.Proofs.YtlahobdopmdfmaaDoor

/- Within -/
namespace Go.Proofs.YtlahobdopmdfmaaDoor
open Go.RowKit

set_option maxHeartbeats 1000000 in
theorem within_any (lo hi : Int) (a : Option Addr) (c : Nat) (zs : List Int) (w : World) (ha : Rd w a zs) :
    Calls Tryd.prog 117 #[.int .i64 lo, .int .i64 hi, .slice a zs.length c] w fun e w' => e = .returned (.bool (rangeB lo hi zs)) ∧ w' = w := by
  have hx := ha.len
  go_enter Tryd.func117, Tryd.ntmps117
  go_wp2
  go_loop [8, 11] (fun _ i => ∃ k : Nat, k ≤ zs.length ∧ i = .int .i64 k ∧ Hid (∀ d ∈ zs.take k, inB d lo hi = true)) (fun _ i => zs.length - (intOf i).toNat)
  case atStart => exact ⟨0, Nat.zero_le _, rfl, Lib.hid (by simp)⟩
  case round =>
    obtain ⟨k, hk, rfl, HT⟩ := hrel
    by_cases hlt : k < zs.length
    · obtain ⟨p, off, rfl, hc⟩ := ha.at_ hlt
      cases hd : inB (nth zs k) lo hi with
      | true =>
        have HT' := Lib.hid (all_takeZ (p := fun d => inB d lo hi = true) hlt HT.out hd)
        obtain ⟨hd1, hd2⟩ := inB_true hd
        clear hd
        go_wp2
        go_round
        case rel => exact ⟨k + 1, by omega, by go_num, HT'⟩
        case measure => (simp [intOf]) <;> omega
      | false =>
        have HF := Lib.hid (rangeB_bad hlt hd)
        have hd' : nth zs k < lo ∨ (lo ≤ nth zs k ∧ hi < nth zs k) := by have := inB_false hd; omega
        clear hd
        rcases hd' with h1 | ⟨h1, h2⟩
        all_goals
          go_wp2
          go_ret
          exact ⟨ret_bool HF.out.symm, rfl⟩
    · obtain rfl : k = zs.length := by omega
      have HD := Lib.hid (rangeB_allT HT.out)
      go_wp2
      go_ret
      exact ⟨ret_bool HD.out.symm, rfl⟩

theorem within1 (lo hi z : Int) : rangeB lo hi [z] = inB z lo hi := by simp [rangeB]
theorem within2 (lo hi : Int) (x : Int × Int) : rangeB lo hi [x.1, x.2] = (inB x.1 lo hi && inB x.2 lo hi) := by simp [rangeB]
theorem rd_new1 (w : World) (z : Int) (t : TypeId) : Rd (w.alloc (.cells #[.int .i64 z] t)) (some ⟨w.heap.size, 0, none⟩) [z] :=
  ⟨by simp, fun _ => ⟨_, 0, rfl, fun i hi => by
    obtain rfl : i = 0 := by simp at hi; omega
    exact (Bx.new w #[.int .i64 z] t).at_ 0 rfl⟩⟩
theorem rd_new2 (w : World) (y z : Int) (t : TypeId) : Rd (w.alloc (.cells #[.int .i64 y, .int .i64 z] t)) (some ⟨w.heap.size, 0, none⟩) [y, z] :=
  ⟨by simp, fun _ => ⟨_, 0, rfl, fun i hi => by
    simp at hi
    obtain rfl | rfl : i = 0 ∨ i = 1 := by omega
    · exact (Bx.new w #[.int .i64 y, .int .i64 z] t).at_ 0 rfl
    · exact (Bx.new w #[.int .i64 y, .int .i64 z] t).at_ 1 rfl⟩⟩
theorem rd_at1 {w : World} {g : Nat} {z : Int} (h : w.cell? ⟨g, 0, none⟩ = some (.int .i64 z)) : Rd w (some ⟨g, 0, none⟩) [z] :=
  ⟨by simp, fun _ => ⟨_, 0, rfl, fun i hi => by
    obtain rfl : i = 0 := by simp at hi; omega
    exact h⟩⟩
theorem rd_at2 {w : World} {g : Nat} {y z : Int} (h0 : w.cell? ⟨g, 0, none⟩ = some (.int .i64 y)) (h1 : w.cell? ⟨g, 1, none⟩ = some (.int .i64 z)) : Rd w (some ⟨g, 0, none⟩) [y, z] :=
  ⟨by simp, fun _ => ⟨_, 0, rfl, fun i hi => by
    simp at hi
    obtain rfl | rfl : i = 0 ∨ i = 1 := by omega
    · exact h0
    · exact h1⟩⟩
/-- One number laid into a slice of its own, asked. -/
theorem within1_at (lo hi z : Int) (w : World) (g c : Nat) (h : w.cell? ⟨g, 0, none⟩ = some (.int .i64 z)) :
    Calls Tryd.prog 117 #[.int .i64 lo, .int .i64 hi, .slice (some ⟨g, 0, none⟩) 1 c] w fun e w' => e = .returned (.bool (inB z lo hi)) ∧ w' = w := by
  have := within_any lo hi _ c [z] _ (rd_at1 h)
  rwa [within1] at this
theorem within2_at (lo hi y z : Int) (w : World) (g c : Nat) (h0 : w.cell? ⟨g, 0, none⟩ = some (.int .i64 y)) (h1 : w.cell? ⟨g, 1, none⟩ = some (.int .i64 z)) :
    Calls Tryd.prog 117 #[.int .i64 lo, .int .i64 hi, .slice (some ⟨g, 0, none⟩) 2 c] w fun e w' => e = .returned (.bool (inB y lo hi && inB z lo hi)) ∧ w' = w := by
  have := within_any lo hi _ c [y, z] _ (rd_at2 h0 h1)
  rwa [show rangeB lo hi [y, z] = (inB y lo hi && inB z lo hi) by simp [rangeB]] at this
end Go.Proofs.YtlahobdopmdfmaaDoor

/- NegI -/
namespace Go.Proofs.YtlahobdopmdfmaaDoor
open Go.RowKit

set_option maxRecDepth 100000 in
set_option maxHeartbeats 4000000 in
theorem implNegateAccumulator (xB : Int) (xA : Option Addr) (xC : Nat) (xZ : List Int) (w : World) (ha : Rd w xA xZ) (z : All64 xZ) (b : I64 xB) (hD : BellD w) :
    Calls Tryd.prog 33 #[.agg #[.int .i64 xB, .slice xA xZ.length xC]] w (RegC (negR xB xZ) w) := by
  have R := Tryd.results33
  have hbel : Below w.heap.size w w := Below.refl _ _
  cases h : accB xB xZ with
  | false =>
    have HR := Lib.hid (show negR xB xZ = (0, [], 1) by simp [negR, h])
    have HN := Lib.hid (show numR xB xZ = (0, 1) by simp [numR, h])
    go_enter Tryd.func33, Tryd.ntmps33
    go_wp2_with fail
    obtain ⟨p, hp⟩ : ∃ g, g = w.heap.size := ⟨_, rfl⟩
    have hk_p : w.heap.size ≤ p := Nat.le_of_eq hp.symm
    obtain ⟨u, hu⟩ : ∃ V, V = (w.alloc (.cells #[.int .i64 xB, .slice xA xZ.length xC] 26)).alloc (.cells #[.int .i64 0, .slice none 0 0] 26) := ⟨_, rfl⟩
    have b_p : Bx u p 26 #[.int .i64 xB, .slice xA xZ.length xC] := by rw [hu, hp]; exact (Bx.new _ _ _).alloc _
    have b_p1 : Bx u (p + 1) 26 #[.int .i64 0, .slice none 0 0] := by rw [hu, hp]; simpa using Bx.new (w.alloc (.cells #[.int .i64 xB, .slice xA xZ.length xC] 26)) #[.int .i64 0, .slice none 0 0] 26
    have hb : Below w.heap.size w u := by rw [hu]; exact ((Below.refl _ _).alloc (Nat.le_refl _) _).alloc (by simp) _
    rw [← hp, ← hu]
    clear hu hp
    replace ha := ha.below hb
    replace hD := hD.below hb
    replace hbel := hbel.trans (hb.mono hbel.size)
    clear hb
    refine (implNumberOf xB xA xC xZ u ha z b hD).mono ?_
    rintro e v ⟨rfl, hb⟩
    rw [HN.out]
    replace ha := ha.below hb
    replace hD := hD.below hb
    replace b_p := b_p.below hb
    replace b_p1 := b_p1.below hb
    replace hbel := hbel.trans (hb.mono hbel.size)
    clear hb
    have r0 := b_p1.at_ 0 rfl
    have r1 := b_p1.at_ 1 rfl
    have f0 := b_p1.thaw 0
    have f1 := b_p1.thaw 1
    have hs := b_p1.lt
    have hbs := hbel.size
    clear h
    go_wp2
    exact bodyPost_ret (v := .tuple #[.agg #[.int .i64 0, .slice none 0 0], .int .i64 1]) (by simp [results, go_sem, r0, r1]) rfl
      (regC_err HR.out rfl (by repeat (first | with_reducible exact hbel | with_reducible refine Below.setCell ?_ (by first | omega | (simp <;> omega)) _ | with_reducible refine Below.alloc ?_ (by first | omega | (simp <;> omega)) _ | with_reducible refine Below.drew ?_)))
  | true =>
    have hf := accB_full h
    have hc := cntA_bd hf
    have hi := numA_in h
    have HR := Lib.hid (show negR xB xZ = setAR xB xZ.length (-(numA xB xZ)) by simp [negR, h])
    have HN := Lib.hid (show numR xB xZ = (numA xB xZ, 0) by simp [numR, h])
    have hlen := (okB_spec (accB_spec h).1).2.2.2.1
    obtain ⟨y, hy⟩ : ∃ y, y = numA xB xZ := ⟨_, rfl⟩
    rw [← hy] at HR HN hi
    have hy1 : -1000000000001 ≤ y ∧ y ≤ 1000000000001 := by omega
    have hw1 : IntKind.i64.wrap (-y) = -y := IntWalk.i64_in _ (by omega)
    have hw2 : wrap64 (-y) = -y := by unfold wrap64; omega
    clear hy hi hc hf h
    go_enter Tryd.func33, Tryd.ntmps33
    go_wp2_with fail
    obtain ⟨p, hp⟩ : ∃ g, g = w.heap.size := ⟨_, rfl⟩
    have hk_p : w.heap.size ≤ p := Nat.le_of_eq hp.symm
    obtain ⟨u, hu⟩ : ∃ V, V = (w.alloc (.cells #[.int .i64 xB, .slice xA xZ.length xC] 26)).alloc (.cells #[.int .i64 0, .slice none 0 0] 26) := ⟨_, rfl⟩
    have b_p : Bx u p 26 #[.int .i64 xB, .slice xA xZ.length xC] := by rw [hu, hp]; exact (Bx.new _ _ _).alloc _
    have b_p1 : Bx u (p + 1) 26 #[.int .i64 0, .slice none 0 0] := by rw [hu, hp]; simpa using Bx.new (w.alloc (.cells #[.int .i64 xB, .slice xA xZ.length xC] 26)) #[.int .i64 0, .slice none 0 0] 26
    have hb : Below w.heap.size w u := by rw [hu]; exact ((Below.refl _ _).alloc (Nat.le_refl _) _).alloc (by simp) _
    rw [← hp, ← hu]
    clear hu hp
    replace ha := ha.below hb
    replace hD := hD.below hb
    replace hbel := hbel.trans (hb.mono hbel.size)
    clear hb
    refine (implNumberOf xB xA xC xZ u ha z b hD).mono ?_
    rintro e v ⟨rfl, hb⟩
    rw [HN.out]
    replace ha := ha.below hb
    replace hD := hD.below hb
    replace b_p := b_p.below hb
    replace b_p1 := b_p1.below hb
    replace hbel := hbel.trans (hb.mono hbel.size)
    clear hb
    have c0 := b_p.at_ 0 rfl
    have c1 := b_p.at_ 1 rfl
    go_wp2_with fail
    refine (implSetAccumulator xB xZ.length (-y) v b (i64_of (by omega) (by omega)) (i64_of (by omega) (by omega)) hD).mono ?_
    rintro e v2 ⟨A, C, rfl, own, hb⟩
    rw [← HR.out] at own ⊢
    clear c0 c1
    have hpl : p + 1 < v.heap.size := b_p1.lt
    have hvs := hb.size
    replace ha := ha.below hb
    replace hD := hD.below hb
    replace b_p := b_p.below hb
    replace b_p1 := b_p1.below hb
    replace hbel := hbel.trans (hb.mono hbel.size)
    clear hb
    have r0 := b_p1.at_ 0 rfl
    have r1 := b_p1.at_ 1 rfl
    have f0 := b_p1.thaw 0
    have f1 := b_p1.thaw 1
    have hs := b_p1.lt
    have hbs := hbel.size
    go_wp2
    exact bodyPost_ret (v := .tuple #[.agg #[.int .i64 (negR xB xZ).1, .slice A (negR xB xZ).2.1.length C], .int .i64 (negR xB xZ).2.2]) (by simp [results, go_sem, r0, r1]) rfl
      ⟨A, C, rfl, ((own.setCell (p := ⟨p + 1, 0, none⟩) (.inl hpl) _).setCell (p := ⟨p + 1, 1, none⟩) (.inl hpl) _).wide (by have := hk_p; omega) (by simp), (by repeat (first | with_reducible exact hbel | with_reducible refine Below.setCell ?_ (by first | omega | (simp <;> omega)) _ | with_reducible refine Below.alloc ?_ (by first | omega | (simp <;> omega)) _ | with_reducible refine Below.drew ?_))⟩
end Go.Proofs.YtlahobdopmdfmaaDoor

/- WidI -/
namespace Go.Proofs.YtlahobdopmdfmaaDoor
open Go.RowKit

set_option maxRecDepth 100000 in
set_option maxHeartbeats 4000000 in
theorem implWidenAccumulator (xB : Int) (xA : Option Addr) (xC : Nat) (xZ : List Int) (n : Int) (w : World) (ha : Rd w xA xZ) (z : All64 xZ) (b : I64 xB) (_ : I64 n) (hD : BellD w) :
    Calls Tryd.prog 36 #[.agg #[.int .i64 xB, .slice xA xZ.length xC], .int .i64 n] w (RegC (widR xB xZ n) w) := by
  have R := Tryd.results36
  have hbel : Below w.heap.size w w := Below.refl _ _
  have hlx := ha.len
  cases h : accB xB xZ with
  | false =>
    have HR := Lib.hid (show widR xB xZ n = (0, [], 1) by simp [widR, h])
    have HN := Lib.hid (show numR xB xZ = (0, 1) by simp [numR, h])
    clear h
    go_enter Tryd.func36, Tryd.ntmps36
    go_wp2_with fail
    obtain ⟨p, hp⟩ : ∃ g, g = w.heap.size := ⟨_, rfl⟩
    have hk_p : w.heap.size ≤ p := Nat.le_of_eq hp.symm
    obtain ⟨u, hu⟩ : ∃ V, V = (w.alloc (.cells #[.int .i64 xB, .slice xA xZ.length xC] 26)).alloc (.cells #[.int .i64 0, .slice none 0 0] 26) := ⟨_, rfl⟩
    have b_p : Bx u p 26 #[.int .i64 xB, .slice xA xZ.length xC] := by rw [hu, hp]; exact (Bx.new _ _ _).alloc _
    have b_p1 : Bx u (p + 1) 26 #[.int .i64 0, .slice none 0 0] := by rw [hu, hp]; simpa using Bx.new (w.alloc (.cells #[.int .i64 xB, .slice xA xZ.length xC] 26)) #[.int .i64 0, .slice none 0 0] 26
    have hb : Below w.heap.size w u := by rw [hu]; exact ((Below.refl _ _).alloc (Nat.le_refl _) _).alloc (by simp) _
    rw [← hp, ← hu]
    clear hu hp
    replace ha := ha.below hb
    replace hD := hD.below hb
    replace hbel := hbel.trans (hb.mono hbel.size)
    clear hb
    refine (implNumberOf xB xA xC xZ u ha z b hD).mono ?_
    rintro e v ⟨rfl, hb⟩
    rw [HN.out]
    replace ha := ha.below hb
    replace hD := hD.below hb
    replace b_p := b_p.below hb
    replace b_p1 := b_p1.below hb
    replace hbel := hbel.trans (hb.mono hbel.size)
    clear hb
    have r0 := b_p1.at_ 0 rfl
    have r1 := b_p1.at_ 1 rfl
    have f0 := b_p1.thaw 0
    have f1 := b_p1.thaw 1
    have hs := b_p1.lt
    have hbs := hbel.size
    go_wp2
    exact bodyPost_ret (v := .tuple #[.agg #[.int .i64 0, .slice none 0 0], .int .i64 1]) (by simp [results, go_sem, r0, r1]) rfl
      (regC_err HR.out rfl (by repeat (first | with_reducible exact hbel | with_reducible refine Below.setCell ?_ (by first | omega | (simp <;> omega)) _ | with_reducible refine Below.alloc ?_ (by first | omega | (simp <;> omega)) _ | with_reducible refine Below.drew ?_)))
  | true =>
    have HN := Lib.hid (show numR xB xZ = (numA xB xZ, 0) by simp [numR, h])
    have hlen := (okB_spec (accB_spec h).1).2.2.2.1
    have hlen0 := (okB_spec (accB_spec h).1).2.2.1
    cases hn : inB n xZ.length 16 with
    | false =>
      have HR := Lib.hid (show widR xB xZ n = (0, [], 2) by rw [widR, if_pos h, if_neg (by have := inB_false hn; omega)])
      have HI := Lib.hid hn
      clear h hn
      go_enter Tryd.func36, Tryd.ntmps36
      go_wp2_with fail
      obtain ⟨p, hp⟩ : ∃ g, g = w.heap.size := ⟨_, rfl⟩
      have hk_p : w.heap.size ≤ p := Nat.le_of_eq hp.symm
      obtain ⟨u, hu⟩ : ∃ V, V = (w.alloc (.cells #[.int .i64 xB, .slice xA xZ.length xC] 26)).alloc (.cells #[.int .i64 0, .slice none 0 0] 26) := ⟨_, rfl⟩
      have b_p : Bx u p 26 #[.int .i64 xB, .slice xA xZ.length xC] := by rw [hu, hp]; exact (Bx.new _ _ _).alloc _
      have b_p1 : Bx u (p + 1) 26 #[.int .i64 0, .slice none 0 0] := by rw [hu, hp]; simpa using Bx.new (w.alloc (.cells #[.int .i64 xB, .slice xA xZ.length xC] 26)) #[.int .i64 0, .slice none 0 0] 26
      have hb : Below w.heap.size w u := by rw [hu]; exact ((Below.refl _ _).alloc (Nat.le_refl _) _).alloc (by simp) _
      rw [← hp, ← hu]
      clear hu hp
      replace ha := ha.below hb
      replace hD := hD.below hb
      replace hbel := hbel.trans (hb.mono hbel.size)
      clear hb
      refine (implNumberOf xB xA xC xZ u ha z b hD).mono ?_
      rintro e v ⟨rfl, hb⟩
      rw [HN.out]
      replace ha := ha.below hb
      replace hD := hD.below hb
      replace b_p := b_p.below hb
      replace b_p1 := b_p1.below hb
      replace hbel := hbel.trans (hb.mono hbel.size)
      clear hb
      have c0 := b_p.at_ 0 rfl
      have c1 := b_p.at_ 1 rfl
      go_wp2_with fail
      obtain ⟨V, hV⟩ : ∃ V, V = v.alloc (.cells #[.int .i64 n] 2) := ⟨_, rfl⟩
      have hb : Below v.heap.size v V := by rw [hV]; exact (Below.refl _ _).alloc (Nat.le_refl _) _
      have hVc : V.cell? ⟨v.heap.size, 0, none⟩ = some (.int .i64 n) := by rw [hV]; exact (Bx.new v #[.int .i64 n] 2).at_ 0 rfl
      rw [← hV]
      clear c0 c1 hV
      refine (within1_at xZ.length 16 n V v.heap.size 1 hVc).mono ?_
      rintro e v2 ⟨rfl, hw⟩
      subst v2
      rw [HI.out]
      replace ha := ha.below hb
      replace hD := hD.below hb
      replace b_p := b_p.below hb
      replace b_p1 := b_p1.below hb
      replace hbel := hbel.trans (hb.mono hbel.size)
      clear hb
      clear hVc
      go_upto_region 5 with fail
      have r0 := b_p1.at_ 0 rfl
      have r1 := b_p1.at_ 1 rfl
      have f0 := b_p1.thaw 0
      have f1 := b_p1.thaw 1
      have hs := b_p1.lt
      have hbs := hbel.size
      go_wp2
      exact bodyPost_ret (v := .tuple #[.agg #[.int .i64 0, .slice none 0 0], .int .i64 2]) (by simp [results, go_sem, r0, r1]) rfl
        (regC_err HR.out rfl (by repeat (first | with_reducible exact hbel | with_reducible refine Below.setCell ?_ (by first | omega | (simp <;> omega)) _ | with_reducible refine Below.alloc ?_ (by first | omega | (simp <;> omega)) _ | with_reducible refine Below.drew ?_)))
    | true =>
      obtain ⟨n1, n2⟩ := inB_true hn
      have HI := Lib.hid hn
      cases hf : fullB xB n with
      | false =>
        have HR := Lib.hid (show widR xB xZ n = (0, [], 5) by rw [widR, if_pos h, if_pos ⟨n1, n2⟩, hf]; rfl)
        have HO := Lib.hid (fun w => circle_no xB n w hf)
        clear h hn hf
        go_enter Tryd.func36, Tryd.ntmps36
        go_wp2_with fail
        obtain ⟨p, hp⟩ : ∃ g, g = w.heap.size := ⟨_, rfl⟩
        have hk_p : w.heap.size ≤ p := Nat.le_of_eq hp.symm
        obtain ⟨u, hu⟩ : ∃ V, V = (w.alloc (.cells #[.int .i64 xB, .slice xA xZ.length xC] 26)).alloc (.cells #[.int .i64 0, .slice none 0 0] 26) := ⟨_, rfl⟩
        have b_p : Bx u p 26 #[.int .i64 xB, .slice xA xZ.length xC] := by rw [hu, hp]; exact (Bx.new _ _ _).alloc _
        have b_p1 : Bx u (p + 1) 26 #[.int .i64 0, .slice none 0 0] := by rw [hu, hp]; simpa using Bx.new (w.alloc (.cells #[.int .i64 xB, .slice xA xZ.length xC] 26)) #[.int .i64 0, .slice none 0 0] 26
        have hb : Below w.heap.size w u := by rw [hu]; exact ((Below.refl _ _).alloc (Nat.le_refl _) _).alloc (by simp) _
        rw [← hp, ← hu]
        clear hu hp
        replace ha := ha.below hb
        replace hD := hD.below hb
        replace hbel := hbel.trans (hb.mono hbel.size)
        clear hb
        refine (implNumberOf xB xA xC xZ u ha z b hD).mono ?_
        rintro e v ⟨rfl, hb⟩
        rw [HN.out]
        replace ha := ha.below hb
        replace hD := hD.below hb
        replace b_p := b_p.below hb
        replace b_p1 := b_p1.below hb
        replace hbel := hbel.trans (hb.mono hbel.size)
        clear hb
        have c0 := b_p.at_ 0 rfl
        have c1 := b_p.at_ 1 rfl
        go_wp2_with fail
        obtain ⟨V, hV⟩ : ∃ V, V = v.alloc (.cells #[.int .i64 n] 2) := ⟨_, rfl⟩
        have hb : Below v.heap.size v V := by rw [hV]; exact (Below.refl _ _).alloc (Nat.le_refl _) _
        have hVc : V.cell? ⟨v.heap.size, 0, none⟩ = some (.int .i64 n) := by rw [hV]; exact (Bx.new v #[.int .i64 n] 2).at_ 0 rfl
        rw [← hV]
        clear c0 c1 hV
        refine (within1_at xZ.length 16 n V v.heap.size 1 hVc).mono ?_
        rintro e v2 ⟨rfl, hw⟩
        subst v2
        rw [HI.out]
        replace ha := ha.below hb
        replace hD := hD.below hb
        replace b_p := b_p.below hb
        replace b_p1 := b_p1.below hb
        replace hbel := hbel.trans (hb.mono hbel.size)
        clear hb
        clear hVc
        have c0 := b_p.at_ 0 rfl
        have c1 := b_p.at_ 1 rfl
        go_wp2_with fail
        refine (HO.out V).mono ?_
        rintro e v2 ⟨rfl, hb⟩
        clear c0 c1
        replace ha := ha.below hb
        replace hD := hD.below hb
        replace b_p := b_p.below hb
        replace b_p1 := b_p1.below hb
        replace hbel := hbel.trans (hb.mono hbel.size)
        clear hb
        go_upto_region 7 with fail
        obtain ⟨q, hq⟩ : ∃ g, g = v2.heap.size := ⟨_, rfl⟩
        have hk_q : v2.heap.size ≤ q := Nat.le_of_eq hq.symm
        obtain ⟨u2, hu2⟩ : ∃ V, V = v2.alloc (.cells #[.int .i64 0, .int .i64 0, .int .i64 0] 113) := ⟨_, rfl⟩
        have b_q : Bx u2 q 113 #[.int .i64 0, .int .i64 0, .int .i64 0] := by rw [hu2, hq]; exact Bx.new _ _ _
        have hb : Below v2.heap.size v2 u2 := by rw [hu2]; exact (Below.refl _ _).alloc (Nat.le_refl _) _
        rw [← hq, ← hu2]
        clear hu2 hq
        replace ha := ha.below hb
        replace hD := hD.below hb
        replace b_p := b_p.below hb
        replace b_p1 := b_p1.below hb
        replace hbel := hbel.trans (hb.mono hbel.size)
        clear hb
        have r0 := b_p1.at_ 0 rfl
        have r1 := b_p1.at_ 1 rfl
        have f0 := b_p1.thaw 0
        have f1 := b_p1.thaw 1
        have hs := b_p1.lt
        have hbs := hbel.size
        go_wp2
        exact bodyPost_ret (v := .tuple #[.agg #[.int .i64 0, .slice none 0 0], .int .i64 5]) (by simp [results, go_sem, r0, r1]) rfl
          (regC_err HR.out rfl (by repeat (first | with_reducible exact hbel | with_reducible refine Below.setCell ?_ (by first | omega | (simp <;> omega)) _ | with_reducible refine Below.alloc ?_ (by first | omega | (simp <;> omega)) _ | with_reducible refine Below.drew ?_)))
      | true =>
        have HR := Lib.hid (show widR xB xZ n = (xB, setA xB n (numA xB xZ), 0) by rw [widR, if_pos h, if_pos ⟨n1, n2⟩, if_pos hf])
        have HO := Lib.hid (fun w => circle_ok xB n w hf)
        have HG := Lib.hid hf
        clear h hn hf
        go_enter Tryd.func36, Tryd.ntmps36
        go_wp2_with fail
        obtain ⟨p, hp⟩ : ∃ g, g = w.heap.size := ⟨_, rfl⟩
        have hk_p : w.heap.size ≤ p := Nat.le_of_eq hp.symm
        obtain ⟨u, hu⟩ : ∃ V, V = (w.alloc (.cells #[.int .i64 xB, .slice xA xZ.length xC] 26)).alloc (.cells #[.int .i64 0, .slice none 0 0] 26) := ⟨_, rfl⟩
        have b_p : Bx u p 26 #[.int .i64 xB, .slice xA xZ.length xC] := by rw [hu, hp]; exact (Bx.new _ _ _).alloc _
        have b_p1 : Bx u (p + 1) 26 #[.int .i64 0, .slice none 0 0] := by rw [hu, hp]; simpa using Bx.new (w.alloc (.cells #[.int .i64 xB, .slice xA xZ.length xC] 26)) #[.int .i64 0, .slice none 0 0] 26
        have hb : Below w.heap.size w u := by rw [hu]; exact ((Below.refl _ _).alloc (Nat.le_refl _) _).alloc (by simp) _
        rw [← hp, ← hu]
        clear hu hp
        replace ha := ha.below hb
        replace hD := hD.below hb
        replace hbel := hbel.trans (hb.mono hbel.size)
        clear hb
        refine (implNumberOf xB xA xC xZ u ha z b hD).mono ?_
        rintro e v ⟨rfl, hb⟩
        rw [HN.out]
        replace ha := ha.below hb
        replace hD := hD.below hb
        replace b_p := b_p.below hb
        replace b_p1 := b_p1.below hb
        replace hbel := hbel.trans (hb.mono hbel.size)
        clear hb
        have c0 := b_p.at_ 0 rfl
        have c1 := b_p.at_ 1 rfl
        go_wp2_with fail
        obtain ⟨V, hV⟩ : ∃ V, V = v.alloc (.cells #[.int .i64 n] 2) := ⟨_, rfl⟩
        have hb : Below v.heap.size v V := by rw [hV]; exact (Below.refl _ _).alloc (Nat.le_refl _) _
        have hVc : V.cell? ⟨v.heap.size, 0, none⟩ = some (.int .i64 n) := by rw [hV]; exact (Bx.new v #[.int .i64 n] 2).at_ 0 rfl
        rw [← hV]
        clear c0 c1 hV
        refine (within1_at xZ.length 16 n V v.heap.size 1 hVc).mono ?_
        rintro e v2 ⟨rfl, hw⟩
        subst v2
        rw [HI.out]
        replace ha := ha.below hb
        replace hD := hD.below hb
        replace b_p := b_p.below hb
        replace b_p1 := b_p1.below hb
        replace hbel := hbel.trans (hb.mono hbel.size)
        clear hb
        clear hVc
        have c0 := b_p.at_ 0 rfl
        have c1 := b_p.at_ 1 rfl
        go_wp2_with fail
        refine (HO.out V).mono ?_
        rintro e v2 ⟨rfl, hb⟩
        clear c0 c1
        replace ha := ha.below hb
        replace hD := hD.below hb
        replace b_p := b_p.below hb
        replace b_p1 := b_p1.below hb
        replace hbel := hbel.trans (hb.mono hbel.size)
        clear hb
        go_upto_region 7 with fail
        obtain ⟨q, hq⟩ : ∃ g, g = v2.heap.size := ⟨_, rfl⟩
        have hk_q : v2.heap.size ≤ q := Nat.le_of_eq hq.symm
        obtain ⟨u2, hu2⟩ : ∃ V, V = v2.alloc (.cells #[.int .i64 xB, .int .i64 n, .int .i64 (cntA xB n)] 113) := ⟨_, rfl⟩
        have b_q : Bx u2 q 113 #[.int .i64 xB, .int .i64 n, .int .i64 (cntA xB n)] := by rw [hu2, hq]; exact Bx.new _ _ _
        have hb : Below v2.heap.size v2 u2 := by rw [hu2]; exact (Below.refl _ _).alloc (Nat.le_refl _) _
        rw [← hq, ← hu2]
        clear hu2 hq
        replace ha := ha.below hb
        replace hD := hD.below hb
        replace b_p := b_p.below hb
        replace b_p1 := b_p1.below hb
        replace hbel := hbel.trans (hb.mono hbel.size)
        clear hb
        have c0 := b_q.at_ 0 rfl
        have c1 := b_q.at_ 1 rfl
        have c2 := b_q.at_ 2 rfl
        go_wp2_with fail
        refine (register_any xB n (numA xB xZ) u2 HG.out).mono ?_
        rintro e v3 ⟨A, C, rfl, own, hb⟩
        clear c0 c1 c2
        have hpl : p + 1 < u2.heap.size := b_p1.lt
        have hvs := hb.size
        replace ha := ha.below hb
        replace hD := hD.below hb
        replace b_p := b_p.below hb
        replace b_p1 := b_p1.below hb
        replace b_q := b_q.below hb
        replace hbel := hbel.trans (hb.mono hbel.size)
        clear hb
        have r0 := b_p1.at_ 0 rfl
        have r1 := b_p1.at_ 1 rfl
        have f0 := b_p1.thaw 0
        have f1 := b_p1.thaw 1
        have hs := b_p1.lt
        have hbs := hbel.size
        go_wp2
        exact bodyPost_ret (v := .tuple #[.agg #[.int .i64 xB, .slice A (setA xB n (numA xB xZ)).length C], .int .i64 0]) (by simp [results, go_sem, r0, r1]) rfl
          (regC_ok HR.out rfl ((own.setCell (p := ⟨p + 1, 0, none⟩) (.inl (by simp; omega)) _).setCell (p := ⟨p + 1, 1, none⟩) (.inl (by simp; omega)) _) (by have := hk_p; omega) (by simp) (by repeat (first | with_reducible exact hbel | with_reducible refine Below.setCell ?_ (by first | omega | (simp <;> omega)) _ | with_reducible refine Below.alloc ?_ (by first | omega | (simp <;> omega)) _ | with_reducible refine Below.drew ?_)))
end Go.Proofs.YtlahobdopmdfmaaDoor

/- NegS -/
namespace Go.Proofs.YtlahobdopmdfmaaDoor
open Go.RowKit

set_option maxRecDepth 100000 in
set_option maxHeartbeats 4000000 in
theorem specNegateAccumulator (xB : Int) (xA : Option Addr) (xC : Nat) (xZ : List Int) (w : World) (ha : Rd w xA xZ) (_ : All64 xZ) (b : I64 xB) :
    Calls Tryd.prog 34 #[.agg #[.int .i64 xB, .slice xA xZ.length xC]] w (RegC (negR xB xZ) w) := by
  have R := Tryd.results34
  have hbel : Below w.heap.size w w := Below.refl _ _
  cases h : accB xB xZ with
  | false =>
    have HR := Lib.hid (show negR xB xZ = (0, [], 1) by simp [negR, h])
    go_enter Tryd.func34, Tryd.ntmps34
    go_wp2_with fail
    obtain ⟨p, hp⟩ : ∃ g, g = w.heap.size := ⟨_, rfl⟩
    have hk_p : w.heap.size ≤ p := Nat.le_of_eq hp.symm
    obtain ⟨u, hu⟩ : ∃ V, V = (w.alloc (.cells #[.int .i64 xB, .slice xA xZ.length xC] 26)).alloc (.cells #[.int .i64 0, .slice none 0 0] 26) := ⟨_, rfl⟩
    have b_p : Bx u p 26 #[.int .i64 xB, .slice xA xZ.length xC] := by rw [hu, hp]; exact (Bx.new _ _ _).alloc _
    have b_p1 : Bx u (p + 1) 26 #[.int .i64 0, .slice none 0 0] := by rw [hu, hp]; simpa using Bx.new (w.alloc (.cells #[.int .i64 xB, .slice xA xZ.length xC] 26)) #[.int .i64 0, .slice none 0 0] 26
    have hb : Below w.heap.size w u := by rw [hu]; exact ((Below.refl _ _).alloc (Nat.le_refl _) _).alloc (by simp) _
    rw [← hp, ← hu]
    clear hu hp
    replace ha := ha.below hb
    replace hbel := hbel.trans (hb.mono hbel.size)
    clear hb
    refine (l09Ok_at p xB xA xC xZ u h ha (b_p.at_ 0 rfl) (b_p.at_ 1 rfl)).mono ?_
    rintro e v ⟨rfl, hb⟩
    replace ha := ha.below hb
    replace b_p := b_p.below hb
    replace b_p1 := b_p1.below hb
    replace hbel := hbel.trans (hb.mono hbel.size)
    clear hb
    have r0 := b_p1.at_ 0 rfl
    have r1 := b_p1.at_ 1 rfl
    have f0 := b_p1.thaw 0
    have f1 := b_p1.thaw 1
    have hs := b_p1.lt
    have hbs := hbel.size
    clear h
    go_wp2
    exact bodyPost_ret (v := .tuple #[.agg #[.int .i64 0, .slice none 0 0], .int .i64 1]) (by simp [results, go_sem, r0, r1]) rfl
      (regC_err HR.out rfl (by repeat (first | with_reducible exact hbel | with_reducible refine Below.setCell ?_ (by first | omega | (simp <;> omega)) _ | with_reducible refine Below.alloc ?_ (by first | omega | (simp <;> omega)) _ | with_reducible refine Below.drew ?_)))
  | true =>
    have hf := accB_full h
    have hc := cntA_bd hf
    have hi := numA_in h
    have HR := Lib.hid (show negR xB xZ = setAR xB xZ.length (-(numA xB xZ)) by simp [negR, h])
    have hlen := (okB_spec (accB_spec h).1).2.2.2.1
    have H := Lib.hid h
    obtain ⟨y, hy⟩ : ∃ y, y = numA xB xZ := ⟨_, rfl⟩
    have HY := Lib.hid hy.symm
    rw [← hy] at HR hi
    have hy1 : -1000000000001 ≤ y ∧ y ≤ 1000000000001 := by omega
    have hw1 : IntKind.i64.wrap (-y) = -y := IntWalk.i64_in _ (by omega)
    have hw2 : wrap64 (-y) = -y := by unfold wrap64; omega
    clear hy hi hc hf h
    go_enter Tryd.func34, Tryd.ntmps34
    go_wp2_with fail
    obtain ⟨p, hp⟩ : ∃ g, g = w.heap.size := ⟨_, rfl⟩
    have hk_p : w.heap.size ≤ p := Nat.le_of_eq hp.symm
    obtain ⟨u, hu⟩ : ∃ V, V = (w.alloc (.cells #[.int .i64 xB, .slice xA xZ.length xC] 26)).alloc (.cells #[.int .i64 0, .slice none 0 0] 26) := ⟨_, rfl⟩
    have b_p : Bx u p 26 #[.int .i64 xB, .slice xA xZ.length xC] := by rw [hu, hp]; exact (Bx.new _ _ _).alloc _
    have b_p1 : Bx u (p + 1) 26 #[.int .i64 0, .slice none 0 0] := by rw [hu, hp]; simpa using Bx.new (w.alloc (.cells #[.int .i64 xB, .slice xA xZ.length xC] 26)) #[.int .i64 0, .slice none 0 0] 26
    have hb : Below w.heap.size w u := by rw [hu]; exact ((Below.refl _ _).alloc (Nat.le_refl _) _).alloc (by simp) _
    rw [← hp, ← hu]
    clear hu hp
    replace ha := ha.below hb
    replace hbel := hbel.trans (hb.mono hbel.size)
    clear hb
    refine (l09Ok_at p xB xA xC xZ u H.out ha (b_p.at_ 0 rfl) (b_p.at_ 1 rfl)).mono ?_
    rintro e v ⟨rfl, hb⟩
    replace ha := ha.below hb
    replace b_p := b_p.below hb
    replace b_p1 := b_p1.below hb
    replace hbel := hbel.trans (hb.mono hbel.size)
    clear hb
    go_upto_region 3 with fail
    have k0 := kept_all (b_p.at_ 0 rfl)
    have k1 := kept_all (b_p.at_ 1 rfl)
    have hS : Below v.heap.size v v.drew := (Below.refl _ _).drew
    refine wp_region_marked (fun w' => Below v.heap.size v w') 10 (by kernel_rfl) ?_
    refine wpAnyM_take (i := 0) (v := ?_) rfl (by kernel_rfl) (by kernel_rfl) (by kernel_rfl) (by kernel_rfl) (by kernel_rfl) (fun _ _ _ h => h) hS (.inl ⟨by rfl, ?_⟩) ?_
    rotate_left 1
    · intro w' hS'; go_simp; try with_reducible rfl
    simp only [Act.put, List.setIfInBounds_toArray, List.set_cons_succ, List.set_cons_zero, List.getElem_toArray, List.getElem_cons_zero]
    refine wpAnyM_take (i := 1) (v := ?_) rfl (by kernel_rfl) (by kernel_rfl) (by kernel_rfl) (by kernel_rfl) (by kernel_rfl) (fun _ _ _ h => h) hS (.inl ⟨by rfl, ?_⟩) ?_
    rotate_left 1
    · intro w' hS'; go_simp; try with_reducible rfl
    simp only [Act.put, List.setIfInBounds_toArray, List.set_cons_succ, List.set_cons_zero, List.getElem_toArray, List.getElem_cons_succ, List.getElem_cons_zero]
    refine wpAnyM_take (i := 2) (v := ?_) rfl (by kernel_rfl) (by kernel_rfl) (by kernel_rfl) (by kernel_rfl) (by kernel_rfl) (fun _ _ _ h => h) hS (.inl ⟨by rfl, ?_⟩) ?_
    rotate_left 1
    · intro w' hS'; go_simp; try with_reducible rfl
    simp only [Act.put, List.setIfInBounds_toArray, List.set_cons_succ, List.set_cons_zero, List.getElem_toArray, List.getElem_cons_succ, List.getElem_cons_zero]
    refine wpAnyM_take (i := 3) (v := ?_) rfl (by kernel_rfl) (by kernel_rfl) (by kernel_rfl) (by kernel_rfl) (by kernel_rfl) (fun _ _ _ h => h) hS (.inl ⟨by rfl, ?_⟩) ?_
    rotate_left 1
    · intro w' hS'; go_simp; try with_reducible rfl
    simp only [Act.put, List.setIfInBounds_toArray, List.set_cons_succ, List.set_cons_zero, List.getElem_toArray, List.getElem_cons_succ, List.getElem_cons_zero]
    refine wpAnyM_take (i := 4) (v := ?_) rfl (by kernel_rfl) (by kernel_rfl) (by kernel_rfl) (by kernel_rfl) (by kernel_rfl) (fun _ _ _ h => h) hS (.inl ⟨by rfl, ?_⟩) ?_
    rotate_left 1
    · intro w' hS'; go_simp; try with_reducible rfl
    simp only [Act.put, List.setIfInBounds_toArray, List.set_cons_succ, List.set_cons_zero, List.getElem_toArray, List.getElem_cons_succ, List.getElem_cons_zero]
    refine wpAnyM_one (i := 5) (by kernel_rfl) rfl (by rfl) (fun K hK => ?_)
    go_simp
    refine (l09Number_any p xB xA xC xZ v.drew H.out (ha.below hS) (k0 _ hS) (k1 _ hS)).mono ?_
    rintro e M ⟨rfl, hb⟩
    rw [HY.out]
    replace hS : Below v.heap.size v M := hS.trans (hb.mono hS.size)
    refine hK _ _ (.inr hS) ?_
    try simp only [Act.put, List.setIfInBounds_toArray, List.set_cons_succ, List.set_cons_zero, List.getElem_toArray, List.getElem_cons_succ, List.getElem_cons_zero]
    clear hK K hb
    refine wpAnyM_take (i := 6) (v := ?_) rfl (by kernel_rfl) (by kernel_rfl) (by kernel_rfl) (by kernel_rfl) (by kernel_rfl) (fun _ _ _ h => h) hS (.inl ⟨by rfl, ?_⟩) ?_
    rotate_left 1
    · intro w' hS'; go_simp; try with_reducible rfl
    simp only [Act.put, List.setIfInBounds_toArray, List.set_cons_succ, List.set_cons_zero, List.getElem_toArray, List.getElem_cons_succ, List.getElem_cons_zero]
    refine wpAnyM_one (i := 7) (by kernel_rfl) rfl (by rfl) (fun K hK => ?_)
    go_simp
    refine (specSetAccumulator xB xZ.length (-y) M b (i64_of (by omega) (by omega)) (i64_of (by omega) (by omega))).mono ?_
    rintro e N ⟨A, C, rfl, own, hb⟩
    rw [← HR.out] at own ⊢
    have hvM := hS.size
    replace hS : Below v.heap.size v N := hS.trans (hb.mono hS.size)
    have hvs := hb.size
    refine hK _ _ (.inr hS) ?_
    try simp only [Act.put, List.setIfInBounds_toArray, List.set_cons_succ, List.set_cons_zero, List.getElem_toArray, List.getElem_cons_succ, List.getElem_cons_zero]
    clear hK K hb
    refine wpAnyM_take (i := 8) (v := ?_) rfl (by kernel_rfl) (by kernel_rfl) (by kernel_rfl) (by kernel_rfl) (by kernel_rfl) (fun _ _ _ h => h) hS (.inl ⟨by rfl, ?_⟩) ?_
    rotate_left 1
    · intro w' hS'; go_simp; try with_reducible rfl
    simp only [Act.put, List.setIfInBounds_toArray, List.set_cons_succ, List.set_cons_zero, List.getElem_toArray, List.getElem_cons_succ, List.getElem_cons_zero]
    refine wpAnyM_take (i := 9) (v := ?_) rfl (by kernel_rfl) (by kernel_rfl) (by kernel_rfl) (by kernel_rfl) (by kernel_rfl) (fun _ _ _ h => h) hS (.inl ⟨by rfl, ?_⟩) ?_
    rotate_left 1
    · intro w' hS'; go_simp; try with_reducible rfl
    simp only [Act.put, List.setIfInBounds_toArray, List.set_cons_succ, List.set_cons_zero, List.getElem_toArray, List.getElem_cons_succ, List.getElem_cons_zero]
    have hpl : p + 1 < v.heap.size := b_p1.lt
    replace b_p1 := b_p1.below hS
    replace hbel := hbel.trans (hS.mono hbel.size)
    have r0 := b_p1.at_ 0 rfl
    have r1 := b_p1.at_ 1 rfl
    have f0 := b_p1.thaw 0
    have f1 := b_p1.thaw 1
    have hs := b_p1.lt
    have hbs := hbel.size
    refine wpAnyM_one (i := 10) (by kernel_rfl) rfl (by rfl) (fun K hK => ?_)
    go_simp
    refine hK _ _ (.inl rfl) ?_
    try simp only [Act.put, List.setIfInBounds_toArray, List.set_cons_succ, List.set_cons_zero, List.getElem_toArray, List.getElem_cons_succ, List.getElem_cons_zero]
    clear hK K
    refine wpAnyM_one (i := 11) (by kernel_rfl) rfl (by rfl) (fun K hK => ?_)
    go_simp
    refine hK _ _ (.inl rfl) ?_
    clear hK K
    refine wpAnyM_done (by kernel_rfl) ?_ _
    try simp only [Act.put, List.setIfInBounds_toArray, List.set_cons_succ, List.set_cons_zero, List.getElem_toArray, List.getElem_cons_succ, List.getElem_cons_zero]
    go_wp2
    exact bodyPost_ret (v := .tuple #[.agg #[.int .i64 (negR xB xZ).1, .slice A (negR xB xZ).2.1.length C], .int .i64 (negR xB xZ).2.2]) (by simp [results, go_sem, r0, r1]) rfl
      ⟨A, C, rfl, ((own.setCell (p := ⟨p + 1, 0, none⟩) (.inl (by simp; omega)) _).setCell (p := ⟨p + 1, 1, none⟩) (.inl (by simp; omega)) _).wide (by have := hk_p; omega) (by simp), (by repeat (first | with_reducible exact hbel | with_reducible refine Below.setCell ?_ (by first | omega | (simp <;> omega)) _ | with_reducible refine Below.alloc ?_ (by first | omega | (simp <;> omega)) _ | with_reducible refine Below.drew ?_))⟩

set_option maxRecDepth 100000 in
set_option maxHeartbeats 4000000 in
theorem specWidenAccumulator (xB : Int) (xA : Option Addr) (xC : Nat) (xZ : List Int) (n : Int) (w : World) (ha : Rd w xA xZ) (_ : All64 xZ) (_ : I64 xB) (_ : I64 n) :
    Calls Tryd.prog 37 #[.agg #[.int .i64 xB, .slice xA xZ.length xC], .int .i64 n] w (RegC (widR xB xZ n) w) := by
  have R := Tryd.results37
  have hbel : Below w.heap.size w w := Below.refl _ _
  have hlx := ha.len
  cases h : accB xB xZ with
  | false =>
    have HR := Lib.hid (show widR xB xZ n = (0, [], 1) by simp [widR, h])
    have H := Lib.hid h
    clear h
    go_enter Tryd.func37, Tryd.ntmps37
    go_wp2_with fail
    obtain ⟨p, hp⟩ : ∃ g, g = w.heap.size := ⟨_, rfl⟩
    have hk_p : w.heap.size ≤ p := Nat.le_of_eq hp.symm
    obtain ⟨u, hu⟩ : ∃ V, V = (w.alloc (.cells #[.int .i64 xB, .slice xA xZ.length xC] 26)).alloc (.cells #[.int .i64 0, .slice none 0 0] 26) := ⟨_, rfl⟩
    have b_p : Bx u p 26 #[.int .i64 xB, .slice xA xZ.length xC] := by rw [hu, hp]; exact (Bx.new _ _ _).alloc _
    have b_p1 : Bx u (p + 1) 26 #[.int .i64 0, .slice none 0 0] := by rw [hu, hp]; simpa using Bx.new (w.alloc (.cells #[.int .i64 xB, .slice xA xZ.length xC] 26)) #[.int .i64 0, .slice none 0 0] 26
    have hb : Below w.heap.size w u := by rw [hu]; exact ((Below.refl _ _).alloc (Nat.le_refl _) _).alloc (by simp) _
    rw [← hp, ← hu]
    clear hu hp
    replace ha := ha.below hb
    replace hbel := hbel.trans (hb.mono hbel.size)
    clear hb
    refine (l09Ok_at p xB xA xC xZ u H.out ha (b_p.at_ 0 rfl) (b_p.at_ 1 rfl)).mono ?_
    rintro e v ⟨rfl, hb⟩
    replace ha := ha.below hb
    replace b_p := b_p.below hb
    replace b_p1 := b_p1.below hb
    replace hbel := hbel.trans (hb.mono hbel.size)
    clear hb
    have r0 := b_p1.at_ 0 rfl
    have r1 := b_p1.at_ 1 rfl
    have f0 := b_p1.thaw 0
    have f1 := b_p1.thaw 1
    have hs := b_p1.lt
    have hbs := hbel.size
    go_wp2
    exact bodyPost_ret (v := .tuple #[.agg #[.int .i64 0, .slice none 0 0], .int .i64 1]) (by simp [results, go_sem, r0, r1]) rfl
      (regC_err HR.out rfl (by repeat (first | with_reducible exact hbel | with_reducible refine Below.setCell ?_ (by first | omega | (simp <;> omega)) _ | with_reducible refine Below.alloc ?_ (by first | omega | (simp <;> omega)) _ | with_reducible refine Below.drew ?_)))
  | true =>
    have H := Lib.hid h
    have hlen := (okB_spec (accB_spec h).1).2.2.2.1
    have hlen0 := (okB_spec (accB_spec h).1).2.2.1
    have hB := (okB_spec (accB_spec h).1).1
    have hB2 := (okB_spec (accB_spec h).1).2.1
    cases hn : inB n xZ.length 16 with
    | false =>
      have HR := Lib.hid (show widR xB xZ n = (0, [], 2) by rw [widR, if_pos h, if_neg (by have := inB_false hn; omega)])
      have HI := Lib.hid (fun w => l00In_false n xZ.length 16 w (inB_false hn))
      clear h hn
      go_enter Tryd.func37, Tryd.ntmps37
      go_wp2_with fail
      obtain ⟨p, hp⟩ : ∃ g, g = w.heap.size := ⟨_, rfl⟩
      have hk_p : w.heap.size ≤ p := Nat.le_of_eq hp.symm
      obtain ⟨u, hu⟩ : ∃ V, V = (w.alloc (.cells #[.int .i64 xB, .slice xA xZ.length xC] 26)).alloc (.cells #[.int .i64 0, .slice none 0 0] 26) := ⟨_, rfl⟩
      have b_p : Bx u p 26 #[.int .i64 xB, .slice xA xZ.length xC] := by rw [hu, hp]; exact (Bx.new _ _ _).alloc _
      have b_p1 : Bx u (p + 1) 26 #[.int .i64 0, .slice none 0 0] := by rw [hu, hp]; simpa using Bx.new (w.alloc (.cells #[.int .i64 xB, .slice xA xZ.length xC] 26)) #[.int .i64 0, .slice none 0 0] 26
      have hb : Below w.heap.size w u := by rw [hu]; exact ((Below.refl _ _).alloc (Nat.le_refl _) _).alloc (by simp) _
      rw [← hp, ← hu]
      clear hu hp
      replace ha := ha.below hb
      replace hbel := hbel.trans (hb.mono hbel.size)
      clear hb
      refine (l09Ok_at p xB xA xC xZ u H.out ha (b_p.at_ 0 rfl) (b_p.at_ 1 rfl)).mono ?_
      rintro e v ⟨rfl, hb⟩
      replace ha := ha.below hb
      replace b_p := b_p.below hb
      replace b_p1 := b_p1.below hb
      replace hbel := hbel.trans (hb.mono hbel.size)
      clear hb
      have c0 := b_p.at_ 0 rfl
      have c1 := b_p.at_ 1 rfl
      go_wp2_with fail
      refine (HI.out v).mono ?_
      rintro e v2 ⟨rfl, hw⟩
      subst v2
      clear c0 c1
      have r0 := b_p1.at_ 0 rfl
      have r1 := b_p1.at_ 1 rfl
      have f0 := b_p1.thaw 0
      have f1 := b_p1.thaw 1
      have hs := b_p1.lt
      have hbs := hbel.size
      go_wp2
      exact bodyPost_ret (v := .tuple #[.agg #[.int .i64 0, .slice none 0 0], .int .i64 2]) (by simp [results, go_sem, r0, r1]) rfl
        (regC_err HR.out rfl (by repeat (first | with_reducible exact hbel | with_reducible refine Below.setCell ?_ (by first | omega | (simp <;> omega)) _ | with_reducible refine Below.alloc ?_ (by first | omega | (simp <;> omega)) _ | with_reducible refine Below.drew ?_)))
    | true =>
      obtain ⟨n1, n2⟩ := inB_true hn
      have HI := Lib.hid (fun w => l00In_true n xZ.length 16 w n1 n2)
      obtain ⟨m, rfl⟩ := Int.eq_ofNat_of_zero_le (show 0 ≤ n by omega)
      cases hf : fullB xB (m : Int) with
      | false =>
        have HR := Lib.hid (show widR xB xZ m = (0, [], 5) by rw [widR, if_pos h, if_pos ⟨n1, n2⟩, hf]; rfl)
        have HF := Lib.hid (fun w => l10Full_at (v := false) xB m w (by omega) hB2 (by omega) (by
          have := hf
          simp only [fullB, Int.toNat_natCast, decide_eq_false_iff_not] at this ⊢
          exact fun hh => this ⟨hB, hB2, by omega, by omega, hh⟩))
        clear h hn hf
        go_enter Tryd.func37, Tryd.ntmps37
        go_wp2_with fail
        obtain ⟨p, hp⟩ : ∃ g, g = w.heap.size := ⟨_, rfl⟩
        have hk_p : w.heap.size ≤ p := Nat.le_of_eq hp.symm
        obtain ⟨u, hu⟩ : ∃ V, V = (w.alloc (.cells #[.int .i64 xB, .slice xA xZ.length xC] 26)).alloc (.cells #[.int .i64 0, .slice none 0 0] 26) := ⟨_, rfl⟩
        have b_p : Bx u p 26 #[.int .i64 xB, .slice xA xZ.length xC] := by rw [hu, hp]; exact (Bx.new _ _ _).alloc _
        have b_p1 : Bx u (p + 1) 26 #[.int .i64 0, .slice none 0 0] := by rw [hu, hp]; simpa using Bx.new (w.alloc (.cells #[.int .i64 xB, .slice xA xZ.length xC] 26)) #[.int .i64 0, .slice none 0 0] 26
        have hb : Below w.heap.size w u := by rw [hu]; exact ((Below.refl _ _).alloc (Nat.le_refl _) _).alloc (by simp) _
        rw [← hp, ← hu]
        clear hu hp
        replace ha := ha.below hb
        replace hbel := hbel.trans (hb.mono hbel.size)
        clear hb
        refine (l09Ok_at p xB xA xC xZ u H.out ha (b_p.at_ 0 rfl) (b_p.at_ 1 rfl)).mono ?_
        rintro e v ⟨rfl, hb⟩
        replace ha := ha.below hb
        replace b_p := b_p.below hb
        replace b_p1 := b_p1.below hb
        replace hbel := hbel.trans (hb.mono hbel.size)
        clear hb
        have c0 := b_p.at_ 0 rfl
        have c1 := b_p.at_ 1 rfl
        go_wp2_with fail
        refine (HI.out v).mono ?_
        rintro e v2 ⟨rfl, hw⟩
        subst v2
        go_wp2_with fail
        refine (HF.out v).mono ?_
        rintro e v2 ⟨rfl, hw⟩
        subst v2
        clear c0 c1
        have r0 := b_p1.at_ 0 rfl
        have r1 := b_p1.at_ 1 rfl
        have f0 := b_p1.thaw 0
        have f1 := b_p1.thaw 1
        have hs := b_p1.lt
        have hbs := hbel.size
        go_wp2
        exact bodyPost_ret (v := .tuple #[.agg #[.int .i64 0, .slice none 0 0], .int .i64 5]) (by simp [results, go_sem, r0, r1]) rfl
          (regC_err HR.out rfl (by repeat (first | with_reducible exact hbel | with_reducible refine Below.setCell ?_ (by first | omega | (simp <;> omega)) _ | with_reducible refine Below.alloc ?_ (by first | omega | (simp <;> omega)) _ | with_reducible refine Below.drew ?_)))
      | true =>
        have HR := Lib.hid (show widR xB xZ m = (xB, setA xB m (numA xB xZ), 0) by rw [widR, if_pos h, if_pos ⟨n1, n2⟩, if_pos hf])
        have HF := Lib.hid (fun w => l10Full_at (v := true) xB m w (by omega) hB2 (by omega) (decide_eq_true (by have := (fullB_spec hf).2.2.2.2; simpa using this)))
        have HG := Lib.hid hf
        clear h hn hf
        go_enter Tryd.func37, Tryd.ntmps37
        go_wp2_with fail
        obtain ⟨p, hp⟩ : ∃ g, g = w.heap.size := ⟨_, rfl⟩
        have hk_p : w.heap.size ≤ p := Nat.le_of_eq hp.symm
        obtain ⟨u, hu⟩ : ∃ V, V = (w.alloc (.cells #[.int .i64 xB, .slice xA xZ.length xC] 26)).alloc (.cells #[.int .i64 0, .slice none 0 0] 26) := ⟨_, rfl⟩
        have b_p : Bx u p 26 #[.int .i64 xB, .slice xA xZ.length xC] := by rw [hu, hp]; exact (Bx.new _ _ _).alloc _
        have b_p1 : Bx u (p + 1) 26 #[.int .i64 0, .slice none 0 0] := by rw [hu, hp]; simpa using Bx.new (w.alloc (.cells #[.int .i64 xB, .slice xA xZ.length xC] 26)) #[.int .i64 0, .slice none 0 0] 26
        have hb : Below w.heap.size w u := by rw [hu]; exact ((Below.refl _ _).alloc (Nat.le_refl _) _).alloc (by simp) _
        rw [← hp, ← hu]
        clear hu hp
        replace ha := ha.below hb
        replace hbel := hbel.trans (hb.mono hbel.size)
        clear hb
        refine (l09Ok_at p xB xA xC xZ u H.out ha (b_p.at_ 0 rfl) (b_p.at_ 1 rfl)).mono ?_
        rintro e v ⟨rfl, hb⟩
        replace ha := ha.below hb
        replace b_p := b_p.below hb
        replace b_p1 := b_p1.below hb
        replace hbel := hbel.trans (hb.mono hbel.size)
        clear hb
        have c0 := b_p.at_ 0 rfl
        have c1 := b_p.at_ 1 rfl
        go_wp2_with fail
        refine (HI.out v).mono ?_
        rintro e v2 ⟨rfl, hw⟩
        subst v2
        go_wp2_with fail
        refine (HF.out v).mono ?_
        rintro e v2 ⟨rfl, hw⟩
        subst v2
        clear c0 c1
        go_upto_region 7 with fail
        have k0 := kept_all (b_p.at_ 0 rfl)
        have k1 := kept_all (b_p.at_ 1 rfl)
        have hS : Below v.heap.size v v.drew := (Below.refl _ _).drew
        refine wp_region_marked (fun w' => Below v.heap.size v w') 5 (by kernel_rfl) ?_
        refine wpAnyM_take (i := 0) (v := ?_) rfl (by kernel_rfl) (by kernel_rfl) (by kernel_rfl) (by kernel_rfl) (by kernel_rfl) (fun _ _ _ h => h) hS (.inl ⟨by rfl, ?_⟩) ?_
        rotate_left 1
        · intro w' hS'; go_simp; try with_reducible rfl
        simp only [Act.put, List.setIfInBounds_toArray, List.set_cons_succ, List.set_cons_zero, List.getElem_toArray, List.getElem_cons_zero]
        refine wpAnyM_take (i := 1) (v := ?_) rfl (by kernel_rfl) (by kernel_rfl) (by kernel_rfl) (by kernel_rfl) (by kernel_rfl) (fun _ _ _ h => h) hS (.inl ⟨by rfl, ?_⟩) ?_
        rotate_left 1
        · intro w' hS'; go_simp; try with_reducible rfl
        simp only [Act.put, List.setIfInBounds_toArray, List.set_cons_succ, List.set_cons_zero, List.getElem_toArray, List.getElem_cons_succ, List.getElem_cons_zero]
        refine wpAnyM_take (i := 2) (v := ?_) rfl (by kernel_rfl) (by kernel_rfl) (by kernel_rfl) (by kernel_rfl) (by kernel_rfl) (fun _ _ _ h => h) hS (.inl ⟨by rfl, ?_⟩) ?_
        rotate_left 1
        · intro w' hS'; go_simp; try with_reducible rfl
        simp only [Act.put, List.setIfInBounds_toArray, List.set_cons_succ, List.set_cons_zero, List.getElem_toArray, List.getElem_cons_succ, List.getElem_cons_zero]
        refine wpAnyM_one (i := 3) (by kernel_rfl) rfl (by rfl) (fun K hK => ?_)
        go_simp
        refine (l09Number_any p xB xA xC xZ v.drew H.out (ha.below hS) (k0 _ hS) (k1 _ hS)).mono ?_
        rintro e M ⟨rfl, hb⟩
        replace hS : Below v.heap.size v M := hS.trans (hb.mono hS.size)
        refine hK _ _ (.inr hS) ?_
        try simp only [Act.put, List.setIfInBounds_toArray, List.set_cons_succ, List.set_cons_zero, List.getElem_toArray, List.getElem_cons_succ, List.getElem_cons_zero]
        clear hK K hb
        refine wpAnyM_one (i := 4) (by kernel_rfl) rfl (by rfl) (fun K hK => ?_)
        go_simp
        refine (l09Set_any xB m (numA xB xZ) M HG.out).mono ?_
        rintro e N ⟨A, C, rfl, own, hb⟩
        have hvM := hS.size
        replace hS : Below v.heap.size v N := hS.trans (hb.mono hS.size)
        have hvs := hb.size
        refine hK _ _ (.inr hS) ?_
        try simp only [Act.put, List.setIfInBounds_toArray, List.set_cons_succ, List.set_cons_zero, List.getElem_toArray, List.getElem_cons_succ, List.getElem_cons_zero]
        clear hK K hb
        have hpl : p + 1 < v.heap.size := b_p1.lt
        replace b_p1 := b_p1.below hS
        replace hbel := hbel.trans (hS.mono hbel.size)
        have r0 := b_p1.at_ 0 rfl
        have r1 := b_p1.at_ 1 rfl
        have f0 := b_p1.thaw 0
        have f1 := b_p1.thaw 1
        have hs := b_p1.lt
        have hbs := hbel.size
        refine wpAnyM_one (i := 5) (by kernel_rfl) rfl (by rfl) (fun K hK => ?_)
        go_simp
        refine hK _ _ (.inl rfl) ?_
        try simp only [Act.put, List.setIfInBounds_toArray, List.set_cons_succ, List.set_cons_zero, List.getElem_toArray, List.getElem_cons_succ, List.getElem_cons_zero]
        clear hK K
        refine wpAnyM_one (i := 6) (by kernel_rfl) rfl (by rfl) (fun K hK => ?_)
        go_simp
        refine hK _ _ (.inl rfl) ?_
        clear hK K
        refine wpAnyM_done (by kernel_rfl) ?_ _
        try simp only [Act.put, List.setIfInBounds_toArray, List.set_cons_succ, List.set_cons_zero, List.getElem_toArray, List.getElem_cons_succ, List.getElem_cons_zero]
        go_wp2
        exact bodyPost_ret (v := .tuple #[.agg #[.int .i64 xB, .slice A (setA xB m (numA xB xZ)).length C], .int .i64 0]) (by simp [results, go_sem, r0, r1]) rfl
          (regC_ok HR.out rfl ((own.setCell (p := ⟨p + 1, 0, none⟩) (.inl (by simp; omega)) _).setCell (p := ⟨p + 1, 1, none⟩) (.inl (by simp; omega)) _) (by have := hk_p; omega) (by simp) (by repeat (first | with_reducible exact hbel | with_reducible refine Below.setCell ?_ (by first | omega | (simp <;> omega)) _ | with_reducible refine Below.alloc ?_ (by first | omega | (simp <;> omega)) _ | with_reducible refine Below.drew ?_)))
end Go.Proofs.YtlahobdopmdfmaaDoor

/- Dec -/
namespace Go.Proofs.YtlahobdopmdfmaaDoor
open Go.RowKit

/-- The decimal digits of a number, none for 0. -/
def dg (u : Nat) : List UInt8 :=
  if _ : u = 0 then [] else dg (u / 10) ++ [UInt8.ofNat (48 + u % 10)]
termination_by u
decreasing_by omega
theorem dg_zero : dg 0 = [] := by rw [dg, dif_pos rfl]
theorem dg_pos {u : Nat} (h : u ≠ 0) : dg u = dg (u / 10) ++ [UInt8.ofNat (48 + u % 10)] := by rw [dg, dif_neg h]
theorem dg_ne {u : Nat} (h : u ≠ 0) : dg u ≠ [] := by rw [dg_pos h]; simp
theorem dg_dec : ∀ {u : Nat}, u ≠ 0 → dg u = Lib.decDigits u := by
  intro u
  induction u using Nat.strongRecOn with
  | _ u ih =>
    intro h
    rw [dg_pos h, Lib.decDigits]
    by_cases h10 : u < 10
    · rw [dif_pos h10, show u / 10 = 0 by omega, dg_zero, List.nil_append, show u % 10 = u by omega]
    · rw [dif_neg h10, ih (u / 10) (by omega) (by omega)]
theorem dg_len : ∀ (k u : Nat), u < 10 ^ k → (dg u).length ≤ k := by
  intro k
  induction k with
  | zero => intro u h; have : u = 0 := by simpa using h
            rw [this, dg_zero]; simp
  | succ k ih =>
    intro u h
    by_cases h0 : u = 0
    · rw [h0, dg_zero]; simp
    · rw [dg_pos h0]
      have := ih (u / 10) (by rw [Nat.pow_succ] at h; omega)
      simp; omega
theorem itoa_zero : Lib.itoa 0 = [48] := by unfold Lib.itoa; rw [if_neg (by omega)]; rw [Lib.decDigits, dif_pos (by decide)]; rfl
theorem itoa_neg {n : Int} (h : n < 0) : Lib.itoa n = 45 :: dg n.natAbs := by unfold Lib.itoa; rw [if_pos h, dg_dec (by omega)]
theorem itoa_pos {n : Int} (h : 0 < n) : Lib.itoa n = dg n.natAbs := by unfold Lib.itoa; rw [if_neg (by omega), dg_dec (by omega)]; congr 1; omega

/-- Bytes as cells. -/
def u8s (l : List UInt8) : List Value := l.map fun b => Value.int .u8 (b.toNat : Int)
theorem u8s_cons (b : UInt8) (l : List UInt8) : u8s (b :: l) = [Value.int .u8 (b.toNat : Int)] ++ u8s l := rfl
theorem u8s_len (l : List UInt8) : (u8s l).length = l.length := by simp [u8s]
theorem u8s_at {l : List UInt8} {j : Nat} (h : j < l.length) : (u8s l)[j]? = some (.int .u8 (l[j].toNat : Int)) := by simp [u8s, List.getElem?_map, List.getElem?_eq_getElem h]
theorem info_u8 : (Tryd.prog.info? 5).map (fun i => (i.zero, i.size, i.bytes)) = some (some (.int .u8 0), 1, 1) := by kernel_rfl

theorem td10 (j : Int) : ∃ q r : Int, j.tdiv 10 = q ∧ j.tmod 10 = r ∧ q.natAbs = j.natAbs / 10 ∧ r.natAbs = j.natAbs % 10 ∧ (0 ≤ j → 0 ≤ q ∧ 0 ≤ r) ∧ (j ≤ 0 → q ≤ 0 ∧ r ≤ 0) := by
  rcases Int.le_total 0 j with h | h
  · refine ⟨j / 10, j % 10, Int.tdiv_eq_ediv_of_nonneg h, Int.tmod_eq_emod_of_nonneg h, by omega, by omega, fun _ => by omega, fun _ => by omega⟩
  · obtain ⟨m, rfl⟩ : ∃ m : Nat, j = -(m : Int) := ⟨j.natAbs, by omega⟩
    refine ⟨-((m : Int) / 10), -((m : Int) % 10), ?_, ?_, by omega, by omega, fun _ => by omega, fun _ => by omega⟩
    · rw [Int.neg_tdiv, Int.tdiv_eq_ediv_of_nonneg (by omega)]
    · rw [Int.neg_tmod, Int.tmod_eq_emod_of_nonneg (by omega)]
/-- The next digit. -/
theorem dg_next {j q r n : Int} {l : List UInt8} (h : dg j.natAbs ++ l = dg n.natAbs) (hj : j ≠ 0) (hq : q.natAbs = j.natAbs / 10) (hr : r.natAbs = j.natAbs % 10) : dg q.natAbs ++ (UInt8.ofNat (48 + r.natAbs) :: l) = dg n.natAbs := by
  rw [← h, dg_pos (u := j.natAbs) (by omega), hq, hr]; simp
theorem u8_val {r : Int} (h1 : -9 ≤ r) (h2 : r ≤ 9) : ((UInt8.ofNat (48 + r.natAbs)).toNat : Int) = 48 + (r.natAbs : Int) := by
  rw [UInt8.toNat_ofNat']; omega

theorem u8s_one {l : List UInt8} : ∀ u ∈ u8s l, u.oneCell' = true := by
  intro u hu
  obtain ⟨b, _, rfl⟩ := List.mem_map.1 hu
  rfl

/-- What has been written so far, and what is left. -/
def DecRel (n : Int) (w : World) (o k : Value) (wr : World) : Prop := ∃ (j : Int) (l : List UInt8) (A : Addr) (C : Nat), k = .int .i64 j ∧ o = .slice (some A) l.length C ∧
  Hid (dg j.natAbs ++ l = dg n.natAbs) ∧ Hid (0 ≤ n ∧ 0 ≤ j ∨ n ≤ 0 ∧ j ≤ 0) ∧ -9223372036854775808 ≤ j ∧ j ≤ 9223372036854775807 ∧ l.length ≤ 20 ∧ Row 5 1 wr w.heap.size wr.heap.size (.slice (some A) l.length C) l.length (u8s l) ∧ Below w.heap.size w wr

set_option maxRecDepth 100000 in
set_option maxHeartbeats 4000000 in
theorem l01Dec_any (n : Int) (w : World) (h0 : -9223372036854775808 ≤ n) (h1 : n ≤ 9223372036854775807) :
    Calls Tryd.prog 122 #[.int .i64 n] w fun e w' => e = .returned (.string ⟨(Lib.itoa n).toArray⟩) ∧ Below w.heap.size w w' := by
  have HH : Hid ((dg n.natAbs).length ≤ 20) := Lib.hid (dg_len 20 n.natAbs (by omega))
  go_enter Tryd.func122, Tryd.ntmps122
  go_wp2
  go_loopw [3, 4] (fun o k wr => DecRel n w o k wr) (fun _ k _ => (intOf k).natAbs)
  case atStart =>
    refine ⟨n, [], _, _, rfl, rfl, Lib.hid (by simp), Lib.hid (by omega), h0, h1, by simp, ?_, (Below.refl _ _).alloc (Nat.le_refl _) _⟩
    have := row_new 5 1 w #[] 0 rfl (by omega)
    simpa [u8s] using this
  case round =>
    obtain ⟨j, l, A, C, rfl, rfl, hd, hsg, hj3, hj4, hl, row, hbel⟩ := hrel
    by_cases hj : j = 0
    · subst hj
      have hd0 : l = dg n.natAbs := by have := hd.out; rw [show (0 : Int).natAbs = 0 from rfl, dg_zero, List.nil_append] at this; exact this
      have hcv := run_convert_bytes_back (P := Tryd.prog) wr 22 9 5 A C l Tryd.underlying22 Tryd.underlying5 Tryd.underlying9 (fun j hj => row.cell (u8s_at hj))
      clear hd hsg row
      rcases Int.lt_trichotomy n 0 with hn | hn | hn
      · have HI : Hid (Lib.itoa n = 45 :: l) := Lib.hid (by rw [itoa_neg hn, hd0])
        have hlp : 0 < l.length := by
          rw [hd0]; exact List.length_pos_iff.2 (dg_ne (by omega))
        clear hd0
        go_wp2
        go_ret
        exact ⟨by rw [HI.out]; rfl, hbel⟩
      · subst hn
        have hl0 : l = [] := by rw [hd0]; exact dg_zero
        subst hl0
        have HI := Lib.hid itoa_zero
        clear hd0
        go_wp2
        go_ret
        exact ⟨by rw [HI.out]; rfl, hbel⟩
      · have HI : Hid (Lib.itoa n = l) := Lib.hid (by rw [itoa_pos hn, hd0])
        have hlp : 0 < l.length := by
          rw [hd0]; exact List.length_pos_iff.2 (dg_ne (by omega))
        clear hd0
        go_wp2
        go_ret
        exact ⟨by rw [HI.out]; rfl, hbel⟩
    · obtain ⟨q, r, hq, hr, hqa, hra, hp, hn⟩ := td10 j
      have hr1 : -9 ≤ r := by omega
      have hr2 : r ≤ 9 := by omega
      have hq1 : -9223372036854775808 ≤ q := by omega
      have hq2 : q ≤ 9223372036854775807 := by omega
      have hqw : wrap64 q = q := IntWalk.wrap64_in _ ⟨by omega, by omega⟩
      have HD := Lib.hid (dg_next hd.out hj hqa hra)
      have hl2 : l.length + 1 ≤ 20 := by have := HH.out; rw [← HD.out] at this; simp at this; omega
      have HS : Hid (0 ≤ n ∧ 0 ≤ q ∨ n ≤ 0 ∧ q ≤ 0) := Lib.hid (by rcases hsg.out with h | h; exact .inl ⟨h.1, (hp h.2).1⟩; exact .inr ⟨h.1, (hn h.2).1⟩)
      have hm : Hid (q.natAbs < j.natAbs) := Lib.hid (by omega)
      have HB := Lib.hid (u8_val hr1 hr2)
      have hrow := row.alloc (.cells #[.int .u8 (48 + (r.natAbs : Int))] 5)
      have hnew := row_new 5 1 wr #[.int .u8 (48 + (r.natAbs : Int))] 1 rfl (by omega)
      clear hd hsg hqa hra hp hn row
      by_cases hr0 : r < 0
      · have hab : (r.natAbs : Int) = -r := by omega
        rw [hab] at hrow hnew HB
        clear hab
        go_wp2_with (at_builtin; go_must (refine wpList_appR rfl (.tmp 21) (.tmp 22) 22 5 rfl (.int .u8 0) 1 1 Tryd.underlying22 info_u8 rfl (by omega) (by omega) rfl hnew A l.length C (u8s l) rfl (by simp [u8s_len]) (fun j u h => hrow.cell h) u8s_one (by omega) (by simp) ?_); intro A' C' w1 row1 ht1)
        have hb1 : Below w.heap.size w w1 := (hbel.alloc (by have := hbel.size; omega) _).trans (ht1.below hbel.size (by have := hbel.size; simp; omega))
        obtain ⟨A2, rfl⟩ : ∃ A2, A' = some A2 := by
          cases A' with
          | none => have := row1.none_.1; omega
          | some A2 => exact ⟨A2, rfl⟩
        go_roundw
        case rel =>
          refine ⟨q, _ :: l, A2, C', rfl, ?_, HD, HS, hq1, hq2, by simpa using hl2, ?_, hb1⟩
          · simp [Nat.add_comm]
          · rw [u8s_cons, HB.out]
            have := row1.wide (lo' := w.heap.size) hbel.size (Nat.le_refl _)
            simpa [Nat.add_comm] using this
        case measure => have := hm.out; simp [intOf]; omega
      · have hab : (r.natAbs : Int) = r := by omega
        rw [hab] at hrow hnew HB
        clear hab
        have hr3 : 0 ≤ r := by omega
        go_wp2_with (at_builtin; go_must (refine wpList_appR rfl (.tmp 21) (.tmp 22) 22 5 rfl (.int .u8 0) 1 1 Tryd.underlying22 info_u8 rfl (by omega) (by omega) rfl hnew A l.length C (u8s l) rfl (by simp [u8s_len]) (fun j u h => hrow.cell h) u8s_one (by omega) (by simp) ?_); intro A' C' w1 row1 ht1)
        have hb1 : Below w.heap.size w w1 := (hbel.alloc (by have := hbel.size; omega) _).trans (ht1.below hbel.size (by have := hbel.size; simp; omega))
        obtain ⟨A2, rfl⟩ : ∃ A2, A' = some A2 := by
          cases A' with
          | none => have := row1.none_.1; omega
          | some A2 => exact ⟨A2, rfl⟩
        go_roundw
        case rel =>
          refine ⟨q, _ :: l, A2, C', rfl, ?_, HD, HS, hq1, hq2, by simpa using hl2, ?_, hb1⟩
          · simp [Nat.add_comm]
          · rw [u8s_cons, HB.out]
            have := row1.wide (lo' := w.heap.size) hbel.size (Nat.le_refl _)
            simpa [Nat.add_comm] using this
        case measure => have := hm.out; simp [intOf]; omega
end Go.Proofs.YtlahobdopmdfmaaDoor

/- DecI -/
namespace Go.Proofs.YtlahobdopmdfmaaDoor
open Go.RowKit

/-- The library's table of powers of ten, as its text lays it. -/
def PowTab (w : World) : Prop := Lib.TabIs Tryd.prog w "internal/strconv.uint64pow10" .u64 Lib.pow10Tab
theorem tabIs_below {n : String} {g : Nat} {k : IntKind} {zs : List Int} {w w' : World} (hg : Tryd.prog.globalNamed n = some g) (h : Lib.TabIs Tryd.prog w n k zs) (hb : Below w.heap.size w w') : Lib.TabIs Tryd.prog w' n k zs := by
  unfold Lib.TabIs World.var? at h ⊢
  rw [hg] at h ⊢
  simp only [Option.bind_some] at h ⊢
  have hl : g < w.heap.size := by
    rcases Nat.lt_or_ge g w.heap.size with h1 | h1
    · exact h1
    · rw [Array.getElem?_eq_none h1] at h; cases h
  rw [hb.block g hl]
  exact h
theorem powTab_below {w w' : World} (h : PowTab w) (hb : Below w.heap.size w w') : PowTab w' := tabIs_below (g := 2) (by kernel_rfl) h hb

theorem i64_bd {n : Int} (h : I64 n) : -9223372036854775808 ≤ n ∧ n ≤ 9223372036854775807 := by
  unfold I64 at h
  simp [Lit.wf, IntKind.min, IntKind.max, IntKind.signed, IntKind.bits] at h
  exact h

theorem implDecimal (n : Int) (w : World) (b : I64 n) (hD : PowTab w) :
    Calls Tryd.prog 121 #[.int .i64 n] w fun e w' => e = .returned (.string ⟨(Lib.itoa n).toArray⟩) ∧ Below w.heap.size w w' := by
  obtain ⟨h0, h1⟩ := i64_bd b
  have c := fun w => Tryd.strconv_FormatInt_10 n h0 h1 w
  have c1 := c w hD
  clear c hD b
  go_enter Tryd.func121, Tryd.ntmps121
  go_wp2_with (go_at_call 166; refine c1.mono ?_; rintro e w' ⟨rfl, hg⟩)
  obtain ⟨k, os, rfl⟩ := hg
  go_ret
  exact ⟨rfl, Lib.below_grow _ _ (Nat.le_refl _) _ _⟩
end Go.Proofs.YtlahobdopmdfmaaDoor

/- AtxI -/
namespace Go.Proofs.YtlahobdopmdfmaaDoor
open Go.RowKit

/-- AccumulatorText. -/
def atxV (B : Int) (zs : List Int) : ByteArray :=
  if accB B zs = true then (if numA B zs < 0 then ⟨(Lib.itoa (numA B zs)).toArray⟩ else ⟨#[43]⟩ ++ ⟨(Lib.itoa (numA B zs)).toArray⟩) else ByteArray.empty
theorem numA_small {B : Int} {zs : List Int} (h : accB B zs = true) : -1000000000001 ≤ numA B zs ∧ numA B zs ≤ 1000000000001 := by
  have h1 := numA_in h
  have h2 := cntA_bd (accB_full h)
  omega
theorem plus_run (S : ByteArray) (w : World) (h : S.size ≤ 30) : (Op.stringOp .add ⟨#[43]⟩ S).run Tryd.prog w = .ok (.string (⟨#[43]⟩ ++ S)) w :=
  run_string_add_sum (P := Tryd.prog) w ⟨#[43]⟩ S (by show 1 + S.size ≤ _; omega)

set_option maxRecDepth 100000 in
set_option maxHeartbeats 4000000 in
theorem implAccumulatorText (xB : Int) (xA : Option Addr) (xC : Nat) (xZ : List Int) (w : World) (ha : Rd w xA xZ) (z : All64 xZ) (b : I64 xB) (hD : PowTab w ∧ BellD w) :
    Calls Tryd.prog 40 #[.agg #[.int .i64 xB, .slice xA xZ.length xC]] w fun e w' => e = .returned (.string (atxV xB xZ)) ∧ Below w.heap.size w w' := by
  have R := Tryd.results40
  have hbel : Below w.heap.size w w := Below.refl _ _
  obtain ⟨hP, hL⟩ := hD
  cases h : accB xB xZ with
  | false =>
    have HR := Lib.hid (show atxV xB xZ = ByteArray.empty by simp [atxV, h])
    have HN := Lib.hid (show numR xB xZ = (0, 1) by simp [numR, h])
    clear h
    go_enter Tryd.func40, Tryd.ntmps40
    go_wp2_with fail
    obtain ⟨p, hp⟩ : ∃ g, g = w.heap.size := ⟨_, rfl⟩
    have hk_p : w.heap.size ≤ p := Nat.le_of_eq hp.symm
    obtain ⟨u, hu⟩ : ∃ V, V = w.alloc (.cells #[.int .i64 xB, .slice xA xZ.length xC] 26) := ⟨_, rfl⟩
    have b_p : Bx u p 26 #[.int .i64 xB, .slice xA xZ.length xC] := by rw [hu, hp]; exact Bx.new _ _ _
    have hb : Below w.heap.size w u := by rw [hu]; exact (Below.refl _ _).alloc (Nat.le_refl _) _
    rw [← hp, ← hu]
    clear hu hp
    replace ha := ha.below hb
    replace hL := hL.below hb
    replace hbel := hbel.trans (hb.mono hbel.size)
    clear hb
    refine (implNumberOf xB xA xC xZ u ha z b hL).mono ?_
    rintro e v ⟨rfl, hb⟩
    rw [HN.out]
    replace ha := ha.below hb
    replace hL := hL.below hb
    replace b_p := b_p.below hb
    replace hbel := hbel.trans (hb.mono hbel.size)
    clear hb
    go_wp2
    exact bodyPost_ret (v := .string ⟨#[]⟩) (by simp [results, go_sem]) rfl ⟨by rw [HR.out]; rfl, hbel⟩
  | true =>
    have HN := Lib.hid (show numR xB xZ = (numA xB xZ, 0) by simp [numR, h])
    have hs := numA_small h
    have HR := Lib.hid (show atxV xB xZ = if numA xB xZ < 0 then ⟨(Lib.itoa (numA xB xZ)).toArray⟩ else ⟨#[43]⟩ ++ ⟨(Lib.itoa (numA xB xZ)).toArray⟩ by simp [atxV, h])
    obtain ⟨y, hy⟩ : ∃ y, y = numA xB xZ := ⟨_, rfl⟩
    rw [← hy] at HN HR hs
    have HI := Lib.hid (fun (w : World) (hP : PowTab w) => implDecimal y w (i64_of (by omega) (by omega)) hP)
    have hl : (Lib.itoa y).length ≤ 21 := Lib.itoa_length_le y (by omega) (by omega)
    obtain ⟨S, hS⟩ : ∃ S : ByteArray, S = ⟨(Lib.itoa y).toArray⟩ := ⟨_, rfl⟩
    rw [← hS] at HI HR
    have hSs : S.size ≤ 30 := by rw [hS]; show (Lib.itoa y).toArray.size ≤ 30; simp; omega
    clear h hy hS hl
    by_cases hn : y < 0
    · rw [if_pos hn] at HR
      go_enter Tryd.func40, Tryd.ntmps40
      go_wp2_with fail
      obtain ⟨p, hp⟩ : ∃ g, g = w.heap.size := ⟨_, rfl⟩
      have hk_p : w.heap.size ≤ p := Nat.le_of_eq hp.symm
      obtain ⟨u, hu⟩ : ∃ V, V = w.alloc (.cells #[.int .i64 xB, .slice xA xZ.length xC] 26) := ⟨_, rfl⟩
      have b_p : Bx u p 26 #[.int .i64 xB, .slice xA xZ.length xC] := by rw [hu, hp]; exact Bx.new _ _ _
      have hb : Below w.heap.size w u := by rw [hu]; exact (Below.refl _ _).alloc (Nat.le_refl _) _
      rw [← hp, ← hu]
      clear hu hp
      replace ha := ha.below hb
      replace hL := hL.below hb
      replace hbel := hbel.trans (hb.mono hbel.size)
      clear hb
      refine (implNumberOf xB xA xC xZ u ha z b hL).mono ?_
      rintro e v ⟨rfl, hb⟩
      rw [HN.out]
      replace ha := ha.below hb
      replace hL := hL.below hb
      replace b_p := b_p.below hb
      replace hbel := hbel.trans (hb.mono hbel.size)
      clear hb
      go_wp2_with fail
      refine (HI.out v (powTab_below hP hbel)).mono ?_
      rintro e v2 ⟨rfl, hb⟩
      replace ha := ha.below hb
      replace hL := hL.below hb
      replace b_p := b_p.below hb
      replace hbel := hbel.trans (hb.mono hbel.size)
      clear hb
      go_wp2
      exact bodyPost_ret (v := .string S) (by simp [results, go_sem]) rfl ⟨by rw [HR.out], hbel⟩
    · rw [if_neg hn] at HR
      go_enter Tryd.func40, Tryd.ntmps40
      go_wp2_with fail
      obtain ⟨p, hp⟩ : ∃ g, g = w.heap.size := ⟨_, rfl⟩
      have hk_p : w.heap.size ≤ p := Nat.le_of_eq hp.symm
      obtain ⟨u, hu⟩ : ∃ V, V = w.alloc (.cells #[.int .i64 xB, .slice xA xZ.length xC] 26) := ⟨_, rfl⟩
      have b_p : Bx u p 26 #[.int .i64 xB, .slice xA xZ.length xC] := by rw [hu, hp]; exact Bx.new _ _ _
      have hb : Below w.heap.size w u := by rw [hu]; exact (Below.refl _ _).alloc (Nat.le_refl _) _
      rw [← hp, ← hu]
      clear hu hp
      replace ha := ha.below hb
      replace hL := hL.below hb
      replace hbel := hbel.trans (hb.mono hbel.size)
      clear hb
      refine (implNumberOf xB xA xC xZ u ha z b hL).mono ?_
      rintro e v ⟨rfl, hb⟩
      rw [HN.out]
      replace ha := ha.below hb
      replace hL := hL.below hb
      replace b_p := b_p.below hb
      replace hbel := hbel.trans (hb.mono hbel.size)
      clear hb
      go_wp2_with fail
      refine (HI.out v (powTab_below hP hbel)).mono ?_
      rintro e v2 ⟨rfl, hb⟩
      replace ha := ha.below hb
      replace hL := hL.below hb
      replace b_p := b_p.below hb
      replace hbel := hbel.trans (hb.mono hbel.size)
      clear hb
      have hadd := plus_run S v2 hSs
      obtain ⟨X, hX⟩ : ∃ X : ByteArray, X = ⟨#[43]⟩ ++ S := ⟨_, rfl⟩
      rw [← hX] at hadd HR
      clear hX
      go_wp2
      exact bodyPost_ret (v := .string X) (by simp [results, go_sem]) rfl ⟨by rw [HR.out], hbel⟩

set_option maxRecDepth 100000 in
set_option maxHeartbeats 4000000 in
theorem specAccumulatorText (xB : Int) (xA : Option Addr) (xC : Nat) (xZ : List Int) (w : World) (ha : Rd w xA xZ) (_ : All64 xZ) (_ : I64 xB) :
    Calls Tryd.prog 41 #[.agg #[.int .i64 xB, .slice xA xZ.length xC]] w fun e w' => e = .returned (.string (atxV xB xZ)) ∧ Below w.heap.size w w' := by
  have R := Tryd.results41
  have hbel : Below w.heap.size w w := Below.refl _ _
  cases h : accB xB xZ with
  | false =>
    have HR := Lib.hid (show atxV xB xZ = ByteArray.empty by simp [atxV, h])
    have H := Lib.hid h
    clear h
    go_enter Tryd.func41, Tryd.ntmps41
    go_wp2_with fail
    obtain ⟨p, hp⟩ : ∃ g, g = w.heap.size := ⟨_, rfl⟩
    have hk_p : w.heap.size ≤ p := Nat.le_of_eq hp.symm
    obtain ⟨u, hu⟩ : ∃ V, V = w.alloc (.cells #[.int .i64 xB, .slice xA xZ.length xC] 26) := ⟨_, rfl⟩
    have b_p : Bx u p 26 #[.int .i64 xB, .slice xA xZ.length xC] := by rw [hu, hp]; exact Bx.new _ _ _
    have hb : Below w.heap.size w u := by rw [hu]; exact (Below.refl _ _).alloc (Nat.le_refl _) _
    rw [← hp, ← hu]
    clear hu hp
    replace ha := ha.below hb
    replace hbel := hbel.trans (hb.mono hbel.size)
    clear hb
    refine (l09Ok_at p xB xA xC xZ u H.out ha (b_p.at_ 0 rfl) (b_p.at_ 1 rfl)).mono ?_
    rintro e v ⟨rfl, hb⟩
    replace ha := ha.below hb
    replace b_p := b_p.below hb
    replace hbel := hbel.trans (hb.mono hbel.size)
    clear hb
    go_wp2
    exact bodyPost_ret (v := .string ⟨#[]⟩) (by simp [results, go_sem]) rfl ⟨by rw [HR.out]; rfl, hbel⟩
  | true =>
    have hs := numA_small h
    have HR := Lib.hid (show atxV xB xZ = if numA xB xZ < 0 then ⟨(Lib.itoa (numA xB xZ)).toArray⟩ else ⟨#[43]⟩ ++ ⟨(Lib.itoa (numA xB xZ)).toArray⟩ by simp [atxV, h])
    have H := Lib.hid h
    obtain ⟨y, hy⟩ : ∃ y, y = numA xB xZ := ⟨_, rfl⟩
    have HY := Lib.hid hy.symm
    rw [← hy] at HR hs
    have HI := Lib.hid (fun (w : World) => l01Dec_any y w (by omega) (by omega))
    have hl : (Lib.itoa y).length ≤ 21 := Lib.itoa_length_le y (by omega) (by omega)
    obtain ⟨S, hS⟩ : ∃ S : ByteArray, S = ⟨(Lib.itoa y).toArray⟩ := ⟨_, rfl⟩
    rw [← hS] at HI HR
    have hSs : S.size ≤ 30 := by rw [hS]; show (Lib.itoa y).toArray.size ≤ 30; simp; omega
    clear h hy hS hl
    by_cases hn : y < 0
    · rw [if_pos hn] at HR
      go_enter Tryd.func41, Tryd.ntmps41
      go_wp2_with fail
      obtain ⟨p, hp⟩ : ∃ g, g = w.heap.size := ⟨_, rfl⟩
      have hk_p : w.heap.size ≤ p := Nat.le_of_eq hp.symm
      obtain ⟨u, hu⟩ : ∃ V, V = w.alloc (.cells #[.int .i64 xB, .slice xA xZ.length xC] 26) := ⟨_, rfl⟩
      have b_p : Bx u p 26 #[.int .i64 xB, .slice xA xZ.length xC] := by rw [hu, hp]; exact Bx.new _ _ _
      have hb : Below w.heap.size w u := by rw [hu]; exact (Below.refl _ _).alloc (Nat.le_refl _) _
      rw [← hp, ← hu]
      clear hu hp
      replace ha := ha.below hb
      replace hbel := hbel.trans (hb.mono hbel.size)
      clear hb
      refine (l09Ok_at p xB xA xC xZ u H.out ha (b_p.at_ 0 rfl) (b_p.at_ 1 rfl)).mono ?_
      rintro e v ⟨rfl, hb⟩
      replace ha := ha.below hb
      replace b_p := b_p.below hb
      replace hbel := hbel.trans (hb.mono hbel.size)
      clear hb
      go_wp2_with fail
      refine (l09Number_any p xB xA xC xZ v H.out ha (b_p.at_ 0 rfl) (b_p.at_ 1 rfl)).mono ?_
      rintro e v1 ⟨rfl, hb⟩
      rw [HY.out]
      replace ha := ha.below hb
      replace b_p := b_p.below hb
      replace hbel := hbel.trans (hb.mono hbel.size)
      clear hb
      go_wp2_with fail
      refine (HI.out v1).mono ?_
      rintro e v2 ⟨rfl, hb⟩
      replace ha := ha.below hb
      replace b_p := b_p.below hb
      replace hbel := hbel.trans (hb.mono hbel.size)
      clear hb
      go_wp2
      exact bodyPost_ret (v := .string S) (by simp [results, go_sem]) rfl ⟨by rw [HR.out], hbel⟩
    · rw [if_neg hn] at HR
      go_enter Tryd.func41, Tryd.ntmps41
      go_wp2_with fail
      obtain ⟨p, hp⟩ : ∃ g, g = w.heap.size := ⟨_, rfl⟩
      have hk_p : w.heap.size ≤ p := Nat.le_of_eq hp.symm
      obtain ⟨u, hu⟩ : ∃ V, V = w.alloc (.cells #[.int .i64 xB, .slice xA xZ.length xC] 26) := ⟨_, rfl⟩
      have b_p : Bx u p 26 #[.int .i64 xB, .slice xA xZ.length xC] := by rw [hu, hp]; exact Bx.new _ _ _
      have hb : Below w.heap.size w u := by rw [hu]; exact (Below.refl _ _).alloc (Nat.le_refl _) _
      rw [← hp, ← hu]
      clear hu hp
      replace ha := ha.below hb
      replace hbel := hbel.trans (hb.mono hbel.size)
      clear hb
      refine (l09Ok_at p xB xA xC xZ u H.out ha (b_p.at_ 0 rfl) (b_p.at_ 1 rfl)).mono ?_
      rintro e v ⟨rfl, hb⟩
      replace ha := ha.below hb
      replace b_p := b_p.below hb
      replace hbel := hbel.trans (hb.mono hbel.size)
      clear hb
      go_wp2_with fail
      refine (l09Number_any p xB xA xC xZ v H.out ha (b_p.at_ 0 rfl) (b_p.at_ 1 rfl)).mono ?_
      rintro e v1 ⟨rfl, hb⟩
      rw [HY.out]
      replace ha := ha.below hb
      replace b_p := b_p.below hb
      replace hbel := hbel.trans (hb.mono hbel.size)
      clear hb
      go_wp2_with fail
      refine (HI.out v1).mono ?_
      rintro e v2 ⟨rfl, hb⟩
      replace ha := ha.below hb
      replace b_p := b_p.below hb
      replace hbel := hbel.trans (hb.mono hbel.size)
      clear hb
      have hadd := plus_run S v2 hSs
      obtain ⟨X, hX⟩ : ∃ X : ByteArray, X = ⟨#[43]⟩ ++ S := ⟨_, rfl⟩
      rw [← hX] at hadd HR
      clear hX
      go_wp2
      exact bodyPost_ret (v := .string X) (by simp [results, go_sem]) rfl ⟨by rw [HR.out], hbel⟩
end Go.Proofs.YtlahobdopmdfmaaDoor

/- MarkT -/
namespace Go.Proofs.YtlahobdopmdfmaaDoor
open Go.RowKit

/-- What markText makes of a number, ahead of what it has made. -/
def mtL (n : Nat) (acc : List UInt8) : List UInt8 := if h : n = 0 then acc else mtL (n / 10) (UInt8.ofNat (48 + n % 10) :: acc)
termination_by n
decreasing_by omega
theorem mtL_zero (acc : List UInt8) : mtL 0 acc = acc := by rw [mtL, dif_pos rfl]
theorem mtL_step {n : Nat} (h : n ≠ 0) (acc : List UInt8) : mtL n acc = mtL (n / 10) (UInt8.ofNat (48 + n % 10) :: acc) := by rw [mtL, dif_neg h]
def mtx (k : Int) : ByteArray := if k ≤ 0 then ⟨#[109, 48]⟩ else ⟨(109 :: mtL k.toNat []).toArray⟩
theorem bs_ext {a b : ByteArray} (h : a.data.toList = b.data.toList) : a = b := by
  obtain ⟨a⟩ := a
  obtain ⟨b⟩ := b
  simp only at h
  congr 1
  exact Array.toList_inj.1 h

end Go.Proofs.YtlahobdopmdfmaaDoor

/- Left -/
namespace Go.Proofs.YtlahobdopmdfmaaDoor

/-- What is left of a bound behind a slice of this length; less than 0 (-1) if it is passed. -/
def leftOf (n : Nat) (left : Int) : Int := if left - (n : Int) < 0 then -1 else left - (n : Int)
theorem leftOf_le (n : Nat) (left : Int) (h : 0 ≤ left) : leftOf n left ≤ left := by unfold leftOf; split <;> omega
theorem leftOf_len {n : Nat} {left : Int} (h : 0 ≤ leftOf n left) : (n : Int) ≤ left := by unfold leftOf at h; split at h <;> omega
end Go.Proofs.YtlahobdopmdfmaaDoor

/- StrS -/
namespace Go.Proofs.YtlahobdopmdfmaaDoor
open Go.RowKit Go.BigFrame

theorem info_string : (Tryd.prog.info? 9).map (fun i => (i.zero, i.size, i.bytes)) = some (some (.string ByteArray.empty), 1, 16) := by kernel_rfl
/-- The texts of marks from k on. -/
def seqT (k : Int) (n : Nat) : List ByteArray := (List.range n).map fun i : Nat => mtx (k + (i : Int))
theorem seqT_len (k : Int) (n : Nat) : (seqT k n).length = n := by simp [seqT]
theorem seqT_at {k : Int} {n i : Nat} (h : i < n) : elt textF (seqT k n) i = mtx (k + (i : Int)) := elt_range h
section
variable {w : World} {t : TypeId} {lo hi g n c k : Nat}
theorem RdF.atT {a : Option Addr} {xs : List ByteArray} (h : RdF textF w a xs) (hk : k < xs.length) : ∃ b off, a = some ⟨b, off, none⟩ ∧ w.cell? ⟨b, off + k, none⟩ = some (.string (elt textF xs k)) := by
  obtain ⟨b, off, rfl, hc⟩ := h.at_ hk
  refine ⟨b, off, rfl, ?_⟩
  have := hc 0 (.string (elt textF xs k)) rfl
  simpa [textF] using this
theorem OwnF.getT {xs : List ByteArray} (h : OwnF textF t w lo hi (.slice (some ⟨g, 0, none⟩) n c) xs) (hk : k < xs.length) : w.cell? ⟨g, k, none⟩ = some (.string (elt textF xs k)) := by
  have := h.get (k := k) (j := 0) (u := .string (elt textF xs k)) hk rfl
  simpa [textF] using this
theorem OwnF.putT {xs : List ByteArray} (h : OwnF textF t w lo hi (.slice (some ⟨g, 0, none⟩) n c) xs) (hk : k < xs.length) (x : ByteArray) : OwnF textF t (w.setCell ⟨g, k, none⟩ (.string x)) lo hi (.slice (some ⟨g, 0, none⟩) n c) (xs.set k x) := by
  have := h.put (k := k) (j := 0) (y := x) (u := .string x) hk (by decide) rfl
  simpa [textF] using this
end
theorem str_eqB {a b : ByteArray} (h : a = b) : (a.toList == b.toList) = true := by rw [h]; simp
theorem str_neB {a b : ByteArray} (h : ¬ a = b) : (a.toList == b.toList) = false := by
  rw [beq_eq_false_iff_ne]
  intro e
  rw [Lib.toList_data, Lib.toList_data] at e
  exact h (bs_ext e)

end Go.Proofs.YtlahobdopmdfmaaDoor

/- F6 -/
namespace Go.Proofs.YtlahobdopmdfmaaDoor
open Go.RowKit

theorem f6big_any (a : Option Addr) (n c : Nat) (w : World) (hn : n ≤ 9223372036854775807) :
    Calls Tryd.prog 25 #[.slice a n c] w fun e w' => e = .returned (.bool (decide (4096 < n))) ∧ w' = w := by
  go_enter Tryd.func25, Tryd.ntmps25
  go_wp2
  go_ret
  exact ⟨ret_bool (by simp; omega), rfl⟩
end Go.Proofs.YtlahobdopmdfmaaDoor

/- FrameI -/
namespace Go.Proofs.YtlahobdopmdfmaaDoor
open Go.ChangeShapes Go.WideShapes Go.ChangeAt Go.RowKit Go.Joins
open Go.ChangeMaps (open_string shut_string)

theorem cells_int64 : Tryd.prog.cellsOf 2 = 1 := by kernel_rfl

section
variable {H : Type} {enc : TypeId × Value → H} {W : World} {base : Nat} {v : Value} {d : DataW H} {p : List MemPlace}

theorem raw_of_trod {fuel : Nat} {v : Value} {y : DataW H × List MemPlace} (hf : DataW.trod enc Tryd.prog W 0 (fun _ => true) true fuel 24 [v] = some y) :
    ∃ A C Z, v = .slice A (List.length Z) C ∧ Raw W A Z := by
  rcases open_ints Tryd.underlying24 Tryd.underlying2 cells_int64 hf with ⟨hcs, _⟩ | ⟨a, l, c, zs, hcs, _, hl, hm, hz, _, hcell, hwz⟩
  · simp at hcs
    subst hcs
    exact ⟨none, 0, [], rfl, by simp, by intro z hz; simp at hz, fun h => absurd rfl h⟩
  · simp at hcs
    subst hcs
    simp at hz
    have hlen : (zs.take l).length = l := by rw [List.length_take]; omega
    refine ⟨some a, c, zs.take l, by rw [hlen], by rw [hlen]; unfold maxLen at hm; omega, fun z hz' => hwz z (List.mem_of_mem_take hz'), fun hne => ?_⟩
    have hpos : 0 < l := by
      rcases Nat.eq_zero_or_pos l with h | h
      · subst h; simp at hne
      · exact h
    have hc0 := hcell 0 (by omega)
    obtain ⟨b, off, spot⟩ := a
    have hspot : spot = none := by simpa [Addr.add] using World.cell?_spot hc0
    subst hspot
    refine ⟨b, off, rfl, fun i hi => ?_⟩
    rw [hlen] at hi
    have h := hcell i (by omega)
    have e : nth (zs.take l) i = zs.getD i 0 := by
      rw [nth_get (by rw [hlen]; exact hi)]
      simp [List.getElem_take, List.getD_eq_getElem?_getD, List.getElem?_eq_getElem (show i < zs.length by omega)]
    rw [e, ← h]
    by_cases h0 : i = 0
    · subst h0; rfl
    · simp [Addr.add, h0]

set_option maxRecDepth 100000 in
theorem open_Int64S (hval : Value.okWide Tryd.prog W .any base 24 v) (h : DataW.Trod enc Tryd.prog W 0 (fun _ => true) true 24 v d p) :
    ∃ A C Z, v = .slice A (List.length Z) C ∧ Raw W A Z := by
  obtain ⟨a0, len, cap, rfl⟩ := okWide_slice Tryd.underlying24 hval
  obtain ⟨fuel, hf⟩ := h
  exact raw_of_trod (by simpa [Value.cells] using hf)
end
end Go.Proofs.YtlahobdopmdfmaaDoor
