/-
  impl: steps up to a time; StepTimes, StepsBy, StepsBetween.
-/
import Derived.Test.YtgfpjcckkbhdjaaDrumJ
namespace Go.Proofs.Ytgfpjcckkbhdjaa
open Go.RowKit

theorem stepTimes_any (K B T F d : Int) (w : World) (hD : Drm K B T F) (h1 : 0 ≤ d) (h2 : d < B) :
    Calls Try.prog 177 #[.agg #[.int .i64 K, .int .i64 B, .int .i64 T, .int .i64 F], .int .i64 d] w fun e w' => ∃ A C, e = .returned (.slice A d.toNat C) ∧ Own 2 w' w.heap.size w'.heap.size (.slice A d.toNat C) (tms K B T F d) ∧ Below w.heap.size w w' := by
  have a1 := hD.k1
  have a2 := hD.k2
  obtain rfl | rfl | rfl : K = 1 ∨ K = 2 ∨ K = 3 := by omega
  · exact stepTimes1 B T F d w hD h1 h2
  · exact stepTimes2 B T F d w hD h1 h2
  · exact stepTimes3 B T F d w hD h1 h2

set_option maxHeartbeats 2000000 in
theorem stepsBy_any (K B T F d t : Int) (w : World) (hD : Drm K B T F) (h1 : 0 ≤ d) (h2 : d < B) (t1 : 0 ≤ t) (t2 : t ≤ 100000) :
    Calls Try.prog 167 #[.agg #[.int .i64 K, .int .i64 B, .int .i64 T, .int .i64 F], .int .i64 d, .int .i64 t] w fun e w' => e = .returned (.int .i64 (byR K B T F d t)) ∧ Below w.heap.size w w' := by
  obtain ⟨n, rfl⟩ := Int.eq_ofNat_of_zero_le h1
  have hT1 : 2 ≤ T := by have := hD.b1; have := hD.t1; omega
  have hT2 := hD.t2
  have hn16 : n < 16 := by have := hD.b2; omega
  obtain ⟨q0, q1, q2, q3, q4, q5⟩ := by_quo hD h1 h2 t1 t2
  obtain ⟨x, hx⟩ : ∃ x, x = t / T * (n : Int) := ⟨_, rfl⟩
  have HB := Lib.hid (show byR K B T F n t = x + leC (t % T) (tms K B T F n) by rw [byR, hx])
  have HC := Lib.hid (fun (k : Nat) => by_cnt (K := K) (B := B) (T := T) (F := F) (d := (k : Int)) (by omega) (t % T))
  rw [← hx] at q2 q3
  have hw1 : IntKind.i64.wrap (t / T * (n : Int)) = x := by rw [← hx]; exact IntWalk.i64_in _ (by omega)
  have hw2 : wrap64 (t / T * (n : Int)) = x := by rw [← hx]; unfold wrap64; omega
  obtain ⟨u, hu⟩ : ∃ u, u = w.alloc (.cells #[.int .i64 K, .int .i64 B, .int .i64 T, .int .i64 F] 86) := ⟨_, rfl⟩
  have bx : Bx u w.heap.size 86 #[.int .i64 K, .int .i64 B, .int .i64 T, .int .i64 F] := by rw [hu]; exact Bx.new _ _ _
  have hbel : Below w.heap.size w u := by rw [hu]; exact (by repeat (first | exact Below.refl _ _ | refine Below.setCell ?_ (by first | omega | (simp <;> omega)) _ | refine Below.alloc ?_ (by first | omega | (simp <;> omega)) _ | refine Below.drew ?_))
  have HU := Lib.hid hu
  clear hu
  have c0 := bx.at_ 0 rfl
  have c1 := bx.at_ 1 rfl
  have c2 := bx.at_ 2 rfl
  have c3 := bx.at_ 3 rfl
  have HT := Lib.hid (stepTimes_any K B T F n)
  have HD := Lib.hid hD
  clear hx hD
  go_enter Try.func167, Try.ntmps167
  go_wp2_with fail
  rw [← HU.out]
  refine (HT.out _ HD.out h1 h2).mono ?_
  rintro e w1 ⟨A, C, rfl, own, hb1⟩
  rw [show ((n : Int)).toNat = n by omega] at *
  have hrd := own.rd
  replace hbel := hbel.trans (hb1.mono hbel.size)
  clear c0 c1 c2 c3 hb1 hw1 hw2
  have hln : (tms K B T F n).length = n := by rw [tms_len]; omega
  have HL := Lib.hid hln
  clear hln
  go_wp2_with fail
  go_loop [7, 10, 25] (fun c _ i => ∃ k : Nat, k ≤ n ∧ i = .int .i64 k ∧ c = .int .i64 (x + leC (t % T) (tmsN K B T F n k))) (fun _ _ i => n - (intOf i).toNat)
  case atStart => exact ⟨0, Nat.zero_le _, rfl, by show _ = Value.int .i64 (x + 0); rw [Int.add_zero]⟩
  case round =>
    obtain ⟨k, hk, rfl, rfl⟩ := hrel
    have hc := leC_bd (t % T) (tmsN K B T F n k)
    rw [tmsN_len] at hc
    by_cases hlt : k < n
    · obtain ⟨b, off, rfl, hcell⟩ := hrd.at_ (k := k) (by rw [HL.out]; exact hlt)
      rw [tms_at (by omega)] at hcell
      by_cases hle : tm K B T F n k ≤ t % T
      · have HS := Lib.hid (leC_yes (tmsN K B T F n k) hle)
        go_wp2
        go_round
        case rel => exact ⟨k + 1, by omega, by go_num, by rw [tmsN_succ, HS.out]; first | go_num | (congr 1; omega)⟩
        case measure => (simp [intOf]) <;> omega
      · have HS := Lib.hid (leC_not (tmsN K B T F n k) hle)
        go_wp2
        go_round
        case rel => exact ⟨k + 1, by omega, by go_num, by rw [tmsN_succ, HS.out]⟩
        case measure => (simp [intOf]) <;> omega
    · obtain rfl : k = n := by omega
      go_wp2
      go_ret
      exact ⟨ret_int (by rw [HB.out]; rfl), hbel⟩

/-- The code of the program. -/
theorem digitCode_any (K B T F d : Int) (w : World) (z : I64 K ∧ I64 B ∧ I64 T ∧ I64 F) :
    Calls Try.prog 172 #[.agg #[.int .i64 K, .int .i64 B, .int .i64 T, .int .i64 F], .int .i64 d] w fun e w' => e = .returned (.int .i64 (codeR K B T F d)) ∧ Below w.heap.size w w' := by
  obtain ⟨u, hu⟩ : ∃ u, u = w.alloc (.cells #[.int .i64 K, .int .i64 B, .int .i64 T, .int .i64 F] 86) := ⟨_, rfl⟩
  have bx : Bx u w.heap.size 86 #[.int .i64 K, .int .i64 B, .int .i64 T, .int .i64 F] := by rw [hu]; exact Bx.new _ _ _
  have hbel : Below w.heap.size w u := by rw [hu]; exact (by repeat (first | exact Below.refl _ _ | refine Below.setCell ?_ (by first | omega | (simp <;> omega)) _ | refine Below.alloc ?_ (by first | omega | (simp <;> omega)) _ | refine Below.drew ?_))
  have HU := Lib.hid hu
  clear hu
  have c0 := bx.at_ 0 rfl
  have c1 := bx.at_ 1 rfl
  have c2 := bx.at_ 2 rfl
  have c3 := bx.at_ 3 rfl
  have HV := Lib.hid (fun v => implValidDrum K B T F v z)
  clear z
  cases hb : drumB K B T F with
  | false =>
    have HR := Lib.hid (codeR_bad (d := d) hb)
    rw [hb] at HV
    clear hb
    go_enter Try.func172, Try.ntmps172
    go_wp2_with fail
    rw [← HU.out]
    refine (HV.out _).mono ?_
    rintro e w1 ⟨rfl, hb1⟩
    replace hbel := hbel.trans (hb1.mono hbel.size)
    go_wp2
    go_ret
    exact ⟨ret_int HR.out.symm, hbel⟩
  | true =>
    have hB1 := (drm_of hb).b1
    have hB2 := (drm_of hb).b2
    rw [hb] at HV
    cases hd : inB d 0 (B - 1) with
    | false =>
      have HR := Lib.hid (codeR_range (d := d) hb (by have := inB_false hd; omega))
      have H1 := Lib.hid hd
      clear hb hd
      go_enter Try.func172, Try.ntmps172
      go_wp2_with fail
      rw [← HU.out]
      refine (HV.out _).mono ?_
      rintro e w1 ⟨rfl, hb1⟩
      replace bx := bx.below hb1
      replace hbel := hbel.trans (hb1.mono hbel.size)
      clear c0 c1 c2 c3 hb1
      have c0 := bx.at_ 0 rfl
      have c1 := bx.at_ 1 rfl
      have c2 := bx.at_ 2 rfl
      have c3 := bx.at_ 3 rfl
      go_wp2_with (go_at_call 166; refine (within1_at _ _ d _ _ _ (by go_simp)).mono ?_; rintro e w2 ⟨rfl, hq⟩; subst w2; rw [H1.out])
      go_ret
      exact ⟨ret_int HR.out.symm, hbel.alloc hbel.size _⟩
    | true =>
      have HR := Lib.hid (codeR_ok (d := d) hb (inB_true hd))
      have H1 := Lib.hid hd
      clear hb hd
      go_enter Try.func172, Try.ntmps172
      go_wp2_with fail
      rw [← HU.out]
      refine (HV.out _).mono ?_
      rintro e w1 ⟨rfl, hb1⟩
      replace bx := bx.below hb1
      replace hbel := hbel.trans (hb1.mono hbel.size)
      clear c0 c1 c2 c3 hb1
      have c0 := bx.at_ 0 rfl
      have c1 := bx.at_ 1 rfl
      have c2 := bx.at_ 2 rfl
      have c3 := bx.at_ 3 rfl
      go_wp2_with (go_at_call 166; refine (within1_at _ _ d _ _ _ (by go_simp)).mono ?_; rintro e w2 ⟨rfl, hq⟩; subst w2; rw [H1.out])
      go_ret
      exact ⟨ret_int HR.out.symm, hbel.alloc hbel.size _⟩

end Go.Proofs.Ytgfpjcckkbhdjaa
