/-
  impl: steps up to a time; StepTimes, StepsBy, StepsBetween.
-/
import Derived.Test.YtcfpfhlgcfmioaaDoorDrumJ
namespace Go.Proofs.YtcfpfhlgcfmioaaDoor
open Go.RowKit

theorem stepTimes_any (K B T F d : Int) (w : World) (hD : Drm K B T F) (h1 : 0 ≤ d) (h2 : d < B) :
    Calls Tryd.prog 40 #[.agg #[.int .i64 K, .int .i64 B, .int .i64 T, .int .i64 F], .int .i64 d] w fun e w' => ∃ A C, e = .returned (.slice A d.toNat C) ∧ Own 2 w' w.heap.size w'.heap.size (.slice A d.toNat C) (tms K B T F d) ∧ Below w.heap.size w w' := by
  have a1 := hD.k1
  have a2 := hD.k2
  obtain rfl | rfl | rfl : K = 1 ∨ K = 2 ∨ K = 3 := by omega
  · exact stepTimes1 B T F d w hD h1 h2
  · exact stepTimes2 B T F d w hD h1 h2
  · exact stepTimes3 B T F d w hD h1 h2

set_option maxHeartbeats 2000000 in
theorem stepsBy_any (K B T F d t : Int) (w : World) (hD : Drm K B T F) (h1 : 0 ≤ d) (h2 : d < B) (t1 : 0 ≤ t) (t2 : t ≤ 100000) :
    Calls Tryd.prog 36 #[.agg #[.int .i64 K, .int .i64 B, .int .i64 T, .int .i64 F], .int .i64 d, .int .i64 t] w fun e w' => e = .returned (.int .i64 (byR K B T F d t)) ∧ Below w.heap.size w w' := by
  obtain ⟨n, rfl⟩ := Int.eq_ofNat_of_zero_le h1
  have hT1 : 2 ≤ T := by have := hD.b1; have := hD.t1; omega
  have hT2 := hD.t2
  have hn16 : n < 16 := by have := hD.b2; omega
  obtain ⟨q0, q1, q2, q3, q4, q5⟩ := by_quo hD h1 h2 t1 t2
  obtain ⟨x, hx⟩ : ∃ x, x = t / T * (n : Int) := ⟨_, rfl⟩
  have HB := Lib.hid (show byR K B T F n t = x + leC (t % T) (tms K B T F n) by rw [byR, hx])
  have HC := Lib.hid (fun (k : Nat) => by_cnt (K := K) (B := B) (T := T) (F := F) (d := (k : Int)) (by omega) (t % T))
  rw [← hx] at q2 q3
  have hw1 : IntKind.i64.wrap (t / T * (n : Int)) = x := by rw [← hx]; exact IntWalk.i64_in _ (by omega)
  have hw2 : wrap64 (t / T * (n : Int)) = x := by rw [← hx]; unfold wrap64; omega
  obtain ⟨u, hu⟩ : ∃ u, u = w.alloc (.cells #[.int .i64 K, .int .i64 B, .int .i64 T, .int .i64 F] 25) := ⟨_, rfl⟩
  have bx : Bx u w.heap.size 25 #[.int .i64 K, .int .i64 B, .int .i64 T, .int .i64 F] := by rw [hu]; exact Bx.new _ _ _
  have hbel : Below w.heap.size w u := by rw [hu]; exact (by repeat (first | exact Below.refl _ _ | refine Below.setCell ?_ (by first | omega | (simp <;> omega)) _ | refine Below.alloc ?_ (by first | omega | (simp <;> omega)) _ | refine Below.drew ?_))
  have HU := Lib.hid hu
  clear hu
  have c0 := bx.at_ 0 rfl
  have c1 := bx.at_ 1 rfl
  have c2 := bx.at_ 2 rfl
  have c3 := bx.at_ 3 rfl
  have HT := Lib.hid (stepTimes_any K B T F n)
  have HD := Lib.hid hD
  clear hx hD
  go_enter Tryd.func36, Tryd.ntmps36
  go_wp2_with fail
  rw [← HU.out]
  refine (HT.out _ HD.out h1 h2).mono ?_
  rintro e w1 ⟨A, C, rfl, own, hb1⟩
  rw [show ((n : Int)).toNat = n by omega] at *
  have hrd := own.rd
  replace hbel := hbel.trans (hb1.mono hbel.size)
  clear c0 c1 c2 c3 hb1 hw1 hw2
  have hln : (tms K B T F n).length = n := by rw [tms_len]; omega
  have HL := Lib.hid hln
  clear hln
  go_wp2_with fail
  go_loop [7, 10, 25] (fun c _ i => ∃ k : Nat, k ≤ n ∧ i = .int .i64 k ∧ c = .int .i64 (x + leC (t % T) (tmsN K B T F n k))) (fun _ _ i => n - (intOf i).toNat)
  case atStart => exact ⟨0, Nat.zero_le _, rfl, by show _ = Value.int .i64 (x + 0); rw [Int.add_zero]⟩
  case round =>
    obtain ⟨k, hk, rfl, rfl⟩ := hrel
    have hc := leC_bd (t % T) (tmsN K B T F n k)
    rw [tmsN_len] at hc
    by_cases hlt : k < n
    · obtain ⟨b, off, rfl, hcell⟩ := hrd.at_ (k := k) (by rw [HL.out]; exact hlt)
      rw [tms_at (by omega)] at hcell
      by_cases hle : tm K B T F n k ≤ t % T
      · have HS := Lib.hid (leC_yes (tmsN K B T F n k) hle)
        go_wp2
        go_round
        case rel => exact ⟨k + 1, by omega, by go_num, by rw [tmsN_succ, HS.out]; first | go_num | (congr 1; omega)⟩
        case measure => (simp [intOf]) <;> omega
      · have HS := Lib.hid (leC_not (tmsN K B T F n k) hle)
        go_wp2
        go_round
        case rel => exact ⟨k + 1, by omega, by go_num, by rw [tmsN_succ, HS.out]⟩
        case measure => (simp [intOf]) <;> omega
    · obtain rfl : k = n := by omega
      go_wp2
      go_ret
      exact ⟨ret_int (by rw [HB.out]; rfl), hbel⟩

/-- The code of the program. -/
theorem digitCode_any (K B T F d : Int) (w : World) (z : I64 K ∧ I64 B ∧ I64 T ∧ I64 F) :
    Calls Tryd.prog 34 #[.agg #[.int .i64 K, .int .i64 B, .int .i64 T, .int .i64 F], .int .i64 d] w fun e w' => e = .returned (.int .i64 (codeR K B T F d)) ∧ Below w.heap.size w w' := by
  obtain ⟨u, hu⟩ : ∃ u, u = w.alloc (.cells #[.int .i64 K, .int .i64 B, .int .i64 T, .int .i64 F] 25) := ⟨_, rfl⟩
  have bx : Bx u w.heap.size 25 #[.int .i64 K, .int .i64 B, .int .i64 T, .int .i64 F] := by rw [hu]; exact Bx.new _ _ _
  have hbel : Below w.heap.size w u := by rw [hu]; exact (by repeat (first | exact Below.refl _ _ | refine Below.setCell ?_ (by first | omega | (simp <;> omega)) _ | refine Below.alloc ?_ (by first | omega | (simp <;> omega)) _ | refine Below.drew ?_))
  have HU := Lib.hid hu
  clear hu
  have c0 := bx.at_ 0 rfl
  have c1 := bx.at_ 1 rfl
  have c2 := bx.at_ 2 rfl
  have c3 := bx.at_ 3 rfl
  have HV := Lib.hid (fun v => implValidDrum K B T F v z)
  clear z
  cases hb : drumB K B T F with
  | false =>
    have HR := Lib.hid (codeR_bad (d := d) hb)
    rw [hb] at HV
    clear hb
    go_enter Tryd.func34, Tryd.ntmps34
    go_wp2_with fail
    rw [← HU.out]
    refine (HV.out _).mono ?_
    rintro e w1 ⟨rfl, hb1⟩
    replace hbel := hbel.trans (hb1.mono hbel.size)
    go_wp2
    go_ret
    exact ⟨ret_int HR.out.symm, hbel⟩
  | true =>
    have hB1 := (drm_of hb).b1
    have hB2 := (drm_of hb).b2
    rw [hb] at HV
    cases hd : inB d 0 (B - 1) with
    | false =>
      have HR := Lib.hid (codeR_range (d := d) hb (by have := inB_false hd; omega))
      have H1 := Lib.hid hd
      clear hb hd
      go_enter Tryd.func34, Tryd.ntmps34
      go_wp2_with fail
      rw [← HU.out]
      refine (HV.out _).mono ?_
      rintro e w1 ⟨rfl, hb1⟩
      replace bx := bx.below hb1
      replace hbel := hbel.trans (hb1.mono hbel.size)
      clear c0 c1 c2 c3 hb1
      have c0 := bx.at_ 0 rfl
      have c1 := bx.at_ 1 rfl
      have c2 := bx.at_ 2 rfl
      have c3 := bx.at_ 3 rfl
      go_wp2_with (go_at_call 35; refine (within1_at _ _ d _ _ _ (by go_simp)).mono ?_; rintro e w2 ⟨rfl, hq⟩; subst w2; rw [H1.out])
      go_ret
      exact ⟨ret_int HR.out.symm, hbel.alloc hbel.size _⟩
    | true =>
      have HR := Lib.hid (codeR_ok (d := d) hb (inB_true hd))
      have H1 := Lib.hid hd
      clear hb hd
      go_enter Tryd.func34, Tryd.ntmps34
      go_wp2_with fail
      rw [← HU.out]
      refine (HV.out _).mono ?_
      rintro e w1 ⟨rfl, hb1⟩
      replace bx := bx.below hb1
      replace hbel := hbel.trans (hb1.mono hbel.size)
      clear c0 c1 c2 c3 hb1
      have c0 := bx.at_ 0 rfl
      have c1 := bx.at_ 1 rfl
      have c2 := bx.at_ 2 rfl
      have c3 := bx.at_ 3 rfl
      go_wp2_with (go_at_call 35; refine (within1_at _ _ d _ _ _ (by go_simp)).mono ?_; rintro e w2 ⟨rfl, hq⟩; subst w2; rw [H1.out])
      go_ret
      exact ⟨ret_int HR.out.symm, hbel.alloc hbel.size _⟩

set_option maxHeartbeats 1000000 in
theorem implStepTimes (K B T F d : Int) (w : World) (z : I64 K ∧ I64 B ∧ I64 T ∧ I64 F) (_ : I64 d) :
    Calls Tryd.prog 12 #[.agg #[.int .i64 K, .int .i64 B, .int .i64 T, .int .i64 F], .int .i64 d] w fun e w' => ∃ A C, e = .returned (.tuple #[.slice A (stR K B T F d).1.length C, .int .i64 (stR K B T F d).2]) ∧
      Own 2 w' w.heap.size w'.heap.size (.slice A (stR K B T F d).1.length C) (stR K B T F d).1 ∧ Below w.heap.size w w' := by
  obtain ⟨u, hu⟩ : ∃ u, u = w.alloc (.cells #[.int .i64 K, .int .i64 B, .int .i64 T, .int .i64 F] 25) := ⟨_, rfl⟩
  have bx : Bx u w.heap.size 25 #[.int .i64 K, .int .i64 B, .int .i64 T, .int .i64 F] := by rw [hu]; exact Bx.new _ _ _
  have hbel : Below w.heap.size w u := by rw [hu]; exact (by repeat (first | exact Below.refl _ _ | refine Below.setCell ?_ (by first | omega | (simp <;> omega)) _ | refine Below.alloc ?_ (by first | omega | (simp <;> omega)) _ | refine Below.drew ?_))
  have HU := Lib.hid hu
  clear hu
  have c0 := bx.at_ 0 rfl
  have c1 := bx.at_ 1 rfl
  have c2 := bx.at_ 2 rfl
  have c3 := bx.at_ 3 rfl
  have HV := Lib.hid (fun v => digitCode_any K B T F d v z)
  clear z
  by_cases h : codeR K B T F d = 0
  · have HR := Lib.hid (show stR K B T F d = (tms K B T F d, 0) from if_pos h)
    obtain ⟨hD, h1, h2⟩ := codeR_of h
    have HT := Lib.hid (fun v => stepTimes_any K B T F d v hD h1 h2)
    rw [h] at HV
    clear h hD h1 h2
    go_enter Tryd.func12, Tryd.ntmps12
    go_wp2_with fail
    rw [← HU.out]
    refine (HV.out _).mono ?_
    rintro e w1 ⟨rfl, hb1⟩
    replace bx := bx.below hb1
    replace hbel := hbel.trans (hb1.mono hbel.size)
    clear c0 c1 c2 c3 hb1
    have c0 := bx.at_ 0 rfl
    have c1 := bx.at_ 1 rfl
    have c2 := bx.at_ 2 rfl
    have c3 := bx.at_ 3 rfl
    go_wp2_with fail
    refine (HT.out _).mono ?_
    rintro e w2 ⟨A, C, rfl, own, hb2⟩
    have own2 := own.wide hbel.size (Nat.le_refl _)
    replace hbel := hbel.trans (hb2.mono hbel.size)
    clear own c0 c1 c2 c3
    go_wp2
    refine bodyPost_ret (v := .tuple #[.slice A d.toNat C, .int .i64 0]) (by simp [results, Tryd.results12, go_sem]) rfl ?_
    refine ⟨A, C, ?_, ?_, hbel⟩
    · rw [HR.out]; simp [tms_len]
    · rw [HR.out]; simpa [tms_len] using own2
  · have HR := Lib.hid (show stR K B T F d = ([], codeR K B T F d) from if_neg h)
    have ht : (codeR K B T F d != 0) = true := by simp [h]
    clear h
    go_enter Tryd.func12, Tryd.ntmps12
    go_wp2_with fail
    rw [← HU.out]
    refine (HV.out _).mono ?_
    rintro e w1 ⟨rfl, hb1⟩
    replace bx := bx.below hb1
    replace hbel := hbel.trans (hb1.mono hbel.size)
    clear c0 c1 c2 c3 hb1
    have c0 := bx.at_ 0 rfl
    have c1 := bx.at_ 1 rfl
    have c2 := bx.at_ 2 rfl
    have c3 := bx.at_ 3 rfl
    go_wp2
    refine bodyPost_ret (v := .tuple #[.slice none 0 0, .int .i64 (codeR K B T F d)]) (by simp [results, Tryd.results12, go_sem]) rfl ?_
    refine ⟨none, 0, ?_, ?_, hbel⟩
    · rw [HR.out]; rfl
    · rw [HR.out]; exact own_nil _ _ _ _

set_option maxRecDepth 100000 in
set_option maxHeartbeats 2000000 in
theorem implStepsBetween (K B T F d f t : Int) (w : World) (z : I64 K ∧ I64 B ∧ I64 T ∧ I64 F) (_ : I64 d) (_ : I64 f) (_ : I64 t) :
    Calls Tryd.prog 6 #[.agg #[.int .i64 K, .int .i64 B, .int .i64 T, .int .i64 F], .int .i64 d, .int .i64 f, .int .i64 t] w fun e w' => e = .returned (.tuple #[.int .i64 (btnR K B T F d f t).1, .int .i64 (btnR K B T F d f t).2]) ∧ Below w.heap.size w w' := by
  obtain ⟨u, hu⟩ : ∃ u, u = w.alloc (.cells #[.int .i64 K, .int .i64 B, .int .i64 T, .int .i64 F] 25) := ⟨_, rfl⟩
  have bx : Bx u w.heap.size 25 #[.int .i64 K, .int .i64 B, .int .i64 T, .int .i64 F] := by rw [hu]; exact Bx.new _ _ _
  have hbel : Below w.heap.size w u := by rw [hu]; exact (by repeat (first | exact Below.refl _ _ | refine Below.setCell ?_ (by first | omega | (simp <;> omega)) _ | refine Below.alloc ?_ (by first | omega | (simp <;> omega)) _ | refine Below.drew ?_))
  have HU := Lib.hid hu
  clear hu
  have c0 := bx.at_ 0 rfl
  have c1 := bx.at_ 1 rfl
  have c2 := bx.at_ 2 rfl
  have c3 := bx.at_ 3 rfl
  have HV := Lib.hid (fun v => digitCode_any K B T F d v z)
  clear z
  by_cases h : codeR K B T F d = 0
  · obtain ⟨hD, h1, h2⟩ := codeR_of h
    rw [h] at HV
    by_cases hft : (0 ≤ f ∧ f ≤ 100000) ∧ (0 ≤ t ∧ t ≤ 100000)
    · have H1 := Lib.hid (show (inB f 0 100000 && inB t 0 100000) = true by rw [inB_yes hft.1.1 hft.1.2, inB_yes hft.2.1 hft.2.2]; rfl)
      by_cases hle : f ≤ t
      · have HR := Lib.hid (show btnR K B T F d f t = (byR K B T F d t - byR K B T F d f, 0) by rw [btnR, if_pos h, if_pos ⟨hft.1, hle, hft.2.2⟩])
        have b1 := by_bd hD h1 h2 hft.1.1 hft.1.2
        have b2 := by_bd hD h1 h2 hft.2.1 hft.2.2
        have HS := Lib.hid (fun x v => stepsBy_any K B T F d x v hD h1 h2)
        obtain ⟨⟨f1, f2⟩, t1, t2⟩ := hft
        have hw1 : IntKind.i64.wrap (byR K B T F d t - byR K B T F d f) = byR K B T F d t - byR K B T F d f := IntWalk.i64_in _ (by omega)
        have hd : decide (f > t) = false := decide_eq_false (by omega)
        clear h hD h1 h2 b1 b2
        go_enter Tryd.func6, Tryd.ntmps6
        go_wp2_with fail
        rw [← HU.out]
        refine (HV.out _).mono ?_
        rintro e w1 ⟨rfl, hb1⟩
        replace bx := bx.below hb1
        replace hbel := hbel.trans (hb1.mono hbel.size)
        clear c0 c1 c2 c3 hb1
        have c0 := bx.at_ 0 rfl
        have c1 := bx.at_ 1 rfl
        have c2 := bx.at_ 2 rfl
        have c3 := bx.at_ 3 rfl
        go_wp2_with (go_at_call 35; refine (within2_at _ _ f t _ _ _ (by go_simp) (by go_simp)).mono ?_; rintro e w2 ⟨rfl, hq⟩; subst w2; rw [H1.out])
        obtain ⟨v, hv⟩ : ∃ v, v = w1.alloc (.cells #[.int .i64 f, .int .i64 t] 2) := ⟨_, rfl⟩
        rw [← hv]
        have hb2 : Below w1.heap.size w1 v := by rw [hv]; exact (by repeat (first | exact Below.refl _ _ | refine Below.setCell ?_ (by first | omega | (simp <;> omega)) _ | refine Below.alloc ?_ (by first | omega | (simp <;> omega)) _ | refine Below.drew ?_))
        clear hv
        replace bx := bx.below hb2
        replace hbel := hbel.trans (hb2.mono hbel.size)
        clear c0 c1 c2 c3 hb2
        have c0 := bx.at_ 0 rfl
        have c1 := bx.at_ 1 rfl
        have c2 := bx.at_ 2 rfl
        have c3 := bx.at_ 3 rfl
        replace c0 := kept_after c0
        replace c1 := kept_after c1
        replace c2 := kept_after c2
        replace c3 := kept_after c3
        refine wp_region_after (by kernel_rfl) (by kernel_rfl) ?_
        repeat (go_big_quiet_step ((go_at_call 36; exact calls_after (HS.out _ _ (by omega) (by omega)))))
        refine wpQuiet_nil ?_
        intro u
        go_wp2
        go_ret2
        exact ⟨ret_two HR.out, hbel.trans (u.ok.mono hbel.size)⟩
      · have HR := Lib.hid (show btnR K B T F d f t = (0, 2) by rw [btnR, if_pos h, if_neg (fun x => hle x.2.1)])
        have hd : decide (f > t) = true := decide_eq_true (by omega)
        clear h hD h1 h2 hft
        go_enter Tryd.func6, Tryd.ntmps6
        go_wp2_with fail
        rw [← HU.out]
        refine (HV.out _).mono ?_
        rintro e w1 ⟨rfl, hb1⟩
        replace bx := bx.below hb1
        replace hbel := hbel.trans (hb1.mono hbel.size)
        clear c0 c1 c2 c3 hb1
        have c0 := bx.at_ 0 rfl
        have c1 := bx.at_ 1 rfl
        have c2 := bx.at_ 2 rfl
        have c3 := bx.at_ 3 rfl
        go_wp2_with (go_at_call 35; refine (within2_at _ _ f t _ _ _ (by go_simp) (by go_simp)).mono ?_; rintro e w2 ⟨rfl, hq⟩; subst w2; rw [H1.out])
        go_ret2
        exact ⟨ret_two HR.out, hbel.alloc hbel.size _⟩
    · have H1 := Lib.hid (show (inB f 0 100000 && inB t 0 100000) = false by
        by_cases hf : 0 ≤ f ∧ f ≤ 100000
        · rw [inB_no (n := t) (by omega), Bool.and_false]
        · rw [inB_no (n := f) (by omega), Bool.false_and])
      have HR := Lib.hid (show btnR K B T F d f t = (0, 2) by rw [btnR, if_pos h, if_neg (fun x => hft ⟨x.1, by omega, x.2.2⟩)])
      clear h hD h1 h2 hft
      go_enter Tryd.func6, Tryd.ntmps6
      go_wp2_with fail
      rw [← HU.out]
      refine (HV.out _).mono ?_
      rintro e w1 ⟨rfl, hb1⟩
      replace bx := bx.below hb1
      replace hbel := hbel.trans (hb1.mono hbel.size)
      clear c0 c1 c2 c3 hb1
      have c0 := bx.at_ 0 rfl
      have c1 := bx.at_ 1 rfl
      have c2 := bx.at_ 2 rfl
      have c3 := bx.at_ 3 rfl
      go_wp2_with (go_at_call 35; refine (within2_at _ _ f t _ _ _ (by go_simp) (by go_simp)).mono ?_; rintro e w2 ⟨rfl, hq⟩; subst w2; rw [H1.out])
      go_ret2
      exact ⟨ret_two HR.out, hbel.alloc hbel.size _⟩
  · have HR := Lib.hid (show btnR K B T F d f t = (0, codeR K B T F d) from if_neg h)
    have ht : (codeR K B T F d != 0) = true := by simp [h]
    clear h
    go_enter Tryd.func6, Tryd.ntmps6
    go_wp2_with fail
    rw [← HU.out]
    refine (HV.out _).mono ?_
    rintro e w1 ⟨rfl, hb1⟩
    replace bx := bx.below hb1
    replace hbel := hbel.trans (hb1.mono hbel.size)
    clear c0 c1 c2 c3 hb1
    have c0 := bx.at_ 0 rfl
    have c1 := bx.at_ 1 rfl
    have c2 := bx.at_ 2 rfl
    have c3 := bx.at_ 3 rfl
    go_wp2
    go_ret2
    exact ⟨ret_two HR.out, hbel⟩

theorem implStepsBy (K B T F d t : Int) (w : World) (z : I64 K ∧ I64 B ∧ I64 T ∧ I64 F) (hd : I64 d) (ht : I64 t) :
    Calls Tryd.prog 9 #[.agg #[.int .i64 K, .int .i64 B, .int .i64 T, .int .i64 F], .int .i64 d, .int .i64 t] w fun e w' => e = .returned (.tuple #[.int .i64 (sbyR K B T F d t).1, .int .i64 (sbyR K B T F d t).2]) ∧ Below w.heap.size w w' := by
  obtain ⟨u, hu⟩ : ∃ u, u = w.alloc (.cells #[.int .i64 K, .int .i64 B, .int .i64 T, .int .i64 F] 25) := ⟨_, rfl⟩
  have bx : Bx u w.heap.size 25 #[.int .i64 K, .int .i64 B, .int .i64 T, .int .i64 F] := by rw [hu]; exact Bx.new _ _ _
  have hbel : Below w.heap.size w u := by rw [hu]; exact (by repeat (first | exact Below.refl _ _ | refine Below.setCell ?_ (by first | omega | (simp <;> omega)) _ | refine Below.alloc ?_ (by first | omega | (simp <;> omega)) _ | refine Below.drew ?_))
  have HU := Lib.hid hu
  clear hu
  have c0 := bx.at_ 0 rfl
  have c1 := bx.at_ 1 rfl
  have c2 := bx.at_ 2 rfl
  have c3 := bx.at_ 3 rfl
  have HV := Lib.hid (fun v => implStepsBetween K B T F d 0 t v z hd (i64_of (by omega) (by omega)) ht)
  have HR := Lib.hid (sbyR_eq K B T F d t)
  clear z hd ht
  go_enter Tryd.func9, Tryd.ntmps9
  go_wp2_with fail
  rw [← HU.out]
  refine (HV.out _).mono ?_
  rintro e w1 ⟨rfl, hb1⟩
  go_wp2
  go_ret2
  exact ⟨by rw [HR.out]; rfl, hbel.trans (hb1.mono hbel.size)⟩
end Go.Proofs.YtcfpfhlgcfmioaaDoor
