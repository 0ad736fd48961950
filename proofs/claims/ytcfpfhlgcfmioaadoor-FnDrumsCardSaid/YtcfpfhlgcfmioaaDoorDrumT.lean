/-
  The model's StepTimes, StepsBy, StepsBetween.
-/
import Derived.Test.YtcfpfhlgcfmioaaDoorDrumS
namespace Go.Proofs.YtcfpfhlgcfmioaaDoor
open Go.RowKit

set_option maxHeartbeats 1000000 in
theorem specStepTimes (K B T F d : Int) (w : World) (_ : I64 K ∧ I64 B ∧ I64 T ∧ I64 F) (_ : I64 d) :
    Calls Tryd.prog 13 #[.agg #[.int .i64 K, .int .i64 B, .int .i64 T, .int .i64 F], .int .i64 d] w fun e w' => ∃ A C, e = .returned (.tuple #[.slice A (stR K B T F d).1.length C, .int .i64 (stR K B T F d).2]) ∧
      Own 2 w' w.heap.size w'.heap.size (.slice A (stR K B T F d).1.length C) (stR K B T F d).1 ∧ Below w.heap.size w w' := by
  obtain ⟨u, hu⟩ : ∃ u, u = w.alloc (.cells #[.int .i64 K, .int .i64 B, .int .i64 T, .int .i64 F] 25) := ⟨_, rfl⟩
  have bx : Bx u w.heap.size 25 #[.int .i64 K, .int .i64 B, .int .i64 T, .int .i64 F] := by rw [hu]; exact Bx.new _ _ _
  have hbel : Below w.heap.size w u := by rw [hu]; exact (by repeat (first | exact Below.refl _ _ | refine Below.setCell ?_ (by first | omega | (simp <;> omega)) _ | refine Below.alloc ?_ (by first | omega | (simp <;> omega)) _ | refine Below.drew ?_))
  have HU := Lib.hid hu
  clear hu
  have c0 := bx.at_ 0 rfl
  have c1 := bx.at_ 1 rfl
  have c2 := bx.at_ 2 rfl
  have c3 := bx.at_ 3 rfl
  have hat := DrumAt.of_box bx
  have HV := Lib.hid (l05Code_any _ K B T F d u hat)
  clear c0 c1 c2 c3
  by_cases h : codeR K B T F d = 0
  · have HR := Lib.hid (show stR K B T F d = (tms K B T F d, 0) from if_pos h)
    obtain ⟨hD, h1, h2⟩ := codeR_of h
    have HT := Lib.hid (fun v (hv : DrumAt v w.heap.size K B T F) => l05Times_any w.heap.size K B T F d v hv hD h1 h2)
    rw [h] at HV
    clear h hD h1 h2
    go_enter Tryd.func13, Tryd.ntmps13
    go_wp2_with fail
    rw [← HU.out]
    refine HV.out.mono ?_
    rintro e w1 ⟨rfl, k, hw⟩
    replace hat : DrumAt w1 w.heap.size K B T F := by rw [hw]; exact hat.drewN k
    replace hbel : Below w.heap.size w w1 := by rw [hw]; exact bel_drewN hbel k
    clear hw
    go_wp2_with fail
    refine (HT.out _ hat).mono ?_
    rintro e w2 ⟨A, C, rfl, own, hb2⟩
    have own2 := own.wide (lo' := w.heap.size) (by exact hbel.size) (Nat.le_refl _)
    replace hbel := hbel.trans (hb2.mono hbel.size)
    clear own
    go_wp2
    refine bodyPost_ret (v := .tuple #[.slice A d.toNat C, .int .i64 0]) (by simp [results, Tryd.results13, go_sem]) rfl ?_
    refine ⟨A, C, ?_, ?_, hbel⟩
    · rw [HR.out]; simp [tms_len]
    · rw [HR.out]; simpa [tms_len] using own2
  · have HR := Lib.hid (show stR K B T F d = ([], codeR K B T F d) from if_neg h)
    have ht : (codeR K B T F d != 0) = true := by simp [h]
    clear h
    go_enter Tryd.func13, Tryd.ntmps13
    go_wp2_with fail
    rw [← HU.out]
    refine HV.out.mono ?_
    rintro e w1 ⟨rfl, k, hw⟩
    replace hat : DrumAt w1 w.heap.size K B T F := by rw [hw]; exact hat.drewN k
    replace hbel : Below w.heap.size w w1 := by rw [hw]; exact bel_drewN hbel k
    clear hw
    go_wp2
    refine bodyPost_ret (v := .tuple #[.slice none 0 0, .int .i64 (codeR K B T F d)]) (by simp [results, Tryd.results13, go_sem]) rfl ?_
    refine ⟨none, 0, ?_, ?_, hbel⟩
    · rw [HR.out]; rfl
    · rw [HR.out]; exact own_nil _ _ _ _

set_option maxHeartbeats 1000000 in
theorem specStepsBy (K B T F d t : Int) (w : World) (_ : I64 K ∧ I64 B ∧ I64 T ∧ I64 F) (_ : I64 d) (_ : I64 t) :
    Calls Tryd.prog 10 #[.agg #[.int .i64 K, .int .i64 B, .int .i64 T, .int .i64 F], .int .i64 d, .int .i64 t] w fun e w' => e = .returned (.tuple #[.int .i64 (sbyR K B T F d t).1, .int .i64 (sbyR K B T F d t).2]) ∧ Below w.heap.size w w' := by
  obtain ⟨u, hu⟩ : ∃ u, u = w.alloc (.cells #[.int .i64 K, .int .i64 B, .int .i64 T, .int .i64 F] 25) := ⟨_, rfl⟩
  have bx : Bx u w.heap.size 25 #[.int .i64 K, .int .i64 B, .int .i64 T, .int .i64 F] := by rw [hu]; exact Bx.new _ _ _
  have hbel : Below w.heap.size w u := by rw [hu]; exact (by repeat (first | exact Below.refl _ _ | refine Below.setCell ?_ (by first | omega | (simp <;> omega)) _ | refine Below.alloc ?_ (by first | omega | (simp <;> omega)) _ | refine Below.drew ?_))
  have HU := Lib.hid hu
  clear hu
  have c0 := bx.at_ 0 rfl
  have c1 := bx.at_ 1 rfl
  have c2 := bx.at_ 2 rfl
  have c3 := bx.at_ 3 rfl
  have hat := DrumAt.of_box bx
  have HV := Lib.hid (l05Code_any _ K B T F d u hat)
  clear c0 c1 c2 c3
  by_cases h : codeR K B T F d = 0
  · obtain ⟨hD, h1, h2⟩ := codeR_of h
    rw [h] at HV
    cases hi : inB t 0 100000 with
    | true =>
      have HI := Lib.hid hi
      obtain ⟨t1, t2⟩ := inB_true hi
      have HR := Lib.hid (show sbyR K B T F d t = (byR K B T F d t, 0) by rw [sbyR, if_pos h, if_pos ⟨t1, t2⟩])
      have HT := Lib.hid (fun v (hv : DrumAt v w.heap.size K B T F) => l05By_any w.heap.size K B T F d t v hv hD h1 h2 t1 t2)
      clear h hD h1 h2 hi
      go_enter Tryd.func10, Tryd.ntmps10
      go_wp2_with fail
      rw [← HU.out]
      refine HV.out.mono ?_
      rintro e w1 ⟨rfl, k, hw⟩
      replace hat : DrumAt w1 w.heap.size K B T F := by rw [hw]; exact hat.drewN k
      replace hbel : Below w.heap.size w w1 := by rw [hw]; exact bel_drewN hbel k
      clear hw
      go_wp2_with (go_at_call 38; refine (l00In_any _ _ _ _).mono ?_; rintro e w2 ⟨rfl, hq⟩; subst w2; rw [HI.out])
      refine (HT.out _ hat).mono ?_
      rintro e w2 ⟨rfl, m, hw⟩
      replace hat : DrumAt w2 w.heap.size K B T F := by rw [hw]; exact hat.drewN m
      replace hbel : Below w.heap.size w w2 := by rw [hw]; exact bel_drewN hbel m
      clear hw
      go_wp2
      go_ret2
      exact ⟨ret_two HR.out, hbel⟩
    | false =>
      have HI := Lib.hid hi
      have HR := Lib.hid (show sbyR K B T F d t = (0, 2) by rw [sbyR, if_pos h, if_neg (by have := inB_false hi; omega)])
      clear h hD h1 h2 hi
      go_enter Tryd.func10, Tryd.ntmps10
      go_wp2_with fail
      rw [← HU.out]
      refine HV.out.mono ?_
      rintro e w1 ⟨rfl, k, hw⟩
      replace hat : DrumAt w1 w.heap.size K B T F := by rw [hw]; exact hat.drewN k
      replace hbel : Below w.heap.size w w1 := by rw [hw]; exact bel_drewN hbel k
      clear hw
      go_wp2_with (go_at_call 38; refine (l00In_any _ _ _ _).mono ?_; rintro e w2 ⟨rfl, hq⟩; subst w2; rw [HI.out])
      go_ret2
      exact ⟨ret_two HR.out, hbel⟩
  · have HR := Lib.hid (show sbyR K B T F d t = (0, codeR K B T F d) from if_neg h)
    have ht : (codeR K B T F d != 0) = true := by simp [h]
    have ht2 : (codeR K B T F d == 0) = false := by simp [h]
    clear h
    go_enter Tryd.func10, Tryd.ntmps10
    go_wp2_with fail
    rw [← HU.out]
    refine HV.out.mono ?_
    rintro e w1 ⟨rfl, k, hw⟩
    replace hat : DrumAt w1 w.heap.size K B T F := by rw [hw]; exact hat.drewN k
    replace hbel : Below w.heap.size w w1 := by rw [hw]; exact bel_drewN hbel k
    clear hw
    go_wp2
    go_ret2
    exact ⟨ret_two HR.out, hbel⟩

set_option maxHeartbeats 2000000 in
theorem specStepsBetween (K B T F d f t : Int) (w : World) (_ : I64 K ∧ I64 B ∧ I64 T ∧ I64 F) (_ : I64 d) (_ : I64 f) (_ : I64 t) :
    Calls Tryd.prog 7 #[.agg #[.int .i64 K, .int .i64 B, .int .i64 T, .int .i64 F], .int .i64 d, .int .i64 f, .int .i64 t] w fun e w' => e = .returned (.tuple #[.int .i64 (btnR K B T F d f t).1, .int .i64 (btnR K B T F d f t).2]) ∧ Below w.heap.size w w' := by
  obtain ⟨u, hu⟩ : ∃ u, u = w.alloc (.cells #[.int .i64 K, .int .i64 B, .int .i64 T, .int .i64 F] 25) := ⟨_, rfl⟩
  have bx : Bx u w.heap.size 25 #[.int .i64 K, .int .i64 B, .int .i64 T, .int .i64 F] := by rw [hu]; exact Bx.new _ _ _
  have hbel : Below w.heap.size w u := by rw [hu]; exact (by repeat (first | exact Below.refl _ _ | refine Below.setCell ?_ (by first | omega | (simp <;> omega)) _ | refine Below.alloc ?_ (by first | omega | (simp <;> omega)) _ | refine Below.drew ?_))
  have HU := Lib.hid hu
  clear hu
  have c0 := bx.at_ 0 rfl
  have c1 := bx.at_ 1 rfl
  have c2 := bx.at_ 2 rfl
  have c3 := bx.at_ 3 rfl
  have hat := DrumAt.of_box bx
  have HV := Lib.hid (l05Code_any _ K B T F d u hat)
  clear c0 c1 c2 c3
  by_cases h : codeR K B T F d = 0
  · obtain ⟨hD, h1, h2⟩ := codeR_of h
    rw [h] at HV
    by_cases hft : (0 ≤ f ∧ f ≤ 100000) ∧ f ≤ t ∧ t ≤ 100000
    · have HR := Lib.hid (show btnR K B T F d f t = (byR K B T F d t - byR K B T F d f, 0) by rw [btnR, if_pos h, if_pos hft])
      obtain ⟨⟨f1, f2⟩, f3, t2⟩ := hft
      have i1 := inB_yes f1 f2
      have i2 := inB_yes f3 t2
      have b1 := by_bd hD h1 h2 f1 f2
      have b2 := by_bd hD h1 h2 (show 0 ≤ t by omega) t2
      have hw1 : IntKind.i64.wrap (byR K B T F d t - byR K B T F d f) = byR K B T F d t - byR K B T F d f := IntWalk.i64_in _ (by omega)
      have HT := Lib.hid (fun x v (hv : DrumAt v w.heap.size K B T F) => l05By_any w.heap.size K B T F d x v hv hD h1 h2)
      have I1 := Lib.hid i1
      have I2 := Lib.hid i2
      clear h hD h1 h2 i1 i2 b1 b2
      go_enter Tryd.func7, Tryd.ntmps7
      go_wp2_with fail
      rw [← HU.out]
      refine HV.out.mono ?_
      rintro e w1 ⟨rfl, k, hw⟩
      replace hat : DrumAt w1 w.heap.size K B T F := by rw [hw]; exact hat.drewN k
      replace hbel : Below w.heap.size w w1 := by rw [hw]; exact bel_drewN hbel k
      clear hw
      go_wp2_with (go_at_call 38; refine (l00In_any _ _ _ _).mono ?_; rintro e w2 ⟨rfl, hq⟩; subst w2; first | rw [I1.out] | rw [I2.out])
      refine (HT.out t _ hat (by omega) t2).mono ?_
      rintro e w2 ⟨rfl, m, hw⟩
      replace hat : DrumAt w2 w.heap.size K B T F := by rw [hw]; exact hat.drewN m
      replace hbel : Below w.heap.size w w2 := by rw [hw]; exact bel_drewN hbel m
      clear hw
      go_wp2_with fail
      refine (HT.out f _ hat f1 f2).mono ?_
      rintro e w2 ⟨rfl, m2, hw⟩
      replace hat : DrumAt w2 w.heap.size K B T F := by rw [hw]; exact hat.drewN m2
      replace hbel : Below w.heap.size w w2 := by rw [hw]; exact bel_drewN hbel m2
      clear hw
      go_wp2
      go_ret2
      exact ⟨ret_two HR.out, hbel⟩
    · have HR := Lib.hid (show btnR K B T F d f t = (0, 2) by rw [btnR, if_pos h, if_neg hft])
      by_cases hf : 0 ≤ f ∧ f ≤ 100000
      · have I1 := Lib.hid (inB_yes hf.1 hf.2)
        have I2 := Lib.hid (show inB t f 100000 = false from inB_no (by omega))
        clear h hD h1 h2 hft hf
        go_enter Tryd.func7, Tryd.ntmps7
        go_wp2_with fail
        rw [← HU.out]
        refine HV.out.mono ?_
        rintro e w1 ⟨rfl, k, hw⟩
        replace hat : DrumAt w1 w.heap.size K B T F := by rw [hw]; exact hat.drewN k
        replace hbel : Below w.heap.size w w1 := by rw [hw]; exact bel_drewN hbel k
        clear hw
        go_wp2_with (go_at_call 38; refine (l00In_any _ _ _ _).mono ?_; rintro e w2 ⟨rfl, hq⟩; subst w2; first | rw [I1.out] | rw [I2.out])
        go_ret2
        exact ⟨ret_two HR.out, hbel⟩
      · have I1 := Lib.hid (show inB f 0 100000 = false from inB_no (by omega))
        clear h hD h1 h2 hft hf
        go_enter Tryd.func7, Tryd.ntmps7
        go_wp2_with fail
        rw [← HU.out]
        refine HV.out.mono ?_
        rintro e w1 ⟨rfl, k, hw⟩
        replace hat : DrumAt w1 w.heap.size K B T F := by rw [hw]; exact hat.drewN k
        replace hbel : Below w.heap.size w w1 := by rw [hw]; exact bel_drewN hbel k
        clear hw
        go_wp2_with (go_at_call 38; refine (l00In_any _ _ _ _).mono ?_; rintro e w2 ⟨rfl, hq⟩; subst w2; rw [I1.out])
        go_ret2
        exact ⟨ret_two HR.out, hbel⟩
  · have HR := Lib.hid (show btnR K B T F d f t = (0, codeR K B T F d) from if_neg h)
    have ht : (codeR K B T F d != 0) = true := by simp [h]
    have ht2 : (codeR K B T F d == 0) = false := by simp [h]
    clear h
    go_enter Tryd.func7, Tryd.ntmps7
    go_wp2_with fail
    rw [← HU.out]
    refine HV.out.mono ?_
    rintro e w1 ⟨rfl, k, hw⟩
    replace hat : DrumAt w1 w.heap.size K B T F := by rw [hw]; exact hat.drewN k
    replace hbel : Below w.heap.size w w1 := by rw [hw]; exact bel_drewN hbel k
    clear hw
    go_wp2
    go_ret2
    exact ⟨ret_two HR.out, hbel⟩

theorem specValidDrum (K B T F : Int) (w : World) (_ : I64 K ∧ I64 B ∧ I64 T ∧ I64 F) : Calls Tryd.prog 26 #[.agg #[.int .i64 K, .int .i64 B, .int .i64 T, .int .i64 F]] w fun e w' => e = .returned (.bool (drumB K B T F)) ∧ Below w.heap.size w w' := by
  obtain ⟨u, hu⟩ : ∃ u, u = w.alloc (.cells #[.int .i64 K, .int .i64 B, .int .i64 T, .int .i64 F] 25) := ⟨_, rfl⟩
  have bx : Bx u w.heap.size 25 #[.int .i64 K, .int .i64 B, .int .i64 T, .int .i64 F] := by rw [hu]; exact Bx.new _ _ _
  have hbel : Below w.heap.size w u := by rw [hu]; exact (by repeat (first | exact Below.refl _ _ | refine Below.setCell ?_ (by first | omega | (simp <;> omega)) _ | refine Below.alloc ?_ (by first | omega | (simp <;> omega)) _ | refine Below.drew ?_))
  have HU := Lib.hid hu
  clear hu
  have c0 := bx.at_ 0 rfl
  have c1 := bx.at_ 1 rfl
  have c2 := bx.at_ 2 rfl
  have c3 := bx.at_ 3 rfl
  have hat := DrumAt.of_box bx
  have HV := Lib.hid (l05Ok_any _ K B T F u hat)
  clear c0 c1 c2 c3
  go_enter Tryd.func26, Tryd.ntmps26
  go_wp2_with fail
  rw [← HU.out]
  refine HV.out.mono ?_
  rintro e w1 ⟨rfl, k, hw⟩
  replace hat : DrumAt w1 w.heap.size K B T F := by rw [hw]; exact hat.drewN k
  replace hbel : Below w.heap.size w w1 := by rw [hw]; exact bel_drewN hbel k
  clear hw
  go_wp2
  go_ret
  exact ⟨rfl, hbel⟩
end Go.Proofs.YtcfpfhlgcfmioaaDoor
