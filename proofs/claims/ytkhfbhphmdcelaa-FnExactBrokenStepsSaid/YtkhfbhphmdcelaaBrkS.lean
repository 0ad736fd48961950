/-
  spec.BrokenSteps.
-/
import Derived.Test.YtkhfbhphmdcelaaDrumT
namespace Go.Proofs.Ytkhfbhphmdcelaa
open Go.RowKit

theorem tooth_tm {K B T F d k : Int} (h : K = 1 ∨ K = 2) : tm K B T F d k - F = tooth K B d k := by
  rcases h with rfl | rfl
  · rw [tm1, show tooth 1 B d k = B - 1 - d + k from rfl]; omega
  · rw [tm2, show tooth 2 B d k = k from rfl]; omega
theorem pow_bd {n : Nat} (h : n ≤ 15) : (1 : Int) ≤ 2 ^ n ∧ (2 : Int) ^ n ≤ 32768 := by
  refine ⟨Int.pow_pos (by omega), ?_⟩
  have : (2 : Int) ^ n ≤ 2 ^ 15 := by exact_mod_cast Nat.pow_le_pow_right (by omega : 0 < 2) h
  simpa using this

set_option maxRecDepth 100000 in
set_option maxHeartbeats 4000000 in
theorem specBrokenSteps (K B T F d x : Int) (w : World) (_ : I64 K ∧ I64 B ∧ I64 T ∧ I64 F) (_ : I64 d) (_ : I64 x) :
    Calls Try.prog 54 #[.agg #[.int .i64 K, .int .i64 B, .int .i64 T, .int .i64 F], .int .i64 d, .int .i64 x] w fun e w' => e = .returned (.tuple #[.int .i64 (brR K B T F d x).1, .int .i64 (brR K B T F d x).2]) ∧ Below w.heap.size w w' := by
  obtain ⟨u, hu⟩ : ∃ u, u = w.alloc (.cells #[.int .i64 K, .int .i64 B, .int .i64 T, .int .i64 F] 57) := ⟨_, rfl⟩
  have bx : Bx u w.heap.size 57 #[.int .i64 K, .int .i64 B, .int .i64 T, .int .i64 F] := by rw [hu]; exact Bx.new _ _ _
  have hbel : Below w.heap.size w u := by rw [hu]; exact (by repeat (first | exact Below.refl _ _ | refine Below.setCell ?_ (by first | omega | (simp <;> omega)) _ | refine Below.alloc ?_ (by first | omega | (simp <;> omega)) _ | refine Below.drew ?_))
  have HU := Lib.hid hu
  clear hu
  have c0 := bx.at_ 0 rfl
  have c1 := bx.at_ 1 rfl
  have c2 := bx.at_ 2 rfl
  have c3 := bx.at_ 3 rfl
  have hat := DrumAt.of_box bx
  have HV := Lib.hid (l05Code_any _ K B T F d u hat)
  by_cases h : codeR K B T F d = 0
  · obtain ⟨hD, h1, h2⟩ := codeR_of h
    have hB1 := hD.b1
    have hB2 := hD.b2
    rw [h] at HV
    obtain ⟨p, hp⟩ : ∃ p, p = (2 : Int) ^ (B.toNat - 1) := ⟨_, rfl⟩
    have hpb := pow_bd (n := B.toNat - 1) (by omega)
    rw [← hp] at hpb
    obtain ⟨p0, p1⟩ := hpb
    have hbt : (B - 1).toNat = B.toNat - 1 := by omega
    have hmin : min (B.toNat - 1) 64 = B.toNat - 1 := by omega
    have hp' := hp.symm
    have hw1 : IntKind.i64.wrap p = p := IntWalk.i64_in _ (by omega)
    cases hx : inB x 0 (p - 1) with
    | true =>
      have HI := Lib.hid hx
      have HX := Lib.hid (show 0 ≤ x ∧ x < 2 ^ (B - 1).toNat by rw [hbt, hp']; have := inB_true hx; omega)
      have HH := Lib.hid h
      have HP := Lib.hid hp
      have HD := Lib.hid hD
      clear hx
      by_cases h3 : K = 3
      · subst h3
        have HR := Lib.hid (show brR 3 B T F d x = (0, 6) by rw [brR, if_pos h, if_pos HX.out, if_pos rfl])
        clear h hD hp hbt
        go_enter Try.func54, Try.ntmps54
        go_wp2_with fail
        rw [← HU.out]
        refine HV.out.mono ?_
        rintro e w1 ⟨rfl, k, hw⟩
        replace bx : Bx w1 w.heap.size 57 #[.int .i64 3, .int .i64 B, .int .i64 T, .int .i64 F] := by rw [hw]; exact bx.drewN k
        replace hat := DrumAt.of_box bx
        replace hbel : Below w.heap.size w w1 := by rw [hw]; exact bel_drewN hbel k
        clear c0 c1 c2 c3 hw
        have c0 := bx.at_ 0 rfl
        have c1 := bx.at_ 1 rfl
        have c2 := bx.at_ 2 rfl
        have c3 := bx.at_ 3 rfl
        go_wp2_with (go_at_call 92; refine (l00In_any _ _ _ _).mono ?_; rintro e w2 ⟨rfl, hq⟩; subst w2; rw [HI.out])
        go_ret2
        exact ⟨ret_two HR.out, hbel⟩
      · have h3b : (K == 3) = false := beq_eq_false_iff_ne.2 h3
        have HR := Lib.hid (show brR K B T F d x = ((brN K B d x d.toNat : Int), 0) by rw [brR, if_pos h, if_pos HX.out, if_neg h3])
        have hK : K = 1 ∨ K = 2 := by have := hD.k1; have := hD.k2; omega
        have HT := Lib.hid (fun k => tooth_tm (B := B) (T := T) (F := F) (d := d) (k := k) hK)
        clear h hD hp hbt h3 hK
        obtain ⟨n, rfl⟩ := Int.eq_ofNat_of_zero_le h1
        have hdn : ((n : Int)).toNat = n := by omega
        rw [hdn] at HR
        clear hdn
        have hn16 : n < 16 := by omega
        have HM := Lib.hid (fun (k : Nat) (v : World) (hv : DrumAt v w.heap.size K B T F) (hk : k < n) => l05Time_any w.heap.size K B T F n k v hv HD.out h1 h2 (by omega) (by omega))
        go_enter Try.func54, Try.ntmps54
        go_wp2_with fail
        rw [← HU.out]
        refine HV.out.mono ?_
        rintro e w1 ⟨rfl, k, hw⟩
        replace bx : Bx w1 w.heap.size 57 #[.int .i64 K, .int .i64 B, .int .i64 T, .int .i64 F] := by rw [hw]; exact bx.drewN k
        replace hat := DrumAt.of_box bx
        replace hbel : Below w.heap.size w w1 := by rw [hw]; exact bel_drewN hbel k
        clear c0 c1 c2 c3 hw
        have c0 := bx.at_ 0 rfl
        have c1 := bx.at_ 1 rfl
        have c2 := bx.at_ 2 rfl
        have c3 := bx.at_ 3 rfl
        go_wp2_with (go_at_call 92; refine (l00In_any _ _ _ _).mono ?_; rintro e w2 ⟨rfl, hq⟩; subst w2; rw [HI.out])
        clear hp' hmin hw1 c0 c1 c2
        obtain ⟨f1, f2⟩ := HD.out.fb
        go_loopw [9, 10, 11] (fun c i _ wr => ∃ k : Nat, k ≤ n ∧ i = .int .i64 k ∧ c = .int .i64 (brN K B n x k : Nat) ∧ Below w.heap.size w wr ∧ DrumAt wr w.heap.size K B T F) (fun _ i _ _ => n - (intOf i).toNat)
        case atStart => exact ⟨0, Nat.zero_le _, rfl, rfl, hbel, hat⟩
        case round =>
          clear hbel hat bx c3
          obtain ⟨k, hk, rfl, rfl, hbel, hat⟩ := hrel
          have hle := brN_le K B n x k
          have c3 := hat.c3
          by_cases hlt : k < n
          · have hb := tooth_bd (K := K) (B := B) (d := n) (k := k) (by omega) (by omega) h2
            have htm := HT.out k
            have hwt : IntKind.i64.wrap (tm K B T F n k - F) = tooth K B n k := by rw [htm]; exact IntWalk.i64_in _ (by omega)
            have tmb := tm_bd HD.out (k := k) (d := n) (by omega) (by omega) h2
            have t60 := HD.out.t2
            have HC := Lib.hid (fun q => HM.out k (wr.drewN q) (hat.drewN q) hlt)
            have HTM := Lib.hid htm
            cases hbit : bitNo x (tooth K B n k).toNat with
            | true =>
              have HS := Lib.hid (brN_yes hbit)
              have hbit' : (bits .and .i64 (x / 2 ^ (tooth K B n k).toNat) 1 == 0) = true := hbit
              clear hbit
              go_wp2
              go_quiet ((go_at_call 138; exact Calls.quiet_of (HC.out _)))
              go_wp2
              go_roundw
              case rel => exact ⟨k + 1, by omega, by go_num, by rw [HS.out]; go_num, bel_drewN hbel _, hat.drewN _⟩
              case measure => (simp [intOf]) <;> omega
            | false =>
              have HS := Lib.hid (brN_not hbit)
              have hbit' : (bits .and .i64 (x / 2 ^ (tooth K B n k).toNat) 1 == 0) = false := hbit
              clear hbit
              go_wp2
              go_quiet ((go_at_call 138; exact Calls.quiet_of (HC.out _)))
              go_wp2
              go_roundw
              case rel => exact ⟨k + 1, by omega, by go_num, by rw [HS.out], bel_drewN hbel _, hat.drewN _⟩
              case measure => (simp [intOf]) <;> omega
          · obtain rfl : k = n := by omega
            go_wp2
            go_ret2
            exact ⟨ret_two HR.out, hbel⟩
    | false =>
      have HI := Lib.hid hx
      have HR := Lib.hid (show brR K B T F d x = (0, 2) by rw [brR, if_pos h, if_neg (by rw [hbt, hp']; have := inB_false hx; omega)])
      clear hx h hD hp hbt
      go_enter Try.func54, Try.ntmps54
      go_wp2_with fail
      rw [← HU.out]
      refine HV.out.mono ?_
      rintro e w1 ⟨rfl, k, hw⟩
      replace bx : Bx w1 w.heap.size 57 #[.int .i64 K, .int .i64 B, .int .i64 T, .int .i64 F] := by rw [hw]; exact bx.drewN k
      replace hat := DrumAt.of_box bx
      replace hbel : Below w.heap.size w w1 := by rw [hw]; exact bel_drewN hbel k
      clear c0 c1 c2 c3 hw
      have c0 := bx.at_ 0 rfl
      have c1 := bx.at_ 1 rfl
      have c2 := bx.at_ 2 rfl
      have c3 := bx.at_ 3 rfl
      go_wp2_with (go_at_call 92; refine (l00In_any _ _ _ _).mono ?_; rintro e w2 ⟨rfl, hq⟩; subst w2; rw [HI.out])
      go_ret2
      exact ⟨ret_two HR.out, hbel⟩
  · have HR := Lib.hid (show brR K B T F d x = (0, codeR K B T F d) from if_neg h)
    have ht : (codeR K B T F d != 0) = true := by simp [h]
    have ht2 : (codeR K B T F d == 0) = false := by simp [h]
    clear h
    go_enter Try.func54, Try.ntmps54
    go_wp2_with fail
    rw [← HU.out]
    refine HV.out.mono ?_
    rintro e w1 ⟨rfl, k, hw⟩
    replace bx : Bx w1 w.heap.size 57 #[.int .i64 K, .int .i64 B, .int .i64 T, .int .i64 F] := by rw [hw]; exact bx.drewN k
    replace hat := DrumAt.of_box bx
    replace hbel : Below w.heap.size w w1 := by rw [hw]; exact bel_drewN hbel k
    clear c0 c1 c2 c3 hw
    have c0 := bx.at_ 0 rfl
    have c1 := bx.at_ 1 rfl
    have c2 := bx.at_ 2 rfl
    have c3 := bx.at_ 3 rfl
    go_wp2
    go_ret2
    exact ⟨ret_two HR.out, hbel⟩
end Go.Proofs.Ytkhfbhphmdcelaa
