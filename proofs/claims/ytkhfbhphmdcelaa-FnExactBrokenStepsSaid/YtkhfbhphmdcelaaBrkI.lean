/-
  impl.BrokenSteps.
-/
import Derived.Test.YtkhfbhphmdcelaaDrumK
import Derived.Test.YtkhfbhphmdcelaaPairS
import Derived.Test.YtkhfbhphmdcelaaAssert
namespace Go.Proofs.Ytkhfbhphmdcelaa
open Go.RowKit

theorem toothM1 (B T F : Int) (n : Nat) (w : World) : (method (n + 1) 204 (.agg #[.int .i64 1, .int .i64 B, .int .i64 T, .int .i64 F]) "loop.example/g00930/impl.toothOf").run Try.prog w = .ok (205, .agg #[.int .i64 1, .int .i64 B, .int .i64 T, .int .i64 F]) w := by kernel_rfl
theorem asserts1 (B T F : Int) (w : World) : (Instr.typeAssert (.iface 204 (.agg #[.int .i64 1, .int .i64 B, .int .i64 T, .int .i64 F])) 165 162 true).run Try.prog w = .ok (.tuple #[.iface 204 (.agg #[.int .i64 1, .int .i64 B, .int .i64 T, .int .i64 F]), .bool true]) w := by kernel_rfl
set_option maxRecDepth 100000 in
set_option maxHeartbeats 2000000 in
theorem wholeSteps1 (B T F d x : Int) (w : World) (hB : 2 ≤ B ∧ B ≤ 16) (hd : 0 ≤ d ∧ d < B) :
    Calls Try.prog 136 #[.iface 204 (.agg #[.int .i64 1, .int .i64 B, .int .i64 T, .int .i64 F]), .int .i64 d, .int .i64 x] w fun e w' => e = .returned (.int .i64 (brN 1 B d x d.toNat : Int)) ∧ Below w.heap.size w w' := by
  have hC := Lib.hid (show ∀ (k : Int) (v : World), 0 ≤ k → k < d → Calls Try.prog 205 #[.agg #[.int .i64 1, .int .i64 B, .int .i64 T, .int .i64 F], .int .i64 d, .int .i64 k] v fun e w' => e = .returned (.int .i64 (tooth 1 B d k)) ∧ Below v.heap.size v w' from fun k v k1 k2 => by
    have e : tooth 1 B d k = B - 1 - d + k := rfl
    rw [e]; exact tooth1_any 1 B T F d k v hB hd ⟨k1, k2⟩)
  obtain ⟨n, rfl⟩ := Int.eq_ofNat_of_zero_le hd.1
  rw [show ((n : Int)).toNat = n by omega]
  have hm := toothM1 B T F
  go_enter Try.func136, Try.ntmps136
  go_wp2
  go_loopw [7, 8, 10] (fun c _ i wr => ∃ k : Nat, k ≤ n ∧ i = .int .i64 k ∧ c = .int .i64 (brN 1 B n x k : Nat) ∧ Below w.heap.size w wr) (fun _ _ i _ => n - (intOf i).toNat)
  case atStart => exact ⟨0, Nat.zero_le _, rfl, rfl, Below.refl _ _⟩
  case round =>
    obtain ⟨k, hk, rfl, rfl, hbel⟩ := hrel
    have hle := brN_le 1 B n x k
    by_cases hlt : k < n
    · have hb := tooth_bd (K := 1) (B := B) (d := n) (k := k) (by omega) (by omega) hd.2
      cases hbit : bitNo x (tooth 1 B n k).toNat with
      | true =>
        have HS := Lib.hid (brN_yes hbit)
        have hbit' : (bits .and .i64 (x / 2 ^ (tooth 1 B n k).toNat) 1 == 0) = true := hbit
        clear hbit
        go_wp2_with fail
        refine (hC.out k _ (by omega) (by omega)).mono ?_
        rintro e w3 ⟨rfl, hb3⟩
        replace hbel := hbel.trans (hb3.mono hbel.size)
        clear hb3
        go_wp2
        go_roundw
        case rel => exact ⟨k + 1, by omega, by go_num, by rw [HS.out]; go_num, hbel⟩
        case measure => (simp [intOf]) <;> omega
      | false =>
        have HS := Lib.hid (brN_not hbit)
        have hbit' : (bits .and .i64 (x / 2 ^ (tooth 1 B n k).toNat) 1 == 0) = false := hbit
        clear hbit
        go_wp2_with fail
        refine (hC.out k _ (by omega) (by omega)).mono ?_
        rintro e w3 ⟨rfl, hb3⟩
        replace hbel := hbel.trans (hb3.mono hbel.size)
        clear hb3
        go_wp2
        go_roundw
        case rel => exact ⟨k + 1, by omega, by go_num, by rw [HS.out], hbel⟩
        case measure => (simp [intOf]) <;> omega
    · obtain rfl : k = n := by omega
      go_wp2
      go_ret
      exact ⟨rfl, hbel⟩

theorem toothM2 (B T F : Int) (n : Nat) (w : World) : (method (n + 1) 205 (.agg #[.int .i64 2, .int .i64 B, .int .i64 T, .int .i64 F]) "loop.example/g00930/impl.toothOf").run Try.prog w = .ok (207, .agg #[.int .i64 2, .int .i64 B, .int .i64 T, .int .i64 F]) w := by kernel_rfl
theorem asserts2 (B T F : Int) (w : World) : (Instr.typeAssert (.iface 205 (.agg #[.int .i64 2, .int .i64 B, .int .i64 T, .int .i64 F])) 165 162 true).run Try.prog w = .ok (.tuple #[.iface 205 (.agg #[.int .i64 2, .int .i64 B, .int .i64 T, .int .i64 F]), .bool true]) w := by kernel_rfl
set_option maxRecDepth 100000 in
set_option maxHeartbeats 2000000 in
theorem wholeSteps2 (B T F d x : Int) (w : World) (hB : 2 ≤ B ∧ B ≤ 16) (hd : 0 ≤ d ∧ d < B) :
    Calls Try.prog 136 #[.iface 205 (.agg #[.int .i64 2, .int .i64 B, .int .i64 T, .int .i64 F]), .int .i64 d, .int .i64 x] w fun e w' => e = .returned (.int .i64 (brN 2 B d x d.toNat : Int)) ∧ Below w.heap.size w w' := by
  have hC := Lib.hid (show ∀ (k : Int) (v : World), 0 ≤ k → k < d → Calls Try.prog 207 #[.agg #[.int .i64 2, .int .i64 B, .int .i64 T, .int .i64 F], .int .i64 d, .int .i64 k] v fun e w' => e = .returned (.int .i64 (tooth 2 B d k)) ∧ Below v.heap.size v w' from fun k v k1 k2 => by
    have e : tooth 2 B d k = k := rfl
    rw [e]; exact tooth2_any 2 B T F d k v)
  obtain ⟨n, rfl⟩ := Int.eq_ofNat_of_zero_le hd.1
  rw [show ((n : Int)).toNat = n by omega]
  have hm := toothM2 B T F
  go_enter Try.func136, Try.ntmps136
  go_wp2
  go_loopw [7, 8, 10] (fun c _ i wr => ∃ k : Nat, k ≤ n ∧ i = .int .i64 k ∧ c = .int .i64 (brN 2 B n x k : Nat) ∧ Below w.heap.size w wr) (fun _ _ i _ => n - (intOf i).toNat)
  case atStart => exact ⟨0, Nat.zero_le _, rfl, rfl, Below.refl _ _⟩
  case round =>
    obtain ⟨k, hk, rfl, rfl, hbel⟩ := hrel
    have hle := brN_le 2 B n x k
    by_cases hlt : k < n
    · have hb := tooth_bd (K := 2) (B := B) (d := n) (k := k) (by omega) (by omega) hd.2
      cases hbit : bitNo x (tooth 2 B n k).toNat with
      | true =>
        have HS := Lib.hid (brN_yes hbit)
        have hbit' : (bits .and .i64 (x / 2 ^ (tooth 2 B n k).toNat) 1 == 0) = true := hbit
        clear hbit
        go_wp2_with fail
        refine (hC.out k _ (by omega) (by omega)).mono ?_
        rintro e w3 ⟨rfl, hb3⟩
        replace hbel := hbel.trans (hb3.mono hbel.size)
        clear hb3
        go_wp2
        go_roundw
        case rel => exact ⟨k + 1, by omega, by go_num, by rw [HS.out]; go_num, hbel⟩
        case measure => (simp [intOf]) <;> omega
      | false =>
        have HS := Lib.hid (brN_not hbit)
        have hbit' : (bits .and .i64 (x / 2 ^ (tooth 2 B n k).toNat) 1 == 0) = false := hbit
        clear hbit
        go_wp2_with fail
        refine (hC.out k _ (by omega) (by omega)).mono ?_
        rintro e w3 ⟨rfl, hb3⟩
        replace hbel := hbel.trans (hb3.mono hbel.size)
        clear hb3
        go_wp2
        go_roundw
        case rel => exact ⟨k + 1, by omega, by go_num, by rw [HS.out], hbel⟩
        case measure => (simp [intOf]) <;> omega
    · obtain rfl : k = n := by omega
      go_wp2
      go_ret
      exact ⟨rfl, hbel⟩

set_option maxRecDepth 100000 in
set_option maxHeartbeats 4000000 in
theorem implBrokenSteps (K B T F d x : Int) (w : World) (z : I64 K ∧ I64 B ∧ I64 T ∧ I64 F) (_ : I64 d) (_ : I64 x) :
    Calls Try.prog 53 #[.agg #[.int .i64 K, .int .i64 B, .int .i64 T, .int .i64 F], .int .i64 d, .int .i64 x] w fun e w' => e = .returned (.tuple #[.int .i64 (brR K B T F d x).1, .int .i64 (brR K B T F d x).2]) ∧ Below w.heap.size w w' := by
  obtain ⟨u, hu⟩ : ∃ u, u = w.alloc (.cells #[.int .i64 K, .int .i64 B, .int .i64 T, .int .i64 F] 57) := ⟨_, rfl⟩
  have bx : Bx u w.heap.size 57 #[.int .i64 K, .int .i64 B, .int .i64 T, .int .i64 F] := by rw [hu]; exact Bx.new _ _ _
  have hbel : Below w.heap.size w u := by rw [hu]; exact (by repeat (first | exact Below.refl _ _ | refine Below.setCell ?_ (by first | omega | (simp <;> omega)) _ | refine Below.alloc ?_ (by first | omega | (simp <;> omega)) _ | refine Below.drew ?_))
  have HU := Lib.hid hu
  clear hu
  have c0 := bx.at_ 0 rfl
  have c1 := bx.at_ 1 rfl
  have c2 := bx.at_ 2 rfl
  have c3 := bx.at_ 3 rfl
  have HV := Lib.hid (fun v => digitCode_any K B T F d v z)
  clear z
  by_cases h : codeR K B T F d = 0
  · obtain ⟨hD, h1, h2⟩ := codeR_of h
    have hB1 := hD.b1
    have hB2 := hD.b2
    have hbt : (B - 1).toNat = B.toNat - 1 := by omega
    rw [h] at HV
    by_cases hx : x / 2 ^ (B.toNat - 1) = 0
    · have hne : (x / 2 ^ (B.toNat - 1) != 0) = false := by simp [hx]
      have k1 := hD.k1
      have k2 := hD.k2
      have HX := Lib.hid (shr_zero.1 hx)
      have HH := Lib.hid h
      clear hx h hD
      obtain rfl | rfl | rfl : K = 1 ∨ K = 2 ∨ K = 3 := by omega

      · have HR := Lib.hid (show brR 1 B T F d x = ((brN 1 B d x d.toNat : Int), 0) by rw [brR, if_pos HH.out, if_pos (by rw [hbt]; exact HX.out), if_neg (by omega)])
        clear hbt
        have HK := Lib.hid (kind1_any B T F)
        have ha := asserts1 B T F
        have HW := Lib.hid (fun v => wholeSteps1 B T F d x v ⟨hB1, hB2⟩ ⟨h1, h2⟩)
        go_enter Try.func53, Try.ntmps53
        go_wp2_with fail
        rw [← HU.out]
        refine (HV.out _).mono ?_
        rintro e w1 ⟨rfl, hb1⟩
        replace bx := bx.below hb1
        replace hbel := hbel.trans (hb1.mono hbel.size)
        clear c0 c1 c2 c3 hb1
        have c0 := bx.at_ 0 rfl
        have c1 := bx.at_ 1 rfl
        have c2 := bx.at_ 2 rfl
        have c3 := bx.at_ 3 rfl
        go_wp2_with (go_at_call 135; refine (HK.out _).mono ?_; rintro e w2 ⟨rfl, hb2⟩)
        replace hbel := hbel.trans (hb2.mono hbel.size)
        clear c0 c1 c2 c3 hb2
        go_wp2_with fail
        refine (HW.out _).mono ?_
        rintro e w3 ⟨rfl, hb3⟩
        replace hbel := hbel.trans (hb3.mono hbel.size)
        clear hb3
        go_wp2
        go_ret2
        exact ⟨ret_two HR.out, hbel⟩
      · have HR := Lib.hid (show brR 2 B T F d x = ((brN 2 B d x d.toNat : Int), 0) by rw [brR, if_pos HH.out, if_pos (by rw [hbt]; exact HX.out), if_neg (by omega)])
        clear hbt
        have HK := Lib.hid (kind2_any B T F)
        have ha := asserts2 B T F
        have HW := Lib.hid (fun v => wholeSteps2 B T F d x v ⟨hB1, hB2⟩ ⟨h1, h2⟩)
        go_enter Try.func53, Try.ntmps53
        go_wp2_with fail
        rw [← HU.out]
        refine (HV.out _).mono ?_
        rintro e w1 ⟨rfl, hb1⟩
        replace bx := bx.below hb1
        replace hbel := hbel.trans (hb1.mono hbel.size)
        clear c0 c1 c2 c3 hb1
        have c0 := bx.at_ 0 rfl
        have c1 := bx.at_ 1 rfl
        have c2 := bx.at_ 2 rfl
        have c3 := bx.at_ 3 rfl
        go_wp2_with (go_at_call 135; refine (HK.out _).mono ?_; rintro e w2 ⟨rfl, hb2⟩)
        replace hbel := hbel.trans (hb2.mono hbel.size)
        clear c0 c1 c2 c3 hb2
        go_wp2_with fail
        refine (HW.out _).mono ?_
        rintro e w3 ⟨rfl, hb3⟩
        replace hbel := hbel.trans (hb3.mono hbel.size)
        clear hb3
        go_wp2
        go_ret2
        exact ⟨ret_two HR.out, hbel⟩
      · have HR := Lib.hid (show brR 3 B T F d x = (0, 6) by rw [brR, if_pos HH.out, if_pos (by rw [hbt]; exact HX.out), if_pos rfl])
        clear hbt
        have HK := Lib.hid (kind3_any B T F)
        have ha := asserts3 B T F
        go_enter Try.func53, Try.ntmps53
        go_wp2_with fail
        rw [← HU.out]
        refine (HV.out _).mono ?_
        rintro e w1 ⟨rfl, hb1⟩
        replace bx := bx.below hb1
        replace hbel := hbel.trans (hb1.mono hbel.size)
        clear c0 c1 c2 c3 hb1
        have c0 := bx.at_ 0 rfl
        have c1 := bx.at_ 1 rfl
        have c2 := bx.at_ 2 rfl
        have c3 := bx.at_ 3 rfl
        go_wp2_with (go_at_call 135; refine (HK.out _).mono ?_; rintro e w2 ⟨rfl, hb2⟩)
        replace hbel := hbel.trans (hb2.mono hbel.size)
        clear c0 c1 c2 c3 hb2
        go_wp2
        go_ret2
        exact ⟨ret_two HR.out, hbel⟩
    · have hne : (x / 2 ^ (B.toNat - 1) != 0) = true := by simp [hx]
      have HR := Lib.hid (show brR K B T F d x = (0, 2) by rw [brR, if_pos h, if_neg (fun y => hx (shr_zero.2 (by rw [← hbt]; exact y)))])
      clear hx h hD hbt
      go_enter Try.func53, Try.ntmps53
      go_wp2_with fail
      rw [← HU.out]
      refine (HV.out _).mono ?_
      rintro e w1 ⟨rfl, hb1⟩
      replace bx := bx.below hb1
      replace hbel := hbel.trans (hb1.mono hbel.size)
      clear c0 c1 c2 c3 hb1
      have c0 := bx.at_ 0 rfl
      have c1 := bx.at_ 1 rfl
      have c2 := bx.at_ 2 rfl
      have c3 := bx.at_ 3 rfl
      go_wp2
      go_ret2
      exact ⟨ret_two HR.out, hbel⟩
  · have HR := Lib.hid (show brR K B T F d x = (0, codeR K B T F d) from if_neg h)
    have ht : (codeR K B T F d != 0) = true := by simp [h]
    clear h
    go_enter Try.func53, Try.ntmps53
    go_wp2_with fail
    rw [← HU.out]
    refine (HV.out _).mono ?_
    rintro e w1 ⟨rfl, hb1⟩
    replace bx := bx.below hb1
    replace hbel := hbel.trans (hb1.mono hbel.size)
    clear c0 c1 c2 c3 hb1
    have c0 := bx.at_ 0 rfl
    have c1 := bx.at_ 1 rfl
    have c2 := bx.at_ 2 rfl
    have c3 := bx.at_ 3 rfl
    go_wp2
    go_ret2
    exact ⟨ret_two HR.out, hbel⟩
end Go.Proofs.Ytkhfbhphmdcelaa
