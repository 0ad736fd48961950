/-
  spec.l02Ok and what it calls: whether a register is valid.
-/
import Derived.Test.YtgfopieojpjddaaDoorProg
import Derived.Test.YtgfopieojpjddaaDoorVal
namespace Go.Proofs.YtgfopieojpjddaaDoor
open Go.RowKit

set_option maxHeartbeats 400000 in
theorem l02Base_any (b : Int) (w : World) : Calls Tryd.prog 124 #[.int .i64 b] w fun e w' => e = .returned (.bool (baseB b)) ∧ w' = w := by
  cases hb : baseB b with
  | true =>
    obtain ⟨h1, h2⟩ := baseB_true hb
    have HB := Lib.hid hb
    clear hb
    go_enter Tryd.func124, Tryd.ntmps124
    go_wp2
    go_ret
    exact ⟨ret_bool (by simp []), rfl⟩
  | false =>
    have HB := Lib.hid hb
    rcases baseB_false hb with h1 | ⟨h1, h2⟩
    all_goals
      clear hb
      go_enter Tryd.func124, Tryd.ntmps124
      go_wp2
      go_ret
      exact ⟨ret_bool (by simp <;> omega), rfl⟩

set_option maxHeartbeats 400000 in
theorem l02Digits_any (b : Int) (a : Option Addr) (c : Nat) (zs : List Int) (w : World) (ha : Rd w a zs) (hb1 : 2 ≤ b) (hb2 : b ≤ 16) :
    Calls Tryd.prog 125 #[.int .i64 b, .slice a zs.length c] w fun e w' => e = .returned (.bool (digitsB b zs && widthB zs.length)) ∧ w' = w := by
  have hx := ha.len
  go_enter Tryd.func125, Tryd.ntmps125
  go_wp2
  go_loop [5] (fun i => ∃ k : Nat, k ≤ zs.length ∧ i = .int .i64 k ∧ Hid (∀ d ∈ zs.take k, 0 ≤ d ∧ d < b)) (fun i => zs.length - (intOf i).toNat)
  case atStart => exact ⟨0, Nat.zero_le _, rfl, Lib.hid (by simp)⟩
  case round =>
    obtain ⟨k, hk, rfl, HT⟩ := hrel
    by_cases hlt : k < zs.length
    · obtain ⟨p, off, rfl, hc⟩ := ha.at_ hlt
      by_cases hd : 0 ≤ nth zs k ∧ nth zs k < b
      · obtain ⟨hd1, hd2⟩ := hd
        have hd3 : decide (nth zs k ≤ b - 1) = true := decide_eq_true (by omega)
        go_wp2
        go_round
        case rel => exact ⟨k + 1, by omega, by go_num, Lib.hid (all_take_succ (p := fun d => 0 ≤ d ∧ d < b) hlt HT.out ⟨hd1, hd2⟩)⟩
        case measure => (simp [intOf]) <;> omega
      · have hf : digitsB b zs = false := by
          cases h : digitsB b zs with
          | false => rfl
          | true => exact absurd (digitsB_nth h hlt) hd
        have HF := Lib.hid hf
        have hd' : nth zs k < 0 ∨ (0 ≤ nth zs k ∧ b - 1 < nth zs k) := by omega
        clear hf hd
        rcases hd' with h1 | ⟨h1, h2⟩
        all_goals
          try have hd3 : decide (nth zs k ≤ b - 1) = false := decide_eq_false (by omega)
          go_wp2
          go_ret
          exact ⟨ret_bool (by rw [HF.out]; rfl), rfl⟩
    · obtain rfl : k = zs.length := by omega
      have ht : digitsB b zs = true := by
        rw [digitsB, decide_eq_true_eq]
        have := HT.out
        rwa [List.take_of_length_le (Nat.le_refl _)] at this
      have HD := Lib.hid ht
      clear ht
      cases hw : widthB zs.length with
      | true =>
        obtain ⟨h1, h2⟩ := widthB_true hw
        have HW := Lib.hid hw
        clear hw
        go_wp2
        go_ret
        exact ⟨ret_bool (by rw [HD.out, HW.out]; simp <;> omega), rfl⟩
      | false =>
        have HW := Lib.hid hw
        rcases widthB_false hw with h1 | h1
        all_goals
          clear hw
          go_wp2
          go_ret
          exact ⟨ret_bool (by rw [HD.out, HW.out]; simp <;> omega), rfl⟩

set_option maxHeartbeats 400000 in
theorem l02Value_any (b : Int) (a : Option Addr) (c : Nat) (zs : List Int) (w : World) (ha : Rd w a zs) (hb1 : 2 ≤ b) (hb2 : b ≤ 16) (hd : ∀ d ∈ zs, 0 ≤ d ∧ d < b) :
    Calls Tryd.prog 103 #[.int .i64 b, .slice a zs.length c] w fun e w' => e = .returned (.int .i64 (capV b zs)) ∧ w' = w := by
  have hx := ha.len
  have HD := Lib.hid hd
  clear hd
  go_enter Tryd.func103, Tryd.ntmps103
  go_wp2
  go_loop [5, 6] (fun s i => ∃ k : Nat, k ≤ zs.length ∧ i = .int .i64 ((k : Int) - 1) ∧ s = .int .i64 (capV b (zs.drop k))) (fun _ i => (intOf i + 1).toNat)
  case atStart => exact ⟨zs.length, Nat.le_refl _, by go_num, by simp [capV]⟩
  case round =>
    obtain ⟨k, hk, hi, rfl⟩ := hrel
    cases k with
    | zero =>
      subst hi
      go_wp2
      go_ret
      exact ⟨rfl, rfl⟩
    | succ k =>
      subst hi
      rw [show ((k + 1 : Nat) : Int) - 1 = (k : Int) from by omega]
      obtain ⟨p, off, rfl, hc⟩ := ha.at_ (k := k) (by omega)
      have hcb := capV_bd hb1 (all_drop HD.out (k + 1))
      have hdn := HD.out (nth zs k) (by rw [nth_get (by omega)]; exact List.getElem_mem _)
      have hstep : capV b (zs.drop k) = if 1000000000001 < capV b (zs.drop (k + 1)) * b + nth zs k then 1000000000001 else capV b (zs.drop (k + 1)) * b + nth zs k := by rw [drop_nth (by omega)]; rfl
      have hm1 : 0 ≤ capV b (zs.drop (k + 1)) * b := Int.mul_nonneg hcb.1 (by omega)
      have hm2 : capV b (zs.drop (k + 1)) * b ≤ 1000000000001 * 16 := Int.mul_le_mul hcb.2 hb2 (by omega) (by omega)
      by_cases hc1 : 1000000000001 < capV b (zs.drop (k + 1)) * b + nth zs k
      · rw [if_pos hc1] at hstep
        have HS := Lib.hid hstep
        clear hstep
        go_wp2
        go_round
        case rel => exact ⟨k, by omega, by go_num, by rw [HS.out]; rfl⟩
        case measure => (simp [intOf]) <;> omega
      · rw [if_neg hc1] at hstep
        have HS := Lib.hid hstep
        clear hstep
        go_wp2
        go_round
        case rel => exact ⟨k, by omega, by go_num, by rw [HS.out]; rfl⟩
        case measure => (simp [intOf]) <;> omega

set_option maxHeartbeats 1000000 in
theorem l02Ok_any (p : Nat) (b : Int) (a : Option Addr) (c : Nat) (zs : List Int) (w : World) (ha : Rd w a zs) (hp0 : w.cell? ⟨p, 0, none⟩ = some (.int .i64 b)) (hp1 : w.cell? ⟨p, 1, none⟩ = some (.slice a zs.length c)) :
    Calls Tryd.prog 76 #[.pointer (some ⟨p, 0, none⟩)] w fun e w' => e = .returned (.bool (okB b zs)) ∧ ∃ n, w' = w.drewN n := by
  cases hb : baseB b with
  | false =>
    have HO := Lib.hid (show okB b zs = false by simp [okB, hb])
    have HB := Lib.hid (show ∀ n, Calls Tryd.prog 124 #[.int .i64 b] (w.drewN n) fun e w' => e = .returned (.bool false) ∧ w' = w.drewN n from fun n => by rw [← hb]; exact l02Base_any b _)
    clear hb
    go_enter Tryd.func76, Tryd.ntmps76
    go_wp2
    go_quiet ((go_at_call 124; exact Calls.quiet_of_same (HB.out _)))
    go_wp2
    go_ret
    exact ⟨ret_bool (by rw [HO.out]), _, rfl⟩
  | true =>
    obtain ⟨hb1, hb2⟩ := baseB_true hb
    have HB := Lib.hid (show ∀ n, Calls Tryd.prog 124 #[.int .i64 b] (w.drewN n) fun e w' => e = .returned (.bool true) ∧ w' = w.drewN n from fun n => by rw [← hb]; exact l02Base_any b _)
    cases hd : digitsB b zs && widthB zs.length with
    | false =>
      have HO := Lib.hid (show okB b zs = false by simp at hd; simp [okB, hb]; intro h1 h2; rw [hd h2] at h1; cases h1)
      have HD2 := Lib.hid (show ∀ n, Calls Tryd.prog 125 #[.int .i64 b, .slice a zs.length c] (w.drewN n) fun e w' => e = .returned (.bool false) ∧ w' = w.drewN n from fun n => by rw [← hd]; exact l02Digits_any b a c zs _ (ha.drewN _) hb1 hb2)
      clear hb hd
      go_enter Tryd.func76, Tryd.ntmps76
      go_wp2
      go_quiet (first | (go_at_call 124; exact Calls.quiet_of_same (HB.out _)) | (go_at_call 125; exact Calls.quiet_of_same (HD2.out _)))
      go_wp2
      go_ret
      exact ⟨ret_bool (by rw [HO.out]), _, rfl⟩
    | true =>
      have HD : ∀ d ∈ zs, 0 ≤ d ∧ d < b := digitsB_true (by simp at hd; exact hd.1)
      have HO := Lib.hid (show okB b zs = decide (capV b zs ≤ 1000000000000) by simp at hd; simp [okB, hb, hd, capV_le hb1 HD])
      have HE := Lib.hid HD
      have HD2 := Lib.hid (show ∀ n, Calls Tryd.prog 125 #[.int .i64 b, .slice a zs.length c] (w.drewN n) fun e w' => e = .returned (.bool true) ∧ w' = w.drewN n from fun n => by rw [← hd]; exact l02Digits_any b a c zs _ (ha.drewN _) hb1 hb2)
      clear HD hb hd
      cases hv : decide (capV b zs ≤ 1000000000000)
      all_goals
        rw [hv] at HO
        go_enter Tryd.func76, Tryd.ntmps76
        go_wp2
        go_quiet (first | (go_at_call 124; exact Calls.quiet_of_same (HB.out _)) | (go_at_call 125; exact Calls.quiet_of_same (HD2.out _)) | (go_at_call 103; exact Calls.quiet_of_same (l02Value_any _ _ _ _ _ (ha.drewN _) hb1 hb2 HE.out)))
        go_wp2
        go_ret
        exact ⟨ret_bool (by rw [HO.out]), _, rfl⟩
end Go.Proofs.YtgfopieojpjddaaDoor
