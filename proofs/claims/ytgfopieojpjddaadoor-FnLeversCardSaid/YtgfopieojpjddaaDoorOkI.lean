/-
  impl.ValidRegister and spec.ValidRegister.
-/
import Derived.Test.YtgfopieojpjddaaDoorValue
import Derived.Test.YtgfopieojpjddaaDoorOkS
namespace Go.Proofs.YtgfopieojpjddaaDoor
open Go.RowKit

set_option maxHeartbeats 400000 in
theorem areBelow_any (b : Int) (a : Option Addr) (c : Nat) (zs : List Int) (w : World) (ha : Rd w a zs) :
    Calls Tryd.prog 97 #[.slice a zs.length c, .int .i64 b] w fun e w' => e = .returned (.bool (digitsB b zs)) ∧ w' = w := by
  have hx := ha.len
  go_enter Tryd.func97, Tryd.ntmps97
  go_wp2
  go_loop [6, 9] (fun _ i => ∃ k : Nat, k ≤ zs.length ∧ i = .int .i64 k ∧ Hid (∀ d ∈ zs.take k, 0 ≤ d ∧ d < b)) (fun _ i => zs.length - (intOf i).toNat)
  case atStart => exact ⟨0, Nat.zero_le _, rfl, Lib.hid (by simp)⟩
  case round =>
    obtain ⟨k, hk, rfl, HT⟩ := hrel
    by_cases hlt : k < zs.length
    · obtain ⟨p, off, rfl, hc⟩ := ha.at_ hlt
      by_cases hd : 0 ≤ nth zs k ∧ nth zs k < b
      · obtain ⟨hd1, hd2⟩ := hd
        go_wp2
        go_round
        case rel => exact ⟨k + 1, by omega, by go_num, Lib.hid (all_take_succ (p := fun d => 0 ≤ d ∧ d < b) hlt HT.out ⟨hd1, hd2⟩)⟩
        case measure => (simp [intOf]) <;> omega
      · have hf : digitsB b zs = false := by
          cases h : digitsB b zs with
          | false => rfl
          | true => exact absurd (digitsB_nth h hlt) hd
        have HF := Lib.hid hf
        have hd' : nth zs k < 0 ∨ (0 ≤ nth zs k ∧ b ≤ nth zs k) := by omega
        clear hf hd
        rcases hd' with h1 | ⟨h1, h2⟩
        all_goals
          go_wp2
          go_ret
          exact ⟨ret_bool HF.out.symm, rfl⟩
    · obtain rfl : k = zs.length := by omega
      have HD := Lib.hid (show digitsB b zs = true by
        rw [digitsB, decide_eq_true_eq]
        have := HT.out
        rwa [List.take_of_length_le (Nat.le_refl _)] at this)
      go_wp2
      go_ret
      exact ⟨ret_bool HD.out.symm, rfl⟩

set_option maxHeartbeats 1000000 in
theorem implValidRegister (xB : Int) (xA : Option Addr) (xC : Nat) (xZ : List Int) (w : World) (ha : Rd w xA xZ) (_ : All64 xZ) (_ : I64 xB) :
    Calls Tryd.prog 47 #[.agg #[.int .i64 xB, .slice xA xZ.length xC]] w fun e w' => e = .returned (.bool (okB xB xZ)) ∧ Below w.heap.size w w' := by
  have hx := ha.len
  have hbel : Below w.heap.size w (w.alloc (.cells #[.int .i64 xB, .slice xA xZ.length xC] 47)) := (Below.refl _ _).alloc (Nat.le_refl _) _
  cases hb : baseB xB with
  | false =>
    have HO := Lib.hid (show okB xB xZ = false by simp [okB, hb])
    rcases baseB_false hb with h1 | ⟨h1, h2⟩
    all_goals
      clear hb
      go_enter Tryd.func47, Tryd.ntmps47
      go_wp2
      go_ret
      exact ⟨ret_bool HO.out.symm, hbel⟩
  | true =>
    obtain ⟨hb1, hb2⟩ := baseB_true hb
    cases hw : widthB xZ.length with
    | false =>
      have HO := Lib.hid (show okB xB xZ = false by simp [okB, hw])
      rcases widthB_false hw with h1 | h1
      all_goals
        clear hb hw
        go_enter Tryd.func47, Tryd.ntmps47
        go_wp2
        go_ret
        exact ⟨ret_bool HO.out.symm, hbel⟩
    | true =>
      obtain ⟨hw1, hw2⟩ := widthB_true hw
      have HA := Lib.hid (areBelow_any xB xA xC xZ _ (ha.below hbel))
      cases hd : digitsB xB xZ with
      | false =>
        have HO := Lib.hid (show okB xB xZ = false by simp [okB, hd])
        rw [hd] at HA
        clear hb hw hd
        go_enter Tryd.func47, Tryd.ntmps47
        go_wp2_with (first | (go_at_call 97; refine HA.out.mono ?_; rintro e w1 ⟨rfl, rfl⟩) | go_in)
        go_ret
        exact ⟨ret_bool HO.out.symm, hbel⟩
      | true =>
        have HD := Lib.hid (digitsB_true hd)
        have HO := Lib.hid (show okB xB xZ = valOk xB xZ by simp [okB, hb, hw, hd, valOk])
        rw [hd] at HA
        clear hb hw hd
        go_enter Tryd.func47, Tryd.ntmps47
        go_wp2_with (first | (go_at_call 97; refine HA.out.mono ?_; rintro e w1 ⟨rfl, rfl⟩) | (go_at_call 87; refine (value_any xB xA xC xZ _ hb1 hb2 HD.out (ha.below hbel)).mono ?_; rintro e w2 ⟨rfl, hb3⟩) | go_in)
        go_ret
        exact ⟨ret_bool HO.out.symm, hbel.trans (hb3.mono hbel.size)⟩

set_option maxHeartbeats 400000 in
theorem specValidRegister (xB : Int) (xA : Option Addr) (xC : Nat) (xZ : List Int) (w : World) (ha : Rd w xA xZ) (_ : All64 xZ) (_ : I64 xB) :
    Calls Tryd.prog 51 #[.agg #[.int .i64 xB, .slice xA xZ.length xC]] w fun e w' => e = .returned (.bool (okB xB xZ)) ∧ Below w.heap.size w w' := by
  have hbel : Below w.heap.size w (w.alloc (.cells #[.int .i64 xB, .slice xA xZ.length xC] 47)) := (Below.refl _ _).alloc (Nat.le_refl _) _
  go_enter Tryd.func51, Tryd.ntmps51
  go_wp2_with fail
  refine (l02Ok_any w.heap.size xB xA xC xZ _ (ha.below hbel) (by go_simp) (by go_simp)).mono ?_
  rintro e w1 ⟨rfl, n, rfl⟩
  go_wp2
  go_ret
  exact ⟨rfl, bel_drewN hbel _⟩
end Go.Proofs.YtgfopieojpjddaaDoor
