/-
  spec.l02Ok, l02Same of registers that lie within something.
-/
import Derived.Test.YtmjeiagkdcfeiaaOkS
import Derived.Test.YtmjeiagkdcfeiaaSameReg
namespace Go.Proofs.Ytmjeiagkdcfeiaa
open Go.RowKit

set_option maxHeartbeats 1000000 in
theorem l02Ok_off (p o : Nat) (b : Int) (a : Option Addr) (c : Nat) (zs : List Int) (w : World) (ha : Rd w a zs) (hp0 : w.cell? ⟨p, o, none⟩ = some (.int .i64 b)) (hp1 : w.cell? ⟨p, o + 1, none⟩ = some (.slice a zs.length c)) :
    Calls Try.prog 38 #[.pointer (some ⟨p, o, none⟩)] w fun e w' => e = .returned (.bool (okB b zs)) ∧ ∃ n, w' = w.drewN n := by
  cases hb : baseB b with
  | false =>
    have HO := Lib.hid (show okB b zs = false by simp [okB, hb])
    have HB := Lib.hid (show ∀ n, Calls Try.prog 48 #[.int .i64 b] (w.drewN n) fun e w' => e = .returned (.bool false) ∧ w' = w.drewN n from fun n => by rw [← hb]; exact l02Base_any b _)
    clear hb
    go_enter Try.func38, Try.ntmps38
    go_wp2
    go_quiet ((go_at_call 48; exact Calls.quiet_of_same (HB.out _)))
    go_wp2
    go_ret
    exact ⟨ret_bool (by rw [HO.out]), _, rfl⟩
  | true =>
    obtain ⟨hb1, hb2⟩ := baseB_true hb
    have HB := Lib.hid (show ∀ n, Calls Try.prog 48 #[.int .i64 b] (w.drewN n) fun e w' => e = .returned (.bool true) ∧ w' = w.drewN n from fun n => by rw [← hb]; exact l02Base_any b _)
    cases hd : digitsB b zs && widthB zs.length with
    | false =>
      have HO := Lib.hid (show okB b zs = false by simp at hd; simp [okB, hb]; intro h1 h2; rw [hd h2] at h1; cases h1)
      have HD2 := Lib.hid (show ∀ n, Calls Try.prog 59 #[.int .i64 b, .slice a zs.length c] (w.drewN n) fun e w' => e = .returned (.bool false) ∧ w' = w.drewN n from fun n => by rw [← hd]; exact l02Digits_any b a c zs _ (ha.drewN _) hb1 hb2)
      clear hb hd
      go_enter Try.func38, Try.ntmps38
      go_wp2
      go_quiet (first | (go_at_call 48; exact Calls.quiet_of_same (HB.out _)) | (go_at_call 59; exact Calls.quiet_of_same (HD2.out _)))
      go_wp2
      go_ret
      exact ⟨ret_bool (by rw [HO.out]), _, rfl⟩
    | true =>
      have HD : ∀ d ∈ zs, 0 ≤ d ∧ d < b := digitsB_true (by simp at hd; exact hd.1)
      have HO := Lib.hid (show okB b zs = decide (capV b zs ≤ 1000000000000) by simp at hd; simp [okB, hb, hd, capV_le hb1 HD])
      have HE := Lib.hid HD
      have HD2 := Lib.hid (show ∀ n, Calls Try.prog 59 #[.int .i64 b, .slice a zs.length c] (w.drewN n) fun e w' => e = .returned (.bool true) ∧ w' = w.drewN n from fun n => by rw [← hd]; exact l02Digits_any b a c zs _ (ha.drewN _) hb1 hb2)
      clear HD hb hd
      cases hv : decide (capV b zs ≤ 1000000000000)
      all_goals
        rw [hv] at HO
        go_enter Try.func38, Try.ntmps38
        go_wp2
        go_quiet (first | (go_at_call 48; exact Calls.quiet_of_same (HB.out _)) | (go_at_call 59; exact Calls.quiet_of_same (HD2.out _)) | (go_at_call 60; exact Calls.quiet_of_same (l02Value_any _ _ _ _ _ (ha.drewN _) hb1 hb2 HE.out)))
        go_wp2
        go_ret
        exact ⟨ret_bool (by rw [HO.out]), _, rfl⟩

set_option maxHeartbeats 400000 in
theorem l02Same_off (p o q r : Nat) (B D : Int) (a b : Option Addr) (c d : Nat) (xs ys : List Int) (w : World) (ha : Rd w a xs) (hb : Rd w b ys)
    (hp0 : w.cell? ⟨p, o, none⟩ = some (.int .i64 B)) (hp1 : w.cell? ⟨p, o + 1, none⟩ = some (.slice a xs.length c)) (hq0 : w.cell? ⟨q, r, none⟩ = some (.int .i64 D)) (hq1 : w.cell? ⟨q, r + 1, none⟩ = some (.slice b ys.length d)) :
    Calls Try.prog 39 #[.pointer (some ⟨p, o, none⟩), .pointer (some ⟨q, r, none⟩)] w fun e w' => e = .returned (.bool (regEqB B D xs ys)) ∧ ∃ n, w' = w.drewN n := by
  by_cases h : B = D
  · have hbe : (B == D) = true := by simp [h]
    have H := Lib.hid h
    clear h
    go_enter Try.func39, Try.ntmps39
    go_wp2
    go_quiet ((go_at_call 61; exact Calls.quiet_of (l00Same_any _ _ _ _ _ _ _ (ha.drewN _) (hb.drewN _))))
    go_wp2
    go_ret
    exact ⟨ret_bool (by simp [regEqB, H.out]), _, rfl⟩
  · have hbe : (B == D) = false := by simp [h]
    have H := Lib.hid h
    clear h
    go_enter Try.func39, Try.ntmps39
    go_wp2
    go_quiet (fail)
    go_wp2
    go_ret
    exact ⟨ret_bool (by simp [regEqB, H.out]), _, rfl⟩


theorem l02Ok_atO {v : Bool} (p o : Nat) (b : Int) (a : Option Addr) (c : Nat) (zs : List Int) (w : World) (hv : okB b zs = v) (ha : Rd w a zs) (hp0 : w.cell? ⟨p, o, none⟩ = some (.int .i64 b)) (hp1 : w.cell? ⟨p, o + 1, none⟩ = some (.slice a zs.length c)) :
    Calls Try.prog 38 #[.pointer (some ⟨p, o, none⟩)] w fun e w' => e = .returned (.bool v) ∧ Below w.heap.size w w' := by
  subst hv
  exact (l02Ok_off p o b a c zs w ha hp0 hp1).mono fun e w' ⟨h1, m, h2⟩ => ⟨h1, by rw [h2]; exact bel_drewN (Below.refl _ _) m⟩
theorem l02Same_atO {v : Bool} (p o q r : Nat) (B D : Int) (a b : Option Addr) (c d : Nat) (xs ys : List Int) (w : World) (hv : regEqB B D xs ys = v) (ha : Rd w a xs) (hb : Rd w b ys)
    (hp0 : w.cell? ⟨p, o, none⟩ = some (.int .i64 B)) (hp1 : w.cell? ⟨p, o + 1, none⟩ = some (.slice a xs.length c)) (hq0 : w.cell? ⟨q, r, none⟩ = some (.int .i64 D)) (hq1 : w.cell? ⟨q, r + 1, none⟩ = some (.slice b ys.length d)) :
    Calls Try.prog 39 #[.pointer (some ⟨p, o, none⟩), .pointer (some ⟨q, r, none⟩)] w fun e w' => e = .returned (.bool v) ∧ Below w.heap.size w w' := by
  subst hv
  exact (l02Same_off p o q r B D a b c d xs ys w ha hb hp0 hp1 hq0 hq1).mono fun e w' ⟨h1, m, h2⟩ => ⟨h1, by rw [h2]; exact bel_drewN (Below.refl _ _) m⟩
end Go.Proofs.Ytmjeiagkdcfeiaa
