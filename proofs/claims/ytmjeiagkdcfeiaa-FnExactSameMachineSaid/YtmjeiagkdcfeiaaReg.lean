/-
  laws.szRegister, eqRegister, markRegister, heldRegister.
-/
import Derived.Test.YtmjeiagkdcfeiaaEqI
import Derived.Test.YtmjeiagkdcfeiaaToReg
import Derived.Test.YtmjeiagkdcfeiaaMarkI
namespace Go.Proofs.Ytmjeiagkdcfeiaa
open Go.RowKit

set_option maxHeartbeats 400000 in
theorem szRegister_any (B : Int) (a : Option Addr) (n c : Nat) (left : Int) (w : World) (hn : n ≤ 9223372036854775807) (hl : 0 ≤ left) (hl' : left ≤ 1048576) :
    Calls Try.prog 22 #[.agg #[.int .i64 B, .slice a n c], .int .i64 left] w fun e w' => e = .returned (.int .i64 (leftOf n left)) ∧ Below w.heap.size w w' := by
  by_cases h : leftOf n left < 0
  · go_enter Try.func22, Try.ntmps22
    go_wp2_with fail
    refine (szInt64S_any a n c left _ hn hl hl').mono ?_
    rintro e w1 ⟨rfl, rfl⟩
    go_wp2
    go_ret
    exact ⟨ret_int (by unfold leftOf at h ⊢; split at h <;> simp_all), (Below.refl _ _).alloc (Nat.le_refl _) _⟩
  · go_enter Try.func22, Try.ntmps22
    go_wp2_with fail
    refine (szInt64S_any a n c left _ hn hl hl').mono ?_
    rintro e w1 ⟨rfl, rfl⟩
    go_wp2
    go_ret
    exact ⟨rfl, (Below.refl _ _).alloc (Nat.le_refl _) _⟩

set_option maxHeartbeats 400000 in
theorem eqRegister_any (B D : Int) (a b : Option Addr) (c d : Nat) (xs ys : List Int) (w : World) (ha : Rd w a xs) (hb : Rd w b ys) :
    Calls Try.prog 26 #[.agg #[.int .i64 B, .slice a xs.length c], .agg #[.int .i64 D, .slice b ys.length d]] w fun e w' =>
      e = .returned (.bool (regEqB B D xs ys)) ∧ Below w.heap.size w w' := by
  by_cases h : B = D
  · have hbe : (B != D) = false := by simp [h]
    have H := Lib.hid h
    clear h
    have hbel : Below w.heap.size w ((w.alloc (.cells #[.int .i64 B, .slice a xs.length c] 29)).alloc (.cells #[.int .i64 D, .slice b ys.length d] 29)) :=
      ((Below.refl _ _).alloc (Nat.le_refl _) _).alloc (by simp) _
    go_enter Try.func26, Try.ntmps26
    go_wp2_with fail
    refine (eqInt64S_any a b c d xs ys _ (ha.below hbel) (hb.below hbel)).mono ?_
    rintro e w1 ⟨rfl, n, rfl⟩
    by_cases he : xs = ys
    · have hd : decide (xs = ys) = true := by simp [he]
      have HE := Lib.hid he
      clear he
      go_wp2
      go_ret
      exact ⟨ret_bool (by simp [regEqB, H.out, HE.out]), bel_drewN hbel _⟩
    · have hd : decide (xs = ys) = false := by simp [he]
      have HE := Lib.hid he
      clear he
      go_wp2
      go_ret
      exact ⟨ret_bool (by simp [regEqB, HE.out]), bel_drewN hbel _⟩
  · have hbe : (B != D) = true := by simp [h]
    have H := Lib.hid h
    clear h
    go_enter Try.func26, Try.ntmps26
    go_wp2
    go_ret
    exact ⟨ret_bool (by simp [regEqB, H.out]), ((Below.refl _ _).alloc (Nat.le_refl _) _).alloc (by simp) _⟩

end Go.Proofs.Ytmjeiagkdcfeiaa
