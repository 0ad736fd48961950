/-
  laws.szRegister, eqRegister, markRegister, heldRegister.
-/
import Derived.Test.YtgfopieojpjddaaDoorEqI
import Derived.Test.YtgfopieojpjddaaDoorToReg
import Derived.Test.YtgfopieojpjddaaDoorMarkI
namespace Go.Proofs.YtgfopieojpjddaaDoor
open Go.RowKit

set_option maxHeartbeats 400000 in
theorem eqRegister_any (B D : Int) (a b : Option Addr) (c d : Nat) (xs ys : List Int) (w : World) (ha : Rd w a xs) (hb : Rd w b ys) :
    Calls Tryd.prog 34 #[.agg #[.int .i64 B, .slice a xs.length c], .agg #[.int .i64 D, .slice b ys.length d]] w fun e w' =>
      e = .returned (.bool (regEqB B D xs ys)) ∧ Below w.heap.size w w' := by
  by_cases h : B = D
  · have hbe : (B != D) = false := by simp [h]
    have H := Lib.hid h
    clear h
    have hbel : Below w.heap.size w ((w.alloc (.cells #[.int .i64 B, .slice a xs.length c] 47)).alloc (.cells #[.int .i64 D, .slice b ys.length d] 47)) :=
      ((Below.refl _ _).alloc (Nat.le_refl _) _).alloc (by simp) _
    go_enter Tryd.func34, Tryd.ntmps34
    go_wp2_with fail
    refine (eqInt64S_any a b c d xs ys _ (ha.below hbel) (hb.below hbel)).mono ?_
    rintro e w1 ⟨rfl, n, rfl⟩
    by_cases he : xs = ys
    · have hd : decide (xs = ys) = true := by simp [he]
      have HE := Lib.hid he
      clear he
      go_wp2
      go_ret
      exact ⟨ret_bool (by simp [regEqB, H.out, HE.out]), bel_drewN hbel _⟩
    · have hd : decide (xs = ys) = false := by simp [he]
      have HE := Lib.hid he
      clear he
      go_wp2
      go_ret
      exact ⟨ret_bool (by simp [regEqB, HE.out]), bel_drewN hbel _⟩
  · have hbe : (B != D) = true := by simp [h]
    have H := Lib.hid h
    clear h
    go_enter Tryd.func34, Tryd.ntmps34
    go_wp2
    go_ret
    exact ⟨ret_bool (by simp [regEqB, H.out]), ((Below.refl _ _).alloc (Nat.le_refl _) _).alloc (by simp) _⟩

set_option maxHeartbeats 400000 in
theorem markRegister_any (t : TypeId) (lo hi : Nat) (B : Int) (A : Option Addr) (C : Nat) (k : Int) (zs : List Int) (w : World) (ho : Own t w lo hi (.slice A zs.length C) zs) (h0 : 0 ≤ k) (h1 : k ≤ 1000000000000) :
    Calls Tryd.prog 35 #[.agg #[.int .i64 B, .slice A zs.length C], .int .i64 k] w fun e w' => e = .returned (.int .i64 (k + zs.length)) ∧
      Own t w' lo hi (.slice A zs.length C) (seqI k zs.length) ∧ Touch lo hi w w' := by
  go_enter Tryd.func35, Tryd.ntmps35
  go_wp2_with fail
  refine (markInt64S_any t lo hi A C k zs _ (ho.alloc _) h0 h1).mono ?_
  rintro e w1 ⟨rfl, ho1, ht1⟩
  go_wp2
  go_ret
  exact ⟨rfl, ho1, ((Touch.refl _ _ _).alloc _).trans ht1⟩

set_option maxHeartbeats 400000 in
theorem heldRegister_any (B : Int) (A : Option Addr) (C : Nat) (k : Int) (n : Nat) (w : World) (ha : Rd w A (seqI k n)) (h0 : 0 ≤ k) (h1 : k ≤ 1000000000000) :
    Calls Tryd.prog 36 #[.agg #[.int .i64 B, .slice A n C], .int .i64 k] w fun e w' => e = .returned (.int .i64 (k + n)) ∧ Below w.heap.size w w' := by
  have hbel : Below w.heap.size w (w.alloc (.cells #[.int .i64 B, .slice A n C] 47)) := (Below.refl _ _).alloc (Nat.le_refl _) _
  go_enter Tryd.func36, Tryd.ntmps36
  go_wp2_with fail
  refine (heldInt64S_any A C k n _ (ha.below hbel) h0 h1).mono ?_
  rintro e w1 ⟨rfl, rfl⟩
  go_wp2
  go_ret
  exact ⟨rfl, hbel⟩
end Go.Proofs.YtgfopieojpjddaaDoor
