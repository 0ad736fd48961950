/-
  SameRegister, by the program and by the model.
-/
import Derived.Test.YtlahobdopmdfmaaDoorSameI
import Derived.Test.YtlahobdopmdfmaaDoorSliEq
namespace Go.Proofs.YtlahobdopmdfmaaDoor
open Go.RowKit

set_option maxHeartbeats 400000 in
theorem l02Same_any (p q : Nat) (B D : Int) (a b : Option Addr) (c d : Nat) (xs ys : List Int) (w : World) (ha : Rd w a xs) (hb : Rd w b ys)
    (hp0 : w.cell? ⟨p, 0, none⟩ = some (.int .i64 B)) (hp1 : w.cell? ⟨p, 1, none⟩ = some (.slice a xs.length c)) (hq0 : w.cell? ⟨q, 0, none⟩ = some (.int .i64 D)) (hq1 : w.cell? ⟨q, 1, none⟩ = some (.slice b ys.length d)) :
    Calls Tryd.prog 120 #[.pointer (some ⟨p, 0, none⟩), .pointer (some ⟨q, 0, none⟩)] w fun e w' => e = .returned (.bool (regEqB B D xs ys)) ∧ ∃ n, w' = w.drewN n := by
  by_cases h : B = D
  · have hbe : (B == D) = true := by simp [h]
    have H := Lib.hid h
    clear h
    go_enter Tryd.func120, Tryd.ntmps120
    go_wp2
    go_quiet ((go_at_call 165; exact Calls.quiet_of (l00Same_any _ _ _ _ _ _ _ (ha.drewN _) (hb.drewN _))))
    go_wp2
    go_ret
    exact ⟨ret_bool (by simp [regEqB, H.out]), _, rfl⟩
  · have hbe : (B == D) = false := by simp [h]
    have H := Lib.hid h
    clear h
    go_enter Tryd.func120, Tryd.ntmps120
    go_wp2
    go_quiet (fail)
    go_wp2
    go_ret
    exact ⟨ret_bool (by simp [regEqB, H.out]), _, rfl⟩

set_option maxHeartbeats 400000 in
theorem specSameRegister_any (B D : Int) (a b : Option Addr) (c d : Nat) (xs ys : List Int) (w : World) (ha : Rd w a xs) (hb : Rd w b ys) :
    Calls Tryd.prog 39 #[.agg #[.int .i64 B, .slice a xs.length c], .agg #[.int .i64 D, .slice b ys.length d]] w fun e w' =>
      e = .returned (.bool (regEqB B D xs ys)) ∧ Below w.heap.size w w' := by
  have hbel : Below w.heap.size w ((w.alloc (.cells #[.int .i64 B, .slice a xs.length c] 26)).alloc (.cells #[.int .i64 D, .slice b ys.length d] 26)) :=
    ((Below.refl _ _).alloc (Nat.le_refl _) _).alloc (by simp) _
  go_enter Tryd.func39, Tryd.ntmps39
  go_wp2_with fail
  refine (l02Same_any w.heap.size (w.heap.size + 1) B D a b c d xs ys _ (ha.below hbel) (hb.below hbel) (by go_simp) (by go_simp) (by go_simp) (by go_simp)).mono ?_
  rintro e w1 ⟨rfl, n, rfl⟩
  go_wp2
  go_ret
  exact ⟨rfl, bel_drewN hbel _⟩

theorem specSameRegister (xB : Int) (xA : Option Addr) (xC : Nat) (xZ : List Int) (yB : Int) (yA : Option Addr) (yC : Nat) (yZ : List Int) (w : World) (hx : Rd w xA xZ) (_ : All64 xZ) (_ : I64 xB) (hy : Rd w yA yZ) (_ : All64 yZ) (_ : I64 yB) :
    Calls Tryd.prog 39 #[.agg #[.int .i64 xB, .slice xA xZ.length xC], .agg #[.int .i64 yB, .slice yA yZ.length yC]] w fun e w' =>
      e = .returned (.bool (regEqB xB yB xZ yZ)) ∧ Below w.heap.size w w' := specSameRegister_any xB yB xA yA xC yC xZ yZ w hx hy
end Go.Proofs.YtlahobdopmdfmaaDoor
