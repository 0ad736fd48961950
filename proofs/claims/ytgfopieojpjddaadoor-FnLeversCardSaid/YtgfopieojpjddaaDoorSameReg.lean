/-
  SameRegister, by the program and by the model.
-/
import Derived.Test.YtgfopieojpjddaaDoorSameI
import Derived.Test.YtgfopieojpjddaaDoorSliEq
namespace Go.Proofs.YtgfopieojpjddaaDoor
open Go.RowKit

set_option maxHeartbeats 400000 in
theorem l02Same_any (p q : Nat) (B D : Int) (a b : Option Addr) (c d : Nat) (xs ys : List Int) (w : World) (ha : Rd w a xs) (hb : Rd w b ys)
    (hp0 : w.cell? ⟨p, 0, none⟩ = some (.int .i64 B)) (hp1 : w.cell? ⟨p, 1, none⟩ = some (.slice a xs.length c)) (hq0 : w.cell? ⟨q, 0, none⟩ = some (.int .i64 D)) (hq1 : w.cell? ⟨q, 1, none⟩ = some (.slice b ys.length d)) :
    Calls Tryd.prog 96 #[.pointer (some ⟨p, 0, none⟩), .pointer (some ⟨q, 0, none⟩)] w fun e w' => e = .returned (.bool (regEqB B D xs ys)) ∧ ∃ n, w' = w.drewN n := by
  by_cases h : B = D
  · have hbe : (B == D) = true := by simp [h]
    have H := Lib.hid h
    clear h
    go_enter Tryd.func96, Tryd.ntmps96
    go_wp2
    go_quiet ((go_at_call 136; exact Calls.quiet_of (l00Same_any _ _ _ _ _ _ _ (ha.drewN _) (hb.drewN _))))
    go_wp2
    go_ret
    exact ⟨ret_bool (by simp [regEqB, H.out]), _, rfl⟩
  · have hbe : (B == D) = false := by simp [h]
    have H := Lib.hid h
    clear h
    go_enter Tryd.func96, Tryd.ntmps96
    go_wp2
    go_quiet (fail)
    go_wp2
    go_ret
    exact ⟨ret_bool (by simp [regEqB, H.out]), _, rfl⟩

set_option maxHeartbeats 400000 in
theorem specSameRegister_any (B D : Int) (a b : Option Addr) (c d : Nat) (xs ys : List Int) (w : World) (ha : Rd w a xs) (hb : Rd w b ys) :
    Calls Tryd.prog 46 #[.agg #[.int .i64 B, .slice a xs.length c], .agg #[.int .i64 D, .slice b ys.length d]] w fun e w' =>
      e = .returned (.bool (regEqB B D xs ys)) ∧ Below w.heap.size w w' := by
  have hbel : Below w.heap.size w ((w.alloc (.cells #[.int .i64 B, .slice a xs.length c] 47)).alloc (.cells #[.int .i64 D, .slice b ys.length d] 47)) :=
    ((Below.refl _ _).alloc (Nat.le_refl _) _).alloc (by simp) _
  go_enter Tryd.func46, Tryd.ntmps46
  go_wp2_with fail
  refine (l02Same_any w.heap.size (w.heap.size + 1) B D a b c d xs ys _ (ha.below hbel) (hb.below hbel) (by go_simp) (by go_simp) (by go_simp) (by go_simp)).mono ?_
  rintro e w1 ⟨rfl, n, rfl⟩
  go_wp2
  go_ret
  exact ⟨rfl, bel_drewN hbel _⟩

set_option maxHeartbeats 400000 in
theorem shapeOf_any (B : Int) (a : Option Addr) (n c : Nat) (w : World) :
    Calls Tryd.prog 137 #[.agg #[.int .i64 B, .slice a n c]] w fun e w' =>
      e = .returned (.agg #[.int .i64 B, .int .i64 n]) ∧ Below w.heap.size w w' := by
  go_enter Tryd.func137, Tryd.ntmps137
  go_wp2
  exact bodyPost_ret (v := .agg #[.int .i64 B, .int .i64 n]) (by simp [results, Tryd.results137, go_sem]) rfl
    ⟨rfl, ((((Below.refl _ _).alloc (Nat.le_refl _) _).alloc (by simp) _))⟩

set_option maxHeartbeats 400000 in
theorem implSameRegister_any (B D : Int) (a b : Option Addr) (c d : Nat) (xs ys : List Int) (w : World) (ha : Rd w a xs) (hb : Rd w b ys) :
    Calls Tryd.prog 109 #[.agg #[.int .i64 B, .slice a xs.length c], .agg #[.int .i64 D, .slice b ys.length d]] w fun e w' =>
      e = .returned (.bool (regEqB B D xs ys)) ∧ Below w.heap.size w w' := by
  have hbel : Below w.heap.size w ((w.alloc (.cells #[.int .i64 B, .slice a xs.length c] 47)).alloc (.cells #[.int .i64 D, .slice b ys.length d] 47)) :=
    ((Below.refl _ _).alloc (Nat.le_refl _) _).alloc (by simp) _
  have e1 := kept_after (W := (w.alloc (.cells #[.int .i64 B, .slice a xs.length c] 47)).alloc (.cells #[.int .i64 D, .slice b ys.length d] 47)) (p := ⟨w.heap.size, 0, none⟩) (v := .int .i64 B) (by go_simp)
  have e2 := kept_after (W := (w.alloc (.cells #[.int .i64 B, .slice a xs.length c] 47)).alloc (.cells #[.int .i64 D, .slice b ys.length d] 47)) (p := ⟨w.heap.size, 1, none⟩) (v := .slice a xs.length c) (by go_simp)
  have e3 := kept_after (W := (w.alloc (.cells #[.int .i64 B, .slice a xs.length c] 47)).alloc (.cells #[.int .i64 D, .slice b ys.length d] 47)) (p := ⟨w.heap.size + 1, 0, none⟩) (v := .int .i64 D) (by go_simp)
  have e4 := kept_after (W := (w.alloc (.cells #[.int .i64 B, .slice a xs.length c] 47)).alloc (.cells #[.int .i64 D, .slice b ys.length d] 47)) (p := ⟨w.heap.size + 1, 1, none⟩) (v := .slice b ys.length d) (by go_simp)
  by_cases h : B = D ∧ xs.length = ys.length
  · have hbe : (B == D) = true := by simp [h.1]
    have hle : ((xs.length : Int) == (ys.length : Int)) = true := by simp [h.2]
    have H := Lib.hid h
    clear h
    go_enter Tryd.func109, Tryd.ntmps109
    go_wp2
    refine wp_region_after (by kernel_rfl) (by kernel_rfl) ?_
    repeat (go_big_quiet_step (first | (go_at_call 137; exact calls_after (shapeOf_any _ _ _ _ _)) | (go_at_call 143; exact calls_after_drew (slicesEqual_any a b c d xs ys _ (ha.below (hbel.trans ((‹After _› : After _).ok.mono hbel.size))) (hb.below (hbel.trans ((‹After _› : After _).ok.mono hbel.size)))))))
    refine wpQuiet_nil ?_
    intro u
    go_wp2
    go_ret
    exact ⟨ret_bool (by simp [regEqB, H.out.1]), hbel.trans (u.ok.mono hbel.size)⟩
  · have H := Lib.hid h
    by_cases h1 : B = D
    · have hbe : (B == D) = true := by simp [h1]
      have hle : ((xs.length : Int) == (ys.length : Int)) = false := by simp; omega
      clear h h1
      go_enter Tryd.func109, Tryd.ntmps109
      go_wp2
      refine wp_region_after (by kernel_rfl) (by kernel_rfl) ?_
      repeat (go_big_quiet_step (first | (go_at_call 137; exact calls_after (shapeOf_any _ _ _ _ _)) | (go_at_call 143; exact calls_after_drew (slicesEqual_any a b c d xs ys _ (ha.below (hbel.trans ((‹After _› : After _).ok.mono hbel.size))) (hb.below (hbel.trans ((‹After _› : After _).ok.mono hbel.size)))))))
      refine wpQuiet_nil ?_
      intro u
      go_wp2
      go_ret
      exact ⟨ret_bool (by rw [eq_comm, regEqB, decide_eq_false]; rintro ⟨h1, rfl⟩; exact H.out ⟨h1, rfl⟩), hbel.trans (u.ok.mono hbel.size)⟩
    · have hbe : (B == D) = false := by simp [h1]
      clear h h1
      go_enter Tryd.func109, Tryd.ntmps109
      go_wp2
      refine wp_region_after (by kernel_rfl) (by kernel_rfl) ?_
      repeat (go_big_quiet_step (first | (go_at_call 137; exact calls_after (shapeOf_any _ _ _ _ _)) | (go_at_call 143; exact calls_after_drew (slicesEqual_any a b c d xs ys _ (ha.below (hbel.trans ((‹After _› : After _).ok.mono hbel.size))) (hb.below (hbel.trans ((‹After _› : After _).ok.mono hbel.size)))))))
      refine wpQuiet_nil ?_
      intro u
      go_wp2
      go_ret
      exact ⟨ret_bool (by rw [eq_comm, regEqB, decide_eq_false]; rintro ⟨h1, rfl⟩; exact H.out ⟨h1, rfl⟩), hbel.trans (u.ok.mono hbel.size)⟩

theorem specSameRegister (xB : Int) (xA : Option Addr) (xC : Nat) (xZ : List Int) (yB : Int) (yA : Option Addr) (yC : Nat) (yZ : List Int) (w : World) (hx : Rd w xA xZ) (_ : All64 xZ) (_ : I64 xB) (hy : Rd w yA yZ) (_ : All64 yZ) (_ : I64 yB) :
    Calls Tryd.prog 46 #[.agg #[.int .i64 xB, .slice xA xZ.length xC], .agg #[.int .i64 yB, .slice yA yZ.length yC]] w fun e w' =>
      e = .returned (.bool (regEqB xB yB xZ yZ)) ∧ Below w.heap.size w w' := specSameRegister_any xB yB xA yA xC yC xZ yZ w hx hy
theorem implSameRegister (xB : Int) (xA : Option Addr) (xC : Nat) (xZ : List Int) (yB : Int) (yA : Option Addr) (yC : Nat) (yZ : List Int) (w : World) (hx : Rd w xA xZ) (_ : All64 xZ) (_ : I64 xB) (hy : Rd w yA yZ) (_ : All64 yZ) (_ : I64 yB) :
    Calls Tryd.prog 109 #[.agg #[.int .i64 xB, .slice xA xZ.length xC], .agg #[.int .i64 yB, .slice yA yZ.length yC]] w fun e w' =>
      e = .returned (.bool (regEqB xB yB xZ yZ)) ∧ Below w.heap.size w w' := implSameRegister_any xB yB xA yA xC yC xZ yZ w hx hy
end Go.Proofs.YtgfopieojpjddaaDoor
