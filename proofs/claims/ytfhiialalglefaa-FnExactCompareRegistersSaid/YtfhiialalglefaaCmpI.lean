/-
  impl.CarriesOf, CompareRegisters.
-/
import Derived.Test.YtfhiialalglefaaFin
namespace Go.Proofs.Ytfhiialalglefaa
open Go.RowKit

set_option maxRecDepth 100000 in
set_option maxHeartbeats 1000000 in
theorem implCarriesOf (xB : Int) (xA : Option Addr) (xC : Nat) (xZ : List Int) (yB : Int) (yA : Option Addr) (yC : Nat) (yZ : List Int) (w : World) (ha : Rd w xA xZ) (zx : All64 xZ) (bx : I64 xB) (hb : Rd w yA yZ) (zy : All64 yZ) (by_ : I64 yB) :
    Calls Try.prog 21 #[.agg #[.int .i64 xB, .slice xA xZ.length xC], .agg #[.int .i64 yB, .slice yA yZ.length yC]] w fun e w' => ∃ A C,
      e = .returned (.tuple #[.slice A (carR xB xZ yB yZ).1.length C, .int .i64 (carR xB xZ yB yZ).2]) ∧ Own 2 w' w.heap.size w'.heap.size (.slice A (carR xB xZ yB yZ).1.length C) (carR xB xZ yB yZ).1 ∧ Below w.heap.size w w' := by
  go_enter Try.func21, Try.ntmps21
  go_wp2_with fail
  obtain ⟨u, hu⟩ : ∃ u, u = (w.alloc (.cells #[.int .i64 xB, .slice xA xZ.length xC] 26)).alloc (.cells #[.int .i64 yB, .slice yA yZ.length yC] 26) := ⟨_, rfl⟩
  rw [← hu]
  have hbel : Below w.heap.size w u := by rw [hu]; exact (by repeat (first | exact Below.refl _ _ | refine Below.setCell ?_ (by simp <;> omega) _ | refine Below.alloc ?_ (by simp <;> omega) _ | refine Below.drew ?_))
  have ax : Bx u w.heap.size 26 #[.int .i64 xB, .slice xA xZ.length xC] := by rw [hu]; exact (Bx.new _ _ _).alloc _
  have ay : Bx u (w.heap.size + 1) 26 #[.int .i64 yB, .slice yA yZ.length yC] := by rw [hu]; simpa using Bx.new (w.alloc (.cells #[.int .i64 xB, .slice xA xZ.length xC] 26)) #[.int .i64 yB, .slice yA yZ.length yC] 26
  replace ha := ha.below hbel
  replace hb := hb.below hbel
  clear hu
  refine (pairCode_any xB xA xC xZ yB yA yC yZ u ha zx bx hb zy by_).mono ?_
  rintro e v ⟨rfl, hb1⟩
  replace ha := ha.below hb1
  replace hb := hb.below hb1
  replace ax := ax.below hb1
  replace ay := ay.below hb1
  replace hbel := hbel.trans (hb1.mono hbel.size)
  clear hb1 u
  have c0 := ax.at_ 0 rfl
  have c1 := ax.at_ 1 rfl
  have d0 := ay.at_ 0 rfl
  have d1 := ay.at_ 1 rfl
  by_cases h : twoE xB xZ yB yZ = 0
  · have HR := Lib.hid (show carR xB xZ yB yZ = (tab (cK xB xZ yZ) (xZ.length + 1), 0) by simp [carR, h])
    have HX := Lib.hid (okB_spec (twoE_zero h).1)
    have HW := Lib.hid (twoE_zero h)
    have ht : (twoE xB xZ yB yZ != 0) = false := by simp [h]
    clear h
    go_wp2_with fail
    refine (plus_any xB xA yA xC yC xZ yZ v ha hb HX.out.1 HX.out.2.1 HX.out.2.2.2.1 HW.out.2.2.2 (digit_of_ok HW.out.1) (by have h1 := HW.out.2.2; intro k hk; have h2 := digit_of_ok HW.out.2.1 k (by omega); omega)).mono ?_
    rintro e w2 ⟨A1, C1, A2, C2, rfl, own1, own2, hb2⟩
    go_wp2
    refine bodyPost_ret (v := .tuple #[.slice A2 (xZ.length + 1) C2, .int .i64 0]) (by simp [results, Try.results21, go_sem]) rfl ?_
    refine ⟨A2, C2, ?_, ?_, hbel.trans (hb2.mono hbel.size)⟩
    · rw [HR.out]; simp [tab_len]
    · rw [HR.out]; simpa [tab_len] using own2.wide hbel.size (Nat.le_refl _)
  · have HR := Lib.hid (show carR xB xZ yB yZ = ([], twoE xB xZ yB yZ) by simp [carR, h])
    have ht : (twoE xB xZ yB yZ != 0) = true := by simp [h]
    clear h
    go_wp2
    refine bodyPost_ret (v := .tuple #[.slice none 0 0, .int .i64 (twoE xB xZ yB yZ)]) (by simp [results, Try.results21, go_sem]) rfl ?_
    refine ⟨none, 0, ?_, ?_, hbel⟩
    · rw [HR.out]; rfl
    · rw [HR.out]; exact own_nil _ _ _ _

theorem isNaN_any (x : Int) (w : World) : Calls Try.prog 97 #[.int .i64 x] w fun e w' => e = .returned (.bool false) ∧ w' = w := by
  have h : (x != x) = false := by simp
  go_enter Try.func97, Try.ntmps97
  go_wp2
  go_ret
  exact ⟨rfl, rfl⟩
theorem compare_any (x y r : Int) (w : World) (hr : (x < y ∧ r = -1) ∨ (y < x ∧ r = 1) ∨ (x = y ∧ r = 0)) : Calls Try.prog 89 #[.int .i64 x, .int .i64 y] w fun e w' => e = .returned (.int .i64 r) ∧ w' = w := by
  have HN := fun z => Lib.hid (isNaN_any z w)
  rcases hr with ⟨h, rfl⟩ | ⟨h, rfl⟩ | ⟨rfl, rfl⟩
  · go_enter Try.func89, Try.ntmps89
    go_wp2_with (go_at_call 97; refine (HN _).out.mono ?_; rintro e w1 ⟨rfl, hq⟩; subst w1)
    go_ret
    exact ⟨rfl, rfl⟩
  · have h' : ¬ x < y := by omega
    go_enter Try.func89, Try.ntmps89
    go_wp2_with (go_at_call 97; refine (HN _).out.mono ?_; rintro e w1 ⟨rfl, hq⟩; subst w1)
    go_ret
    exact ⟨rfl, rfl⟩
  · go_enter Try.func89, Try.ntmps89
    go_wp2_with (go_at_call 97; refine (HN _).out.mono ?_; rintro e w1 ⟨rfl, hq⟩; subst w1)
    go_ret
    exact ⟨rfl, rfl⟩

theorem cmpR_how {b d : Int} {xs ys : List Int} (h : twoE b xs d ys = 0) : ∃ r, cmpR b xs d ys = (r, 0) ∧ ((valR b xs < valR d ys ∧ r = -1) ∨ (valR d ys < valR b xs ∧ r = 1) ∨ (valR b xs = valR d ys ∧ r = 0)) := by
  unfold cmpR
  rw [if_pos h]
  refine ⟨_, rfl, ?_⟩
  by_cases h1 : valR b xs < valR d ys
  · rw [if_pos h1]; exact .inl ⟨h1, rfl⟩
  · rw [if_neg h1]
    by_cases h2 : valR d ys < valR b xs
    · rw [if_pos h2]; exact .inr (.inl ⟨h2, rfl⟩)
    · rw [if_neg h2]; exact .inr (.inr ⟨by omega, rfl⟩)

set_option maxRecDepth 100000 in
set_option maxHeartbeats 1000000 in
theorem implCompareRegisters (xB : Int) (xA : Option Addr) (xC : Nat) (xZ : List Int) (yB : Int) (yA : Option Addr) (yC : Nat) (yZ : List Int) (w : World) (ha : Rd w xA xZ) (zx : All64 xZ) (bx : I64 xB) (hb : Rd w yA yZ) (zy : All64 yZ) (by_ : I64 yB) :
    Calls Try.prog 53 #[.agg #[.int .i64 xB, .slice xA xZ.length xC], .agg #[.int .i64 yB, .slice yA yZ.length yC]] w fun e w' => e = .returned (.tuple #[.int .i64 (cmpR xB xZ yB yZ).1, .int .i64 (cmpR xB xZ yB yZ).2]) ∧ Below w.heap.size w w' := by
  go_enter Try.func53, Try.ntmps53
  go_wp2_with fail
  obtain ⟨u, hu⟩ : ∃ u, u = (w.alloc (.cells #[.int .i64 xB, .slice xA xZ.length xC] 26)).alloc (.cells #[.int .i64 yB, .slice yA yZ.length yC] 26) := ⟨_, rfl⟩
  rw [← hu]
  have hbel : Below w.heap.size w u := by rw [hu]; exact (by repeat (first | exact Below.refl _ _ | refine Below.setCell ?_ (by simp <;> omega) _ | refine Below.alloc ?_ (by simp <;> omega) _ | refine Below.drew ?_))
  have ax : Bx u w.heap.size 26 #[.int .i64 xB, .slice xA xZ.length xC] := by rw [hu]; exact (Bx.new _ _ _).alloc _
  have ay : Bx u (w.heap.size + 1) 26 #[.int .i64 yB, .slice yA yZ.length yC] := by rw [hu]; simpa using Bx.new (w.alloc (.cells #[.int .i64 xB, .slice xA xZ.length xC] 26)) #[.int .i64 yB, .slice yA yZ.length yC] 26
  replace ha := ha.below hbel
  replace hb := hb.below hbel
  clear hu
  refine (pairCode_any xB xA xC xZ yB yA yC yZ u ha zx bx hb zy by_).mono ?_
  rintro e v ⟨rfl, hb1⟩
  replace ha := ha.below hb1
  replace hb := hb.below hb1
  replace ax := ax.below hb1
  replace ay := ay.below hb1
  replace hbel := hbel.trans (hb1.mono hbel.size)
  clear hb1 u
  have c0 := ax.at_ 0 rfl
  have c1 := ax.at_ 1 rfl
  have d0 := ay.at_ 0 rfl
  have d1 := ay.at_ 1 rfl
  by_cases h : twoE xB xZ yB yZ = 0
  · obtain ⟨r, hr, hw⟩ := cmpR_how h
    have HR := Lib.hid hr
    have HX := Lib.hid (okB_spec (twoE_zero h).1)
    have HY := Lib.hid (okB_spec (twoE_zero h).2.1)
    have HW := Lib.hid hw
    have ht : (twoE xB xZ yB yZ != 0) = false := by simp [h]
    clear h hr hw
    go_wp2_with fail
    refine (value_any xB xA xC xZ v HX.out.1 HX.out.2.1 HX.out.2.2.2.2.1 ha).mono ?_
    rintro e w2 ⟨rfl, hb2⟩
    rw [valOr_le HX.out.2.2.2.2.2]
    have d0 := kept hb2 d0
    have d1 := kept hb2 d1
    replace hb := hb.below hb2
    replace hbel := hbel.trans (hb2.mono hbel.size)
    clear hb2
    go_wp2_with fail
    refine (value_any yB yA yC yZ w2 HY.out.1 HY.out.2.1 HY.out.2.2.2.2.1 hb).mono ?_
    rintro e w3 ⟨rfl, hb2⟩
    rw [valOr_le HY.out.2.2.2.2.2]
    go_wp2_with fail
    refine (compare_any _ _ r _ HW.out).mono ?_
    rintro e w4 ⟨rfl, hq⟩
    subst w4
    go_wp2
    refine bodyPost_ret (v := .tuple #[.int .i64 r, .int .i64 0]) (by simp [results, Try.results53, go_sem]) rfl ?_
    exact ⟨by rw [HR.out], hbel.trans (hb2.mono hbel.size)⟩
  · have HR := Lib.hid (show cmpR xB xZ yB yZ = (0, twoE xB xZ yB yZ) by simp [cmpR, h])
    have ht : (twoE xB xZ yB yZ != 0) = true := by simp [h]
    clear h
    go_wp2
    refine bodyPost_ret (v := .tuple #[.int .i64 0, .int .i64 (twoE xB xZ yB yZ)]) (by simp [results, Try.results53, go_sem]) rfl ?_
    exact ⟨by rw [HR.out], hbel⟩
end Go.Proofs.Ytfhiialalglefaa
