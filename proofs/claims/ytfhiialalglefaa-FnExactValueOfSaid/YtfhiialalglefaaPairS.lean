/-
  spec.ValueOf, CarriesOf, CompareRegisters, AddRegisters, SubRegisters.
-/
import Derived.Test.YtfhiialalglefaaAddS
import Derived.Test.YtfhiialalglefaaSubS
namespace Go.Proofs.Ytfhiialalglefaa
open Go.RowKit

set_option maxRecDepth 100000 in
set_option maxHeartbeats 1000000 in
theorem specValueOf (xB : Int) (xA : Option Addr) (xC : Nat) (xZ : List Int) (w : World) (ha : Rd w xA xZ) (_ : All64 xZ) (_ : I64 xB) :
    Calls Try.prog 39 #[.agg #[.int .i64 xB, .slice xA xZ.length xC]] w fun e w' => e = .returned (.tuple #[.int .i64 (vofR xB xZ).1, .int .i64 (vofR xB xZ).2]) ∧ Below w.heap.size w w' := by
  have hbel : Below w.heap.size w (w.alloc (.cells #[.int .i64 xB, .slice xA xZ.length xC] 26)) := (Below.refl _ _).alloc (Nat.le_refl _) _
  cases h : okB xB xZ with
  | false =>
    have HV := Lib.hid (show vofR xB xZ = (0, 1) by simp [vofR, h])
    have H := Lib.hid h
    clear h
    go_enter Try.func39, Try.ntmps39
    go_wp2_with fail
    refine (l02Ok_at0 w.heap.size xB xA xC xZ _ H.out (ha.below hbel) (by go_simp) (by go_simp)).mono ?_
    rintro e w1 ⟨rfl, n, rfl⟩
    go_wp2
    refine bodyPost_ret (v := .tuple #[.int .i64 0, .int .i64 1]) (by simp [results, Try.results39, go_sem]) rfl ?_
    exact ⟨by rw [HV.out], bel_drewN hbel _⟩
  | true =>
    have HV := Lib.hid (show vofR xB xZ = (valR xB xZ, 0) by simp [vofR, h])
    have H := Lib.hid h
    have HO := Lib.hid (okB_spec h)
    clear h
    go_enter Try.func39, Try.ntmps39
    go_wp2_with fail
    refine (l02Ok_at0 w.heap.size xB xA xC xZ _ H.out (ha.below hbel) (by go_simp) (by go_simp)).mono ?_
    rintro e w1 ⟨rfl, n, rfl⟩
    go_wp2_with (go_at_call 82; refine (l02Value_any xB xA xC xZ _ ((ha.below hbel).drewN n) HO.out.1 HO.out.2.1 HO.out.2.2.2.2.1).mono ?_; rintro e w1 ⟨rfl, rfl⟩)
    refine bodyPost_ret (v := .tuple #[.int .i64 (capV xB xZ), .int .i64 0]) (by simp [results, Try.results39, go_sem]) rfl ?_
    exact ⟨by rw [HV.out, capV_ok HO.out.1 HO.out.2.2.2.2.1 HO.out.2.2.2.2.2], bel_drewN hbel _⟩

set_option maxRecDepth 100000 in
set_option maxHeartbeats 1000000 in
theorem specCarriesOf (xB : Int) (xA : Option Addr) (xC : Nat) (xZ : List Int) (yB : Int) (yA : Option Addr) (yC : Nat) (yZ : List Int) (w : World) (ha : Rd w xA xZ) (_ : All64 xZ) (_ : I64 xB) (hb : Rd w yA yZ) (_ : All64 yZ) (_ : I64 yB) :
    Calls Try.prog 47 #[.agg #[.int .i64 xB, .slice xA xZ.length xC], .agg #[.int .i64 yB, .slice yA yZ.length yC]] w fun e w' => ∃ A C,
      e = .returned (.tuple #[.slice A (carR xB xZ yB yZ).1.length C, .int .i64 (carR xB xZ yB yZ).2]) ∧ Own 2 w' w.heap.size w'.heap.size (.slice A (carR xB xZ yB yZ).1.length C) (carR xB xZ yB yZ).1 ∧ Below w.heap.size w w' := by
  have hx16 := fun h : twoE xB xZ yB yZ = 0 => okB_spec (twoE_zero h).1
  go_enter Try.func47, Try.ntmps47
  go_wp2_with fail
  obtain ⟨u, hu⟩ : ∃ u, u = (w.alloc (.cells #[.int .i64 xB, .slice xA xZ.length xC] 26)).alloc (.cells #[.int .i64 yB, .slice yA yZ.length yC] 26) := ⟨_, rfl⟩
  rw [← hu]
  have hbel : Below w.heap.size w u := by rw [hu]; exact (by repeat (first | exact Below.refl _ _ | refine Below.setCell ?_ (by simp <;> omega) _ | refine Below.alloc ?_ (by simp <;> omega) _ | refine Below.drew ?_))
  have c0 : u.cell? ⟨w.heap.size, 0, none⟩ = some (.int .i64 xB) := by rw [hu]; go_simp
  have c1 : u.cell? ⟨w.heap.size, 1, none⟩ = some (.slice xA xZ.length xC) := by rw [hu]; go_simp
  have d0 : u.cell? ⟨w.heap.size + 1, 0, none⟩ = some (.int .i64 yB) := by rw [hu]; go_simp
  have d1 : u.cell? ⟨w.heap.size + 1, 1, none⟩ = some (.slice yA yZ.length yC) := by rw [hu]; go_simp
  replace ha := ha.below hbel
  replace hb := hb.below hbel
  clear hu
  refine (l02Two_any w.heap.size (w.heap.size + 1) xB yB xA yA xC yC xZ yZ u ha hb c0 c1 d0 d1).mono ?_
  rintro e w1 ⟨rfl, n, rfl⟩
  by_cases h : twoE xB xZ yB yZ = 0
  · have HR := Lib.hid (show carR xB xZ yB yZ = (tab (cK xB xZ yZ) (xZ.length + 1), 0) by simp [carR, h])
    have HX := Lib.hid (hx16 h)
    have HW := Lib.hid (twoE_zero h)
    have ht : (twoE xB xZ yB yZ != 0) = false := by simp [h]
    clear h hx16
    go_wp2_with (go_at_call 88; refine (l02Carries_any w.heap.size (w.heap.size + 1) xB yB xA yA xC yC xZ yZ _ (ha.drewN n) (hb.drewN n) HX.out.1 HX.out.2.1 HX.out.2.2.2.1 HW.out.2.2.2 (digit_of_ok HW.out.1) (by have h1 := HW.out.2.2; intro k hk; have h2 := digit_of_ok HW.out.2.1 k (by omega); omega) c0 c1 d0 d1).mono ?_; rintro e w1 ⟨A, C, rfl, hown, hb1⟩)
    refine bodyPost_ret (v := .tuple #[.slice A (xZ.length + 1) C, .int .i64 0]) (by simp [results, Try.results47, go_sem]) rfl ?_
    refine ⟨A, C, ?_, ?_, (bel_drewN hbel _).trans (hb1.mono (by have := hbel.size; simpa using this))⟩
    · rw [HR.out]; simp [tab_len]
    · rw [HR.out]; simpa [tab_len] using hown.wide (by have := hbel.size; simpa using this) (Nat.le_refl _)
  · have HR := Lib.hid (show carR xB xZ yB yZ = ([], twoE xB xZ yB yZ) by simp [carR, h])
    have ht : (twoE xB xZ yB yZ != 0) = true := by simp [h]
    clear h hx16
    go_wp2
    refine bodyPost_ret (v := .tuple #[.slice none 0 0, .int .i64 (twoE xB xZ yB yZ)]) (by simp [results, Try.results47, go_sem]) rfl ?_
    refine ⟨none, 0, ?_, ?_, bel_drewN hbel _⟩
    · rw [HR.out]; rfl
    · rw [HR.out]; exact own_nil _ _ _ _
end Go.Proofs.Ytfhiialalglefaa
