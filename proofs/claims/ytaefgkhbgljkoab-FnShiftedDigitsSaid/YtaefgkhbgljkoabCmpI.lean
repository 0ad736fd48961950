/-
  impl.CarriesOf, CompareRegisters.
-/
import Derived.Test.YtaefgkhbgljkoabFin
namespace Go.Proofs.Ytaefgkhbgljkoab
open Go.RowKit

set_option maxRecDepth 100000 in
set_option maxHeartbeats 1000000 in
theorem implCarriesOf (xB : Int) (xA : Option Addr) (xC : Nat) (xZ : List Int) (yB : Int) (yA : Option Addr) (yC : Nat) (yZ : List Int) (w : World) (ha : Rd w xA xZ) (zx : All64 xZ) (bx : I64 xB) (hb : Rd w yA yZ) (zy : All64 yZ) (by_ : I64 yB) :
    Calls Try.prog 59 #[.agg #[.int .i64 xB, .slice xA xZ.length xC], .agg #[.int .i64 yB, .slice yA yZ.length yC]] w fun e w' => ∃ A C,
      e = .returned (.tuple #[.slice A (carR xB xZ yB yZ).1.length C, .int .i64 (carR xB xZ yB yZ).2]) ∧ Own 2 w' w.heap.size w'.heap.size (.slice A (carR xB xZ yB yZ).1.length C) (carR xB xZ yB yZ).1 ∧ Below w.heap.size w w' := by
  go_enter Try.func59, Try.ntmps59
  go_wp2_with fail
  obtain ⟨u, hu⟩ : ∃ u, u = (w.alloc (.cells #[.int .i64 xB, .slice xA xZ.length xC] 69)).alloc (.cells #[.int .i64 yB, .slice yA yZ.length yC] 69) := ⟨_, rfl⟩
  rw [← hu]
  have hbel : Below w.heap.size w u := by rw [hu]; exact (by repeat (first | exact Below.refl _ _ | refine Below.setCell ?_ (by first | omega | (simp <;> omega)) _ | refine Below.alloc ?_ (by first | omega | (simp <;> omega)) _ | refine Below.drew ?_))
  have ax : Bx u w.heap.size 69 #[.int .i64 xB, .slice xA xZ.length xC] := by rw [hu]; exact (Bx.new _ _ _).alloc _
  have ay : Bx u (w.heap.size + 1) 69 #[.int .i64 yB, .slice yA yZ.length yC] := by rw [hu]; simpa using Bx.new (w.alloc (.cells #[.int .i64 xB, .slice xA xZ.length xC] 69)) #[.int .i64 yB, .slice yA yZ.length yC] 69
  replace ha := ha.below hbel
  replace hb := hb.below hbel
  clear hu
  refine (pairCode_any xB xA xC xZ yB yA yC yZ u ha zx bx hb zy by_).mono ?_
  rintro e v ⟨rfl, hb1⟩
  replace ha := ha.below hb1
  replace hb := hb.below hb1
  replace ax := ax.below hb1
  replace ay := ay.below hb1
  replace hbel := hbel.trans (hb1.mono hbel.size)
  clear hb1 u
  have c0 := ax.at_ 0 rfl
  have c1 := ax.at_ 1 rfl
  have d0 := ay.at_ 0 rfl
  have d1 := ay.at_ 1 rfl
  by_cases h : twoE xB xZ yB yZ = 0
  · have HR := Lib.hid (show carR xB xZ yB yZ = (tab (cK xB xZ yZ) (xZ.length + 1), 0) by simp [carR, h])
    have HX := Lib.hid (okB_spec (twoE_zero h).1)
    have HW := Lib.hid (twoE_zero h)
    have ht : (twoE xB xZ yB yZ != 0) = false := by simp [h]
    clear h
    go_wp2_with fail
    refine (plus_any xB xA yA xC yC xZ yZ v ha hb HX.out.1 HX.out.2.1 HX.out.2.2.2.1 HW.out.2.2.2 (digit_of_ok HW.out.1) (by have h1 := HW.out.2.2; intro k hk; have h2 := digit_of_ok HW.out.2.1 k (by omega); omega)).mono ?_
    rintro e w2 ⟨A1, C1, A2, C2, rfl, own1, own2, hb2⟩
    go_wp2
    refine bodyPost_ret (v := .tuple #[.slice A2 (xZ.length + 1) C2, .int .i64 0]) (by simp [results, Try.results59, go_sem]) rfl ?_
    refine ⟨A2, C2, ?_, ?_, hbel.trans (hb2.mono hbel.size)⟩
    · rw [HR.out]; simp [tab_len]
    · rw [HR.out]; simpa [tab_len] using own2.wide hbel.size (Nat.le_refl _)
  · have HR := Lib.hid (show carR xB xZ yB yZ = ([], twoE xB xZ yB yZ) by simp [carR, h])
    have ht : (twoE xB xZ yB yZ != 0) = true := by simp [h]
    clear h
    go_wp2
    refine bodyPost_ret (v := .tuple #[.slice none 0 0, .int .i64 (twoE xB xZ yB yZ)]) (by simp [results, Try.results59, go_sem]) rfl ?_
    refine ⟨none, 0, ?_, ?_, hbel⟩
    · rw [HR.out]; rfl
    · rw [HR.out]; exact own_nil _ _ _ _

theorem cmpR_how {b d : Int} {xs ys : List Int} (h : twoE b xs d ys = 0) : ∃ r, cmpR b xs d ys = (r, 0) ∧ ((valR b xs < valR d ys ∧ r = -1) ∨ (valR d ys < valR b xs ∧ r = 1) ∨ (valR b xs = valR d ys ∧ r = 0)) := by
  unfold cmpR
  rw [if_pos h]
  refine ⟨_, rfl, ?_⟩
  by_cases h1 : valR b xs < valR d ys
  · rw [if_pos h1]; exact .inl ⟨h1, rfl⟩
  · rw [if_neg h1]
    by_cases h2 : valR d ys < valR b xs
    · rw [if_pos h2]; exact .inr (.inl ⟨h2, rfl⟩)
    · rw [if_neg h2]; exact .inr (.inr ⟨by omega, rfl⟩)

end Go.Proofs.Ytaefgkhbgljkoab
