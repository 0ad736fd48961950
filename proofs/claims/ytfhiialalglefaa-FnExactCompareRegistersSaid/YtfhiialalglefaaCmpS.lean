/-
  spec.CompareRegisters.
-/
import Derived.Test.YtfhiialalglefaaTwoS
namespace Go.Proofs.Ytfhiialalglefaa
open Go.RowKit

theorem cmpR_lt {b d : Int} {xs ys : List Int} (h : twoE b xs d ys = 0) (hc : valR b xs < valR d ys) : cmpR b xs d ys = (-1, 0) := by
  unfold cmpR; rw [if_pos h, if_pos hc]
theorem cmpR_gt {b d : Int} {xs ys : List Int} (h : twoE b xs d ys = 0) (hc : valR d ys < valR b xs) : cmpR b xs d ys = (1, 0) := by
  have h' : ¬ valR b xs < valR d ys := by omega
  unfold cmpR; rw [if_pos h, if_neg h', if_pos hc]
theorem cmpR_eq {b d : Int} {xs ys : List Int} (h : twoE b xs d ys = 0) (hc : valR b xs = valR d ys) : cmpR b xs d ys = (0, 0) := by
  have h' : ¬ valR b xs < valR d ys := by omega
  have h'' : ¬ valR d ys < valR b xs := by omega
  unfold cmpR; rw [if_pos h, if_neg h', if_neg h'']

set_option maxRecDepth 100000 in
set_option maxHeartbeats 1000000 in
theorem specCompareRegisters (xB : Int) (xA : Option Addr) (xC : Nat) (xZ : List Int) (yB : Int) (yA : Option Addr) (yC : Nat) (yZ : List Int) (w : World) (ha : Rd w xA xZ) (_ : All64 xZ) (_ : I64 xB) (hb : Rd w yA yZ) (_ : All64 yZ) (_ : I64 yB) :
    Calls Try.prog 52 #[.agg #[.int .i64 xB, .slice xA xZ.length xC], .agg #[.int .i64 yB, .slice yA yZ.length yC]] w fun e w' => e = .returned (.tuple #[.int .i64 (cmpR xB xZ yB yZ).1, .int .i64 (cmpR xB xZ yB yZ).2]) ∧ Below w.heap.size w w' := by
  have hx16 := fun h : twoE xB xZ yB yZ = 0 => okB_spec (twoE_zero h).1
  go_enter Try.func52, Try.ntmps52
  go_wp2_with fail
  obtain ⟨u, hu⟩ : ∃ u, u = (w.alloc (.cells #[.int .i64 xB, .slice xA xZ.length xC] 26)).alloc (.cells #[.int .i64 yB, .slice yA yZ.length yC] 26) := ⟨_, rfl⟩
  rw [← hu]
  have hbel : Below w.heap.size w u := by rw [hu]; exact (by repeat (first | exact Below.refl _ _ | refine Below.setCell ?_ (by simp <;> omega) _ | refine Below.alloc ?_ (by simp <;> omega) _ | refine Below.drew ?_))
  have c0 : u.cell? ⟨w.heap.size, 0, none⟩ = some (.int .i64 xB) := by rw [hu]; go_simp
  have c1 : u.cell? ⟨w.heap.size, 1, none⟩ = some (.slice xA xZ.length xC) := by rw [hu]; go_simp
  have d0 : u.cell? ⟨w.heap.size + 1, 0, none⟩ = some (.int .i64 yB) := by rw [hu]; go_simp
  have d1 : u.cell? ⟨w.heap.size + 1, 1, none⟩ = some (.slice yA yZ.length yC) := by rw [hu]; go_simp
  replace ha := ha.below hbel
  replace hb := hb.below hbel
  clear hu
  refine (l02Two_any w.heap.size (w.heap.size + 1) xB yB xA yA xC yC xZ yZ u ha hb c0 c1 d0 d1).mono ?_
  rintro e w1 ⟨rfl, n, rfl⟩
  by_cases h : twoE xB xZ yB yZ = 0
  · have ht : (twoE xB xZ yB yZ != 0) = false := by simp [h]
    have HV : Hid (Calls Try.prog 82 #[.int .i64 xB, .slice xA xZ.length xC] (u.drewN n) fun e w' => e = .returned (.int .i64 (valR xB xZ)) ∧ w' = u.drewN n) := by
      have hX := okB_spec (twoE_zero h).1
      have := l02Value_any xB xA xC xZ _ (ha.drewN n) hX.1 hX.2.1 hX.2.2.2.2.1
      rw [capV_ok hX.1 hX.2.2.2.2.1 hX.2.2.2.2.2] at this
      exact Lib.hid this
    have HY : Hid (Calls Try.prog 82 #[.int .i64 yB, .slice yA yZ.length yC] (u.drewN n) fun e w' => e = .returned (.int .i64 (valR yB yZ)) ∧ w' = u.drewN n) := by
      have hX := okB_spec (twoE_zero h).2.1
      have := l02Value_any yB yA yC yZ _ (hb.drewN n) hX.1 hX.2.1 hX.2.2.2.2.1
      rw [capV_ok hX.1 hX.2.2.2.2.1 hX.2.2.2.2.2] at this
      exact Lib.hid this
    have H := Lib.hid h
    clear h hx16
    rcases (by omega : valR xB xZ < valR yB yZ ∨ valR yB yZ < valR xB xZ ∨ valR xB xZ = valR yB yZ) with hc | hc | hc
    · have HR := Lib.hid (cmpR_lt H.out hc)
      go_wp2_with fail
      refine HV.out.mono ?_
      rintro e w1 ⟨rfl, rfl⟩
      go_wp2_with fail
      refine HY.out.mono ?_
      rintro e w1 ⟨rfl, rfl⟩
      go_wp2
      refine bodyPost_ret (v := .tuple #[.int .i64 (-1), .int .i64 0]) (by simp [results, Try.results52, go_sem]) rfl ?_
      exact ⟨by rw [HR.out], bel_drewN hbel _⟩
    · have HR := Lib.hid (cmpR_gt H.out hc)
      have hc' : ¬ valR xB xZ < valR yB yZ := by omega
      go_wp2_with fail
      refine HV.out.mono ?_
      rintro e w1 ⟨rfl, rfl⟩
      go_wp2_with fail
      refine HY.out.mono ?_
      rintro e w1 ⟨rfl, rfl⟩
      go_wp2
      refine bodyPost_ret (v := .tuple #[.int .i64 (1), .int .i64 0]) (by simp [results, Try.results52, go_sem]) rfl ?_
      exact ⟨by rw [HR.out], bel_drewN hbel _⟩
    · have HR := Lib.hid (cmpR_eq H.out hc)
      have hc' : ¬ valR xB xZ < valR yB yZ := by omega
      have hc'' : ¬ valR yB yZ < valR xB xZ := by omega
      go_wp2_with fail
      refine HV.out.mono ?_
      rintro e w1 ⟨rfl, rfl⟩
      go_wp2_with fail
      refine HY.out.mono ?_
      rintro e w1 ⟨rfl, rfl⟩
      go_wp2
      refine bodyPost_ret (v := .tuple #[.int .i64 (0), .int .i64 0]) (by simp [results, Try.results52, go_sem]) rfl ?_
      exact ⟨by rw [HR.out], bel_drewN hbel _⟩
  · have HR := Lib.hid (show cmpR xB xZ yB yZ = (0, twoE xB xZ yB yZ) by simp [cmpR, h])
    have ht : (twoE xB xZ yB yZ != 0) = true := by simp [h]
    clear h hx16
    go_wp2
    refine bodyPost_ret (v := .tuple #[.int .i64 0, .int .i64 (twoE xB xZ yB yZ)]) (by simp [results, Try.results52, go_sem]) rfl ?_
    exact ⟨by rw [HR.out], bel_drewN hbel _⟩
end Go.Proofs.Ytfhiialalglefaa
