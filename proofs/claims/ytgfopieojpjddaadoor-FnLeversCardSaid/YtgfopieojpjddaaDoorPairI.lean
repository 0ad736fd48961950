/-
  impl.pairCode.
-/
import Derived.Test.YtgfopieojpjddaaDoorSameReg
import Derived.Test.YtgfopieojpjddaaDoorOkI
import Derived.Test.YtgfopieojpjddaaDoorAr
namespace Go.Proofs.YtgfopieojpjddaaDoor
open Go.RowKit

set_option maxRecDepth 100000 in
set_option maxHeartbeats 1000000 in
theorem pairCode_any (xB : Int) (xA : Option Addr) (xC : Nat) (xZ : List Int) (yB : Int) (yA : Option Addr) (yC : Nat) (yZ : List Int) (w : World) (ha : Rd w xA xZ) (zx : All64 xZ) (bx : I64 xB) (hb : Rd w yA yZ) (zy : All64 yZ) (by_ : I64 yB) :
    Calls Tryd.prog 98 #[.agg #[.int .i64 xB, .slice xA xZ.length xC], .agg #[.int .i64 yB, .slice yA yZ.length yC]] w fun e w' => e = .returned (.int .i64 (twoE xB xZ yB yZ)) ∧ Below w.heap.size w w' := by
  go_enter Tryd.func98, Tryd.ntmps98
  go_wp2_with fail
  obtain ⟨u, hu⟩ : ∃ u, u = (w.alloc (.cells #[.int .i64 xB, .slice xA xZ.length xC] 47)).alloc (.cells #[.int .i64 yB, .slice yA yZ.length yC] 47) := ⟨_, rfl⟩
  rw [← hu]
  have hbel : Below w.heap.size w u := by rw [hu]; exact (by repeat (first | exact Below.refl _ _ | refine Below.setCell ?_ (by first | omega | (simp <;> omega)) _ | refine Below.alloc ?_ (by first | omega | (simp <;> omega)) _ | refine Below.drew ?_))
  have c0 : u.cell? ⟨w.heap.size, 0, none⟩ = some (.int .i64 xB) := by rw [hu]; go_simp
  have c1 : u.cell? ⟨w.heap.size, 1, none⟩ = some (.slice xA xZ.length xC) := by rw [hu]; go_simp
  have d0 : u.cell? ⟨w.heap.size + 1, 0, none⟩ = some (.int .i64 yB) := by rw [hu]; go_simp
  have d1 : u.cell? ⟨w.heap.size + 1, 1, none⟩ = some (.slice yA yZ.length yC) := by rw [hu]; go_simp
  replace ha := ha.below hbel
  replace hb := hb.below hbel
  clear hu
  cases h1 : okB xB xZ with
  | false =>
    have HT := Lib.hid (show twoE xB xZ yB yZ = 1 by simp [twoE, h1])
    refine (implValidRegister xB xA xC xZ u ha zx bx).mono ?_
    rintro e w1 ⟨rfl, hb1⟩
    rw [h1]
    go_wp2
    go_ret
    exact ⟨ret_int HT.out.symm, hbel.trans (hb1.mono hbel.size)⟩
  | true =>
    refine (implValidRegister xB xA xC xZ u ha zx bx).mono ?_
    rintro e w1 ⟨rfl, hb1⟩
    rw [h1]
    replace ha := ha.below hb1
    replace hb := hb.below hb1
    replace c0 := kept hb1 c0
    replace c1 := kept hb1 c1
    replace d0 := kept hb1 d0
    replace d1 := kept hb1 d1
    replace hbel := hbel.trans (hb1.mono hbel.size)
    have H1 := Lib.hid h1
    clear hb1 h1 u
    go_wp2_with fail
    refine (implValidRegister yB yA yC yZ w1 hb zy by_).mono ?_
    rintro e w2 ⟨rfl, hb1⟩
    cases h2 : okB yB yZ with
    | false =>
      have HT := Lib.hid (show twoE xB xZ yB yZ = 1 by simp [twoE, h2])
      go_wp2
      go_ret
      exact ⟨ret_int HT.out.symm, hbel.trans (hb1.mono hbel.size)⟩
    | true =>
      replace c0 := kept hb1 c0
      replace c1 := kept hb1 c1
      replace d0 := kept hb1 d0
      replace d1 := kept hb1 d1
      replace hbel := hbel.trans (hb1.mono hbel.size)
      have HT : Hid (twoE xB xZ yB yZ = if xB = yB ∧ xZ.length = yZ.length then 0 else 6) := Lib.hid (by simp [twoE, H1.out, h2])
      clear hb1 h2 H1 ha hb w1
      have e1 := kept_after c0
      have e2 := kept_after c1
      have e3 := kept_after d0
      have e4 := kept_after d1
      by_cases h : xB = yB ∧ xZ.length = yZ.length
      · rw [if_pos h] at HT
        have hbe : (xB == yB) = true := by simp [h.1]
        have hle : ((xZ.length : Int) == (yZ.length : Int)) = true := by simp [h.2]
        clear h
        go_wp2
        refine wp_region_after (by kernel_rfl) (by kernel_rfl) ?_
        repeat (go_big_quiet_step ((go_at_call 137; exact calls_after (shapeOf_any _ _ _ _ _))))
        refine wpQuiet_nil ?_
        intro u
        go_wp2
        go_ret
        exact ⟨ret_int HT.out.symm, hbel.trans (u.ok.mono hbel.size)⟩
      · rw [if_neg h] at HT
        by_cases h1 : xB = yB
        · have hbe : (xB == yB) = true := by simp [h1]
          have hle : ((xZ.length : Int) == (yZ.length : Int)) = false := by simp; omega
          clear h h1
          go_wp2
          refine wp_region_after (by kernel_rfl) (by kernel_rfl) ?_
          repeat (go_big_quiet_step ((go_at_call 137; exact calls_after (shapeOf_any _ _ _ _ _))))
          refine wpQuiet_nil ?_
          intro u
          go_wp2
          go_ret
          exact ⟨ret_int HT.out.symm, hbel.trans (u.ok.mono hbel.size)⟩
        · have hbe : (xB == yB) = false := by simp [h1]
          clear h h1
          go_wp2
          refine wp_region_after (by kernel_rfl) (by kernel_rfl) ?_
          repeat (go_big_quiet_step ((go_at_call 137; exact calls_after (shapeOf_any _ _ _ _ _))))
          refine wpQuiet_nil ?_
          intro u
          go_wp2
          go_ret
          exact ⟨ret_int HT.out.symm, hbel.trans (u.ok.mono hbel.size)⟩
end Go.Proofs.YtgfopieojpjddaaDoor
