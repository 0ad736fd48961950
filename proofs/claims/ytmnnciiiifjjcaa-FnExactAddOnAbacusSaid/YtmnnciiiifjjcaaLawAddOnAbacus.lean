/-
  laws.FnExactAddOnAbacus returns true at every input (no condition), and leaves its arguments as they were.
-/
import Derived.Test.YtmnnciiiifjjcaaAbaL
import Derived.Test.YtmnnciiiifjjcaaBoxAba
import Derived.Test.YtmnnciiiifjjcaaFrameA
import Derived.Test.YtmnnciiiifjjcaaBeadMoveS
import Derived.Test.YtmnnciiiifjjcaaBdT
import Derived.Test.YtmnnciiiifjjcaaBdJ
import Derived.Deep.RegionHeld3
import Derived.Test.YtmnnciiiifjjcaaFacts
import Derived.Test.YtmnnciiiifjjcaaRows
namespace Go.Proofs.Ytmnnciiiifjjcaa.lawAddOnAbacus
open Go.ChangeShapes Go.WideShapes Go.ChangeAt Go.WideElems Go.RowKit Go.Joins
open Go.ChangeMaps (open_string shut_string)

set_option maxRecDepth 100000 in
set_option maxHeartbeats 20000000 in
theorem law_walk (xAU : Int) (xAL : Int) (xAW : Int) (xAA : Option Addr) (xAC : Nat) (xAR : List (Int × Int)) (xValue : Int) (w : World) (hxA : RawF pairF (fun x => I64 x.1 ∧ I64 x.2) w xAA xAR) (bxAU : I64 xAU) (bxAL : I64 xAL) (bxAW : I64 xAW) (bxValue : I64 xValue) :
    Calls Try.prog 6 #[.agg #[.int .i64 xAU, .int .i64 xAL, .int .i64 xAW, .slice xAA xAR.length xAC], .int .i64 xValue] w fun e w' => e = .returned (.bool true) ∧ Below w.heap.size w w' := by
  have hbel : Below w.heap.size w (w.alloc (.cells #[.int .i64 xAU, .int .i64 xAL, .int .i64 xAW, .slice xAA xAR.length xAC] 61)) := (Below.refl _ _).alloc (by simp) _
  have cxA0 : (w.alloc (.cells #[.int .i64 xAU, .int .i64 xAL, .int .i64 xAW, .slice xAA xAR.length xAC] 61)).cell? ⟨w.heap.size, 0, none⟩ = some (.int .i64 xAU) := by go_simp
  have cxA1 : (w.alloc (.cells #[.int .i64 xAU, .int .i64 xAL, .int .i64 xAW, .slice xAA xAR.length xAC] 61)).cell? ⟨w.heap.size, 1, none⟩ = some (.int .i64 xAL) := by go_simp
  have cxA2 : (w.alloc (.cells #[.int .i64 xAU, .int .i64 xAL, .int .i64 xAW, .slice xAA xAR.length xAC] 61)).cell? ⟨w.heap.size, 2, none⟩ = some (.int .i64 xAW) := by go_simp
  have cxA3 : (w.alloc (.cells #[.int .i64 xAU, .int .i64 xAL, .int .i64 xAW, .slice xAA xAR.length xAC] 61)).cell? ⟨w.heap.size, 3, none⟩ = some (.slice xAA xAR.length xAC) := by go_simp
  go_enter Try.func6, Try.ntmps6
  go_wp2_with fail
  obtain ⟨v1, hu⟩ : ∃ u, u = (w.alloc (.cells #[.int .i64 xAU, .int .i64 xAL, .int .i64 xAW, .slice xAA xAR.length xAC] 61)) := ⟨_, rfl⟩
  have s1 : Hid (w.heap.size + 1 ≤ v1.heap.size) := Lib.hid (by rw [hu]; simp)
  rw [← hu] at cxA0 cxA1 cxA2 cxA3 hbel ⊢
  clear hu
  rcases Int.lt_or_le (leftOf xAR.length 1048576) 0 with k1 | k1
  · refine (szAbacus_any xAU xAL xAW xAA xAR.length xAC 1048576 v1 hxA.len (by omega) (by omega)).mono ?_
    rintro e v2 ⟨rfl, hb⟩
    go_wp2
    go_ret
    exact ⟨rfl, hbel.trans (hb.mono hbel.size)⟩
  have m1 := leftOf_le xAR.length 1048576 (by omega)
  refine (szAbacus_any xAU xAL xAW xAA xAR.length xAC 1048576 v1 hxA.len (by omega) (by omega)).mono ?_
  rintro e v2 ⟨rfl, hb⟩
  have s2 : Hid (v1.heap.size ≤ v2.heap.size) := Lib.hid hb.size
  replace cxA0 := kept hb cxA0
  replace cxA1 := kept hb cxA1
  replace cxA2 := kept hb cxA2
  replace cxA3 := kept hb cxA3
  replace hbel := hbel.trans (hb.mono hbel.size)
  clear hb
  have zxA : All2 xAR := hxA.wf
  replace hxA := hxA.rd (by have := leftOf_len k1; omega)
  go_wp2_with fail
  refine (toAbacus_any xAU xAL xAW xAA xAC xAR v2 (hxA.below hbel)).mono ?_
  rintro e v3 ⟨t3A, t3C, rfl, ot3, hb⟩
  have s4 : Hid (v2.heap.size ≤ v3.heap.size) := Lib.hid hb.size
  replace cxA0 := kept hb cxA0
  replace cxA1 := kept hb cxA1
  replace cxA2 := kept hb cxA2
  replace cxA3 := kept hb cxA3
  replace hbel := hbel.trans (hb.mono hbel.size)
  clear hb
  go_wp2_with fail
  refine (specAddOnAbacus xAU xAL xAW t3A t3C xAR xValue v3 ot3.rd bxAU bxAL bxAW zxA bxValue).mono ?_
  rintro e v4 ⟨w0A, w0C, w1A, w1C, w0m, rfl, ow0, ow1, w0m1, w0m2, hb⟩
  have s5 := Lib.hid w0m1
  have s6 := Lib.hid w0m2
  clear w0m1 w0m2
  have s7 : Hid (v3.heap.size ≤ v4.heap.size) := Lib.hid hb.size
  replace cxA0 := kept hb cxA0
  replace cxA1 := kept hb cxA1
  replace cxA2 := kept hb cxA2
  replace cxA3 := kept hb cxA3
  replace ot3 := ot3.below hb
  replace hbel := hbel.trans (hb.mono hbel.size)
  clear hb
  clear ot3
  have ha8 : Below v4.heap.size v4 (v4.alloc (.cells #[.int .i64 (addAR xAU xAL xAW xAR xValue).1, .int .i64 (addAR xAU xAL xAW xAR xValue).2.1, .int .i64 (addAR xAU xAL xAW xAR xValue).2.2.1, .slice w0A (addAR xAU xAL xAW xAR xValue).2.2.2.1.length w0C] 26)) := (Below.refl _ _).alloc (by simp) _
  replace cxA0 := kept ha8 cxA0
  replace cxA1 := kept ha8 cxA1
  replace cxA2 := kept ha8 cxA2
  replace cxA3 := kept ha8 cxA3
  replace ow0 := ow0.below ha8
  replace ow1 := ow1.below ha8
  replace hbel := hbel.trans (ha8.mono hbel.size)
  clear ha8
  have cw00 : (v4.alloc (.cells #[.int .i64 (addAR xAU xAL xAW xAR xValue).1, .int .i64 (addAR xAU xAL xAW xAR xValue).2.1, .int .i64 (addAR xAU xAL xAW xAR xValue).2.2.1, .slice w0A (addAR xAU xAL xAW xAR xValue).2.2.2.1.length w0C] 26)).cell? ⟨v4.heap.size, 0, none⟩ = some (.int .i64 (addAR xAU xAL xAW xAR xValue).1) := by go_simp
  have cw01 : (v4.alloc (.cells #[.int .i64 (addAR xAU xAL xAW xAR xValue).1, .int .i64 (addAR xAU xAL xAW xAR xValue).2.1, .int .i64 (addAR xAU xAL xAW xAR xValue).2.2.1, .slice w0A (addAR xAU xAL xAW xAR xValue).2.2.2.1.length w0C] 26)).cell? ⟨v4.heap.size, 1, none⟩ = some (.int .i64 (addAR xAU xAL xAW xAR xValue).2.1) := by go_simp
  have cw02 : (v4.alloc (.cells #[.int .i64 (addAR xAU xAL xAW xAR xValue).1, .int .i64 (addAR xAU xAL xAW xAR xValue).2.1, .int .i64 (addAR xAU xAL xAW xAR xValue).2.2.1, .slice w0A (addAR xAU xAL xAW xAR xValue).2.2.2.1.length w0C] 26)).cell? ⟨v4.heap.size, 2, none⟩ = some (.int .i64 (addAR xAU xAL xAW xAR xValue).2.2.1) := by go_simp
  have cw03 : (v4.alloc (.cells #[.int .i64 (addAR xAU xAL xAW xAR xValue).1, .int .i64 (addAR xAU xAL xAW xAR xValue).2.1, .int .i64 (addAR xAU xAL xAW xAR xValue).2.2.1, .slice w0A (addAR xAU xAL xAW xAR xValue).2.2.2.1.length w0C] 26)).cell? ⟨v4.heap.size, 3, none⟩ = some (.slice w0A (addAR xAU xAL xAW xAR xValue).2.2.2.1.length w0C) := by go_simp
  go_wp2_with fail
  obtain ⟨v5, hu⟩ : ∃ u, u = (v4.alloc (.cells #[.int .i64 (addAR xAU xAL xAW xAR xValue).1, .int .i64 (addAR xAU xAL xAW xAR xValue).2.1, .int .i64 (addAR xAU xAL xAW xAR xValue).2.2.1, .slice w0A (addAR xAU xAL xAW xAR xValue).2.2.2.1.length w0C] 26)) := ⟨_, rfl⟩
  have s10 : Hid (v4.heap.size + 1 ≤ v5.heap.size) := Lib.hid (by rw [hu]; simp)
  rw [← hu] at cxA0 cxA1 cxA2 cxA3 cw00 cw01 cw02 cw03 ow0 ow1 hbel ⊢
  clear hu
  refine (toAbacus_any xAU xAL xAW xAA xAC xAR v5 (hxA.below hbel)).mono ?_
  rintro e v6 ⟨t9A, t9C, rfl, ot9, hb⟩
  have s11 : Hid (v5.heap.size ≤ v6.heap.size) := Lib.hid hb.size
  replace cxA0 := kept hb cxA0
  replace cxA1 := kept hb cxA1
  replace cxA2 := kept hb cxA2
  replace cxA3 := kept hb cxA3
  replace cw00 := kept hb cw00
  replace cw01 := kept hb cw01
  replace cw02 := kept hb cw02
  replace cw03 := kept hb cw03
  replace ow0 := ow0.below hb
  replace ow1 := ow1.below hb
  replace hbel := hbel.trans (hb.mono hbel.size)
  clear hb
  have ha12 : Below v6.heap.size v6 (v6.alloc (.cells #[.int .i64 xAU, .int .i64 xAL, .int .i64 xAW, .slice t9A xAR.length t9C] 26)) := (Below.refl _ _).alloc (by simp) _
  replace cxA0 := kept ha12 cxA0
  replace cxA1 := kept ha12 cxA1
  replace cxA2 := kept ha12 cxA2
  replace cxA3 := kept ha12 cxA3
  replace cw00 := kept ha12 cw00
  replace cw01 := kept ha12 cw01
  replace cw02 := kept ha12 cw02
  replace cw03 := kept ha12 cw03
  replace ow0 := ow0.below ha12
  replace ow1 := ow1.below ha12
  replace ot9 := ot9.below ha12
  replace hbel := hbel.trans (ha12.mono hbel.size)
  clear ha12
  have cx00 : (v6.alloc (.cells #[.int .i64 xAU, .int .i64 xAL, .int .i64 xAW, .slice t9A xAR.length t9C] 26)).cell? ⟨v6.heap.size, 0, none⟩ = some (.int .i64 xAU) := by go_simp
  have cx01 : (v6.alloc (.cells #[.int .i64 xAU, .int .i64 xAL, .int .i64 xAW, .slice t9A xAR.length t9C] 26)).cell? ⟨v6.heap.size, 1, none⟩ = some (.int .i64 xAL) := by go_simp
  have cx02 : (v6.alloc (.cells #[.int .i64 xAU, .int .i64 xAL, .int .i64 xAW, .slice t9A xAR.length t9C] 26)).cell? ⟨v6.heap.size, 2, none⟩ = some (.int .i64 xAW) := by go_simp
  have cx03 : (v6.alloc (.cells #[.int .i64 xAU, .int .i64 xAL, .int .i64 xAW, .slice t9A xAR.length t9C] 26)).cell? ⟨v6.heap.size, 3, none⟩ = some (.slice t9A xAR.length t9C) := by go_simp
  go_wp2_with fail
  obtain ⟨v7, hu⟩ : ∃ u, u = (v6.alloc (.cells #[.int .i64 xAU, .int .i64 xAL, .int .i64 xAW, .slice t9A xAR.length t9C] 26)) := ⟨_, rfl⟩
  have s13 : Hid (v6.heap.size + 1 ≤ v7.heap.size) := Lib.hid (by rw [hu]; simp)
  rw [← hu] at cxA0 cxA1 cxA2 cxA3 cw00 cw01 cw02 cw03 cx00 cx01 cx02 cx03 ow0 ow1 ot9 hbel ⊢
  clear hu
  refine (implAddOnAbacus xAU xAL xAW t9A t9C xAR xValue v7 ot9.rd bxAU bxAL bxAW zxA bxValue).mono ?_
  rintro e v8 ⟨g0A, g0C, g1A, g1C, g0m, rfl, og0, og1, g0m1, g0m2, hb⟩
  have s14 := Lib.hid g0m1
  have s15 := Lib.hid g0m2
  clear g0m1 g0m2
  have s16 : Hid (v7.heap.size ≤ v8.heap.size) := Lib.hid hb.size
  replace cxA0 := kept hb cxA0
  replace cxA1 := kept hb cxA1
  replace cxA2 := kept hb cxA2
  replace cxA3 := kept hb cxA3
  replace cw00 := kept hb cw00
  replace cw01 := kept hb cw01
  replace cw02 := kept hb cw02
  replace cw03 := kept hb cw03
  replace cx00 := kept hb cx00
  replace cx01 := kept hb cx01
  replace cx02 := kept hb cx02
  replace cx03 := kept hb cx03
  replace ow0 := ow0.below hb
  replace ow1 := ow1.below hb
  replace ot9 := ot9.below hb
  replace hbel := hbel.trans (hb.mono hbel.size)
  clear hb
  have ha17 : Below v8.heap.size v8 (v8.alloc (.cells #[.int .i64 (addAR xAU xAL xAW xAR xValue).1, .int .i64 (addAR xAU xAL xAW xAR xValue).2.1, .int .i64 (addAR xAU xAL xAW xAR xValue).2.2.1, .slice g0A (addAR xAU xAL xAW xAR xValue).2.2.2.1.length g0C] 26)) := (Below.refl _ _).alloc (by simp) _
  replace cxA0 := kept ha17 cxA0
  replace cxA1 := kept ha17 cxA1
  replace cxA2 := kept ha17 cxA2
  replace cxA3 := kept ha17 cxA3
  replace cw00 := kept ha17 cw00
  replace cw01 := kept ha17 cw01
  replace cw02 := kept ha17 cw02
  replace cw03 := kept ha17 cw03
  replace cx00 := kept ha17 cx00
  replace cx01 := kept ha17 cx01
  replace cx02 := kept ha17 cx02
  replace cx03 := kept ha17 cx03
  replace ow0 := ow0.below ha17
  replace ow1 := ow1.below ha17
  replace ot9 := ot9.below ha17
  replace og0 := og0.below ha17
  replace og1 := og1.below ha17
  replace hbel := hbel.trans (ha17.mono hbel.size)
  clear ha17
  have cg00 : (v8.alloc (.cells #[.int .i64 (addAR xAU xAL xAW xAR xValue).1, .int .i64 (addAR xAU xAL xAW xAR xValue).2.1, .int .i64 (addAR xAU xAL xAW xAR xValue).2.2.1, .slice g0A (addAR xAU xAL xAW xAR xValue).2.2.2.1.length g0C] 26)).cell? ⟨v8.heap.size, 0, none⟩ = some (.int .i64 (addAR xAU xAL xAW xAR xValue).1) := by go_simp
  have cg01 : (v8.alloc (.cells #[.int .i64 (addAR xAU xAL xAW xAR xValue).1, .int .i64 (addAR xAU xAL xAW xAR xValue).2.1, .int .i64 (addAR xAU xAL xAW xAR xValue).2.2.1, .slice g0A (addAR xAU xAL xAW xAR xValue).2.2.2.1.length g0C] 26)).cell? ⟨v8.heap.size, 1, none⟩ = some (.int .i64 (addAR xAU xAL xAW xAR xValue).2.1) := by go_simp
  have cg02 : (v8.alloc (.cells #[.int .i64 (addAR xAU xAL xAW xAR xValue).1, .int .i64 (addAR xAU xAL xAW xAR xValue).2.1, .int .i64 (addAR xAU xAL xAW xAR xValue).2.2.1, .slice g0A (addAR xAU xAL xAW xAR xValue).2.2.2.1.length g0C] 26)).cell? ⟨v8.heap.size, 2, none⟩ = some (.int .i64 (addAR xAU xAL xAW xAR xValue).2.2.1) := by go_simp
  have cg03 : (v8.alloc (.cells #[.int .i64 (addAR xAU xAL xAW xAR xValue).1, .int .i64 (addAR xAU xAL xAW xAR xValue).2.1, .int .i64 (addAR xAU xAL xAW xAR xValue).2.2.1, .slice g0A (addAR xAU xAL xAW xAR xValue).2.2.2.1.length g0C] 26)).cell? ⟨v8.heap.size, 3, none⟩ = some (.slice g0A (addAR xAU xAL xAW xAR xValue).2.2.2.1.length g0C) := by go_simp
  have q18 : abaEqB (addAR xAU xAL xAW xAR xValue).1 (addAR xAU xAL xAW xAR xValue).2.1 (addAR xAU xAL xAW xAR xValue).2.2.1 (addAR xAU xAL xAW xAR xValue).1 (addAR xAU xAL xAW xAR xValue).2.1 (addAR xAU xAL xAW xAR xValue).2.2.1 (addAR xAU xAL xAW xAR xValue).2.2.2.1 (addAR xAU xAL xAW xAR xValue).2.2.2.1 = true := abaEqB_self _ _ _ _
  go_wp2_with fail
  obtain ⟨v9, hu⟩ : ∃ u, u = (v8.alloc (.cells #[.int .i64 (addAR xAU xAL xAW xAR xValue).1, .int .i64 (addAR xAU xAL xAW xAR xValue).2.1, .int .i64 (addAR xAU xAL xAW xAR xValue).2.2.1, .slice g0A (addAR xAU xAL xAW xAR xValue).2.2.2.1.length g0C] 26)) := ⟨_, rfl⟩
  have s19 : Hid (v8.heap.size + 1 ≤ v9.heap.size) := Lib.hid (by rw [hu]; simp)
  rw [← hu] at cxA0 cxA1 cxA2 cxA3 cw00 cw01 cw02 cw03 cx00 cx01 cx02 cx03 cg00 cg01 cg02 cg03 ow0 ow1 ot9 og0 og1 hbel ⊢
  clear hu
  refine (eqAbacus_any (addAR xAU xAL xAW xAR xValue).1 (addAR xAU xAL xAW xAR xValue).2.1 (addAR xAU xAL xAW xAR xValue).2.2.1 (addAR xAU xAL xAW xAR xValue).1 (addAR xAU xAL xAW xAR xValue).2.1 (addAR xAU xAL xAW xAR xValue).2.2.1 g0A w0A g0C w0C (addAR xAU xAL xAW xAR xValue).2.2.2.1 (addAR xAU xAL xAW xAR xValue).2.2.2.1 v9 og0.rd ow0.rd).mono ?_
  rintro e v10 ⟨rfl, hb⟩
  have s20 : Hid (v9.heap.size ≤ v10.heap.size) := Lib.hid hb.size
  replace cxA0 := kept hb cxA0
  replace cxA1 := kept hb cxA1
  replace cxA2 := kept hb cxA2
  replace cxA3 := kept hb cxA3
  replace cw00 := kept hb cw00
  replace cw01 := kept hb cw01
  replace cw02 := kept hb cw02
  replace cw03 := kept hb cw03
  replace cx00 := kept hb cx00
  replace cx01 := kept hb cx01
  replace cx02 := kept hb cx02
  replace cx03 := kept hb cx03
  replace cg00 := kept hb cg00
  replace cg01 := kept hb cg01
  replace cg02 := kept hb cg02
  replace cg03 := kept hb cg03
  replace ow0 := ow0.below hb
  replace ow1 := ow1.below hb
  replace ot9 := ot9.below hb
  replace og0 := og0.below hb
  replace og1 := og1.below hb
  replace hbel := hbel.trans (hb.mono hbel.size)
  clear hb
  have q21 : decide ((addAR xAU xAL xAW xAR xValue).2.2.2.2.1 = (addAR xAU xAL xAW xAR xValue).2.2.2.2.1) = true := decide_eq_true rfl
  go_wp2_with fail
  refine (eqBeadMoveS_any g1A w1A g1C w1C (addAR xAU xAL xAW xAR xValue).2.2.2.2.1 (addAR xAU xAL xAW xAR xValue).2.2.2.2.1 v10 og1.rd ow1.rd).mono ?_
  rintro e v11 ⟨rfl, hb⟩
  have s22 : Hid (v10.heap.size ≤ v11.heap.size) := Lib.hid hb.size
  replace cxA0 := kept hb cxA0
  replace cxA1 := kept hb cxA1
  replace cxA2 := kept hb cxA2
  replace cxA3 := kept hb cxA3
  replace cw00 := kept hb cw00
  replace cw01 := kept hb cw01
  replace cw02 := kept hb cw02
  replace cw03 := kept hb cw03
  replace cx00 := kept hb cx00
  replace cx01 := kept hb cx01
  replace cx02 := kept hb cx02
  replace cx03 := kept hb cx03
  replace cg00 := kept hb cg00
  replace cg01 := kept hb cg01
  replace cg02 := kept hb cg02
  replace cg03 := kept hb cg03
  replace ow0 := ow0.below hb
  replace ow1 := ow1.below hb
  replace ot9 := ot9.below hb
  replace og0 := og0.below hb
  replace og1 := og1.below hb
  replace hbel := hbel.trans (hb.mono hbel.size)
  clear hb
  have q23 : abaEqB xAU xAL xAW xAU xAL xAW xAR xAR = true := abaEqB_self _ _ _ _
  go_wp2_with fail
  have rcxA0 := kept_all cxA0
  have rcxA1 := kept_all cxA1
  have rcxA2 := kept_all cxA2
  have rcxA3 := kept_all cxA3
  have rcw00 := kept_all cw00
  have rcw01 := kept_all cw01
  have rcw02 := kept_all cw02
  have rcw03 := kept_all cw03
  have rcx00 := kept_all cx00
  have rcx01 := kept_all cx01
  have rcx02 := kept_all cx02
  have rcx03 := kept_all cx03
  have rcg00 := kept_all cg00
  have rcg01 := kept_all cg01
  have rcg02 := kept_all cg02
  have rcg03 := kept_all cg03
  go_region_held3 (fun w' => Below v11.heap.size v11 w') (first | exact hk | exact (Below.refl _ _).drew | exact hk.alloc hk.size _ | exact (hk.alloc hk.size _).setCell hk.size _)
    (first | (go_at_call 48; have qB := ‹Below v11.heap.size v11 _›; ((with_reducible refine (toAbacus_any xAU xAL xAW xAA xAC xAR _ (hxA.below (hbel.trans (qB.mono hbel.size)))).mono ?_)); rintro e v13 ⟨t24A, t24C, rfl, ot24, hb⟩; have hk := qB.trans (hb.mono qB.size)) | (go_at_call 49; have qB := ‹Below v11.heap.size v11 _›; refine (eqAbacus_any xAU xAL xAW xAU xAL xAW t9A t24A t9C t24C xAR xAR _ (ot9.below qB).rd (by first | exact ot24.rd | exact (ot24.alloc _).rd)).mono ?_; rintro e v12 ⟨rfl, hb⟩; have hk := qB.trans (hb.mono qB.size)))
  have hb : Below v11.heap.size v11 v12 := by assumption
  clear rcxA0 rcxA1 rcxA2 rcxA3 rcw00 rcw01 rcw02 rcw03 rcx00 rcx01 rcx02 rcx03 rcg00 rcg01 rcg02 rcg03
  clear ot24
  have s25 : Hid (v11.heap.size ≤ v12.heap.size) := Lib.hid hb.size
  replace cxA0 := kept hb cxA0
  replace cxA1 := kept hb cxA1
  replace cxA2 := kept hb cxA2
  replace cxA3 := kept hb cxA3
  replace cw00 := kept hb cw00
  replace cw01 := kept hb cw01
  replace cw02 := kept hb cw02
  replace cw03 := kept hb cw03
  replace cx00 := kept hb cx00
  replace cx01 := kept hb cx01
  replace cx02 := kept hb cx02
  replace cx03 := kept hb cx03
  replace cg00 := kept hb cg00
  replace cg01 := kept hb cg01
  replace cg02 := kept hb cg02
  replace cg03 := kept hb cg03
  replace ow0 := ow0.below hb
  replace ow1 := ow1.below hb
  replace ot9 := ot9.below hb
  replace og0 := og0.below hb
  replace og1 := og1.below hb
  replace hbel := hbel.trans (hb.mono hbel.size)
  clear hb
  go_wp2_with fail
  refine (markAbacus_any _ _ _ xAU xAL xAW t9A t9C 1 xAR v12 ot9 (by have := ow0.len; have := ow1.len; have := ot9.len; have := og0.len; have := og1.len; have := hxA.len; omega) (by have := ow0.len; have := ow1.len; have := ot9.len; have := og0.len; have := og1.len; have := hxA.len; omega)).mono ?_
  rintro e v14 ⟨rfl, om, ht⟩
  have s26 : Hid (v12.heap.size ≤ v14.heap.size) := Lib.hid ht.size
  clear ot9
  have ot9 := om
  clear om
  replace cxA0 := keptT ht cxA0 (by have := s1.out; have := s2.out; have := s4.out; have := s5.out; have := s6.out; have := s7.out; have := s10.out; have := s11.out; have := s13.out; have := s14.out; have := s15.out; have := s16.out; have := s19.out; have := s20.out; have := s22.out; have := s25.out; have := s26.out; omega)
  replace cxA1 := keptT ht cxA1 (by have := s1.out; have := s2.out; have := s4.out; have := s5.out; have := s6.out; have := s7.out; have := s10.out; have := s11.out; have := s13.out; have := s14.out; have := s15.out; have := s16.out; have := s19.out; have := s20.out; have := s22.out; have := s25.out; have := s26.out; omega)
  replace cxA2 := keptT ht cxA2 (by have := s1.out; have := s2.out; have := s4.out; have := s5.out; have := s6.out; have := s7.out; have := s10.out; have := s11.out; have := s13.out; have := s14.out; have := s15.out; have := s16.out; have := s19.out; have := s20.out; have := s22.out; have := s25.out; have := s26.out; omega)
  replace cxA3 := keptT ht cxA3 (by have := s1.out; have := s2.out; have := s4.out; have := s5.out; have := s6.out; have := s7.out; have := s10.out; have := s11.out; have := s13.out; have := s14.out; have := s15.out; have := s16.out; have := s19.out; have := s20.out; have := s22.out; have := s25.out; have := s26.out; omega)
  replace cw00 := keptT ht cw00 (by have := s1.out; have := s2.out; have := s4.out; have := s5.out; have := s6.out; have := s7.out; have := s10.out; have := s11.out; have := s13.out; have := s14.out; have := s15.out; have := s16.out; have := s19.out; have := s20.out; have := s22.out; have := s25.out; have := s26.out; omega)
  replace cw01 := keptT ht cw01 (by have := s1.out; have := s2.out; have := s4.out; have := s5.out; have := s6.out; have := s7.out; have := s10.out; have := s11.out; have := s13.out; have := s14.out; have := s15.out; have := s16.out; have := s19.out; have := s20.out; have := s22.out; have := s25.out; have := s26.out; omega)
  replace cw02 := keptT ht cw02 (by have := s1.out; have := s2.out; have := s4.out; have := s5.out; have := s6.out; have := s7.out; have := s10.out; have := s11.out; have := s13.out; have := s14.out; have := s15.out; have := s16.out; have := s19.out; have := s20.out; have := s22.out; have := s25.out; have := s26.out; omega)
  replace cw03 := keptT ht cw03 (by have := s1.out; have := s2.out; have := s4.out; have := s5.out; have := s6.out; have := s7.out; have := s10.out; have := s11.out; have := s13.out; have := s14.out; have := s15.out; have := s16.out; have := s19.out; have := s20.out; have := s22.out; have := s25.out; have := s26.out; omega)
  replace cx00 := keptT ht cx00 (by have := s1.out; have := s2.out; have := s4.out; have := s5.out; have := s6.out; have := s7.out; have := s10.out; have := s11.out; have := s13.out; have := s14.out; have := s15.out; have := s16.out; have := s19.out; have := s20.out; have := s22.out; have := s25.out; have := s26.out; omega)
  replace cx01 := keptT ht cx01 (by have := s1.out; have := s2.out; have := s4.out; have := s5.out; have := s6.out; have := s7.out; have := s10.out; have := s11.out; have := s13.out; have := s14.out; have := s15.out; have := s16.out; have := s19.out; have := s20.out; have := s22.out; have := s25.out; have := s26.out; omega)
  replace cx02 := keptT ht cx02 (by have := s1.out; have := s2.out; have := s4.out; have := s5.out; have := s6.out; have := s7.out; have := s10.out; have := s11.out; have := s13.out; have := s14.out; have := s15.out; have := s16.out; have := s19.out; have := s20.out; have := s22.out; have := s25.out; have := s26.out; omega)
  replace cx03 := keptT ht cx03 (by have := s1.out; have := s2.out; have := s4.out; have := s5.out; have := s6.out; have := s7.out; have := s10.out; have := s11.out; have := s13.out; have := s14.out; have := s15.out; have := s16.out; have := s19.out; have := s20.out; have := s22.out; have := s25.out; have := s26.out; omega)
  replace cg00 := keptT ht cg00 (by have := s1.out; have := s2.out; have := s4.out; have := s5.out; have := s6.out; have := s7.out; have := s10.out; have := s11.out; have := s13.out; have := s14.out; have := s15.out; have := s16.out; have := s19.out; have := s20.out; have := s22.out; have := s25.out; have := s26.out; omega)
  replace cg01 := keptT ht cg01 (by have := s1.out; have := s2.out; have := s4.out; have := s5.out; have := s6.out; have := s7.out; have := s10.out; have := s11.out; have := s13.out; have := s14.out; have := s15.out; have := s16.out; have := s19.out; have := s20.out; have := s22.out; have := s25.out; have := s26.out; omega)
  replace cg02 := keptT ht cg02 (by have := s1.out; have := s2.out; have := s4.out; have := s5.out; have := s6.out; have := s7.out; have := s10.out; have := s11.out; have := s13.out; have := s14.out; have := s15.out; have := s16.out; have := s19.out; have := s20.out; have := s22.out; have := s25.out; have := s26.out; omega)
  replace cg03 := keptT ht cg03 (by have := s1.out; have := s2.out; have := s4.out; have := s5.out; have := s6.out; have := s7.out; have := s10.out; have := s11.out; have := s13.out; have := s14.out; have := s15.out; have := s16.out; have := s19.out; have := s20.out; have := s22.out; have := s25.out; have := s26.out; omega)
  replace ow0 := ow0.touch ht (by have := s1.out; have := s2.out; have := s4.out; have := s5.out; have := s6.out; have := s7.out; have := s10.out; have := s11.out; have := s13.out; have := s14.out; have := s15.out; have := s16.out; have := s19.out; have := s20.out; have := s22.out; have := s25.out; have := s26.out; omega)
  replace ow1 := ow1.touch ht (by have := s1.out; have := s2.out; have := s4.out; have := s5.out; have := s6.out; have := s7.out; have := s10.out; have := s11.out; have := s13.out; have := s14.out; have := s15.out; have := s16.out; have := s19.out; have := s20.out; have := s22.out; have := s25.out; have := s26.out; omega)
  replace og0 := og0.touch ht (by have := s1.out; have := s2.out; have := s4.out; have := s5.out; have := s6.out; have := s7.out; have := s10.out; have := s11.out; have := s13.out; have := s14.out; have := s15.out; have := s16.out; have := s19.out; have := s20.out; have := s22.out; have := s25.out; have := s26.out; omega)
  replace og1 := og1.touch ht (by have := s1.out; have := s2.out; have := s4.out; have := s5.out; have := s6.out; have := s7.out; have := s10.out; have := s11.out; have := s13.out; have := s14.out; have := s15.out; have := s16.out; have := s19.out; have := s20.out; have := s22.out; have := s25.out; have := s26.out; omega)
  replace hbel := hbel.trans (ht.below (by have := s1.out; have := s2.out; have := s4.out; have := s5.out; have := s6.out; have := s7.out; have := s10.out; have := s11.out; have := s13.out; have := s14.out; have := s15.out; have := s16.out; have := s19.out; have := s20.out; have := s22.out; have := s25.out; have := s26.out; omega) hbel.size)
  clear ht
  have q27 : abaEqB (addAR xAU xAL xAW xAR xValue).1 (addAR xAU xAL xAW xAR xValue).2.1 (addAR xAU xAL xAW xAR xValue).2.2.1 (addAR xAU xAL xAW xAR xValue).1 (addAR xAU xAL xAW xAR xValue).2.1 (addAR xAU xAL xAW xAR xValue).2.2.1 (addAR xAU xAL xAW xAR xValue).2.2.2.1 (addAR xAU xAL xAW xAR xValue).2.2.2.1 = true := abaEqB_self _ _ _ _
  go_wp2_with fail
  refine (eqAbacus_any (addAR xAU xAL xAW xAR xValue).1 (addAR xAU xAL xAW xAR xValue).2.1 (addAR xAU xAL xAW xAR xValue).2.2.1 (addAR xAU xAL xAW xAR xValue).1 (addAR xAU xAL xAW xAR xValue).2.1 (addAR xAU xAL xAW xAR xValue).2.2.1 g0A w0A g0C w0C (addAR xAU xAL xAW xAR xValue).2.2.2.1 (addAR xAU xAL xAW xAR xValue).2.2.2.1 v14 og0.rd ow0.rd).mono ?_
  rintro e v15 ⟨rfl, hb⟩
  have s28 : Hid (v14.heap.size ≤ v15.heap.size) := Lib.hid hb.size
  replace cxA0 := kept hb cxA0
  replace cxA1 := kept hb cxA1
  replace cxA2 := kept hb cxA2
  replace cxA3 := kept hb cxA3
  replace cw00 := kept hb cw00
  replace cw01 := kept hb cw01
  replace cw02 := kept hb cw02
  replace cw03 := kept hb cw03
  replace cx00 := kept hb cx00
  replace cx01 := kept hb cx01
  replace cx02 := kept hb cx02
  replace cx03 := kept hb cx03
  replace cg00 := kept hb cg00
  replace cg01 := kept hb cg01
  replace cg02 := kept hb cg02
  replace cg03 := kept hb cg03
  replace ow0 := ow0.below hb
  replace ow1 := ow1.below hb
  replace ot9 := ot9.below hb
  replace og0 := og0.below hb
  replace og1 := og1.below hb
  replace hbel := hbel.trans (hb.mono hbel.size)
  clear hb
  have q29 : decide ((addAR xAU xAL xAW xAR xValue).2.2.2.2.1 = (addAR xAU xAL xAW xAR xValue).2.2.2.2.1) = true := decide_eq_true rfl
  go_wp2_with fail
  refine (eqBeadMoveS_any g1A w1A g1C w1C (addAR xAU xAL xAW xAR xValue).2.2.2.2.1 (addAR xAU xAL xAW xAR xValue).2.2.2.2.1 v15 og1.rd ow1.rd).mono ?_
  rintro e v16 ⟨rfl, hb⟩
  have s30 : Hid (v15.heap.size ≤ v16.heap.size) := Lib.hid hb.size
  replace cxA0 := kept hb cxA0
  replace cxA1 := kept hb cxA1
  replace cxA2 := kept hb cxA2
  replace cxA3 := kept hb cxA3
  replace cw00 := kept hb cw00
  replace cw01 := kept hb cw01
  replace cw02 := kept hb cw02
  replace cw03 := kept hb cw03
  replace cx00 := kept hb cx00
  replace cx01 := kept hb cx01
  replace cx02 := kept hb cx02
  replace cx03 := kept hb cx03
  replace cg00 := kept hb cg00
  replace cg01 := kept hb cg01
  replace cg02 := kept hb cg02
  replace cg03 := kept hb cg03
  replace ow0 := ow0.below hb
  replace ow1 := ow1.below hb
  replace ot9 := ot9.below hb
  replace og0 := og0.below hb
  replace og1 := og1.below hb
  replace hbel := hbel.trans (hb.mono hbel.size)
  clear hb
  go_wp2_with fail
  refine (markAbacus_any _ _ _ (addAR xAU xAL xAW xAR xValue).1 (addAR xAU xAL xAW xAR xValue).2.1 (addAR xAU xAL xAW xAR xValue).2.2.1 g0A g0C 1 (addAR xAU xAL xAW xAR xValue).2.2.2.1 v16 og0 (by have := ow0.len; have := ow1.len; have := ot9.len; have := og0.len; have := og1.len; have := hxA.len; omega) (by have := ow0.len; have := ow1.len; have := ot9.len; have := og0.len; have := og1.len; have := hxA.len; omega)).mono ?_
  rintro e v17 ⟨rfl, om, ht⟩
  have s31 : Hid (v16.heap.size ≤ v17.heap.size) := Lib.hid ht.size
  clear og0
  have og0 := om
  clear om
  replace cxA0 := keptT ht cxA0 (by have := s1.out; have := s2.out; have := s4.out; have := s5.out; have := s6.out; have := s7.out; have := s10.out; have := s11.out; have := s13.out; have := s14.out; have := s15.out; have := s16.out; have := s19.out; have := s20.out; have := s22.out; have := s25.out; have := s26.out; have := s28.out; have := s30.out; have := s31.out; omega)
  replace cxA1 := keptT ht cxA1 (by have := s1.out; have := s2.out; have := s4.out; have := s5.out; have := s6.out; have := s7.out; have := s10.out; have := s11.out; have := s13.out; have := s14.out; have := s15.out; have := s16.out; have := s19.out; have := s20.out; have := s22.out; have := s25.out; have := s26.out; have := s28.out; have := s30.out; have := s31.out; omega)
  replace cxA2 := keptT ht cxA2 (by have := s1.out; have := s2.out; have := s4.out; have := s5.out; have := s6.out; have := s7.out; have := s10.out; have := s11.out; have := s13.out; have := s14.out; have := s15.out; have := s16.out; have := s19.out; have := s20.out; have := s22.out; have := s25.out; have := s26.out; have := s28.out; have := s30.out; have := s31.out; omega)
  replace cxA3 := keptT ht cxA3 (by have := s1.out; have := s2.out; have := s4.out; have := s5.out; have := s6.out; have := s7.out; have := s10.out; have := s11.out; have := s13.out; have := s14.out; have := s15.out; have := s16.out; have := s19.out; have := s20.out; have := s22.out; have := s25.out; have := s26.out; have := s28.out; have := s30.out; have := s31.out; omega)
  replace cw00 := keptT ht cw00 (by have := s1.out; have := s2.out; have := s4.out; have := s5.out; have := s6.out; have := s7.out; have := s10.out; have := s11.out; have := s13.out; have := s14.out; have := s15.out; have := s16.out; have := s19.out; have := s20.out; have := s22.out; have := s25.out; have := s26.out; have := s28.out; have := s30.out; have := s31.out; omega)
  replace cw01 := keptT ht cw01 (by have := s1.out; have := s2.out; have := s4.out; have := s5.out; have := s6.out; have := s7.out; have := s10.out; have := s11.out; have := s13.out; have := s14.out; have := s15.out; have := s16.out; have := s19.out; have := s20.out; have := s22.out; have := s25.out; have := s26.out; have := s28.out; have := s30.out; have := s31.out; omega)
  replace cw02 := keptT ht cw02 (by have := s1.out; have := s2.out; have := s4.out; have := s5.out; have := s6.out; have := s7.out; have := s10.out; have := s11.out; have := s13.out; have := s14.out; have := s15.out; have := s16.out; have := s19.out; have := s20.out; have := s22.out; have := s25.out; have := s26.out; have := s28.out; have := s30.out; have := s31.out; omega)
  replace cw03 := keptT ht cw03 (by have := s1.out; have := s2.out; have := s4.out; have := s5.out; have := s6.out; have := s7.out; have := s10.out; have := s11.out; have := s13.out; have := s14.out; have := s15.out; have := s16.out; have := s19.out; have := s20.out; have := s22.out; have := s25.out; have := s26.out; have := s28.out; have := s30.out; have := s31.out; omega)
  replace cx00 := keptT ht cx00 (by have := s1.out; have := s2.out; have := s4.out; have := s5.out; have := s6.out; have := s7.out; have := s10.out; have := s11.out; have := s13.out; have := s14.out; have := s15.out; have := s16.out; have := s19.out; have := s20.out; have := s22.out; have := s25.out; have := s26.out; have := s28.out; have := s30.out; have := s31.out; omega)
  replace cx01 := keptT ht cx01 (by have := s1.out; have := s2.out; have := s4.out; have := s5.out; have := s6.out; have := s7.out; have := s10.out; have := s11.out; have := s13.out; have := s14.out; have := s15.out; have := s16.out; have := s19.out; have := s20.out; have := s22.out; have := s25.out; have := s26.out; have := s28.out; have := s30.out; have := s31.out; omega)
  replace cx02 := keptT ht cx02 (by have := s1.out; have := s2.out; have := s4.out; have := s5.out; have := s6.out; have := s7.out; have := s10.out; have := s11.out; have := s13.out; have := s14.out; have := s15.out; have := s16.out; have := s19.out; have := s20.out; have := s22.out; have := s25.out; have := s26.out; have := s28.out; have := s30.out; have := s31.out; omega)
  replace cx03 := keptT ht cx03 (by have := s1.out; have := s2.out; have := s4.out; have := s5.out; have := s6.out; have := s7.out; have := s10.out; have := s11.out; have := s13.out; have := s14.out; have := s15.out; have := s16.out; have := s19.out; have := s20.out; have := s22.out; have := s25.out; have := s26.out; have := s28.out; have := s30.out; have := s31.out; omega)
  replace cg00 := keptT ht cg00 (by have := s1.out; have := s2.out; have := s4.out; have := s5.out; have := s6.out; have := s7.out; have := s10.out; have := s11.out; have := s13.out; have := s14.out; have := s15.out; have := s16.out; have := s19.out; have := s20.out; have := s22.out; have := s25.out; have := s26.out; have := s28.out; have := s30.out; have := s31.out; omega)
  replace cg01 := keptT ht cg01 (by have := s1.out; have := s2.out; have := s4.out; have := s5.out; have := s6.out; have := s7.out; have := s10.out; have := s11.out; have := s13.out; have := s14.out; have := s15.out; have := s16.out; have := s19.out; have := s20.out; have := s22.out; have := s25.out; have := s26.out; have := s28.out; have := s30.out; have := s31.out; omega)
  replace cg02 := keptT ht cg02 (by have := s1.out; have := s2.out; have := s4.out; have := s5.out; have := s6.out; have := s7.out; have := s10.out; have := s11.out; have := s13.out; have := s14.out; have := s15.out; have := s16.out; have := s19.out; have := s20.out; have := s22.out; have := s25.out; have := s26.out; have := s28.out; have := s30.out; have := s31.out; omega)
  replace cg03 := keptT ht cg03 (by have := s1.out; have := s2.out; have := s4.out; have := s5.out; have := s6.out; have := s7.out; have := s10.out; have := s11.out; have := s13.out; have := s14.out; have := s15.out; have := s16.out; have := s19.out; have := s20.out; have := s22.out; have := s25.out; have := s26.out; have := s28.out; have := s30.out; have := s31.out; omega)
  replace ow0 := ow0.touch ht (by have := s1.out; have := s2.out; have := s4.out; have := s5.out; have := s6.out; have := s7.out; have := s10.out; have := s11.out; have := s13.out; have := s14.out; have := s15.out; have := s16.out; have := s19.out; have := s20.out; have := s22.out; have := s25.out; have := s26.out; have := s28.out; have := s30.out; have := s31.out; omega)
  replace ow1 := ow1.touch ht (by have := s1.out; have := s2.out; have := s4.out; have := s5.out; have := s6.out; have := s7.out; have := s10.out; have := s11.out; have := s13.out; have := s14.out; have := s15.out; have := s16.out; have := s19.out; have := s20.out; have := s22.out; have := s25.out; have := s26.out; have := s28.out; have := s30.out; have := s31.out; omega)
  replace ot9 := ot9.touch ht (by have := s1.out; have := s2.out; have := s4.out; have := s5.out; have := s6.out; have := s7.out; have := s10.out; have := s11.out; have := s13.out; have := s14.out; have := s15.out; have := s16.out; have := s19.out; have := s20.out; have := s22.out; have := s25.out; have := s26.out; have := s28.out; have := s30.out; have := s31.out; omega)
  replace og1 := og1.touch ht (by have := s1.out; have := s2.out; have := s4.out; have := s5.out; have := s6.out; have := s7.out; have := s10.out; have := s11.out; have := s13.out; have := s14.out; have := s15.out; have := s16.out; have := s19.out; have := s20.out; have := s22.out; have := s25.out; have := s26.out; have := s28.out; have := s30.out; have := s31.out; omega)
  replace hbel := hbel.trans (ht.below (by have := s1.out; have := s2.out; have := s4.out; have := s5.out; have := s6.out; have := s7.out; have := s10.out; have := s11.out; have := s13.out; have := s14.out; have := s15.out; have := s16.out; have := s19.out; have := s20.out; have := s22.out; have := s25.out; have := s26.out; have := s28.out; have := s30.out; have := s31.out; omega) hbel.size)
  clear ht
  go_wp2_with fail
  refine (markBeadMoveS_any _ _ _ g1A g1C (1 + 2 * ((addAR xAU xAL xAW xAR xValue).2.2.2.1.length : Int)) (addAR xAU xAL xAW xAR xValue).2.2.2.2.1 v17 og1 (by have := ow0.len; have := ow1.len; have := ot9.len; have := og0.len; have := og1.len; have := hxA.len; omega) (by have := ow0.len; have := ow1.len; have := ot9.len; have := og0.len; have := og1.len; have := hxA.len; omega)).mono ?_
  rintro e v18 ⟨rfl, om, ht⟩
  have s32 : Hid (v17.heap.size ≤ v18.heap.size) := Lib.hid ht.size
  clear og1
  have og1 := om
  clear om
  replace cxA0 := keptT ht cxA0 (by have := s1.out; have := s2.out; have := s4.out; have := s5.out; have := s6.out; have := s7.out; have := s10.out; have := s11.out; have := s13.out; have := s14.out; have := s15.out; have := s16.out; have := s19.out; have := s20.out; have := s22.out; have := s25.out; have := s26.out; have := s28.out; have := s30.out; have := s31.out; have := s32.out; omega)
  replace cxA1 := keptT ht cxA1 (by have := s1.out; have := s2.out; have := s4.out; have := s5.out; have := s6.out; have := s7.out; have := s10.out; have := s11.out; have := s13.out; have := s14.out; have := s15.out; have := s16.out; have := s19.out; have := s20.out; have := s22.out; have := s25.out; have := s26.out; have := s28.out; have := s30.out; have := s31.out; have := s32.out; omega)
  replace cxA2 := keptT ht cxA2 (by have := s1.out; have := s2.out; have := s4.out; have := s5.out; have := s6.out; have := s7.out; have := s10.out; have := s11.out; have := s13.out; have := s14.out; have := s15.out; have := s16.out; have := s19.out; have := s20.out; have := s22.out; have := s25.out; have := s26.out; have := s28.out; have := s30.out; have := s31.out; have := s32.out; omega)
  replace cxA3 := keptT ht cxA3 (by have := s1.out; have := s2.out; have := s4.out; have := s5.out; have := s6.out; have := s7.out; have := s10.out; have := s11.out; have := s13.out; have := s14.out; have := s15.out; have := s16.out; have := s19.out; have := s20.out; have := s22.out; have := s25.out; have := s26.out; have := s28.out; have := s30.out; have := s31.out; have := s32.out; omega)
  replace cw00 := keptT ht cw00 (by have := s1.out; have := s2.out; have := s4.out; have := s5.out; have := s6.out; have := s7.out; have := s10.out; have := s11.out; have := s13.out; have := s14.out; have := s15.out; have := s16.out; have := s19.out; have := s20.out; have := s22.out; have := s25.out; have := s26.out; have := s28.out; have := s30.out; have := s31.out; have := s32.out; omega)
  replace cw01 := keptT ht cw01 (by have := s1.out; have := s2.out; have := s4.out; have := s5.out; have := s6.out; have := s7.out; have := s10.out; have := s11.out; have := s13.out; have := s14.out; have := s15.out; have := s16.out; have := s19.out; have := s20.out; have := s22.out; have := s25.out; have := s26.out; have := s28.out; have := s30.out; have := s31.out; have := s32.out; omega)
  replace cw02 := keptT ht cw02 (by have := s1.out; have := s2.out; have := s4.out; have := s5.out; have := s6.out; have := s7.out; have := s10.out; have := s11.out; have := s13.out; have := s14.out; have := s15.out; have := s16.out; have := s19.out; have := s20.out; have := s22.out; have := s25.out; have := s26.out; have := s28.out; have := s30.out; have := s31.out; have := s32.out; omega)
  replace cw03 := keptT ht cw03 (by have := s1.out; have := s2.out; have := s4.out; have := s5.out; have := s6.out; have := s7.out; have := s10.out; have := s11.out; have := s13.out; have := s14.out; have := s15.out; have := s16.out; have := s19.out; have := s20.out; have := s22.out; have := s25.out; have := s26.out; have := s28.out; have := s30.out; have := s31.out; have := s32.out; omega)
  replace cx00 := keptT ht cx00 (by have := s1.out; have := s2.out; have := s4.out; have := s5.out; have := s6.out; have := s7.out; have := s10.out; have := s11.out; have := s13.out; have := s14.out; have := s15.out; have := s16.out; have := s19.out; have := s20.out; have := s22.out; have := s25.out; have := s26.out; have := s28.out; have := s30.out; have := s31.out; have := s32.out; omega)
  replace cx01 := keptT ht cx01 (by have := s1.out; have := s2.out; have := s4.out; have := s5.out; have := s6.out; have := s7.out; have := s10.out; have := s11.out; have := s13.out; have := s14.out; have := s15.out; have := s16.out; have := s19.out; have := s20.out; have := s22.out; have := s25.out; have := s26.out; have := s28.out; have := s30.out; have := s31.out; have := s32.out; omega)
  replace cx02 := keptT ht cx02 (by have := s1.out; have := s2.out; have := s4.out; have := s5.out; have := s6.out; have := s7.out; have := s10.out; have := s11.out; have := s13.out; have := s14.out; have := s15.out; have := s16.out; have := s19.out; have := s20.out; have := s22.out; have := s25.out; have := s26.out; have := s28.out; have := s30.out; have := s31.out; have := s32.out; omega)
  replace cx03 := keptT ht cx03 (by have := s1.out; have := s2.out; have := s4.out; have := s5.out; have := s6.out; have := s7.out; have := s10.out; have := s11.out; have := s13.out; have := s14.out; have := s15.out; have := s16.out; have := s19.out; have := s20.out; have := s22.out; have := s25.out; have := s26.out; have := s28.out; have := s30.out; have := s31.out; have := s32.out; omega)
  replace cg00 := keptT ht cg00 (by have := s1.out; have := s2.out; have := s4.out; have := s5.out; have := s6.out; have := s7.out; have := s10.out; have := s11.out; have := s13.out; have := s14.out; have := s15.out; have := s16.out; have := s19.out; have := s20.out; have := s22.out; have := s25.out; have := s26.out; have := s28.out; have := s30.out; have := s31.out; have := s32.out; omega)
  replace cg01 := keptT ht cg01 (by have := s1.out; have := s2.out; have := s4.out; have := s5.out; have := s6.out; have := s7.out; have := s10.out; have := s11.out; have := s13.out; have := s14.out; have := s15.out; have := s16.out; have := s19.out; have := s20.out; have := s22.out; have := s25.out; have := s26.out; have := s28.out; have := s30.out; have := s31.out; have := s32.out; omega)
  replace cg02 := keptT ht cg02 (by have := s1.out; have := s2.out; have := s4.out; have := s5.out; have := s6.out; have := s7.out; have := s10.out; have := s11.out; have := s13.out; have := s14.out; have := s15.out; have := s16.out; have := s19.out; have := s20.out; have := s22.out; have := s25.out; have := s26.out; have := s28.out; have := s30.out; have := s31.out; have := s32.out; omega)
  replace cg03 := keptT ht cg03 (by have := s1.out; have := s2.out; have := s4.out; have := s5.out; have := s6.out; have := s7.out; have := s10.out; have := s11.out; have := s13.out; have := s14.out; have := s15.out; have := s16.out; have := s19.out; have := s20.out; have := s22.out; have := s25.out; have := s26.out; have := s28.out; have := s30.out; have := s31.out; have := s32.out; omega)
  replace ow0 := ow0.touch ht (by have := s1.out; have := s2.out; have := s4.out; have := s5.out; have := s6.out; have := s7.out; have := s10.out; have := s11.out; have := s13.out; have := s14.out; have := s15.out; have := s16.out; have := s19.out; have := s20.out; have := s22.out; have := s25.out; have := s26.out; have := s28.out; have := s30.out; have := s31.out; have := s32.out; omega)
  replace ow1 := ow1.touch ht (by have := s1.out; have := s2.out; have := s4.out; have := s5.out; have := s6.out; have := s7.out; have := s10.out; have := s11.out; have := s13.out; have := s14.out; have := s15.out; have := s16.out; have := s19.out; have := s20.out; have := s22.out; have := s25.out; have := s26.out; have := s28.out; have := s30.out; have := s31.out; have := s32.out; omega)
  replace ot9 := ot9.touch ht (by have := s1.out; have := s2.out; have := s4.out; have := s5.out; have := s6.out; have := s7.out; have := s10.out; have := s11.out; have := s13.out; have := s14.out; have := s15.out; have := s16.out; have := s19.out; have := s20.out; have := s22.out; have := s25.out; have := s26.out; have := s28.out; have := s30.out; have := s31.out; have := s32.out; omega)
  replace og0 := og0.touch ht (by have := s1.out; have := s2.out; have := s4.out; have := s5.out; have := s6.out; have := s7.out; have := s10.out; have := s11.out; have := s13.out; have := s14.out; have := s15.out; have := s16.out; have := s19.out; have := s20.out; have := s22.out; have := s25.out; have := s26.out; have := s28.out; have := s30.out; have := s31.out; have := s32.out; omega)
  replace hbel := hbel.trans (ht.below (by have := s1.out; have := s2.out; have := s4.out; have := s5.out; have := s6.out; have := s7.out; have := s10.out; have := s11.out; have := s13.out; have := s14.out; have := s15.out; have := s16.out; have := s19.out; have := s20.out; have := s22.out; have := s25.out; have := s26.out; have := s28.out; have := s30.out; have := s31.out; have := s32.out; omega) hbel.size)
  clear ht
  go_wp2_with fail
  refine (heldAbacus_any (addAR xAU xAL xAW xAR xValue).1 (addAR xAU xAL xAW xAR xValue).2.1 (addAR xAU xAL xAW xAR xValue).2.2.1 g0A g0C 1 (addAR xAU xAL xAW xAR xValue).2.2.2.1.length v18 og0.rd (by have := ow0.len; have := ow1.len; have := ot9.len; have := og0.len; have := og1.len; have := hxA.len; omega) (by have := ow0.len; have := ow1.len; have := ot9.len; have := og0.len; have := og1.len; have := hxA.len; omega)).mono ?_
  rintro e v19 ⟨rfl, hb⟩
  have s33 : Hid (v18.heap.size ≤ v19.heap.size) := Lib.hid hb.size
  replace cxA0 := kept hb cxA0
  replace cxA1 := kept hb cxA1
  replace cxA2 := kept hb cxA2
  replace cxA3 := kept hb cxA3
  replace cw00 := kept hb cw00
  replace cw01 := kept hb cw01
  replace cw02 := kept hb cw02
  replace cw03 := kept hb cw03
  replace cx00 := kept hb cx00
  replace cx01 := kept hb cx01
  replace cx02 := kept hb cx02
  replace cx03 := kept hb cx03
  replace cg00 := kept hb cg00
  replace cg01 := kept hb cg01
  replace cg02 := kept hb cg02
  replace cg03 := kept hb cg03
  replace ow0 := ow0.below hb
  replace ow1 := ow1.below hb
  replace ot9 := ot9.below hb
  replace og0 := og0.below hb
  replace og1 := og1.below hb
  replace hbel := hbel.trans (hb.mono hbel.size)
  clear hb
  go_wp2_with fail
  refine (heldBeadMoveS_any g1A g1C (1 + 2 * ((addAR xAU xAL xAW xAR xValue).2.2.2.1.length : Int)) (addAR xAU xAL xAW xAR xValue).2.2.2.2.1.length v19 og1.rd (by have := ow0.len; have := ow1.len; have := ot9.len; have := og0.len; have := og1.len; have := hxA.len; omega) (by have := ow0.len; have := ow1.len; have := ot9.len; have := og0.len; have := og1.len; have := hxA.len; omega)).mono ?_
  rintro e v20 ⟨rfl, hw⟩
  have hb : Below v19.heap.size v19 v20 := by rw [hw]; exact Below.refl _ _
  clear hw
  have s34 : Hid (v19.heap.size ≤ v20.heap.size) := Lib.hid hb.size
  replace cxA0 := kept hb cxA0
  replace cxA1 := kept hb cxA1
  replace cxA2 := kept hb cxA2
  replace cxA3 := kept hb cxA3
  replace cw00 := kept hb cw00
  replace cw01 := kept hb cw01
  replace cw02 := kept hb cw02
  replace cw03 := kept hb cw03
  replace cx00 := kept hb cx00
  replace cx01 := kept hb cx01
  replace cx02 := kept hb cx02
  replace cx03 := kept hb cx03
  replace cg00 := kept hb cg00
  replace cg01 := kept hb cg01
  replace cg02 := kept hb cg02
  replace cg03 := kept hb cg03
  replace ow0 := ow0.below hb
  replace ow1 := ow1.below hb
  replace ot9 := ot9.below hb
  replace og0 := og0.below hb
  replace og1 := og1.below hb
  replace hbel := hbel.trans (hb.mono hbel.size)
  clear hb
  go_wp2_with fail
  refine (toAbacus_any xAU xAL xAW xAA xAC xAR v20 (hxA.below hbel)).mono ?_
  rintro e v21 ⟨t35A, t35C, rfl, ot35, hb⟩
  have s36 : Hid (v20.heap.size ≤ v21.heap.size) := Lib.hid hb.size
  replace cxA0 := kept hb cxA0
  replace cxA1 := kept hb cxA1
  replace cxA2 := kept hb cxA2
  replace cxA3 := kept hb cxA3
  replace cw00 := kept hb cw00
  replace cw01 := kept hb cw01
  replace cw02 := kept hb cw02
  replace cw03 := kept hb cw03
  replace cx00 := kept hb cx00
  replace cx01 := kept hb cx01
  replace cx02 := kept hb cx02
  replace cx03 := kept hb cx03
  replace cg00 := kept hb cg00
  replace cg01 := kept hb cg01
  replace cg02 := kept hb cg02
  replace cg03 := kept hb cg03
  replace ow0 := ow0.below hb
  replace ow1 := ow1.below hb
  replace ot9 := ot9.below hb
  replace og0 := og0.below hb
  replace og1 := og1.below hb
  replace hbel := hbel.trans (hb.mono hbel.size)
  clear hb
  go_wp2_with fail
  refine (implAddOnAbacus xAU xAL xAW t35A t35C xAR xValue v21 ot35.rd bxAU bxAL bxAW zxA bxValue).mono ?_
  rintro e v22 ⟨h0A, h0C, h1A, h1C, h0m, rfl, oh0, oh1, h0m1, h0m2, hb⟩
  have s37 := Lib.hid h0m1
  have s38 := Lib.hid h0m2
  clear h0m1 h0m2
  have s39 : Hid (v21.heap.size ≤ v22.heap.size) := Lib.hid hb.size
  replace cxA0 := kept hb cxA0
  replace cxA1 := kept hb cxA1
  replace cxA2 := kept hb cxA2
  replace cxA3 := kept hb cxA3
  replace cw00 := kept hb cw00
  replace cw01 := kept hb cw01
  replace cw02 := kept hb cw02
  replace cw03 := kept hb cw03
  replace cx00 := kept hb cx00
  replace cx01 := kept hb cx01
  replace cx02 := kept hb cx02
  replace cx03 := kept hb cx03
  replace cg00 := kept hb cg00
  replace cg01 := kept hb cg01
  replace cg02 := kept hb cg02
  replace cg03 := kept hb cg03
  replace ow0 := ow0.below hb
  replace ow1 := ow1.below hb
  replace ot9 := ot9.below hb
  replace og0 := og0.below hb
  replace og1 := og1.below hb
  replace ot35 := ot35.below hb
  replace hbel := hbel.trans (hb.mono hbel.size)
  clear hb
  clear ot35
  have ha40 : Below v22.heap.size v22 (v22.alloc (.cells #[.int .i64 (addAR xAU xAL xAW xAR xValue).1, .int .i64 (addAR xAU xAL xAW xAR xValue).2.1, .int .i64 (addAR xAU xAL xAW xAR xValue).2.2.1, .slice h0A (addAR xAU xAL xAW xAR xValue).2.2.2.1.length h0C] 26)) := (Below.refl _ _).alloc (by simp) _
  replace cxA0 := kept ha40 cxA0
  replace cxA1 := kept ha40 cxA1
  replace cxA2 := kept ha40 cxA2
  replace cxA3 := kept ha40 cxA3
  replace cw00 := kept ha40 cw00
  replace cw01 := kept ha40 cw01
  replace cw02 := kept ha40 cw02
  replace cw03 := kept ha40 cw03
  replace cx00 := kept ha40 cx00
  replace cx01 := kept ha40 cx01
  replace cx02 := kept ha40 cx02
  replace cx03 := kept ha40 cx03
  replace cg00 := kept ha40 cg00
  replace cg01 := kept ha40 cg01
  replace cg02 := kept ha40 cg02
  replace cg03 := kept ha40 cg03
  replace ow0 := ow0.below ha40
  replace ow1 := ow1.below ha40
  replace ot9 := ot9.below ha40
  replace og0 := og0.below ha40
  replace og1 := og1.below ha40
  replace oh0 := oh0.below ha40
  replace oh1 := oh1.below ha40
  replace hbel := hbel.trans (ha40.mono hbel.size)
  clear ha40
  have ch00 : (v22.alloc (.cells #[.int .i64 (addAR xAU xAL xAW xAR xValue).1, .int .i64 (addAR xAU xAL xAW xAR xValue).2.1, .int .i64 (addAR xAU xAL xAW xAR xValue).2.2.1, .slice h0A (addAR xAU xAL xAW xAR xValue).2.2.2.1.length h0C] 26)).cell? ⟨v22.heap.size, 0, none⟩ = some (.int .i64 (addAR xAU xAL xAW xAR xValue).1) := by go_simp
  have ch01 : (v22.alloc (.cells #[.int .i64 (addAR xAU xAL xAW xAR xValue).1, .int .i64 (addAR xAU xAL xAW xAR xValue).2.1, .int .i64 (addAR xAU xAL xAW xAR xValue).2.2.1, .slice h0A (addAR xAU xAL xAW xAR xValue).2.2.2.1.length h0C] 26)).cell? ⟨v22.heap.size, 1, none⟩ = some (.int .i64 (addAR xAU xAL xAW xAR xValue).2.1) := by go_simp
  have ch02 : (v22.alloc (.cells #[.int .i64 (addAR xAU xAL xAW xAR xValue).1, .int .i64 (addAR xAU xAL xAW xAR xValue).2.1, .int .i64 (addAR xAU xAL xAW xAR xValue).2.2.1, .slice h0A (addAR xAU xAL xAW xAR xValue).2.2.2.1.length h0C] 26)).cell? ⟨v22.heap.size, 2, none⟩ = some (.int .i64 (addAR xAU xAL xAW xAR xValue).2.2.1) := by go_simp
  have ch03 : (v22.alloc (.cells #[.int .i64 (addAR xAU xAL xAW xAR xValue).1, .int .i64 (addAR xAU xAL xAW xAR xValue).2.1, .int .i64 (addAR xAU xAL xAW xAR xValue).2.2.1, .slice h0A (addAR xAU xAL xAW xAR xValue).2.2.2.1.length h0C] 26)).cell? ⟨v22.heap.size, 3, none⟩ = some (.slice h0A (addAR xAU xAL xAW xAR xValue).2.2.2.1.length h0C) := by go_simp
  have q41 : abaEqB (addAR xAU xAL xAW xAR xValue).1 (addAR xAU xAL xAW xAR xValue).2.1 (addAR xAU xAL xAW xAR xValue).2.2.1 (addAR xAU xAL xAW xAR xValue).1 (addAR xAU xAL xAW xAR xValue).2.1 (addAR xAU xAL xAW xAR xValue).2.2.1 (addAR xAU xAL xAW xAR xValue).2.2.2.1 (addAR xAU xAL xAW xAR xValue).2.2.2.1 = true := abaEqB_self _ _ _ _
  go_wp2_with fail
  obtain ⟨v23, hu⟩ : ∃ u, u = (v22.alloc (.cells #[.int .i64 (addAR xAU xAL xAW xAR xValue).1, .int .i64 (addAR xAU xAL xAW xAR xValue).2.1, .int .i64 (addAR xAU xAL xAW xAR xValue).2.2.1, .slice h0A (addAR xAU xAL xAW xAR xValue).2.2.2.1.length h0C] 26)) := ⟨_, rfl⟩
  have s42 : Hid (v22.heap.size + 1 ≤ v23.heap.size) := Lib.hid (by rw [hu]; simp)
  rw [← hu] at cxA0 cxA1 cxA2 cxA3 cw00 cw01 cw02 cw03 cx00 cx01 cx02 cx03 cg00 cg01 cg02 cg03 ch00 ch01 ch02 ch03 ow0 ow1 ot9 og0 og1 oh0 oh1 hbel ⊢
  clear hu
  refine (eqAbacus_any (addAR xAU xAL xAW xAR xValue).1 (addAR xAU xAL xAW xAR xValue).2.1 (addAR xAU xAL xAW xAR xValue).2.2.1 (addAR xAU xAL xAW xAR xValue).1 (addAR xAU xAL xAW xAR xValue).2.1 (addAR xAU xAL xAW xAR xValue).2.2.1 h0A w0A h0C w0C (addAR xAU xAL xAW xAR xValue).2.2.2.1 (addAR xAU xAL xAW xAR xValue).2.2.2.1 v23 oh0.rd ow0.rd).mono ?_
  rintro e v24 ⟨rfl, hb⟩
  have s43 : Hid (v23.heap.size ≤ v24.heap.size) := Lib.hid hb.size
  replace cxA0 := kept hb cxA0
  replace cxA1 := kept hb cxA1
  replace cxA2 := kept hb cxA2
  replace cxA3 := kept hb cxA3
  replace cw00 := kept hb cw00
  replace cw01 := kept hb cw01
  replace cw02 := kept hb cw02
  replace cw03 := kept hb cw03
  replace cx00 := kept hb cx00
  replace cx01 := kept hb cx01
  replace cx02 := kept hb cx02
  replace cx03 := kept hb cx03
  replace cg00 := kept hb cg00
  replace cg01 := kept hb cg01
  replace cg02 := kept hb cg02
  replace cg03 := kept hb cg03
  replace ch00 := kept hb ch00
  replace ch01 := kept hb ch01
  replace ch02 := kept hb ch02
  replace ch03 := kept hb ch03
  replace ow0 := ow0.below hb
  replace ow1 := ow1.below hb
  replace ot9 := ot9.below hb
  replace og0 := og0.below hb
  replace og1 := og1.below hb
  replace oh0 := oh0.below hb
  replace oh1 := oh1.below hb
  replace hbel := hbel.trans (hb.mono hbel.size)
  clear hb
  have q44 : decide ((addAR xAU xAL xAW xAR xValue).2.2.2.2.1 = (addAR xAU xAL xAW xAR xValue).2.2.2.2.1) = true := decide_eq_true rfl
  go_wp2_with fail
  refine (eqBeadMoveS_any h1A w1A h1C w1C (addAR xAU xAL xAW xAR xValue).2.2.2.2.1 (addAR xAU xAL xAW xAR xValue).2.2.2.2.1 v24 oh1.rd ow1.rd).mono ?_
  rintro e v25 ⟨rfl, hb⟩
  have s45 : Hid (v24.heap.size ≤ v25.heap.size) := Lib.hid hb.size
  replace cxA0 := kept hb cxA0
  replace cxA1 := kept hb cxA1
  replace cxA2 := kept hb cxA2
  replace cxA3 := kept hb cxA3
  replace cw00 := kept hb cw00
  replace cw01 := kept hb cw01
  replace cw02 := kept hb cw02
  replace cw03 := kept hb cw03
  replace cx00 := kept hb cx00
  replace cx01 := kept hb cx01
  replace cx02 := kept hb cx02
  replace cx03 := kept hb cx03
  replace cg00 := kept hb cg00
  replace cg01 := kept hb cg01
  replace cg02 := kept hb cg02
  replace cg03 := kept hb cg03
  replace ch00 := kept hb ch00
  replace ch01 := kept hb ch01
  replace ch02 := kept hb ch02
  replace ch03 := kept hb ch03
  replace ow0 := ow0.below hb
  replace ow1 := ow1.below hb
  replace ot9 := ot9.below hb
  replace og0 := og0.below hb
  replace og1 := og1.below hb
  replace oh0 := oh0.below hb
  replace oh1 := oh1.below hb
  replace hbel := hbel.trans (hb.mono hbel.size)
  clear hb
  go_wp2_with fail
  refine (heldAbacus_any (addAR xAU xAL xAW xAR xValue).1 (addAR xAU xAL xAW xAR xValue).2.1 (addAR xAU xAL xAW xAR xValue).2.2.1 g0A g0C 1 (addAR xAU xAL xAW xAR xValue).2.2.2.1.length v25 og0.rd (by have := ow0.len; have := ow1.len; have := ot9.len; have := og0.len; have := og1.len; have := oh0.len; have := oh1.len; have := hxA.len; omega) (by have := ow0.len; have := ow1.len; have := ot9.len; have := og0.len; have := og1.len; have := oh0.len; have := oh1.len; have := hxA.len; omega)).mono ?_
  rintro e v26 ⟨rfl, hb⟩
  have s46 : Hid (v25.heap.size ≤ v26.heap.size) := Lib.hid hb.size
  replace cxA0 := kept hb cxA0
  replace cxA1 := kept hb cxA1
  replace cxA2 := kept hb cxA2
  replace cxA3 := kept hb cxA3
  replace cw00 := kept hb cw00
  replace cw01 := kept hb cw01
  replace cw02 := kept hb cw02
  replace cw03 := kept hb cw03
  replace cx00 := kept hb cx00
  replace cx01 := kept hb cx01
  replace cx02 := kept hb cx02
  replace cx03 := kept hb cx03
  replace cg00 := kept hb cg00
  replace cg01 := kept hb cg01
  replace cg02 := kept hb cg02
  replace cg03 := kept hb cg03
  replace ch00 := kept hb ch00
  replace ch01 := kept hb ch01
  replace ch02 := kept hb ch02
  replace ch03 := kept hb ch03
  replace ow0 := ow0.below hb
  replace ow1 := ow1.below hb
  replace ot9 := ot9.below hb
  replace og0 := og0.below hb
  replace og1 := og1.below hb
  replace oh0 := oh0.below hb
  replace oh1 := oh1.below hb
  replace hbel := hbel.trans (hb.mono hbel.size)
  clear hb
  go_wp2_with fail
  refine (heldBeadMoveS_any g1A g1C (1 + 2 * ((addAR xAU xAL xAW xAR xValue).2.2.2.1.length : Int)) (addAR xAU xAL xAW xAR xValue).2.2.2.2.1.length v26 og1.rd (by have := ow0.len; have := ow1.len; have := ot9.len; have := og0.len; have := og1.len; have := oh0.len; have := oh1.len; have := hxA.len; omega) (by have := ow0.len; have := ow1.len; have := ot9.len; have := og0.len; have := og1.len; have := oh0.len; have := oh1.len; have := hxA.len; omega)).mono ?_
  rintro e v27 ⟨rfl, hw⟩
  have hb : Below v26.heap.size v26 v27 := by rw [hw]; exact Below.refl _ _
  clear hw
  have s47 : Hid (v26.heap.size ≤ v27.heap.size) := Lib.hid hb.size
  replace cxA0 := kept hb cxA0
  replace cxA1 := kept hb cxA1
  replace cxA2 := kept hb cxA2
  replace cxA3 := kept hb cxA3
  replace cw00 := kept hb cw00
  replace cw01 := kept hb cw01
  replace cw02 := kept hb cw02
  replace cw03 := kept hb cw03
  replace cx00 := kept hb cx00
  replace cx01 := kept hb cx01
  replace cx02 := kept hb cx02
  replace cx03 := kept hb cx03
  replace cg00 := kept hb cg00
  replace cg01 := kept hb cg01
  replace cg02 := kept hb cg02
  replace cg03 := kept hb cg03
  replace ch00 := kept hb ch00
  replace ch01 := kept hb ch01
  replace ch02 := kept hb ch02
  replace ch03 := kept hb ch03
  replace ow0 := ow0.below hb
  replace ow1 := ow1.below hb
  replace ot9 := ot9.below hb
  replace og0 := og0.below hb
  replace og1 := og1.below hb
  replace oh0 := oh0.below hb
  replace oh1 := oh1.below hb
  replace hbel := hbel.trans (hb.mono hbel.size)
  clear hb
  go_wp2
  go_ret
  exact ⟨rfl, hbel⟩

set_option maxRecDepth 100000 in
theorem lifted (os : Os) (started : os.Started) (H : Type) (enc : TypeId × Value → H) :
    ReturnsInHanded {} Try.checked os 6 .any (Rows.fnExactAddOnAbacusSpec.pre6 enc Try.prog Try.f6 Rows.fnExactAddOnAbacusRow.domain false) (Rows.fnExactAddOnAbacusSpec.post enc Try.prog Try.f6 false true false false) := by
  refine returnsInHanded_of_change (C := Try.checked) own_knob started (by kernel_rfl) Try.func6
    (ChangeSpec.witness6 (enc := enc) (C := Try.checked) false ⟨#[], #[.agg #[.int .i64 0, .int .i64 0, .int .i64 0, .slice none 0 0], .int .i64 0], []⟩ 8 (by kernel_rfl) (by kernel_rfl) (by kernel_rfl) (by kernel_rfl)) ?_
  intro W base args ds gs before hval0 hW hcnd _
  have hval : ∀ (j : Nat) t v, Try.f6.params[j]? = some t → args[j]? = some v → Value.okWide Try.prog W .any base t v := hval0
  have hW' := hW
  obtain ⟨p, q, hA0, hV, rfl, hfz, hnd⟩ := hW
  have hA : DataW.TrodAll enc Try.prog W 0 (fun _ => true) true Try.f6.params.toList args.toList ds p := hA0
  rw [Try.params6] at hA hval
  obtain ⟨v0, vs0, d0, ds0, p0, q0, hargs, rfl, rfl, h0, r0⟩ := trodAll_cons hA
  obtain ⟨v1, vs1, d1, ds1, p1, q1, rfl, rfl, rfl, h1, r1⟩ := trodAll_cons r0
  obtain ⟨rfl, rfl, rfl⟩ := trodAll_nil r1
  obtain rfl : args = #[v0, v1] := by cases args; simp_all
  obtain ⟨rfl, rfl⟩ := trodVars_none hV
  have k0 := h0
  have lt0 : ∀ x ∈ p0, x.block < W.heap.size := by obtain ⟨m, hm⟩ := k0; exact DataW.trod_lt m _ _ _ hm
  obtain ⟨xAU, xAL, xAW, xAA, xAC, xAR, rfl, hxA, bxAU, bxAL, bxAW⟩ := open_Abacus (hval 0 61 v0 rfl rfl) h0
  obtain ⟨xValue, rfl, rfl, rfl, bxValue⟩ := open_int Try.underlying2 (hval 1 2 v1 rfl rfl) h1
  clear hA0 hval0
  refine (law_walk xAU xAL xAW xAA xAC xAR xValue W hxA bxAU bxAL bxAW bxValue).mono fun e W' ⟨he, bel⟩ => ?_
  subst he
  exact ⟨_, rfl, _, _, _, [], _, [], hW', trodAll_mk1 (shut_bool Try.underlying4 _), (trodAll_cons_mk (Below.trod laid_out (by kernel_rfl) (of_decide_eq_true (by kernel_rfl)) k0 bel lt0) (trodAll_cons_mk (shut_int Try.underlying2 bxValue) trodAll_mk0)), rfl, bel.frame _, fun h => by cases h⟩

set_option maxHeartbeats 20000000 in
theorem closed : joinedFacts Try.prog 6 Try.f6 Rows.fnExactAddOnAbacusSpec Rows.fnExactAddOnAbacusRow = true := by
  simp only [joinedFacts, Bool.and_eq_true]
  refine ⟨⟨⟨⟨⟨⟨⟨⟨⟨⟨⟨⟨⟨⟨⟨⟨⟨⟨⟨⟨⟨⟨⟨⟨⟨⟨⟨⟨⟨⟨⟨?_, laid_out⟩, fact_maps⟩, ?_⟩, ?_⟩, ?_⟩, fact_stops⟩, ?_⟩, fact_knobs⟩, ?_⟩, ?_⟩, ?_⟩, ?_⟩, ?_⟩, ?_⟩, ?_⟩, ?_⟩, ?_⟩, ?_⟩, ?_⟩, ?_⟩, ?_⟩, fact_plain⟩, ?_⟩, fact_heard⟩, fact_enter⟩, fact_lift⟩, ?_⟩, ?_⟩, ?_⟩, ?_⟩, ?_⟩
  all_goals (as_aux_lemma => kernel_rfl)

theorem over : Rows.fnExactAddOnAbacusRow.holds Try.pinned (OpenSpec.ofChange Rows.fnExactAddOnAbacusSpec) :=
  OpenClaim.holds_of_wide 6 Try.f6 rfl rfl rfl rfl rfl rfl rfl ⟨rfl, rfl, rfl, rfl, rfl⟩ rfl rfl rfl rfl rfl (by as_aux_lemma => kernel_rfl) Try.func6 closed
    (of_decide_eq_true (by as_aux_lemma => kernel_rfl)) (by unfold Func.isWrapper; rw [if_neg (by decide +kernel)]; exact ⟨rfl, rfl⟩)
    (fun os started H enc _ => lifted os started H enc)

/-- The statement. -/
theorem proved : Rows.FnExactAddOnAbacusSaid := over
end Go.Proofs.Ytmnnciiiifjjcaa.lawAddOnAbacus
