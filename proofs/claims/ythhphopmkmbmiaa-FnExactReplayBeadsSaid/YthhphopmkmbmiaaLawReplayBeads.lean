/-
  laws.FnExactReplayBeads returns true at every input (no condition), and leaves its arguments as they were.
-/
import Derived.Test.YthhphopmkmbmiaaAbaL
import Derived.Test.YthhphopmkmbmiaaBoxAba
import Derived.Test.YthhphopmkmbmiaaFrameA
import Derived.Test.YthhphopmkmbmiaaBeadMoveS
import Derived.Test.YthhphopmkmbmiaaAbaR
import Derived.Test.YthhphopmkmbmiaaAbaJ
import Derived.Deep.RegionHeld3
import Derived.Test.YthhphopmkmbmiaaFacts
import Derived.Test.YthhphopmkmbmiaaRows
namespace Go.Proofs.Ythhphopmkmbmiaa.lawReplayBeads
open Go.ChangeShapes Go.WideShapes Go.ChangeAt Go.WideElems Go.RowKit Go.Joins
open Go.ChangeMaps (open_string shut_string)

set_option maxRecDepth 100000 in
set_option maxHeartbeats 20000000 in
theorem law_walk (xAU : Int) (xAL : Int) (xAW : Int) (xAA : Option Addr) (xAC : Nat) (xAR : List (Int × Int)) (xListA : Option Addr) (xListC : Nat) (xListZ : List (Int × Int × Int)) (w : World) (hxA : RawF pairF (fun x => I64 x.1 ∧ I64 x.2) w xAA xAR) (bxAU : I64 xAU) (bxAL : I64 xAL) (bxAW : I64 xAW) (hxList : RawF tripF (fun x => I64 x.1 ∧ I64 x.2.1 ∧ I64 x.2.2) w xListA xListZ) :
    Calls Try.prog 16 #[.agg #[.int .i64 xAU, .int .i64 xAL, .int .i64 xAW, .slice xAA xAR.length xAC], .slice xListA xListZ.length xListC] w fun e w' => e = .returned (.bool true) ∧ Below w.heap.size w w' := by
  have hbel : Below w.heap.size w (w.alloc (.cells #[.int .i64 xAU, .int .i64 xAL, .int .i64 xAW, .slice xAA xAR.length xAC] 73)) := (Below.refl _ _).alloc (by simp) _
  have cxA0 : (w.alloc (.cells #[.int .i64 xAU, .int .i64 xAL, .int .i64 xAW, .slice xAA xAR.length xAC] 73)).cell? ⟨w.heap.size, 0, none⟩ = some (.int .i64 xAU) := by go_simp
  have cxA1 : (w.alloc (.cells #[.int .i64 xAU, .int .i64 xAL, .int .i64 xAW, .slice xAA xAR.length xAC] 73)).cell? ⟨w.heap.size, 1, none⟩ = some (.int .i64 xAL) := by go_simp
  have cxA2 : (w.alloc (.cells #[.int .i64 xAU, .int .i64 xAL, .int .i64 xAW, .slice xAA xAR.length xAC] 73)).cell? ⟨w.heap.size, 2, none⟩ = some (.int .i64 xAW) := by go_simp
  have cxA3 : (w.alloc (.cells #[.int .i64 xAU, .int .i64 xAL, .int .i64 xAW, .slice xAA xAR.length xAC] 73)).cell? ⟨w.heap.size, 3, none⟩ = some (.slice xAA xAR.length xAC) := by go_simp
  go_enter Try.func16, Try.ntmps16
  go_wp2_with fail
  obtain ⟨v1, hu⟩ : ∃ u, u = (w.alloc (.cells #[.int .i64 xAU, .int .i64 xAL, .int .i64 xAW, .slice xAA xAR.length xAC] 73)) := ⟨_, rfl⟩
  have s1 : Hid (w.heap.size + 1 ≤ v1.heap.size) := Lib.hid (by rw [hu]; simp)
  rw [← hu] at cxA0 cxA1 cxA2 cxA3 hbel ⊢
  clear hu
  rcases Int.lt_or_le (leftOf xAR.length 1048576) 0 with k1 | k1
  · refine (szAbacus_any xAU xAL xAW xAA xAR.length xAC 1048576 v1 hxA.len (by omega) (by omega)).mono ?_
    rintro e v2 ⟨rfl, hb⟩
    go_wp2
    go_ret
    exact ⟨rfl, hbel.trans (hb.mono hbel.size)⟩
  have m1 := leftOf_le xAR.length 1048576 (by omega)
  refine (szAbacus_any xAU xAL xAW xAA xAR.length xAC 1048576 v1 hxA.len (by omega) (by omega)).mono ?_
  rintro e v2 ⟨rfl, hb⟩
  have s2 : Hid (v1.heap.size ≤ v2.heap.size) := Lib.hid hb.size
  replace cxA0 := kept hb cxA0
  replace cxA1 := kept hb cxA1
  replace cxA2 := kept hb cxA2
  replace cxA3 := kept hb cxA3
  replace hbel := hbel.trans (hb.mono hbel.size)
  clear hb
  have zxA : All2 xAR := hxA.wf
  replace hxA := hxA.rd (by have := leftOf_len k1; omega)
  go_wp2_with fail
  rcases Int.lt_or_le (leftOf xListZ.length (leftOf xAR.length 1048576)) 0 with k2 | k2
  · refine (szBeadMoveS_any xListA xListZ.length xListC (leftOf xAR.length 1048576) v2 hxList.len (by omega) (by omega)).mono ?_
    rintro e v3 ⟨rfl, hb⟩
    subst hb
    go_wp2
    go_ret
    exact ⟨rfl, hbel⟩
  have m2 := leftOf_le xListZ.length (leftOf xAR.length 1048576) (by omega)
  refine (szBeadMoveS_any xListA xListZ.length xListC (leftOf xAR.length 1048576) v2 hxList.len (by omega) (by omega)).mono ?_
  rintro e v3 ⟨rfl, hb⟩
  replace hb : Below v2.heap.size v2 v3 := by rw [← hb]; exact Below.refl _ _
  have s3 : Hid (v2.heap.size ≤ v3.heap.size) := Lib.hid hb.size
  replace cxA0 := kept hb cxA0
  replace cxA1 := kept hb cxA1
  replace cxA2 := kept hb cxA2
  replace cxA3 := kept hb cxA3
  replace hbel := hbel.trans (hb.mono hbel.size)
  clear hb
  have zxList : All3 xListZ := hxList.wf
  replace hxList := hxList.rd (by have := leftOf_len k2; omega)
  go_wp2_with fail
  refine (toAbacus_any xAU xAL xAW xAA xAC xAR v3 (hxA.below hbel)).mono ?_
  rintro e v4 ⟨t4A, t4C, rfl, ot4, hb⟩
  have s5 : Hid (v3.heap.size ≤ v4.heap.size) := Lib.hid hb.size
  replace cxA0 := kept hb cxA0
  replace cxA1 := kept hb cxA1
  replace cxA2 := kept hb cxA2
  replace cxA3 := kept hb cxA3
  replace hbel := hbel.trans (hb.mono hbel.size)
  clear hb
  go_wp2_with fail
  refine (toBeadMoveS_any xListA xListC xListZ v4 (hxList.below hbel)).mono ?_
  rintro e v5 ⟨t6A, t6C, rfl, ot6, hb⟩
  have s7 : Hid (v4.heap.size ≤ v5.heap.size) := Lib.hid hb.size
  replace cxA0 := kept hb cxA0
  replace cxA1 := kept hb cxA1
  replace cxA2 := kept hb cxA2
  replace cxA3 := kept hb cxA3
  replace ot4 := ot4.below hb
  replace hbel := hbel.trans (hb.mono hbel.size)
  clear hb
  go_wp2_with fail
  refine (specReplayBeads xAU xAL xAW t4A t4C xAR t6A t6C xListZ v5 ot4.rd bxAU bxAL bxAW zxA ot6.rd zxList).mono ?_
  rintro e v6 ⟨w0A, w0C, rfl, ow0, hb⟩
  have s8 : Hid (v5.heap.size ≤ v6.heap.size) := Lib.hid hb.size
  replace cxA0 := kept hb cxA0
  replace cxA1 := kept hb cxA1
  replace cxA2 := kept hb cxA2
  replace cxA3 := kept hb cxA3
  replace ot4 := ot4.below hb
  replace ot6 := ot6.below hb
  replace hbel := hbel.trans (hb.mono hbel.size)
  clear hb
  clear ot4
  clear ot6
  have ha9 : Below v6.heap.size v6 (v6.alloc (.cells #[.int .i64 (rplR xAU xAL xAW xAR xListZ).1, .int .i64 (rplR xAU xAL xAW xAR xListZ).2.1, .int .i64 (rplR xAU xAL xAW xAR xListZ).2.2.1, .slice w0A (rplR xAU xAL xAW xAR xListZ).2.2.2.1.length w0C] 38)) := (Below.refl _ _).alloc (by simp) _
  replace cxA0 := kept ha9 cxA0
  replace cxA1 := kept ha9 cxA1
  replace cxA2 := kept ha9 cxA2
  replace cxA3 := kept ha9 cxA3
  replace ow0 := ow0.below ha9
  replace hbel := hbel.trans (ha9.mono hbel.size)
  clear ha9
  have cw00 : (v6.alloc (.cells #[.int .i64 (rplR xAU xAL xAW xAR xListZ).1, .int .i64 (rplR xAU xAL xAW xAR xListZ).2.1, .int .i64 (rplR xAU xAL xAW xAR xListZ).2.2.1, .slice w0A (rplR xAU xAL xAW xAR xListZ).2.2.2.1.length w0C] 38)).cell? ⟨v6.heap.size, 0, none⟩ = some (.int .i64 (rplR xAU xAL xAW xAR xListZ).1) := by go_simp
  have cw01 : (v6.alloc (.cells #[.int .i64 (rplR xAU xAL xAW xAR xListZ).1, .int .i64 (rplR xAU xAL xAW xAR xListZ).2.1, .int .i64 (rplR xAU xAL xAW xAR xListZ).2.2.1, .slice w0A (rplR xAU xAL xAW xAR xListZ).2.2.2.1.length w0C] 38)).cell? ⟨v6.heap.size, 1, none⟩ = some (.int .i64 (rplR xAU xAL xAW xAR xListZ).2.1) := by go_simp
  have cw02 : (v6.alloc (.cells #[.int .i64 (rplR xAU xAL xAW xAR xListZ).1, .int .i64 (rplR xAU xAL xAW xAR xListZ).2.1, .int .i64 (rplR xAU xAL xAW xAR xListZ).2.2.1, .slice w0A (rplR xAU xAL xAW xAR xListZ).2.2.2.1.length w0C] 38)).cell? ⟨v6.heap.size, 2, none⟩ = some (.int .i64 (rplR xAU xAL xAW xAR xListZ).2.2.1) := by go_simp
  have cw03 : (v6.alloc (.cells #[.int .i64 (rplR xAU xAL xAW xAR xListZ).1, .int .i64 (rplR xAU xAL xAW xAR xListZ).2.1, .int .i64 (rplR xAU xAL xAW xAR xListZ).2.2.1, .slice w0A (rplR xAU xAL xAW xAR xListZ).2.2.2.1.length w0C] 38)).cell? ⟨v6.heap.size, 3, none⟩ = some (.slice w0A (rplR xAU xAL xAW xAR xListZ).2.2.2.1.length w0C) := by go_simp
  go_wp2_with fail
  obtain ⟨v7, hu⟩ : ∃ u, u = (v6.alloc (.cells #[.int .i64 (rplR xAU xAL xAW xAR xListZ).1, .int .i64 (rplR xAU xAL xAW xAR xListZ).2.1, .int .i64 (rplR xAU xAL xAW xAR xListZ).2.2.1, .slice w0A (rplR xAU xAL xAW xAR xListZ).2.2.2.1.length w0C] 38)) := ⟨_, rfl⟩
  have s11 : Hid (v6.heap.size + 1 ≤ v7.heap.size) := Lib.hid (by rw [hu]; simp)
  rw [← hu] at cxA0 cxA1 cxA2 cxA3 cw00 cw01 cw02 cw03 ow0 hbel ⊢
  clear hu
  refine (toAbacus_any xAU xAL xAW xAA xAC xAR v7 (hxA.below hbel)).mono ?_
  rintro e v8 ⟨t10A, t10C, rfl, ot10, hb⟩
  have s12 : Hid (v7.heap.size ≤ v8.heap.size) := Lib.hid hb.size
  replace cxA0 := kept hb cxA0
  replace cxA1 := kept hb cxA1
  replace cxA2 := kept hb cxA2
  replace cxA3 := kept hb cxA3
  replace cw00 := kept hb cw00
  replace cw01 := kept hb cw01
  replace cw02 := kept hb cw02
  replace cw03 := kept hb cw03
  replace ow0 := ow0.below hb
  replace hbel := hbel.trans (hb.mono hbel.size)
  clear hb
  have ha13 : Below v8.heap.size v8 (v8.alloc (.cells #[.int .i64 xAU, .int .i64 xAL, .int .i64 xAW, .slice t10A xAR.length t10C] 38)) := (Below.refl _ _).alloc (by simp) _
  replace cxA0 := kept ha13 cxA0
  replace cxA1 := kept ha13 cxA1
  replace cxA2 := kept ha13 cxA2
  replace cxA3 := kept ha13 cxA3
  replace cw00 := kept ha13 cw00
  replace cw01 := kept ha13 cw01
  replace cw02 := kept ha13 cw02
  replace cw03 := kept ha13 cw03
  replace ow0 := ow0.below ha13
  replace ot10 := ot10.below ha13
  replace hbel := hbel.trans (ha13.mono hbel.size)
  clear ha13
  have cx00 : (v8.alloc (.cells #[.int .i64 xAU, .int .i64 xAL, .int .i64 xAW, .slice t10A xAR.length t10C] 38)).cell? ⟨v8.heap.size, 0, none⟩ = some (.int .i64 xAU) := by go_simp
  have cx01 : (v8.alloc (.cells #[.int .i64 xAU, .int .i64 xAL, .int .i64 xAW, .slice t10A xAR.length t10C] 38)).cell? ⟨v8.heap.size, 1, none⟩ = some (.int .i64 xAL) := by go_simp
  have cx02 : (v8.alloc (.cells #[.int .i64 xAU, .int .i64 xAL, .int .i64 xAW, .slice t10A xAR.length t10C] 38)).cell? ⟨v8.heap.size, 2, none⟩ = some (.int .i64 xAW) := by go_simp
  have cx03 : (v8.alloc (.cells #[.int .i64 xAU, .int .i64 xAL, .int .i64 xAW, .slice t10A xAR.length t10C] 38)).cell? ⟨v8.heap.size, 3, none⟩ = some (.slice t10A xAR.length t10C) := by go_simp
  go_wp2_with fail
  obtain ⟨v9, hu⟩ : ∃ u, u = (v8.alloc (.cells #[.int .i64 xAU, .int .i64 xAL, .int .i64 xAW, .slice t10A xAR.length t10C] 38)) := ⟨_, rfl⟩
  have s15 : Hid (v8.heap.size + 1 ≤ v9.heap.size) := Lib.hid (by rw [hu]; simp)
  rw [← hu] at cxA0 cxA1 cxA2 cxA3 cw00 cw01 cw02 cw03 cx00 cx01 cx02 cx03 ow0 ot10 hbel ⊢
  clear hu
  refine (toBeadMoveS_any xListA xListC xListZ v9 (hxList.below hbel)).mono ?_
  rintro e v10 ⟨t14A, t14C, rfl, ot14, hb⟩
  have s16 : Hid (v9.heap.size ≤ v10.heap.size) := Lib.hid hb.size
  replace cxA0 := kept hb cxA0
  replace cxA1 := kept hb cxA1
  replace cxA2 := kept hb cxA2
  replace cxA3 := kept hb cxA3
  replace cw00 := kept hb cw00
  replace cw01 := kept hb cw01
  replace cw02 := kept hb cw02
  replace cw03 := kept hb cw03
  replace cx00 := kept hb cx00
  replace cx01 := kept hb cx01
  replace cx02 := kept hb cx02
  replace cx03 := kept hb cx03
  replace ow0 := ow0.below hb
  replace ot10 := ot10.below hb
  replace hbel := hbel.trans (hb.mono hbel.size)
  clear hb
  go_wp2_with fail
  refine (implReplayBeads xAU xAL xAW t10A t10C xAR t14A t14C xListZ v10 ot10.rd bxAU bxAL bxAW zxA ot14.rd zxList).mono ?_
  rintro e v11 ⟨g0A, g0C, rfl, og0, hb⟩
  have s17 : Hid (v10.heap.size ≤ v11.heap.size) := Lib.hid hb.size
  replace cxA0 := kept hb cxA0
  replace cxA1 := kept hb cxA1
  replace cxA2 := kept hb cxA2
  replace cxA3 := kept hb cxA3
  replace cw00 := kept hb cw00
  replace cw01 := kept hb cw01
  replace cw02 := kept hb cw02
  replace cw03 := kept hb cw03
  replace cx00 := kept hb cx00
  replace cx01 := kept hb cx01
  replace cx02 := kept hb cx02
  replace cx03 := kept hb cx03
  replace ow0 := ow0.below hb
  replace ot10 := ot10.below hb
  replace ot14 := ot14.below hb
  replace hbel := hbel.trans (hb.mono hbel.size)
  clear hb
  have ha18 : Below v11.heap.size v11 (v11.alloc (.cells #[.int .i64 (rplR xAU xAL xAW xAR xListZ).1, .int .i64 (rplR xAU xAL xAW xAR xListZ).2.1, .int .i64 (rplR xAU xAL xAW xAR xListZ).2.2.1, .slice g0A (rplR xAU xAL xAW xAR xListZ).2.2.2.1.length g0C] 38)) := (Below.refl _ _).alloc (by simp) _
  replace cxA0 := kept ha18 cxA0
  replace cxA1 := kept ha18 cxA1
  replace cxA2 := kept ha18 cxA2
  replace cxA3 := kept ha18 cxA3
  replace cw00 := kept ha18 cw00
  replace cw01 := kept ha18 cw01
  replace cw02 := kept ha18 cw02
  replace cw03 := kept ha18 cw03
  replace cx00 := kept ha18 cx00
  replace cx01 := kept ha18 cx01
  replace cx02 := kept ha18 cx02
  replace cx03 := kept ha18 cx03
  replace ow0 := ow0.below ha18
  replace ot10 := ot10.below ha18
  replace ot14 := ot14.below ha18
  replace og0 := og0.below ha18
  replace hbel := hbel.trans (ha18.mono hbel.size)
  clear ha18
  have cg00 : (v11.alloc (.cells #[.int .i64 (rplR xAU xAL xAW xAR xListZ).1, .int .i64 (rplR xAU xAL xAW xAR xListZ).2.1, .int .i64 (rplR xAU xAL xAW xAR xListZ).2.2.1, .slice g0A (rplR xAU xAL xAW xAR xListZ).2.2.2.1.length g0C] 38)).cell? ⟨v11.heap.size, 0, none⟩ = some (.int .i64 (rplR xAU xAL xAW xAR xListZ).1) := by go_simp
  have cg01 : (v11.alloc (.cells #[.int .i64 (rplR xAU xAL xAW xAR xListZ).1, .int .i64 (rplR xAU xAL xAW xAR xListZ).2.1, .int .i64 (rplR xAU xAL xAW xAR xListZ).2.2.1, .slice g0A (rplR xAU xAL xAW xAR xListZ).2.2.2.1.length g0C] 38)).cell? ⟨v11.heap.size, 1, none⟩ = some (.int .i64 (rplR xAU xAL xAW xAR xListZ).2.1) := by go_simp
  have cg02 : (v11.alloc (.cells #[.int .i64 (rplR xAU xAL xAW xAR xListZ).1, .int .i64 (rplR xAU xAL xAW xAR xListZ).2.1, .int .i64 (rplR xAU xAL xAW xAR xListZ).2.2.1, .slice g0A (rplR xAU xAL xAW xAR xListZ).2.2.2.1.length g0C] 38)).cell? ⟨v11.heap.size, 2, none⟩ = some (.int .i64 (rplR xAU xAL xAW xAR xListZ).2.2.1) := by go_simp
  have cg03 : (v11.alloc (.cells #[.int .i64 (rplR xAU xAL xAW xAR xListZ).1, .int .i64 (rplR xAU xAL xAW xAR xListZ).2.1, .int .i64 (rplR xAU xAL xAW xAR xListZ).2.2.1, .slice g0A (rplR xAU xAL xAW xAR xListZ).2.2.2.1.length g0C] 38)).cell? ⟨v11.heap.size, 3, none⟩ = some (.slice g0A (rplR xAU xAL xAW xAR xListZ).2.2.2.1.length g0C) := by go_simp
  have q19 : abaEqB (rplR xAU xAL xAW xAR xListZ).1 (rplR xAU xAL xAW xAR xListZ).2.1 (rplR xAU xAL xAW xAR xListZ).2.2.1 (rplR xAU xAL xAW xAR xListZ).1 (rplR xAU xAL xAW xAR xListZ).2.1 (rplR xAU xAL xAW xAR xListZ).2.2.1 (rplR xAU xAL xAW xAR xListZ).2.2.2.1 (rplR xAU xAL xAW xAR xListZ).2.2.2.1 = true := abaEqB_self _ _ _ _
  go_wp2_with fail
  obtain ⟨v12, hu⟩ : ∃ u, u = (v11.alloc (.cells #[.int .i64 (rplR xAU xAL xAW xAR xListZ).1, .int .i64 (rplR xAU xAL xAW xAR xListZ).2.1, .int .i64 (rplR xAU xAL xAW xAR xListZ).2.2.1, .slice g0A (rplR xAU xAL xAW xAR xListZ).2.2.2.1.length g0C] 38)) := ⟨_, rfl⟩
  have s20 : Hid (v11.heap.size + 1 ≤ v12.heap.size) := Lib.hid (by rw [hu]; simp)
  rw [← hu] at cxA0 cxA1 cxA2 cxA3 cw00 cw01 cw02 cw03 cx00 cx01 cx02 cx03 cg00 cg01 cg02 cg03 ow0 ot10 ot14 og0 hbel ⊢
  clear hu
  refine (eqAbacus_any (rplR xAU xAL xAW xAR xListZ).1 (rplR xAU xAL xAW xAR xListZ).2.1 (rplR xAU xAL xAW xAR xListZ).2.2.1 (rplR xAU xAL xAW xAR xListZ).1 (rplR xAU xAL xAW xAR xListZ).2.1 (rplR xAU xAL xAW xAR xListZ).2.2.1 g0A w0A g0C w0C (rplR xAU xAL xAW xAR xListZ).2.2.2.1 (rplR xAU xAL xAW xAR xListZ).2.2.2.1 v12 og0.rd ow0.rd).mono ?_
  rintro e v13 ⟨rfl, hb⟩
  have s21 : Hid (v12.heap.size ≤ v13.heap.size) := Lib.hid hb.size
  replace cxA0 := kept hb cxA0
  replace cxA1 := kept hb cxA1
  replace cxA2 := kept hb cxA2
  replace cxA3 := kept hb cxA3
  replace cw00 := kept hb cw00
  replace cw01 := kept hb cw01
  replace cw02 := kept hb cw02
  replace cw03 := kept hb cw03
  replace cx00 := kept hb cx00
  replace cx01 := kept hb cx01
  replace cx02 := kept hb cx02
  replace cx03 := kept hb cx03
  replace cg00 := kept hb cg00
  replace cg01 := kept hb cg01
  replace cg02 := kept hb cg02
  replace cg03 := kept hb cg03
  replace ow0 := ow0.below hb
  replace ot10 := ot10.below hb
  replace ot14 := ot14.below hb
  replace og0 := og0.below hb
  replace hbel := hbel.trans (hb.mono hbel.size)
  clear hb
  have q22 : abaEqB xAU xAL xAW xAU xAL xAW xAR xAR = true := abaEqB_self _ _ _ _
  go_wp2_with fail
  have rcxA0 := kept_all cxA0
  have rcxA1 := kept_all cxA1
  have rcxA2 := kept_all cxA2
  have rcxA3 := kept_all cxA3
  have rcw00 := kept_all cw00
  have rcw01 := kept_all cw01
  have rcw02 := kept_all cw02
  have rcw03 := kept_all cw03
  have rcx00 := kept_all cx00
  have rcx01 := kept_all cx01
  have rcx02 := kept_all cx02
  have rcx03 := kept_all cx03
  have rcg00 := kept_all cg00
  have rcg01 := kept_all cg01
  have rcg02 := kept_all cg02
  have rcg03 := kept_all cg03
  go_region_held3 (fun w' => Below v13.heap.size v13 w') (first | exact hk | exact (Below.refl _ _).drew | exact hk.alloc hk.size _ | exact (hk.alloc hk.size _).setCell hk.size _)
    (first | (go_at_call 64; have qB := ‹Below v13.heap.size v13 _›; ((with_reducible refine (toAbacus_any xAU xAL xAW xAA xAC xAR _ (hxA.below (hbel.trans (qB.mono hbel.size)))).mono ?_)); rintro e v15 ⟨t23A, t23C, rfl, ot23, hb⟩; have hk := qB.trans (hb.mono qB.size)) | (go_at_call 65; have qB := ‹Below v13.heap.size v13 _›; refine (eqAbacus_any xAU xAL xAW xAU xAL xAW t10A t23A t10C t23C xAR xAR _ (ot10.below qB).rd (by first | exact ot23.rd | exact (ot23.alloc _).rd)).mono ?_; rintro e v14 ⟨rfl, hb⟩; have hk := qB.trans (hb.mono qB.size)))
  have hb : Below v13.heap.size v13 v14 := by assumption
  clear rcxA0 rcxA1 rcxA2 rcxA3 rcw00 rcw01 rcw02 rcw03 rcx00 rcx01 rcx02 rcx03 rcg00 rcg01 rcg02 rcg03
  clear ot23
  have s24 : Hid (v13.heap.size ≤ v14.heap.size) := Lib.hid hb.size
  replace cxA0 := kept hb cxA0
  replace cxA1 := kept hb cxA1
  replace cxA2 := kept hb cxA2
  replace cxA3 := kept hb cxA3
  replace cw00 := kept hb cw00
  replace cw01 := kept hb cw01
  replace cw02 := kept hb cw02
  replace cw03 := kept hb cw03
  replace cx00 := kept hb cx00
  replace cx01 := kept hb cx01
  replace cx02 := kept hb cx02
  replace cx03 := kept hb cx03
  replace cg00 := kept hb cg00
  replace cg01 := kept hb cg01
  replace cg02 := kept hb cg02
  replace cg03 := kept hb cg03
  replace ow0 := ow0.below hb
  replace ot10 := ot10.below hb
  replace ot14 := ot14.below hb
  replace og0 := og0.below hb
  replace hbel := hbel.trans (hb.mono hbel.size)
  clear hb
  have q25 : decide (xListZ = xListZ) = true := decide_eq_true rfl
  go_wp2_with fail
  refine (toBeadMoveS_any xListA xListC xListZ v14 (hxList.below hbel)).mono ?_
  rintro e v16 ⟨t26A, t26C, rfl, ot26, hb⟩
  have s27 : Hid (v14.heap.size ≤ v16.heap.size) := Lib.hid hb.size
  replace cxA0 := kept hb cxA0
  replace cxA1 := kept hb cxA1
  replace cxA2 := kept hb cxA2
  replace cxA3 := kept hb cxA3
  replace cw00 := kept hb cw00
  replace cw01 := kept hb cw01
  replace cw02 := kept hb cw02
  replace cw03 := kept hb cw03
  replace cx00 := kept hb cx00
  replace cx01 := kept hb cx01
  replace cx02 := kept hb cx02
  replace cx03 := kept hb cx03
  replace cg00 := kept hb cg00
  replace cg01 := kept hb cg01
  replace cg02 := kept hb cg02
  replace cg03 := kept hb cg03
  replace ow0 := ow0.below hb
  replace ot10 := ot10.below hb
  replace ot14 := ot14.below hb
  replace og0 := og0.below hb
  replace hbel := hbel.trans (hb.mono hbel.size)
  clear hb
  go_wp2_with fail
  refine (eqBeadMoveS_any t14A t26A t14C t26C xListZ xListZ v16 ot14.rd ot26.rd).mono ?_
  rintro e v17 ⟨rfl, hb⟩
  have s28 : Hid (v16.heap.size ≤ v17.heap.size) := Lib.hid hb.size
  replace cxA0 := kept hb cxA0
  replace cxA1 := kept hb cxA1
  replace cxA2 := kept hb cxA2
  replace cxA3 := kept hb cxA3
  replace cw00 := kept hb cw00
  replace cw01 := kept hb cw01
  replace cw02 := kept hb cw02
  replace cw03 := kept hb cw03
  replace cx00 := kept hb cx00
  replace cx01 := kept hb cx01
  replace cx02 := kept hb cx02
  replace cx03 := kept hb cx03
  replace cg00 := kept hb cg00
  replace cg01 := kept hb cg01
  replace cg02 := kept hb cg02
  replace cg03 := kept hb cg03
  replace ow0 := ow0.below hb
  replace ot10 := ot10.below hb
  replace ot14 := ot14.below hb
  replace og0 := og0.below hb
  replace ot26 := ot26.below hb
  replace hbel := hbel.trans (hb.mono hbel.size)
  clear hb
  clear ot26
  go_wp2_with fail
  refine (markAbacus_any _ _ _ xAU xAL xAW t10A t10C 1 xAR v17 ot10 (by have := ow0.len; have := ot10.len; have := ot14.len; have := og0.len; have := hxA.len; have := hxList.len; omega) (by have := ow0.len; have := ot10.len; have := ot14.len; have := og0.len; have := hxA.len; have := hxList.len; omega)).mono ?_
  rintro e v18 ⟨rfl, om, ht⟩
  have s29 : Hid (v17.heap.size ≤ v18.heap.size) := Lib.hid ht.size
  clear ot10
  have ot10 := om
  clear om
  replace cxA0 := keptT ht cxA0 (by have := s1.out; have := s2.out; have := s3.out; have := s5.out; have := s7.out; have := s8.out; have := s11.out; have := s12.out; have := s15.out; have := s16.out; have := s17.out; have := s20.out; have := s21.out; have := s24.out; have := s27.out; have := s28.out; have := s29.out; omega)
  replace cxA1 := keptT ht cxA1 (by have := s1.out; have := s2.out; have := s3.out; have := s5.out; have := s7.out; have := s8.out; have := s11.out; have := s12.out; have := s15.out; have := s16.out; have := s17.out; have := s20.out; have := s21.out; have := s24.out; have := s27.out; have := s28.out; have := s29.out; omega)
  replace cxA2 := keptT ht cxA2 (by have := s1.out; have := s2.out; have := s3.out; have := s5.out; have := s7.out; have := s8.out; have := s11.out; have := s12.out; have := s15.out; have := s16.out; have := s17.out; have := s20.out; have := s21.out; have := s24.out; have := s27.out; have := s28.out; have := s29.out; omega)
  replace cxA3 := keptT ht cxA3 (by have := s1.out; have := s2.out; have := s3.out; have := s5.out; have := s7.out; have := s8.out; have := s11.out; have := s12.out; have := s15.out; have := s16.out; have := s17.out; have := s20.out; have := s21.out; have := s24.out; have := s27.out; have := s28.out; have := s29.out; omega)
  replace cw00 := keptT ht cw00 (by have := s1.out; have := s2.out; have := s3.out; have := s5.out; have := s7.out; have := s8.out; have := s11.out; have := s12.out; have := s15.out; have := s16.out; have := s17.out; have := s20.out; have := s21.out; have := s24.out; have := s27.out; have := s28.out; have := s29.out; omega)
  replace cw01 := keptT ht cw01 (by have := s1.out; have := s2.out; have := s3.out; have := s5.out; have := s7.out; have := s8.out; have := s11.out; have := s12.out; have := s15.out; have := s16.out; have := s17.out; have := s20.out; have := s21.out; have := s24.out; have := s27.out; have := s28.out; have := s29.out; omega)
  replace cw02 := keptT ht cw02 (by have := s1.out; have := s2.out; have := s3.out; have := s5.out; have := s7.out; have := s8.out; have := s11.out; have := s12.out; have := s15.out; have := s16.out; have := s17.out; have := s20.out; have := s21.out; have := s24.out; have := s27.out; have := s28.out; have := s29.out; omega)
  replace cw03 := keptT ht cw03 (by have := s1.out; have := s2.out; have := s3.out; have := s5.out; have := s7.out; have := s8.out; have := s11.out; have := s12.out; have := s15.out; have := s16.out; have := s17.out; have := s20.out; have := s21.out; have := s24.out; have := s27.out; have := s28.out; have := s29.out; omega)
  replace cx00 := keptT ht cx00 (by have := s1.out; have := s2.out; have := s3.out; have := s5.out; have := s7.out; have := s8.out; have := s11.out; have := s12.out; have := s15.out; have := s16.out; have := s17.out; have := s20.out; have := s21.out; have := s24.out; have := s27.out; have := s28.out; have := s29.out; omega)
  replace cx01 := keptT ht cx01 (by have := s1.out; have := s2.out; have := s3.out; have := s5.out; have := s7.out; have := s8.out; have := s11.out; have := s12.out; have := s15.out; have := s16.out; have := s17.out; have := s20.out; have := s21.out; have := s24.out; have := s27.out; have := s28.out; have := s29.out; omega)
  replace cx02 := keptT ht cx02 (by have := s1.out; have := s2.out; have := s3.out; have := s5.out; have := s7.out; have := s8.out; have := s11.out; have := s12.out; have := s15.out; have := s16.out; have := s17.out; have := s20.out; have := s21.out; have := s24.out; have := s27.out; have := s28.out; have := s29.out; omega)
  replace cx03 := keptT ht cx03 (by have := s1.out; have := s2.out; have := s3.out; have := s5.out; have := s7.out; have := s8.out; have := s11.out; have := s12.out; have := s15.out; have := s16.out; have := s17.out; have := s20.out; have := s21.out; have := s24.out; have := s27.out; have := s28.out; have := s29.out; omega)
  replace cg00 := keptT ht cg00 (by have := s1.out; have := s2.out; have := s3.out; have := s5.out; have := s7.out; have := s8.out; have := s11.out; have := s12.out; have := s15.out; have := s16.out; have := s17.out; have := s20.out; have := s21.out; have := s24.out; have := s27.out; have := s28.out; have := s29.out; omega)
  replace cg01 := keptT ht cg01 (by have := s1.out; have := s2.out; have := s3.out; have := s5.out; have := s7.out; have := s8.out; have := s11.out; have := s12.out; have := s15.out; have := s16.out; have := s17.out; have := s20.out; have := s21.out; have := s24.out; have := s27.out; have := s28.out; have := s29.out; omega)
  replace cg02 := keptT ht cg02 (by have := s1.out; have := s2.out; have := s3.out; have := s5.out; have := s7.out; have := s8.out; have := s11.out; have := s12.out; have := s15.out; have := s16.out; have := s17.out; have := s20.out; have := s21.out; have := s24.out; have := s27.out; have := s28.out; have := s29.out; omega)
  replace cg03 := keptT ht cg03 (by have := s1.out; have := s2.out; have := s3.out; have := s5.out; have := s7.out; have := s8.out; have := s11.out; have := s12.out; have := s15.out; have := s16.out; have := s17.out; have := s20.out; have := s21.out; have := s24.out; have := s27.out; have := s28.out; have := s29.out; omega)
  replace ow0 := ow0.touch ht (by have := s1.out; have := s2.out; have := s3.out; have := s5.out; have := s7.out; have := s8.out; have := s11.out; have := s12.out; have := s15.out; have := s16.out; have := s17.out; have := s20.out; have := s21.out; have := s24.out; have := s27.out; have := s28.out; have := s29.out; omega)
  replace ot14 := ot14.touch ht (by have := s1.out; have := s2.out; have := s3.out; have := s5.out; have := s7.out; have := s8.out; have := s11.out; have := s12.out; have := s15.out; have := s16.out; have := s17.out; have := s20.out; have := s21.out; have := s24.out; have := s27.out; have := s28.out; have := s29.out; omega)
  replace og0 := og0.touch ht (by have := s1.out; have := s2.out; have := s3.out; have := s5.out; have := s7.out; have := s8.out; have := s11.out; have := s12.out; have := s15.out; have := s16.out; have := s17.out; have := s20.out; have := s21.out; have := s24.out; have := s27.out; have := s28.out; have := s29.out; omega)
  replace hbel := hbel.trans (ht.below (by have := s1.out; have := s2.out; have := s3.out; have := s5.out; have := s7.out; have := s8.out; have := s11.out; have := s12.out; have := s15.out; have := s16.out; have := s17.out; have := s20.out; have := s21.out; have := s24.out; have := s27.out; have := s28.out; have := s29.out; omega) hbel.size)
  clear ht
  go_wp2_with fail
  refine (markBeadMoveS_any _ _ _ t14A t14C (1 + 2 * (xAR.length : Int)) xListZ v18 ot14 (by have := ow0.len; have := ot10.len; have := ot14.len; have := og0.len; have := hxA.len; have := hxList.len; omega) (by have := ow0.len; have := ot10.len; have := ot14.len; have := og0.len; have := hxA.len; have := hxList.len; omega)).mono ?_
  rintro e v19 ⟨rfl, om, ht⟩
  have s30 : Hid (v18.heap.size ≤ v19.heap.size) := Lib.hid ht.size
  clear ot14
  have ot14 := om
  clear om
  replace cxA0 := keptT ht cxA0 (by have := s1.out; have := s2.out; have := s3.out; have := s5.out; have := s7.out; have := s8.out; have := s11.out; have := s12.out; have := s15.out; have := s16.out; have := s17.out; have := s20.out; have := s21.out; have := s24.out; have := s27.out; have := s28.out; have := s29.out; have := s30.out; omega)
  replace cxA1 := keptT ht cxA1 (by have := s1.out; have := s2.out; have := s3.out; have := s5.out; have := s7.out; have := s8.out; have := s11.out; have := s12.out; have := s15.out; have := s16.out; have := s17.out; have := s20.out; have := s21.out; have := s24.out; have := s27.out; have := s28.out; have := s29.out; have := s30.out; omega)
  replace cxA2 := keptT ht cxA2 (by have := s1.out; have := s2.out; have := s3.out; have := s5.out; have := s7.out; have := s8.out; have := s11.out; have := s12.out; have := s15.out; have := s16.out; have := s17.out; have := s20.out; have := s21.out; have := s24.out; have := s27.out; have := s28.out; have := s29.out; have := s30.out; omega)
  replace cxA3 := keptT ht cxA3 (by have := s1.out; have := s2.out; have := s3.out; have := s5.out; have := s7.out; have := s8.out; have := s11.out; have := s12.out; have := s15.out; have := s16.out; have := s17.out; have := s20.out; have := s21.out; have := s24.out; have := s27.out; have := s28.out; have := s29.out; have := s30.out; omega)
  replace cw00 := keptT ht cw00 (by have := s1.out; have := s2.out; have := s3.out; have := s5.out; have := s7.out; have := s8.out; have := s11.out; have := s12.out; have := s15.out; have := s16.out; have := s17.out; have := s20.out; have := s21.out; have := s24.out; have := s27.out; have := s28.out; have := s29.out; have := s30.out; omega)
  replace cw01 := keptT ht cw01 (by have := s1.out; have := s2.out; have := s3.out; have := s5.out; have := s7.out; have := s8.out; have := s11.out; have := s12.out; have := s15.out; have := s16.out; have := s17.out; have := s20.out; have := s21.out; have := s24.out; have := s27.out; have := s28.out; have := s29.out; have := s30.out; omega)
  replace cw02 := keptT ht cw02 (by have := s1.out; have := s2.out; have := s3.out; have := s5.out; have := s7.out; have := s8.out; have := s11.out; have := s12.out; have := s15.out; have := s16.out; have := s17.out; have := s20.out; have := s21.out; have := s24.out; have := s27.out; have := s28.out; have := s29.out; have := s30.out; omega)
  replace cw03 := keptT ht cw03 (by have := s1.out; have := s2.out; have := s3.out; have := s5.out; have := s7.out; have := s8.out; have := s11.out; have := s12.out; have := s15.out; have := s16.out; have := s17.out; have := s20.out; have := s21.out; have := s24.out; have := s27.out; have := s28.out; have := s29.out; have := s30.out; omega)
  replace cx00 := keptT ht cx00 (by have := s1.out; have := s2.out; have := s3.out; have := s5.out; have := s7.out; have := s8.out; have := s11.out; have := s12.out; have := s15.out; have := s16.out; have := s17.out; have := s20.out; have := s21.out; have := s24.out; have := s27.out; have := s28.out; have := s29.out; have := s30.out; omega)
  replace cx01 := keptT ht cx01 (by have := s1.out; have := s2.out; have := s3.out; have := s5.out; have := s7.out; have := s8.out; have := s11.out; have := s12.out; have := s15.out; have := s16.out; have := s17.out; have := s20.out; have := s21.out; have := s24.out; have := s27.out; have := s28.out; have := s29.out; have := s30.out; omega)
  replace cx02 := keptT ht cx02 (by have := s1.out; have := s2.out; have := s3.out; have := s5.out; have := s7.out; have := s8.out; have := s11.out; have := s12.out; have := s15.out; have := s16.out; have := s17.out; have := s20.out; have := s21.out; have := s24.out; have := s27.out; have := s28.out; have := s29.out; have := s30.out; omega)
  replace cx03 := keptT ht cx03 (by have := s1.out; have := s2.out; have := s3.out; have := s5.out; have := s7.out; have := s8.out; have := s11.out; have := s12.out; have := s15.out; have := s16.out; have := s17.out; have := s20.out; have := s21.out; have := s24.out; have := s27.out; have := s28.out; have := s29.out; have := s30.out; omega)
  replace cg00 := keptT ht cg00 (by have := s1.out; have := s2.out; have := s3.out; have := s5.out; have := s7.out; have := s8.out; have := s11.out; have := s12.out; have := s15.out; have := s16.out; have := s17.out; have := s20.out; have := s21.out; have := s24.out; have := s27.out; have := s28.out; have := s29.out; have := s30.out; omega)
  replace cg01 := keptT ht cg01 (by have := s1.out; have := s2.out; have := s3.out; have := s5.out; have := s7.out; have := s8.out; have := s11.out; have := s12.out; have := s15.out; have := s16.out; have := s17.out; have := s20.out; have := s21.out; have := s24.out; have := s27.out; have := s28.out; have := s29.out; have := s30.out; omega)
  replace cg02 := keptT ht cg02 (by have := s1.out; have := s2.out; have := s3.out; have := s5.out; have := s7.out; have := s8.out; have := s11.out; have := s12.out; have := s15.out; have := s16.out; have := s17.out; have := s20.out; have := s21.out; have := s24.out; have := s27.out; have := s28.out; have := s29.out; have := s30.out; omega)
  replace cg03 := keptT ht cg03 (by have := s1.out; have := s2.out; have := s3.out; have := s5.out; have := s7.out; have := s8.out; have := s11.out; have := s12.out; have := s15.out; have := s16.out; have := s17.out; have := s20.out; have := s21.out; have := s24.out; have := s27.out; have := s28.out; have := s29.out; have := s30.out; omega)
  replace ow0 := ow0.touch ht (by have := s1.out; have := s2.out; have := s3.out; have := s5.out; have := s7.out; have := s8.out; have := s11.out; have := s12.out; have := s15.out; have := s16.out; have := s17.out; have := s20.out; have := s21.out; have := s24.out; have := s27.out; have := s28.out; have := s29.out; have := s30.out; omega)
  replace ot10 := ot10.touch ht (by have := s1.out; have := s2.out; have := s3.out; have := s5.out; have := s7.out; have := s8.out; have := s11.out; have := s12.out; have := s15.out; have := s16.out; have := s17.out; have := s20.out; have := s21.out; have := s24.out; have := s27.out; have := s28.out; have := s29.out; have := s30.out; omega)
  replace og0 := og0.touch ht (by have := s1.out; have := s2.out; have := s3.out; have := s5.out; have := s7.out; have := s8.out; have := s11.out; have := s12.out; have := s15.out; have := s16.out; have := s17.out; have := s20.out; have := s21.out; have := s24.out; have := s27.out; have := s28.out; have := s29.out; have := s30.out; omega)
  replace hbel := hbel.trans (ht.below (by have := s1.out; have := s2.out; have := s3.out; have := s5.out; have := s7.out; have := s8.out; have := s11.out; have := s12.out; have := s15.out; have := s16.out; have := s17.out; have := s20.out; have := s21.out; have := s24.out; have := s27.out; have := s28.out; have := s29.out; have := s30.out; omega) hbel.size)
  clear ht
  have q31 : abaEqB (rplR xAU xAL xAW xAR xListZ).1 (rplR xAU xAL xAW xAR xListZ).2.1 (rplR xAU xAL xAW xAR xListZ).2.2.1 (rplR xAU xAL xAW xAR xListZ).1 (rplR xAU xAL xAW xAR xListZ).2.1 (rplR xAU xAL xAW xAR xListZ).2.2.1 (rplR xAU xAL xAW xAR xListZ).2.2.2.1 (rplR xAU xAL xAW xAR xListZ).2.2.2.1 = true := abaEqB_self _ _ _ _
  go_wp2_with fail
  refine (eqAbacus_any (rplR xAU xAL xAW xAR xListZ).1 (rplR xAU xAL xAW xAR xListZ).2.1 (rplR xAU xAL xAW xAR xListZ).2.2.1 (rplR xAU xAL xAW xAR xListZ).1 (rplR xAU xAL xAW xAR xListZ).2.1 (rplR xAU xAL xAW xAR xListZ).2.2.1 g0A w0A g0C w0C (rplR xAU xAL xAW xAR xListZ).2.2.2.1 (rplR xAU xAL xAW xAR xListZ).2.2.2.1 v19 og0.rd ow0.rd).mono ?_
  rintro e v20 ⟨rfl, hb⟩
  have s32 : Hid (v19.heap.size ≤ v20.heap.size) := Lib.hid hb.size
  replace cxA0 := kept hb cxA0
  replace cxA1 := kept hb cxA1
  replace cxA2 := kept hb cxA2
  replace cxA3 := kept hb cxA3
  replace cw00 := kept hb cw00
  replace cw01 := kept hb cw01
  replace cw02 := kept hb cw02
  replace cw03 := kept hb cw03
  replace cx00 := kept hb cx00
  replace cx01 := kept hb cx01
  replace cx02 := kept hb cx02
  replace cx03 := kept hb cx03
  replace cg00 := kept hb cg00
  replace cg01 := kept hb cg01
  replace cg02 := kept hb cg02
  replace cg03 := kept hb cg03
  replace ow0 := ow0.below hb
  replace ot10 := ot10.below hb
  replace ot14 := ot14.below hb
  replace og0 := og0.below hb
  replace hbel := hbel.trans (hb.mono hbel.size)
  clear hb
  go_wp2_with fail
  refine (markAbacus_any _ _ _ (rplR xAU xAL xAW xAR xListZ).1 (rplR xAU xAL xAW xAR xListZ).2.1 (rplR xAU xAL xAW xAR xListZ).2.2.1 g0A g0C 1 (rplR xAU xAL xAW xAR xListZ).2.2.2.1 v20 og0 (by have := ow0.len; have := ot10.len; have := ot14.len; have := og0.len; have := hxA.len; have := hxList.len; omega) (by have := ow0.len; have := ot10.len; have := ot14.len; have := og0.len; have := hxA.len; have := hxList.len; omega)).mono ?_
  rintro e v21 ⟨rfl, om, ht⟩
  have s33 : Hid (v20.heap.size ≤ v21.heap.size) := Lib.hid ht.size
  clear og0
  have og0 := om
  clear om
  replace cxA0 := keptT ht cxA0 (by have := s1.out; have := s2.out; have := s3.out; have := s5.out; have := s7.out; have := s8.out; have := s11.out; have := s12.out; have := s15.out; have := s16.out; have := s17.out; have := s20.out; have := s21.out; have := s24.out; have := s27.out; have := s28.out; have := s29.out; have := s30.out; have := s32.out; have := s33.out; omega)
  replace cxA1 := keptT ht cxA1 (by have := s1.out; have := s2.out; have := s3.out; have := s5.out; have := s7.out; have := s8.out; have := s11.out; have := s12.out; have := s15.out; have := s16.out; have := s17.out; have := s20.out; have := s21.out; have := s24.out; have := s27.out; have := s28.out; have := s29.out; have := s30.out; have := s32.out; have := s33.out; omega)
  replace cxA2 := keptT ht cxA2 (by have := s1.out; have := s2.out; have := s3.out; have := s5.out; have := s7.out; have := s8.out; have := s11.out; have := s12.out; have := s15.out; have := s16.out; have := s17.out; have := s20.out; have := s21.out; have := s24.out; have := s27.out; have := s28.out; have := s29.out; have := s30.out; have := s32.out; have := s33.out; omega)
  replace cxA3 := keptT ht cxA3 (by have := s1.out; have := s2.out; have := s3.out; have := s5.out; have := s7.out; have := s8.out; have := s11.out; have := s12.out; have := s15.out; have := s16.out; have := s17.out; have := s20.out; have := s21.out; have := s24.out; have := s27.out; have := s28.out; have := s29.out; have := s30.out; have := s32.out; have := s33.out; omega)
  replace cw00 := keptT ht cw00 (by have := s1.out; have := s2.out; have := s3.out; have := s5.out; have := s7.out; have := s8.out; have := s11.out; have := s12.out; have := s15.out; have := s16.out; have := s17.out; have := s20.out; have := s21.out; have := s24.out; have := s27.out; have := s28.out; have := s29.out; have := s30.out; have := s32.out; have := s33.out; omega)
  replace cw01 := keptT ht cw01 (by have := s1.out; have := s2.out; have := s3.out; have := s5.out; have := s7.out; have := s8.out; have := s11.out; have := s12.out; have := s15.out; have := s16.out; have := s17.out; have := s20.out; have := s21.out; have := s24.out; have := s27.out; have := s28.out; have := s29.out; have := s30.out; have := s32.out; have := s33.out; omega)
  replace cw02 := keptT ht cw02 (by have := s1.out; have := s2.out; have := s3.out; have := s5.out; have := s7.out; have := s8.out; have := s11.out; have := s12.out; have := s15.out; have := s16.out; have := s17.out; have := s20.out; have := s21.out; have := s24.out; have := s27.out; have := s28.out; have := s29.out; have := s30.out; have := s32.out; have := s33.out; omega)
  replace cw03 := keptT ht cw03 (by have := s1.out; have := s2.out; have := s3.out; have := s5.out; have := s7.out; have := s8.out; have := s11.out; have := s12.out; have := s15.out; have := s16.out; have := s17.out; have := s20.out; have := s21.out; have := s24.out; have := s27.out; have := s28.out; have := s29.out; have := s30.out; have := s32.out; have := s33.out; omega)
  replace cx00 := keptT ht cx00 (by have := s1.out; have := s2.out; have := s3.out; have := s5.out; have := s7.out; have := s8.out; have := s11.out; have := s12.out; have := s15.out; have := s16.out; have := s17.out; have := s20.out; have := s21.out; have := s24.out; have := s27.out; have := s28.out; have := s29.out; have := s30.out; have := s32.out; have := s33.out; omega)
  replace cx01 := keptT ht cx01 (by have := s1.out; have := s2.out; have := s3.out; have := s5.out; have := s7.out; have := s8.out; have := s11.out; have := s12.out; have := s15.out; have := s16.out; have := s17.out; have := s20.out; have := s21.out; have := s24.out; have := s27.out; have := s28.out; have := s29.out; have := s30.out; have := s32.out; have := s33.out; omega)
  replace cx02 := keptT ht cx02 (by have := s1.out; have := s2.out; have := s3.out; have := s5.out; have := s7.out; have := s8.out; have := s11.out; have := s12.out; have := s15.out; have := s16.out; have := s17.out; have := s20.out; have := s21.out; have := s24.out; have := s27.out; have := s28.out; have := s29.out; have := s30.out; have := s32.out; have := s33.out; omega)
  replace cx03 := keptT ht cx03 (by have := s1.out; have := s2.out; have := s3.out; have := s5.out; have := s7.out; have := s8.out; have := s11.out; have := s12.out; have := s15.out; have := s16.out; have := s17.out; have := s20.out; have := s21.out; have := s24.out; have := s27.out; have := s28.out; have := s29.out; have := s30.out; have := s32.out; have := s33.out; omega)
  replace cg00 := keptT ht cg00 (by have := s1.out; have := s2.out; have := s3.out; have := s5.out; have := s7.out; have := s8.out; have := s11.out; have := s12.out; have := s15.out; have := s16.out; have := s17.out; have := s20.out; have := s21.out; have := s24.out; have := s27.out; have := s28.out; have := s29.out; have := s30.out; have := s32.out; have := s33.out; omega)
  replace cg01 := keptT ht cg01 (by have := s1.out; have := s2.out; have := s3.out; have := s5.out; have := s7.out; have := s8.out; have := s11.out; have := s12.out; have := s15.out; have := s16.out; have := s17.out; have := s20.out; have := s21.out; have := s24.out; have := s27.out; have := s28.out; have := s29.out; have := s30.out; have := s32.out; have := s33.out; omega)
  replace cg02 := keptT ht cg02 (by have := s1.out; have := s2.out; have := s3.out; have := s5.out; have := s7.out; have := s8.out; have := s11.out; have := s12.out; have := s15.out; have := s16.out; have := s17.out; have := s20.out; have := s21.out; have := s24.out; have := s27.out; have := s28.out; have := s29.out; have := s30.out; have := s32.out; have := s33.out; omega)
  replace cg03 := keptT ht cg03 (by have := s1.out; have := s2.out; have := s3.out; have := s5.out; have := s7.out; have := s8.out; have := s11.out; have := s12.out; have := s15.out; have := s16.out; have := s17.out; have := s20.out; have := s21.out; have := s24.out; have := s27.out; have := s28.out; have := s29.out; have := s30.out; have := s32.out; have := s33.out; omega)
  replace ow0 := ow0.touch ht (by have := s1.out; have := s2.out; have := s3.out; have := s5.out; have := s7.out; have := s8.out; have := s11.out; have := s12.out; have := s15.out; have := s16.out; have := s17.out; have := s20.out; have := s21.out; have := s24.out; have := s27.out; have := s28.out; have := s29.out; have := s30.out; have := s32.out; have := s33.out; omega)
  replace ot10 := ot10.touch ht (by have := s1.out; have := s2.out; have := s3.out; have := s5.out; have := s7.out; have := s8.out; have := s11.out; have := s12.out; have := s15.out; have := s16.out; have := s17.out; have := s20.out; have := s21.out; have := s24.out; have := s27.out; have := s28.out; have := s29.out; have := s30.out; have := s32.out; have := s33.out; omega)
  replace ot14 := ot14.touch ht (by have := s1.out; have := s2.out; have := s3.out; have := s5.out; have := s7.out; have := s8.out; have := s11.out; have := s12.out; have := s15.out; have := s16.out; have := s17.out; have := s20.out; have := s21.out; have := s24.out; have := s27.out; have := s28.out; have := s29.out; have := s30.out; have := s32.out; have := s33.out; omega)
  replace hbel := hbel.trans (ht.below (by have := s1.out; have := s2.out; have := s3.out; have := s5.out; have := s7.out; have := s8.out; have := s11.out; have := s12.out; have := s15.out; have := s16.out; have := s17.out; have := s20.out; have := s21.out; have := s24.out; have := s27.out; have := s28.out; have := s29.out; have := s30.out; have := s32.out; have := s33.out; omega) hbel.size)
  clear ht
  go_wp2_with fail
  refine (heldAbacus_any (rplR xAU xAL xAW xAR xListZ).1 (rplR xAU xAL xAW xAR xListZ).2.1 (rplR xAU xAL xAW xAR xListZ).2.2.1 g0A g0C 1 (rplR xAU xAL xAW xAR xListZ).2.2.2.1.length v21 og0.rd (by have := ow0.len; have := ot10.len; have := ot14.len; have := og0.len; have := hxA.len; have := hxList.len; omega) (by have := ow0.len; have := ot10.len; have := ot14.len; have := og0.len; have := hxA.len; have := hxList.len; omega)).mono ?_
  rintro e v22 ⟨rfl, hb⟩
  have s34 : Hid (v21.heap.size ≤ v22.heap.size) := Lib.hid hb.size
  replace cxA0 := kept hb cxA0
  replace cxA1 := kept hb cxA1
  replace cxA2 := kept hb cxA2
  replace cxA3 := kept hb cxA3
  replace cw00 := kept hb cw00
  replace cw01 := kept hb cw01
  replace cw02 := kept hb cw02
  replace cw03 := kept hb cw03
  replace cx00 := kept hb cx00
  replace cx01 := kept hb cx01
  replace cx02 := kept hb cx02
  replace cx03 := kept hb cx03
  replace cg00 := kept hb cg00
  replace cg01 := kept hb cg01
  replace cg02 := kept hb cg02
  replace cg03 := kept hb cg03
  replace ow0 := ow0.below hb
  replace ot10 := ot10.below hb
  replace ot14 := ot14.below hb
  replace og0 := og0.below hb
  replace hbel := hbel.trans (hb.mono hbel.size)
  clear hb
  go_wp2_with fail
  refine (toAbacus_any xAU xAL xAW xAA xAC xAR v22 (hxA.below hbel)).mono ?_
  rintro e v23 ⟨t35A, t35C, rfl, ot35, hb⟩
  have s36 : Hid (v22.heap.size ≤ v23.heap.size) := Lib.hid hb.size
  replace cxA0 := kept hb cxA0
  replace cxA1 := kept hb cxA1
  replace cxA2 := kept hb cxA2
  replace cxA3 := kept hb cxA3
  replace cw00 := kept hb cw00
  replace cw01 := kept hb cw01
  replace cw02 := kept hb cw02
  replace cw03 := kept hb cw03
  replace cx00 := kept hb cx00
  replace cx01 := kept hb cx01
  replace cx02 := kept hb cx02
  replace cx03 := kept hb cx03
  replace cg00 := kept hb cg00
  replace cg01 := kept hb cg01
  replace cg02 := kept hb cg02
  replace cg03 := kept hb cg03
  replace ow0 := ow0.below hb
  replace ot10 := ot10.below hb
  replace ot14 := ot14.below hb
  replace og0 := og0.below hb
  replace hbel := hbel.trans (hb.mono hbel.size)
  clear hb
  go_wp2_with fail
  refine (toBeadMoveS_any xListA xListC xListZ v23 (hxList.below hbel)).mono ?_
  rintro e v24 ⟨t37A, t37C, rfl, ot37, hb⟩
  have s38 : Hid (v23.heap.size ≤ v24.heap.size) := Lib.hid hb.size
  replace cxA0 := kept hb cxA0
  replace cxA1 := kept hb cxA1
  replace cxA2 := kept hb cxA2
  replace cxA3 := kept hb cxA3
  replace cw00 := kept hb cw00
  replace cw01 := kept hb cw01
  replace cw02 := kept hb cw02
  replace cw03 := kept hb cw03
  replace cx00 := kept hb cx00
  replace cx01 := kept hb cx01
  replace cx02 := kept hb cx02
  replace cx03 := kept hb cx03
  replace cg00 := kept hb cg00
  replace cg01 := kept hb cg01
  replace cg02 := kept hb cg02
  replace cg03 := kept hb cg03
  replace ow0 := ow0.below hb
  replace ot10 := ot10.below hb
  replace ot14 := ot14.below hb
  replace og0 := og0.below hb
  replace ot35 := ot35.below hb
  replace hbel := hbel.trans (hb.mono hbel.size)
  clear hb
  go_wp2_with fail
  refine (implReplayBeads xAU xAL xAW t35A t35C xAR t37A t37C xListZ v24 ot35.rd bxAU bxAL bxAW zxA ot37.rd zxList).mono ?_
  rintro e v25 ⟨h0A, h0C, rfl, oh0, hb⟩
  have s39 : Hid (v24.heap.size ≤ v25.heap.size) := Lib.hid hb.size
  replace cxA0 := kept hb cxA0
  replace cxA1 := kept hb cxA1
  replace cxA2 := kept hb cxA2
  replace cxA3 := kept hb cxA3
  replace cw00 := kept hb cw00
  replace cw01 := kept hb cw01
  replace cw02 := kept hb cw02
  replace cw03 := kept hb cw03
  replace cx00 := kept hb cx00
  replace cx01 := kept hb cx01
  replace cx02 := kept hb cx02
  replace cx03 := kept hb cx03
  replace cg00 := kept hb cg00
  replace cg01 := kept hb cg01
  replace cg02 := kept hb cg02
  replace cg03 := kept hb cg03
  replace ow0 := ow0.below hb
  replace ot10 := ot10.below hb
  replace ot14 := ot14.below hb
  replace og0 := og0.below hb
  replace ot35 := ot35.below hb
  replace ot37 := ot37.below hb
  replace hbel := hbel.trans (hb.mono hbel.size)
  clear hb
  clear ot35
  clear ot37
  have ha40 : Below v25.heap.size v25 (v25.alloc (.cells #[.int .i64 (rplR xAU xAL xAW xAR xListZ).1, .int .i64 (rplR xAU xAL xAW xAR xListZ).2.1, .int .i64 (rplR xAU xAL xAW xAR xListZ).2.2.1, .slice h0A (rplR xAU xAL xAW xAR xListZ).2.2.2.1.length h0C] 38)) := (Below.refl _ _).alloc (by simp) _
  replace cxA0 := kept ha40 cxA0
  replace cxA1 := kept ha40 cxA1
  replace cxA2 := kept ha40 cxA2
  replace cxA3 := kept ha40 cxA3
  replace cw00 := kept ha40 cw00
  replace cw01 := kept ha40 cw01
  replace cw02 := kept ha40 cw02
  replace cw03 := kept ha40 cw03
  replace cx00 := kept ha40 cx00
  replace cx01 := kept ha40 cx01
  replace cx02 := kept ha40 cx02
  replace cx03 := kept ha40 cx03
  replace cg00 := kept ha40 cg00
  replace cg01 := kept ha40 cg01
  replace cg02 := kept ha40 cg02
  replace cg03 := kept ha40 cg03
  replace ow0 := ow0.below ha40
  replace ot10 := ot10.below ha40
  replace ot14 := ot14.below ha40
  replace og0 := og0.below ha40
  replace oh0 := oh0.below ha40
  replace hbel := hbel.trans (ha40.mono hbel.size)
  clear ha40
  have ch00 : (v25.alloc (.cells #[.int .i64 (rplR xAU xAL xAW xAR xListZ).1, .int .i64 (rplR xAU xAL xAW xAR xListZ).2.1, .int .i64 (rplR xAU xAL xAW xAR xListZ).2.2.1, .slice h0A (rplR xAU xAL xAW xAR xListZ).2.2.2.1.length h0C] 38)).cell? ⟨v25.heap.size, 0, none⟩ = some (.int .i64 (rplR xAU xAL xAW xAR xListZ).1) := by go_simp
  have ch01 : (v25.alloc (.cells #[.int .i64 (rplR xAU xAL xAW xAR xListZ).1, .int .i64 (rplR xAU xAL xAW xAR xListZ).2.1, .int .i64 (rplR xAU xAL xAW xAR xListZ).2.2.1, .slice h0A (rplR xAU xAL xAW xAR xListZ).2.2.2.1.length h0C] 38)).cell? ⟨v25.heap.size, 1, none⟩ = some (.int .i64 (rplR xAU xAL xAW xAR xListZ).2.1) := by go_simp
  have ch02 : (v25.alloc (.cells #[.int .i64 (rplR xAU xAL xAW xAR xListZ).1, .int .i64 (rplR xAU xAL xAW xAR xListZ).2.1, .int .i64 (rplR xAU xAL xAW xAR xListZ).2.2.1, .slice h0A (rplR xAU xAL xAW xAR xListZ).2.2.2.1.length h0C] 38)).cell? ⟨v25.heap.size, 2, none⟩ = some (.int .i64 (rplR xAU xAL xAW xAR xListZ).2.2.1) := by go_simp
  have ch03 : (v25.alloc (.cells #[.int .i64 (rplR xAU xAL xAW xAR xListZ).1, .int .i64 (rplR xAU xAL xAW xAR xListZ).2.1, .int .i64 (rplR xAU xAL xAW xAR xListZ).2.2.1, .slice h0A (rplR xAU xAL xAW xAR xListZ).2.2.2.1.length h0C] 38)).cell? ⟨v25.heap.size, 3, none⟩ = some (.slice h0A (rplR xAU xAL xAW xAR xListZ).2.2.2.1.length h0C) := by go_simp
  have q41 : abaEqB (rplR xAU xAL xAW xAR xListZ).1 (rplR xAU xAL xAW xAR xListZ).2.1 (rplR xAU xAL xAW xAR xListZ).2.2.1 (rplR xAU xAL xAW xAR xListZ).1 (rplR xAU xAL xAW xAR xListZ).2.1 (rplR xAU xAL xAW xAR xListZ).2.2.1 (rplR xAU xAL xAW xAR xListZ).2.2.2.1 (rplR xAU xAL xAW xAR xListZ).2.2.2.1 = true := abaEqB_self _ _ _ _
  go_wp2_with fail
  obtain ⟨v26, hu⟩ : ∃ u, u = (v25.alloc (.cells #[.int .i64 (rplR xAU xAL xAW xAR xListZ).1, .int .i64 (rplR xAU xAL xAW xAR xListZ).2.1, .int .i64 (rplR xAU xAL xAW xAR xListZ).2.2.1, .slice h0A (rplR xAU xAL xAW xAR xListZ).2.2.2.1.length h0C] 38)) := ⟨_, rfl⟩
  have s42 : Hid (v25.heap.size + 1 ≤ v26.heap.size) := Lib.hid (by rw [hu]; simp)
  rw [← hu] at cxA0 cxA1 cxA2 cxA3 cw00 cw01 cw02 cw03 cx00 cx01 cx02 cx03 cg00 cg01 cg02 cg03 ch00 ch01 ch02 ch03 ow0 ot10 ot14 og0 oh0 hbel ⊢
  clear hu
  refine (eqAbacus_any (rplR xAU xAL xAW xAR xListZ).1 (rplR xAU xAL xAW xAR xListZ).2.1 (rplR xAU xAL xAW xAR xListZ).2.2.1 (rplR xAU xAL xAW xAR xListZ).1 (rplR xAU xAL xAW xAR xListZ).2.1 (rplR xAU xAL xAW xAR xListZ).2.2.1 h0A w0A h0C w0C (rplR xAU xAL xAW xAR xListZ).2.2.2.1 (rplR xAU xAL xAW xAR xListZ).2.2.2.1 v26 oh0.rd ow0.rd).mono ?_
  rintro e v27 ⟨rfl, hb⟩
  have s43 : Hid (v26.heap.size ≤ v27.heap.size) := Lib.hid hb.size
  replace cxA0 := kept hb cxA0
  replace cxA1 := kept hb cxA1
  replace cxA2 := kept hb cxA2
  replace cxA3 := kept hb cxA3
  replace cw00 := kept hb cw00
  replace cw01 := kept hb cw01
  replace cw02 := kept hb cw02
  replace cw03 := kept hb cw03
  replace cx00 := kept hb cx00
  replace cx01 := kept hb cx01
  replace cx02 := kept hb cx02
  replace cx03 := kept hb cx03
  replace cg00 := kept hb cg00
  replace cg01 := kept hb cg01
  replace cg02 := kept hb cg02
  replace cg03 := kept hb cg03
  replace ch00 := kept hb ch00
  replace ch01 := kept hb ch01
  replace ch02 := kept hb ch02
  replace ch03 := kept hb ch03
  replace ow0 := ow0.below hb
  replace ot10 := ot10.below hb
  replace ot14 := ot14.below hb
  replace og0 := og0.below hb
  replace oh0 := oh0.below hb
  replace hbel := hbel.trans (hb.mono hbel.size)
  clear hb
  go_wp2_with fail
  refine (heldAbacus_any (rplR xAU xAL xAW xAR xListZ).1 (rplR xAU xAL xAW xAR xListZ).2.1 (rplR xAU xAL xAW xAR xListZ).2.2.1 g0A g0C 1 (rplR xAU xAL xAW xAR xListZ).2.2.2.1.length v27 og0.rd (by have := ow0.len; have := ot10.len; have := ot14.len; have := og0.len; have := oh0.len; have := hxA.len; have := hxList.len; omega) (by have := ow0.len; have := ot10.len; have := ot14.len; have := og0.len; have := oh0.len; have := hxA.len; have := hxList.len; omega)).mono ?_
  rintro e v28 ⟨rfl, hb⟩
  have s44 : Hid (v27.heap.size ≤ v28.heap.size) := Lib.hid hb.size
  replace cxA0 := kept hb cxA0
  replace cxA1 := kept hb cxA1
  replace cxA2 := kept hb cxA2
  replace cxA3 := kept hb cxA3
  replace cw00 := kept hb cw00
  replace cw01 := kept hb cw01
  replace cw02 := kept hb cw02
  replace cw03 := kept hb cw03
  replace cx00 := kept hb cx00
  replace cx01 := kept hb cx01
  replace cx02 := kept hb cx02
  replace cx03 := kept hb cx03
  replace cg00 := kept hb cg00
  replace cg01 := kept hb cg01
  replace cg02 := kept hb cg02
  replace cg03 := kept hb cg03
  replace ch00 := kept hb ch00
  replace ch01 := kept hb ch01
  replace ch02 := kept hb ch02
  replace ch03 := kept hb ch03
  replace ow0 := ow0.below hb
  replace ot10 := ot10.below hb
  replace ot14 := ot14.below hb
  replace og0 := og0.below hb
  replace oh0 := oh0.below hb
  replace hbel := hbel.trans (hb.mono hbel.size)
  clear hb
  go_wp2
  go_ret
  exact ⟨rfl, hbel⟩

set_option maxRecDepth 100000 in
theorem lifted (os : Os) (started : os.Started) (H : Type) (enc : TypeId × Value → H) :
    ReturnsInHanded {} Try.checked os 16 .any (Rows.fnExactReplayBeadsSpec.pre6 enc Try.prog Try.f16 Rows.fnExactReplayBeadsRow.domain false) (Rows.fnExactReplayBeadsSpec.post enc Try.prog Try.f16 false true false false) := by
  refine returnsInHanded_of_change (C := Try.checked) own_knob started (by kernel_rfl) Try.func16
    (ChangeSpec.witness6 (enc := enc) (C := Try.checked) false ⟨#[], #[.agg #[.int .i64 0, .int .i64 0, .int .i64 0, .slice none 0 0], .slice none 0 0], []⟩ 8 (by kernel_rfl) (by kernel_rfl) (by kernel_rfl) (by kernel_rfl)) ?_
  intro W base args ds gs before hval0 hW hcnd _
  have hval : ∀ (j : Nat) t v, Try.f16.params[j]? = some t → args[j]? = some v → Value.okWide Try.prog W .any base t v := hval0
  have hW' := hW
  obtain ⟨p, q, hA0, hV, rfl, hfz, hnd⟩ := hW
  have hA : DataW.TrodAll enc Try.prog W 0 (fun _ => true) true Try.f16.params.toList args.toList ds p := hA0
  rw [Try.params16] at hA hval
  obtain ⟨v0, vs0, d0, ds0, p0, q0, hargs, rfl, rfl, h0, r0⟩ := trodAll_cons hA
  obtain ⟨v1, vs1, d1, ds1, p1, q1, rfl, rfl, rfl, h1, r1⟩ := trodAll_cons r0
  obtain ⟨rfl, rfl, rfl⟩ := trodAll_nil r1
  obtain rfl : args = #[v0, v1] := by cases args; simp_all
  obtain ⟨rfl, rfl⟩ := trodVars_none hV
  have k0 := h0
  have lt0 : ∀ x ∈ p0, x.block < W.heap.size := by obtain ⟨m, hm⟩ := k0; exact DataW.trod_lt m _ _ _ hm
  obtain ⟨xAU, xAL, xAW, xAA, xAC, xAR, rfl, hxA, bxAU, bxAL, bxAW⟩ := open_Abacus (hval 0 73 v0 rfl rfl) h0
  have k1 := h1
  have lt1 : ∀ x ∈ p1, x.block < W.heap.size := by obtain ⟨m, hm⟩ := k1; exact DataW.trod_lt m _ _ _ hm
  obtain ⟨xListA, xListC, xListZ, rfl, hxList⟩ := open_BeadMoveS (hval 1 84 v1 rfl rfl) h1
  clear hA0 hval0
  refine (law_walk xAU xAL xAW xAA xAC xAR xListA xListC xListZ W hxA bxAU bxAL bxAW hxList).mono fun e W' ⟨he, bel⟩ => ?_
  subst he
  exact ⟨_, rfl, _, _, _, [], _, [], hW', trodAll_mk1 (shut_bool Try.underlying4 _), (trodAll_cons_mk (Below.trod laid_out (by kernel_rfl) (of_decide_eq_true (by kernel_rfl)) k0 bel lt0) (trodAll_cons_mk (Below.trod laid_out (by kernel_rfl) (of_decide_eq_true (by kernel_rfl)) k1 bel lt1) trodAll_mk0)), rfl, bel.frame _, fun h => by cases h⟩

set_option maxHeartbeats 20000000 in
theorem closed : joinedFacts Try.prog 16 Try.f16 Rows.fnExactReplayBeadsSpec Rows.fnExactReplayBeadsRow = true := by
  simp only [joinedFacts, Bool.and_eq_true]
  refine ⟨⟨⟨⟨⟨⟨⟨⟨⟨⟨⟨⟨⟨⟨⟨⟨⟨⟨⟨⟨⟨⟨⟨⟨⟨⟨⟨⟨⟨⟨⟨?_, laid_out⟩, fact_maps⟩, ?_⟩, ?_⟩, ?_⟩, fact_stops⟩, ?_⟩, fact_knobs⟩, ?_⟩, ?_⟩, ?_⟩, ?_⟩, ?_⟩, ?_⟩, ?_⟩, ?_⟩, ?_⟩, ?_⟩, ?_⟩, ?_⟩, ?_⟩, fact_plain⟩, ?_⟩, fact_heard⟩, fact_enter⟩, fact_lift⟩, ?_⟩, ?_⟩, ?_⟩, ?_⟩, ?_⟩
  all_goals (as_aux_lemma => kernel_rfl)

theorem over : Rows.fnExactReplayBeadsRow.holds Try.pinned (OpenSpec.ofChange Rows.fnExactReplayBeadsSpec) :=
  OpenClaim.holds_of_wide 16 Try.f16 rfl rfl rfl rfl rfl rfl rfl ⟨rfl, rfl, rfl, rfl, rfl⟩ rfl rfl rfl rfl rfl (by as_aux_lemma => kernel_rfl) Try.func16 closed
    (of_decide_eq_true (by as_aux_lemma => kernel_rfl)) (by unfold Func.isWrapper; rw [if_neg (by decide +kernel)]; exact ⟨rfl, rfl⟩)
    (fun os started H enc _ => lifted os started H enc)

/-- The statement. -/
theorem proved : Rows.FnExactReplayBeadsSaid := over
end Go.Proofs.Ythhphopmkmbmiaa.lawReplayBeads
