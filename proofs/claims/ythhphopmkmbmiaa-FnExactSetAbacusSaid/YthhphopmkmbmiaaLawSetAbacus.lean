/-
  laws.FnExactSetAbacus returns true at every input (no condition), and leaves its arguments as they were.
-/
import Derived.Test.YthhphopmkmbmiaaAbaL
import Derived.Test.YthhphopmkmbmiaaBoxAba
import Derived.Test.YthhphopmkmbmiaaFrameA
import Derived.Test.YthhphopmkmbmiaaAbaU
import Derived.Test.YthhphopmkmbmiaaAbaZ
import Derived.Deep.RegionHeld3
import Derived.Test.YthhphopmkmbmiaaFacts
import Derived.Test.YthhphopmkmbmiaaRows
namespace Go.Proofs.Ythhphopmkmbmiaa.lawSetAbacus
open Go.ChangeShapes Go.WideShapes Go.ChangeAt Go.WideElems Go.RowKit Go.Joins
open Go.ChangeMaps (open_string shut_string)

set_option maxRecDepth 100000 in
set_option maxHeartbeats 4000000 in
theorem law_walk (xAU : Int) (xAL : Int) (xAW : Int) (xAA : Option Addr) (xAC : Nat) (xAR : List (Int × Int)) (xValue : Int) (w : World) (hxA : RawF pairF (fun x => I64 x.1 ∧ I64 x.2) w xAA xAR) (bxAU : I64 xAU) (bxAL : I64 xAL) (bxAW : I64 xAW) (bxValue : I64 xValue) :
    Calls Try.prog 10 #[.agg #[.int .i64 xAU, .int .i64 xAL, .int .i64 xAW, .slice xAA xAR.length xAC], .int .i64 xValue] w fun e w' => e = .returned (.bool true) ∧ Below w.heap.size w w' := by
  have hbel : Below w.heap.size w (w.alloc (.cells #[.int .i64 xAU, .int .i64 xAL, .int .i64 xAW, .slice xAA xAR.length xAC] 73)) := (Below.refl _ _).alloc (by simp) _
  have cxA0 : (w.alloc (.cells #[.int .i64 xAU, .int .i64 xAL, .int .i64 xAW, .slice xAA xAR.length xAC] 73)).cell? ⟨w.heap.size, 0, none⟩ = some (.int .i64 xAU) := by go_simp
  have cxA1 : (w.alloc (.cells #[.int .i64 xAU, .int .i64 xAL, .int .i64 xAW, .slice xAA xAR.length xAC] 73)).cell? ⟨w.heap.size, 1, none⟩ = some (.int .i64 xAL) := by go_simp
  have cxA2 : (w.alloc (.cells #[.int .i64 xAU, .int .i64 xAL, .int .i64 xAW, .slice xAA xAR.length xAC] 73)).cell? ⟨w.heap.size, 2, none⟩ = some (.int .i64 xAW) := by go_simp
  have cxA3 : (w.alloc (.cells #[.int .i64 xAU, .int .i64 xAL, .int .i64 xAW, .slice xAA xAR.length xAC] 73)).cell? ⟨w.heap.size, 3, none⟩ = some (.slice xAA xAR.length xAC) := by go_simp
  go_enter Try.func10, Try.ntmps10
  go_wp2_with fail
  obtain ⟨v1, hu⟩ : ∃ u, u = (w.alloc (.cells #[.int .i64 xAU, .int .i64 xAL, .int .i64 xAW, .slice xAA xAR.length xAC] 73)) := ⟨_, rfl⟩
  have s1 : Hid (w.heap.size + 1 ≤ v1.heap.size) := Lib.hid (by rw [hu]; simp)
  rw [← hu] at cxA0 cxA1 cxA2 cxA3 hbel ⊢
  clear hu
  rcases Int.lt_or_le (leftOf xAR.length 1048576) 0 with k1 | k1
  · refine (szAbacus_any xAU xAL xAW xAA xAR.length xAC 1048576 v1 hxA.len (by omega) (by omega)).mono ?_
    rintro e v2 ⟨rfl, hb⟩
    go_wp2
    go_ret
    exact ⟨rfl, hbel.trans (hb.mono hbel.size)⟩
  have m1 := leftOf_le xAR.length 1048576 (by omega)
  refine (szAbacus_any xAU xAL xAW xAA xAR.length xAC 1048576 v1 hxA.len (by omega) (by omega)).mono ?_
  rintro e v2 ⟨rfl, hb⟩
  have s2 : Hid (v1.heap.size ≤ v2.heap.size) := Lib.hid hb.size
  replace cxA0 := kept hb cxA0
  replace cxA1 := kept hb cxA1
  replace cxA2 := kept hb cxA2
  replace cxA3 := kept hb cxA3
  replace hbel := hbel.trans (hb.mono hbel.size)
  clear hb
  have zxA := hxA.wf
  replace hxA := hxA.rd (by have := leftOf_len k1; omega)
  go_wp2_with fail
  refine (toAbacus_any xAU xAL xAW xAA xAC xAR v2 (hxA.below hbel)).mono ?_
  rintro e v3 ⟨t3A, t3C, rfl, ot3, hb⟩
  have s4 : Hid (v2.heap.size ≤ v3.heap.size) := Lib.hid hb.size
  replace cxA0 := kept hb cxA0
  replace cxA1 := kept hb cxA1
  replace cxA2 := kept hb cxA2
  replace cxA3 := kept hb cxA3
  replace hbel := hbel.trans (hb.mono hbel.size)
  clear hb
  go_wp2_with fail
  refine (specSetAbacus xAU xAL xAW t3A t3C xAR xValue v3 ot3.rd bxAU bxAL bxAW zxA bxValue).mono ?_
  rintro e v4 ⟨w0A, w0C, rfl, ow0, hb⟩
  have s5 : Hid (v3.heap.size ≤ v4.heap.size) := Lib.hid hb.size
  replace cxA0 := kept hb cxA0
  replace cxA1 := kept hb cxA1
  replace cxA2 := kept hb cxA2
  replace cxA3 := kept hb cxA3
  replace ot3 := ot3.below hb
  replace hbel := hbel.trans (hb.mono hbel.size)
  clear hb
  clear ot3
  have ha6 : Below v4.heap.size v4 (v4.alloc (.cells #[.int .i64 (setR xAU xAL xAW xAR xValue).1, .int .i64 (setR xAU xAL xAW xAR xValue).2.1, .int .i64 (setR xAU xAL xAW xAR xValue).2.2.1, .slice w0A (setR xAU xAL xAW xAR xValue).2.2.2.1.length w0C] 38)) := (Below.refl _ _).alloc (by simp) _
  replace cxA0 := kept ha6 cxA0
  replace cxA1 := kept ha6 cxA1
  replace cxA2 := kept ha6 cxA2
  replace cxA3 := kept ha6 cxA3
  replace ow0 := ow0.below ha6
  replace hbel := hbel.trans (ha6.mono hbel.size)
  clear ha6
  have cw00 : (v4.alloc (.cells #[.int .i64 (setR xAU xAL xAW xAR xValue).1, .int .i64 (setR xAU xAL xAW xAR xValue).2.1, .int .i64 (setR xAU xAL xAW xAR xValue).2.2.1, .slice w0A (setR xAU xAL xAW xAR xValue).2.2.2.1.length w0C] 38)).cell? ⟨v4.heap.size, 0, none⟩ = some (.int .i64 (setR xAU xAL xAW xAR xValue).1) := by go_simp
  have cw01 : (v4.alloc (.cells #[.int .i64 (setR xAU xAL xAW xAR xValue).1, .int .i64 (setR xAU xAL xAW xAR xValue).2.1, .int .i64 (setR xAU xAL xAW xAR xValue).2.2.1, .slice w0A (setR xAU xAL xAW xAR xValue).2.2.2.1.length w0C] 38)).cell? ⟨v4.heap.size, 1, none⟩ = some (.int .i64 (setR xAU xAL xAW xAR xValue).2.1) := by go_simp
  have cw02 : (v4.alloc (.cells #[.int .i64 (setR xAU xAL xAW xAR xValue).1, .int .i64 (setR xAU xAL xAW xAR xValue).2.1, .int .i64 (setR xAU xAL xAW xAR xValue).2.2.1, .slice w0A (setR xAU xAL xAW xAR xValue).2.2.2.1.length w0C] 38)).cell? ⟨v4.heap.size, 2, none⟩ = some (.int .i64 (setR xAU xAL xAW xAR xValue).2.2.1) := by go_simp
  have cw03 : (v4.alloc (.cells #[.int .i64 (setR xAU xAL xAW xAR xValue).1, .int .i64 (setR xAU xAL xAW xAR xValue).2.1, .int .i64 (setR xAU xAL xAW xAR xValue).2.2.1, .slice w0A (setR xAU xAL xAW xAR xValue).2.2.2.1.length w0C] 38)).cell? ⟨v4.heap.size, 3, none⟩ = some (.slice w0A (setR xAU xAL xAW xAR xValue).2.2.2.1.length w0C) := by go_simp
  go_wp2_with fail
  obtain ⟨v5, hu⟩ : ∃ u, u = (v4.alloc (.cells #[.int .i64 (setR xAU xAL xAW xAR xValue).1, .int .i64 (setR xAU xAL xAW xAR xValue).2.1, .int .i64 (setR xAU xAL xAW xAR xValue).2.2.1, .slice w0A (setR xAU xAL xAW xAR xValue).2.2.2.1.length w0C] 38)) := ⟨_, rfl⟩
  have s8 : Hid (v4.heap.size + 1 ≤ v5.heap.size) := Lib.hid (by rw [hu]; simp)
  rw [← hu] at cxA0 cxA1 cxA2 cxA3 cw00 cw01 cw02 cw03 ow0 hbel ⊢
  clear hu
  refine (toAbacus_any xAU xAL xAW xAA xAC xAR v5 (hxA.below hbel)).mono ?_
  rintro e v6 ⟨t7A, t7C, rfl, ot7, hb⟩
  have s9 : Hid (v5.heap.size ≤ v6.heap.size) := Lib.hid hb.size
  replace cxA0 := kept hb cxA0
  replace cxA1 := kept hb cxA1
  replace cxA2 := kept hb cxA2
  replace cxA3 := kept hb cxA3
  replace cw00 := kept hb cw00
  replace cw01 := kept hb cw01
  replace cw02 := kept hb cw02
  replace cw03 := kept hb cw03
  replace ow0 := ow0.below hb
  replace hbel := hbel.trans (hb.mono hbel.size)
  clear hb
  have ha10 : Below v6.heap.size v6 (v6.alloc (.cells #[.int .i64 xAU, .int .i64 xAL, .int .i64 xAW, .slice t7A xAR.length t7C] 38)) := (Below.refl _ _).alloc (by simp) _
  replace cxA0 := kept ha10 cxA0
  replace cxA1 := kept ha10 cxA1
  replace cxA2 := kept ha10 cxA2
  replace cxA3 := kept ha10 cxA3
  replace cw00 := kept ha10 cw00
  replace cw01 := kept ha10 cw01
  replace cw02 := kept ha10 cw02
  replace cw03 := kept ha10 cw03
  replace ow0 := ow0.below ha10
  replace ot7 := ot7.below ha10
  replace hbel := hbel.trans (ha10.mono hbel.size)
  clear ha10
  have cx00 : (v6.alloc (.cells #[.int .i64 xAU, .int .i64 xAL, .int .i64 xAW, .slice t7A xAR.length t7C] 38)).cell? ⟨v6.heap.size, 0, none⟩ = some (.int .i64 xAU) := by go_simp
  have cx01 : (v6.alloc (.cells #[.int .i64 xAU, .int .i64 xAL, .int .i64 xAW, .slice t7A xAR.length t7C] 38)).cell? ⟨v6.heap.size, 1, none⟩ = some (.int .i64 xAL) := by go_simp
  have cx02 : (v6.alloc (.cells #[.int .i64 xAU, .int .i64 xAL, .int .i64 xAW, .slice t7A xAR.length t7C] 38)).cell? ⟨v6.heap.size, 2, none⟩ = some (.int .i64 xAW) := by go_simp
  have cx03 : (v6.alloc (.cells #[.int .i64 xAU, .int .i64 xAL, .int .i64 xAW, .slice t7A xAR.length t7C] 38)).cell? ⟨v6.heap.size, 3, none⟩ = some (.slice t7A xAR.length t7C) := by go_simp
  go_wp2_with fail
  obtain ⟨v7, hu⟩ : ∃ u, u = (v6.alloc (.cells #[.int .i64 xAU, .int .i64 xAL, .int .i64 xAW, .slice t7A xAR.length t7C] 38)) := ⟨_, rfl⟩
  have s11 : Hid (v6.heap.size + 1 ≤ v7.heap.size) := Lib.hid (by rw [hu]; simp)
  rw [← hu] at cxA0 cxA1 cxA2 cxA3 cw00 cw01 cw02 cw03 cx00 cx01 cx02 cx03 ow0 ot7 hbel ⊢
  clear hu
  refine (implSetAbacus xAU xAL xAW t7A t7C xAR xValue v7 ot7.rd bxAU bxAL bxAW zxA bxValue).mono ?_
  rintro e v8 ⟨g0A, g0C, rfl, og0, hb⟩
  have s12 : Hid (v7.heap.size ≤ v8.heap.size) := Lib.hid hb.size
  replace cxA0 := kept hb cxA0
  replace cxA1 := kept hb cxA1
  replace cxA2 := kept hb cxA2
  replace cxA3 := kept hb cxA3
  replace cw00 := kept hb cw00
  replace cw01 := kept hb cw01
  replace cw02 := kept hb cw02
  replace cw03 := kept hb cw03
  replace cx00 := kept hb cx00
  replace cx01 := kept hb cx01
  replace cx02 := kept hb cx02
  replace cx03 := kept hb cx03
  replace ow0 := ow0.below hb
  replace ot7 := ot7.below hb
  replace hbel := hbel.trans (hb.mono hbel.size)
  clear hb
  have ha13 : Below v8.heap.size v8 (v8.alloc (.cells #[.int .i64 (setR xAU xAL xAW xAR xValue).1, .int .i64 (setR xAU xAL xAW xAR xValue).2.1, .int .i64 (setR xAU xAL xAW xAR xValue).2.2.1, .slice g0A (setR xAU xAL xAW xAR xValue).2.2.2.1.length g0C] 38)) := (Below.refl _ _).alloc (by simp) _
  replace cxA0 := kept ha13 cxA0
  replace cxA1 := kept ha13 cxA1
  replace cxA2 := kept ha13 cxA2
  replace cxA3 := kept ha13 cxA3
  replace cw00 := kept ha13 cw00
  replace cw01 := kept ha13 cw01
  replace cw02 := kept ha13 cw02
  replace cw03 := kept ha13 cw03
  replace cx00 := kept ha13 cx00
  replace cx01 := kept ha13 cx01
  replace cx02 := kept ha13 cx02
  replace cx03 := kept ha13 cx03
  replace ow0 := ow0.below ha13
  replace ot7 := ot7.below ha13
  replace og0 := og0.below ha13
  replace hbel := hbel.trans (ha13.mono hbel.size)
  clear ha13
  have cg00 : (v8.alloc (.cells #[.int .i64 (setR xAU xAL xAW xAR xValue).1, .int .i64 (setR xAU xAL xAW xAR xValue).2.1, .int .i64 (setR xAU xAL xAW xAR xValue).2.2.1, .slice g0A (setR xAU xAL xAW xAR xValue).2.2.2.1.length g0C] 38)).cell? ⟨v8.heap.size, 0, none⟩ = some (.int .i64 (setR xAU xAL xAW xAR xValue).1) := by go_simp
  have cg01 : (v8.alloc (.cells #[.int .i64 (setR xAU xAL xAW xAR xValue).1, .int .i64 (setR xAU xAL xAW xAR xValue).2.1, .int .i64 (setR xAU xAL xAW xAR xValue).2.2.1, .slice g0A (setR xAU xAL xAW xAR xValue).2.2.2.1.length g0C] 38)).cell? ⟨v8.heap.size, 1, none⟩ = some (.int .i64 (setR xAU xAL xAW xAR xValue).2.1) := by go_simp
  have cg02 : (v8.alloc (.cells #[.int .i64 (setR xAU xAL xAW xAR xValue).1, .int .i64 (setR xAU xAL xAW xAR xValue).2.1, .int .i64 (setR xAU xAL xAW xAR xValue).2.2.1, .slice g0A (setR xAU xAL xAW xAR xValue).2.2.2.1.length g0C] 38)).cell? ⟨v8.heap.size, 2, none⟩ = some (.int .i64 (setR xAU xAL xAW xAR xValue).2.2.1) := by go_simp
  have cg03 : (v8.alloc (.cells #[.int .i64 (setR xAU xAL xAW xAR xValue).1, .int .i64 (setR xAU xAL xAW xAR xValue).2.1, .int .i64 (setR xAU xAL xAW xAR xValue).2.2.1, .slice g0A (setR xAU xAL xAW xAR xValue).2.2.2.1.length g0C] 38)).cell? ⟨v8.heap.size, 3, none⟩ = some (.slice g0A (setR xAU xAL xAW xAR xValue).2.2.2.1.length g0C) := by go_simp
  have q14 : abaEqB (setR xAU xAL xAW xAR xValue).1 (setR xAU xAL xAW xAR xValue).2.1 (setR xAU xAL xAW xAR xValue).2.2.1 (setR xAU xAL xAW xAR xValue).1 (setR xAU xAL xAW xAR xValue).2.1 (setR xAU xAL xAW xAR xValue).2.2.1 (setR xAU xAL xAW xAR xValue).2.2.2.1 (setR xAU xAL xAW xAR xValue).2.2.2.1 = true := abaEqB_self _ _ _ _
  go_wp2_with fail
  obtain ⟨v9, hu⟩ : ∃ u, u = (v8.alloc (.cells #[.int .i64 (setR xAU xAL xAW xAR xValue).1, .int .i64 (setR xAU xAL xAW xAR xValue).2.1, .int .i64 (setR xAU xAL xAW xAR xValue).2.2.1, .slice g0A (setR xAU xAL xAW xAR xValue).2.2.2.1.length g0C] 38)) := ⟨_, rfl⟩
  have s15 : Hid (v8.heap.size + 1 ≤ v9.heap.size) := Lib.hid (by rw [hu]; simp)
  rw [← hu] at cxA0 cxA1 cxA2 cxA3 cw00 cw01 cw02 cw03 cx00 cx01 cx02 cx03 cg00 cg01 cg02 cg03 ow0 ot7 og0 hbel ⊢
  clear hu
  refine (eqAbacus_any (setR xAU xAL xAW xAR xValue).1 (setR xAU xAL xAW xAR xValue).2.1 (setR xAU xAL xAW xAR xValue).2.2.1 (setR xAU xAL xAW xAR xValue).1 (setR xAU xAL xAW xAR xValue).2.1 (setR xAU xAL xAW xAR xValue).2.2.1 g0A w0A g0C w0C (setR xAU xAL xAW xAR xValue).2.2.2.1 (setR xAU xAL xAW xAR xValue).2.2.2.1 v9 og0.rd ow0.rd).mono ?_
  rintro e v10 ⟨rfl, hb⟩
  have s16 : Hid (v9.heap.size ≤ v10.heap.size) := Lib.hid hb.size
  replace cxA0 := kept hb cxA0
  replace cxA1 := kept hb cxA1
  replace cxA2 := kept hb cxA2
  replace cxA3 := kept hb cxA3
  replace cw00 := kept hb cw00
  replace cw01 := kept hb cw01
  replace cw02 := kept hb cw02
  replace cw03 := kept hb cw03
  replace cx00 := kept hb cx00
  replace cx01 := kept hb cx01
  replace cx02 := kept hb cx02
  replace cx03 := kept hb cx03
  replace cg00 := kept hb cg00
  replace cg01 := kept hb cg01
  replace cg02 := kept hb cg02
  replace cg03 := kept hb cg03
  replace ow0 := ow0.below hb
  replace ot7 := ot7.below hb
  replace og0 := og0.below hb
  replace hbel := hbel.trans (hb.mono hbel.size)
  clear hb
  have q17 : abaEqB xAU xAL xAW xAU xAL xAW xAR xAR = true := abaEqB_self _ _ _ _
  go_wp2_with fail
  have rcxA0 := kept_all cxA0
  have rcxA1 := kept_all cxA1
  have rcxA2 := kept_all cxA2
  have rcxA3 := kept_all cxA3
  have rcw00 := kept_all cw00
  have rcw01 := kept_all cw01
  have rcw02 := kept_all cw02
  have rcw03 := kept_all cw03
  have rcx00 := kept_all cx00
  have rcx01 := kept_all cx01
  have rcx02 := kept_all cx02
  have rcx03 := kept_all cx03
  have rcg00 := kept_all cg00
  have rcg01 := kept_all cg01
  have rcg02 := kept_all cg02
  have rcg03 := kept_all cg03
  go_region_held3 (fun w' => Below v10.heap.size v10 w') (first | exact hk | exact (Below.refl _ _).drew | exact hk.alloc hk.size _ | exact (hk.alloc hk.size _).setCell hk.size _)
    (first | (go_at_call 64; have qB := ‹Below v10.heap.size v10 _›; ((with_reducible refine (toAbacus_any xAU xAL xAW xAA xAC xAR _ (hxA.below (hbel.trans (qB.mono hbel.size)))).mono ?_)); rintro e v12 ⟨t18A, t18C, rfl, ot18, hb⟩; have hk := qB.trans (hb.mono qB.size)) | (go_at_call 65; have qB := ‹Below v10.heap.size v10 _›; refine (eqAbacus_any xAU xAL xAW xAU xAL xAW t7A t18A t7C t18C xAR xAR _ (ot7.below qB).rd (by first | exact ot18.rd | exact (ot18.alloc _).rd)).mono ?_; rintro e v11 ⟨rfl, hb⟩; have hk := qB.trans (hb.mono qB.size)))
  have hb : Below v10.heap.size v10 v11 := by assumption
  clear rcxA0 rcxA1 rcxA2 rcxA3 rcw00 rcw01 rcw02 rcw03 rcx00 rcx01 rcx02 rcx03 rcg00 rcg01 rcg02 rcg03
  clear ot18
  have s19 : Hid (v10.heap.size ≤ v11.heap.size) := Lib.hid hb.size
  replace cxA0 := kept hb cxA0
  replace cxA1 := kept hb cxA1
  replace cxA2 := kept hb cxA2
  replace cxA3 := kept hb cxA3
  replace cw00 := kept hb cw00
  replace cw01 := kept hb cw01
  replace cw02 := kept hb cw02
  replace cw03 := kept hb cw03
  replace cx00 := kept hb cx00
  replace cx01 := kept hb cx01
  replace cx02 := kept hb cx02
  replace cx03 := kept hb cx03
  replace cg00 := kept hb cg00
  replace cg01 := kept hb cg01
  replace cg02 := kept hb cg02
  replace cg03 := kept hb cg03
  replace ow0 := ow0.below hb
  replace ot7 := ot7.below hb
  replace og0 := og0.below hb
  replace hbel := hbel.trans (hb.mono hbel.size)
  clear hb
  go_wp2_with fail
  refine (markAbacus_any _ _ _ xAU xAL xAW t7A t7C 1 xAR v11 ot7 (by have := ow0.len; have := ot7.len; have := og0.len; have := hxA.len; omega) (by have := ow0.len; have := ot7.len; have := og0.len; have := hxA.len; omega)).mono ?_
  rintro e v13 ⟨rfl, om, ht⟩
  have s20 : Hid (v11.heap.size ≤ v13.heap.size) := Lib.hid ht.size
  clear ot7
  have ot7 := om
  clear om
  replace cxA0 := keptT ht cxA0 (by have := s1.out; have := s2.out; have := s4.out; have := s5.out; have := s8.out; have := s9.out; have := s11.out; have := s12.out; have := s15.out; have := s16.out; have := s19.out; have := s20.out; omega)
  replace cxA1 := keptT ht cxA1 (by have := s1.out; have := s2.out; have := s4.out; have := s5.out; have := s8.out; have := s9.out; have := s11.out; have := s12.out; have := s15.out; have := s16.out; have := s19.out; have := s20.out; omega)
  replace cxA2 := keptT ht cxA2 (by have := s1.out; have := s2.out; have := s4.out; have := s5.out; have := s8.out; have := s9.out; have := s11.out; have := s12.out; have := s15.out; have := s16.out; have := s19.out; have := s20.out; omega)
  replace cxA3 := keptT ht cxA3 (by have := s1.out; have := s2.out; have := s4.out; have := s5.out; have := s8.out; have := s9.out; have := s11.out; have := s12.out; have := s15.out; have := s16.out; have := s19.out; have := s20.out; omega)
  replace cw00 := keptT ht cw00 (by have := s1.out; have := s2.out; have := s4.out; have := s5.out; have := s8.out; have := s9.out; have := s11.out; have := s12.out; have := s15.out; have := s16.out; have := s19.out; have := s20.out; omega)
  replace cw01 := keptT ht cw01 (by have := s1.out; have := s2.out; have := s4.out; have := s5.out; have := s8.out; have := s9.out; have := s11.out; have := s12.out; have := s15.out; have := s16.out; have := s19.out; have := s20.out; omega)
  replace cw02 := keptT ht cw02 (by have := s1.out; have := s2.out; have := s4.out; have := s5.out; have := s8.out; have := s9.out; have := s11.out; have := s12.out; have := s15.out; have := s16.out; have := s19.out; have := s20.out; omega)
  replace cw03 := keptT ht cw03 (by have := s1.out; have := s2.out; have := s4.out; have := s5.out; have := s8.out; have := s9.out; have := s11.out; have := s12.out; have := s15.out; have := s16.out; have := s19.out; have := s20.out; omega)
  replace cx00 := keptT ht cx00 (by have := s1.out; have := s2.out; have := s4.out; have := s5.out; have := s8.out; have := s9.out; have := s11.out; have := s12.out; have := s15.out; have := s16.out; have := s19.out; have := s20.out; omega)
  replace cx01 := keptT ht cx01 (by have := s1.out; have := s2.out; have := s4.out; have := s5.out; have := s8.out; have := s9.out; have := s11.out; have := s12.out; have := s15.out; have := s16.out; have := s19.out; have := s20.out; omega)
  replace cx02 := keptT ht cx02 (by have := s1.out; have := s2.out; have := s4.out; have := s5.out; have := s8.out; have := s9.out; have := s11.out; have := s12.out; have := s15.out; have := s16.out; have := s19.out; have := s20.out; omega)
  replace cx03 := keptT ht cx03 (by have := s1.out; have := s2.out; have := s4.out; have := s5.out; have := s8.out; have := s9.out; have := s11.out; have := s12.out; have := s15.out; have := s16.out; have := s19.out; have := s20.out; omega)
  replace cg00 := keptT ht cg00 (by have := s1.out; have := s2.out; have := s4.out; have := s5.out; have := s8.out; have := s9.out; have := s11.out; have := s12.out; have := s15.out; have := s16.out; have := s19.out; have := s20.out; omega)
  replace cg01 := keptT ht cg01 (by have := s1.out; have := s2.out; have := s4.out; have := s5.out; have := s8.out; have := s9.out; have := s11.out; have := s12.out; have := s15.out; have := s16.out; have := s19.out; have := s20.out; omega)
  replace cg02 := keptT ht cg02 (by have := s1.out; have := s2.out; have := s4.out; have := s5.out; have := s8.out; have := s9.out; have := s11.out; have := s12.out; have := s15.out; have := s16.out; have := s19.out; have := s20.out; omega)
  replace cg03 := keptT ht cg03 (by have := s1.out; have := s2.out; have := s4.out; have := s5.out; have := s8.out; have := s9.out; have := s11.out; have := s12.out; have := s15.out; have := s16.out; have := s19.out; have := s20.out; omega)
  replace ow0 := ow0.touch ht (by have := s1.out; have := s2.out; have := s4.out; have := s5.out; have := s8.out; have := s9.out; have := s11.out; have := s12.out; have := s15.out; have := s16.out; have := s19.out; have := s20.out; omega)
  replace og0 := og0.touch ht (by have := s1.out; have := s2.out; have := s4.out; have := s5.out; have := s8.out; have := s9.out; have := s11.out; have := s12.out; have := s15.out; have := s16.out; have := s19.out; have := s20.out; omega)
  replace hbel := hbel.trans (ht.below (by have := s1.out; have := s2.out; have := s4.out; have := s5.out; have := s8.out; have := s9.out; have := s11.out; have := s12.out; have := s15.out; have := s16.out; have := s19.out; have := s20.out; omega) hbel.size)
  clear ht
  have q21 : abaEqB (setR xAU xAL xAW xAR xValue).1 (setR xAU xAL xAW xAR xValue).2.1 (setR xAU xAL xAW xAR xValue).2.2.1 (setR xAU xAL xAW xAR xValue).1 (setR xAU xAL xAW xAR xValue).2.1 (setR xAU xAL xAW xAR xValue).2.2.1 (setR xAU xAL xAW xAR xValue).2.2.2.1 (setR xAU xAL xAW xAR xValue).2.2.2.1 = true := abaEqB_self _ _ _ _
  go_wp2_with fail
  refine (eqAbacus_any (setR xAU xAL xAW xAR xValue).1 (setR xAU xAL xAW xAR xValue).2.1 (setR xAU xAL xAW xAR xValue).2.2.1 (setR xAU xAL xAW xAR xValue).1 (setR xAU xAL xAW xAR xValue).2.1 (setR xAU xAL xAW xAR xValue).2.2.1 g0A w0A g0C w0C (setR xAU xAL xAW xAR xValue).2.2.2.1 (setR xAU xAL xAW xAR xValue).2.2.2.1 v13 og0.rd ow0.rd).mono ?_
  rintro e v14 ⟨rfl, hb⟩
  have s22 : Hid (v13.heap.size ≤ v14.heap.size) := Lib.hid hb.size
  replace cxA0 := kept hb cxA0
  replace cxA1 := kept hb cxA1
  replace cxA2 := kept hb cxA2
  replace cxA3 := kept hb cxA3
  replace cw00 := kept hb cw00
  replace cw01 := kept hb cw01
  replace cw02 := kept hb cw02
  replace cw03 := kept hb cw03
  replace cx00 := kept hb cx00
  replace cx01 := kept hb cx01
  replace cx02 := kept hb cx02
  replace cx03 := kept hb cx03
  replace cg00 := kept hb cg00
  replace cg01 := kept hb cg01
  replace cg02 := kept hb cg02
  replace cg03 := kept hb cg03
  replace ow0 := ow0.below hb
  replace ot7 := ot7.below hb
  replace og0 := og0.below hb
  replace hbel := hbel.trans (hb.mono hbel.size)
  clear hb
  go_wp2_with fail
  refine (markAbacus_any _ _ _ (setR xAU xAL xAW xAR xValue).1 (setR xAU xAL xAW xAR xValue).2.1 (setR xAU xAL xAW xAR xValue).2.2.1 g0A g0C 1 (setR xAU xAL xAW xAR xValue).2.2.2.1 v14 og0 (by have := ow0.len; have := ot7.len; have := og0.len; have := hxA.len; omega) (by have := ow0.len; have := ot7.len; have := og0.len; have := hxA.len; omega)).mono ?_
  rintro e v15 ⟨rfl, om, ht⟩
  have s23 : Hid (v14.heap.size ≤ v15.heap.size) := Lib.hid ht.size
  clear og0
  have og0 := om
  clear om
  replace cxA0 := keptT ht cxA0 (by have := s1.out; have := s2.out; have := s4.out; have := s5.out; have := s8.out; have := s9.out; have := s11.out; have := s12.out; have := s15.out; have := s16.out; have := s19.out; have := s20.out; have := s22.out; have := s23.out; omega)
  replace cxA1 := keptT ht cxA1 (by have := s1.out; have := s2.out; have := s4.out; have := s5.out; have := s8.out; have := s9.out; have := s11.out; have := s12.out; have := s15.out; have := s16.out; have := s19.out; have := s20.out; have := s22.out; have := s23.out; omega)
  replace cxA2 := keptT ht cxA2 (by have := s1.out; have := s2.out; have := s4.out; have := s5.out; have := s8.out; have := s9.out; have := s11.out; have := s12.out; have := s15.out; have := s16.out; have := s19.out; have := s20.out; have := s22.out; have := s23.out; omega)
  replace cxA3 := keptT ht cxA3 (by have := s1.out; have := s2.out; have := s4.out; have := s5.out; have := s8.out; have := s9.out; have := s11.out; have := s12.out; have := s15.out; have := s16.out; have := s19.out; have := s20.out; have := s22.out; have := s23.out; omega)
  replace cw00 := keptT ht cw00 (by have := s1.out; have := s2.out; have := s4.out; have := s5.out; have := s8.out; have := s9.out; have := s11.out; have := s12.out; have := s15.out; have := s16.out; have := s19.out; have := s20.out; have := s22.out; have := s23.out; omega)
  replace cw01 := keptT ht cw01 (by have := s1.out; have := s2.out; have := s4.out; have := s5.out; have := s8.out; have := s9.out; have := s11.out; have := s12.out; have := s15.out; have := s16.out; have := s19.out; have := s20.out; have := s22.out; have := s23.out; omega)
  replace cw02 := keptT ht cw02 (by have := s1.out; have := s2.out; have := s4.out; have := s5.out; have := s8.out; have := s9.out; have := s11.out; have := s12.out; have := s15.out; have := s16.out; have := s19.out; have := s20.out; have := s22.out; have := s23.out; omega)
  replace cw03 := keptT ht cw03 (by have := s1.out; have := s2.out; have := s4.out; have := s5.out; have := s8.out; have := s9.out; have := s11.out; have := s12.out; have := s15.out; have := s16.out; have := s19.out; have := s20.out; have := s22.out; have := s23.out; omega)
  replace cx00 := keptT ht cx00 (by have := s1.out; have := s2.out; have := s4.out; have := s5.out; have := s8.out; have := s9.out; have := s11.out; have := s12.out; have := s15.out; have := s16.out; have := s19.out; have := s20.out; have := s22.out; have := s23.out; omega)
  replace cx01 := keptT ht cx01 (by have := s1.out; have := s2.out; have := s4.out; have := s5.out; have := s8.out; have := s9.out; have := s11.out; have := s12.out; have := s15.out; have := s16.out; have := s19.out; have := s20.out; have := s22.out; have := s23.out; omega)
  replace cx02 := keptT ht cx02 (by have := s1.out; have := s2.out; have := s4.out; have := s5.out; have := s8.out; have := s9.out; have := s11.out; have := s12.out; have := s15.out; have := s16.out; have := s19.out; have := s20.out; have := s22.out; have := s23.out; omega)
  replace cx03 := keptT ht cx03 (by have := s1.out; have := s2.out; have := s4.out; have := s5.out; have := s8.out; have := s9.out; have := s11.out; have := s12.out; have := s15.out; have := s16.out; have := s19.out; have := s20.out; have := s22.out; have := s23.out; omega)
  replace cg00 := keptT ht cg00 (by have := s1.out; have := s2.out; have := s4.out; have := s5.out; have := s8.out; have := s9.out; have := s11.out; have := s12.out; have := s15.out; have := s16.out; have := s19.out; have := s20.out; have := s22.out; have := s23.out; omega)
  replace cg01 := keptT ht cg01 (by have := s1.out; have := s2.out; have := s4.out; have := s5.out; have := s8.out; have := s9.out; have := s11.out; have := s12.out; have := s15.out; have := s16.out; have := s19.out; have := s20.out; have := s22.out; have := s23.out; omega)
  replace cg02 := keptT ht cg02 (by have := s1.out; have := s2.out; have := s4.out; have := s5.out; have := s8.out; have := s9.out; have := s11.out; have := s12.out; have := s15.out; have := s16.out; have := s19.out; have := s20.out; have := s22.out; have := s23.out; omega)
  replace cg03 := keptT ht cg03 (by have := s1.out; have := s2.out; have := s4.out; have := s5.out; have := s8.out; have := s9.out; have := s11.out; have := s12.out; have := s15.out; have := s16.out; have := s19.out; have := s20.out; have := s22.out; have := s23.out; omega)
  replace ow0 := ow0.touch ht (by have := s1.out; have := s2.out; have := s4.out; have := s5.out; have := s8.out; have := s9.out; have := s11.out; have := s12.out; have := s15.out; have := s16.out; have := s19.out; have := s20.out; have := s22.out; have := s23.out; omega)
  replace ot7 := ot7.touch ht (by have := s1.out; have := s2.out; have := s4.out; have := s5.out; have := s8.out; have := s9.out; have := s11.out; have := s12.out; have := s15.out; have := s16.out; have := s19.out; have := s20.out; have := s22.out; have := s23.out; omega)
  replace hbel := hbel.trans (ht.below (by have := s1.out; have := s2.out; have := s4.out; have := s5.out; have := s8.out; have := s9.out; have := s11.out; have := s12.out; have := s15.out; have := s16.out; have := s19.out; have := s20.out; have := s22.out; have := s23.out; omega) hbel.size)
  clear ht
  go_wp2_with fail
  refine (heldAbacus_any (setR xAU xAL xAW xAR xValue).1 (setR xAU xAL xAW xAR xValue).2.1 (setR xAU xAL xAW xAR xValue).2.2.1 g0A g0C 1 (setR xAU xAL xAW xAR xValue).2.2.2.1.length v15 og0.rd (by have := ow0.len; have := ot7.len; have := og0.len; have := hxA.len; omega) (by have := ow0.len; have := ot7.len; have := og0.len; have := hxA.len; omega)).mono ?_
  rintro e v16 ⟨rfl, hb⟩
  have s24 : Hid (v15.heap.size ≤ v16.heap.size) := Lib.hid hb.size
  replace cxA0 := kept hb cxA0
  replace cxA1 := kept hb cxA1
  replace cxA2 := kept hb cxA2
  replace cxA3 := kept hb cxA3
  replace cw00 := kept hb cw00
  replace cw01 := kept hb cw01
  replace cw02 := kept hb cw02
  replace cw03 := kept hb cw03
  replace cx00 := kept hb cx00
  replace cx01 := kept hb cx01
  replace cx02 := kept hb cx02
  replace cx03 := kept hb cx03
  replace cg00 := kept hb cg00
  replace cg01 := kept hb cg01
  replace cg02 := kept hb cg02
  replace cg03 := kept hb cg03
  replace ow0 := ow0.below hb
  replace ot7 := ot7.below hb
  replace og0 := og0.below hb
  replace hbel := hbel.trans (hb.mono hbel.size)
  clear hb
  go_wp2_with fail
  refine (toAbacus_any xAU xAL xAW xAA xAC xAR v16 (hxA.below hbel)).mono ?_
  rintro e v17 ⟨t25A, t25C, rfl, ot25, hb⟩
  have s26 : Hid (v16.heap.size ≤ v17.heap.size) := Lib.hid hb.size
  replace cxA0 := kept hb cxA0
  replace cxA1 := kept hb cxA1
  replace cxA2 := kept hb cxA2
  replace cxA3 := kept hb cxA3
  replace cw00 := kept hb cw00
  replace cw01 := kept hb cw01
  replace cw02 := kept hb cw02
  replace cw03 := kept hb cw03
  replace cx00 := kept hb cx00
  replace cx01 := kept hb cx01
  replace cx02 := kept hb cx02
  replace cx03 := kept hb cx03
  replace cg00 := kept hb cg00
  replace cg01 := kept hb cg01
  replace cg02 := kept hb cg02
  replace cg03 := kept hb cg03
  replace ow0 := ow0.below hb
  replace ot7 := ot7.below hb
  replace og0 := og0.below hb
  replace hbel := hbel.trans (hb.mono hbel.size)
  clear hb
  go_wp2_with fail
  refine (implSetAbacus xAU xAL xAW t25A t25C xAR xValue v17 ot25.rd bxAU bxAL bxAW zxA bxValue).mono ?_
  rintro e v18 ⟨h0A, h0C, rfl, oh0, hb⟩
  have s27 : Hid (v17.heap.size ≤ v18.heap.size) := Lib.hid hb.size
  replace cxA0 := kept hb cxA0
  replace cxA1 := kept hb cxA1
  replace cxA2 := kept hb cxA2
  replace cxA3 := kept hb cxA3
  replace cw00 := kept hb cw00
  replace cw01 := kept hb cw01
  replace cw02 := kept hb cw02
  replace cw03 := kept hb cw03
  replace cx00 := kept hb cx00
  replace cx01 := kept hb cx01
  replace cx02 := kept hb cx02
  replace cx03 := kept hb cx03
  replace cg00 := kept hb cg00
  replace cg01 := kept hb cg01
  replace cg02 := kept hb cg02
  replace cg03 := kept hb cg03
  replace ow0 := ow0.below hb
  replace ot7 := ot7.below hb
  replace og0 := og0.below hb
  replace ot25 := ot25.below hb
  replace hbel := hbel.trans (hb.mono hbel.size)
  clear hb
  clear ot25
  have ha28 : Below v18.heap.size v18 (v18.alloc (.cells #[.int .i64 (setR xAU xAL xAW xAR xValue).1, .int .i64 (setR xAU xAL xAW xAR xValue).2.1, .int .i64 (setR xAU xAL xAW xAR xValue).2.2.1, .slice h0A (setR xAU xAL xAW xAR xValue).2.2.2.1.length h0C] 38)) := (Below.refl _ _).alloc (by simp) _
  replace cxA0 := kept ha28 cxA0
  replace cxA1 := kept ha28 cxA1
  replace cxA2 := kept ha28 cxA2
  replace cxA3 := kept ha28 cxA3
  replace cw00 := kept ha28 cw00
  replace cw01 := kept ha28 cw01
  replace cw02 := kept ha28 cw02
  replace cw03 := kept ha28 cw03
  replace cx00 := kept ha28 cx00
  replace cx01 := kept ha28 cx01
  replace cx02 := kept ha28 cx02
  replace cx03 := kept ha28 cx03
  replace cg00 := kept ha28 cg00
  replace cg01 := kept ha28 cg01
  replace cg02 := kept ha28 cg02
  replace cg03 := kept ha28 cg03
  replace ow0 := ow0.below ha28
  replace ot7 := ot7.below ha28
  replace og0 := og0.below ha28
  replace oh0 := oh0.below ha28
  replace hbel := hbel.trans (ha28.mono hbel.size)
  clear ha28
  have ch00 : (v18.alloc (.cells #[.int .i64 (setR xAU xAL xAW xAR xValue).1, .int .i64 (setR xAU xAL xAW xAR xValue).2.1, .int .i64 (setR xAU xAL xAW xAR xValue).2.2.1, .slice h0A (setR xAU xAL xAW xAR xValue).2.2.2.1.length h0C] 38)).cell? ⟨v18.heap.size, 0, none⟩ = some (.int .i64 (setR xAU xAL xAW xAR xValue).1) := by go_simp
  have ch01 : (v18.alloc (.cells #[.int .i64 (setR xAU xAL xAW xAR xValue).1, .int .i64 (setR xAU xAL xAW xAR xValue).2.1, .int .i64 (setR xAU xAL xAW xAR xValue).2.2.1, .slice h0A (setR xAU xAL xAW xAR xValue).2.2.2.1.length h0C] 38)).cell? ⟨v18.heap.size, 1, none⟩ = some (.int .i64 (setR xAU xAL xAW xAR xValue).2.1) := by go_simp
  have ch02 : (v18.alloc (.cells #[.int .i64 (setR xAU xAL xAW xAR xValue).1, .int .i64 (setR xAU xAL xAW xAR xValue).2.1, .int .i64 (setR xAU xAL xAW xAR xValue).2.2.1, .slice h0A (setR xAU xAL xAW xAR xValue).2.2.2.1.length h0C] 38)).cell? ⟨v18.heap.size, 2, none⟩ = some (.int .i64 (setR xAU xAL xAW xAR xValue).2.2.1) := by go_simp
  have ch03 : (v18.alloc (.cells #[.int .i64 (setR xAU xAL xAW xAR xValue).1, .int .i64 (setR xAU xAL xAW xAR xValue).2.1, .int .i64 (setR xAU xAL xAW xAR xValue).2.2.1, .slice h0A (setR xAU xAL xAW xAR xValue).2.2.2.1.length h0C] 38)).cell? ⟨v18.heap.size, 3, none⟩ = some (.slice h0A (setR xAU xAL xAW xAR xValue).2.2.2.1.length h0C) := by go_simp
  have q29 : abaEqB (setR xAU xAL xAW xAR xValue).1 (setR xAU xAL xAW xAR xValue).2.1 (setR xAU xAL xAW xAR xValue).2.2.1 (setR xAU xAL xAW xAR xValue).1 (setR xAU xAL xAW xAR xValue).2.1 (setR xAU xAL xAW xAR xValue).2.2.1 (setR xAU xAL xAW xAR xValue).2.2.2.1 (setR xAU xAL xAW xAR xValue).2.2.2.1 = true := abaEqB_self _ _ _ _
  go_wp2_with fail
  obtain ⟨v19, hu⟩ : ∃ u, u = (v18.alloc (.cells #[.int .i64 (setR xAU xAL xAW xAR xValue).1, .int .i64 (setR xAU xAL xAW xAR xValue).2.1, .int .i64 (setR xAU xAL xAW xAR xValue).2.2.1, .slice h0A (setR xAU xAL xAW xAR xValue).2.2.2.1.length h0C] 38)) := ⟨_, rfl⟩
  have s30 : Hid (v18.heap.size + 1 ≤ v19.heap.size) := Lib.hid (by rw [hu]; simp)
  rw [← hu] at cxA0 cxA1 cxA2 cxA3 cw00 cw01 cw02 cw03 cx00 cx01 cx02 cx03 cg00 cg01 cg02 cg03 ch00 ch01 ch02 ch03 ow0 ot7 og0 oh0 hbel ⊢
  clear hu
  refine (eqAbacus_any (setR xAU xAL xAW xAR xValue).1 (setR xAU xAL xAW xAR xValue).2.1 (setR xAU xAL xAW xAR xValue).2.2.1 (setR xAU xAL xAW xAR xValue).1 (setR xAU xAL xAW xAR xValue).2.1 (setR xAU xAL xAW xAR xValue).2.2.1 h0A w0A h0C w0C (setR xAU xAL xAW xAR xValue).2.2.2.1 (setR xAU xAL xAW xAR xValue).2.2.2.1 v19 oh0.rd ow0.rd).mono ?_
  rintro e v20 ⟨rfl, hb⟩
  have s31 : Hid (v19.heap.size ≤ v20.heap.size) := Lib.hid hb.size
  replace cxA0 := kept hb cxA0
  replace cxA1 := kept hb cxA1
  replace cxA2 := kept hb cxA2
  replace cxA3 := kept hb cxA3
  replace cw00 := kept hb cw00
  replace cw01 := kept hb cw01
  replace cw02 := kept hb cw02
  replace cw03 := kept hb cw03
  replace cx00 := kept hb cx00
  replace cx01 := kept hb cx01
  replace cx02 := kept hb cx02
  replace cx03 := kept hb cx03
  replace cg00 := kept hb cg00
  replace cg01 := kept hb cg01
  replace cg02 := kept hb cg02
  replace cg03 := kept hb cg03
  replace ch00 := kept hb ch00
  replace ch01 := kept hb ch01
  replace ch02 := kept hb ch02
  replace ch03 := kept hb ch03
  replace ow0 := ow0.below hb
  replace ot7 := ot7.below hb
  replace og0 := og0.below hb
  replace oh0 := oh0.below hb
  replace hbel := hbel.trans (hb.mono hbel.size)
  clear hb
  go_wp2_with fail
  refine (heldAbacus_any (setR xAU xAL xAW xAR xValue).1 (setR xAU xAL xAW xAR xValue).2.1 (setR xAU xAL xAW xAR xValue).2.2.1 g0A g0C 1 (setR xAU xAL xAW xAR xValue).2.2.2.1.length v20 og0.rd (by have := ow0.len; have := ot7.len; have := og0.len; have := oh0.len; have := hxA.len; omega) (by have := ow0.len; have := ot7.len; have := og0.len; have := oh0.len; have := hxA.len; omega)).mono ?_
  rintro e v21 ⟨rfl, hb⟩
  have s32 : Hid (v20.heap.size ≤ v21.heap.size) := Lib.hid hb.size
  replace cxA0 := kept hb cxA0
  replace cxA1 := kept hb cxA1
  replace cxA2 := kept hb cxA2
  replace cxA3 := kept hb cxA3
  replace cw00 := kept hb cw00
  replace cw01 := kept hb cw01
  replace cw02 := kept hb cw02
  replace cw03 := kept hb cw03
  replace cx00 := kept hb cx00
  replace cx01 := kept hb cx01
  replace cx02 := kept hb cx02
  replace cx03 := kept hb cx03
  replace cg00 := kept hb cg00
  replace cg01 := kept hb cg01
  replace cg02 := kept hb cg02
  replace cg03 := kept hb cg03
  replace ch00 := kept hb ch00
  replace ch01 := kept hb ch01
  replace ch02 := kept hb ch02
  replace ch03 := kept hb ch03
  replace ow0 := ow0.below hb
  replace ot7 := ot7.below hb
  replace og0 := og0.below hb
  replace oh0 := oh0.below hb
  replace hbel := hbel.trans (hb.mono hbel.size)
  clear hb
  go_wp2
  go_ret
  exact ⟨rfl, hbel⟩

set_option maxRecDepth 100000 in
theorem lifted (os : Os) (started : os.Started) (H : Type) (enc : TypeId × Value → H) :
    ReturnsInHanded {} Try.checked os 10 .any (Rows.fnExactSetAbacusSpec.pre6 enc Try.prog Try.f10 Rows.fnExactSetAbacusRow.domain false) (Rows.fnExactSetAbacusSpec.post enc Try.prog Try.f10 false true false false) := by
  refine returnsInHanded_of_change (C := Try.checked) own_knob started (by kernel_rfl) Try.func10
    (ChangeSpec.witness6 (enc := enc) (C := Try.checked) false ⟨#[], #[.agg #[.int .i64 0, .int .i64 0, .int .i64 0, .slice none 0 0], .int .i64 0], []⟩ 8 (by kernel_rfl) (by kernel_rfl) (by kernel_rfl) (by kernel_rfl)) ?_
  intro W base args ds gs before hval0 hW hcnd _
  have hval : ∀ (j : Nat) t v, Try.f10.params[j]? = some t → args[j]? = some v → Value.okWide Try.prog W .any base t v := hval0
  have hW' := hW
  obtain ⟨p, q, hA0, hV, rfl, hfz, hnd⟩ := hW
  have hA : DataW.TrodAll enc Try.prog W 0 (fun _ => true) true Try.f10.params.toList args.toList ds p := hA0
  rw [Try.params10] at hA hval
  obtain ⟨v0, vs0, d0, ds0, p0, q0, hargs, rfl, rfl, h0, r0⟩ := trodAll_cons hA
  obtain ⟨v1, vs1, d1, ds1, p1, q1, rfl, rfl, rfl, h1, r1⟩ := trodAll_cons r0
  obtain ⟨rfl, rfl, rfl⟩ := trodAll_nil r1
  obtain rfl : args = #[v0, v1] := by cases args; simp_all
  obtain ⟨rfl, rfl⟩ := trodVars_none hV
  have k0 := h0
  have lt0 : ∀ x ∈ p0, x.block < W.heap.size := by obtain ⟨m, hm⟩ := k0; exact DataW.trod_lt m _ _ _ hm
  obtain ⟨xAU, xAL, xAW, xAA, xAC, xAR, rfl, hxA, bxAU, bxAL, bxAW⟩ := open_Abacus (hval 0 73 v0 rfl rfl) h0
  obtain ⟨xValue, rfl, rfl, rfl, bxValue⟩ := open_int Try.underlying2 (hval 1 2 v1 rfl rfl) h1
  clear hA0 hval0
  refine (law_walk xAU xAL xAW xAA xAC xAR xValue W hxA bxAU bxAL bxAW bxValue).mono fun e W' ⟨he, bel⟩ => ?_
  subst he
  exact ⟨_, rfl, _, _, _, [], _, [], hW', trodAll_mk1 (shut_bool Try.underlying4 _), (trodAll_cons_mk (Below.trod laid_out (by kernel_rfl) (of_decide_eq_true (by kernel_rfl)) k0 bel lt0) (trodAll_cons_mk (shut_int Try.underlying2 bxValue) trodAll_mk0)), rfl, bel.frame _, fun h => by cases h⟩

set_option maxHeartbeats 20000000 in
theorem closed : joinedFacts Try.prog 10 Try.f10 Rows.fnExactSetAbacusSpec Rows.fnExactSetAbacusRow = true := by
  simp only [joinedFacts, Bool.and_eq_true]
  refine ⟨⟨⟨⟨⟨⟨⟨⟨⟨⟨⟨⟨⟨⟨⟨⟨⟨⟨⟨⟨⟨⟨⟨⟨⟨⟨⟨⟨⟨⟨⟨?_, laid_out⟩, fact_maps⟩, ?_⟩, ?_⟩, ?_⟩, fact_stops⟩, ?_⟩, fact_knobs⟩, ?_⟩, ?_⟩, ?_⟩, ?_⟩, ?_⟩, ?_⟩, ?_⟩, ?_⟩, ?_⟩, ?_⟩, ?_⟩, ?_⟩, ?_⟩, fact_plain⟩, ?_⟩, fact_heard⟩, fact_enter⟩, fact_lift⟩, ?_⟩, ?_⟩, ?_⟩, ?_⟩, ?_⟩
  all_goals (as_aux_lemma => kernel_rfl)

theorem over : Rows.fnExactSetAbacusRow.holds Try.pinned (OpenSpec.ofChange Rows.fnExactSetAbacusSpec) :=
  OpenClaim.holds_of_wide 10 Try.f10 rfl rfl rfl rfl rfl rfl rfl ⟨rfl, rfl, rfl, rfl, rfl⟩ rfl rfl rfl rfl rfl (by as_aux_lemma => kernel_rfl) Try.func10 closed
    (of_decide_eq_true (by as_aux_lemma => kernel_rfl)) (by unfold Func.isWrapper; rw [if_neg (by decide +kernel)]; exact ⟨rfl, rfl⟩)
    (fun os started H enc _ => lifted os started H enc)

/-- The statement. -/
theorem proved : Rows.FnExactSetAbacusSaid := over
end Go.Proofs.Ythhphopmkmbmiaa.lawSetAbacus
