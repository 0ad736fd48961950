/-
  laws.FnExactBeadsBetween returns true at every input (no condition), and leaves its arguments as they were.
-/
import Derived.Test.YthhphopmkmbmiaaAbaL
import Derived.Test.YthhphopmkmbmiaaBoxAba
import Derived.Test.YthhphopmkmbmiaaFrameA
import Derived.Test.YthhphopmkmbmiaaAbaX
import Derived.Deep.RegionHeld3
import Derived.Test.YthhphopmkmbmiaaFacts
import Derived.Test.YthhphopmkmbmiaaRows
namespace Go.Proofs.Ythhphopmkmbmiaa.lawBeadsBetween
open Go.ChangeShapes Go.WideShapes Go.ChangeAt Go.WideElems Go.RowKit Go.Joins
open Go.ChangeMaps (open_string shut_string)

set_option maxRecDepth 100000 in
set_option maxHeartbeats 4000000 in
theorem law_walk (xAU : Int) (xAL : Int) (xAW : Int) (xAA : Option Addr) (xAC : Nat) (xAR : List (Int × Int)) (xBU : Int) (xBL : Int) (xBW : Int) (xBA : Option Addr) (xBC : Nat) (xBR : List (Int × Int)) (w : World) (hxA : RawF pairF (fun x => I64 x.1 ∧ I64 x.2) w xAA xAR) (bxAU : I64 xAU) (bxAL : I64 xAL) (bxAW : I64 xAW) (hxB : RawF pairF (fun x => I64 x.1 ∧ I64 x.2) w xBA xBR) (bxBU : I64 xBU) (bxBL : I64 xBL) (bxBW : I64 xBW) :
    Calls Try.prog 14 #[.agg #[.int .i64 xAU, .int .i64 xAL, .int .i64 xAW, .slice xAA xAR.length xAC], .agg #[.int .i64 xBU, .int .i64 xBL, .int .i64 xBW, .slice xBA xBR.length xBC]] w fun e w' => e = .returned (.bool true) ∧ Below w.heap.size w w' := by
  have hbel : Below w.heap.size w ((w.alloc (.cells #[.int .i64 xAU, .int .i64 xAL, .int .i64 xAW, .slice xAA xAR.length xAC] 73)).alloc (.cells #[.int .i64 xBU, .int .i64 xBL, .int .i64 xBW, .slice xBA xBR.length xBC] 73)) := ((Below.refl _ _).alloc (by simp) _).alloc (by simp) _
  have cxA0 : ((w.alloc (.cells #[.int .i64 xAU, .int .i64 xAL, .int .i64 xAW, .slice xAA xAR.length xAC] 73)).alloc (.cells #[.int .i64 xBU, .int .i64 xBL, .int .i64 xBW, .slice xBA xBR.length xBC] 73)).cell? ⟨w.heap.size, 0, none⟩ = some (.int .i64 xAU) := by go_simp
  have cxA1 : ((w.alloc (.cells #[.int .i64 xAU, .int .i64 xAL, .int .i64 xAW, .slice xAA xAR.length xAC] 73)).alloc (.cells #[.int .i64 xBU, .int .i64 xBL, .int .i64 xBW, .slice xBA xBR.length xBC] 73)).cell? ⟨w.heap.size, 1, none⟩ = some (.int .i64 xAL) := by go_simp
  have cxA2 : ((w.alloc (.cells #[.int .i64 xAU, .int .i64 xAL, .int .i64 xAW, .slice xAA xAR.length xAC] 73)).alloc (.cells #[.int .i64 xBU, .int .i64 xBL, .int .i64 xBW, .slice xBA xBR.length xBC] 73)).cell? ⟨w.heap.size, 2, none⟩ = some (.int .i64 xAW) := by go_simp
  have cxA3 : ((w.alloc (.cells #[.int .i64 xAU, .int .i64 xAL, .int .i64 xAW, .slice xAA xAR.length xAC] 73)).alloc (.cells #[.int .i64 xBU, .int .i64 xBL, .int .i64 xBW, .slice xBA xBR.length xBC] 73)).cell? ⟨w.heap.size, 3, none⟩ = some (.slice xAA xAR.length xAC) := by go_simp
  have cxB0 : ((w.alloc (.cells #[.int .i64 xAU, .int .i64 xAL, .int .i64 xAW, .slice xAA xAR.length xAC] 73)).alloc (.cells #[.int .i64 xBU, .int .i64 xBL, .int .i64 xBW, .slice xBA xBR.length xBC] 73)).cell? ⟨w.heap.size + 1, 0, none⟩ = some (.int .i64 xBU) := by go_simp
  have cxB1 : ((w.alloc (.cells #[.int .i64 xAU, .int .i64 xAL, .int .i64 xAW, .slice xAA xAR.length xAC] 73)).alloc (.cells #[.int .i64 xBU, .int .i64 xBL, .int .i64 xBW, .slice xBA xBR.length xBC] 73)).cell? ⟨w.heap.size + 1, 1, none⟩ = some (.int .i64 xBL) := by go_simp
  have cxB2 : ((w.alloc (.cells #[.int .i64 xAU, .int .i64 xAL, .int .i64 xAW, .slice xAA xAR.length xAC] 73)).alloc (.cells #[.int .i64 xBU, .int .i64 xBL, .int .i64 xBW, .slice xBA xBR.length xBC] 73)).cell? ⟨w.heap.size + 1, 2, none⟩ = some (.int .i64 xBW) := by go_simp
  have cxB3 : ((w.alloc (.cells #[.int .i64 xAU, .int .i64 xAL, .int .i64 xAW, .slice xAA xAR.length xAC] 73)).alloc (.cells #[.int .i64 xBU, .int .i64 xBL, .int .i64 xBW, .slice xBA xBR.length xBC] 73)).cell? ⟨w.heap.size + 1, 3, none⟩ = some (.slice xBA xBR.length xBC) := by go_simp
  go_enter Try.func14, Try.ntmps14
  go_wp2_with fail
  obtain ⟨v1, hu⟩ : ∃ u, u = ((w.alloc (.cells #[.int .i64 xAU, .int .i64 xAL, .int .i64 xAW, .slice xAA xAR.length xAC] 73)).alloc (.cells #[.int .i64 xBU, .int .i64 xBL, .int .i64 xBW, .slice xBA xBR.length xBC] 73)) := ⟨_, rfl⟩
  have s1 : Hid (w.heap.size + 2 ≤ v1.heap.size) := Lib.hid (by rw [hu]; simp)
  rw [← hu] at cxA0 cxA1 cxA2 cxA3 cxB0 cxB1 cxB2 cxB3 hbel ⊢
  clear hu
  rcases Int.lt_or_le (leftOf xAR.length 1048576) 0 with k1 | k1
  · refine (szAbacus_any xAU xAL xAW xAA xAR.length xAC 1048576 v1 hxA.len (by omega) (by omega)).mono ?_
    rintro e v2 ⟨rfl, hb⟩
    go_wp2
    go_ret
    exact ⟨rfl, hbel.trans (hb.mono hbel.size)⟩
  have m1 := leftOf_le xAR.length 1048576 (by omega)
  refine (szAbacus_any xAU xAL xAW xAA xAR.length xAC 1048576 v1 hxA.len (by omega) (by omega)).mono ?_
  rintro e v2 ⟨rfl, hb⟩
  have s2 : Hid (v1.heap.size ≤ v2.heap.size) := Lib.hid hb.size
  replace cxA0 := kept hb cxA0
  replace cxA1 := kept hb cxA1
  replace cxA2 := kept hb cxA2
  replace cxA3 := kept hb cxA3
  replace cxB0 := kept hb cxB0
  replace cxB1 := kept hb cxB1
  replace cxB2 := kept hb cxB2
  replace cxB3 := kept hb cxB3
  replace hbel := hbel.trans (hb.mono hbel.size)
  clear hb
  have zxA := hxA.wf
  replace hxA := hxA.rd (by have := leftOf_len k1; omega)
  go_wp2_with fail
  rcases Int.lt_or_le (leftOf xBR.length (leftOf xAR.length 1048576)) 0 with k2 | k2
  · refine (szAbacus_any xBU xBL xBW xBA xBR.length xBC (leftOf xAR.length 1048576) v2 hxB.len (by omega) (by omega)).mono ?_
    rintro e v3 ⟨rfl, hb⟩
    go_wp2
    go_ret
    exact ⟨rfl, hbel.trans (hb.mono hbel.size)⟩
  have m2 := leftOf_le xBR.length (leftOf xAR.length 1048576) (by omega)
  refine (szAbacus_any xBU xBL xBW xBA xBR.length xBC (leftOf xAR.length 1048576) v2 hxB.len (by omega) (by omega)).mono ?_
  rintro e v3 ⟨rfl, hb⟩
  have s3 : Hid (v2.heap.size ≤ v3.heap.size) := Lib.hid hb.size
  replace cxA0 := kept hb cxA0
  replace cxA1 := kept hb cxA1
  replace cxA2 := kept hb cxA2
  replace cxA3 := kept hb cxA3
  replace cxB0 := kept hb cxB0
  replace cxB1 := kept hb cxB1
  replace cxB2 := kept hb cxB2
  replace cxB3 := kept hb cxB3
  replace hbel := hbel.trans (hb.mono hbel.size)
  clear hb
  have zxB := hxB.wf
  replace hxB := hxB.rd (by have := leftOf_len k2; omega)
  go_wp2_with fail
  have rcxA0 := kept_all cxA0
  have rcxA1 := kept_all cxA1
  have rcxA2 := kept_all cxA2
  have rcxA3 := kept_all cxA3
  have rcxB0 := kept_all cxB0
  have rcxB1 := kept_all cxB1
  have rcxB2 := kept_all cxB2
  have rcxB3 := kept_all cxB3
  go_region_held3 (fun w' => Below v3.heap.size v3 w') (first | exact hk | exact (Below.refl _ _).drew | exact hk.alloc hk.size _ | exact (hk.alloc hk.size _).setCell hk.size _)
    (first | (go_at_call 64; have qB := ‹Below v3.heap.size v3 _›; ((with_reducible refine (toAbacus_any xAU xAL xAW xAA xAC xAR _ (hxA.below (hbel.trans (qB.mono hbel.size)))).mono ?_)); rintro e v5 ⟨t4A, t4C, rfl, ot4, hb⟩; have hk := qB.trans (hb.mono qB.size)) | (go_at_call 64; have qB := ‹Below v3.heap.size v3 _›; ((with_reducible refine (toAbacus_any xBU xBL xBW xBA xBC xBR _ (hxB.below (hbel.trans (qB.mono hbel.size)))).mono ?_)); rintro e v6 ⟨t5A, t5C, rfl, ot5, hb⟩; replace ot4 := ot4.below hb; have hk := qB.trans (hb.mono qB.size)) | (go_at_call 56; have qB := ‹Below v3.heap.size v3 _›; refine (specBeadsBetween xAU xAL xAW t4A t4C xAR xBU xBL xBW t5A t5C xBR _ (by first | exact ot4.rd | exact (ot4.alloc _).rd) bxAU bxAL bxAW zxA (by first | exact ot5.rd | exact (ot5.alloc _).rd) bxBU bxBL bxBW zxB).mono ?_; rintro e v4 ⟨rfl, hb⟩; have hk := qB.trans (hb.mono qB.size)))
  have hb : Below v3.heap.size v3 v4 := by assumption
  clear rcxA0 rcxA1 rcxA2 rcxA3 rcxB0 rcxB1 rcxB2 rcxB3
  clear ot4 ot5
  have s6 : Hid (v3.heap.size ≤ v4.heap.size) := Lib.hid hb.size
  replace cxA0 := kept hb cxA0
  replace cxA1 := kept hb cxA1
  replace cxA2 := kept hb cxA2
  replace cxA3 := kept hb cxA3
  replace cxB0 := kept hb cxB0
  replace cxB1 := kept hb cxB1
  replace cxB2 := kept hb cxB2
  replace cxB3 := kept hb cxB3
  replace hbel := hbel.trans (hb.mono hbel.size)
  clear hb
  go_wp2_with fail
  refine (toAbacus_any xAU xAL xAW xAA xAC xAR v4 (hxA.below hbel)).mono ?_
  rintro e v7 ⟨t7A, t7C, rfl, ot7, hb⟩
  have s8 : Hid (v4.heap.size ≤ v7.heap.size) := Lib.hid hb.size
  replace cxA0 := kept hb cxA0
  replace cxA1 := kept hb cxA1
  replace cxA2 := kept hb cxA2
  replace cxA3 := kept hb cxA3
  replace cxB0 := kept hb cxB0
  replace cxB1 := kept hb cxB1
  replace cxB2 := kept hb cxB2
  replace cxB3 := kept hb cxB3
  replace hbel := hbel.trans (hb.mono hbel.size)
  clear hb
  have ha9 : Below v7.heap.size v7 (v7.alloc (.cells #[.int .i64 xAU, .int .i64 xAL, .int .i64 xAW, .slice t7A xAR.length t7C] 38)) := (Below.refl _ _).alloc (by simp) _
  replace cxA0 := kept ha9 cxA0
  replace cxA1 := kept ha9 cxA1
  replace cxA2 := kept ha9 cxA2
  replace cxA3 := kept ha9 cxA3
  replace cxB0 := kept ha9 cxB0
  replace cxB1 := kept ha9 cxB1
  replace cxB2 := kept ha9 cxB2
  replace cxB3 := kept ha9 cxB3
  replace ot7 := ot7.below ha9
  replace hbel := hbel.trans (ha9.mono hbel.size)
  clear ha9
  have cx00 : (v7.alloc (.cells #[.int .i64 xAU, .int .i64 xAL, .int .i64 xAW, .slice t7A xAR.length t7C] 38)).cell? ⟨v7.heap.size, 0, none⟩ = some (.int .i64 xAU) := by go_simp
  have cx01 : (v7.alloc (.cells #[.int .i64 xAU, .int .i64 xAL, .int .i64 xAW, .slice t7A xAR.length t7C] 38)).cell? ⟨v7.heap.size, 1, none⟩ = some (.int .i64 xAL) := by go_simp
  have cx02 : (v7.alloc (.cells #[.int .i64 xAU, .int .i64 xAL, .int .i64 xAW, .slice t7A xAR.length t7C] 38)).cell? ⟨v7.heap.size, 2, none⟩ = some (.int .i64 xAW) := by go_simp
  have cx03 : (v7.alloc (.cells #[.int .i64 xAU, .int .i64 xAL, .int .i64 xAW, .slice t7A xAR.length t7C] 38)).cell? ⟨v7.heap.size, 3, none⟩ = some (.slice t7A xAR.length t7C) := by go_simp
  go_wp2_with fail
  obtain ⟨v8, hu⟩ : ∃ u, u = (v7.alloc (.cells #[.int .i64 xAU, .int .i64 xAL, .int .i64 xAW, .slice t7A xAR.length t7C] 38)) := ⟨_, rfl⟩
  have s11 : Hid (v7.heap.size + 1 ≤ v8.heap.size) := Lib.hid (by rw [hu]; simp)
  rw [← hu] at cxA0 cxA1 cxA2 cxA3 cxB0 cxB1 cxB2 cxB3 cx00 cx01 cx02 cx03 ot7 hbel ⊢
  clear hu
  refine (toAbacus_any xBU xBL xBW xBA xBC xBR v8 (hxB.below hbel)).mono ?_
  rintro e v9 ⟨t10A, t10C, rfl, ot10, hb⟩
  have s12 : Hid (v8.heap.size ≤ v9.heap.size) := Lib.hid hb.size
  replace cxA0 := kept hb cxA0
  replace cxA1 := kept hb cxA1
  replace cxA2 := kept hb cxA2
  replace cxA3 := kept hb cxA3
  replace cxB0 := kept hb cxB0
  replace cxB1 := kept hb cxB1
  replace cxB2 := kept hb cxB2
  replace cxB3 := kept hb cxB3
  replace cx00 := kept hb cx00
  replace cx01 := kept hb cx01
  replace cx02 := kept hb cx02
  replace cx03 := kept hb cx03
  replace ot7 := ot7.below hb
  replace hbel := hbel.trans (hb.mono hbel.size)
  clear hb
  have ha13 : Below v9.heap.size v9 (v9.alloc (.cells #[.int .i64 xBU, .int .i64 xBL, .int .i64 xBW, .slice t10A xBR.length t10C] 38)) := (Below.refl _ _).alloc (by simp) _
  replace cxA0 := kept ha13 cxA0
  replace cxA1 := kept ha13 cxA1
  replace cxA2 := kept ha13 cxA2
  replace cxA3 := kept ha13 cxA3
  replace cxB0 := kept ha13 cxB0
  replace cxB1 := kept ha13 cxB1
  replace cxB2 := kept ha13 cxB2
  replace cxB3 := kept ha13 cxB3
  replace cx00 := kept ha13 cx00
  replace cx01 := kept ha13 cx01
  replace cx02 := kept ha13 cx02
  replace cx03 := kept ha13 cx03
  replace ot7 := ot7.below ha13
  replace ot10 := ot10.below ha13
  replace hbel := hbel.trans (ha13.mono hbel.size)
  clear ha13
  have cx10 : (v9.alloc (.cells #[.int .i64 xBU, .int .i64 xBL, .int .i64 xBW, .slice t10A xBR.length t10C] 38)).cell? ⟨v9.heap.size, 0, none⟩ = some (.int .i64 xBU) := by go_simp
  have cx11 : (v9.alloc (.cells #[.int .i64 xBU, .int .i64 xBL, .int .i64 xBW, .slice t10A xBR.length t10C] 38)).cell? ⟨v9.heap.size, 1, none⟩ = some (.int .i64 xBL) := by go_simp
  have cx12 : (v9.alloc (.cells #[.int .i64 xBU, .int .i64 xBL, .int .i64 xBW, .slice t10A xBR.length t10C] 38)).cell? ⟨v9.heap.size, 2, none⟩ = some (.int .i64 xBW) := by go_simp
  have cx13 : (v9.alloc (.cells #[.int .i64 xBU, .int .i64 xBL, .int .i64 xBW, .slice t10A xBR.length t10C] 38)).cell? ⟨v9.heap.size, 3, none⟩ = some (.slice t10A xBR.length t10C) := by go_simp
  go_wp2_with fail
  obtain ⟨v10, hu⟩ : ∃ u, u = (v9.alloc (.cells #[.int .i64 xBU, .int .i64 xBL, .int .i64 xBW, .slice t10A xBR.length t10C] 38)) := ⟨_, rfl⟩
  have s14 : Hid (v9.heap.size + 1 ≤ v10.heap.size) := Lib.hid (by rw [hu]; simp)
  rw [← hu] at cxA0 cxA1 cxA2 cxA3 cxB0 cxB1 cxB2 cxB3 cx00 cx01 cx02 cx03 cx10 cx11 cx12 cx13 ot7 ot10 hbel ⊢
  clear hu
  refine (implBeadsBetween xAU xAL xAW t7A t7C xAR xBU xBL xBW t10A t10C xBR v10 ot7.rd bxAU bxAL bxAW zxA ot10.rd bxBU bxBL bxBW zxB).mono ?_
  rintro e v11 ⟨rfl, hb⟩
  have s15 : Hid (v10.heap.size ≤ v11.heap.size) := Lib.hid hb.size
  replace cxA0 := kept hb cxA0
  replace cxA1 := kept hb cxA1
  replace cxA2 := kept hb cxA2
  replace cxA3 := kept hb cxA3
  replace cxB0 := kept hb cxB0
  replace cxB1 := kept hb cxB1
  replace cxB2 := kept hb cxB2
  replace cxB3 := kept hb cxB3
  replace cx00 := kept hb cx00
  replace cx01 := kept hb cx01
  replace cx02 := kept hb cx02
  replace cx03 := kept hb cx03
  replace cx10 := kept hb cx10
  replace cx11 := kept hb cx11
  replace cx12 := kept hb cx12
  replace cx13 := kept hb cx13
  replace ot7 := ot7.below hb
  replace ot10 := ot10.below hb
  replace hbel := hbel.trans (hb.mono hbel.size)
  clear hb
  have q16 : abaEqB xAU xAL xAW xAU xAL xAW xAR xAR = true := abaEqB_self _ _ _ _
  go_wp2_with fail
  have rcxA0 := kept_all cxA0
  have rcxA1 := kept_all cxA1
  have rcxA2 := kept_all cxA2
  have rcxA3 := kept_all cxA3
  have rcxB0 := kept_all cxB0
  have rcxB1 := kept_all cxB1
  have rcxB2 := kept_all cxB2
  have rcxB3 := kept_all cxB3
  have rcx00 := kept_all cx00
  have rcx01 := kept_all cx01
  have rcx02 := kept_all cx02
  have rcx03 := kept_all cx03
  have rcx10 := kept_all cx10
  have rcx11 := kept_all cx11
  have rcx12 := kept_all cx12
  have rcx13 := kept_all cx13
  go_region_held3 (fun w' => Below v11.heap.size v11 w') (first | exact hk | exact (Below.refl _ _).drew | exact hk.alloc hk.size _ | exact (hk.alloc hk.size _).setCell hk.size _)
    (first | (go_at_call 64; have qB := ‹Below v11.heap.size v11 _›; ((with_reducible refine (toAbacus_any xAU xAL xAW xAA xAC xAR _ (hxA.below (hbel.trans (qB.mono hbel.size)))).mono ?_)); rintro e v13 ⟨t17A, t17C, rfl, ot17, hb⟩; have hk := qB.trans (hb.mono qB.size)) | (go_at_call 65; have qB := ‹Below v11.heap.size v11 _›; refine (eqAbacus_any xAU xAL xAW xAU xAL xAW t7A t17A t7C t17C xAR xAR _ (ot7.below qB).rd (by first | exact ot17.rd | exact (ot17.alloc _).rd)).mono ?_; rintro e v12 ⟨rfl, hb⟩; have hk := qB.trans (hb.mono qB.size)))
  have hb : Below v11.heap.size v11 v12 := by assumption
  clear rcxA0 rcxA1 rcxA2 rcxA3 rcxB0 rcxB1 rcxB2 rcxB3 rcx00 rcx01 rcx02 rcx03 rcx10 rcx11 rcx12 rcx13
  clear ot17
  have s18 : Hid (v11.heap.size ≤ v12.heap.size) := Lib.hid hb.size
  replace cxA0 := kept hb cxA0
  replace cxA1 := kept hb cxA1
  replace cxA2 := kept hb cxA2
  replace cxA3 := kept hb cxA3
  replace cxB0 := kept hb cxB0
  replace cxB1 := kept hb cxB1
  replace cxB2 := kept hb cxB2
  replace cxB3 := kept hb cxB3
  replace cx00 := kept hb cx00
  replace cx01 := kept hb cx01
  replace cx02 := kept hb cx02
  replace cx03 := kept hb cx03
  replace cx10 := kept hb cx10
  replace cx11 := kept hb cx11
  replace cx12 := kept hb cx12
  replace cx13 := kept hb cx13
  replace ot7 := ot7.below hb
  replace ot10 := ot10.below hb
  replace hbel := hbel.trans (hb.mono hbel.size)
  clear hb
  have q19 : abaEqB xBU xBL xBW xBU xBL xBW xBR xBR = true := abaEqB_self _ _ _ _
  go_wp2_with fail
  have rcxA0 := kept_all cxA0
  have rcxA1 := kept_all cxA1
  have rcxA2 := kept_all cxA2
  have rcxA3 := kept_all cxA3
  have rcxB0 := kept_all cxB0
  have rcxB1 := kept_all cxB1
  have rcxB2 := kept_all cxB2
  have rcxB3 := kept_all cxB3
  have rcx00 := kept_all cx00
  have rcx01 := kept_all cx01
  have rcx02 := kept_all cx02
  have rcx03 := kept_all cx03
  have rcx10 := kept_all cx10
  have rcx11 := kept_all cx11
  have rcx12 := kept_all cx12
  have rcx13 := kept_all cx13
  go_region_held3 (fun w' => Below v12.heap.size v12 w') (first | exact hk | exact (Below.refl _ _).drew | exact hk.alloc hk.size _ | exact (hk.alloc hk.size _).setCell hk.size _)
    (first | (go_at_call 64; have qB := ‹Below v12.heap.size v12 _›; ((with_reducible refine (toAbacus_any xBU xBL xBW xBA xBC xBR _ (hxB.below (hbel.trans (qB.mono hbel.size)))).mono ?_)); rintro e v15 ⟨t20A, t20C, rfl, ot20, hb⟩; have hk := qB.trans (hb.mono qB.size)) | (go_at_call 65; have qB := ‹Below v12.heap.size v12 _›; refine (eqAbacus_any xBU xBL xBW xBU xBL xBW t10A t20A t10C t20C xBR xBR _ (ot10.below qB).rd (by first | exact ot20.rd | exact (ot20.alloc _).rd)).mono ?_; rintro e v14 ⟨rfl, hb⟩; have hk := qB.trans (hb.mono qB.size)))
  have hb : Below v12.heap.size v12 v14 := by assumption
  clear rcxA0 rcxA1 rcxA2 rcxA3 rcxB0 rcxB1 rcxB2 rcxB3 rcx00 rcx01 rcx02 rcx03 rcx10 rcx11 rcx12 rcx13
  clear ot20
  have s21 : Hid (v12.heap.size ≤ v14.heap.size) := Lib.hid hb.size
  replace cxA0 := kept hb cxA0
  replace cxA1 := kept hb cxA1
  replace cxA2 := kept hb cxA2
  replace cxA3 := kept hb cxA3
  replace cxB0 := kept hb cxB0
  replace cxB1 := kept hb cxB1
  replace cxB2 := kept hb cxB2
  replace cxB3 := kept hb cxB3
  replace cx00 := kept hb cx00
  replace cx01 := kept hb cx01
  replace cx02 := kept hb cx02
  replace cx03 := kept hb cx03
  replace cx10 := kept hb cx10
  replace cx11 := kept hb cx11
  replace cx12 := kept hb cx12
  replace cx13 := kept hb cx13
  replace ot7 := ot7.below hb
  replace ot10 := ot10.below hb
  replace hbel := hbel.trans (hb.mono hbel.size)
  clear hb
  go_wp2
  go_ret
  exact ⟨rfl, hbel⟩

set_option maxRecDepth 100000 in
theorem lifted (os : Os) (started : os.Started) (H : Type) (enc : TypeId × Value → H) :
    ReturnsInHanded {} Try.checked os 14 .any (Rows.fnExactBeadsBetweenSpec.pre6 enc Try.prog Try.f14 Rows.fnExactBeadsBetweenRow.domain false) (Rows.fnExactBeadsBetweenSpec.post enc Try.prog Try.f14 false true false false) := by
  refine returnsInHanded_of_change (C := Try.checked) own_knob started (by kernel_rfl) Try.func14
    (ChangeSpec.witness6 (enc := enc) (C := Try.checked) false ⟨#[], #[.agg #[.int .i64 0, .int .i64 0, .int .i64 0, .slice none 0 0], .agg #[.int .i64 0, .int .i64 0, .int .i64 0, .slice none 0 0]], []⟩ 8 (by kernel_rfl) (by kernel_rfl) (by kernel_rfl) (by kernel_rfl)) ?_
  intro W base args ds gs before hval0 hW hcnd _
  have hval : ∀ (j : Nat) t v, Try.f14.params[j]? = some t → args[j]? = some v → Value.okWide Try.prog W .any base t v := hval0
  have hW' := hW
  obtain ⟨p, q, hA0, hV, rfl, hfz, hnd⟩ := hW
  have hA : DataW.TrodAll enc Try.prog W 0 (fun _ => true) true Try.f14.params.toList args.toList ds p := hA0
  rw [Try.params14] at hA hval
  obtain ⟨v0, vs0, d0, ds0, p0, q0, hargs, rfl, rfl, h0, r0⟩ := trodAll_cons hA
  obtain ⟨v1, vs1, d1, ds1, p1, q1, rfl, rfl, rfl, h1, r1⟩ := trodAll_cons r0
  obtain ⟨rfl, rfl, rfl⟩ := trodAll_nil r1
  obtain rfl : args = #[v0, v1] := by cases args; simp_all
  obtain ⟨rfl, rfl⟩ := trodVars_none hV
  have k0 := h0
  have lt0 : ∀ x ∈ p0, x.block < W.heap.size := by obtain ⟨m, hm⟩ := k0; exact DataW.trod_lt m _ _ _ hm
  obtain ⟨xAU, xAL, xAW, xAA, xAC, xAR, rfl, hxA, bxAU, bxAL, bxAW⟩ := open_Abacus (hval 0 73 v0 rfl rfl) h0
  have k1 := h1
  have lt1 : ∀ x ∈ p1, x.block < W.heap.size := by obtain ⟨m, hm⟩ := k1; exact DataW.trod_lt m _ _ _ hm
  obtain ⟨xBU, xBL, xBW, xBA, xBC, xBR, rfl, hxB, bxBU, bxBL, bxBW⟩ := open_Abacus (hval 1 73 v1 rfl rfl) h1
  clear hA0 hval0
  refine (law_walk xAU xAL xAW xAA xAC xAR xBU xBL xBW xBA xBC xBR W hxA bxAU bxAL bxAW hxB bxBU bxBL bxBW).mono fun e W' ⟨he, bel⟩ => ?_
  subst he
  exact ⟨_, rfl, _, _, _, [], _, [], hW', trodAll_mk1 (shut_bool Try.underlying4 _), (trodAll_cons_mk (Below.trod laid_out (by kernel_rfl) (of_decide_eq_true (by kernel_rfl)) k0 bel lt0) (trodAll_cons_mk (Below.trod laid_out (by kernel_rfl) (of_decide_eq_true (by kernel_rfl)) k1 bel lt1) trodAll_mk0)), rfl, bel.frame _, fun h => by cases h⟩

set_option maxHeartbeats 20000000 in
theorem closed : joinedFacts Try.prog 14 Try.f14 Rows.fnExactBeadsBetweenSpec Rows.fnExactBeadsBetweenRow = true := by
  simp only [joinedFacts, Bool.and_eq_true]
  refine ⟨⟨⟨⟨⟨⟨⟨⟨⟨⟨⟨⟨⟨⟨⟨⟨⟨⟨⟨⟨⟨⟨⟨⟨⟨⟨⟨⟨⟨⟨⟨?_, laid_out⟩, fact_maps⟩, ?_⟩, ?_⟩, ?_⟩, fact_stops⟩, ?_⟩, fact_knobs⟩, ?_⟩, ?_⟩, ?_⟩, ?_⟩, ?_⟩, ?_⟩, ?_⟩, ?_⟩, ?_⟩, ?_⟩, ?_⟩, ?_⟩, ?_⟩, fact_plain⟩, ?_⟩, fact_heard⟩, fact_enter⟩, fact_lift⟩, ?_⟩, ?_⟩, ?_⟩, ?_⟩, ?_⟩
  all_goals (as_aux_lemma => kernel_rfl)

theorem over : Rows.fnExactBeadsBetweenRow.holds Try.pinned (OpenSpec.ofChange Rows.fnExactBeadsBetweenSpec) :=
  OpenClaim.holds_of_wide 14 Try.f14 rfl rfl rfl rfl rfl rfl rfl ⟨rfl, rfl, rfl, rfl, rfl⟩ rfl rfl rfl rfl rfl (by as_aux_lemma => kernel_rfl) Try.func14 closed
    (of_decide_eq_true (by as_aux_lemma => kernel_rfl)) (by unfold Func.isWrapper; rw [if_neg (by decide +kernel)]; exact ⟨rfl, rfl⟩)
    (fun os started H enc _ => lifted os started H enc)

/-- The statement. -/
theorem proved : Rows.FnExactBeadsBetweenSaid := over
end Go.Proofs.Ythhphopmkmbmiaa.lawBeadsBetween
