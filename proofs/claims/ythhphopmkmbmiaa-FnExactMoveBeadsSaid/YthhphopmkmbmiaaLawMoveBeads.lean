/-
  laws.FnExactMoveBeads returns true at every input (no condition), and leaves its arguments as they were.
-/
import Derived.Test.YthhphopmkmbmiaaAbaL
import Derived.Test.YthhphopmkmbmiaaBoxAba
import Derived.Test.YthhphopmkmbmiaaFrameA
import Derived.Test.YthhphopmkmbmiaaBeadMoveS
import Derived.Test.YthhphopmkmbmiaaAbaO
import Derived.Test.YthhphopmkmbmiaaAbaN
import Derived.Deep.RegionHeld3
import Derived.Test.YthhphopmkmbmiaaFacts
import Derived.Test.YthhphopmkmbmiaaRows
namespace Go.Proofs.Ythhphopmkmbmiaa.lawMoveBeads
open Go.ChangeShapes Go.WideShapes Go.ChangeAt Go.WideElems Go.RowKit Go.Joins
open Go.ChangeMaps (open_string shut_string)

set_option maxRecDepth 100000 in
set_option maxHeartbeats 20000000 in
theorem law_walk (xAU : Int) (xAL : Int) (xAW : Int) (xAA : Option Addr) (xAC : Nat) (xAR : List (Int × Int)) (xM : Int × Int × Int) (w : World) (hxA : RawF pairF (fun x => I64 x.1 ∧ I64 x.2) w xAA xAR) (bxAU : I64 xAU) (bxAL : I64 xAL) (bxAW : I64 xAW) (bxM : I64 xM.1 ∧ I64 xM.2.1 ∧ I64 xM.2.2) :
    Calls Try.prog 13 #[.agg #[.int .i64 xAU, .int .i64 xAL, .int .i64 xAW, .slice xAA xAR.length xAC], .agg #[.int .i64 xM.1, .int .i64 xM.2.1, .int .i64 xM.2.2]] w fun e w' => e = .returned (.bool true) ∧ Below w.heap.size w w' := by
  have hbel : Below w.heap.size w ((w.alloc (.cells #[.int .i64 xAU, .int .i64 xAL, .int .i64 xAW, .slice xAA xAR.length xAC] 73)).alloc (.cells #[.int .i64 xM.1, .int .i64 xM.2.1, .int .i64 xM.2.2] 80)) := ((Below.refl _ _).alloc (by simp) _).alloc (by simp) _
  have cxA0 : ((w.alloc (.cells #[.int .i64 xAU, .int .i64 xAL, .int .i64 xAW, .slice xAA xAR.length xAC] 73)).alloc (.cells #[.int .i64 xM.1, .int .i64 xM.2.1, .int .i64 xM.2.2] 80)).cell? ⟨w.heap.size, 0, none⟩ = some (.int .i64 xAU) := by go_simp
  have cxA1 : ((w.alloc (.cells #[.int .i64 xAU, .int .i64 xAL, .int .i64 xAW, .slice xAA xAR.length xAC] 73)).alloc (.cells #[.int .i64 xM.1, .int .i64 xM.2.1, .int .i64 xM.2.2] 80)).cell? ⟨w.heap.size, 1, none⟩ = some (.int .i64 xAL) := by go_simp
  have cxA2 : ((w.alloc (.cells #[.int .i64 xAU, .int .i64 xAL, .int .i64 xAW, .slice xAA xAR.length xAC] 73)).alloc (.cells #[.int .i64 xM.1, .int .i64 xM.2.1, .int .i64 xM.2.2] 80)).cell? ⟨w.heap.size, 2, none⟩ = some (.int .i64 xAW) := by go_simp
  have cxA3 : ((w.alloc (.cells #[.int .i64 xAU, .int .i64 xAL, .int .i64 xAW, .slice xAA xAR.length xAC] 73)).alloc (.cells #[.int .i64 xM.1, .int .i64 xM.2.1, .int .i64 xM.2.2] 80)).cell? ⟨w.heap.size, 3, none⟩ = some (.slice xAA xAR.length xAC) := by go_simp
  have cxM0 : ((w.alloc (.cells #[.int .i64 xAU, .int .i64 xAL, .int .i64 xAW, .slice xAA xAR.length xAC] 73)).alloc (.cells #[.int .i64 xM.1, .int .i64 xM.2.1, .int .i64 xM.2.2] 80)).cell? ⟨w.heap.size + 1, 0, none⟩ = some (.int .i64 xM.1) := by go_simp
  have cxM1 : ((w.alloc (.cells #[.int .i64 xAU, .int .i64 xAL, .int .i64 xAW, .slice xAA xAR.length xAC] 73)).alloc (.cells #[.int .i64 xM.1, .int .i64 xM.2.1, .int .i64 xM.2.2] 80)).cell? ⟨w.heap.size + 1, 1, none⟩ = some (.int .i64 xM.2.1) := by go_simp
  have cxM2 : ((w.alloc (.cells #[.int .i64 xAU, .int .i64 xAL, .int .i64 xAW, .slice xAA xAR.length xAC] 73)).alloc (.cells #[.int .i64 xM.1, .int .i64 xM.2.1, .int .i64 xM.2.2] 80)).cell? ⟨w.heap.size + 1, 2, none⟩ = some (.int .i64 xM.2.2) := by go_simp
  go_enter Try.func13, Try.ntmps13
  go_wp2_with fail
  obtain ⟨v1, hu⟩ : ∃ u, u = ((w.alloc (.cells #[.int .i64 xAU, .int .i64 xAL, .int .i64 xAW, .slice xAA xAR.length xAC] 73)).alloc (.cells #[.int .i64 xM.1, .int .i64 xM.2.1, .int .i64 xM.2.2] 80)) := ⟨_, rfl⟩
  have s1 : Hid (w.heap.size + 2 ≤ v1.heap.size) := Lib.hid (by rw [hu]; simp)
  rw [← hu] at cxA0 cxA1 cxA2 cxA3 cxM0 cxM1 cxM2 hbel ⊢
  clear hu
  rcases Int.lt_or_le (leftOf xAR.length 1048576) 0 with k1 | k1
  · refine (szAbacus_any xAU xAL xAW xAA xAR.length xAC 1048576 v1 hxA.len (by omega) (by omega)).mono ?_
    rintro e v2 ⟨rfl, hb⟩
    go_wp2
    go_ret
    exact ⟨rfl, hbel.trans (hb.mono hbel.size)⟩
  have m1 := leftOf_le xAR.length 1048576 (by omega)
  refine (szAbacus_any xAU xAL xAW xAA xAR.length xAC 1048576 v1 hxA.len (by omega) (by omega)).mono ?_
  rintro e v2 ⟨rfl, hb⟩
  have s2 : Hid (v1.heap.size ≤ v2.heap.size) := Lib.hid hb.size
  replace cxA0 := kept hb cxA0
  replace cxA1 := kept hb cxA1
  replace cxA2 := kept hb cxA2
  replace cxA3 := kept hb cxA3
  replace cxM0 := kept hb cxM0
  replace cxM1 := kept hb cxM1
  replace cxM2 := kept hb cxM2
  replace hbel := hbel.trans (hb.mono hbel.size)
  clear hb
  have zxA : All2 xAR := hxA.wf
  replace hxA := hxA.rd (by have := leftOf_len k1; omega)
  go_upto_region 5 with fail
  go_cut [6, 7] from 16 (fun sl6 sl7 wx => BoxAba v2 (movR xAU xAL xAW xAR xM).1 (movR xAU xAL xAW xAR xM).2.1 (movR xAU xAL xAW xAR xM).2.2.1 (movR xAU xAL xAW xAR xM).2.2.2.1 sl6 wx ∧ sl7 = .int .i64 (movR xAU xAL xAW xAR xM).2.2.2.2)
  case first =>
    have rcxA0 := kept_all cxA0
    have rcxA1 := kept_all cxA1
    have rcxA2 := kept_all cxA2
    have rcxA3 := kept_all cxA3
    have rcxM0 := kept_all cxM0
    have rcxM1 := kept_all cxM1
    have rcxM2 := kept_all cxM2
    clear cxA0 cxA1 cxA2 cxA3 cxM0 cxM1 cxM2
    go_region_held3 (fun w' => Below v2.heap.size v2 w') (first | exact hk | exact (Below.refl _ _).drew | exact hk.alloc hk.size _ | exact (Below.refl _ _).drew.alloc (Nat.le_refl _) _ | exact (hk.alloc hk.size _).setCell hk.size _ | exact ((((hk.setCell bg.out _).setCell bg.out _).setCell bg.out _).setCell bg.out _))
      (first | (go_at_call 64; have qB := ‹Below v2.heap.size v2 _›; ((with_reducible refine (toAbacus_any xAU xAL xAW xAA xAC xAR ((v2.alloc (.cells #[.int .i64 0, .int .i64 0, .int .i64 0, .slice none 0 0] 38)).drew) (hxA.below (hbel.trans (qB.mono hbel.size)))).mono ?_)); rintro e v4 ⟨t3A, t3C, rfl, ot3, hb⟩; have bz := ((Bx.new v2 #[.int .i64 0, .int .i64 0, .int .i64 0, .slice none 0 0] 38).drew).below hb; have bg : Hid (v2.heap.size ≤ v2.drew.heap.size) := Lib.hid (by first | exact (‹Below v2.heap.size v2 v2.drew›).size | exact Nat.le_refl _); have hk := qB.trans (hb.mono qB.size)) | (go_at_call 64; have qB := ‹Below v2.heap.size v2 _›; ((with_reducible refine (toAbacus_any xAU xAL xAW xAA xAC xAR v2.drew (hxA.below (hbel.trans (qB.mono hbel.size)))).mono ?_)); rintro e v4 ⟨t3A, t3C, rfl, ot3, hb⟩; (try replace bz := bz.below hb); have hk := qB.trans (hb.mono qB.size)) | (go_at_call 68; have qB := ‹Below v2.heap.size v2 _›; ((with_reducible refine (toBeadMove_any xM (v4.alloc (.cells #[.int .i64 0, .int .i64 0, .int .i64 0, .slice none 0 0] 38))).mono ?_)); rintro e v5 ⟨rfl, hb⟩; replace ot3 := (ot3.alloc _).below hb; have bz := (Bx.new v4 #[.int .i64 0, .int .i64 0, .int .i64 0, .slice none 0 0] 38).below hb; have bg : Hid (v2.heap.size ≤ v4.heap.size) := Lib.hid (by first | exact (‹Below v2.heap.size v2 v4›).size | exact Nat.le_refl _); have hk := qB.trans (hb.mono qB.size)) | (go_at_call 68; have qB := ‹Below v2.heap.size v2 _›; ((with_reducible refine (toBeadMove_any xM v4).mono ?_)); rintro e v5 ⟨rfl, hb⟩; replace ot3 := ot3.below hb; (try replace bz := bz.below hb); have hk := qB.trans (hb.mono qB.size)) | (go_at_call 53; have qB := ‹Below v2.heap.size v2 _›; ((with_reducible refine (specMoveBeads xAU xAL xAW t3A t3C xAR xM (v5.alloc (.cells #[.int .i64 0, .int .i64 0, .int .i64 0, .slice none 0 0] 38)) (ot3.alloc _).rd bxAU bxAL bxAW zxA bxM).mono ?_)); rintro e v3 ⟨w0A, w0C, rfl, ow0, hb⟩; have bz := (Bx.new v5 #[.int .i64 0, .int .i64 0, .int .i64 0, .slice none 0 0] 38); have bg : Hid (v2.heap.size ≤ v5.heap.size) := Lib.hid (by first | exact (‹Below v2.heap.size v2 v5›).size | exact Nat.le_refl _); have bh := Lib.hid bz.lt; replace bz := bz.below hb; have bz0 := bz.at_ 0 rfl; have bf0 := bz.thaw 0; have bz1 := bz.at_ 1 rfl; have bf1 := bz.thaw 1; have bz2 := bz.at_ 2 rfl; have bf2 := bz.thaw 2; have bz3 := bz.at_ 3 rfl; have bf3 := bz.thaw 3; have hkU := qB; have hbU := hb; have hk := qB.trans (hb.mono qB.size)) | (go_at_call 53; have qB := ‹Below v2.heap.size v2 _›; ((with_reducible refine (specMoveBeads xAU xAL xAW t3A t3C xAR xM v5 ot3.rd bxAU bxAL bxAW zxA bxM).mono ?_)); rintro e v3 ⟨w0A, w0C, rfl, ow0, hb⟩; (try (have bh := Lib.hid bz.lt; replace bz := bz.below hb; have bz0 := bz.at_ 0 rfl; have bf0 := bz.thaw 0; have bz1 := bz.at_ 1 rfl; have bf1 := bz.thaw 1; have bz2 := bz.at_ 2 rfl; have bf2 := bz.thaw 2; have bz3 := bz.at_ 3 rfl; have bf3 := bz.thaw 3)); have hkU := qB; have hbU := hb; have hk := qB.trans (hb.mono qB.size)))
    all_goals (go_wp2_with fail; go_meet; case rel => first | with_reducible exact ⟨boxAba_after hkU hbU ow0, rfl⟩ | with_reducible exact ⟨boxAba_before hkU hbU ow0 bz bg bh, rfl⟩ | exact ⟨boxAba_after hkU hbU ow0, rfl⟩ | exact ⟨boxAba_before hkU hbU ow0 bz bg bh, rfl⟩)
  case rest =>
  obtain ⟨⟨B5, w0A, w0C, B5l, B5h, rfl, cw00, cw01, cw02, cw03, ow0, s6, s7, s8, s9, s10, hb⟩, rfl⟩ := hcut
  obtain ⟨v3, rfl⟩ : ∃ u, u = wc := ⟨_, rfl⟩
  have s11 : Hid (v2.heap.size ≤ v3.heap.size) := Lib.hid hb.size
  replace cxA0 := kept hb cxA0
  replace cxA1 := kept hb cxA1
  replace cxA2 := kept hb cxA2
  replace cxA3 := kept hb cxA3
  replace cxM0 := kept hb cxM0
  replace cxM1 := kept hb cxM1
  replace cxM2 := kept hb cxM2
  replace hbel := hbel.trans (hb.mono hbel.size)
  clear hb
  go_wp2_with fail
  refine (toAbacus_any xAU xAL xAW xAA xAC xAR v3 (hxA.below hbel)).mono ?_
  rintro e v6 ⟨t12A, t12C, rfl, ot12, hb⟩
  have s13 : Hid (v3.heap.size ≤ v6.heap.size) := Lib.hid hb.size
  replace cxA0 := kept hb cxA0
  replace cxA1 := kept hb cxA1
  replace cxA2 := kept hb cxA2
  replace cxA3 := kept hb cxA3
  replace cxM0 := kept hb cxM0
  replace cxM1 := kept hb cxM1
  replace cxM2 := kept hb cxM2
  replace cw00 := kept hb cw00
  replace cw01 := kept hb cw01
  replace cw02 := kept hb cw02
  replace cw03 := kept hb cw03
  replace ow0 := ow0.below hb
  replace hbel := hbel.trans (hb.mono hbel.size)
  clear hb
  have ha14 : Below v6.heap.size v6 (v6.alloc (.cells #[.int .i64 xAU, .int .i64 xAL, .int .i64 xAW, .slice t12A xAR.length t12C] 38)) := (Below.refl _ _).alloc (by simp) _
  replace cxA0 := kept ha14 cxA0
  replace cxA1 := kept ha14 cxA1
  replace cxA2 := kept ha14 cxA2
  replace cxA3 := kept ha14 cxA3
  replace cxM0 := kept ha14 cxM0
  replace cxM1 := kept ha14 cxM1
  replace cxM2 := kept ha14 cxM2
  replace cw00 := kept ha14 cw00
  replace cw01 := kept ha14 cw01
  replace cw02 := kept ha14 cw02
  replace cw03 := kept ha14 cw03
  replace ow0 := ow0.below ha14
  replace ot12 := ot12.below ha14
  replace hbel := hbel.trans (ha14.mono hbel.size)
  clear ha14
  have cx00 : (v6.alloc (.cells #[.int .i64 xAU, .int .i64 xAL, .int .i64 xAW, .slice t12A xAR.length t12C] 38)).cell? ⟨v6.heap.size, 0, none⟩ = some (.int .i64 xAU) := by go_simp
  have cx01 : (v6.alloc (.cells #[.int .i64 xAU, .int .i64 xAL, .int .i64 xAW, .slice t12A xAR.length t12C] 38)).cell? ⟨v6.heap.size, 1, none⟩ = some (.int .i64 xAL) := by go_simp
  have cx02 : (v6.alloc (.cells #[.int .i64 xAU, .int .i64 xAL, .int .i64 xAW, .slice t12A xAR.length t12C] 38)).cell? ⟨v6.heap.size, 2, none⟩ = some (.int .i64 xAW) := by go_simp
  have cx03 : (v6.alloc (.cells #[.int .i64 xAU, .int .i64 xAL, .int .i64 xAW, .slice t12A xAR.length t12C] 38)).cell? ⟨v6.heap.size, 3, none⟩ = some (.slice t12A xAR.length t12C) := by go_simp
  go_upto_region 7 with fail
  obtain ⟨v8, hu⟩ : ∃ u, u = (v6.alloc (.cells #[.int .i64 xAU, .int .i64 xAL, .int .i64 xAW, .slice t12A xAR.length t12C] 38)) := ⟨_, rfl⟩
  have s15 : Hid (v6.heap.size + 1 ≤ v8.heap.size) := Lib.hid (by rw [hu]; simp)
  rw [← hu] at cxA0 cxA1 cxA2 cxA3 cxM0 cxM1 cxM2 cw00 cw01 cw02 cw03 cx00 cx01 cx02 cx03 ow0 ot12 hbel ⊢
  clear hu
  go_cut [9, 10] from 16 (fun sl9 sl10 wx => BoxAba v8 (movR xAU xAL xAW xAR xM).1 (movR xAU xAL xAW xAR xM).2.1 (movR xAU xAL xAW xAR xM).2.2.1 (movR xAU xAL xAW xAR xM).2.2.2.1 sl9 wx ∧ sl10 = .int .i64 (movR xAU xAL xAW xAR xM).2.2.2.2)
  case first =>
    have rcxM0 := kept_all cxM0
    have rcxM1 := kept_all cxM1
    have rcxM2 := kept_all cxM2
    have rcx00 := kept_all cx00
    have rcx01 := kept_all cx01
    have rcx02 := kept_all cx02
    have rcx03 := kept_all cx03
    clear cxA0 cxA1 cxA2 cxA3 cxM0 cxM1 cxM2 cw00 cw01 cw02 cw03 cx00 cx01 cx02 cx03
    go_region_held3 (fun w' => Below v8.heap.size v8 w') (first | exact hk | exact (Below.refl _ _).drew | exact hk.alloc hk.size _ | exact (Below.refl _ _).drew.alloc (Nat.le_refl _) _ | exact (hk.alloc hk.size _).setCell hk.size _ | exact ((((hk.setCell bg.out _).setCell bg.out _).setCell bg.out _).setCell bg.out _))
      (first | (go_at_call 68; have qB := ‹Below v8.heap.size v8 _›; ((with_reducible refine (toBeadMove_any xM ((v8.alloc (.cells #[.int .i64 0, .int .i64 0, .int .i64 0, .slice none 0 0] 38)).drew)).mono ?_)); rintro e v9 ⟨rfl, hb⟩; have bz := ((Bx.new v8 #[.int .i64 0, .int .i64 0, .int .i64 0, .slice none 0 0] 38).drew).below hb; have bg : Hid (v8.heap.size ≤ v8.drew.heap.size) := Lib.hid (by first | exact (‹Below v8.heap.size v8 v8.drew›).size | exact Nat.le_refl _); have hk := qB.trans (hb.mono qB.size)) | (go_at_call 68; have qB := ‹Below v8.heap.size v8 _›; ((with_reducible refine (toBeadMove_any xM v8.drew).mono ?_)); rintro e v9 ⟨rfl, hb⟩; (try replace bz := bz.below hb); have hk := qB.trans (hb.mono qB.size)) | (go_at_call 52; have qB := ‹Below v8.heap.size v8 _›; ((with_reducible refine (implMoveBeads xAU xAL xAW t12A t12C xAR xM (v9.alloc (.cells #[.int .i64 0, .int .i64 0, .int .i64 0, .slice none 0 0] 38)) (ot12.below qB).rd bxAU bxAL bxAW zxA bxM).mono ?_)); rintro e v7 ⟨g0A, g0C, rfl, og0, hb⟩; have bz := (Bx.new v9 #[.int .i64 0, .int .i64 0, .int .i64 0, .slice none 0 0] 38); have bg : Hid (v8.heap.size ≤ v9.heap.size) := Lib.hid (by first | exact (‹Below v8.heap.size v8 v9›).size | exact Nat.le_refl _); have bh := Lib.hid bz.lt; replace bz := bz.below hb; have bz0 := bz.at_ 0 rfl; have bf0 := bz.thaw 0; have bz1 := bz.at_ 1 rfl; have bf1 := bz.thaw 1; have bz2 := bz.at_ 2 rfl; have bf2 := bz.thaw 2; have bz3 := bz.at_ 3 rfl; have bf3 := bz.thaw 3; have hkU := qB; have hbU := hb; have hk := qB.trans (hb.mono qB.size)) | (go_at_call 52; have qB := ‹Below v8.heap.size v8 _›; ((with_reducible refine (implMoveBeads xAU xAL xAW t12A t12C xAR xM v9 (ot12.below qB).rd bxAU bxAL bxAW zxA bxM).mono ?_)); rintro e v7 ⟨g0A, g0C, rfl, og0, hb⟩; (try (have bh := Lib.hid bz.lt; replace bz := bz.below hb; have bz0 := bz.at_ 0 rfl; have bf0 := bz.thaw 0; have bz1 := bz.at_ 1 rfl; have bf1 := bz.thaw 1; have bz2 := bz.at_ 2 rfl; have bf2 := bz.thaw 2; have bz3 := bz.at_ 3 rfl; have bf3 := bz.thaw 3)); have hkU := qB; have hbU := hb; have hk := qB.trans (hb.mono qB.size)))
    all_goals (go_wp2_with fail; go_meet; case rel => first | with_reducible exact ⟨boxAba_after hkU hbU og0, rfl⟩ | with_reducible exact ⟨boxAba_before hkU hbU og0 bz bg bh, rfl⟩ | exact ⟨boxAba_after hkU hbU og0, rfl⟩ | exact ⟨boxAba_before hkU hbU og0 bz bg bh, rfl⟩)
  case rest =>
  obtain ⟨⟨B17, g0A, g0C, B17l, B17h, rfl, cg00, cg01, cg02, cg03, og0, s18, s19, s20, s21, s22, hb⟩, rfl⟩ := hcut
  obtain ⟨v7, rfl⟩ : ∃ u, u = wc := ⟨_, rfl⟩
  have s23 : Hid (v8.heap.size ≤ v7.heap.size) := Lib.hid hb.size
  replace cxA0 := kept hb cxA0
  replace cxA1 := kept hb cxA1
  replace cxA2 := kept hb cxA2
  replace cxA3 := kept hb cxA3
  replace cxM0 := kept hb cxM0
  replace cxM1 := kept hb cxM1
  replace cxM2 := kept hb cxM2
  replace cw00 := kept hb cw00
  replace cw01 := kept hb cw01
  replace cw02 := kept hb cw02
  replace cw03 := kept hb cw03
  replace cx00 := kept hb cx00
  replace cx01 := kept hb cx01
  replace cx02 := kept hb cx02
  replace cx03 := kept hb cx03
  replace ow0 := ow0.below hb
  replace ot12 := ot12.below hb
  replace hbel := hbel.trans (hb.mono hbel.size)
  clear hb
  have q24 : abaEqB (movR xAU xAL xAW xAR xM).1 (movR xAU xAL xAW xAR xM).2.1 (movR xAU xAL xAW xAR xM).2.2.1 (movR xAU xAL xAW xAR xM).1 (movR xAU xAL xAW xAR xM).2.1 (movR xAU xAL xAW xAR xM).2.2.1 (movR xAU xAL xAW xAR xM).2.2.2.1 (movR xAU xAL xAW xAR xM).2.2.2.1 = true := abaEqB_self _ _ _ _
  go_wp2_with fail
  refine (eqAbacus_any (movR xAU xAL xAW xAR xM).1 (movR xAU xAL xAW xAR xM).2.1 (movR xAU xAL xAW xAR xM).2.2.1 (movR xAU xAL xAW xAR xM).1 (movR xAU xAL xAW xAR xM).2.1 (movR xAU xAL xAW xAR xM).2.2.1 g0A w0A g0C w0C (movR xAU xAL xAW xAR xM).2.2.2.1 (movR xAU xAL xAW xAR xM).2.2.2.1 v7 og0.rd ow0.rd).mono ?_
  rintro e v10 ⟨rfl, hb⟩
  have s25 : Hid (v7.heap.size ≤ v10.heap.size) := Lib.hid hb.size
  replace cxA0 := kept hb cxA0
  replace cxA1 := kept hb cxA1
  replace cxA2 := kept hb cxA2
  replace cxA3 := kept hb cxA3
  replace cxM0 := kept hb cxM0
  replace cxM1 := kept hb cxM1
  replace cxM2 := kept hb cxM2
  replace cw00 := kept hb cw00
  replace cw01 := kept hb cw01
  replace cw02 := kept hb cw02
  replace cw03 := kept hb cw03
  replace cx00 := kept hb cx00
  replace cx01 := kept hb cx01
  replace cx02 := kept hb cx02
  replace cx03 := kept hb cx03
  replace cg00 := kept hb cg00
  replace cg01 := kept hb cg01
  replace cg02 := kept hb cg02
  replace cg03 := kept hb cg03
  replace ow0 := ow0.below hb
  replace ot12 := ot12.below hb
  replace og0 := og0.below hb
  replace hbel := hbel.trans (hb.mono hbel.size)
  clear hb
  have q26 : abaEqB xAU xAL xAW xAU xAL xAW xAR xAR = true := abaEqB_self _ _ _ _
  go_wp2_with fail
  have rcxA0 := kept_all cxA0
  have rcxA1 := kept_all cxA1
  have rcxA2 := kept_all cxA2
  have rcxA3 := kept_all cxA3
  have rcxM0 := kept_all cxM0
  have rcxM1 := kept_all cxM1
  have rcxM2 := kept_all cxM2
  have rcw00 := kept_all cw00
  have rcw01 := kept_all cw01
  have rcw02 := kept_all cw02
  have rcw03 := kept_all cw03
  have rcx00 := kept_all cx00
  have rcx01 := kept_all cx01
  have rcx02 := kept_all cx02
  have rcx03 := kept_all cx03
  have rcg00 := kept_all cg00
  have rcg01 := kept_all cg01
  have rcg02 := kept_all cg02
  have rcg03 := kept_all cg03
  go_region_held3 (fun w' => Below v10.heap.size v10 w') (first | exact hk | exact (Below.refl _ _).drew | exact hk.alloc hk.size _ | exact (hk.alloc hk.size _).setCell hk.size _)
    (first | (go_at_call 64; have qB := ‹Below v10.heap.size v10 _›; ((with_reducible refine (toAbacus_any xAU xAL xAW xAA xAC xAR _ (hxA.below (hbel.trans (qB.mono hbel.size)))).mono ?_)); rintro e v12 ⟨t27A, t27C, rfl, ot27, hb⟩; have hk := qB.trans (hb.mono qB.size)) | (go_at_call 65; have qB := ‹Below v10.heap.size v10 _›; refine (eqAbacus_any xAU xAL xAW xAU xAL xAW t12A t27A t12C t27C xAR xAR _ (ot12.below qB).rd (by first | exact ot27.rd | exact (ot27.alloc _).rd)).mono ?_; rintro e v11 ⟨rfl, hb⟩; have hk := qB.trans (hb.mono qB.size)))
  have hb : Below v10.heap.size v10 v11 := by assumption
  clear rcxA0 rcxA1 rcxA2 rcxA3 rcxM0 rcxM1 rcxM2 rcw00 rcw01 rcw02 rcw03 rcx00 rcx01 rcx02 rcx03 rcg00 rcg01 rcg02 rcg03
  clear ot27
  have s28 : Hid (v10.heap.size ≤ v11.heap.size) := Lib.hid hb.size
  replace cxA0 := kept hb cxA0
  replace cxA1 := kept hb cxA1
  replace cxA2 := kept hb cxA2
  replace cxA3 := kept hb cxA3
  replace cxM0 := kept hb cxM0
  replace cxM1 := kept hb cxM1
  replace cxM2 := kept hb cxM2
  replace cw00 := kept hb cw00
  replace cw01 := kept hb cw01
  replace cw02 := kept hb cw02
  replace cw03 := kept hb cw03
  replace cx00 := kept hb cx00
  replace cx01 := kept hb cx01
  replace cx02 := kept hb cx02
  replace cx03 := kept hb cx03
  replace cg00 := kept hb cg00
  replace cg01 := kept hb cg01
  replace cg02 := kept hb cg02
  replace cg03 := kept hb cg03
  replace ow0 := ow0.below hb
  replace ot12 := ot12.below hb
  replace og0 := og0.below hb
  replace hbel := hbel.trans (hb.mono hbel.size)
  clear hb
  go_wp2_with fail
  refine (markAbacus_any _ _ _ xAU xAL xAW t12A t12C 1 xAR v11 ot12 (by have := ow0.len; have := ot12.len; have := og0.len; have := hxA.len; omega) (by have := ow0.len; have := ot12.len; have := og0.len; have := hxA.len; omega)).mono ?_
  rintro e v13 ⟨rfl, om, ht⟩
  have s29 : Hid (v11.heap.size ≤ v13.heap.size) := Lib.hid ht.size
  clear ot12
  have ot12 := om
  clear om
  replace cxA0 := keptT ht cxA0 (by have := s1.out; have := s2.out; have := s6.out; have := s7.out; have := s8.out; have := s9.out; have := s10.out; have := s11.out; have := s13.out; have := s15.out; have := s18.out; have := s19.out; have := s20.out; have := s21.out; have := s22.out; have := s23.out; have := s25.out; have := s28.out; have := s29.out; omega)
  replace cxA1 := keptT ht cxA1 (by have := s1.out; have := s2.out; have := s6.out; have := s7.out; have := s8.out; have := s9.out; have := s10.out; have := s11.out; have := s13.out; have := s15.out; have := s18.out; have := s19.out; have := s20.out; have := s21.out; have := s22.out; have := s23.out; have := s25.out; have := s28.out; have := s29.out; omega)
  replace cxA2 := keptT ht cxA2 (by have := s1.out; have := s2.out; have := s6.out; have := s7.out; have := s8.out; have := s9.out; have := s10.out; have := s11.out; have := s13.out; have := s15.out; have := s18.out; have := s19.out; have := s20.out; have := s21.out; have := s22.out; have := s23.out; have := s25.out; have := s28.out; have := s29.out; omega)
  replace cxA3 := keptT ht cxA3 (by have := s1.out; have := s2.out; have := s6.out; have := s7.out; have := s8.out; have := s9.out; have := s10.out; have := s11.out; have := s13.out; have := s15.out; have := s18.out; have := s19.out; have := s20.out; have := s21.out; have := s22.out; have := s23.out; have := s25.out; have := s28.out; have := s29.out; omega)
  replace cxM0 := keptT ht cxM0 (by have := s1.out; have := s2.out; have := s6.out; have := s7.out; have := s8.out; have := s9.out; have := s10.out; have := s11.out; have := s13.out; have := s15.out; have := s18.out; have := s19.out; have := s20.out; have := s21.out; have := s22.out; have := s23.out; have := s25.out; have := s28.out; have := s29.out; omega)
  replace cxM1 := keptT ht cxM1 (by have := s1.out; have := s2.out; have := s6.out; have := s7.out; have := s8.out; have := s9.out; have := s10.out; have := s11.out; have := s13.out; have := s15.out; have := s18.out; have := s19.out; have := s20.out; have := s21.out; have := s22.out; have := s23.out; have := s25.out; have := s28.out; have := s29.out; omega)
  replace cxM2 := keptT ht cxM2 (by have := s1.out; have := s2.out; have := s6.out; have := s7.out; have := s8.out; have := s9.out; have := s10.out; have := s11.out; have := s13.out; have := s15.out; have := s18.out; have := s19.out; have := s20.out; have := s21.out; have := s22.out; have := s23.out; have := s25.out; have := s28.out; have := s29.out; omega)
  replace cw00 := keptT ht cw00 (by have := s1.out; have := s2.out; have := s6.out; have := s7.out; have := s8.out; have := s9.out; have := s10.out; have := s11.out; have := s13.out; have := s15.out; have := s18.out; have := s19.out; have := s20.out; have := s21.out; have := s22.out; have := s23.out; have := s25.out; have := s28.out; have := s29.out; omega)
  replace cw01 := keptT ht cw01 (by have := s1.out; have := s2.out; have := s6.out; have := s7.out; have := s8.out; have := s9.out; have := s10.out; have := s11.out; have := s13.out; have := s15.out; have := s18.out; have := s19.out; have := s20.out; have := s21.out; have := s22.out; have := s23.out; have := s25.out; have := s28.out; have := s29.out; omega)
  replace cw02 := keptT ht cw02 (by have := s1.out; have := s2.out; have := s6.out; have := s7.out; have := s8.out; have := s9.out; have := s10.out; have := s11.out; have := s13.out; have := s15.out; have := s18.out; have := s19.out; have := s20.out; have := s21.out; have := s22.out; have := s23.out; have := s25.out; have := s28.out; have := s29.out; omega)
  replace cw03 := keptT ht cw03 (by have := s1.out; have := s2.out; have := s6.out; have := s7.out; have := s8.out; have := s9.out; have := s10.out; have := s11.out; have := s13.out; have := s15.out; have := s18.out; have := s19.out; have := s20.out; have := s21.out; have := s22.out; have := s23.out; have := s25.out; have := s28.out; have := s29.out; omega)
  replace cx00 := keptT ht cx00 (by have := s1.out; have := s2.out; have := s6.out; have := s7.out; have := s8.out; have := s9.out; have := s10.out; have := s11.out; have := s13.out; have := s15.out; have := s18.out; have := s19.out; have := s20.out; have := s21.out; have := s22.out; have := s23.out; have := s25.out; have := s28.out; have := s29.out; omega)
  replace cx01 := keptT ht cx01 (by have := s1.out; have := s2.out; have := s6.out; have := s7.out; have := s8.out; have := s9.out; have := s10.out; have := s11.out; have := s13.out; have := s15.out; have := s18.out; have := s19.out; have := s20.out; have := s21.out; have := s22.out; have := s23.out; have := s25.out; have := s28.out; have := s29.out; omega)
  replace cx02 := keptT ht cx02 (by have := s1.out; have := s2.out; have := s6.out; have := s7.out; have := s8.out; have := s9.out; have := s10.out; have := s11.out; have := s13.out; have := s15.out; have := s18.out; have := s19.out; have := s20.out; have := s21.out; have := s22.out; have := s23.out; have := s25.out; have := s28.out; have := s29.out; omega)
  replace cx03 := keptT ht cx03 (by have := s1.out; have := s2.out; have := s6.out; have := s7.out; have := s8.out; have := s9.out; have := s10.out; have := s11.out; have := s13.out; have := s15.out; have := s18.out; have := s19.out; have := s20.out; have := s21.out; have := s22.out; have := s23.out; have := s25.out; have := s28.out; have := s29.out; omega)
  replace cg00 := keptT ht cg00 (by have := s1.out; have := s2.out; have := s6.out; have := s7.out; have := s8.out; have := s9.out; have := s10.out; have := s11.out; have := s13.out; have := s15.out; have := s18.out; have := s19.out; have := s20.out; have := s21.out; have := s22.out; have := s23.out; have := s25.out; have := s28.out; have := s29.out; omega)
  replace cg01 := keptT ht cg01 (by have := s1.out; have := s2.out; have := s6.out; have := s7.out; have := s8.out; have := s9.out; have := s10.out; have := s11.out; have := s13.out; have := s15.out; have := s18.out; have := s19.out; have := s20.out; have := s21.out; have := s22.out; have := s23.out; have := s25.out; have := s28.out; have := s29.out; omega)
  replace cg02 := keptT ht cg02 (by have := s1.out; have := s2.out; have := s6.out; have := s7.out; have := s8.out; have := s9.out; have := s10.out; have := s11.out; have := s13.out; have := s15.out; have := s18.out; have := s19.out; have := s20.out; have := s21.out; have := s22.out; have := s23.out; have := s25.out; have := s28.out; have := s29.out; omega)
  replace cg03 := keptT ht cg03 (by have := s1.out; have := s2.out; have := s6.out; have := s7.out; have := s8.out; have := s9.out; have := s10.out; have := s11.out; have := s13.out; have := s15.out; have := s18.out; have := s19.out; have := s20.out; have := s21.out; have := s22.out; have := s23.out; have := s25.out; have := s28.out; have := s29.out; omega)
  replace ow0 := ow0.touch ht (by have := s1.out; have := s2.out; have := s6.out; have := s7.out; have := s8.out; have := s9.out; have := s10.out; have := s11.out; have := s13.out; have := s15.out; have := s18.out; have := s19.out; have := s20.out; have := s21.out; have := s22.out; have := s23.out; have := s25.out; have := s28.out; have := s29.out; omega)
  replace og0 := og0.touch ht (by have := s1.out; have := s2.out; have := s6.out; have := s7.out; have := s8.out; have := s9.out; have := s10.out; have := s11.out; have := s13.out; have := s15.out; have := s18.out; have := s19.out; have := s20.out; have := s21.out; have := s22.out; have := s23.out; have := s25.out; have := s28.out; have := s29.out; omega)
  replace hbel := hbel.trans (ht.below (by have := s1.out; have := s2.out; have := s6.out; have := s7.out; have := s8.out; have := s9.out; have := s10.out; have := s11.out; have := s13.out; have := s15.out; have := s18.out; have := s19.out; have := s20.out; have := s21.out; have := s22.out; have := s23.out; have := s25.out; have := s28.out; have := s29.out; omega) hbel.size)
  clear ht
  have q30 : abaEqB (movR xAU xAL xAW xAR xM).1 (movR xAU xAL xAW xAR xM).2.1 (movR xAU xAL xAW xAR xM).2.2.1 (movR xAU xAL xAW xAR xM).1 (movR xAU xAL xAW xAR xM).2.1 (movR xAU xAL xAW xAR xM).2.2.1 (movR xAU xAL xAW xAR xM).2.2.2.1 (movR xAU xAL xAW xAR xM).2.2.2.1 = true := abaEqB_self _ _ _ _
  go_wp2_with fail
  refine (eqAbacus_any (movR xAU xAL xAW xAR xM).1 (movR xAU xAL xAW xAR xM).2.1 (movR xAU xAL xAW xAR xM).2.2.1 (movR xAU xAL xAW xAR xM).1 (movR xAU xAL xAW xAR xM).2.1 (movR xAU xAL xAW xAR xM).2.2.1 g0A w0A g0C w0C (movR xAU xAL xAW xAR xM).2.2.2.1 (movR xAU xAL xAW xAR xM).2.2.2.1 v13 og0.rd ow0.rd).mono ?_
  rintro e v14 ⟨rfl, hb⟩
  have s31 : Hid (v13.heap.size ≤ v14.heap.size) := Lib.hid hb.size
  replace cxA0 := kept hb cxA0
  replace cxA1 := kept hb cxA1
  replace cxA2 := kept hb cxA2
  replace cxA3 := kept hb cxA3
  replace cxM0 := kept hb cxM0
  replace cxM1 := kept hb cxM1
  replace cxM2 := kept hb cxM2
  replace cw00 := kept hb cw00
  replace cw01 := kept hb cw01
  replace cw02 := kept hb cw02
  replace cw03 := kept hb cw03
  replace cx00 := kept hb cx00
  replace cx01 := kept hb cx01
  replace cx02 := kept hb cx02
  replace cx03 := kept hb cx03
  replace cg00 := kept hb cg00
  replace cg01 := kept hb cg01
  replace cg02 := kept hb cg02
  replace cg03 := kept hb cg03
  replace ow0 := ow0.below hb
  replace ot12 := ot12.below hb
  replace og0 := og0.below hb
  replace hbel := hbel.trans (hb.mono hbel.size)
  clear hb
  go_wp2_with fail
  refine (markAbacus_any _ _ _ (movR xAU xAL xAW xAR xM).1 (movR xAU xAL xAW xAR xM).2.1 (movR xAU xAL xAW xAR xM).2.2.1 g0A g0C 1 (movR xAU xAL xAW xAR xM).2.2.2.1 v14 og0 (by have := ow0.len; have := ot12.len; have := og0.len; have := hxA.len; omega) (by have := ow0.len; have := ot12.len; have := og0.len; have := hxA.len; omega)).mono ?_
  rintro e v15 ⟨rfl, om, ht⟩
  have s32 : Hid (v14.heap.size ≤ v15.heap.size) := Lib.hid ht.size
  clear og0
  have og0 := om
  clear om
  replace cxA0 := keptT ht cxA0 (by have := s1.out; have := s2.out; have := s6.out; have := s7.out; have := s8.out; have := s9.out; have := s10.out; have := s11.out; have := s13.out; have := s15.out; have := s18.out; have := s19.out; have := s20.out; have := s21.out; have := s22.out; have := s23.out; have := s25.out; have := s28.out; have := s29.out; have := s31.out; have := s32.out; omega)
  replace cxA1 := keptT ht cxA1 (by have := s1.out; have := s2.out; have := s6.out; have := s7.out; have := s8.out; have := s9.out; have := s10.out; have := s11.out; have := s13.out; have := s15.out; have := s18.out; have := s19.out; have := s20.out; have := s21.out; have := s22.out; have := s23.out; have := s25.out; have := s28.out; have := s29.out; have := s31.out; have := s32.out; omega)
  replace cxA2 := keptT ht cxA2 (by have := s1.out; have := s2.out; have := s6.out; have := s7.out; have := s8.out; have := s9.out; have := s10.out; have := s11.out; have := s13.out; have := s15.out; have := s18.out; have := s19.out; have := s20.out; have := s21.out; have := s22.out; have := s23.out; have := s25.out; have := s28.out; have := s29.out; have := s31.out; have := s32.out; omega)
  replace cxA3 := keptT ht cxA3 (by have := s1.out; have := s2.out; have := s6.out; have := s7.out; have := s8.out; have := s9.out; have := s10.out; have := s11.out; have := s13.out; have := s15.out; have := s18.out; have := s19.out; have := s20.out; have := s21.out; have := s22.out; have := s23.out; have := s25.out; have := s28.out; have := s29.out; have := s31.out; have := s32.out; omega)
  replace cxM0 := keptT ht cxM0 (by have := s1.out; have := s2.out; have := s6.out; have := s7.out; have := s8.out; have := s9.out; have := s10.out; have := s11.out; have := s13.out; have := s15.out; have := s18.out; have := s19.out; have := s20.out; have := s21.out; have := s22.out; have := s23.out; have := s25.out; have := s28.out; have := s29.out; have := s31.out; have := s32.out; omega)
  replace cxM1 := keptT ht cxM1 (by have := s1.out; have := s2.out; have := s6.out; have := s7.out; have := s8.out; have := s9.out; have := s10.out; have := s11.out; have := s13.out; have := s15.out; have := s18.out; have := s19.out; have := s20.out; have := s21.out; have := s22.out; have := s23.out; have := s25.out; have := s28.out; have := s29.out; have := s31.out; have := s32.out; omega)
  replace cxM2 := keptT ht cxM2 (by have := s1.out; have := s2.out; have := s6.out; have := s7.out; have := s8.out; have := s9.out; have := s10.out; have := s11.out; have := s13.out; have := s15.out; have := s18.out; have := s19.out; have := s20.out; have := s21.out; have := s22.out; have := s23.out; have := s25.out; have := s28.out; have := s29.out; have := s31.out; have := s32.out; omega)
  replace cw00 := keptT ht cw00 (by have := s1.out; have := s2.out; have := s6.out; have := s7.out; have := s8.out; have := s9.out; have := s10.out; have := s11.out; have := s13.out; have := s15.out; have := s18.out; have := s19.out; have := s20.out; have := s21.out; have := s22.out; have := s23.out; have := s25.out; have := s28.out; have := s29.out; have := s31.out; have := s32.out; omega)
  replace cw01 := keptT ht cw01 (by have := s1.out; have := s2.out; have := s6.out; have := s7.out; have := s8.out; have := s9.out; have := s10.out; have := s11.out; have := s13.out; have := s15.out; have := s18.out; have := s19.out; have := s20.out; have := s21.out; have := s22.out; have := s23.out; have := s25.out; have := s28.out; have := s29.out; have := s31.out; have := s32.out; omega)
  replace cw02 := keptT ht cw02 (by have := s1.out; have := s2.out; have := s6.out; have := s7.out; have := s8.out; have := s9.out; have := s10.out; have := s11.out; have := s13.out; have := s15.out; have := s18.out; have := s19.out; have := s20.out; have := s21.out; have := s22.out; have := s23.out; have := s25.out; have := s28.out; have := s29.out; have := s31.out; have := s32.out; omega)
  replace cw03 := keptT ht cw03 (by have := s1.out; have := s2.out; have := s6.out; have := s7.out; have := s8.out; have := s9.out; have := s10.out; have := s11.out; have := s13.out; have := s15.out; have := s18.out; have := s19.out; have := s20.out; have := s21.out; have := s22.out; have := s23.out; have := s25.out; have := s28.out; have := s29.out; have := s31.out; have := s32.out; omega)
  replace cx00 := keptT ht cx00 (by have := s1.out; have := s2.out; have := s6.out; have := s7.out; have := s8.out; have := s9.out; have := s10.out; have := s11.out; have := s13.out; have := s15.out; have := s18.out; have := s19.out; have := s20.out; have := s21.out; have := s22.out; have := s23.out; have := s25.out; have := s28.out; have := s29.out; have := s31.out; have := s32.out; omega)
  replace cx01 := keptT ht cx01 (by have := s1.out; have := s2.out; have := s6.out; have := s7.out; have := s8.out; have := s9.out; have := s10.out; have := s11.out; have := s13.out; have := s15.out; have := s18.out; have := s19.out; have := s20.out; have := s21.out; have := s22.out; have := s23.out; have := s25.out; have := s28.out; have := s29.out; have := s31.out; have := s32.out; omega)
  replace cx02 := keptT ht cx02 (by have := s1.out; have := s2.out; have := s6.out; have := s7.out; have := s8.out; have := s9.out; have := s10.out; have := s11.out; have := s13.out; have := s15.out; have := s18.out; have := s19.out; have := s20.out; have := s21.out; have := s22.out; have := s23.out; have := s25.out; have := s28.out; have := s29.out; have := s31.out; have := s32.out; omega)
  replace cx03 := keptT ht cx03 (by have := s1.out; have := s2.out; have := s6.out; have := s7.out; have := s8.out; have := s9.out; have := s10.out; have := s11.out; have := s13.out; have := s15.out; have := s18.out; have := s19.out; have := s20.out; have := s21.out; have := s22.out; have := s23.out; have := s25.out; have := s28.out; have := s29.out; have := s31.out; have := s32.out; omega)
  replace cg00 := keptT ht cg00 (by have := s1.out; have := s2.out; have := s6.out; have := s7.out; have := s8.out; have := s9.out; have := s10.out; have := s11.out; have := s13.out; have := s15.out; have := s18.out; have := s19.out; have := s20.out; have := s21.out; have := s22.out; have := s23.out; have := s25.out; have := s28.out; have := s29.out; have := s31.out; have := s32.out; omega)
  replace cg01 := keptT ht cg01 (by have := s1.out; have := s2.out; have := s6.out; have := s7.out; have := s8.out; have := s9.out; have := s10.out; have := s11.out; have := s13.out; have := s15.out; have := s18.out; have := s19.out; have := s20.out; have := s21.out; have := s22.out; have := s23.out; have := s25.out; have := s28.out; have := s29.out; have := s31.out; have := s32.out; omega)
  replace cg02 := keptT ht cg02 (by have := s1.out; have := s2.out; have := s6.out; have := s7.out; have := s8.out; have := s9.out; have := s10.out; have := s11.out; have := s13.out; have := s15.out; have := s18.out; have := s19.out; have := s20.out; have := s21.out; have := s22.out; have := s23.out; have := s25.out; have := s28.out; have := s29.out; have := s31.out; have := s32.out; omega)
  replace cg03 := keptT ht cg03 (by have := s1.out; have := s2.out; have := s6.out; have := s7.out; have := s8.out; have := s9.out; have := s10.out; have := s11.out; have := s13.out; have := s15.out; have := s18.out; have := s19.out; have := s20.out; have := s21.out; have := s22.out; have := s23.out; have := s25.out; have := s28.out; have := s29.out; have := s31.out; have := s32.out; omega)
  replace ow0 := ow0.touch ht (by have := s1.out; have := s2.out; have := s6.out; have := s7.out; have := s8.out; have := s9.out; have := s10.out; have := s11.out; have := s13.out; have := s15.out; have := s18.out; have := s19.out; have := s20.out; have := s21.out; have := s22.out; have := s23.out; have := s25.out; have := s28.out; have := s29.out; have := s31.out; have := s32.out; omega)
  replace ot12 := ot12.touch ht (by have := s1.out; have := s2.out; have := s6.out; have := s7.out; have := s8.out; have := s9.out; have := s10.out; have := s11.out; have := s13.out; have := s15.out; have := s18.out; have := s19.out; have := s20.out; have := s21.out; have := s22.out; have := s23.out; have := s25.out; have := s28.out; have := s29.out; have := s31.out; have := s32.out; omega)
  replace hbel := hbel.trans (ht.below (by have := s1.out; have := s2.out; have := s6.out; have := s7.out; have := s8.out; have := s9.out; have := s10.out; have := s11.out; have := s13.out; have := s15.out; have := s18.out; have := s19.out; have := s20.out; have := s21.out; have := s22.out; have := s23.out; have := s25.out; have := s28.out; have := s29.out; have := s31.out; have := s32.out; omega) hbel.size)
  clear ht
  go_wp2_with fail
  refine (heldAbacus_any (movR xAU xAL xAW xAR xM).1 (movR xAU xAL xAW xAR xM).2.1 (movR xAU xAL xAW xAR xM).2.2.1 g0A g0C 1 (movR xAU xAL xAW xAR xM).2.2.2.1.length v15 og0.rd (by have := ow0.len; have := ot12.len; have := og0.len; have := hxA.len; omega) (by have := ow0.len; have := ot12.len; have := og0.len; have := hxA.len; omega)).mono ?_
  rintro e v16 ⟨rfl, hb⟩
  have s33 : Hid (v15.heap.size ≤ v16.heap.size) := Lib.hid hb.size
  replace cxA0 := kept hb cxA0
  replace cxA1 := kept hb cxA1
  replace cxA2 := kept hb cxA2
  replace cxA3 := kept hb cxA3
  replace cxM0 := kept hb cxM0
  replace cxM1 := kept hb cxM1
  replace cxM2 := kept hb cxM2
  replace cw00 := kept hb cw00
  replace cw01 := kept hb cw01
  replace cw02 := kept hb cw02
  replace cw03 := kept hb cw03
  replace cx00 := kept hb cx00
  replace cx01 := kept hb cx01
  replace cx02 := kept hb cx02
  replace cx03 := kept hb cx03
  replace cg00 := kept hb cg00
  replace cg01 := kept hb cg01
  replace cg02 := kept hb cg02
  replace cg03 := kept hb cg03
  replace ow0 := ow0.below hb
  replace ot12 := ot12.below hb
  replace og0 := og0.below hb
  replace hbel := hbel.trans (hb.mono hbel.size)
  clear hb
  go_upto_region 24 with fail
  go_cut [14, 15] from 16 (fun sl14 sl15 wx => BoxAba v16 (movR xAU xAL xAW xAR xM).1 (movR xAU xAL xAW xAR xM).2.1 (movR xAU xAL xAW xAR xM).2.2.1 (movR xAU xAL xAW xAR xM).2.2.2.1 sl14 wx ∧ sl15 = .int .i64 (movR xAU xAL xAW xAR xM).2.2.2.2)
  case first =>
    have rcxA0 := kept_all cxA0
    have rcxA1 := kept_all cxA1
    have rcxA2 := kept_all cxA2
    have rcxA3 := kept_all cxA3
    have rcxM0 := kept_all cxM0
    have rcxM1 := kept_all cxM1
    have rcxM2 := kept_all cxM2
    clear cxA0 cxA1 cxA2 cxA3 cxM0 cxM1 cxM2 cw00 cw01 cw02 cw03 cx00 cx01 cx02 cx03 cg00 cg01 cg02 cg03
    go_region_held3 (fun w' => Below v16.heap.size v16 w') (first | exact hk | exact (Below.refl _ _).drew | exact hk.alloc hk.size _ | exact (Below.refl _ _).drew.alloc (Nat.le_refl _) _ | exact (hk.alloc hk.size _).setCell hk.size _ | exact ((((hk.setCell bg.out _).setCell bg.out _).setCell bg.out _).setCell bg.out _))
      (first | (go_at_call 64; have qB := ‹Below v16.heap.size v16 _›; ((with_reducible refine (toAbacus_any xAU xAL xAW xAA xAC xAR ((v16.alloc (.cells #[.int .i64 0, .int .i64 0, .int .i64 0, .slice none 0 0] 38)).drew) (hxA.below (hbel.trans (qB.mono hbel.size)))).mono ?_)); rintro e v18 ⟨t34A, t34C, rfl, ot34, hb⟩; have bz := ((Bx.new v16 #[.int .i64 0, .int .i64 0, .int .i64 0, .slice none 0 0] 38).drew).below hb; have bg : Hid (v16.heap.size ≤ v16.drew.heap.size) := Lib.hid (by first | exact (‹Below v16.heap.size v16 v16.drew›).size | exact Nat.le_refl _); have hk := qB.trans (hb.mono qB.size)) | (go_at_call 64; have qB := ‹Below v16.heap.size v16 _›; ((with_reducible refine (toAbacus_any xAU xAL xAW xAA xAC xAR v16.drew (hxA.below (hbel.trans (qB.mono hbel.size)))).mono ?_)); rintro e v18 ⟨t34A, t34C, rfl, ot34, hb⟩; (try replace bz := bz.below hb); have hk := qB.trans (hb.mono qB.size)) | (go_at_call 68; have qB := ‹Below v16.heap.size v16 _›; ((with_reducible refine (toBeadMove_any xM (v18.alloc (.cells #[.int .i64 0, .int .i64 0, .int .i64 0, .slice none 0 0] 38))).mono ?_)); rintro e v19 ⟨rfl, hb⟩; replace ot34 := (ot34.alloc _).below hb; have bz := (Bx.new v18 #[.int .i64 0, .int .i64 0, .int .i64 0, .slice none 0 0] 38).below hb; have bg : Hid (v16.heap.size ≤ v18.heap.size) := Lib.hid (by first | exact (‹Below v16.heap.size v16 v18›).size | exact Nat.le_refl _); have hk := qB.trans (hb.mono qB.size)) | (go_at_call 68; have qB := ‹Below v16.heap.size v16 _›; ((with_reducible refine (toBeadMove_any xM v18).mono ?_)); rintro e v19 ⟨rfl, hb⟩; replace ot34 := ot34.below hb; (try replace bz := bz.below hb); have hk := qB.trans (hb.mono qB.size)) | (go_at_call 52; have qB := ‹Below v16.heap.size v16 _›; ((with_reducible refine (implMoveBeads xAU xAL xAW t34A t34C xAR xM (v19.alloc (.cells #[.int .i64 0, .int .i64 0, .int .i64 0, .slice none 0 0] 38)) (ot34.alloc _).rd bxAU bxAL bxAW zxA bxM).mono ?_)); rintro e v17 ⟨h0A, h0C, rfl, oh0, hb⟩; have bz := (Bx.new v19 #[.int .i64 0, .int .i64 0, .int .i64 0, .slice none 0 0] 38); have bg : Hid (v16.heap.size ≤ v19.heap.size) := Lib.hid (by first | exact (‹Below v16.heap.size v16 v19›).size | exact Nat.le_refl _); have bh := Lib.hid bz.lt; replace bz := bz.below hb; have bz0 := bz.at_ 0 rfl; have bf0 := bz.thaw 0; have bz1 := bz.at_ 1 rfl; have bf1 := bz.thaw 1; have bz2 := bz.at_ 2 rfl; have bf2 := bz.thaw 2; have bz3 := bz.at_ 3 rfl; have bf3 := bz.thaw 3; have hkU := qB; have hbU := hb; have hk := qB.trans (hb.mono qB.size)) | (go_at_call 52; have qB := ‹Below v16.heap.size v16 _›; ((with_reducible refine (implMoveBeads xAU xAL xAW t34A t34C xAR xM v19 ot34.rd bxAU bxAL bxAW zxA bxM).mono ?_)); rintro e v17 ⟨h0A, h0C, rfl, oh0, hb⟩; (try (have bh := Lib.hid bz.lt; replace bz := bz.below hb; have bz0 := bz.at_ 0 rfl; have bf0 := bz.thaw 0; have bz1 := bz.at_ 1 rfl; have bf1 := bz.thaw 1; have bz2 := bz.at_ 2 rfl; have bf2 := bz.thaw 2; have bz3 := bz.at_ 3 rfl; have bf3 := bz.thaw 3)); have hkU := qB; have hbU := hb; have hk := qB.trans (hb.mono qB.size)))
    all_goals (go_wp2_with fail; go_meet; case rel => first | with_reducible exact ⟨boxAba_after hkU hbU oh0, rfl⟩ | with_reducible exact ⟨boxAba_before hkU hbU oh0 bz bg bh, rfl⟩ | exact ⟨boxAba_after hkU hbU oh0, rfl⟩ | exact ⟨boxAba_before hkU hbU oh0 bz bg bh, rfl⟩)
  case rest =>
  obtain ⟨⟨B36, h0A, h0C, B36l, B36h, rfl, ch00, ch01, ch02, ch03, oh0, s37, s38, s39, s40, s41, hb⟩, rfl⟩ := hcut
  obtain ⟨v17, rfl⟩ : ∃ u, u = wc := ⟨_, rfl⟩
  have s42 : Hid (v16.heap.size ≤ v17.heap.size) := Lib.hid hb.size
  replace cxA0 := kept hb cxA0
  replace cxA1 := kept hb cxA1
  replace cxA2 := kept hb cxA2
  replace cxA3 := kept hb cxA3
  replace cxM0 := kept hb cxM0
  replace cxM1 := kept hb cxM1
  replace cxM2 := kept hb cxM2
  replace cw00 := kept hb cw00
  replace cw01 := kept hb cw01
  replace cw02 := kept hb cw02
  replace cw03 := kept hb cw03
  replace cx00 := kept hb cx00
  replace cx01 := kept hb cx01
  replace cx02 := kept hb cx02
  replace cx03 := kept hb cx03
  replace cg00 := kept hb cg00
  replace cg01 := kept hb cg01
  replace cg02 := kept hb cg02
  replace cg03 := kept hb cg03
  replace ow0 := ow0.below hb
  replace ot12 := ot12.below hb
  replace og0 := og0.below hb
  replace hbel := hbel.trans (hb.mono hbel.size)
  clear hb
  have q43 : abaEqB (movR xAU xAL xAW xAR xM).1 (movR xAU xAL xAW xAR xM).2.1 (movR xAU xAL xAW xAR xM).2.2.1 (movR xAU xAL xAW xAR xM).1 (movR xAU xAL xAW xAR xM).2.1 (movR xAU xAL xAW xAR xM).2.2.1 (movR xAU xAL xAW xAR xM).2.2.2.1 (movR xAU xAL xAW xAR xM).2.2.2.1 = true := abaEqB_self _ _ _ _
  go_wp2_with fail
  refine (eqAbacus_any (movR xAU xAL xAW xAR xM).1 (movR xAU xAL xAW xAR xM).2.1 (movR xAU xAL xAW xAR xM).2.2.1 (movR xAU xAL xAW xAR xM).1 (movR xAU xAL xAW xAR xM).2.1 (movR xAU xAL xAW xAR xM).2.2.1 h0A w0A h0C w0C (movR xAU xAL xAW xAR xM).2.2.2.1 (movR xAU xAL xAW xAR xM).2.2.2.1 v17 oh0.rd ow0.rd).mono ?_
  rintro e v20 ⟨rfl, hb⟩
  have s44 : Hid (v17.heap.size ≤ v20.heap.size) := Lib.hid hb.size
  replace cxA0 := kept hb cxA0
  replace cxA1 := kept hb cxA1
  replace cxA2 := kept hb cxA2
  replace cxA3 := kept hb cxA3
  replace cxM0 := kept hb cxM0
  replace cxM1 := kept hb cxM1
  replace cxM2 := kept hb cxM2
  replace cw00 := kept hb cw00
  replace cw01 := kept hb cw01
  replace cw02 := kept hb cw02
  replace cw03 := kept hb cw03
  replace cx00 := kept hb cx00
  replace cx01 := kept hb cx01
  replace cx02 := kept hb cx02
  replace cx03 := kept hb cx03
  replace cg00 := kept hb cg00
  replace cg01 := kept hb cg01
  replace cg02 := kept hb cg02
  replace cg03 := kept hb cg03
  replace ch00 := kept hb ch00
  replace ch01 := kept hb ch01
  replace ch02 := kept hb ch02
  replace ch03 := kept hb ch03
  replace ow0 := ow0.below hb
  replace ot12 := ot12.below hb
  replace og0 := og0.below hb
  replace oh0 := oh0.below hb
  replace hbel := hbel.trans (hb.mono hbel.size)
  clear hb
  go_wp2_with fail
  refine (heldAbacus_any (movR xAU xAL xAW xAR xM).1 (movR xAU xAL xAW xAR xM).2.1 (movR xAU xAL xAW xAR xM).2.2.1 g0A g0C 1 (movR xAU xAL xAW xAR xM).2.2.2.1.length v20 og0.rd (by have := ow0.len; have := ot12.len; have := og0.len; have := oh0.len; have := hxA.len; omega) (by have := ow0.len; have := ot12.len; have := og0.len; have := oh0.len; have := hxA.len; omega)).mono ?_
  rintro e v21 ⟨rfl, hb⟩
  have s45 : Hid (v20.heap.size ≤ v21.heap.size) := Lib.hid hb.size
  replace cxA0 := kept hb cxA0
  replace cxA1 := kept hb cxA1
  replace cxA2 := kept hb cxA2
  replace cxA3 := kept hb cxA3
  replace cxM0 := kept hb cxM0
  replace cxM1 := kept hb cxM1
  replace cxM2 := kept hb cxM2
  replace cw00 := kept hb cw00
  replace cw01 := kept hb cw01
  replace cw02 := kept hb cw02
  replace cw03 := kept hb cw03
  replace cx00 := kept hb cx00
  replace cx01 := kept hb cx01
  replace cx02 := kept hb cx02
  replace cx03 := kept hb cx03
  replace cg00 := kept hb cg00
  replace cg01 := kept hb cg01
  replace cg02 := kept hb cg02
  replace cg03 := kept hb cg03
  replace ch00 := kept hb ch00
  replace ch01 := kept hb ch01
  replace ch02 := kept hb ch02
  replace ch03 := kept hb ch03
  replace ow0 := ow0.below hb
  replace ot12 := ot12.below hb
  replace og0 := og0.below hb
  replace oh0 := oh0.below hb
  replace hbel := hbel.trans (hb.mono hbel.size)
  clear hb
  go_wp2
  go_ret
  exact ⟨rfl, hbel⟩

set_option maxRecDepth 100000 in
theorem lifted (os : Os) (started : os.Started) (H : Type) (enc : TypeId × Value → H) :
    ReturnsInHanded {} Try.checked os 13 .any (Rows.fnExactMoveBeadsSpec.pre6 enc Try.prog Try.f13 Rows.fnExactMoveBeadsRow.domain false) (Rows.fnExactMoveBeadsSpec.post enc Try.prog Try.f13 false true false false) := by
  refine returnsInHanded_of_change (C := Try.checked) own_knob started (by kernel_rfl) Try.func13
    (ChangeSpec.witness6 (enc := enc) (C := Try.checked) false ⟨#[], #[.agg #[.int .i64 0, .int .i64 0, .int .i64 0, .slice none 0 0], .agg #[.int .i64 0, .int .i64 0, .int .i64 0]], []⟩ 8 (by kernel_rfl) (by kernel_rfl) (by kernel_rfl) (by kernel_rfl)) ?_
  intro W base args ds gs before hval0 hW hcnd _
  have hval : ∀ (j : Nat) t v, Try.f13.params[j]? = some t → args[j]? = some v → Value.okWide Try.prog W .any base t v := hval0
  have hW' := hW
  obtain ⟨p, q, hA0, hV, rfl, hfz, hnd⟩ := hW
  have hA : DataW.TrodAll enc Try.prog W 0 (fun _ => true) true Try.f13.params.toList args.toList ds p := hA0
  rw [Try.params13] at hA hval
  obtain ⟨v0, vs0, d0, ds0, p0, q0, hargs, rfl, rfl, h0, r0⟩ := trodAll_cons hA
  obtain ⟨v1, vs1, d1, ds1, p1, q1, rfl, rfl, rfl, h1, r1⟩ := trodAll_cons r0
  obtain ⟨rfl, rfl, rfl⟩ := trodAll_nil r1
  obtain rfl : args = #[v0, v1] := by cases args; simp_all
  obtain ⟨rfl, rfl⟩ := trodVars_none hV
  have k0 := h0
  have lt0 : ∀ x ∈ p0, x.block < W.heap.size := by obtain ⟨m, hm⟩ := k0; exact DataW.trod_lt m _ _ _ hm
  obtain ⟨xAU, xAL, xAW, xAA, xAC, xAR, rfl, hxA, bxAU, bxAL, bxAW⟩ := open_Abacus (hval 0 73 v0 rfl rfl) h0
  have k1 := h1
  have lt1 : ∀ x ∈ p1, x.block < W.heap.size := by obtain ⟨m, hm⟩ := k1; exact DataW.trod_lt m _ _ _ hm
  obtain ⟨xM, rfl, bxM⟩ := open_BeadMove (hval 1 80 v1 rfl rfl) h1
  clear hA0 hval0
  refine (law_walk xAU xAL xAW xAA xAC xAR xM W hxA bxAU bxAL bxAW bxM).mono fun e W' ⟨he, bel⟩ => ?_
  subst he
  exact ⟨_, rfl, _, _, _, [], _, [], hW', trodAll_mk1 (shut_bool Try.underlying4 _), (trodAll_cons_mk (Below.trod laid_out (by kernel_rfl) (of_decide_eq_true (by kernel_rfl)) k0 bel lt0) (trodAll_cons_mk (Below.trod laid_out (by kernel_rfl) (of_decide_eq_true (by kernel_rfl)) k1 bel lt1) trodAll_mk0)), rfl, bel.frame _, fun h => by cases h⟩

set_option maxHeartbeats 20000000 in
theorem closed : joinedFacts Try.prog 13 Try.f13 Rows.fnExactMoveBeadsSpec Rows.fnExactMoveBeadsRow = true := by
  simp only [joinedFacts, Bool.and_eq_true]
  refine ⟨⟨⟨⟨⟨⟨⟨⟨⟨⟨⟨⟨⟨⟨⟨⟨⟨⟨⟨⟨⟨⟨⟨⟨⟨⟨⟨⟨⟨⟨⟨?_, laid_out⟩, fact_maps⟩, ?_⟩, ?_⟩, ?_⟩, fact_stops⟩, ?_⟩, fact_knobs⟩, ?_⟩, ?_⟩, ?_⟩, ?_⟩, ?_⟩, ?_⟩, ?_⟩, ?_⟩, ?_⟩, ?_⟩, ?_⟩, ?_⟩, ?_⟩, fact_plain⟩, ?_⟩, fact_heard⟩, fact_enter⟩, fact_lift⟩, ?_⟩, ?_⟩, ?_⟩, ?_⟩, ?_⟩
  all_goals (as_aux_lemma => kernel_rfl)

theorem over : Rows.fnExactMoveBeadsRow.holds Try.pinned (OpenSpec.ofChange Rows.fnExactMoveBeadsSpec) :=
  OpenClaim.holds_of_wide 13 Try.f13 rfl rfl rfl rfl rfl rfl rfl ⟨rfl, rfl, rfl, rfl, rfl⟩ rfl rfl rfl rfl rfl (by as_aux_lemma => kernel_rfl) Try.func13 closed
    (of_decide_eq_true (by as_aux_lemma => kernel_rfl)) (by unfold Func.isWrapper; rw [if_neg (by decide +kernel)]; exact ⟨rfl, rfl⟩)
    (fun os started H enc _ => lifted os started H enc)

/-- The statement. -/
theorem proved : Rows.FnExactMoveBeadsSaid := over
end Go.Proofs.Ythhphopmkmbmiaa.lawMoveBeads
