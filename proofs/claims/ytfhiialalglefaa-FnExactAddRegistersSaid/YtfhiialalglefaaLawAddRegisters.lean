/-
  laws.FnExactAddRegisters returns true at every input (no condition), and leaves its arguments as they were.
-/
import Derived.Test.YtfhiialalglefaaReg
import Derived.Test.YtfhiialalglefaaBox
import Derived.Test.YtfhiialalglefaaFrame
import Derived.Test.YtfhiialalglefaaArJ
import Derived.Test.YtfhiialalglefaaArS
import Derived.Deep.RegionHeld3
import Derived.Test.YtfhiialalglefaaRows
namespace Go.Proofs.Ytfhiialalglefaa.lawAddRegisters
open Go.ChangeShapes Go.WideShapes Go.ChangeAt Go.RowKit Go.Joins
open Go.ChangeMaps (open_string shut_string)

set_option maxRecDepth 100000 in
set_option maxHeartbeats 4000000 in
theorem law_walk (xAB : Int) (xAA : Option Addr) (xAC : Nat) (xAZ : List Int) (xBB : Int) (xBA : Option Addr) (xBC : Nat) (xBZ : List Int) (w : World) (hxA : Raw w xAA xAZ) (bxA : I64 xAB) (hxB : Raw w xBA xBZ) (bxB : I64 xBB) :
    Calls Try.prog 10 #[.agg #[.int .i64 xAB, .slice xAA xAZ.length xAC], .agg #[.int .i64 xBB, .slice xBA xBZ.length xBC]] w fun e w' => e = .returned (.bool true) ∧ Below w.heap.size w w' := by
  have hbel : Below w.heap.size w ((w.alloc (.cells #[.int .i64 xAB, .slice xAA xAZ.length xAC] 40)).alloc (.cells #[.int .i64 xBB, .slice xBA xBZ.length xBC] 40)) := ((Below.refl _ _).alloc (by simp) _).alloc (by simp) _
  have cxA0 : ((w.alloc (.cells #[.int .i64 xAB, .slice xAA xAZ.length xAC] 40)).alloc (.cells #[.int .i64 xBB, .slice xBA xBZ.length xBC] 40)).cell? ⟨w.heap.size, 0, none⟩ = some (.int .i64 xAB) := by go_simp
  have cxA1 : ((w.alloc (.cells #[.int .i64 xAB, .slice xAA xAZ.length xAC] 40)).alloc (.cells #[.int .i64 xBB, .slice xBA xBZ.length xBC] 40)).cell? ⟨w.heap.size, 1, none⟩ = some (.slice xAA xAZ.length xAC) := by go_simp
  have cxB0 : ((w.alloc (.cells #[.int .i64 xAB, .slice xAA xAZ.length xAC] 40)).alloc (.cells #[.int .i64 xBB, .slice xBA xBZ.length xBC] 40)).cell? ⟨w.heap.size + 1, 0, none⟩ = some (.int .i64 xBB) := by go_simp
  have cxB1 : ((w.alloc (.cells #[.int .i64 xAB, .slice xAA xAZ.length xAC] 40)).alloc (.cells #[.int .i64 xBB, .slice xBA xBZ.length xBC] 40)).cell? ⟨w.heap.size + 1, 1, none⟩ = some (.slice xBA xBZ.length xBC) := by go_simp
  go_enter Try.func10, Try.ntmps10
  go_wp2_with fail
  obtain ⟨v1, hu⟩ : ∃ u, u = ((w.alloc (.cells #[.int .i64 xAB, .slice xAA xAZ.length xAC] 40)).alloc (.cells #[.int .i64 xBB, .slice xBA xBZ.length xBC] 40)) := ⟨_, rfl⟩
  have s1 : Hid (w.heap.size + 2 ≤ v1.heap.size) := Lib.hid (by rw [hu]; simp)
  rw [← hu] at cxA0 cxA1 cxB0 cxB1 hbel ⊢
  clear hu
  rcases Int.lt_or_le (leftOf xAZ.length 1048576) 0 with k1 | k1
  · refine (szRegister_any xAB xAA xAZ.length xAC 1048576 v1 hxA.len (by omega) (by omega)).mono ?_
    rintro e v2 ⟨rfl, hb⟩
    go_wp2
    go_ret
    exact ⟨rfl, hbel.trans (hb.mono hbel.size)⟩
  have m1 := leftOf_le xAZ.length 1048576 (by omega)
  refine (szRegister_any xAB xAA xAZ.length xAC 1048576 v1 hxA.len (by omega) (by omega)).mono ?_
  rintro e v2 ⟨rfl, hb⟩
  have s2 : Hid (v1.heap.size ≤ v2.heap.size) := Lib.hid hb.size
  replace cxA0 := kept hb cxA0
  replace cxA1 := kept hb cxA1
  replace cxB0 := kept hb cxB0
  replace cxB1 := kept hb cxB1
  replace hbel := hbel.trans (hb.mono hbel.size)
  clear hb
  have zxA := hxA.wf
  replace hxA := hxA.rd (by have := leftOf_len k1; omega)
  go_wp2_with fail
  rcases Int.lt_or_le (leftOf xBZ.length (leftOf xAZ.length 1048576)) 0 with k2 | k2
  · refine (szRegister_any xBB xBA xBZ.length xBC (leftOf xAZ.length 1048576) v2 hxB.len (by omega) (by omega)).mono ?_
    rintro e v3 ⟨rfl, hb⟩
    go_wp2
    go_ret
    exact ⟨rfl, hbel.trans (hb.mono hbel.size)⟩
  have m2 := leftOf_le xBZ.length (leftOf xAZ.length 1048576) (by omega)
  refine (szRegister_any xBB xBA xBZ.length xBC (leftOf xAZ.length 1048576) v2 hxB.len (by omega) (by omega)).mono ?_
  rintro e v3 ⟨rfl, hb⟩
  have s3 : Hid (v2.heap.size ≤ v3.heap.size) := Lib.hid hb.size
  replace cxA0 := kept hb cxA0
  replace cxA1 := kept hb cxA1
  replace cxB0 := kept hb cxB0
  replace cxB1 := kept hb cxB1
  replace hbel := hbel.trans (hb.mono hbel.size)
  clear hb
  have zxB := hxB.wf
  replace hxB := hxB.rd (by have := leftOf_len k2; omega)
  go_upto_region 8 with fail
  go_cut [6, 7, 8] from 20 (fun sl6 sl7 sl8 wx => BoxReg v3 (addR xAB xAZ xBB xBZ).1 (addR xAB xAZ xBB xBZ).2.1 sl6 wx ∧ sl7 = .int .i64 (addR xAB xAZ xBB xBZ).2.2.1 ∧ sl8 = .int .i64 (addR xAB xAZ xBB xBZ).2.2.2)
  case first =>
    have rcxA0 := kept_all cxA0
    have rcxA1 := kept_all cxA1
    have rcxB0 := kept_all cxB0
    have rcxB1 := kept_all cxB1
    go_region_held3 (fun w' => Below v3.heap.size v3 w') (first | exact hk | exact (Below.refl _ _).drew | exact hk.alloc hk.size _ | exact (Below.refl _ _).drew.alloc (Nat.le_refl _) _ | exact (hk.alloc hk.size _).setCell hk.size _ | exact (hk.setCell bg.out _).setCell bg.out _)
      (first | (go_at_call 30; have qB := ‹Below v3.heap.size v3 _›; ((with_reducible refine (toRegister_any xAB xAA xAC xAZ ((v3.alloc (.cells #[.int .i64 0, .slice none 0 0] 26)).drew) (hxA.below (hbel.trans (qB.mono hbel.size)))).mono ?_)); rintro e v5 ⟨t4A, t4C, rfl, ot4, hb⟩; have bz := ((Bx.new v3 #[.int .i64 0, .slice none 0 0] 26).drew).below hb; have bg : Hid (v3.heap.size ≤ v3.drew.heap.size) := Lib.hid (by first | exact (‹Below v3.heap.size v3 v3.drew›).size | exact Nat.le_refl _); have hk := qB.trans (hb.mono qB.size)) | (go_at_call 30; have qB := ‹Below v3.heap.size v3 _›; ((with_reducible refine (toRegister_any xAB xAA xAC xAZ v3.drew (hxA.below (hbel.trans (qB.mono hbel.size)))).mono ?_)); rintro e v5 ⟨t4A, t4C, rfl, ot4, hb⟩; (try replace bz := bz.below hb); have hk := qB.trans (hb.mono qB.size)) | (go_at_call 30; have qB := ‹Below v3.heap.size v3 _›; ((with_reducible refine (toRegister_any xBB xBA xBC xBZ (v5.alloc (.cells #[.int .i64 0, .slice none 0 0] 26)) (hxB.below (hbel.trans (qB.mono hbel.size)))).mono ?_)); rintro e v6 ⟨t5A, t5C, rfl, ot5, hb⟩; replace ot4 := (ot4.alloc _).below hb; have bz := (Bx.new v5 #[.int .i64 0, .slice none 0 0] 26).below hb; have bg : Hid (v3.heap.size ≤ v5.heap.size) := Lib.hid (by first | exact (‹Below v3.heap.size v3 v5›).size | exact Nat.le_refl _); have hk := qB.trans (hb.mono qB.size)) | (go_at_call 30; have qB := ‹Below v3.heap.size v3 _›; ((with_reducible refine (toRegister_any xBB xBA xBC xBZ v5 (hxB.below (hbel.trans (qB.mono hbel.size)))).mono ?_)); rintro e v6 ⟨t5A, t5C, rfl, ot5, hb⟩; replace ot4 := ot4.below hb; (try replace bz := bz.below hb); have hk := qB.trans (hb.mono qB.size)) | (go_at_call 41; have qB := ‹Below v3.heap.size v3 _›; ((with_reducible refine (specAddRegisters xAB t4A t4C xAZ xBB t5A t5C xBZ (v6.alloc (.cells #[.int .i64 0, .slice none 0 0] 26)) (ot4.alloc _).rd zxA bxA (ot5.alloc _).rd zxB bxB).mono ?_)); rintro e v4 ⟨w0A, w0C, rfl, ow0, hb⟩; have bz := (Bx.new v6 #[.int .i64 0, .slice none 0 0] 26); have bg : Hid (v3.heap.size ≤ v6.heap.size) := Lib.hid (by first | exact (‹Below v3.heap.size v3 v6›).size | exact Nat.le_refl _); have bh := Lib.hid bz.lt; replace bz := bz.below hb; have bz0 := bz.at_ 0 rfl; have bf0 := bz.thaw 0; have bz1 := bz.at_ 1 rfl; have bf1 := bz.thaw 1; have hkU := qB; have hbU := hb; have hk := qB.trans (hb.mono qB.size)) | (go_at_call 41; have qB := ‹Below v3.heap.size v3 _›; ((with_reducible refine (specAddRegisters xAB t4A t4C xAZ xBB t5A t5C xBZ v6 ot4.rd zxA bxA ot5.rd zxB bxB).mono ?_)); rintro e v4 ⟨w0A, w0C, rfl, ow0, hb⟩; (try (have bh := Lib.hid bz.lt; replace bz := bz.below hb; have bz0 := bz.at_ 0 rfl; have bf0 := bz.thaw 0; have bz1 := bz.at_ 1 rfl; have bf1 := bz.thaw 1)); have hkU := qB; have hbU := hb; have hk := qB.trans (hb.mono qB.size)))
    all_goals (go_wp2_with fail; go_meet; case rel => first | exact ⟨boxReg_after hkU hbU ow0, rfl, rfl⟩ | exact ⟨boxReg_before hkU hbU ow0 bz bg bh, rfl, rfl⟩)
  case rest =>
  obtain ⟨⟨B6, w0A, w0C, B6l, B6h, rfl, cw00, cw01, ow0, s7, s8, s9, s10, s11, hb⟩, rfl, rfl⟩ := hcut
  obtain ⟨v4, rfl⟩ : ∃ u, u = wc := ⟨_, rfl⟩
  have s12 : Hid (v3.heap.size ≤ v4.heap.size) := Lib.hid hb.size
  replace cxA0 := kept hb cxA0
  replace cxA1 := kept hb cxA1
  replace cxB0 := kept hb cxB0
  replace cxB1 := kept hb cxB1
  replace hbel := hbel.trans (hb.mono hbel.size)
  clear hb
  go_wp2_with fail
  refine (toRegister_any xAB xAA xAC xAZ v4 (hxA.below hbel)).mono ?_
  rintro e v7 ⟨t13A, t13C, rfl, ot13, hb⟩
  have s14 : Hid (v4.heap.size ≤ v7.heap.size) := Lib.hid hb.size
  replace cxA0 := kept hb cxA0
  replace cxA1 := kept hb cxA1
  replace cxB0 := kept hb cxB0
  replace cxB1 := kept hb cxB1
  replace cw00 := kept hb cw00
  replace cw01 := kept hb cw01
  replace ow0 := ow0.below hb
  replace hbel := hbel.trans (hb.mono hbel.size)
  clear hb
  have ha15 : Below v7.heap.size v7 (v7.alloc (.cells #[.int .i64 xAB, .slice t13A xAZ.length t13C] 26)) := (Below.refl _ _).alloc (by simp) _
  replace cxA0 := kept ha15 cxA0
  replace cxA1 := kept ha15 cxA1
  replace cxB0 := kept ha15 cxB0
  replace cxB1 := kept ha15 cxB1
  replace cw00 := kept ha15 cw00
  replace cw01 := kept ha15 cw01
  replace ow0 := ow0.below ha15
  replace ot13 := ot13.below ha15
  replace hbel := hbel.trans (ha15.mono hbel.size)
  clear ha15
  have cx00 : (v7.alloc (.cells #[.int .i64 xAB, .slice t13A xAZ.length t13C] 26)).cell? ⟨v7.heap.size, 0, none⟩ = some (.int .i64 xAB) := by go_simp
  have cx01 : (v7.alloc (.cells #[.int .i64 xAB, .slice t13A xAZ.length t13C] 26)).cell? ⟨v7.heap.size, 1, none⟩ = some (.slice t13A xAZ.length t13C) := by go_simp
  go_wp2_with fail
  obtain ⟨v8, hu⟩ : ∃ u, u = (v7.alloc (.cells #[.int .i64 xAB, .slice t13A xAZ.length t13C] 26)) := ⟨_, rfl⟩
  have s17 : Hid (v7.heap.size + 1 ≤ v8.heap.size) := Lib.hid (by rw [hu]; simp)
  rw [← hu] at cxA0 cxA1 cxB0 cxB1 cw00 cw01 cx00 cx01 ow0 ot13 hbel ⊢
  clear hu
  refine (toRegister_any xBB xBA xBC xBZ v8 (hxB.below hbel)).mono ?_
  rintro e v9 ⟨t16A, t16C, rfl, ot16, hb⟩
  have s18 : Hid (v8.heap.size ≤ v9.heap.size) := Lib.hid hb.size
  replace cxA0 := kept hb cxA0
  replace cxA1 := kept hb cxA1
  replace cxB0 := kept hb cxB0
  replace cxB1 := kept hb cxB1
  replace cw00 := kept hb cw00
  replace cw01 := kept hb cw01
  replace cx00 := kept hb cx00
  replace cx01 := kept hb cx01
  replace ow0 := ow0.below hb
  replace ot13 := ot13.below hb
  replace hbel := hbel.trans (hb.mono hbel.size)
  clear hb
  have ha19 : Below v9.heap.size v9 (v9.alloc (.cells #[.int .i64 xBB, .slice t16A xBZ.length t16C] 26)) := (Below.refl _ _).alloc (by simp) _
  replace cxA0 := kept ha19 cxA0
  replace cxA1 := kept ha19 cxA1
  replace cxB0 := kept ha19 cxB0
  replace cxB1 := kept ha19 cxB1
  replace cw00 := kept ha19 cw00
  replace cw01 := kept ha19 cw01
  replace cx00 := kept ha19 cx00
  replace cx01 := kept ha19 cx01
  replace ow0 := ow0.below ha19
  replace ot13 := ot13.below ha19
  replace ot16 := ot16.below ha19
  replace hbel := hbel.trans (ha19.mono hbel.size)
  clear ha19
  have cx10 : (v9.alloc (.cells #[.int .i64 xBB, .slice t16A xBZ.length t16C] 26)).cell? ⟨v9.heap.size, 0, none⟩ = some (.int .i64 xBB) := by go_simp
  have cx11 : (v9.alloc (.cells #[.int .i64 xBB, .slice t16A xBZ.length t16C] 26)).cell? ⟨v9.heap.size, 1, none⟩ = some (.slice t16A xBZ.length t16C) := by go_simp
  go_wp2_with fail
  obtain ⟨v10, hu⟩ : ∃ u, u = (v9.alloc (.cells #[.int .i64 xBB, .slice t16A xBZ.length t16C] 26)) := ⟨_, rfl⟩
  have s20 : Hid (v9.heap.size + 1 ≤ v10.heap.size) := Lib.hid (by rw [hu]; simp)
  rw [← hu] at cxA0 cxA1 cxB0 cxB1 cw00 cw01 cx00 cx01 cx10 cx11 ow0 ot13 ot16 hbel ⊢
  clear hu
  refine (implAddRegisters xAB t13A t13C xAZ xBB t16A t16C xBZ v10 ot13.rd zxA bxA ot16.rd zxB bxB).mono ?_
  rintro e v11 ⟨g0A, g0C, rfl, og0, hb⟩
  have s21 : Hid (v10.heap.size ≤ v11.heap.size) := Lib.hid hb.size
  replace cxA0 := kept hb cxA0
  replace cxA1 := kept hb cxA1
  replace cxB0 := kept hb cxB0
  replace cxB1 := kept hb cxB1
  replace cw00 := kept hb cw00
  replace cw01 := kept hb cw01
  replace cx00 := kept hb cx00
  replace cx01 := kept hb cx01
  replace cx10 := kept hb cx10
  replace cx11 := kept hb cx11
  replace ow0 := ow0.below hb
  replace ot13 := ot13.below hb
  replace ot16 := ot16.below hb
  replace hbel := hbel.trans (hb.mono hbel.size)
  clear hb
  have ha22 : Below v11.heap.size v11 (v11.alloc (.cells #[.int .i64 (addR xAB xAZ xBB xBZ).1, .slice g0A (addR xAB xAZ xBB xBZ).2.1.length g0C] 26)) := (Below.refl _ _).alloc (by simp) _
  replace cxA0 := kept ha22 cxA0
  replace cxA1 := kept ha22 cxA1
  replace cxB0 := kept ha22 cxB0
  replace cxB1 := kept ha22 cxB1
  replace cw00 := kept ha22 cw00
  replace cw01 := kept ha22 cw01
  replace cx00 := kept ha22 cx00
  replace cx01 := kept ha22 cx01
  replace cx10 := kept ha22 cx10
  replace cx11 := kept ha22 cx11
  replace ow0 := ow0.below ha22
  replace ot13 := ot13.below ha22
  replace ot16 := ot16.below ha22
  replace og0 := og0.below ha22
  replace hbel := hbel.trans (ha22.mono hbel.size)
  clear ha22
  have cg00 : (v11.alloc (.cells #[.int .i64 (addR xAB xAZ xBB xBZ).1, .slice g0A (addR xAB xAZ xBB xBZ).2.1.length g0C] 26)).cell? ⟨v11.heap.size, 0, none⟩ = some (.int .i64 (addR xAB xAZ xBB xBZ).1) := by go_simp
  have cg01 : (v11.alloc (.cells #[.int .i64 (addR xAB xAZ xBB xBZ).1, .slice g0A (addR xAB xAZ xBB xBZ).2.1.length g0C] 26)).cell? ⟨v11.heap.size, 1, none⟩ = some (.slice g0A (addR xAB xAZ xBB xBZ).2.1.length g0C) := by go_simp
  have q23 : regEqB (addR xAB xAZ xBB xBZ).1 (addR xAB xAZ xBB xBZ).1 (addR xAB xAZ xBB xBZ).2.1 (addR xAB xAZ xBB xBZ).2.1 = true := regEqB_self _ _
  go_wp2_with fail
  obtain ⟨v12, hu⟩ : ∃ u, u = (v11.alloc (.cells #[.int .i64 (addR xAB xAZ xBB xBZ).1, .slice g0A (addR xAB xAZ xBB xBZ).2.1.length g0C] 26)) := ⟨_, rfl⟩
  have s24 : Hid (v11.heap.size + 1 ≤ v12.heap.size) := Lib.hid (by rw [hu]; simp)
  rw [← hu] at cxA0 cxA1 cxB0 cxB1 cw00 cw01 cx00 cx01 cx10 cx11 cg00 cg01 ow0 ot13 ot16 og0 hbel ⊢
  clear hu
  refine (eqRegister_any (addR xAB xAZ xBB xBZ).1 (addR xAB xAZ xBB xBZ).1 g0A w0A g0C w0C (addR xAB xAZ xBB xBZ).2.1 (addR xAB xAZ xBB xBZ).2.1 v12 og0.rd ow0.rd).mono ?_
  rintro e v13 ⟨rfl, hb⟩
  have s25 : Hid (v12.heap.size ≤ v13.heap.size) := Lib.hid hb.size
  replace cxA0 := kept hb cxA0
  replace cxA1 := kept hb cxA1
  replace cxB0 := kept hb cxB0
  replace cxB1 := kept hb cxB1
  replace cw00 := kept hb cw00
  replace cw01 := kept hb cw01
  replace cx00 := kept hb cx00
  replace cx01 := kept hb cx01
  replace cx10 := kept hb cx10
  replace cx11 := kept hb cx11
  replace cg00 := kept hb cg00
  replace cg01 := kept hb cg01
  replace ow0 := ow0.below hb
  replace ot13 := ot13.below hb
  replace ot16 := ot16.below hb
  replace og0 := og0.below hb
  replace hbel := hbel.trans (hb.mono hbel.size)
  clear hb
  have q26 : regEqB xAB xAB xAZ xAZ = true := regEqB_self _ _
  go_wp2_with fail
  have rcxA0 := kept_all cxA0
  have rcxA1 := kept_all cxA1
  have rcxB0 := kept_all cxB0
  have rcxB1 := kept_all cxB1
  have rcw00 := kept_all cw00
  have rcw01 := kept_all cw01
  have rcx00 := kept_all cx00
  have rcx01 := kept_all cx01
  have rcx10 := kept_all cx10
  have rcx11 := kept_all cx11
  have rcg00 := kept_all cg00
  have rcg01 := kept_all cg01
  go_region_held3 (fun w' => Below v13.heap.size v13 w') (first | exact hk | exact (Below.refl _ _).drew | exact hk.alloc hk.size _ | exact (hk.alloc hk.size _).setCell hk.size _)
    (first | (go_at_call 30; have qB := ‹Below v13.heap.size v13 _›; ((with_reducible refine (toRegister_any xAB xAA xAC xAZ _ (hxA.below (hbel.trans (qB.mono hbel.size)))).mono ?_)); rintro e v15 ⟨t27A, t27C, rfl, ot27, hb⟩; have hk := qB.trans (hb.mono qB.size)) | (go_at_call 32; have qB := ‹Below v13.heap.size v13 _›; refine (eqRegister_any xAB xAB t13A t27A t13C t27C xAZ xAZ _ (ot13.below qB).rd (by first | exact ot27.rd | exact (ot27.alloc _).rd)).mono ?_; rintro e v14 ⟨rfl, hb⟩; have hk := qB.trans (hb.mono qB.size)))
  have hb : Below v13.heap.size v13 v14 := by assumption
  clear rcxA0 rcxA1 rcxB0 rcxB1 rcw00 rcw01 rcx00 rcx01 rcx10 rcx11 rcg00 rcg01
  clear ot27
  have s28 : Hid (v13.heap.size ≤ v14.heap.size) := Lib.hid hb.size
  replace cxA0 := kept hb cxA0
  replace cxA1 := kept hb cxA1
  replace cxB0 := kept hb cxB0
  replace cxB1 := kept hb cxB1
  replace cw00 := kept hb cw00
  replace cw01 := kept hb cw01
  replace cx00 := kept hb cx00
  replace cx01 := kept hb cx01
  replace cx10 := kept hb cx10
  replace cx11 := kept hb cx11
  replace cg00 := kept hb cg00
  replace cg01 := kept hb cg01
  replace ow0 := ow0.below hb
  replace ot13 := ot13.below hb
  replace ot16 := ot16.below hb
  replace og0 := og0.below hb
  replace hbel := hbel.trans (hb.mono hbel.size)
  clear hb
  have q29 : regEqB xBB xBB xBZ xBZ = true := regEqB_self _ _
  go_wp2_with fail
  have rcxA0 := kept_all cxA0
  have rcxA1 := kept_all cxA1
  have rcxB0 := kept_all cxB0
  have rcxB1 := kept_all cxB1
  have rcw00 := kept_all cw00
  have rcw01 := kept_all cw01
  have rcx00 := kept_all cx00
  have rcx01 := kept_all cx01
  have rcx10 := kept_all cx10
  have rcx11 := kept_all cx11
  have rcg00 := kept_all cg00
  have rcg01 := kept_all cg01
  go_region_held3 (fun w' => Below v14.heap.size v14 w') (first | exact hk | exact (Below.refl _ _).drew | exact hk.alloc hk.size _ | exact (hk.alloc hk.size _).setCell hk.size _)
    (first | (go_at_call 30; have qB := ‹Below v14.heap.size v14 _›; ((with_reducible refine (toRegister_any xBB xBA xBC xBZ _ (hxB.below (hbel.trans (qB.mono hbel.size)))).mono ?_)); rintro e v17 ⟨t30A, t30C, rfl, ot30, hb⟩; have hk := qB.trans (hb.mono qB.size)) | (go_at_call 32; have qB := ‹Below v14.heap.size v14 _›; refine (eqRegister_any xBB xBB t16A t30A t16C t30C xBZ xBZ _ (ot16.below qB).rd (by first | exact ot30.rd | exact (ot30.alloc _).rd)).mono ?_; rintro e v16 ⟨rfl, hb⟩; have hk := qB.trans (hb.mono qB.size)))
  have hb : Below v14.heap.size v14 v16 := by assumption
  clear rcxA0 rcxA1 rcxB0 rcxB1 rcw00 rcw01 rcx00 rcx01 rcx10 rcx11 rcg00 rcg01
  clear ot30
  have s31 : Hid (v14.heap.size ≤ v16.heap.size) := Lib.hid hb.size
  replace cxA0 := kept hb cxA0
  replace cxA1 := kept hb cxA1
  replace cxB0 := kept hb cxB0
  replace cxB1 := kept hb cxB1
  replace cw00 := kept hb cw00
  replace cw01 := kept hb cw01
  replace cx00 := kept hb cx00
  replace cx01 := kept hb cx01
  replace cx10 := kept hb cx10
  replace cx11 := kept hb cx11
  replace cg00 := kept hb cg00
  replace cg01 := kept hb cg01
  replace ow0 := ow0.below hb
  replace ot13 := ot13.below hb
  replace ot16 := ot16.below hb
  replace og0 := og0.below hb
  replace hbel := hbel.trans (hb.mono hbel.size)
  clear hb
  go_wp2_with fail
  refine (markRegister_any _ _ _ xAB t13A t13C 1 xAZ v16 ot13 (by have := ow0.len; have := ot13.len; have := ot16.len; have := og0.len; have := hxA.len; have := hxB.len; omega) (by have := ow0.len; have := ot13.len; have := ot16.len; have := og0.len; have := hxA.len; have := hxB.len; omega)).mono ?_
  rintro e v18 ⟨rfl, om, ht⟩
  have s32 : Hid (v16.heap.size ≤ v18.heap.size) := Lib.hid ht.size
  clear ot13
  have ot13 := om
  clear om
  replace cxA0 := keptT ht cxA0 (by have := s1.out; have := s2.out; have := s3.out; have := s7.out; have := s8.out; have := s9.out; have := s10.out; have := s11.out; have := s12.out; have := s14.out; have := s17.out; have := s18.out; have := s20.out; have := s21.out; have := s24.out; have := s25.out; have := s28.out; have := s31.out; have := s32.out; omega)
  replace cxA1 := keptT ht cxA1 (by have := s1.out; have := s2.out; have := s3.out; have := s7.out; have := s8.out; have := s9.out; have := s10.out; have := s11.out; have := s12.out; have := s14.out; have := s17.out; have := s18.out; have := s20.out; have := s21.out; have := s24.out; have := s25.out; have := s28.out; have := s31.out; have := s32.out; omega)
  replace cxB0 := keptT ht cxB0 (by have := s1.out; have := s2.out; have := s3.out; have := s7.out; have := s8.out; have := s9.out; have := s10.out; have := s11.out; have := s12.out; have := s14.out; have := s17.out; have := s18.out; have := s20.out; have := s21.out; have := s24.out; have := s25.out; have := s28.out; have := s31.out; have := s32.out; omega)
  replace cxB1 := keptT ht cxB1 (by have := s1.out; have := s2.out; have := s3.out; have := s7.out; have := s8.out; have := s9.out; have := s10.out; have := s11.out; have := s12.out; have := s14.out; have := s17.out; have := s18.out; have := s20.out; have := s21.out; have := s24.out; have := s25.out; have := s28.out; have := s31.out; have := s32.out; omega)
  replace cw00 := keptT ht cw00 (by have := s1.out; have := s2.out; have := s3.out; have := s7.out; have := s8.out; have := s9.out; have := s10.out; have := s11.out; have := s12.out; have := s14.out; have := s17.out; have := s18.out; have := s20.out; have := s21.out; have := s24.out; have := s25.out; have := s28.out; have := s31.out; have := s32.out; omega)
  replace cw01 := keptT ht cw01 (by have := s1.out; have := s2.out; have := s3.out; have := s7.out; have := s8.out; have := s9.out; have := s10.out; have := s11.out; have := s12.out; have := s14.out; have := s17.out; have := s18.out; have := s20.out; have := s21.out; have := s24.out; have := s25.out; have := s28.out; have := s31.out; have := s32.out; omega)
  replace cx00 := keptT ht cx00 (by have := s1.out; have := s2.out; have := s3.out; have := s7.out; have := s8.out; have := s9.out; have := s10.out; have := s11.out; have := s12.out; have := s14.out; have := s17.out; have := s18.out; have := s20.out; have := s21.out; have := s24.out; have := s25.out; have := s28.out; have := s31.out; have := s32.out; omega)
  replace cx01 := keptT ht cx01 (by have := s1.out; have := s2.out; have := s3.out; have := s7.out; have := s8.out; have := s9.out; have := s10.out; have := s11.out; have := s12.out; have := s14.out; have := s17.out; have := s18.out; have := s20.out; have := s21.out; have := s24.out; have := s25.out; have := s28.out; have := s31.out; have := s32.out; omega)
  replace cx10 := keptT ht cx10 (by have := s1.out; have := s2.out; have := s3.out; have := s7.out; have := s8.out; have := s9.out; have := s10.out; have := s11.out; have := s12.out; have := s14.out; have := s17.out; have := s18.out; have := s20.out; have := s21.out; have := s24.out; have := s25.out; have := s28.out; have := s31.out; have := s32.out; omega)
  replace cx11 := keptT ht cx11 (by have := s1.out; have := s2.out; have := s3.out; have := s7.out; have := s8.out; have := s9.out; have := s10.out; have := s11.out; have := s12.out; have := s14.out; have := s17.out; have := s18.out; have := s20.out; have := s21.out; have := s24.out; have := s25.out; have := s28.out; have := s31.out; have := s32.out; omega)
  replace cg00 := keptT ht cg00 (by have := s1.out; have := s2.out; have := s3.out; have := s7.out; have := s8.out; have := s9.out; have := s10.out; have := s11.out; have := s12.out; have := s14.out; have := s17.out; have := s18.out; have := s20.out; have := s21.out; have := s24.out; have := s25.out; have := s28.out; have := s31.out; have := s32.out; omega)
  replace cg01 := keptT ht cg01 (by have := s1.out; have := s2.out; have := s3.out; have := s7.out; have := s8.out; have := s9.out; have := s10.out; have := s11.out; have := s12.out; have := s14.out; have := s17.out; have := s18.out; have := s20.out; have := s21.out; have := s24.out; have := s25.out; have := s28.out; have := s31.out; have := s32.out; omega)
  replace ow0 := ow0.touch ht (by have := s1.out; have := s2.out; have := s3.out; have := s7.out; have := s8.out; have := s9.out; have := s10.out; have := s11.out; have := s12.out; have := s14.out; have := s17.out; have := s18.out; have := s20.out; have := s21.out; have := s24.out; have := s25.out; have := s28.out; have := s31.out; have := s32.out; omega)
  replace ot16 := ot16.touch ht (by have := s1.out; have := s2.out; have := s3.out; have := s7.out; have := s8.out; have := s9.out; have := s10.out; have := s11.out; have := s12.out; have := s14.out; have := s17.out; have := s18.out; have := s20.out; have := s21.out; have := s24.out; have := s25.out; have := s28.out; have := s31.out; have := s32.out; omega)
  replace og0 := og0.touch ht (by have := s1.out; have := s2.out; have := s3.out; have := s7.out; have := s8.out; have := s9.out; have := s10.out; have := s11.out; have := s12.out; have := s14.out; have := s17.out; have := s18.out; have := s20.out; have := s21.out; have := s24.out; have := s25.out; have := s28.out; have := s31.out; have := s32.out; omega)
  replace hbel := hbel.trans (ht.below (by have := s1.out; have := s2.out; have := s3.out; have := s7.out; have := s8.out; have := s9.out; have := s10.out; have := s11.out; have := s12.out; have := s14.out; have := s17.out; have := s18.out; have := s20.out; have := s21.out; have := s24.out; have := s25.out; have := s28.out; have := s31.out; have := s32.out; omega) hbel.size)
  clear ht
  go_wp2_with fail
  refine (markRegister_any _ _ _ xBB t16A t16C (1 + (xAZ.length : Int)) xBZ v18 ot16 (by have := ow0.len; have := ot13.len; have := ot16.len; have := og0.len; have := hxA.len; have := hxB.len; omega) (by have := ow0.len; have := ot13.len; have := ot16.len; have := og0.len; have := hxA.len; have := hxB.len; omega)).mono ?_
  rintro e v19 ⟨rfl, om, ht⟩
  have s33 : Hid (v18.heap.size ≤ v19.heap.size) := Lib.hid ht.size
  clear ot16
  have ot16 := om
  clear om
  replace cxA0 := keptT ht cxA0 (by have := s1.out; have := s2.out; have := s3.out; have := s7.out; have := s8.out; have := s9.out; have := s10.out; have := s11.out; have := s12.out; have := s14.out; have := s17.out; have := s18.out; have := s20.out; have := s21.out; have := s24.out; have := s25.out; have := s28.out; have := s31.out; have := s32.out; have := s33.out; omega)
  replace cxA1 := keptT ht cxA1 (by have := s1.out; have := s2.out; have := s3.out; have := s7.out; have := s8.out; have := s9.out; have := s10.out; have := s11.out; have := s12.out; have := s14.out; have := s17.out; have := s18.out; have := s20.out; have := s21.out; have := s24.out; have := s25.out; have := s28.out; have := s31.out; have := s32.out; have := s33.out; omega)
  replace cxB0 := keptT ht cxB0 (by have := s1.out; have := s2.out; have := s3.out; have := s7.out; have := s8.out; have := s9.out; have := s10.out; have := s11.out; have := s12.out; have := s14.out; have := s17.out; have := s18.out; have := s20.out; have := s21.out; have := s24.out; have := s25.out; have := s28.out; have := s31.out; have := s32.out; have := s33.out; omega)
  replace cxB1 := keptT ht cxB1 (by have := s1.out; have := s2.out; have := s3.out; have := s7.out; have := s8.out; have := s9.out; have := s10.out; have := s11.out; have := s12.out; have := s14.out; have := s17.out; have := s18.out; have := s20.out; have := s21.out; have := s24.out; have := s25.out; have := s28.out; have := s31.out; have := s32.out; have := s33.out; omega)
  replace cw00 := keptT ht cw00 (by have := s1.out; have := s2.out; have := s3.out; have := s7.out; have := s8.out; have := s9.out; have := s10.out; have := s11.out; have := s12.out; have := s14.out; have := s17.out; have := s18.out; have := s20.out; have := s21.out; have := s24.out; have := s25.out; have := s28.out; have := s31.out; have := s32.out; have := s33.out; omega)
  replace cw01 := keptT ht cw01 (by have := s1.out; have := s2.out; have := s3.out; have := s7.out; have := s8.out; have := s9.out; have := s10.out; have := s11.out; have := s12.out; have := s14.out; have := s17.out; have := s18.out; have := s20.out; have := s21.out; have := s24.out; have := s25.out; have := s28.out; have := s31.out; have := s32.out; have := s33.out; omega)
  replace cx00 := keptT ht cx00 (by have := s1.out; have := s2.out; have := s3.out; have := s7.out; have := s8.out; have := s9.out; have := s10.out; have := s11.out; have := s12.out; have := s14.out; have := s17.out; have := s18.out; have := s20.out; have := s21.out; have := s24.out; have := s25.out; have := s28.out; have := s31.out; have := s32.out; have := s33.out; omega)
  replace cx01 := keptT ht cx01 (by have := s1.out; have := s2.out; have := s3.out; have := s7.out; have := s8.out; have := s9.out; have := s10.out; have := s11.out; have := s12.out; have := s14.out; have := s17.out; have := s18.out; have := s20.out; have := s21.out; have := s24.out; have := s25.out; have := s28.out; have := s31.out; have := s32.out; have := s33.out; omega)
  replace cx10 := keptT ht cx10 (by have := s1.out; have := s2.out; have := s3.out; have := s7.out; have := s8.out; have := s9.out; have := s10.out; have := s11.out; have := s12.out; have := s14.out; have := s17.out; have := s18.out; have := s20.out; have := s21.out; have := s24.out; have := s25.out; have := s28.out; have := s31.out; have := s32.out; have := s33.out; omega)
  replace cx11 := keptT ht cx11 (by have := s1.out; have := s2.out; have := s3.out; have := s7.out; have := s8.out; have := s9.out; have := s10.out; have := s11.out; have := s12.out; have := s14.out; have := s17.out; have := s18.out; have := s20.out; have := s21.out; have := s24.out; have := s25.out; have := s28.out; have := s31.out; have := s32.out; have := s33.out; omega)
  replace cg00 := keptT ht cg00 (by have := s1.out; have := s2.out; have := s3.out; have := s7.out; have := s8.out; have := s9.out; have := s10.out; have := s11.out; have := s12.out; have := s14.out; have := s17.out; have := s18.out; have := s20.out; have := s21.out; have := s24.out; have := s25.out; have := s28.out; have := s31.out; have := s32.out; have := s33.out; omega)
  replace cg01 := keptT ht cg01 (by have := s1.out; have := s2.out; have := s3.out; have := s7.out; have := s8.out; have := s9.out; have := s10.out; have := s11.out; have := s12.out; have := s14.out; have := s17.out; have := s18.out; have := s20.out; have := s21.out; have := s24.out; have := s25.out; have := s28.out; have := s31.out; have := s32.out; have := s33.out; omega)
  replace ow0 := ow0.touch ht (by have := s1.out; have := s2.out; have := s3.out; have := s7.out; have := s8.out; have := s9.out; have := s10.out; have := s11.out; have := s12.out; have := s14.out; have := s17.out; have := s18.out; have := s20.out; have := s21.out; have := s24.out; have := s25.out; have := s28.out; have := s31.out; have := s32.out; have := s33.out; omega)
  replace ot13 := ot13.touch ht (by have := s1.out; have := s2.out; have := s3.out; have := s7.out; have := s8.out; have := s9.out; have := s10.out; have := s11.out; have := s12.out; have := s14.out; have := s17.out; have := s18.out; have := s20.out; have := s21.out; have := s24.out; have := s25.out; have := s28.out; have := s31.out; have := s32.out; have := s33.out; omega)
  replace og0 := og0.touch ht (by have := s1.out; have := s2.out; have := s3.out; have := s7.out; have := s8.out; have := s9.out; have := s10.out; have := s11.out; have := s12.out; have := s14.out; have := s17.out; have := s18.out; have := s20.out; have := s21.out; have := s24.out; have := s25.out; have := s28.out; have := s31.out; have := s32.out; have := s33.out; omega)
  replace hbel := hbel.trans (ht.below (by have := s1.out; have := s2.out; have := s3.out; have := s7.out; have := s8.out; have := s9.out; have := s10.out; have := s11.out; have := s12.out; have := s14.out; have := s17.out; have := s18.out; have := s20.out; have := s21.out; have := s24.out; have := s25.out; have := s28.out; have := s31.out; have := s32.out; have := s33.out; omega) hbel.size)
  clear ht
  have q34 : regEqB (addR xAB xAZ xBB xBZ).1 (addR xAB xAZ xBB xBZ).1 (addR xAB xAZ xBB xBZ).2.1 (addR xAB xAZ xBB xBZ).2.1 = true := regEqB_self _ _
  go_wp2_with fail
  refine (eqRegister_any (addR xAB xAZ xBB xBZ).1 (addR xAB xAZ xBB xBZ).1 g0A w0A g0C w0C (addR xAB xAZ xBB xBZ).2.1 (addR xAB xAZ xBB xBZ).2.1 v19 og0.rd ow0.rd).mono ?_
  rintro e v20 ⟨rfl, hb⟩
  have s35 : Hid (v19.heap.size ≤ v20.heap.size) := Lib.hid hb.size
  replace cxA0 := kept hb cxA0
  replace cxA1 := kept hb cxA1
  replace cxB0 := kept hb cxB0
  replace cxB1 := kept hb cxB1
  replace cw00 := kept hb cw00
  replace cw01 := kept hb cw01
  replace cx00 := kept hb cx00
  replace cx01 := kept hb cx01
  replace cx10 := kept hb cx10
  replace cx11 := kept hb cx11
  replace cg00 := kept hb cg00
  replace cg01 := kept hb cg01
  replace ow0 := ow0.below hb
  replace ot13 := ot13.below hb
  replace ot16 := ot16.below hb
  replace og0 := og0.below hb
  replace hbel := hbel.trans (hb.mono hbel.size)
  clear hb
  go_wp2_with fail
  refine (markRegister_any _ _ _ (addR xAB xAZ xBB xBZ).1 g0A g0C 1 (addR xAB xAZ xBB xBZ).2.1 v20 og0 (by have := ow0.len; have := ot13.len; have := ot16.len; have := og0.len; have := hxA.len; have := hxB.len; omega) (by have := ow0.len; have := ot13.len; have := ot16.len; have := og0.len; have := hxA.len; have := hxB.len; omega)).mono ?_
  rintro e v21 ⟨rfl, om, ht⟩
  have s36 : Hid (v20.heap.size ≤ v21.heap.size) := Lib.hid ht.size
  clear og0
  have og0 := om
  clear om
  replace cxA0 := keptT ht cxA0 (by have := s1.out; have := s2.out; have := s3.out; have := s7.out; have := s8.out; have := s9.out; have := s10.out; have := s11.out; have := s12.out; have := s14.out; have := s17.out; have := s18.out; have := s20.out; have := s21.out; have := s24.out; have := s25.out; have := s28.out; have := s31.out; have := s32.out; have := s33.out; have := s35.out; have := s36.out; omega)
  replace cxA1 := keptT ht cxA1 (by have := s1.out; have := s2.out; have := s3.out; have := s7.out; have := s8.out; have := s9.out; have := s10.out; have := s11.out; have := s12.out; have := s14.out; have := s17.out; have := s18.out; have := s20.out; have := s21.out; have := s24.out; have := s25.out; have := s28.out; have := s31.out; have := s32.out; have := s33.out; have := s35.out; have := s36.out; omega)
  replace cxB0 := keptT ht cxB0 (by have := s1.out; have := s2.out; have := s3.out; have := s7.out; have := s8.out; have := s9.out; have := s10.out; have := s11.out; have := s12.out; have := s14.out; have := s17.out; have := s18.out; have := s20.out; have := s21.out; have := s24.out; have := s25.out; have := s28.out; have := s31.out; have := s32.out; have := s33.out; have := s35.out; have := s36.out; omega)
  replace cxB1 := keptT ht cxB1 (by have := s1.out; have := s2.out; have := s3.out; have := s7.out; have := s8.out; have := s9.out; have := s10.out; have := s11.out; have := s12.out; have := s14.out; have := s17.out; have := s18.out; have := s20.out; have := s21.out; have := s24.out; have := s25.out; have := s28.out; have := s31.out; have := s32.out; have := s33.out; have := s35.out; have := s36.out; omega)
  replace cw00 := keptT ht cw00 (by have := s1.out; have := s2.out; have := s3.out; have := s7.out; have := s8.out; have := s9.out; have := s10.out; have := s11.out; have := s12.out; have := s14.out; have := s17.out; have := s18.out; have := s20.out; have := s21.out; have := s24.out; have := s25.out; have := s28.out; have := s31.out; have := s32.out; have := s33.out; have := s35.out; have := s36.out; omega)
  replace cw01 := keptT ht cw01 (by have := s1.out; have := s2.out; have := s3.out; have := s7.out; have := s8.out; have := s9.out; have := s10.out; have := s11.out; have := s12.out; have := s14.out; have := s17.out; have := s18.out; have := s20.out; have := s21.out; have := s24.out; have := s25.out; have := s28.out; have := s31.out; have := s32.out; have := s33.out; have := s35.out; have := s36.out; omega)
  replace cx00 := keptT ht cx00 (by have := s1.out; have := s2.out; have := s3.out; have := s7.out; have := s8.out; have := s9.out; have := s10.out; have := s11.out; have := s12.out; have := s14.out; have := s17.out; have := s18.out; have := s20.out; have := s21.out; have := s24.out; have := s25.out; have := s28.out; have := s31.out; have := s32.out; have := s33.out; have := s35.out; have := s36.out; omega)
  replace cx01 := keptT ht cx01 (by have := s1.out; have := s2.out; have := s3.out; have := s7.out; have := s8.out; have := s9.out; have := s10.out; have := s11.out; have := s12.out; have := s14.out; have := s17.out; have := s18.out; have := s20.out; have := s21.out; have := s24.out; have := s25.out; have := s28.out; have := s31.out; have := s32.out; have := s33.out; have := s35.out; have := s36.out; omega)
  replace cx10 := keptT ht cx10 (by have := s1.out; have := s2.out; have := s3.out; have := s7.out; have := s8.out; have := s9.out; have := s10.out; have := s11.out; have := s12.out; have := s14.out; have := s17.out; have := s18.out; have := s20.out; have := s21.out; have := s24.out; have := s25.out; have := s28.out; have := s31.out; have := s32.out; have := s33.out; have := s35.out; have := s36.out; omega)
  replace cx11 := keptT ht cx11 (by have := s1.out; have := s2.out; have := s3.out; have := s7.out; have := s8.out; have := s9.out; have := s10.out; have := s11.out; have := s12.out; have := s14.out; have := s17.out; have := s18.out; have := s20.out; have := s21.out; have := s24.out; have := s25.out; have := s28.out; have := s31.out; have := s32.out; have := s33.out; have := s35.out; have := s36.out; omega)
  replace cg00 := keptT ht cg00 (by have := s1.out; have := s2.out; have := s3.out; have := s7.out; have := s8.out; have := s9.out; have := s10.out; have := s11.out; have := s12.out; have := s14.out; have := s17.out; have := s18.out; have := s20.out; have := s21.out; have := s24.out; have := s25.out; have := s28.out; have := s31.out; have := s32.out; have := s33.out; have := s35.out; have := s36.out; omega)
  replace cg01 := keptT ht cg01 (by have := s1.out; have := s2.out; have := s3.out; have := s7.out; have := s8.out; have := s9.out; have := s10.out; have := s11.out; have := s12.out; have := s14.out; have := s17.out; have := s18.out; have := s20.out; have := s21.out; have := s24.out; have := s25.out; have := s28.out; have := s31.out; have := s32.out; have := s33.out; have := s35.out; have := s36.out; omega)
  replace ow0 := ow0.touch ht (by have := s1.out; have := s2.out; have := s3.out; have := s7.out; have := s8.out; have := s9.out; have := s10.out; have := s11.out; have := s12.out; have := s14.out; have := s17.out; have := s18.out; have := s20.out; have := s21.out; have := s24.out; have := s25.out; have := s28.out; have := s31.out; have := s32.out; have := s33.out; have := s35.out; have := s36.out; omega)
  replace ot13 := ot13.touch ht (by have := s1.out; have := s2.out; have := s3.out; have := s7.out; have := s8.out; have := s9.out; have := s10.out; have := s11.out; have := s12.out; have := s14.out; have := s17.out; have := s18.out; have := s20.out; have := s21.out; have := s24.out; have := s25.out; have := s28.out; have := s31.out; have := s32.out; have := s33.out; have := s35.out; have := s36.out; omega)
  replace ot16 := ot16.touch ht (by have := s1.out; have := s2.out; have := s3.out; have := s7.out; have := s8.out; have := s9.out; have := s10.out; have := s11.out; have := s12.out; have := s14.out; have := s17.out; have := s18.out; have := s20.out; have := s21.out; have := s24.out; have := s25.out; have := s28.out; have := s31.out; have := s32.out; have := s33.out; have := s35.out; have := s36.out; omega)
  replace hbel := hbel.trans (ht.below (by have := s1.out; have := s2.out; have := s3.out; have := s7.out; have := s8.out; have := s9.out; have := s10.out; have := s11.out; have := s12.out; have := s14.out; have := s17.out; have := s18.out; have := s20.out; have := s21.out; have := s24.out; have := s25.out; have := s28.out; have := s31.out; have := s32.out; have := s33.out; have := s35.out; have := s36.out; omega) hbel.size)
  clear ht
  go_wp2_with fail
  refine (heldRegister_any (addR xAB xAZ xBB xBZ).1 g0A g0C 1 (addR xAB xAZ xBB xBZ).2.1.length v21 og0.rd (by have := ow0.len; have := ot13.len; have := ot16.len; have := og0.len; have := hxA.len; have := hxB.len; omega) (by have := ow0.len; have := ot13.len; have := ot16.len; have := og0.len; have := hxA.len; have := hxB.len; omega)).mono ?_
  rintro e v22 ⟨rfl, hb⟩
  have s37 : Hid (v21.heap.size ≤ v22.heap.size) := Lib.hid hb.size
  replace cxA0 := kept hb cxA0
  replace cxA1 := kept hb cxA1
  replace cxB0 := kept hb cxB0
  replace cxB1 := kept hb cxB1
  replace cw00 := kept hb cw00
  replace cw01 := kept hb cw01
  replace cx00 := kept hb cx00
  replace cx01 := kept hb cx01
  replace cx10 := kept hb cx10
  replace cx11 := kept hb cx11
  replace cg00 := kept hb cg00
  replace cg01 := kept hb cg01
  replace ow0 := ow0.below hb
  replace ot13 := ot13.below hb
  replace ot16 := ot16.below hb
  replace og0 := og0.below hb
  replace hbel := hbel.trans (hb.mono hbel.size)
  clear hb
  go_upto_region 31 with fail
  go_cut [17, 18, 19] from 20 (fun sl17 sl18 sl19 wx => BoxReg v22 (addR xAB xAZ xBB xBZ).1 (addR xAB xAZ xBB xBZ).2.1 sl17 wx ∧ sl18 = .int .i64 (addR xAB xAZ xBB xBZ).2.2.1 ∧ sl19 = .int .i64 (addR xAB xAZ xBB xBZ).2.2.2)
  case first =>
    have rcxA0 := kept_all cxA0
    have rcxA1 := kept_all cxA1
    have rcxB0 := kept_all cxB0
    have rcxB1 := kept_all cxB1
    have rcw00 := kept_all cw00
    have rcw01 := kept_all cw01
    have rcx00 := kept_all cx00
    have rcx01 := kept_all cx01
    have rcx10 := kept_all cx10
    have rcx11 := kept_all cx11
    have rcg00 := kept_all cg00
    have rcg01 := kept_all cg01
    go_region_held3 (fun w' => Below v22.heap.size v22 w') (first | exact hk | exact (Below.refl _ _).drew | exact hk.alloc hk.size _ | exact (Below.refl _ _).drew.alloc (Nat.le_refl _) _ | exact (hk.alloc hk.size _).setCell hk.size _ | exact (hk.setCell bg.out _).setCell bg.out _)
      (first | (go_at_call 30; have qB := ‹Below v22.heap.size v22 _›; ((with_reducible refine (toRegister_any xAB xAA xAC xAZ ((v22.alloc (.cells #[.int .i64 0, .slice none 0 0] 26)).drew) (hxA.below (hbel.trans (qB.mono hbel.size)))).mono ?_)); rintro e v24 ⟨t38A, t38C, rfl, ot38, hb⟩; have bz := ((Bx.new v22 #[.int .i64 0, .slice none 0 0] 26).drew).below hb; have bg : Hid (v22.heap.size ≤ v22.drew.heap.size) := Lib.hid (by first | exact (‹Below v22.heap.size v22 v22.drew›).size | exact Nat.le_refl _); have hk := qB.trans (hb.mono qB.size)) | (go_at_call 30; have qB := ‹Below v22.heap.size v22 _›; ((with_reducible refine (toRegister_any xAB xAA xAC xAZ v22.drew (hxA.below (hbel.trans (qB.mono hbel.size)))).mono ?_)); rintro e v24 ⟨t38A, t38C, rfl, ot38, hb⟩; (try replace bz := bz.below hb); have hk := qB.trans (hb.mono qB.size)) | (go_at_call 30; have qB := ‹Below v22.heap.size v22 _›; ((with_reducible refine (toRegister_any xBB xBA xBC xBZ (v24.alloc (.cells #[.int .i64 0, .slice none 0 0] 26)) (hxB.below (hbel.trans (qB.mono hbel.size)))).mono ?_)); rintro e v25 ⟨t39A, t39C, rfl, ot39, hb⟩; replace ot38 := (ot38.alloc _).below hb; have bz := (Bx.new v24 #[.int .i64 0, .slice none 0 0] 26).below hb; have bg : Hid (v22.heap.size ≤ v24.heap.size) := Lib.hid (by first | exact (‹Below v22.heap.size v22 v24›).size | exact Nat.le_refl _); have hk := qB.trans (hb.mono qB.size)) | (go_at_call 30; have qB := ‹Below v22.heap.size v22 _›; ((with_reducible refine (toRegister_any xBB xBA xBC xBZ v24 (hxB.below (hbel.trans (qB.mono hbel.size)))).mono ?_)); rintro e v25 ⟨t39A, t39C, rfl, ot39, hb⟩; replace ot38 := ot38.below hb; (try replace bz := bz.below hb); have hk := qB.trans (hb.mono qB.size)) | (go_at_call 42; have qB := ‹Below v22.heap.size v22 _›; ((with_reducible refine (implAddRegisters xAB t38A t38C xAZ xBB t39A t39C xBZ (v25.alloc (.cells #[.int .i64 0, .slice none 0 0] 26)) (ot38.alloc _).rd zxA bxA (ot39.alloc _).rd zxB bxB).mono ?_)); rintro e v23 ⟨h0A, h0C, rfl, oh0, hb⟩; have bz := (Bx.new v25 #[.int .i64 0, .slice none 0 0] 26); have bg : Hid (v22.heap.size ≤ v25.heap.size) := Lib.hid (by first | exact (‹Below v22.heap.size v22 v25›).size | exact Nat.le_refl _); have bh := Lib.hid bz.lt; replace bz := bz.below hb; have bz0 := bz.at_ 0 rfl; have bf0 := bz.thaw 0; have bz1 := bz.at_ 1 rfl; have bf1 := bz.thaw 1; have hkU := qB; have hbU := hb; have hk := qB.trans (hb.mono qB.size)) | (go_at_call 42; have qB := ‹Below v22.heap.size v22 _›; ((with_reducible refine (implAddRegisters xAB t38A t38C xAZ xBB t39A t39C xBZ v25 ot38.rd zxA bxA ot39.rd zxB bxB).mono ?_)); rintro e v23 ⟨h0A, h0C, rfl, oh0, hb⟩; (try (have bh := Lib.hid bz.lt; replace bz := bz.below hb; have bz0 := bz.at_ 0 rfl; have bf0 := bz.thaw 0; have bz1 := bz.at_ 1 rfl; have bf1 := bz.thaw 1)); have hkU := qB; have hbU := hb; have hk := qB.trans (hb.mono qB.size)))
    all_goals (go_wp2_with fail; go_meet; case rel => first | exact ⟨boxReg_after hkU hbU oh0, rfl, rfl⟩ | exact ⟨boxReg_before hkU hbU oh0 bz bg bh, rfl, rfl⟩)
  case rest =>
  obtain ⟨⟨B40, h0A, h0C, B40l, B40h, rfl, ch00, ch01, oh0, s41, s42, s43, s44, s45, hb⟩, rfl, rfl⟩ := hcut
  obtain ⟨v23, rfl⟩ : ∃ u, u = wc := ⟨_, rfl⟩
  have s46 : Hid (v22.heap.size ≤ v23.heap.size) := Lib.hid hb.size
  replace cxA0 := kept hb cxA0
  replace cxA1 := kept hb cxA1
  replace cxB0 := kept hb cxB0
  replace cxB1 := kept hb cxB1
  replace cw00 := kept hb cw00
  replace cw01 := kept hb cw01
  replace cx00 := kept hb cx00
  replace cx01 := kept hb cx01
  replace cx10 := kept hb cx10
  replace cx11 := kept hb cx11
  replace cg00 := kept hb cg00
  replace cg01 := kept hb cg01
  replace ow0 := ow0.below hb
  replace ot13 := ot13.below hb
  replace ot16 := ot16.below hb
  replace og0 := og0.below hb
  replace hbel := hbel.trans (hb.mono hbel.size)
  clear hb
  have q47 : regEqB (addR xAB xAZ xBB xBZ).1 (addR xAB xAZ xBB xBZ).1 (addR xAB xAZ xBB xBZ).2.1 (addR xAB xAZ xBB xBZ).2.1 = true := regEqB_self _ _
  go_wp2_with fail
  refine (eqRegister_any (addR xAB xAZ xBB xBZ).1 (addR xAB xAZ xBB xBZ).1 h0A w0A h0C w0C (addR xAB xAZ xBB xBZ).2.1 (addR xAB xAZ xBB xBZ).2.1 v23 oh0.rd ow0.rd).mono ?_
  rintro e v26 ⟨rfl, hb⟩
  have s48 : Hid (v23.heap.size ≤ v26.heap.size) := Lib.hid hb.size
  replace cxA0 := kept hb cxA0
  replace cxA1 := kept hb cxA1
  replace cxB0 := kept hb cxB0
  replace cxB1 := kept hb cxB1
  replace cw00 := kept hb cw00
  replace cw01 := kept hb cw01
  replace cx00 := kept hb cx00
  replace cx01 := kept hb cx01
  replace cx10 := kept hb cx10
  replace cx11 := kept hb cx11
  replace cg00 := kept hb cg00
  replace cg01 := kept hb cg01
  replace ch00 := kept hb ch00
  replace ch01 := kept hb ch01
  replace ow0 := ow0.below hb
  replace ot13 := ot13.below hb
  replace ot16 := ot16.below hb
  replace og0 := og0.below hb
  replace oh0 := oh0.below hb
  replace hbel := hbel.trans (hb.mono hbel.size)
  clear hb
  go_wp2_with fail
  refine (heldRegister_any (addR xAB xAZ xBB xBZ).1 g0A g0C 1 (addR xAB xAZ xBB xBZ).2.1.length v26 og0.rd (by have := ow0.len; have := ot13.len; have := ot16.len; have := og0.len; have := oh0.len; have := hxA.len; have := hxB.len; omega) (by have := ow0.len; have := ot13.len; have := ot16.len; have := og0.len; have := oh0.len; have := hxA.len; have := hxB.len; omega)).mono ?_
  rintro e v27 ⟨rfl, hb⟩
  have s49 : Hid (v26.heap.size ≤ v27.heap.size) := Lib.hid hb.size
  replace cxA0 := kept hb cxA0
  replace cxA1 := kept hb cxA1
  replace cxB0 := kept hb cxB0
  replace cxB1 := kept hb cxB1
  replace cw00 := kept hb cw00
  replace cw01 := kept hb cw01
  replace cx00 := kept hb cx00
  replace cx01 := kept hb cx01
  replace cx10 := kept hb cx10
  replace cx11 := kept hb cx11
  replace cg00 := kept hb cg00
  replace cg01 := kept hb cg01
  replace ch00 := kept hb ch00
  replace ch01 := kept hb ch01
  replace ow0 := ow0.below hb
  replace ot13 := ot13.below hb
  replace ot16 := ot16.below hb
  replace og0 := og0.below hb
  replace oh0 := oh0.below hb
  replace hbel := hbel.trans (hb.mono hbel.size)
  clear hb
  go_wp2
  go_ret
  exact ⟨rfl, hbel⟩

set_option maxRecDepth 100000 in
theorem lifted (os : Os) (started : os.Started) (H : Type) (enc : TypeId × Value → H) :
    ReturnsInHanded {} Try.checked os 10 .any (Rows.fnExactAddRegistersSpec.pre6 enc Try.prog Try.f10 Rows.fnExactAddRegistersRow.domain false) (Rows.fnExactAddRegistersSpec.post enc Try.prog Try.f10 false true false false) := by
  refine returnsInHanded_of_change (C := Try.checked) own_knob started (by kernel_rfl) Try.func10
    (ChangeSpec.witness6 (enc := enc) (C := Try.checked) false ⟨#[], #[.agg #[.int .i64 0, .slice none 0 0], .agg #[.int .i64 0, .slice none 0 0]], []⟩ 8 (by kernel_rfl) (by kernel_rfl) (by kernel_rfl) (by kernel_rfl)) ?_
  intro W base args ds gs before hval0 hW hcnd _
  have hval : ∀ (j : Nat) t v, Try.f10.params[j]? = some t → args[j]? = some v → Value.okWide Try.prog W .any base t v := hval0
  have hW' := hW
  obtain ⟨p, q, hA0, hV, rfl, hfz, hnd⟩ := hW
  have hA : DataW.TrodAll enc Try.prog W 0 (fun _ => true) true Try.f10.params.toList args.toList ds p := hA0
  rw [Try.params10] at hA hval
  obtain ⟨v0, vs0, d0, ds0, p0, q0, hargs, rfl, rfl, h0, r0⟩ := trodAll_cons hA
  obtain ⟨v1, vs1, d1, ds1, p1, q1, rfl, rfl, rfl, h1, r1⟩ := trodAll_cons r0
  obtain ⟨rfl, rfl, rfl⟩ := trodAll_nil r1
  obtain rfl : args = #[v0, v1] := by cases args; simp_all
  obtain ⟨rfl, rfl⟩ := trodVars_none hV
  have k0 := h0
  have lt0 : ∀ x ∈ p0, x.block < W.heap.size := by obtain ⟨m, hm⟩ := k0; exact DataW.trod_lt m _ _ _ hm
  obtain ⟨xAB, xAA, xAC, xAZ, rfl, hxA, bxA⟩ := open_Register (hval 0 40 v0 rfl rfl) h0
  have k1 := h1
  have lt1 : ∀ x ∈ p1, x.block < W.heap.size := by obtain ⟨m, hm⟩ := k1; exact DataW.trod_lt m _ _ _ hm
  obtain ⟨xBB, xBA, xBC, xBZ, rfl, hxB, bxB⟩ := open_Register (hval 1 40 v1 rfl rfl) h1
  clear hA0 hval0
  refine (law_walk xAB xAA xAC xAZ xBB xBA xBC xBZ W hxA bxA hxB bxB).mono fun e W' ⟨he, bel⟩ => ?_
  subst he
  exact ⟨_, rfl, _, _, _, [], _, [], hW', trodAll_mk1 (shut_bool Try.underlying4 _), (trodAll_cons_mk (Below.trod laid_out (by kernel_rfl) (of_decide_eq_true (by kernel_rfl)) k0 bel lt0) (trodAll_cons_mk (Below.trod laid_out (by kernel_rfl) (of_decide_eq_true (by kernel_rfl)) k1 bel lt1) trodAll_mk0)), rfl, bel.frame _, fun h => by cases h⟩

theorem over : Rows.fnExactAddRegistersRow.holds Try.pinned (OpenSpec.ofChange Rows.fnExactAddRegistersSpec) :=
  OpenClaim.holds_of_wide 10 Try.f10 rfl rfl rfl rfl rfl rfl rfl ⟨rfl, rfl, rfl, rfl, rfl⟩ rfl rfl rfl rfl rfl (by kernel_rfl) Try.func10 (by kernel_rfl)
    (of_decide_eq_true (by kernel_rfl)) (by unfold Func.isWrapper; rw [if_neg (by decide +kernel)]; exact ⟨rfl, rfl⟩)
    (fun os started H enc _ => lifted os started H enc)

/-- The statement. -/
theorem proved : Rows.FnExactAddRegistersSaid := over
end Go.Proofs.Ytfhiialalglefaa.lawAddRegisters
