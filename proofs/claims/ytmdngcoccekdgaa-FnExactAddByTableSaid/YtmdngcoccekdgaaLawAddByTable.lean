/-
  laws.FnExactAddByTable returns true at every input (no condition), and leaves its arguments as they were.
-/
import Derived.Test.YtmdngcoccekdgaaReg
import Derived.Test.YtmdngcoccekdgaaBox
import Derived.Test.YtmdngcoccekdgaaFrame
import Derived.Test.YtmdngcoccekdgaaAddRowS
import Derived.Test.YtmdngcoccekdgaaFrameI
import Derived.Test.YtmdngcoccekdgaaFrameT
import Derived.Test.YtmdngcoccekdgaaAbtAll
import Derived.Deep.RegionHeld3
import Derived.Test.YtmdngcoccekdgaaFacts
import Derived.Test.YtmdngcoccekdgaaRows
namespace Go.Proofs.Ytmdngcoccekdgaa.lawAddByTable
open Go.ChangeShapes Go.WideShapes Go.ChangeAt Go.WideElems Go.RowKit Go.Joins
open Go.ChangeMaps (open_string shut_string)

set_option maxRecDepth 100000 in
set_option maxHeartbeats 4000000 in
theorem law_walk (xListA : Option Addr) (xListC : Nat) (xListZ : List (Int × Int × Int × Int × Int)) (xAB : Int) (xAA : Option Addr) (xAC : Nat) (xAZ : List Int) (xBB : Int) (xBA : Option Addr) (xBC : Nat) (xBZ : List Int) (w : World) (hxList : RawF quinF (fun x => I64 x.1 ∧ I64 x.2.1 ∧ I64 x.2.2.1 ∧ I64 x.2.2.2.1 ∧ I64 x.2.2.2.2) w xListA xListZ) (hxA : Raw w xAA xAZ) (bxA : I64 xAB) (hxB : Raw w xBA xBZ) (bxB : I64 xBB) :
    Calls Try.prog 10 #[.slice xListA xListZ.length xListC, .agg #[.int .i64 xAB, .slice xAA xAZ.length xAC], .agg #[.int .i64 xBB, .slice xBA xBZ.length xBC]] w fun e w' => e = .returned (.bool true) ∧ Below w.heap.size w w' := by
  have hbel : Below w.heap.size w ((w.alloc (.cells #[.int .i64 xAB, .slice xAA xAZ.length xAC] 47)).alloc (.cells #[.int .i64 xBB, .slice xBA xBZ.length xBC] 47)) := ((Below.refl _ _).alloc (by simp <;> omega) _).alloc (by simp <;> omega) _
  have cxA0 : ((w.alloc (.cells #[.int .i64 xAB, .slice xAA xAZ.length xAC] 47)).alloc (.cells #[.int .i64 xBB, .slice xBA xBZ.length xBC] 47)).cell? ⟨w.heap.size, 0, none⟩ = some (.int .i64 xAB) := by go_simp
  have cxA1 : ((w.alloc (.cells #[.int .i64 xAB, .slice xAA xAZ.length xAC] 47)).alloc (.cells #[.int .i64 xBB, .slice xBA xBZ.length xBC] 47)).cell? ⟨w.heap.size, 1, none⟩ = some (.slice xAA xAZ.length xAC) := by go_simp
  have cxB0 : ((w.alloc (.cells #[.int .i64 xAB, .slice xAA xAZ.length xAC] 47)).alloc (.cells #[.int .i64 xBB, .slice xBA xBZ.length xBC] 47)).cell? ⟨w.heap.size + 1, 0, none⟩ = some (.int .i64 xBB) := by go_simp
  have cxB1 : ((w.alloc (.cells #[.int .i64 xAB, .slice xAA xAZ.length xAC] 47)).alloc (.cells #[.int .i64 xBB, .slice xBA xBZ.length xBC] 47)).cell? ⟨w.heap.size + 1, 1, none⟩ = some (.slice xBA xBZ.length xBC) := by go_simp
  go_enter Try.func10, Try.ntmps10
  go_wp2_with fail
  obtain ⟨v1, hu⟩ : ∃ u, u = ((w.alloc (.cells #[.int .i64 xAB, .slice xAA xAZ.length xAC] 47)).alloc (.cells #[.int .i64 xBB, .slice xBA xBZ.length xBC] 47)) := ⟨_, rfl⟩
  have s1 : Hid (w.heap.size + 2 ≤ v1.heap.size) := Lib.hid (by rw [hu]; simp)
  rw [← hu] at cxA0 cxA1 cxB0 cxB1 hbel ⊢
  clear hu
  rcases Int.lt_or_le (leftOf xListZ.length 1048576) 0 with k1 | k1
  · refine (szAddRowS_any xListA xListZ.length xListC 1048576 v1 hxList.len (by omega) (by omega)).mono ?_
    rintro e v2 ⟨rfl, hb⟩
    subst hb
    go_wp2
    go_ret
    exact ⟨rfl, hbel⟩
  have m1 := leftOf_le xListZ.length 1048576 (by omega)
  refine (szAddRowS_any xListA xListZ.length xListC 1048576 v1 hxList.len (by omega) (by omega)).mono ?_
  rintro e v2 ⟨rfl, hb⟩
  replace hb : Below v1.heap.size v1 v2 := by rw [← hb]; exact Below.refl _ _
  have s2 : Hid (v1.heap.size ≤ v2.heap.size) := Lib.hid hb.size
  replace cxA0 := kept hb cxA0
  replace cxA1 := kept hb cxA1
  replace cxB0 := kept hb cxB0
  replace cxB1 := kept hb cxB1
  replace hbel := hbel.trans (hb.mono hbel.size)
  clear hb
  have zxList : All5 xListZ := hxList.wf
  replace hxList := hxList.rd (by have := leftOf_len k1; omega)
  go_wp2_with fail
  rcases Int.lt_or_le (leftOf xAZ.length (leftOf xListZ.length 1048576)) 0 with k2 | k2
  · refine (szRegister_any xAB xAA xAZ.length xAC (leftOf xListZ.length 1048576) v2 hxA.len (by omega) (by omega)).mono ?_
    rintro e v3 ⟨rfl, hb⟩
    go_wp2
    go_ret
    exact ⟨rfl, hbel.trans (hb.mono hbel.size)⟩
  have m2 := leftOf_le xAZ.length (leftOf xListZ.length 1048576) (by omega)
  refine (szRegister_any xAB xAA xAZ.length xAC (leftOf xListZ.length 1048576) v2 hxA.len (by omega) (by omega)).mono ?_
  rintro e v3 ⟨rfl, hb⟩
  have s3 : Hid (v2.heap.size ≤ v3.heap.size) := Lib.hid hb.size
  replace cxA0 := kept hb cxA0
  replace cxA1 := kept hb cxA1
  replace cxB0 := kept hb cxB0
  replace cxB1 := kept hb cxB1
  replace hbel := hbel.trans (hb.mono hbel.size)
  clear hb
  have zxA := hxA.wf
  replace hxA := hxA.rd (by have := leftOf_len k2; omega)
  go_wp2_with fail
  rcases Int.lt_or_le (leftOf xBZ.length (leftOf xAZ.length (leftOf xListZ.length 1048576))) 0 with k3 | k3
  · refine (szRegister_any xBB xBA xBZ.length xBC (leftOf xAZ.length (leftOf xListZ.length 1048576)) v3 hxB.len (by omega) (by omega)).mono ?_
    rintro e v4 ⟨rfl, hb⟩
    go_wp2
    go_ret
    exact ⟨rfl, hbel.trans (hb.mono hbel.size)⟩
  have m3 := leftOf_le xBZ.length (leftOf xAZ.length (leftOf xListZ.length 1048576)) (by omega)
  refine (szRegister_any xBB xBA xBZ.length xBC (leftOf xAZ.length (leftOf xListZ.length 1048576)) v3 hxB.len (by omega) (by omega)).mono ?_
  rintro e v4 ⟨rfl, hb⟩
  have s4 : Hid (v3.heap.size ≤ v4.heap.size) := Lib.hid hb.size
  replace cxA0 := kept hb cxA0
  replace cxA1 := kept hb cxA1
  replace cxB0 := kept hb cxB0
  replace cxB1 := kept hb cxB1
  replace hbel := hbel.trans (hb.mono hbel.size)
  clear hb
  have zxB := hxB.wf
  replace hxB := hxB.rd (by have := leftOf_len k3; omega)
  go_upto_region 11 with fail
  go_cut [8, 9, 10] from 23 (fun sl8 sl9 sl10 wx => BoxReg v4 (abtR xListZ xAB xAZ xBB xBZ).1 (abtR xListZ xAB xAZ xBB xBZ).2.1 sl8 wx ∧ sl9 = .int .i64 (abtR xListZ xAB xAZ xBB xBZ).2.2.1 ∧ sl10 = .int .i64 (abtR xListZ xAB xAZ xBB xBZ).2.2.2)
  case first =>
    have rcxA0 := kept_all cxA0
    have rcxA1 := kept_all cxA1
    have rcxB0 := kept_all cxB0
    have rcxB1 := kept_all cxB1
    clear cxA0 cxA1 cxB0 cxB1
    go_region_held3 (fun w' => Below v4.heap.size v4 w') (first | exact hk | exact (Below.refl _ _).drew | exact hk.alloc hk.size _ | exact (Below.refl _ _).drew.alloc (Nat.le_refl _) _ | exact (hk.alloc hk.size _).setCell hk.size _ | exact ((hk.setCell bg.out _).setCell bg.out _))
      (first | (go_at_call 47; have qB := ‹Below v4.heap.size v4 _›; ((with_reducible refine (toAddRowS_any xListA xListC xListZ ((v4.alloc (.cells #[.int .i64 0, .slice none 0 0] 31)).drew) (hxList.below (hbel.trans (qB.mono hbel.size)))).mono ?_)); rintro e v6 ⟨t5A, t5C, rfl, ot5, hb⟩; have bz := ((Bx.new v4 #[.int .i64 0, .slice none 0 0] 31).drew).below hb; have bg : Hid (v4.heap.size ≤ v4.drew.heap.size) := Lib.hid (by first | exact (‹Below v4.heap.size v4 v4.drew›).size | exact Nat.le_refl _); have hk := qB.trans (hb.mono qB.size)) | (go_at_call 47; have qB := ‹Below v4.heap.size v4 _›; ((with_reducible refine (toAddRowS_any xListA xListC xListZ v4.drew (hxList.below (hbel.trans (qB.mono hbel.size)))).mono ?_)); rintro e v6 ⟨t5A, t5C, rfl, ot5, hb⟩; (try replace bz := bz.below hb); have hk := qB.trans (hb.mono qB.size)) | (go_at_call 29; have qB := ‹Below v4.heap.size v4 _›; ((with_reducible refine (toRegister_any xAB xAA xAC xAZ (v6.alloc (.cells #[.int .i64 0, .slice none 0 0] 31)) (hxA.below (hbel.trans (qB.mono hbel.size)))).mono ?_)); rintro e v7 ⟨t6A, t6C, rfl, ot6, hb⟩; replace ot5 := (ot5.alloc _).below hb; have bz := (Bx.new v6 #[.int .i64 0, .slice none 0 0] 31).below hb; have bg : Hid (v4.heap.size ≤ v6.heap.size) := Lib.hid (by first | exact (‹Below v4.heap.size v4 v6›).size | exact Nat.le_refl _); have hk := qB.trans (hb.mono qB.size)) | (go_at_call 29; have qB := ‹Below v4.heap.size v4 _›; ((with_reducible refine (toRegister_any xAB xAA xAC xAZ v6 (hxA.below (hbel.trans (qB.mono hbel.size)))).mono ?_)); rintro e v7 ⟨t6A, t6C, rfl, ot6, hb⟩; replace ot5 := ot5.below hb; (try replace bz := bz.below hb); have hk := qB.trans (hb.mono qB.size)) | (go_at_call 29; have qB := ‹Below v4.heap.size v4 _›; ((with_reducible refine (toRegister_any xBB xBA xBC xBZ (v7.alloc (.cells #[.int .i64 0, .slice none 0 0] 31)) (hxB.below (hbel.trans (qB.mono hbel.size)))).mono ?_)); rintro e v8 ⟨t7A, t7C, rfl, ot7, hb⟩; replace ot5 := (ot5.alloc _).below hb; replace ot6 := (ot6.alloc _).below hb; have bz := (Bx.new v7 #[.int .i64 0, .slice none 0 0] 31).below hb; have bg : Hid (v4.heap.size ≤ v7.heap.size) := Lib.hid (by first | exact (‹Below v4.heap.size v4 v7›).size | exact Nat.le_refl _); have hk := qB.trans (hb.mono qB.size)) | (go_at_call 29; have qB := ‹Below v4.heap.size v4 _›; ((with_reducible refine (toRegister_any xBB xBA xBC xBZ v7 (hxB.below (hbel.trans (qB.mono hbel.size)))).mono ?_)); rintro e v8 ⟨t7A, t7C, rfl, ot7, hb⟩; replace ot5 := ot5.below hb; replace ot6 := ot6.below hb; (try replace bz := bz.below hb); have hk := qB.trans (hb.mono qB.size)) | (go_at_call 48; have qB := ‹Below v4.heap.size v4 _›; ((with_reducible refine (specAddByTable t5A t5C xListZ xAB t6A t6C xAZ xBB t7A t7C xBZ (v8.alloc (.cells #[.int .i64 0, .slice none 0 0] 31)) (ot5.alloc _).rd zxList (ot6.alloc _).rd zxA bxA (ot7.alloc _).rd zxB bxB).mono ?_)); rintro e v5 ⟨w0A, w0C, rfl, ow0, hb⟩; have bz := (Bx.new v8 #[.int .i64 0, .slice none 0 0] 31); have bg : Hid (v4.heap.size ≤ v8.heap.size) := Lib.hid (by first | exact (‹Below v4.heap.size v4 v8›).size | exact Nat.le_refl _); have bh := Lib.hid bz.lt; replace bz := bz.below hb; have bz0 := bz.at_ 0 rfl; have bf0 := bz.thaw 0; have bz1 := bz.at_ 1 rfl; have bf1 := bz.thaw 1; have hkU := qB; have hbU := hb; have hk := qB.trans (hb.mono qB.size)) | (go_at_call 48; have qB := ‹Below v4.heap.size v4 _›; ((with_reducible refine (specAddByTable t5A t5C xListZ xAB t6A t6C xAZ xBB t7A t7C xBZ v8 ot5.rd zxList ot6.rd zxA bxA ot7.rd zxB bxB).mono ?_)); rintro e v5 ⟨w0A, w0C, rfl, ow0, hb⟩; (try (have bh := Lib.hid bz.lt; replace bz := bz.below hb; have bz0 := bz.at_ 0 rfl; have bf0 := bz.thaw 0; have bz1 := bz.at_ 1 rfl; have bf1 := bz.thaw 1)); have hkU := qB; have hbU := hb; have hk := qB.trans (hb.mono qB.size)))
    all_goals (go_wp2_with fail; go_meet; case rel => first | with_reducible exact ⟨boxReg_after hkU hbU ow0, rfl, rfl⟩ | with_reducible exact ⟨boxReg_before hkU hbU ow0 bz bg bh, rfl, rfl⟩ | exact ⟨boxReg_after hkU hbU ow0, rfl, rfl⟩ | exact ⟨boxReg_before hkU hbU ow0 bz bg bh, rfl, rfl⟩)
  case rest =>
  obtain ⟨⟨B8, w0A, w0C, B8l, B8h, rfl, cw00, cw01, ow0, s9, s10, s11, s12, s13, hb⟩, rfl, rfl⟩ := hcut
  obtain ⟨v5, rfl⟩ : ∃ u, u = wc := ⟨_, rfl⟩
  have s14 : Hid (v4.heap.size ≤ v5.heap.size) := Lib.hid hb.size
  replace cxA0 := kept hb cxA0
  replace cxA1 := kept hb cxA1
  replace cxB0 := kept hb cxB0
  replace cxB1 := kept hb cxB1
  replace hbel := hbel.trans (hb.mono hbel.size)
  clear hb
  go_wp2_with fail
  refine (toAddRowS_any xListA xListC xListZ v5 (hxList.below hbel)).mono ?_
  rintro e v9 ⟨t15A, t15C, rfl, ot15, hb⟩
  have s16 : Hid (v5.heap.size ≤ v9.heap.size) := Lib.hid hb.size
  replace cxA0 := kept hb cxA0
  replace cxA1 := kept hb cxA1
  replace cxB0 := kept hb cxB0
  replace cxB1 := kept hb cxB1
  replace cw00 := kept hb cw00
  replace cw01 := kept hb cw01
  replace ow0 := ow0.below hb
  replace hbel := hbel.trans (hb.mono hbel.size)
  clear hb
  go_wp2_with fail
  refine (toRegister_any xAB xAA xAC xAZ v9 (hxA.below hbel)).mono ?_
  rintro e v10 ⟨t17A, t17C, rfl, ot17, hb⟩
  have s18 : Hid (v9.heap.size ≤ v10.heap.size) := Lib.hid hb.size
  replace cxA0 := kept hb cxA0
  replace cxA1 := kept hb cxA1
  replace cxB0 := kept hb cxB0
  replace cxB1 := kept hb cxB1
  replace cw00 := kept hb cw00
  replace cw01 := kept hb cw01
  replace ow0 := ow0.below hb
  replace ot15 := ot15.below hb
  replace hbel := hbel.trans (hb.mono hbel.size)
  clear hb
  have ha19 : Below v10.heap.size v10 (v10.alloc (.cells #[.int .i64 xAB, .slice t17A xAZ.length t17C] 31)) := (Below.refl _ _).alloc (by simp <;> omega) _
  replace cxA0 := kept ha19 cxA0
  replace cxA1 := kept ha19 cxA1
  replace cxB0 := kept ha19 cxB0
  replace cxB1 := kept ha19 cxB1
  replace cw00 := kept ha19 cw00
  replace cw01 := kept ha19 cw01
  replace ow0 := ow0.below ha19
  replace ot15 := ot15.below ha19
  replace ot17 := ot17.below ha19
  replace hbel := hbel.trans (ha19.mono hbel.size)
  clear ha19
  have cx10 : (v10.alloc (.cells #[.int .i64 xAB, .slice t17A xAZ.length t17C] 31)).cell? ⟨v10.heap.size, 0, none⟩ = some (.int .i64 xAB) := by go_simp
  have cx11 : (v10.alloc (.cells #[.int .i64 xAB, .slice t17A xAZ.length t17C] 31)).cell? ⟨v10.heap.size, 1, none⟩ = some (.slice t17A xAZ.length t17C) := by go_simp
  go_wp2_with fail
  obtain ⟨v11, hu⟩ : ∃ u, u = (v10.alloc (.cells #[.int .i64 xAB, .slice t17A xAZ.length t17C] 31)) := ⟨_, rfl⟩
  have s21 : Hid (v10.heap.size + 1 ≤ v11.heap.size) := Lib.hid (by rw [hu]; simp)
  rw [← hu] at cxA0 cxA1 cxB0 cxB1 cw00 cw01 cx10 cx11 ow0 ot15 ot17 hbel ⊢
  clear hu
  refine (toRegister_any xBB xBA xBC xBZ v11 (hxB.below hbel)).mono ?_
  rintro e v12 ⟨t20A, t20C, rfl, ot20, hb⟩
  have s22 : Hid (v11.heap.size ≤ v12.heap.size) := Lib.hid hb.size
  replace cxA0 := kept hb cxA0
  replace cxA1 := kept hb cxA1
  replace cxB0 := kept hb cxB0
  replace cxB1 := kept hb cxB1
  replace cw00 := kept hb cw00
  replace cw01 := kept hb cw01
  replace cx10 := kept hb cx10
  replace cx11 := kept hb cx11
  replace ow0 := ow0.below hb
  replace ot15 := ot15.below hb
  replace ot17 := ot17.below hb
  replace hbel := hbel.trans (hb.mono hbel.size)
  clear hb
  have ha23 : Below v12.heap.size v12 (v12.alloc (.cells #[.int .i64 xBB, .slice t20A xBZ.length t20C] 31)) := (Below.refl _ _).alloc (by simp <;> omega) _
  replace cxA0 := kept ha23 cxA0
  replace cxA1 := kept ha23 cxA1
  replace cxB0 := kept ha23 cxB0
  replace cxB1 := kept ha23 cxB1
  replace cw00 := kept ha23 cw00
  replace cw01 := kept ha23 cw01
  replace cx10 := kept ha23 cx10
  replace cx11 := kept ha23 cx11
  replace ow0 := ow0.below ha23
  replace ot15 := ot15.below ha23
  replace ot17 := ot17.below ha23
  replace ot20 := ot20.below ha23
  replace hbel := hbel.trans (ha23.mono hbel.size)
  clear ha23
  have cx20 : (v12.alloc (.cells #[.int .i64 xBB, .slice t20A xBZ.length t20C] 31)).cell? ⟨v12.heap.size, 0, none⟩ = some (.int .i64 xBB) := by go_simp
  have cx21 : (v12.alloc (.cells #[.int .i64 xBB, .slice t20A xBZ.length t20C] 31)).cell? ⟨v12.heap.size, 1, none⟩ = some (.slice t20A xBZ.length t20C) := by go_simp
  go_wp2_with fail
  obtain ⟨v13, hu⟩ : ∃ u, u = (v12.alloc (.cells #[.int .i64 xBB, .slice t20A xBZ.length t20C] 31)) := ⟨_, rfl⟩
  have s24 : Hid (v12.heap.size + 1 ≤ v13.heap.size) := Lib.hid (by rw [hu]; simp)
  rw [← hu] at cxA0 cxA1 cxB0 cxB1 cw00 cw01 cx10 cx11 cx20 cx21 ow0 ot15 ot17 ot20 hbel ⊢
  clear hu
  refine (implAddByTable t15A t15C xListZ xAB t17A t17C xAZ xBB t20A t20C xBZ v13 ot15.rd zxList ot17.rd zxA bxA ot20.rd zxB bxB).mono ?_
  rintro e v14 ⟨g0A, g0C, rfl, og0, hb⟩
  have s25 : Hid (v13.heap.size ≤ v14.heap.size) := Lib.hid hb.size
  replace cxA0 := kept hb cxA0
  replace cxA1 := kept hb cxA1
  replace cxB0 := kept hb cxB0
  replace cxB1 := kept hb cxB1
  replace cw00 := kept hb cw00
  replace cw01 := kept hb cw01
  replace cx10 := kept hb cx10
  replace cx11 := kept hb cx11
  replace cx20 := kept hb cx20
  replace cx21 := kept hb cx21
  replace ow0 := ow0.below hb
  replace ot15 := ot15.below hb
  replace ot17 := ot17.below hb
  replace ot20 := ot20.below hb
  replace hbel := hbel.trans (hb.mono hbel.size)
  clear hb
  have ha26 : Below v14.heap.size v14 (v14.alloc (.cells #[.int .i64 (abtR xListZ xAB xAZ xBB xBZ).1, .slice g0A (abtR xListZ xAB xAZ xBB xBZ).2.1.length g0C] 31)) := (Below.refl _ _).alloc (by simp <;> omega) _
  replace cxA0 := kept ha26 cxA0
  replace cxA1 := kept ha26 cxA1
  replace cxB0 := kept ha26 cxB0
  replace cxB1 := kept ha26 cxB1
  replace cw00 := kept ha26 cw00
  replace cw01 := kept ha26 cw01
  replace cx10 := kept ha26 cx10
  replace cx11 := kept ha26 cx11
  replace cx20 := kept ha26 cx20
  replace cx21 := kept ha26 cx21
  replace ow0 := ow0.below ha26
  replace ot15 := ot15.below ha26
  replace ot17 := ot17.below ha26
  replace ot20 := ot20.below ha26
  replace og0 := og0.below ha26
  replace hbel := hbel.trans (ha26.mono hbel.size)
  clear ha26
  have cg00 : (v14.alloc (.cells #[.int .i64 (abtR xListZ xAB xAZ xBB xBZ).1, .slice g0A (abtR xListZ xAB xAZ xBB xBZ).2.1.length g0C] 31)).cell? ⟨v14.heap.size, 0, none⟩ = some (.int .i64 (abtR xListZ xAB xAZ xBB xBZ).1) := by go_simp
  have cg01 : (v14.alloc (.cells #[.int .i64 (abtR xListZ xAB xAZ xBB xBZ).1, .slice g0A (abtR xListZ xAB xAZ xBB xBZ).2.1.length g0C] 31)).cell? ⟨v14.heap.size, 1, none⟩ = some (.slice g0A (abtR xListZ xAB xAZ xBB xBZ).2.1.length g0C) := by go_simp
  have q27 : regEqB (abtR xListZ xAB xAZ xBB xBZ).1 (abtR xListZ xAB xAZ xBB xBZ).1 (abtR xListZ xAB xAZ xBB xBZ).2.1 (abtR xListZ xAB xAZ xBB xBZ).2.1 = true := regEqB_self _ _
  go_wp2_with fail
  obtain ⟨v15, hu⟩ : ∃ u, u = (v14.alloc (.cells #[.int .i64 (abtR xListZ xAB xAZ xBB xBZ).1, .slice g0A (abtR xListZ xAB xAZ xBB xBZ).2.1.length g0C] 31)) := ⟨_, rfl⟩
  have s28 : Hid (v14.heap.size + 1 ≤ v15.heap.size) := Lib.hid (by rw [hu]; simp)
  rw [← hu] at cxA0 cxA1 cxB0 cxB1 cw00 cw01 cx10 cx11 cx20 cx21 cg00 cg01 ow0 ot15 ot17 ot20 og0 hbel ⊢
  clear hu
  refine (eqRegister_any (abtR xListZ xAB xAZ xBB xBZ).1 (abtR xListZ xAB xAZ xBB xBZ).1 g0A w0A g0C w0C (abtR xListZ xAB xAZ xBB xBZ).2.1 (abtR xListZ xAB xAZ xBB xBZ).2.1 v15 og0.rd ow0.rd).mono ?_
  rintro e v16 ⟨rfl, hb⟩
  have s29 : Hid (v15.heap.size ≤ v16.heap.size) := Lib.hid hb.size
  replace cxA0 := kept hb cxA0
  replace cxA1 := kept hb cxA1
  replace cxB0 := kept hb cxB0
  replace cxB1 := kept hb cxB1
  replace cw00 := kept hb cw00
  replace cw01 := kept hb cw01
  replace cx10 := kept hb cx10
  replace cx11 := kept hb cx11
  replace cx20 := kept hb cx20
  replace cx21 := kept hb cx21
  replace cg00 := kept hb cg00
  replace cg01 := kept hb cg01
  replace ow0 := ow0.below hb
  replace ot15 := ot15.below hb
  replace ot17 := ot17.below hb
  replace ot20 := ot20.below hb
  replace og0 := og0.below hb
  replace hbel := hbel.trans (hb.mono hbel.size)
  clear hb
  have q30 : decide (xListZ = xListZ) = true := decide_eq_true rfl
  go_wp2_with fail
  refine (toAddRowS_any xListA xListC xListZ v16 (hxList.below hbel)).mono ?_
  rintro e v17 ⟨t31A, t31C, rfl, ot31, hb⟩
  have s32 : Hid (v16.heap.size ≤ v17.heap.size) := Lib.hid hb.size
  replace cxA0 := kept hb cxA0
  replace cxA1 := kept hb cxA1
  replace cxB0 := kept hb cxB0
  replace cxB1 := kept hb cxB1
  replace cw00 := kept hb cw00
  replace cw01 := kept hb cw01
  replace cx10 := kept hb cx10
  replace cx11 := kept hb cx11
  replace cx20 := kept hb cx20
  replace cx21 := kept hb cx21
  replace cg00 := kept hb cg00
  replace cg01 := kept hb cg01
  replace ow0 := ow0.below hb
  replace ot15 := ot15.below hb
  replace ot17 := ot17.below hb
  replace ot20 := ot20.below hb
  replace og0 := og0.below hb
  replace hbel := hbel.trans (hb.mono hbel.size)
  clear hb
  go_wp2_with fail
  refine (eqAddRowS_any t15A t31A t15C t31C xListZ xListZ v17 ot15.rd ot31.rd).mono ?_
  rintro e v18 ⟨rfl, hb⟩
  have s33 : Hid (v17.heap.size ≤ v18.heap.size) := Lib.hid hb.size
  replace cxA0 := kept hb cxA0
  replace cxA1 := kept hb cxA1
  replace cxB0 := kept hb cxB0
  replace cxB1 := kept hb cxB1
  replace cw00 := kept hb cw00
  replace cw01 := kept hb cw01
  replace cx10 := kept hb cx10
  replace cx11 := kept hb cx11
  replace cx20 := kept hb cx20
  replace cx21 := kept hb cx21
  replace cg00 := kept hb cg00
  replace cg01 := kept hb cg01
  replace ow0 := ow0.below hb
  replace ot15 := ot15.below hb
  replace ot17 := ot17.below hb
  replace ot20 := ot20.below hb
  replace og0 := og0.below hb
  replace ot31 := ot31.below hb
  replace hbel := hbel.trans (hb.mono hbel.size)
  clear hb
  clear ot31
  have q34 : regEqB xAB xAB xAZ xAZ = true := regEqB_self _ _
  go_wp2_with fail
  have rcxA0 := kept_all cxA0
  have rcxA1 := kept_all cxA1
  have rcxB0 := kept_all cxB0
  have rcxB1 := kept_all cxB1
  have rcw00 := kept_all cw00
  have rcw01 := kept_all cw01
  have rcx10 := kept_all cx10
  have rcx11 := kept_all cx11
  have rcx20 := kept_all cx20
  have rcx21 := kept_all cx21
  have rcg00 := kept_all cg00
  have rcg01 := kept_all cg01
  go_region_held3 (fun w' => Below v18.heap.size v18 w') (first | exact hk | exact (Below.refl _ _).drew | exact hk.alloc hk.size _ | exact (hk.alloc hk.size _).setCell hk.size _)
    (first | (go_at_call 29; have qB := ‹Below v18.heap.size v18 _›; ((with_reducible refine (toRegister_any xAB xAA xAC xAZ _ (hxA.below (hbel.trans (qB.mono hbel.size)))).mono ?_)); rintro e v20 ⟨t35A, t35C, rfl, ot35, hb⟩; have hk := qB.trans (hb.mono qB.size)) | (go_at_call 31; have qB := ‹Below v18.heap.size v18 _›; refine (eqRegister_any xAB xAB t17A t35A t17C t35C xAZ xAZ _ (ot17.below qB).rd (by first | exact ot35.rd | exact (ot35.alloc _).rd)).mono ?_; rintro e v19 ⟨rfl, hb⟩; have hk := qB.trans (hb.mono qB.size)))
  have hb : Below v18.heap.size v18 v19 := by assumption
  clear rcxA0 rcxA1 rcxB0 rcxB1 rcw00 rcw01 rcx10 rcx11 rcx20 rcx21 rcg00 rcg01
  clear ot35
  have s36 : Hid (v18.heap.size ≤ v19.heap.size) := Lib.hid hb.size
  replace cxA0 := kept hb cxA0
  replace cxA1 := kept hb cxA1
  replace cxB0 := kept hb cxB0
  replace cxB1 := kept hb cxB1
  replace cw00 := kept hb cw00
  replace cw01 := kept hb cw01
  replace cx10 := kept hb cx10
  replace cx11 := kept hb cx11
  replace cx20 := kept hb cx20
  replace cx21 := kept hb cx21
  replace cg00 := kept hb cg00
  replace cg01 := kept hb cg01
  replace ow0 := ow0.below hb
  replace ot15 := ot15.below hb
  replace ot17 := ot17.below hb
  replace ot20 := ot20.below hb
  replace og0 := og0.below hb
  replace hbel := hbel.trans (hb.mono hbel.size)
  clear hb
  have q37 : regEqB xBB xBB xBZ xBZ = true := regEqB_self _ _
  go_wp2_with fail
  have rcxA0 := kept_all cxA0
  have rcxA1 := kept_all cxA1
  have rcxB0 := kept_all cxB0
  have rcxB1 := kept_all cxB1
  have rcw00 := kept_all cw00
  have rcw01 := kept_all cw01
  have rcx10 := kept_all cx10
  have rcx11 := kept_all cx11
  have rcx20 := kept_all cx20
  have rcx21 := kept_all cx21
  have rcg00 := kept_all cg00
  have rcg01 := kept_all cg01
  go_region_held3 (fun w' => Below v19.heap.size v19 w') (first | exact hk | exact (Below.refl _ _).drew | exact hk.alloc hk.size _ | exact (hk.alloc hk.size _).setCell hk.size _)
    (first | (go_at_call 29; have qB := ‹Below v19.heap.size v19 _›; ((with_reducible refine (toRegister_any xBB xBA xBC xBZ _ (hxB.below (hbel.trans (qB.mono hbel.size)))).mono ?_)); rintro e v22 ⟨t38A, t38C, rfl, ot38, hb⟩; have hk := qB.trans (hb.mono qB.size)) | (go_at_call 31; have qB := ‹Below v19.heap.size v19 _›; refine (eqRegister_any xBB xBB t20A t38A t20C t38C xBZ xBZ _ (ot20.below qB).rd (by first | exact ot38.rd | exact (ot38.alloc _).rd)).mono ?_; rintro e v21 ⟨rfl, hb⟩; have hk := qB.trans (hb.mono qB.size)))
  have hb : Below v19.heap.size v19 v21 := by assumption
  clear rcxA0 rcxA1 rcxB0 rcxB1 rcw00 rcw01 rcx10 rcx11 rcx20 rcx21 rcg00 rcg01
  clear ot38
  have s39 : Hid (v19.heap.size ≤ v21.heap.size) := Lib.hid hb.size
  replace cxA0 := kept hb cxA0
  replace cxA1 := kept hb cxA1
  replace cxB0 := kept hb cxB0
  replace cxB1 := kept hb cxB1
  replace cw00 := kept hb cw00
  replace cw01 := kept hb cw01
  replace cx10 := kept hb cx10
  replace cx11 := kept hb cx11
  replace cx20 := kept hb cx20
  replace cx21 := kept hb cx21
  replace cg00 := kept hb cg00
  replace cg01 := kept hb cg01
  replace ow0 := ow0.below hb
  replace ot15 := ot15.below hb
  replace ot17 := ot17.below hb
  replace ot20 := ot20.below hb
  replace og0 := og0.below hb
  replace hbel := hbel.trans (hb.mono hbel.size)
  clear hb
  go_wp2_with fail
  refine (markAddRowS_any _ _ _ t15A t15C 1 xListZ v21 ot15 (by have := ow0.len; have := ot15.len; have := ot17.len; have := ot20.len; have := og0.len; have := hxList.len; have := hxA.len; have := hxB.len; omega) (by have := ow0.len; have := ot15.len; have := ot17.len; have := ot20.len; have := og0.len; have := hxList.len; have := hxA.len; have := hxB.len; omega)).mono ?_
  rintro e v23 ⟨rfl, om, ht⟩
  have s40 : Hid (v21.heap.size ≤ v23.heap.size) := Lib.hid ht.size
  clear ot15
  have ot15 := om
  clear om
  replace cxA0 := keptT ht cxA0 (by have := s1.out; have := s2.out; have := s3.out; have := s4.out; have := s9.out; have := s10.out; have := s11.out; have := s12.out; have := s13.out; have := s14.out; have := s16.out; have := s18.out; have := s21.out; have := s22.out; have := s24.out; have := s25.out; have := s28.out; have := s29.out; have := s32.out; have := s33.out; have := s36.out; have := s39.out; have := s40.out; omega)
  replace cxA1 := keptT ht cxA1 (by have := s1.out; have := s2.out; have := s3.out; have := s4.out; have := s9.out; have := s10.out; have := s11.out; have := s12.out; have := s13.out; have := s14.out; have := s16.out; have := s18.out; have := s21.out; have := s22.out; have := s24.out; have := s25.out; have := s28.out; have := s29.out; have := s32.out; have := s33.out; have := s36.out; have := s39.out; have := s40.out; omega)
  replace cxB0 := keptT ht cxB0 (by have := s1.out; have := s2.out; have := s3.out; have := s4.out; have := s9.out; have := s10.out; have := s11.out; have := s12.out; have := s13.out; have := s14.out; have := s16.out; have := s18.out; have := s21.out; have := s22.out; have := s24.out; have := s25.out; have := s28.out; have := s29.out; have := s32.out; have := s33.out; have := s36.out; have := s39.out; have := s40.out; omega)
  replace cxB1 := keptT ht cxB1 (by have := s1.out; have := s2.out; have := s3.out; have := s4.out; have := s9.out; have := s10.out; have := s11.out; have := s12.out; have := s13.out; have := s14.out; have := s16.out; have := s18.out; have := s21.out; have := s22.out; have := s24.out; have := s25.out; have := s28.out; have := s29.out; have := s32.out; have := s33.out; have := s36.out; have := s39.out; have := s40.out; omega)
  replace cw00 := keptT ht cw00 (by have := s1.out; have := s2.out; have := s3.out; have := s4.out; have := s9.out; have := s10.out; have := s11.out; have := s12.out; have := s13.out; have := s14.out; have := s16.out; have := s18.out; have := s21.out; have := s22.out; have := s24.out; have := s25.out; have := s28.out; have := s29.out; have := s32.out; have := s33.out; have := s36.out; have := s39.out; have := s40.out; omega)
  replace cw01 := keptT ht cw01 (by have := s1.out; have := s2.out; have := s3.out; have := s4.out; have := s9.out; have := s10.out; have := s11.out; have := s12.out; have := s13.out; have := s14.out; have := s16.out; have := s18.out; have := s21.out; have := s22.out; have := s24.out; have := s25.out; have := s28.out; have := s29.out; have := s32.out; have := s33.out; have := s36.out; have := s39.out; have := s40.out; omega)
  replace cx10 := keptT ht cx10 (by have := s1.out; have := s2.out; have := s3.out; have := s4.out; have := s9.out; have := s10.out; have := s11.out; have := s12.out; have := s13.out; have := s14.out; have := s16.out; have := s18.out; have := s21.out; have := s22.out; have := s24.out; have := s25.out; have := s28.out; have := s29.out; have := s32.out; have := s33.out; have := s36.out; have := s39.out; have := s40.out; omega)
  replace cx11 := keptT ht cx11 (by have := s1.out; have := s2.out; have := s3.out; have := s4.out; have := s9.out; have := s10.out; have := s11.out; have := s12.out; have := s13.out; have := s14.out; have := s16.out; have := s18.out; have := s21.out; have := s22.out; have := s24.out; have := s25.out; have := s28.out; have := s29.out; have := s32.out; have := s33.out; have := s36.out; have := s39.out; have := s40.out; omega)
  replace cx20 := keptT ht cx20 (by have := s1.out; have := s2.out; have := s3.out; have := s4.out; have := s9.out; have := s10.out; have := s11.out; have := s12.out; have := s13.out; have := s14.out; have := s16.out; have := s18.out; have := s21.out; have := s22.out; have := s24.out; have := s25.out; have := s28.out; have := s29.out; have := s32.out; have := s33.out; have := s36.out; have := s39.out; have := s40.out; omega)
  replace cx21 := keptT ht cx21 (by have := s1.out; have := s2.out; have := s3.out; have := s4.out; have := s9.out; have := s10.out; have := s11.out; have := s12.out; have := s13.out; have := s14.out; have := s16.out; have := s18.out; have := s21.out; have := s22.out; have := s24.out; have := s25.out; have := s28.out; have := s29.out; have := s32.out; have := s33.out; have := s36.out; have := s39.out; have := s40.out; omega)
  replace cg00 := keptT ht cg00 (by have := s1.out; have := s2.out; have := s3.out; have := s4.out; have := s9.out; have := s10.out; have := s11.out; have := s12.out; have := s13.out; have := s14.out; have := s16.out; have := s18.out; have := s21.out; have := s22.out; have := s24.out; have := s25.out; have := s28.out; have := s29.out; have := s32.out; have := s33.out; have := s36.out; have := s39.out; have := s40.out; omega)
  replace cg01 := keptT ht cg01 (by have := s1.out; have := s2.out; have := s3.out; have := s4.out; have := s9.out; have := s10.out; have := s11.out; have := s12.out; have := s13.out; have := s14.out; have := s16.out; have := s18.out; have := s21.out; have := s22.out; have := s24.out; have := s25.out; have := s28.out; have := s29.out; have := s32.out; have := s33.out; have := s36.out; have := s39.out; have := s40.out; omega)
  replace ow0 := ow0.touch ht (by have := s1.out; have := s2.out; have := s3.out; have := s4.out; have := s9.out; have := s10.out; have := s11.out; have := s12.out; have := s13.out; have := s14.out; have := s16.out; have := s18.out; have := s21.out; have := s22.out; have := s24.out; have := s25.out; have := s28.out; have := s29.out; have := s32.out; have := s33.out; have := s36.out; have := s39.out; have := s40.out; omega)
  replace ot17 := ot17.touch ht (by have := s1.out; have := s2.out; have := s3.out; have := s4.out; have := s9.out; have := s10.out; have := s11.out; have := s12.out; have := s13.out; have := s14.out; have := s16.out; have := s18.out; have := s21.out; have := s22.out; have := s24.out; have := s25.out; have := s28.out; have := s29.out; have := s32.out; have := s33.out; have := s36.out; have := s39.out; have := s40.out; omega)
  replace ot20 := ot20.touch ht (by have := s1.out; have := s2.out; have := s3.out; have := s4.out; have := s9.out; have := s10.out; have := s11.out; have := s12.out; have := s13.out; have := s14.out; have := s16.out; have := s18.out; have := s21.out; have := s22.out; have := s24.out; have := s25.out; have := s28.out; have := s29.out; have := s32.out; have := s33.out; have := s36.out; have := s39.out; have := s40.out; omega)
  replace og0 := og0.touch ht (by have := s1.out; have := s2.out; have := s3.out; have := s4.out; have := s9.out; have := s10.out; have := s11.out; have := s12.out; have := s13.out; have := s14.out; have := s16.out; have := s18.out; have := s21.out; have := s22.out; have := s24.out; have := s25.out; have := s28.out; have := s29.out; have := s32.out; have := s33.out; have := s36.out; have := s39.out; have := s40.out; omega)
  replace hbel := hbel.trans (ht.below (by have := s1.out; have := s2.out; have := s3.out; have := s4.out; have := s9.out; have := s10.out; have := s11.out; have := s12.out; have := s13.out; have := s14.out; have := s16.out; have := s18.out; have := s21.out; have := s22.out; have := s24.out; have := s25.out; have := s28.out; have := s29.out; have := s32.out; have := s33.out; have := s36.out; have := s39.out; have := s40.out; omega) hbel.size)
  clear ht
  go_wp2_with fail
  refine (markRegister_any _ _ _ xAB t17A t17C (1 + 5 * (xListZ.length : Int)) xAZ v23 ot17 (by have := ow0.len; have := ot15.len; have := ot17.len; have := ot20.len; have := og0.len; have := hxList.len; have := hxA.len; have := hxB.len; omega) (by have := ow0.len; have := ot15.len; have := ot17.len; have := ot20.len; have := og0.len; have := hxList.len; have := hxA.len; have := hxB.len; omega)).mono ?_
  rintro e v24 ⟨rfl, om, ht⟩
  have s41 : Hid (v23.heap.size ≤ v24.heap.size) := Lib.hid ht.size
  clear ot17
  have ot17 := om
  clear om
  replace cxA0 := keptT ht cxA0 (by have := s1.out; have := s2.out; have := s3.out; have := s4.out; have := s9.out; have := s10.out; have := s11.out; have := s12.out; have := s13.out; have := s14.out; have := s16.out; have := s18.out; have := s21.out; have := s22.out; have := s24.out; have := s25.out; have := s28.out; have := s29.out; have := s32.out; have := s33.out; have := s36.out; have := s39.out; have := s40.out; have := s41.out; omega)
  replace cxA1 := keptT ht cxA1 (by have := s1.out; have := s2.out; have := s3.out; have := s4.out; have := s9.out; have := s10.out; have := s11.out; have := s12.out; have := s13.out; have := s14.out; have := s16.out; have := s18.out; have := s21.out; have := s22.out; have := s24.out; have := s25.out; have := s28.out; have := s29.out; have := s32.out; have := s33.out; have := s36.out; have := s39.out; have := s40.out; have := s41.out; omega)
  replace cxB0 := keptT ht cxB0 (by have := s1.out; have := s2.out; have := s3.out; have := s4.out; have := s9.out; have := s10.out; have := s11.out; have := s12.out; have := s13.out; have := s14.out; have := s16.out; have := s18.out; have := s21.out; have := s22.out; have := s24.out; have := s25.out; have := s28.out; have := s29.out; have := s32.out; have := s33.out; have := s36.out; have := s39.out; have := s40.out; have := s41.out; omega)
  replace cxB1 := keptT ht cxB1 (by have := s1.out; have := s2.out; have := s3.out; have := s4.out; have := s9.out; have := s10.out; have := s11.out; have := s12.out; have := s13.out; have := s14.out; have := s16.out; have := s18.out; have := s21.out; have := s22.out; have := s24.out; have := s25.out; have := s28.out; have := s29.out; have := s32.out; have := s33.out; have := s36.out; have := s39.out; have := s40.out; have := s41.out; omega)
  replace cw00 := keptT ht cw00 (by have := s1.out; have := s2.out; have := s3.out; have := s4.out; have := s9.out; have := s10.out; have := s11.out; have := s12.out; have := s13.out; have := s14.out; have := s16.out; have := s18.out; have := s21.out; have := s22.out; have := s24.out; have := s25.out; have := s28.out; have := s29.out; have := s32.out; have := s33.out; have := s36.out; have := s39.out; have := s40.out; have := s41.out; omega)
  replace cw01 := keptT ht cw01 (by have := s1.out; have := s2.out; have := s3.out; have := s4.out; have := s9.out; have := s10.out; have := s11.out; have := s12.out; have := s13.out; have := s14.out; have := s16.out; have := s18.out; have := s21.out; have := s22.out; have := s24.out; have := s25.out; have := s28.out; have := s29.out; have := s32.out; have := s33.out; have := s36.out; have := s39.out; have := s40.out; have := s41.out; omega)
  replace cx10 := keptT ht cx10 (by have := s1.out; have := s2.out; have := s3.out; have := s4.out; have := s9.out; have := s10.out; have := s11.out; have := s12.out; have := s13.out; have := s14.out; have := s16.out; have := s18.out; have := s21.out; have := s22.out; have := s24.out; have := s25.out; have := s28.out; have := s29.out; have := s32.out; have := s33.out; have := s36.out; have := s39.out; have := s40.out; have := s41.out; omega)
  replace cx11 := keptT ht cx11 (by have := s1.out; have := s2.out; have := s3.out; have := s4.out; have := s9.out; have := s10.out; have := s11.out; have := s12.out; have := s13.out; have := s14.out; have := s16.out; have := s18.out; have := s21.out; have := s22.out; have := s24.out; have := s25.out; have := s28.out; have := s29.out; have := s32.out; have := s33.out; have := s36.out; have := s39.out; have := s40.out; have := s41.out; omega)
  replace cx20 := keptT ht cx20 (by have := s1.out; have := s2.out; have := s3.out; have := s4.out; have := s9.out; have := s10.out; have := s11.out; have := s12.out; have := s13.out; have := s14.out; have := s16.out; have := s18.out; have := s21.out; have := s22.out; have := s24.out; have := s25.out; have := s28.out; have := s29.out; have := s32.out; have := s33.out; have := s36.out; have := s39.out; have := s40.out; have := s41.out; omega)
  replace cx21 := keptT ht cx21 (by have := s1.out; have := s2.out; have := s3.out; have := s4.out; have := s9.out; have := s10.out; have := s11.out; have := s12.out; have := s13.out; have := s14.out; have := s16.out; have := s18.out; have := s21.out; have := s22.out; have := s24.out; have := s25.out; have := s28.out; have := s29.out; have := s32.out; have := s33.out; have := s36.out; have := s39.out; have := s40.out; have := s41.out; omega)
  replace cg00 := keptT ht cg00 (by have := s1.out; have := s2.out; have := s3.out; have := s4.out; have := s9.out; have := s10.out; have := s11.out; have := s12.out; have := s13.out; have := s14.out; have := s16.out; have := s18.out; have := s21.out; have := s22.out; have := s24.out; have := s25.out; have := s28.out; have := s29.out; have := s32.out; have := s33.out; have := s36.out; have := s39.out; have := s40.out; have := s41.out; omega)
  replace cg01 := keptT ht cg01 (by have := s1.out; have := s2.out; have := s3.out; have := s4.out; have := s9.out; have := s10.out; have := s11.out; have := s12.out; have := s13.out; have := s14.out; have := s16.out; have := s18.out; have := s21.out; have := s22.out; have := s24.out; have := s25.out; have := s28.out; have := s29.out; have := s32.out; have := s33.out; have := s36.out; have := s39.out; have := s40.out; have := s41.out; omega)
  replace ow0 := ow0.touch ht (by have := s1.out; have := s2.out; have := s3.out; have := s4.out; have := s9.out; have := s10.out; have := s11.out; have := s12.out; have := s13.out; have := s14.out; have := s16.out; have := s18.out; have := s21.out; have := s22.out; have := s24.out; have := s25.out; have := s28.out; have := s29.out; have := s32.out; have := s33.out; have := s36.out; have := s39.out; have := s40.out; have := s41.out; omega)
  replace ot15 := ot15.touch ht (by have := s1.out; have := s2.out; have := s3.out; have := s4.out; have := s9.out; have := s10.out; have := s11.out; have := s12.out; have := s13.out; have := s14.out; have := s16.out; have := s18.out; have := s21.out; have := s22.out; have := s24.out; have := s25.out; have := s28.out; have := s29.out; have := s32.out; have := s33.out; have := s36.out; have := s39.out; have := s40.out; have := s41.out; omega)
  replace ot20 := ot20.touch ht (by have := s1.out; have := s2.out; have := s3.out; have := s4.out; have := s9.out; have := s10.out; have := s11.out; have := s12.out; have := s13.out; have := s14.out; have := s16.out; have := s18.out; have := s21.out; have := s22.out; have := s24.out; have := s25.out; have := s28.out; have := s29.out; have := s32.out; have := s33.out; have := s36.out; have := s39.out; have := s40.out; have := s41.out; omega)
  replace og0 := og0.touch ht (by have := s1.out; have := s2.out; have := s3.out; have := s4.out; have := s9.out; have := s10.out; have := s11.out; have := s12.out; have := s13.out; have := s14.out; have := s16.out; have := s18.out; have := s21.out; have := s22.out; have := s24.out; have := s25.out; have := s28.out; have := s29.out; have := s32.out; have := s33.out; have := s36.out; have := s39.out; have := s40.out; have := s41.out; omega)
  replace hbel := hbel.trans (ht.below (by have := s1.out; have := s2.out; have := s3.out; have := s4.out; have := s9.out; have := s10.out; have := s11.out; have := s12.out; have := s13.out; have := s14.out; have := s16.out; have := s18.out; have := s21.out; have := s22.out; have := s24.out; have := s25.out; have := s28.out; have := s29.out; have := s32.out; have := s33.out; have := s36.out; have := s39.out; have := s40.out; have := s41.out; omega) hbel.size)
  clear ht
  go_wp2_with fail
  refine (markRegister_any _ _ _ xBB t20A t20C ((1 + 5 * (xListZ.length : Int)) + (xAZ.length : Int)) xBZ v24 ot20 (by have := ow0.len; have := ot15.len; have := ot17.len; have := ot20.len; have := og0.len; have := hxList.len; have := hxA.len; have := hxB.len; omega) (by have := ow0.len; have := ot15.len; have := ot17.len; have := ot20.len; have := og0.len; have := hxList.len; have := hxA.len; have := hxB.len; omega)).mono ?_
  rintro e v25 ⟨rfl, om, ht⟩
  have s42 : Hid (v24.heap.size ≤ v25.heap.size) := Lib.hid ht.size
  clear ot20
  have ot20 := om
  clear om
  replace cxA0 := keptT ht cxA0 (by have := s1.out; have := s2.out; have := s3.out; have := s4.out; have := s9.out; have := s10.out; have := s11.out; have := s12.out; have := s13.out; have := s14.out; have := s16.out; have := s18.out; have := s21.out; have := s22.out; have := s24.out; have := s25.out; have := s28.out; have := s29.out; have := s32.out; have := s33.out; have := s36.out; have := s39.out; have := s40.out; have := s41.out; have := s42.out; omega)
  replace cxA1 := keptT ht cxA1 (by have := s1.out; have := s2.out; have := s3.out; have := s4.out; have := s9.out; have := s10.out; have := s11.out; have := s12.out; have := s13.out; have := s14.out; have := s16.out; have := s18.out; have := s21.out; have := s22.out; have := s24.out; have := s25.out; have := s28.out; have := s29.out; have := s32.out; have := s33.out; have := s36.out; have := s39.out; have := s40.out; have := s41.out; have := s42.out; omega)
  replace cxB0 := keptT ht cxB0 (by have := s1.out; have := s2.out; have := s3.out; have := s4.out; have := s9.out; have := s10.out; have := s11.out; have := s12.out; have := s13.out; have := s14.out; have := s16.out; have := s18.out; have := s21.out; have := s22.out; have := s24.out; have := s25.out; have := s28.out; have := s29.out; have := s32.out; have := s33.out; have := s36.out; have := s39.out; have := s40.out; have := s41.out; have := s42.out; omega)
  replace cxB1 := keptT ht cxB1 (by have := s1.out; have := s2.out; have := s3.out; have := s4.out; have := s9.out; have := s10.out; have := s11.out; have := s12.out; have := s13.out; have := s14.out; have := s16.out; have := s18.out; have := s21.out; have := s22.out; have := s24.out; have := s25.out; have := s28.out; have := s29.out; have := s32.out; have := s33.out; have := s36.out; have := s39.out; have := s40.out; have := s41.out; have := s42.out; omega)
  replace cw00 := keptT ht cw00 (by have := s1.out; have := s2.out; have := s3.out; have := s4.out; have := s9.out; have := s10.out; have := s11.out; have := s12.out; have := s13.out; have := s14.out; have := s16.out; have := s18.out; have := s21.out; have := s22.out; have := s24.out; have := s25.out; have := s28.out; have := s29.out; have := s32.out; have := s33.out; have := s36.out; have := s39.out; have := s40.out; have := s41.out; have := s42.out; omega)
  replace cw01 := keptT ht cw01 (by have := s1.out; have := s2.out; have := s3.out; have := s4.out; have := s9.out; have := s10.out; have := s11.out; have := s12.out; have := s13.out; have := s14.out; have := s16.out; have := s18.out; have := s21.out; have := s22.out; have := s24.out; have := s25.out; have := s28.out; have := s29.out; have := s32.out; have := s33.out; have := s36.out; have := s39.out; have := s40.out; have := s41.out; have := s42.out; omega)
  replace cx10 := keptT ht cx10 (by have := s1.out; have := s2.out; have := s3.out; have := s4.out; have := s9.out; have := s10.out; have := s11.out; have := s12.out; have := s13.out; have := s14.out; have := s16.out; have := s18.out; have := s21.out; have := s22.out; have := s24.out; have := s25.out; have := s28.out; have := s29.out; have := s32.out; have := s33.out; have := s36.out; have := s39.out; have := s40.out; have := s41.out; have := s42.out; omega)
  replace cx11 := keptT ht cx11 (by have := s1.out; have := s2.out; have := s3.out; have := s4.out; have := s9.out; have := s10.out; have := s11.out; have := s12.out; have := s13.out; have := s14.out; have := s16.out; have := s18.out; have := s21.out; have := s22.out; have := s24.out; have := s25.out; have := s28.out; have := s29.out; have := s32.out; have := s33.out; have := s36.out; have := s39.out; have := s40.out; have := s41.out; have := s42.out; omega)
  replace cx20 := keptT ht cx20 (by have := s1.out; have := s2.out; have := s3.out; have := s4.out; have := s9.out; have := s10.out; have := s11.out; have := s12.out; have := s13.out; have := s14.out; have := s16.out; have := s18.out; have := s21.out; have := s22.out; have := s24.out; have := s25.out; have := s28.out; have := s29.out; have := s32.out; have := s33.out; have := s36.out; have := s39.out; have := s40.out; have := s41.out; have := s42.out; omega)
  replace cx21 := keptT ht cx21 (by have := s1.out; have := s2.out; have := s3.out; have := s4.out; have := s9.out; have := s10.out; have := s11.out; have := s12.out; have := s13.out; have := s14.out; have := s16.out; have := s18.out; have := s21.out; have := s22.out; have := s24.out; have := s25.out; have := s28.out; have := s29.out; have := s32.out; have := s33.out; have := s36.out; have := s39.out; have := s40.out; have := s41.out; have := s42.out; omega)
  replace cg00 := keptT ht cg00 (by have := s1.out; have := s2.out; have := s3.out; have := s4.out; have := s9.out; have := s10.out; have := s11.out; have := s12.out; have := s13.out; have := s14.out; have := s16.out; have := s18.out; have := s21.out; have := s22.out; have := s24.out; have := s25.out; have := s28.out; have := s29.out; have := s32.out; have := s33.out; have := s36.out; have := s39.out; have := s40.out; have := s41.out; have := s42.out; omega)
  replace cg01 := keptT ht cg01 (by have := s1.out; have := s2.out; have := s3.out; have := s4.out; have := s9.out; have := s10.out; have := s11.out; have := s12.out; have := s13.out; have := s14.out; have := s16.out; have := s18.out; have := s21.out; have := s22.out; have := s24.out; have := s25.out; have := s28.out; have := s29.out; have := s32.out; have := s33.out; have := s36.out; have := s39.out; have := s40.out; have := s41.out; have := s42.out; omega)
  replace ow0 := ow0.touch ht (by have := s1.out; have := s2.out; have := s3.out; have := s4.out; have := s9.out; have := s10.out; have := s11.out; have := s12.out; have := s13.out; have := s14.out; have := s16.out; have := s18.out; have := s21.out; have := s22.out; have := s24.out; have := s25.out; have := s28.out; have := s29.out; have := s32.out; have := s33.out; have := s36.out; have := s39.out; have := s40.out; have := s41.out; have := s42.out; omega)
  replace ot15 := ot15.touch ht (by have := s1.out; have := s2.out; have := s3.out; have := s4.out; have := s9.out; have := s10.out; have := s11.out; have := s12.out; have := s13.out; have := s14.out; have := s16.out; have := s18.out; have := s21.out; have := s22.out; have := s24.out; have := s25.out; have := s28.out; have := s29.out; have := s32.out; have := s33.out; have := s36.out; have := s39.out; have := s40.out; have := s41.out; have := s42.out; omega)
  replace ot17 := ot17.touch ht (by have := s1.out; have := s2.out; have := s3.out; have := s4.out; have := s9.out; have := s10.out; have := s11.out; have := s12.out; have := s13.out; have := s14.out; have := s16.out; have := s18.out; have := s21.out; have := s22.out; have := s24.out; have := s25.out; have := s28.out; have := s29.out; have := s32.out; have := s33.out; have := s36.out; have := s39.out; have := s40.out; have := s41.out; have := s42.out; omega)
  replace og0 := og0.touch ht (by have := s1.out; have := s2.out; have := s3.out; have := s4.out; have := s9.out; have := s10.out; have := s11.out; have := s12.out; have := s13.out; have := s14.out; have := s16.out; have := s18.out; have := s21.out; have := s22.out; have := s24.out; have := s25.out; have := s28.out; have := s29.out; have := s32.out; have := s33.out; have := s36.out; have := s39.out; have := s40.out; have := s41.out; have := s42.out; omega)
  replace hbel := hbel.trans (ht.below (by have := s1.out; have := s2.out; have := s3.out; have := s4.out; have := s9.out; have := s10.out; have := s11.out; have := s12.out; have := s13.out; have := s14.out; have := s16.out; have := s18.out; have := s21.out; have := s22.out; have := s24.out; have := s25.out; have := s28.out; have := s29.out; have := s32.out; have := s33.out; have := s36.out; have := s39.out; have := s40.out; have := s41.out; have := s42.out; omega) hbel.size)
  clear ht
  have q43 : regEqB (abtR xListZ xAB xAZ xBB xBZ).1 (abtR xListZ xAB xAZ xBB xBZ).1 (abtR xListZ xAB xAZ xBB xBZ).2.1 (abtR xListZ xAB xAZ xBB xBZ).2.1 = true := regEqB_self _ _
  go_wp2_with fail
  refine (eqRegister_any (abtR xListZ xAB xAZ xBB xBZ).1 (abtR xListZ xAB xAZ xBB xBZ).1 g0A w0A g0C w0C (abtR xListZ xAB xAZ xBB xBZ).2.1 (abtR xListZ xAB xAZ xBB xBZ).2.1 v25 og0.rd ow0.rd).mono ?_
  rintro e v26 ⟨rfl, hb⟩
  have s44 : Hid (v25.heap.size ≤ v26.heap.size) := Lib.hid hb.size
  replace cxA0 := kept hb cxA0
  replace cxA1 := kept hb cxA1
  replace cxB0 := kept hb cxB0
  replace cxB1 := kept hb cxB1
  replace cw00 := kept hb cw00
  replace cw01 := kept hb cw01
  replace cx10 := kept hb cx10
  replace cx11 := kept hb cx11
  replace cx20 := kept hb cx20
  replace cx21 := kept hb cx21
  replace cg00 := kept hb cg00
  replace cg01 := kept hb cg01
  replace ow0 := ow0.below hb
  replace ot15 := ot15.below hb
  replace ot17 := ot17.below hb
  replace ot20 := ot20.below hb
  replace og0 := og0.below hb
  replace hbel := hbel.trans (hb.mono hbel.size)
  clear hb
  go_wp2_with fail
  refine (markRegister_any _ _ _ (abtR xListZ xAB xAZ xBB xBZ).1 g0A g0C 1 (abtR xListZ xAB xAZ xBB xBZ).2.1 v26 og0 (by have := ow0.len; have := ot15.len; have := ot17.len; have := ot20.len; have := og0.len; have := hxList.len; have := hxA.len; have := hxB.len; omega) (by have := ow0.len; have := ot15.len; have := ot17.len; have := ot20.len; have := og0.len; have := hxList.len; have := hxA.len; have := hxB.len; omega)).mono ?_
  rintro e v27 ⟨rfl, om, ht⟩
  have s45 : Hid (v26.heap.size ≤ v27.heap.size) := Lib.hid ht.size
  clear og0
  have og0 := om
  clear om
  replace cxA0 := keptT ht cxA0 (by have := s1.out; have := s2.out; have := s3.out; have := s4.out; have := s9.out; have := s10.out; have := s11.out; have := s12.out; have := s13.out; have := s14.out; have := s16.out; have := s18.out; have := s21.out; have := s22.out; have := s24.out; have := s25.out; have := s28.out; have := s29.out; have := s32.out; have := s33.out; have := s36.out; have := s39.out; have := s40.out; have := s41.out; have := s42.out; have := s44.out; have := s45.out; omega)
  replace cxA1 := keptT ht cxA1 (by have := s1.out; have := s2.out; have := s3.out; have := s4.out; have := s9.out; have := s10.out; have := s11.out; have := s12.out; have := s13.out; have := s14.out; have := s16.out; have := s18.out; have := s21.out; have := s22.out; have := s24.out; have := s25.out; have := s28.out; have := s29.out; have := s32.out; have := s33.out; have := s36.out; have := s39.out; have := s40.out; have := s41.out; have := s42.out; have := s44.out; have := s45.out; omega)
  replace cxB0 := keptT ht cxB0 (by have := s1.out; have := s2.out; have := s3.out; have := s4.out; have := s9.out; have := s10.out; have := s11.out; have := s12.out; have := s13.out; have := s14.out; have := s16.out; have := s18.out; have := s21.out; have := s22.out; have := s24.out; have := s25.out; have := s28.out; have := s29.out; have := s32.out; have := s33.out; have := s36.out; have := s39.out; have := s40.out; have := s41.out; have := s42.out; have := s44.out; have := s45.out; omega)
  replace cxB1 := keptT ht cxB1 (by have := s1.out; have := s2.out; have := s3.out; have := s4.out; have := s9.out; have := s10.out; have := s11.out; have := s12.out; have := s13.out; have := s14.out; have := s16.out; have := s18.out; have := s21.out; have := s22.out; have := s24.out; have := s25.out; have := s28.out; have := s29.out; have := s32.out; have := s33.out; have := s36.out; have := s39.out; have := s40.out; have := s41.out; have := s42.out; have := s44.out; have := s45.out; omega)
  replace cw00 := keptT ht cw00 (by have := s1.out; have := s2.out; have := s3.out; have := s4.out; have := s9.out; have := s10.out; have := s11.out; have := s12.out; have := s13.out; have := s14.out; have := s16.out; have := s18.out; have := s21.out; have := s22.out; have := s24.out; have := s25.out; have := s28.out; have := s29.out; have := s32.out; have := s33.out; have := s36.out; have := s39.out; have := s40.out; have := s41.out; have := s42.out; have := s44.out; have := s45.out; omega)
  replace cw01 := keptT ht cw01 (by have := s1.out; have := s2.out; have := s3.out; have := s4.out; have := s9.out; have := s10.out; have := s11.out; have := s12.out; have := s13.out; have := s14.out; have := s16.out; have := s18.out; have := s21.out; have := s22.out; have := s24.out; have := s25.out; have := s28.out; have := s29.out; have := s32.out; have := s33.out; have := s36.out; have := s39.out; have := s40.out; have := s41.out; have := s42.out; have := s44.out; have := s45.out; omega)
  replace cx10 := keptT ht cx10 (by have := s1.out; have := s2.out; have := s3.out; have := s4.out; have := s9.out; have := s10.out; have := s11.out; have := s12.out; have := s13.out; have := s14.out; have := s16.out; have := s18.out; have := s21.out; have := s22.out; have := s24.out; have := s25.out; have := s28.out; have := s29.out; have := s32.out; have := s33.out; have := s36.out; have := s39.out; have := s40.out; have := s41.out; have := s42.out; have := s44.out; have := s45.out; omega)
  replace cx11 := keptT ht cx11 (by have := s1.out; have := s2.out; have := s3.out; have := s4.out; have := s9.out; have := s10.out; have := s11.out; have := s12.out; have := s13.out; have := s14.out; have := s16.out; have := s18.out; have := s21.out; have := s22.out; have := s24.out; have := s25.out; have := s28.out; have := s29.out; have := s32.out; have := s33.out; have := s36.out; have := s39.out; have := s40.out; have := s41.out; have := s42.out; have := s44.out; have := s45.out; omega)
  replace cx20 := keptT ht cx20 (by have := s1.out; have := s2.out; have := s3.out; have := s4.out; have := s9.out; have := s10.out; have := s11.out; have := s12.out; have := s13.out; have := s14.out; have := s16.out; have := s18.out; have := s21.out; have := s22.out; have := s24.out; have := s25.out; have := s28.out; have := s29.out; have := s32.out; have := s33.out; have := s36.out; have := s39.out; have := s40.out; have := s41.out; have := s42.out; have := s44.out; have := s45.out; omega)
  replace cx21 := keptT ht cx21 (by have := s1.out; have := s2.out; have := s3.out; have := s4.out; have := s9.out; have := s10.out; have := s11.out; have := s12.out; have := s13.out; have := s14.out; have := s16.out; have := s18.out; have := s21.out; have := s22.out; have := s24.out; have := s25.out; have := s28.out; have := s29.out; have := s32.out; have := s33.out; have := s36.out; have := s39.out; have := s40.out; have := s41.out; have := s42.out; have := s44.out; have := s45.out; omega)
  replace cg00 := keptT ht cg00 (by have := s1.out; have := s2.out; have := s3.out; have := s4.out; have := s9.out; have := s10.out; have := s11.out; have := s12.out; have := s13.out; have := s14.out; have := s16.out; have := s18.out; have := s21.out; have := s22.out; have := s24.out; have := s25.out; have := s28.out; have := s29.out; have := s32.out; have := s33.out; have := s36.out; have := s39.out; have := s40.out; have := s41.out; have := s42.out; have := s44.out; have := s45.out; omega)
  replace cg01 := keptT ht cg01 (by have := s1.out; have := s2.out; have := s3.out; have := s4.out; have := s9.out; have := s10.out; have := s11.out; have := s12.out; have := s13.out; have := s14.out; have := s16.out; have := s18.out; have := s21.out; have := s22.out; have := s24.out; have := s25.out; have := s28.out; have := s29.out; have := s32.out; have := s33.out; have := s36.out; have := s39.out; have := s40.out; have := s41.out; have := s42.out; have := s44.out; have := s45.out; omega)
  replace ow0 := ow0.touch ht (by have := s1.out; have := s2.out; have := s3.out; have := s4.out; have := s9.out; have := s10.out; have := s11.out; have := s12.out; have := s13.out; have := s14.out; have := s16.out; have := s18.out; have := s21.out; have := s22.out; have := s24.out; have := s25.out; have := s28.out; have := s29.out; have := s32.out; have := s33.out; have := s36.out; have := s39.out; have := s40.out; have := s41.out; have := s42.out; have := s44.out; have := s45.out; omega)
  replace ot15 := ot15.touch ht (by have := s1.out; have := s2.out; have := s3.out; have := s4.out; have := s9.out; have := s10.out; have := s11.out; have := s12.out; have := s13.out; have := s14.out; have := s16.out; have := s18.out; have := s21.out; have := s22.out; have := s24.out; have := s25.out; have := s28.out; have := s29.out; have := s32.out; have := s33.out; have := s36.out; have := s39.out; have := s40.out; have := s41.out; have := s42.out; have := s44.out; have := s45.out; omega)
  replace ot17 := ot17.touch ht (by have := s1.out; have := s2.out; have := s3.out; have := s4.out; have := s9.out; have := s10.out; have := s11.out; have := s12.out; have := s13.out; have := s14.out; have := s16.out; have := s18.out; have := s21.out; have := s22.out; have := s24.out; have := s25.out; have := s28.out; have := s29.out; have := s32.out; have := s33.out; have := s36.out; have := s39.out; have := s40.out; have := s41.out; have := s42.out; have := s44.out; have := s45.out; omega)
  replace ot20 := ot20.touch ht (by have := s1.out; have := s2.out; have := s3.out; have := s4.out; have := s9.out; have := s10.out; have := s11.out; have := s12.out; have := s13.out; have := s14.out; have := s16.out; have := s18.out; have := s21.out; have := s22.out; have := s24.out; have := s25.out; have := s28.out; have := s29.out; have := s32.out; have := s33.out; have := s36.out; have := s39.out; have := s40.out; have := s41.out; have := s42.out; have := s44.out; have := s45.out; omega)
  replace hbel := hbel.trans (ht.below (by have := s1.out; have := s2.out; have := s3.out; have := s4.out; have := s9.out; have := s10.out; have := s11.out; have := s12.out; have := s13.out; have := s14.out; have := s16.out; have := s18.out; have := s21.out; have := s22.out; have := s24.out; have := s25.out; have := s28.out; have := s29.out; have := s32.out; have := s33.out; have := s36.out; have := s39.out; have := s40.out; have := s41.out; have := s42.out; have := s44.out; have := s45.out; omega) hbel.size)
  clear ht
  go_wp2_with fail
  refine (heldRegister_any (abtR xListZ xAB xAZ xBB xBZ).1 g0A g0C 1 (abtR xListZ xAB xAZ xBB xBZ).2.1.length v27 og0.rd (by have := ow0.len; have := ot15.len; have := ot17.len; have := ot20.len; have := og0.len; have := hxList.len; have := hxA.len; have := hxB.len; omega) (by have := ow0.len; have := ot15.len; have := ot17.len; have := ot20.len; have := og0.len; have := hxList.len; have := hxA.len; have := hxB.len; omega)).mono ?_
  rintro e v28 ⟨rfl, hb⟩
  have s46 : Hid (v27.heap.size ≤ v28.heap.size) := Lib.hid hb.size
  replace cxA0 := kept hb cxA0
  replace cxA1 := kept hb cxA1
  replace cxB0 := kept hb cxB0
  replace cxB1 := kept hb cxB1
  replace cw00 := kept hb cw00
  replace cw01 := kept hb cw01
  replace cx10 := kept hb cx10
  replace cx11 := kept hb cx11
  replace cx20 := kept hb cx20
  replace cx21 := kept hb cx21
  replace cg00 := kept hb cg00
  replace cg01 := kept hb cg01
  replace ow0 := ow0.below hb
  replace ot15 := ot15.below hb
  replace ot17 := ot17.below hb
  replace ot20 := ot20.below hb
  replace og0 := og0.below hb
  replace hbel := hbel.trans (hb.mono hbel.size)
  clear hb
  go_upto_region 38 with fail
  go_cut [20, 21, 22] from 23 (fun sl20 sl21 sl22 wx => BoxReg v28 (abtR xListZ xAB xAZ xBB xBZ).1 (abtR xListZ xAB xAZ xBB xBZ).2.1 sl20 wx ∧ sl21 = .int .i64 (abtR xListZ xAB xAZ xBB xBZ).2.2.1 ∧ sl22 = .int .i64 (abtR xListZ xAB xAZ xBB xBZ).2.2.2)
  case first =>
    have rcxA0 := kept_all cxA0
    have rcxA1 := kept_all cxA1
    have rcxB0 := kept_all cxB0
    have rcxB1 := kept_all cxB1
    clear cxA0 cxA1 cxB0 cxB1 cw00 cw01 cx10 cx11 cx20 cx21 cg00 cg01
    go_region_held3 (fun w' => Below v28.heap.size v28 w') (first | exact hk | exact (Below.refl _ _).drew | exact hk.alloc hk.size _ | exact (Below.refl _ _).drew.alloc (Nat.le_refl _) _ | exact (hk.alloc hk.size _).setCell hk.size _ | exact ((hk.setCell bg.out _).setCell bg.out _))
      (first | (go_at_call 47; have qB := ‹Below v28.heap.size v28 _›; ((with_reducible refine (toAddRowS_any xListA xListC xListZ ((v28.alloc (.cells #[.int .i64 0, .slice none 0 0] 31)).drew) (hxList.below (hbel.trans (qB.mono hbel.size)))).mono ?_)); rintro e v30 ⟨t47A, t47C, rfl, ot47, hb⟩; have bz := ((Bx.new v28 #[.int .i64 0, .slice none 0 0] 31).drew).below hb; have bg : Hid (v28.heap.size ≤ v28.drew.heap.size) := Lib.hid (by first | exact (‹Below v28.heap.size v28 v28.drew›).size | exact Nat.le_refl _); have hk := qB.trans (hb.mono qB.size)) | (go_at_call 47; have qB := ‹Below v28.heap.size v28 _›; ((with_reducible refine (toAddRowS_any xListA xListC xListZ v28.drew (hxList.below (hbel.trans (qB.mono hbel.size)))).mono ?_)); rintro e v30 ⟨t47A, t47C, rfl, ot47, hb⟩; (try replace bz := bz.below hb); have hk := qB.trans (hb.mono qB.size)) | (go_at_call 29; have qB := ‹Below v28.heap.size v28 _›; ((with_reducible refine (toRegister_any xAB xAA xAC xAZ (v30.alloc (.cells #[.int .i64 0, .slice none 0 0] 31)) (hxA.below (hbel.trans (qB.mono hbel.size)))).mono ?_)); rintro e v31 ⟨t48A, t48C, rfl, ot48, hb⟩; replace ot47 := (ot47.alloc _).below hb; have bz := (Bx.new v30 #[.int .i64 0, .slice none 0 0] 31).below hb; have bg : Hid (v28.heap.size ≤ v30.heap.size) := Lib.hid (by first | exact (‹Below v28.heap.size v28 v30›).size | exact Nat.le_refl _); have hk := qB.trans (hb.mono qB.size)) | (go_at_call 29; have qB := ‹Below v28.heap.size v28 _›; ((with_reducible refine (toRegister_any xAB xAA xAC xAZ v30 (hxA.below (hbel.trans (qB.mono hbel.size)))).mono ?_)); rintro e v31 ⟨t48A, t48C, rfl, ot48, hb⟩; replace ot47 := ot47.below hb; (try replace bz := bz.below hb); have hk := qB.trans (hb.mono qB.size)) | (go_at_call 29; have qB := ‹Below v28.heap.size v28 _›; ((with_reducible refine (toRegister_any xBB xBA xBC xBZ (v31.alloc (.cells #[.int .i64 0, .slice none 0 0] 31)) (hxB.below (hbel.trans (qB.mono hbel.size)))).mono ?_)); rintro e v32 ⟨t49A, t49C, rfl, ot49, hb⟩; replace ot47 := (ot47.alloc _).below hb; replace ot48 := (ot48.alloc _).below hb; have bz := (Bx.new v31 #[.int .i64 0, .slice none 0 0] 31).below hb; have bg : Hid (v28.heap.size ≤ v31.heap.size) := Lib.hid (by first | exact (‹Below v28.heap.size v28 v31›).size | exact Nat.le_refl _); have hk := qB.trans (hb.mono qB.size)) | (go_at_call 29; have qB := ‹Below v28.heap.size v28 _›; ((with_reducible refine (toRegister_any xBB xBA xBC xBZ v31 (hxB.below (hbel.trans (qB.mono hbel.size)))).mono ?_)); rintro e v32 ⟨t49A, t49C, rfl, ot49, hb⟩; replace ot47 := ot47.below hb; replace ot48 := ot48.below hb; (try replace bz := bz.below hb); have hk := qB.trans (hb.mono qB.size)) | (go_at_call 18; have qB := ‹Below v28.heap.size v28 _›; ((with_reducible refine (implAddByTable t47A t47C xListZ xAB t48A t48C xAZ xBB t49A t49C xBZ (v32.alloc (.cells #[.int .i64 0, .slice none 0 0] 31)) (ot47.alloc _).rd zxList (ot48.alloc _).rd zxA bxA (ot49.alloc _).rd zxB bxB).mono ?_)); rintro e v29 ⟨h0A, h0C, rfl, oh0, hb⟩; have bz := (Bx.new v32 #[.int .i64 0, .slice none 0 0] 31); have bg : Hid (v28.heap.size ≤ v32.heap.size) := Lib.hid (by first | exact (‹Below v28.heap.size v28 v32›).size | exact Nat.le_refl _); have bh := Lib.hid bz.lt; replace bz := bz.below hb; have bz0 := bz.at_ 0 rfl; have bf0 := bz.thaw 0; have bz1 := bz.at_ 1 rfl; have bf1 := bz.thaw 1; have hkU := qB; have hbU := hb; have hk := qB.trans (hb.mono qB.size)) | (go_at_call 18; have qB := ‹Below v28.heap.size v28 _›; ((with_reducible refine (implAddByTable t47A t47C xListZ xAB t48A t48C xAZ xBB t49A t49C xBZ v32 ot47.rd zxList ot48.rd zxA bxA ot49.rd zxB bxB).mono ?_)); rintro e v29 ⟨h0A, h0C, rfl, oh0, hb⟩; (try (have bh := Lib.hid bz.lt; replace bz := bz.below hb; have bz0 := bz.at_ 0 rfl; have bf0 := bz.thaw 0; have bz1 := bz.at_ 1 rfl; have bf1 := bz.thaw 1)); have hkU := qB; have hbU := hb; have hk := qB.trans (hb.mono qB.size)))
    all_goals (go_wp2_with fail; go_meet; case rel => first | with_reducible exact ⟨boxReg_after hkU hbU oh0, rfl, rfl⟩ | with_reducible exact ⟨boxReg_before hkU hbU oh0 bz bg bh, rfl, rfl⟩ | exact ⟨boxReg_after hkU hbU oh0, rfl, rfl⟩ | exact ⟨boxReg_before hkU hbU oh0 bz bg bh, rfl, rfl⟩)
  case rest =>
  obtain ⟨⟨B50, h0A, h0C, B50l, B50h, rfl, ch00, ch01, oh0, s51, s52, s53, s54, s55, hb⟩, rfl, rfl⟩ := hcut
  obtain ⟨v29, rfl⟩ : ∃ u, u = wc := ⟨_, rfl⟩
  have s56 : Hid (v28.heap.size ≤ v29.heap.size) := Lib.hid hb.size
  replace cxA0 := kept hb cxA0
  replace cxA1 := kept hb cxA1
  replace cxB0 := kept hb cxB0
  replace cxB1 := kept hb cxB1
  replace cw00 := kept hb cw00
  replace cw01 := kept hb cw01
  replace cx10 := kept hb cx10
  replace cx11 := kept hb cx11
  replace cx20 := kept hb cx20
  replace cx21 := kept hb cx21
  replace cg00 := kept hb cg00
  replace cg01 := kept hb cg01
  replace ow0 := ow0.below hb
  replace ot15 := ot15.below hb
  replace ot17 := ot17.below hb
  replace ot20 := ot20.below hb
  replace og0 := og0.below hb
  replace hbel := hbel.trans (hb.mono hbel.size)
  clear hb
  have q57 : regEqB (abtR xListZ xAB xAZ xBB xBZ).1 (abtR xListZ xAB xAZ xBB xBZ).1 (abtR xListZ xAB xAZ xBB xBZ).2.1 (abtR xListZ xAB xAZ xBB xBZ).2.1 = true := regEqB_self _ _
  go_wp2_with fail
  refine (eqRegister_any (abtR xListZ xAB xAZ xBB xBZ).1 (abtR xListZ xAB xAZ xBB xBZ).1 h0A w0A h0C w0C (abtR xListZ xAB xAZ xBB xBZ).2.1 (abtR xListZ xAB xAZ xBB xBZ).2.1 v29 oh0.rd ow0.rd).mono ?_
  rintro e v33 ⟨rfl, hb⟩
  have s58 : Hid (v29.heap.size ≤ v33.heap.size) := Lib.hid hb.size
  replace cxA0 := kept hb cxA0
  replace cxA1 := kept hb cxA1
  replace cxB0 := kept hb cxB0
  replace cxB1 := kept hb cxB1
  replace cw00 := kept hb cw00
  replace cw01 := kept hb cw01
  replace cx10 := kept hb cx10
  replace cx11 := kept hb cx11
  replace cx20 := kept hb cx20
  replace cx21 := kept hb cx21
  replace cg00 := kept hb cg00
  replace cg01 := kept hb cg01
  replace ch00 := kept hb ch00
  replace ch01 := kept hb ch01
  replace ow0 := ow0.below hb
  replace ot15 := ot15.below hb
  replace ot17 := ot17.below hb
  replace ot20 := ot20.below hb
  replace og0 := og0.below hb
  replace oh0 := oh0.below hb
  replace hbel := hbel.trans (hb.mono hbel.size)
  clear hb
  go_wp2_with fail
  refine (heldRegister_any (abtR xListZ xAB xAZ xBB xBZ).1 g0A g0C 1 (abtR xListZ xAB xAZ xBB xBZ).2.1.length v33 og0.rd (by have := ow0.len; have := ot15.len; have := ot17.len; have := ot20.len; have := og0.len; have := oh0.len; have := hxList.len; have := hxA.len; have := hxB.len; omega) (by have := ow0.len; have := ot15.len; have := ot17.len; have := ot20.len; have := og0.len; have := oh0.len; have := hxList.len; have := hxA.len; have := hxB.len; omega)).mono ?_
  rintro e v34 ⟨rfl, hb⟩
  have s59 : Hid (v33.heap.size ≤ v34.heap.size) := Lib.hid hb.size
  replace cxA0 := kept hb cxA0
  replace cxA1 := kept hb cxA1
  replace cxB0 := kept hb cxB0
  replace cxB1 := kept hb cxB1
  replace cw00 := kept hb cw00
  replace cw01 := kept hb cw01
  replace cx10 := kept hb cx10
  replace cx11 := kept hb cx11
  replace cx20 := kept hb cx20
  replace cx21 := kept hb cx21
  replace cg00 := kept hb cg00
  replace cg01 := kept hb cg01
  replace ch00 := kept hb ch00
  replace ch01 := kept hb ch01
  replace ow0 := ow0.below hb
  replace ot15 := ot15.below hb
  replace ot17 := ot17.below hb
  replace ot20 := ot20.below hb
  replace og0 := og0.below hb
  replace oh0 := oh0.below hb
  replace hbel := hbel.trans (hb.mono hbel.size)
  clear hb
  go_wp2
  go_ret
  exact ⟨rfl, hbel⟩

set_option maxRecDepth 100000 in
theorem lifted (os : Os) (started : os.Started) (H : Type) (enc : TypeId × Value → H) :
    ReturnsInHanded {} Try.checked os 10 .any (Rows.fnExactAddByTableSpec.pre6 enc Try.prog Try.f10 Rows.fnExactAddByTableRow.domain false) (Rows.fnExactAddByTableSpec.post enc Try.prog Try.f10 false true false false) := by
  refine returnsInHanded_of_change (C := Try.checked) own_knob started (by kernel_rfl) Try.func10
    (ChangeSpec.witness6 (enc := enc) (C := Try.checked) false ⟨#[], #[.slice none 0 0, .agg #[.int .i64 0, .slice none 0 0], .agg #[.int .i64 0, .slice none 0 0]], []⟩ 8 (by kernel_rfl) (by kernel_rfl) (by kernel_rfl) (by kernel_rfl)) ?_
  intro W base args ds gs before hval0 hW hcnd _
  have hval : ∀ (j : Nat) t v, Try.f10.params[j]? = some t → args[j]? = some v → Value.okWide Try.prog W .any base t v := hval0
  have hW' := hW
  obtain ⟨p, q, hA0, hV, rfl, hfz, hnd⟩ := hW
  have hA : DataW.TrodAll enc Try.prog W 0 (fun _ => true) true Try.f10.params.toList args.toList ds p := hA0
  rw [Try.params10] at hA hval
  obtain ⟨v0, vs0, d0, ds0, p0, q0, hargs, rfl, rfl, h0, r0⟩ := trodAll_cons hA
  obtain ⟨v1, vs1, d1, ds1, p1, q1, rfl, rfl, rfl, h1, r1⟩ := trodAll_cons r0
  obtain ⟨v2, vs2, d2, ds2, p2, q2, rfl, rfl, rfl, h2, r2⟩ := trodAll_cons r1
  obtain ⟨rfl, rfl, rfl⟩ := trodAll_nil r2
  obtain rfl : args = #[v0, v1, v2] := by cases args; simp_all
  obtain ⟨rfl, rfl⟩ := trodVars_none hV
  have k0 := h0
  have lt0 : ∀ x ∈ p0, x.block < W.heap.size := by obtain ⟨m, hm⟩ := k0; exact DataW.trod_lt m _ _ _ hm
  obtain ⟨xListA, xListC, xListZ, rfl, hxList⟩ := open_AddRowS (hval 0 66 v0 rfl rfl) h0
  have k1 := h1
  have lt1 : ∀ x ∈ p1, x.block < W.heap.size := by obtain ⟨m, hm⟩ := k1; exact DataW.trod_lt m _ _ _ hm
  obtain ⟨xAB, xAA, xAC, xAZ, rfl, hxA, bxA⟩ := open_Register (hval 1 47 v1 rfl rfl) h1
  have k2 := h2
  have lt2 : ∀ x ∈ p2, x.block < W.heap.size := by obtain ⟨m, hm⟩ := k2; exact DataW.trod_lt m _ _ _ hm
  obtain ⟨xBB, xBA, xBC, xBZ, rfl, hxB, bxB⟩ := open_Register (hval 2 47 v2 rfl rfl) h2
  clear hA0 hval0
  refine (law_walk xListA xListC xListZ xAB xAA xAC xAZ xBB xBA xBC xBZ W hxList hxA bxA hxB bxB).mono fun e W' ⟨he, bel⟩ => ?_
  subst he
  exact ⟨_, rfl, _, _, _, [], _, [], hW', trodAll_mk1 (shut_bool Try.underlying4 _), (trodAll_cons_mk (Below.trod laid_out (by kernel_rfl) (of_decide_eq_true (by kernel_rfl)) k0 bel lt0) (trodAll_cons_mk (Below.trod laid_out (by kernel_rfl) (of_decide_eq_true (by kernel_rfl)) k1 bel lt1) (trodAll_cons_mk (Below.trod laid_out (by kernel_rfl) (of_decide_eq_true (by kernel_rfl)) k2 bel lt2) trodAll_mk0))), rfl, bel.frame _, fun h => by cases h⟩

set_option maxHeartbeats 20000000 in
theorem closed : joinedFacts Try.prog 10 Try.f10 Rows.fnExactAddByTableSpec Rows.fnExactAddByTableRow = true := by
  simp only [joinedFacts, Bool.and_eq_true]
  refine ⟨⟨⟨⟨⟨⟨⟨⟨⟨⟨⟨⟨⟨⟨⟨⟨⟨⟨⟨⟨⟨⟨⟨⟨⟨⟨⟨⟨⟨⟨⟨?_, laid_out⟩, fact_maps⟩, ?_⟩, ?_⟩, ?_⟩, fact_stops⟩, ?_⟩, fact_knobs⟩, ?_⟩, ?_⟩, ?_⟩, ?_⟩, ?_⟩, ?_⟩, ?_⟩, ?_⟩, ?_⟩, ?_⟩, ?_⟩, ?_⟩, ?_⟩, fact_plain⟩, ?_⟩, fact_heard⟩, fact_enter⟩, fact_lift⟩, ?_⟩, ?_⟩, ?_⟩, ?_⟩, ?_⟩
  all_goals (as_aux_lemma => kernel_rfl)

theorem over : Rows.fnExactAddByTableRow.holds Try.pinned (OpenSpec.ofChange Rows.fnExactAddByTableSpec) :=
  OpenClaim.holds_of_wide 10 Try.f10 rfl rfl rfl rfl rfl rfl rfl ⟨rfl, rfl, rfl, rfl, rfl⟩ rfl rfl rfl rfl rfl (by as_aux_lemma => kernel_rfl) Try.func10 closed
    (of_decide_eq_true (by as_aux_lemma => kernel_rfl)) (by unfold Func.isWrapper; rw [if_neg (by decide +kernel)]; exact ⟨rfl, rfl⟩)
    (fun os started H enc _ => lifted os started H enc)

/-- The statement. -/
theorem proved : Rows.FnExactAddByTableSaid := over
end Go.Proofs.Ytmdngcoccekdgaa.lawAddByTable
