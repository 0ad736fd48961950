/-
  laws.FnExactAddWithFaults returns true at every input (no condition), and leaves its arguments as they were.
-/
import Derived.Test.YtmdngcoccekdgaaReg
import Derived.Test.YtmdngcoccekdgaaBox
import Derived.Test.YtmdngcoccekdgaaFrame
import Derived.Test.YtmdngcoccekdgaaLeverFaultS
import Derived.Test.YtmdngcoccekdgaaFrameI
import Derived.Test.YtmdngcoccekdgaaFrameL
import Derived.Test.YtmdngcoccekdgaaAwfAll
import Derived.Deep.RegionHeld3
import Derived.Test.YtmdngcoccekdgaaFacts
import Derived.Test.YtmdngcoccekdgaaRows
namespace Go.Proofs.Ytmdngcoccekdgaa.lawAddWithFaults
open Go.ChangeShapes Go.WideShapes Go.ChangeAt Go.WideElems Go.RowKit Go.Joins
open Go.ChangeMaps (open_string shut_string)

set_option maxRecDepth 100000 in
set_option maxHeartbeats 4000000 in
theorem law_walk (xAB : Int) (xAA : Option Addr) (xAC : Nat) (xAZ : List Int) (xBB : Int) (xBA : Option Addr) (xBC : Nat) (xBZ : List Int) (xListA : Option Addr) (xListC : Nat) (xListZ : List (Int × Int)) (w : World) (hxA : Raw w xAA xAZ) (bxA : I64 xAB) (hxB : Raw w xBA xBZ) (bxB : I64 xBB) (hxList : RawF pairF (fun x => I64 x.1 ∧ I64 x.2) w xListA xListZ) :
    Calls Try.prog 5 #[.agg #[.int .i64 xAB, .slice xAA xAZ.length xAC], .agg #[.int .i64 xBB, .slice xBA xBZ.length xBC], .slice xListA xListZ.length xListC] w fun e w' => e = .returned (.bool true) ∧ Below w.heap.size w w' := by
  have hbel : Below w.heap.size w ((w.alloc (.cells #[.int .i64 xAB, .slice xAA xAZ.length xAC] 47)).alloc (.cells #[.int .i64 xBB, .slice xBA xBZ.length xBC] 47)) := ((Below.refl _ _).alloc (by simp <;> omega) _).alloc (by simp <;> omega) _
  have cxA0 : ((w.alloc (.cells #[.int .i64 xAB, .slice xAA xAZ.length xAC] 47)).alloc (.cells #[.int .i64 xBB, .slice xBA xBZ.length xBC] 47)).cell? ⟨w.heap.size, 0, none⟩ = some (.int .i64 xAB) := by go_simp
  have cxA1 : ((w.alloc (.cells #[.int .i64 xAB, .slice xAA xAZ.length xAC] 47)).alloc (.cells #[.int .i64 xBB, .slice xBA xBZ.length xBC] 47)).cell? ⟨w.heap.size, 1, none⟩ = some (.slice xAA xAZ.length xAC) := by go_simp
  have cxB0 : ((w.alloc (.cells #[.int .i64 xAB, .slice xAA xAZ.length xAC] 47)).alloc (.cells #[.int .i64 xBB, .slice xBA xBZ.length xBC] 47)).cell? ⟨w.heap.size + 1, 0, none⟩ = some (.int .i64 xBB) := by go_simp
  have cxB1 : ((w.alloc (.cells #[.int .i64 xAB, .slice xAA xAZ.length xAC] 47)).alloc (.cells #[.int .i64 xBB, .slice xBA xBZ.length xBC] 47)).cell? ⟨w.heap.size + 1, 1, none⟩ = some (.slice xBA xBZ.length xBC) := by go_simp
  go_enter Try.func5, Try.ntmps5
  go_wp2_with fail
  obtain ⟨v1, hu⟩ : ∃ u, u = ((w.alloc (.cells #[.int .i64 xAB, .slice xAA xAZ.length xAC] 47)).alloc (.cells #[.int .i64 xBB, .slice xBA xBZ.length xBC] 47)) := ⟨_, rfl⟩
  have s1 : Hid (w.heap.size + 2 ≤ v1.heap.size) := Lib.hid (by rw [hu]; simp)
  rw [← hu] at cxA0 cxA1 cxB0 cxB1 hbel ⊢
  clear hu
  rcases Int.lt_or_le (leftOf xAZ.length 1048576) 0 with k1 | k1
  · refine (szRegister_any xAB xAA xAZ.length xAC 1048576 v1 hxA.len (by omega) (by omega)).mono ?_
    rintro e v2 ⟨rfl, hb⟩
    go_wp2
    go_ret
    exact ⟨rfl, hbel.trans (hb.mono hbel.size)⟩
  have m1 := leftOf_le xAZ.length 1048576 (by omega)
  refine (szRegister_any xAB xAA xAZ.length xAC 1048576 v1 hxA.len (by omega) (by omega)).mono ?_
  rintro e v2 ⟨rfl, hb⟩
  have s2 : Hid (v1.heap.size ≤ v2.heap.size) := Lib.hid hb.size
  replace cxA0 := kept hb cxA0
  replace cxA1 := kept hb cxA1
  replace cxB0 := kept hb cxB0
  replace cxB1 := kept hb cxB1
  replace hbel := hbel.trans (hb.mono hbel.size)
  clear hb
  have zxA := hxA.wf
  replace hxA := hxA.rd (by have := leftOf_len k1; omega)
  go_wp2_with fail
  rcases Int.lt_or_le (leftOf xBZ.length (leftOf xAZ.length 1048576)) 0 with k2 | k2
  · refine (szRegister_any xBB xBA xBZ.length xBC (leftOf xAZ.length 1048576) v2 hxB.len (by omega) (by omega)).mono ?_
    rintro e v3 ⟨rfl, hb⟩
    go_wp2
    go_ret
    exact ⟨rfl, hbel.trans (hb.mono hbel.size)⟩
  have m2 := leftOf_le xBZ.length (leftOf xAZ.length 1048576) (by omega)
  refine (szRegister_any xBB xBA xBZ.length xBC (leftOf xAZ.length 1048576) v2 hxB.len (by omega) (by omega)).mono ?_
  rintro e v3 ⟨rfl, hb⟩
  have s3 : Hid (v2.heap.size ≤ v3.heap.size) := Lib.hid hb.size
  replace cxA0 := kept hb cxA0
  replace cxA1 := kept hb cxA1
  replace cxB0 := kept hb cxB0
  replace cxB1 := kept hb cxB1
  replace hbel := hbel.trans (hb.mono hbel.size)
  clear hb
  have zxB := hxB.wf
  replace hxB := hxB.rd (by have := leftOf_len k2; omega)
  go_wp2_with fail
  rcases Int.lt_or_le (leftOf xListZ.length (leftOf xBZ.length (leftOf xAZ.length 1048576))) 0 with k3 | k3
  · refine (szLeverFaultS_any xListA xListZ.length xListC (leftOf xBZ.length (leftOf xAZ.length 1048576)) v3 hxList.len (by omega) (by omega)).mono ?_
    rintro e v4 ⟨rfl, hb⟩
    subst hb
    go_wp2
    go_ret
    exact ⟨rfl, hbel⟩
  have m3 := leftOf_le xListZ.length (leftOf xBZ.length (leftOf xAZ.length 1048576)) (by omega)
  refine (szLeverFaultS_any xListA xListZ.length xListC (leftOf xBZ.length (leftOf xAZ.length 1048576)) v3 hxList.len (by omega) (by omega)).mono ?_
  rintro e v4 ⟨rfl, hb⟩
  replace hb : Below v3.heap.size v3 v4 := by rw [← hb]; exact Below.refl _ _
  have s4 : Hid (v3.heap.size ≤ v4.heap.size) := Lib.hid hb.size
  replace cxA0 := kept hb cxA0
  replace cxA1 := kept hb cxA1
  replace cxB0 := kept hb cxB0
  replace cxB1 := kept hb cxB1
  replace hbel := hbel.trans (hb.mono hbel.size)
  clear hb
  have zxList : All2 xListZ := hxList.wf
  replace hxList := hxList.rd (by have := leftOf_len k3; omega)
  go_upto_region 11 with fail
  go_cut [8, 9, 10] from 23 (fun sl8 sl9 sl10 wx => BoxReg v4 (awfR xAB xAZ xBB xBZ xListZ).1 (awfR xAB xAZ xBB xBZ xListZ).2.1 sl8 wx ∧ sl9 = .int .i64 (awfR xAB xAZ xBB xBZ xListZ).2.2.1 ∧ sl10 = .int .i64 (awfR xAB xAZ xBB xBZ xListZ).2.2.2)
  case first =>
    have rcxA0 := kept_all cxA0
    have rcxA1 := kept_all cxA1
    have rcxB0 := kept_all cxB0
    have rcxB1 := kept_all cxB1
    clear cxA0 cxA1 cxB0 cxB1
    go_region_held3 (fun w' => Below v4.heap.size v4 w') (first | exact hk | exact (Below.refl _ _).drew | exact hk.alloc hk.size _ | exact (Below.refl _ _).drew.alloc (Nat.le_refl _) _ | exact (hk.alloc hk.size _).setCell hk.size _ | exact ((hk.setCell bg.out _).setCell bg.out _))
      (first | (go_at_call 29; have qB := ‹Below v4.heap.size v4 _›; ((with_reducible refine (toRegister_any xAB xAA xAC xAZ ((v4.alloc (.cells #[.int .i64 0, .slice none 0 0] 31)).drew) (hxA.below (hbel.trans (qB.mono hbel.size)))).mono ?_)); rintro e v6 ⟨t5A, t5C, rfl, ot5, hb⟩; have bz := ((Bx.new v4 #[.int .i64 0, .slice none 0 0] 31).drew).below hb; have bg : Hid (v4.heap.size ≤ v4.drew.heap.size) := Lib.hid (by first | exact (‹Below v4.heap.size v4 v4.drew›).size | exact Nat.le_refl _); have hk := qB.trans (hb.mono qB.size)) | (go_at_call 29; have qB := ‹Below v4.heap.size v4 _›; ((with_reducible refine (toRegister_any xAB xAA xAC xAZ v4.drew (hxA.below (hbel.trans (qB.mono hbel.size)))).mono ?_)); rintro e v6 ⟨t5A, t5C, rfl, ot5, hb⟩; (try replace bz := bz.below hb); have hk := qB.trans (hb.mono qB.size)) | (go_at_call 29; have qB := ‹Below v4.heap.size v4 _›; ((with_reducible refine (toRegister_any xBB xBA xBC xBZ (v6.alloc (.cells #[.int .i64 0, .slice none 0 0] 31)) (hxB.below (hbel.trans (qB.mono hbel.size)))).mono ?_)); rintro e v7 ⟨t6A, t6C, rfl, ot6, hb⟩; replace ot5 := (ot5.alloc _).below hb; have bz := (Bx.new v6 #[.int .i64 0, .slice none 0 0] 31).below hb; have bg : Hid (v4.heap.size ≤ v6.heap.size) := Lib.hid (by first | exact (‹Below v4.heap.size v4 v6›).size | exact Nat.le_refl _); have hk := qB.trans (hb.mono qB.size)) | (go_at_call 29; have qB := ‹Below v4.heap.size v4 _›; ((with_reducible refine (toRegister_any xBB xBA xBC xBZ v6 (hxB.below (hbel.trans (qB.mono hbel.size)))).mono ?_)); rintro e v7 ⟨t6A, t6C, rfl, ot6, hb⟩; replace ot5 := ot5.below hb; (try replace bz := bz.below hb); have hk := qB.trans (hb.mono qB.size)) | (go_at_call 24; have qB := ‹Below v4.heap.size v4 _›; ((with_reducible refine (toLeverFaultS_any xListA xListC xListZ (v7.alloc (.cells #[.int .i64 0, .slice none 0 0] 31)) (hxList.below (hbel.trans (qB.mono hbel.size)))).mono ?_)); rintro e v8 ⟨t7A, t7C, rfl, ot7, hb⟩; replace ot5 := (ot5.alloc _).below hb; replace ot6 := (ot6.alloc _).below hb; have bz := (Bx.new v7 #[.int .i64 0, .slice none 0 0] 31).below hb; have bg : Hid (v4.heap.size ≤ v7.heap.size) := Lib.hid (by first | exact (‹Below v4.heap.size v4 v7›).size | exact Nat.le_refl _); have hk := qB.trans (hb.mono qB.size)) | (go_at_call 24; have qB := ‹Below v4.heap.size v4 _›; ((with_reducible refine (toLeverFaultS_any xListA xListC xListZ v7 (hxList.below (hbel.trans (qB.mono hbel.size)))).mono ?_)); rintro e v8 ⟨t7A, t7C, rfl, ot7, hb⟩; replace ot5 := ot5.below hb; replace ot6 := ot6.below hb; (try replace bz := bz.below hb); have hk := qB.trans (hb.mono qB.size)) | (go_at_call 28; have qB := ‹Below v4.heap.size v4 _›; ((with_reducible refine (specAddWithFaults xAB t5A t5C xAZ xBB t6A t6C xBZ t7A t7C xListZ (v8.alloc (.cells #[.int .i64 0, .slice none 0 0] 31)) (ot5.alloc _).rd zxA bxA (ot6.alloc _).rd zxB bxB (ot7.alloc _).rd zxList).mono ?_)); rintro e v5 ⟨w0A, w0C, rfl, ow0, hb⟩; have bz := (Bx.new v8 #[.int .i64 0, .slice none 0 0] 31); have bg : Hid (v4.heap.size ≤ v8.heap.size) := Lib.hid (by first | exact (‹Below v4.heap.size v4 v8›).size | exact Nat.le_refl _); have bh := Lib.hid bz.lt; replace bz := bz.below hb; have bz0 := bz.at_ 0 rfl; have bf0 := bz.thaw 0; have bz1 := bz.at_ 1 rfl; have bf1 := bz.thaw 1; have hkU := qB; have hbU := hb; have hk := qB.trans (hb.mono qB.size)) | (go_at_call 28; have qB := ‹Below v4.heap.size v4 _›; ((with_reducible refine (specAddWithFaults xAB t5A t5C xAZ xBB t6A t6C xBZ t7A t7C xListZ v8 ot5.rd zxA bxA ot6.rd zxB bxB ot7.rd zxList).mono ?_)); rintro e v5 ⟨w0A, w0C, rfl, ow0, hb⟩; (try (have bh := Lib.hid bz.lt; replace bz := bz.below hb; have bz0 := bz.at_ 0 rfl; have bf0 := bz.thaw 0; have bz1 := bz.at_ 1 rfl; have bf1 := bz.thaw 1)); have hkU := qB; have hbU := hb; have hk := qB.trans (hb.mono qB.size)))
    all_goals (go_wp2_with fail; go_meet; case rel => first | with_reducible exact ⟨boxReg_after hkU hbU ow0, rfl, rfl⟩ | with_reducible exact ⟨boxReg_before hkU hbU ow0 bz bg bh, rfl, rfl⟩ | exact ⟨boxReg_after hkU hbU ow0, rfl, rfl⟩ | exact ⟨boxReg_before hkU hbU ow0 bz bg bh, rfl, rfl⟩)
  case rest =>
  obtain ⟨⟨B8, w0A, w0C, B8l, B8h, rfl, cw00, cw01, ow0, s9, s10, s11, s12, s13, hb⟩, rfl, rfl⟩ := hcut
  obtain ⟨v5, rfl⟩ : ∃ u, u = wc := ⟨_, rfl⟩
  have s14 : Hid (v4.heap.size ≤ v5.heap.size) := Lib.hid hb.size
  replace cxA0 := kept hb cxA0
  replace cxA1 := kept hb cxA1
  replace cxB0 := kept hb cxB0
  replace cxB1 := kept hb cxB1
  replace hbel := hbel.trans (hb.mono hbel.size)
  clear hb
  go_wp2_with fail
  refine (toRegister_any xAB xAA xAC xAZ v5 (hxA.below hbel)).mono ?_
  rintro e v9 ⟨t15A, t15C, rfl, ot15, hb⟩
  have s16 : Hid (v5.heap.size ≤ v9.heap.size) := Lib.hid hb.size
  replace cxA0 := kept hb cxA0
  replace cxA1 := kept hb cxA1
  replace cxB0 := kept hb cxB0
  replace cxB1 := kept hb cxB1
  replace cw00 := kept hb cw00
  replace cw01 := kept hb cw01
  replace ow0 := ow0.below hb
  replace hbel := hbel.trans (hb.mono hbel.size)
  clear hb
  have ha17 : Below v9.heap.size v9 (v9.alloc (.cells #[.int .i64 xAB, .slice t15A xAZ.length t15C] 31)) := (Below.refl _ _).alloc (by simp <;> omega) _
  replace cxA0 := kept ha17 cxA0
  replace cxA1 := kept ha17 cxA1
  replace cxB0 := kept ha17 cxB0
  replace cxB1 := kept ha17 cxB1
  replace cw00 := kept ha17 cw00
  replace cw01 := kept ha17 cw01
  replace ow0 := ow0.below ha17
  replace ot15 := ot15.below ha17
  replace hbel := hbel.trans (ha17.mono hbel.size)
  clear ha17
  have cx00 : (v9.alloc (.cells #[.int .i64 xAB, .slice t15A xAZ.length t15C] 31)).cell? ⟨v9.heap.size, 0, none⟩ = some (.int .i64 xAB) := by go_simp
  have cx01 : (v9.alloc (.cells #[.int .i64 xAB, .slice t15A xAZ.length t15C] 31)).cell? ⟨v9.heap.size, 1, none⟩ = some (.slice t15A xAZ.length t15C) := by go_simp
  go_wp2_with fail
  obtain ⟨v10, hu⟩ : ∃ u, u = (v9.alloc (.cells #[.int .i64 xAB, .slice t15A xAZ.length t15C] 31)) := ⟨_, rfl⟩
  have s19 : Hid (v9.heap.size + 1 ≤ v10.heap.size) := Lib.hid (by rw [hu]; simp)
  rw [← hu] at cxA0 cxA1 cxB0 cxB1 cw00 cw01 cx00 cx01 ow0 ot15 hbel ⊢
  clear hu
  refine (toRegister_any xBB xBA xBC xBZ v10 (hxB.below hbel)).mono ?_
  rintro e v11 ⟨t18A, t18C, rfl, ot18, hb⟩
  have s20 : Hid (v10.heap.size ≤ v11.heap.size) := Lib.hid hb.size
  replace cxA0 := kept hb cxA0
  replace cxA1 := kept hb cxA1
  replace cxB0 := kept hb cxB0
  replace cxB1 := kept hb cxB1
  replace cw00 := kept hb cw00
  replace cw01 := kept hb cw01
  replace cx00 := kept hb cx00
  replace cx01 := kept hb cx01
  replace ow0 := ow0.below hb
  replace ot15 := ot15.below hb
  replace hbel := hbel.trans (hb.mono hbel.size)
  clear hb
  have ha21 : Below v11.heap.size v11 (v11.alloc (.cells #[.int .i64 xBB, .slice t18A xBZ.length t18C] 31)) := (Below.refl _ _).alloc (by simp <;> omega) _
  replace cxA0 := kept ha21 cxA0
  replace cxA1 := kept ha21 cxA1
  replace cxB0 := kept ha21 cxB0
  replace cxB1 := kept ha21 cxB1
  replace cw00 := kept ha21 cw00
  replace cw01 := kept ha21 cw01
  replace cx00 := kept ha21 cx00
  replace cx01 := kept ha21 cx01
  replace ow0 := ow0.below ha21
  replace ot15 := ot15.below ha21
  replace ot18 := ot18.below ha21
  replace hbel := hbel.trans (ha21.mono hbel.size)
  clear ha21
  have cx10 : (v11.alloc (.cells #[.int .i64 xBB, .slice t18A xBZ.length t18C] 31)).cell? ⟨v11.heap.size, 0, none⟩ = some (.int .i64 xBB) := by go_simp
  have cx11 : (v11.alloc (.cells #[.int .i64 xBB, .slice t18A xBZ.length t18C] 31)).cell? ⟨v11.heap.size, 1, none⟩ = some (.slice t18A xBZ.length t18C) := by go_simp
  go_wp2_with fail
  obtain ⟨v12, hu⟩ : ∃ u, u = (v11.alloc (.cells #[.int .i64 xBB, .slice t18A xBZ.length t18C] 31)) := ⟨_, rfl⟩
  have s23 : Hid (v11.heap.size + 1 ≤ v12.heap.size) := Lib.hid (by rw [hu]; simp)
  rw [← hu] at cxA0 cxA1 cxB0 cxB1 cw00 cw01 cx00 cx01 cx10 cx11 ow0 ot15 ot18 hbel ⊢
  clear hu
  refine (toLeverFaultS_any xListA xListC xListZ v12 (hxList.below hbel)).mono ?_
  rintro e v13 ⟨t22A, t22C, rfl, ot22, hb⟩
  have s24 : Hid (v12.heap.size ≤ v13.heap.size) := Lib.hid hb.size
  replace cxA0 := kept hb cxA0
  replace cxA1 := kept hb cxA1
  replace cxB0 := kept hb cxB0
  replace cxB1 := kept hb cxB1
  replace cw00 := kept hb cw00
  replace cw01 := kept hb cw01
  replace cx00 := kept hb cx00
  replace cx01 := kept hb cx01
  replace cx10 := kept hb cx10
  replace cx11 := kept hb cx11
  replace ow0 := ow0.below hb
  replace ot15 := ot15.below hb
  replace ot18 := ot18.below hb
  replace hbel := hbel.trans (hb.mono hbel.size)
  clear hb
  go_wp2_with fail
  refine (implAddWithFaults xAB t15A t15C xAZ xBB t18A t18C xBZ t22A t22C xListZ v13 ot15.rd zxA bxA ot18.rd zxB bxB ot22.rd zxList).mono ?_
  rintro e v14 ⟨g0A, g0C, rfl, og0, hb⟩
  have s25 : Hid (v13.heap.size ≤ v14.heap.size) := Lib.hid hb.size
  replace cxA0 := kept hb cxA0
  replace cxA1 := kept hb cxA1
  replace cxB0 := kept hb cxB0
  replace cxB1 := kept hb cxB1
  replace cw00 := kept hb cw00
  replace cw01 := kept hb cw01
  replace cx00 := kept hb cx00
  replace cx01 := kept hb cx01
  replace cx10 := kept hb cx10
  replace cx11 := kept hb cx11
  replace ow0 := ow0.below hb
  replace ot15 := ot15.below hb
  replace ot18 := ot18.below hb
  replace ot22 := ot22.below hb
  replace hbel := hbel.trans (hb.mono hbel.size)
  clear hb
  have ha26 : Below v14.heap.size v14 (v14.alloc (.cells #[.int .i64 (awfR xAB xAZ xBB xBZ xListZ).1, .slice g0A (awfR xAB xAZ xBB xBZ xListZ).2.1.length g0C] 31)) := (Below.refl _ _).alloc (by simp <;> omega) _
  replace cxA0 := kept ha26 cxA0
  replace cxA1 := kept ha26 cxA1
  replace cxB0 := kept ha26 cxB0
  replace cxB1 := kept ha26 cxB1
  replace cw00 := kept ha26 cw00
  replace cw01 := kept ha26 cw01
  replace cx00 := kept ha26 cx00
  replace cx01 := kept ha26 cx01
  replace cx10 := kept ha26 cx10
  replace cx11 := kept ha26 cx11
  replace ow0 := ow0.below ha26
  replace ot15 := ot15.below ha26
  replace ot18 := ot18.below ha26
  replace ot22 := ot22.below ha26
  replace og0 := og0.below ha26
  replace hbel := hbel.trans (ha26.mono hbel.size)
  clear ha26
  have cg00 : (v14.alloc (.cells #[.int .i64 (awfR xAB xAZ xBB xBZ xListZ).1, .slice g0A (awfR xAB xAZ xBB xBZ xListZ).2.1.length g0C] 31)).cell? ⟨v14.heap.size, 0, none⟩ = some (.int .i64 (awfR xAB xAZ xBB xBZ xListZ).1) := by go_simp
  have cg01 : (v14.alloc (.cells #[.int .i64 (awfR xAB xAZ xBB xBZ xListZ).1, .slice g0A (awfR xAB xAZ xBB xBZ xListZ).2.1.length g0C] 31)).cell? ⟨v14.heap.size, 1, none⟩ = some (.slice g0A (awfR xAB xAZ xBB xBZ xListZ).2.1.length g0C) := by go_simp
  have q27 : regEqB (awfR xAB xAZ xBB xBZ xListZ).1 (awfR xAB xAZ xBB xBZ xListZ).1 (awfR xAB xAZ xBB xBZ xListZ).2.1 (awfR xAB xAZ xBB xBZ xListZ).2.1 = true := regEqB_self _ _
  go_wp2_with fail
  obtain ⟨v15, hu⟩ : ∃ u, u = (v14.alloc (.cells #[.int .i64 (awfR xAB xAZ xBB xBZ xListZ).1, .slice g0A (awfR xAB xAZ xBB xBZ xListZ).2.1.length g0C] 31)) := ⟨_, rfl⟩
  have s28 : Hid (v14.heap.size + 1 ≤ v15.heap.size) := Lib.hid (by rw [hu]; simp)
  rw [← hu] at cxA0 cxA1 cxB0 cxB1 cw00 cw01 cx00 cx01 cx10 cx11 cg00 cg01 ow0 ot15 ot18 ot22 og0 hbel ⊢
  clear hu
  refine (eqRegister_any (awfR xAB xAZ xBB xBZ xListZ).1 (awfR xAB xAZ xBB xBZ xListZ).1 g0A w0A g0C w0C (awfR xAB xAZ xBB xBZ xListZ).2.1 (awfR xAB xAZ xBB xBZ xListZ).2.1 v15 og0.rd ow0.rd).mono ?_
  rintro e v16 ⟨rfl, hb⟩
  have s29 : Hid (v15.heap.size ≤ v16.heap.size) := Lib.hid hb.size
  replace cxA0 := kept hb cxA0
  replace cxA1 := kept hb cxA1
  replace cxB0 := kept hb cxB0
  replace cxB1 := kept hb cxB1
  replace cw00 := kept hb cw00
  replace cw01 := kept hb cw01
  replace cx00 := kept hb cx00
  replace cx01 := kept hb cx01
  replace cx10 := kept hb cx10
  replace cx11 := kept hb cx11
  replace cg00 := kept hb cg00
  replace cg01 := kept hb cg01
  replace ow0 := ow0.below hb
  replace ot15 := ot15.below hb
  replace ot18 := ot18.below hb
  replace ot22 := ot22.below hb
  replace og0 := og0.below hb
  replace hbel := hbel.trans (hb.mono hbel.size)
  clear hb
  have q30 : regEqB xAB xAB xAZ xAZ = true := regEqB_self _ _
  go_wp2_with fail
  have rcxA0 := kept_all cxA0
  have rcxA1 := kept_all cxA1
  have rcxB0 := kept_all cxB0
  have rcxB1 := kept_all cxB1
  have rcw00 := kept_all cw00
  have rcw01 := kept_all cw01
  have rcx00 := kept_all cx00
  have rcx01 := kept_all cx01
  have rcx10 := kept_all cx10
  have rcx11 := kept_all cx11
  have rcg00 := kept_all cg00
  have rcg01 := kept_all cg01
  go_region_held3 (fun w' => Below v16.heap.size v16 w') (first | exact hk | exact (Below.refl _ _).drew | exact hk.alloc hk.size _ | exact (hk.alloc hk.size _).setCell hk.size _)
    (first | (go_at_call 29; have qB := ‹Below v16.heap.size v16 _›; ((with_reducible refine (toRegister_any xAB xAA xAC xAZ _ (hxA.below (hbel.trans (qB.mono hbel.size)))).mono ?_)); rintro e v18 ⟨t31A, t31C, rfl, ot31, hb⟩; have hk := qB.trans (hb.mono qB.size)) | (go_at_call 31; have qB := ‹Below v16.heap.size v16 _›; refine (eqRegister_any xAB xAB t15A t31A t15C t31C xAZ xAZ _ (ot15.below qB).rd (by first | exact ot31.rd | exact (ot31.alloc _).rd)).mono ?_; rintro e v17 ⟨rfl, hb⟩; have hk := qB.trans (hb.mono qB.size)))
  have hb : Below v16.heap.size v16 v17 := by assumption
  clear rcxA0 rcxA1 rcxB0 rcxB1 rcw00 rcw01 rcx00 rcx01 rcx10 rcx11 rcg00 rcg01
  clear ot31
  have s32 : Hid (v16.heap.size ≤ v17.heap.size) := Lib.hid hb.size
  replace cxA0 := kept hb cxA0
  replace cxA1 := kept hb cxA1
  replace cxB0 := kept hb cxB0
  replace cxB1 := kept hb cxB1
  replace cw00 := kept hb cw00
  replace cw01 := kept hb cw01
  replace cx00 := kept hb cx00
  replace cx01 := kept hb cx01
  replace cx10 := kept hb cx10
  replace cx11 := kept hb cx11
  replace cg00 := kept hb cg00
  replace cg01 := kept hb cg01
  replace ow0 := ow0.below hb
  replace ot15 := ot15.below hb
  replace ot18 := ot18.below hb
  replace ot22 := ot22.below hb
  replace og0 := og0.below hb
  replace hbel := hbel.trans (hb.mono hbel.size)
  clear hb
  have q33 : regEqB xBB xBB xBZ xBZ = true := regEqB_self _ _
  go_wp2_with fail
  have rcxA0 := kept_all cxA0
  have rcxA1 := kept_all cxA1
  have rcxB0 := kept_all cxB0
  have rcxB1 := kept_all cxB1
  have rcw00 := kept_all cw00
  have rcw01 := kept_all cw01
  have rcx00 := kept_all cx00
  have rcx01 := kept_all cx01
  have rcx10 := kept_all cx10
  have rcx11 := kept_all cx11
  have rcg00 := kept_all cg00
  have rcg01 := kept_all cg01
  go_region_held3 (fun w' => Below v17.heap.size v17 w') (first | exact hk | exact (Below.refl _ _).drew | exact hk.alloc hk.size _ | exact (hk.alloc hk.size _).setCell hk.size _)
    (first | (go_at_call 29; have qB := ‹Below v17.heap.size v17 _›; ((with_reducible refine (toRegister_any xBB xBA xBC xBZ _ (hxB.below (hbel.trans (qB.mono hbel.size)))).mono ?_)); rintro e v20 ⟨t34A, t34C, rfl, ot34, hb⟩; have hk := qB.trans (hb.mono qB.size)) | (go_at_call 31; have qB := ‹Below v17.heap.size v17 _›; refine (eqRegister_any xBB xBB t18A t34A t18C t34C xBZ xBZ _ (ot18.below qB).rd (by first | exact ot34.rd | exact (ot34.alloc _).rd)).mono ?_; rintro e v19 ⟨rfl, hb⟩; have hk := qB.trans (hb.mono qB.size)))
  have hb : Below v17.heap.size v17 v19 := by assumption
  clear rcxA0 rcxA1 rcxB0 rcxB1 rcw00 rcw01 rcx00 rcx01 rcx10 rcx11 rcg00 rcg01
  clear ot34
  have s35 : Hid (v17.heap.size ≤ v19.heap.size) := Lib.hid hb.size
  replace cxA0 := kept hb cxA0
  replace cxA1 := kept hb cxA1
  replace cxB0 := kept hb cxB0
  replace cxB1 := kept hb cxB1
  replace cw00 := kept hb cw00
  replace cw01 := kept hb cw01
  replace cx00 := kept hb cx00
  replace cx01 := kept hb cx01
  replace cx10 := kept hb cx10
  replace cx11 := kept hb cx11
  replace cg00 := kept hb cg00
  replace cg01 := kept hb cg01
  replace ow0 := ow0.below hb
  replace ot15 := ot15.below hb
  replace ot18 := ot18.below hb
  replace ot22 := ot22.below hb
  replace og0 := og0.below hb
  replace hbel := hbel.trans (hb.mono hbel.size)
  clear hb
  have q36 : decide (xListZ = xListZ) = true := decide_eq_true rfl
  go_wp2_with fail
  refine (toLeverFaultS_any xListA xListC xListZ v19 (hxList.below hbel)).mono ?_
  rintro e v21 ⟨t37A, t37C, rfl, ot37, hb⟩
  have s38 : Hid (v19.heap.size ≤ v21.heap.size) := Lib.hid hb.size
  replace cxA0 := kept hb cxA0
  replace cxA1 := kept hb cxA1
  replace cxB0 := kept hb cxB0
  replace cxB1 := kept hb cxB1
  replace cw00 := kept hb cw00
  replace cw01 := kept hb cw01
  replace cx00 := kept hb cx00
  replace cx01 := kept hb cx01
  replace cx10 := kept hb cx10
  replace cx11 := kept hb cx11
  replace cg00 := kept hb cg00
  replace cg01 := kept hb cg01
  replace ow0 := ow0.below hb
  replace ot15 := ot15.below hb
  replace ot18 := ot18.below hb
  replace ot22 := ot22.below hb
  replace og0 := og0.below hb
  replace hbel := hbel.trans (hb.mono hbel.size)
  clear hb
  go_wp2_with fail
  refine (eqLeverFaultS_any t22A t37A t22C t37C xListZ xListZ v21 ot22.rd ot37.rd).mono ?_
  rintro e v22 ⟨rfl, hb⟩
  have s39 : Hid (v21.heap.size ≤ v22.heap.size) := Lib.hid hb.size
  replace cxA0 := kept hb cxA0
  replace cxA1 := kept hb cxA1
  replace cxB0 := kept hb cxB0
  replace cxB1 := kept hb cxB1
  replace cw00 := kept hb cw00
  replace cw01 := kept hb cw01
  replace cx00 := kept hb cx00
  replace cx01 := kept hb cx01
  replace cx10 := kept hb cx10
  replace cx11 := kept hb cx11
  replace cg00 := kept hb cg00
  replace cg01 := kept hb cg01
  replace ow0 := ow0.below hb
  replace ot15 := ot15.below hb
  replace ot18 := ot18.below hb
  replace ot22 := ot22.below hb
  replace og0 := og0.below hb
  replace ot37 := ot37.below hb
  replace hbel := hbel.trans (hb.mono hbel.size)
  clear hb
  clear ot37
  go_wp2_with fail
  refine (markRegister_any _ _ _ xAB t15A t15C 1 xAZ v22 ot15 (by have := ow0.len; have := ot15.len; have := ot18.len; have := ot22.len; have := og0.len; have := hxA.len; have := hxB.len; have := hxList.len; omega) (by have := ow0.len; have := ot15.len; have := ot18.len; have := ot22.len; have := og0.len; have := hxA.len; have := hxB.len; have := hxList.len; omega)).mono ?_
  rintro e v23 ⟨rfl, om, ht⟩
  have s40 : Hid (v22.heap.size ≤ v23.heap.size) := Lib.hid ht.size
  clear ot15
  have ot15 := om
  clear om
  replace cxA0 := keptT ht cxA0 (by have := s1.out; have := s2.out; have := s3.out; have := s4.out; have := s9.out; have := s10.out; have := s11.out; have := s12.out; have := s13.out; have := s14.out; have := s16.out; have := s19.out; have := s20.out; have := s23.out; have := s24.out; have := s25.out; have := s28.out; have := s29.out; have := s32.out; have := s35.out; have := s38.out; have := s39.out; have := s40.out; omega)
  replace cxA1 := keptT ht cxA1 (by have := s1.out; have := s2.out; have := s3.out; have := s4.out; have := s9.out; have := s10.out; have := s11.out; have := s12.out; have := s13.out; have := s14.out; have := s16.out; have := s19.out; have := s20.out; have := s23.out; have := s24.out; have := s25.out; have := s28.out; have := s29.out; have := s32.out; have := s35.out; have := s38.out; have := s39.out; have := s40.out; omega)
  replace cxB0 := keptT ht cxB0 (by have := s1.out; have := s2.out; have := s3.out; have := s4.out; have := s9.out; have := s10.out; have := s11.out; have := s12.out; have := s13.out; have := s14.out; have := s16.out; have := s19.out; have := s20.out; have := s23.out; have := s24.out; have := s25.out; have := s28.out; have := s29.out; have := s32.out; have := s35.out; have := s38.out; have := s39.out; have := s40.out; omega)
  replace cxB1 := keptT ht cxB1 (by have := s1.out; have := s2.out; have := s3.out; have := s4.out; have := s9.out; have := s10.out; have := s11.out; have := s12.out; have := s13.out; have := s14.out; have := s16.out; have := s19.out; have := s20.out; have := s23.out; have := s24.out; have := s25.out; have := s28.out; have := s29.out; have := s32.out; have := s35.out; have := s38.out; have := s39.out; have := s40.out; omega)
  replace cw00 := keptT ht cw00 (by have := s1.out; have := s2.out; have := s3.out; have := s4.out; have := s9.out; have := s10.out; have := s11.out; have := s12.out; have := s13.out; have := s14.out; have := s16.out; have := s19.out; have := s20.out; have := s23.out; have := s24.out; have := s25.out; have := s28.out; have := s29.out; have := s32.out; have := s35.out; have := s38.out; have := s39.out; have := s40.out; omega)
  replace cw01 := keptT ht cw01 (by have := s1.out; have := s2.out; have := s3.out; have := s4.out; have := s9.out; have := s10.out; have := s11.out; have := s12.out; have := s13.out; have := s14.out; have := s16.out; have := s19.out; have := s20.out; have := s23.out; have := s24.out; have := s25.out; have := s28.out; have := s29.out; have := s32.out; have := s35.out; have := s38.out; have := s39.out; have := s40.out; omega)
  replace cx00 := keptT ht cx00 (by have := s1.out; have := s2.out; have := s3.out; have := s4.out; have := s9.out; have := s10.out; have := s11.out; have := s12.out; have := s13.out; have := s14.out; have := s16.out; have := s19.out; have := s20.out; have := s23.out; have := s24.out; have := s25.out; have := s28.out; have := s29.out; have := s32.out; have := s35.out; have := s38.out; have := s39.out; have := s40.out; omega)
  replace cx01 := keptT ht cx01 (by have := s1.out; have := s2.out; have := s3.out; have := s4.out; have := s9.out; have := s10.out; have := s11.out; have := s12.out; have := s13.out; have := s14.out; have := s16.out; have := s19.out; have := s20.out; have := s23.out; have := s24.out; have := s25.out; have := s28.out; have := s29.out; have := s32.out; have := s35.out; have := s38.out; have := s39.out; have := s40.out; omega)
  replace cx10 := keptT ht cx10 (by have := s1.out; have := s2.out; have := s3.out; have := s4.out; have := s9.out; have := s10.out; have := s11.out; have := s12.out; have := s13.out; have := s14.out; have := s16.out; have := s19.out; have := s20.out; have := s23.out; have := s24.out; have := s25.out; have := s28.out; have := s29.out; have := s32.out; have := s35.out; have := s38.out; have := s39.out; have := s40.out; omega)
  replace cx11 := keptT ht cx11 (by have := s1.out; have := s2.out; have := s3.out; have := s4.out; have := s9.out; have := s10.out; have := s11.out; have := s12.out; have := s13.out; have := s14.out; have := s16.out; have := s19.out; have := s20.out; have := s23.out; have := s24.out; have := s25.out; have := s28.out; have := s29.out; have := s32.out; have := s35.out; have := s38.out; have := s39.out; have := s40.out; omega)
  replace cg00 := keptT ht cg00 (by have := s1.out; have := s2.out; have := s3.out; have := s4.out; have := s9.out; have := s10.out; have := s11.out; have := s12.out; have := s13.out; have := s14.out; have := s16.out; have := s19.out; have := s20.out; have := s23.out; have := s24.out; have := s25.out; have := s28.out; have := s29.out; have := s32.out; have := s35.out; have := s38.out; have := s39.out; have := s40.out; omega)
  replace cg01 := keptT ht cg01 (by have := s1.out; have := s2.out; have := s3.out; have := s4.out; have := s9.out; have := s10.out; have := s11.out; have := s12.out; have := s13.out; have := s14.out; have := s16.out; have := s19.out; have := s20.out; have := s23.out; have := s24.out; have := s25.out; have := s28.out; have := s29.out; have := s32.out; have := s35.out; have := s38.out; have := s39.out; have := s40.out; omega)
  replace ow0 := ow0.touch ht (by have := s1.out; have := s2.out; have := s3.out; have := s4.out; have := s9.out; have := s10.out; have := s11.out; have := s12.out; have := s13.out; have := s14.out; have := s16.out; have := s19.out; have := s20.out; have := s23.out; have := s24.out; have := s25.out; have := s28.out; have := s29.out; have := s32.out; have := s35.out; have := s38.out; have := s39.out; have := s40.out; omega)
  replace ot18 := ot18.touch ht (by have := s1.out; have := s2.out; have := s3.out; have := s4.out; have := s9.out; have := s10.out; have := s11.out; have := s12.out; have := s13.out; have := s14.out; have := s16.out; have := s19.out; have := s20.out; have := s23.out; have := s24.out; have := s25.out; have := s28.out; have := s29.out; have := s32.out; have := s35.out; have := s38.out; have := s39.out; have := s40.out; omega)
  replace ot22 := ot22.touch ht (by have := s1.out; have := s2.out; have := s3.out; have := s4.out; have := s9.out; have := s10.out; have := s11.out; have := s12.out; have := s13.out; have := s14.out; have := s16.out; have := s19.out; have := s20.out; have := s23.out; have := s24.out; have := s25.out; have := s28.out; have := s29.out; have := s32.out; have := s35.out; have := s38.out; have := s39.out; have := s40.out; omega)
  replace og0 := og0.touch ht (by have := s1.out; have := s2.out; have := s3.out; have := s4.out; have := s9.out; have := s10.out; have := s11.out; have := s12.out; have := s13.out; have := s14.out; have := s16.out; have := s19.out; have := s20.out; have := s23.out; have := s24.out; have := s25.out; have := s28.out; have := s29.out; have := s32.out; have := s35.out; have := s38.out; have := s39.out; have := s40.out; omega)
  replace hbel := hbel.trans (ht.below (by have := s1.out; have := s2.out; have := s3.out; have := s4.out; have := s9.out; have := s10.out; have := s11.out; have := s12.out; have := s13.out; have := s14.out; have := s16.out; have := s19.out; have := s20.out; have := s23.out; have := s24.out; have := s25.out; have := s28.out; have := s29.out; have := s32.out; have := s35.out; have := s38.out; have := s39.out; have := s40.out; omega) hbel.size)
  clear ht
  go_wp2_with fail
  refine (markRegister_any _ _ _ xBB t18A t18C (1 + (xAZ.length : Int)) xBZ v23 ot18 (by have := ow0.len; have := ot15.len; have := ot18.len; have := ot22.len; have := og0.len; have := hxA.len; have := hxB.len; have := hxList.len; omega) (by have := ow0.len; have := ot15.len; have := ot18.len; have := ot22.len; have := og0.len; have := hxA.len; have := hxB.len; have := hxList.len; omega)).mono ?_
  rintro e v24 ⟨rfl, om, ht⟩
  have s41 : Hid (v23.heap.size ≤ v24.heap.size) := Lib.hid ht.size
  clear ot18
  have ot18 := om
  clear om
  replace cxA0 := keptT ht cxA0 (by have := s1.out; have := s2.out; have := s3.out; have := s4.out; have := s9.out; have := s10.out; have := s11.out; have := s12.out; have := s13.out; have := s14.out; have := s16.out; have := s19.out; have := s20.out; have := s23.out; have := s24.out; have := s25.out; have := s28.out; have := s29.out; have := s32.out; have := s35.out; have := s38.out; have := s39.out; have := s40.out; have := s41.out; omega)
  replace cxA1 := keptT ht cxA1 (by have := s1.out; have := s2.out; have := s3.out; have := s4.out; have := s9.out; have := s10.out; have := s11.out; have := s12.out; have := s13.out; have := s14.out; have := s16.out; have := s19.out; have := s20.out; have := s23.out; have := s24.out; have := s25.out; have := s28.out; have := s29.out; have := s32.out; have := s35.out; have := s38.out; have := s39.out; have := s40.out; have := s41.out; omega)
  replace cxB0 := keptT ht cxB0 (by have := s1.out; have := s2.out; have := s3.out; have := s4.out; have := s9.out; have := s10.out; have := s11.out; have := s12.out; have := s13.out; have := s14.out; have := s16.out; have := s19.out; have := s20.out; have := s23.out; have := s24.out; have := s25.out; have := s28.out; have := s29.out; have := s32.out; have := s35.out; have := s38.out; have := s39.out; have := s40.out; have := s41.out; omega)
  replace cxB1 := keptT ht cxB1 (by have := s1.out; have := s2.out; have := s3.out; have := s4.out; have := s9.out; have := s10.out; have := s11.out; have := s12.out; have := s13.out; have := s14.out; have := s16.out; have := s19.out; have := s20.out; have := s23.out; have := s24.out; have := s25.out; have := s28.out; have := s29.out; have := s32.out; have := s35.out; have := s38.out; have := s39.out; have := s40.out; have := s41.out; omega)
  replace cw00 := keptT ht cw00 (by have := s1.out; have := s2.out; have := s3.out; have := s4.out; have := s9.out; have := s10.out; have := s11.out; have := s12.out; have := s13.out; have := s14.out; have := s16.out; have := s19.out; have := s20.out; have := s23.out; have := s24.out; have := s25.out; have := s28.out; have := s29.out; have := s32.out; have := s35.out; have := s38.out; have := s39.out; have := s40.out; have := s41.out; omega)
  replace cw01 := keptT ht cw01 (by have := s1.out; have := s2.out; have := s3.out; have := s4.out; have := s9.out; have := s10.out; have := s11.out; have := s12.out; have := s13.out; have := s14.out; have := s16.out; have := s19.out; have := s20.out; have := s23.out; have := s24.out; have := s25.out; have := s28.out; have := s29.out; have := s32.out; have := s35.out; have := s38.out; have := s39.out; have := s40.out; have := s41.out; omega)
  replace cx00 := keptT ht cx00 (by have := s1.out; have := s2.out; have := s3.out; have := s4.out; have := s9.out; have := s10.out; have := s11.out; have := s12.out; have := s13.out; have := s14.out; have := s16.out; have := s19.out; have := s20.out; have := s23.out; have := s24.out; have := s25.out; have := s28.out; have := s29.out; have := s32.out; have := s35.out; have := s38.out; have := s39.out; have := s40.out; have := s41.out; omega)
  replace cx01 := keptT ht cx01 (by have := s1.out; have := s2.out; have := s3.out; have := s4.out; have := s9.out; have := s10.out; have := s11.out; have := s12.out; have := s13.out; have := s14.out; have := s16.out; have := s19.out; have := s20.out; have := s23.out; have := s24.out; have := s25.out; have := s28.out; have := s29.out; have := s32.out; have := s35.out; have := s38.out; have := s39.out; have := s40.out; have := s41.out; omega)
  replace cx10 := keptT ht cx10 (by have := s1.out; have := s2.out; have := s3.out; have := s4.out; have := s9.out; have := s10.out; have := s11.out; have := s12.out; have := s13.out; have := s14.out; have := s16.out; have := s19.out; have := s20.out; have := s23.out; have := s24.out; have := s25.out; have := s28.out; have := s29.out; have := s32.out; have := s35.out; have := s38.out; have := s39.out; have := s40.out; have := s41.out; omega)
  replace cx11 := keptT ht cx11 (by have := s1.out; have := s2.out; have := s3.out; have := s4.out; have := s9.out; have := s10.out; have := s11.out; have := s12.out; have := s13.out; have := s14.out; have := s16.out; have := s19.out; have := s20.out; have := s23.out; have := s24.out; have := s25.out; have := s28.out; have := s29.out; have := s32.out; have := s35.out; have := s38.out; have := s39.out; have := s40.out; have := s41.out; omega)
  replace cg00 := keptT ht cg00 (by have := s1.out; have := s2.out; have := s3.out; have := s4.out; have := s9.out; have := s10.out; have := s11.out; have := s12.out; have := s13.out; have := s14.out; have := s16.out; have := s19.out; have := s20.out; have := s23.out; have := s24.out; have := s25.out; have := s28.out; have := s29.out; have := s32.out; have := s35.out; have := s38.out; have := s39.out; have := s40.out; have := s41.out; omega)
  replace cg01 := keptT ht cg01 (by have := s1.out; have := s2.out; have := s3.out; have := s4.out; have := s9.out; have := s10.out; have := s11.out; have := s12.out; have := s13.out; have := s14.out; have := s16.out; have := s19.out; have := s20.out; have := s23.out; have := s24.out; have := s25.out; have := s28.out; have := s29.out; have := s32.out; have := s35.out; have := s38.out; have := s39.out; have := s40.out; have := s41.out; omega)
  replace ow0 := ow0.touch ht (by have := s1.out; have := s2.out; have := s3.out; have := s4.out; have := s9.out; have := s10.out; have := s11.out; have := s12.out; have := s13.out; have := s14.out; have := s16.out; have := s19.out; have := s20.out; have := s23.out; have := s24.out; have := s25.out; have := s28.out; have := s29.out; have := s32.out; have := s35.out; have := s38.out; have := s39.out; have := s40.out; have := s41.out; omega)
  replace ot15 := ot15.touch ht (by have := s1.out; have := s2.out; have := s3.out; have := s4.out; have := s9.out; have := s10.out; have := s11.out; have := s12.out; have := s13.out; have := s14.out; have := s16.out; have := s19.out; have := s20.out; have := s23.out; have := s24.out; have := s25.out; have := s28.out; have := s29.out; have := s32.out; have := s35.out; have := s38.out; have := s39.out; have := s40.out; have := s41.out; omega)
  replace ot22 := ot22.touch ht (by have := s1.out; have := s2.out; have := s3.out; have := s4.out; have := s9.out; have := s10.out; have := s11.out; have := s12.out; have := s13.out; have := s14.out; have := s16.out; have := s19.out; have := s20.out; have := s23.out; have := s24.out; have := s25.out; have := s28.out; have := s29.out; have := s32.out; have := s35.out; have := s38.out; have := s39.out; have := s40.out; have := s41.out; omega)
  replace og0 := og0.touch ht (by have := s1.out; have := s2.out; have := s3.out; have := s4.out; have := s9.out; have := s10.out; have := s11.out; have := s12.out; have := s13.out; have := s14.out; have := s16.out; have := s19.out; have := s20.out; have := s23.out; have := s24.out; have := s25.out; have := s28.out; have := s29.out; have := s32.out; have := s35.out; have := s38.out; have := s39.out; have := s40.out; have := s41.out; omega)
  replace hbel := hbel.trans (ht.below (by have := s1.out; have := s2.out; have := s3.out; have := s4.out; have := s9.out; have := s10.out; have := s11.out; have := s12.out; have := s13.out; have := s14.out; have := s16.out; have := s19.out; have := s20.out; have := s23.out; have := s24.out; have := s25.out; have := s28.out; have := s29.out; have := s32.out; have := s35.out; have := s38.out; have := s39.out; have := s40.out; have := s41.out; omega) hbel.size)
  clear ht
  go_wp2_with fail
  refine (markLeverFaultS_any _ _ _ t22A t22C ((1 + (xAZ.length : Int)) + (xBZ.length : Int)) xListZ v24 ot22 (by have := ow0.len; have := ot15.len; have := ot18.len; have := ot22.len; have := og0.len; have := hxA.len; have := hxB.len; have := hxList.len; omega) (by have := ow0.len; have := ot15.len; have := ot18.len; have := ot22.len; have := og0.len; have := hxA.len; have := hxB.len; have := hxList.len; omega)).mono ?_
  rintro e v25 ⟨rfl, om, ht⟩
  have s42 : Hid (v24.heap.size ≤ v25.heap.size) := Lib.hid ht.size
  clear ot22
  have ot22 := om
  clear om
  replace cxA0 := keptT ht cxA0 (by have := s1.out; have := s2.out; have := s3.out; have := s4.out; have := s9.out; have := s10.out; have := s11.out; have := s12.out; have := s13.out; have := s14.out; have := s16.out; have := s19.out; have := s20.out; have := s23.out; have := s24.out; have := s25.out; have := s28.out; have := s29.out; have := s32.out; have := s35.out; have := s38.out; have := s39.out; have := s40.out; have := s41.out; have := s42.out; omega)
  replace cxA1 := keptT ht cxA1 (by have := s1.out; have := s2.out; have := s3.out; have := s4.out; have := s9.out; have := s10.out; have := s11.out; have := s12.out; have := s13.out; have := s14.out; have := s16.out; have := s19.out; have := s20.out; have := s23.out; have := s24.out; have := s25.out; have := s28.out; have := s29.out; have := s32.out; have := s35.out; have := s38.out; have := s39.out; have := s40.out; have := s41.out; have := s42.out; omega)
  replace cxB0 := keptT ht cxB0 (by have := s1.out; have := s2.out; have := s3.out; have := s4.out; have := s9.out; have := s10.out; have := s11.out; have := s12.out; have := s13.out; have := s14.out; have := s16.out; have := s19.out; have := s20.out; have := s23.out; have := s24.out; have := s25.out; have := s28.out; have := s29.out; have := s32.out; have := s35.out; have := s38.out; have := s39.out; have := s40.out; have := s41.out; have := s42.out; omega)
  replace cxB1 := keptT ht cxB1 (by have := s1.out; have := s2.out; have := s3.out; have := s4.out; have := s9.out; have := s10.out; have := s11.out; have := s12.out; have := s13.out; have := s14.out; have := s16.out; have := s19.out; have := s20.out; have := s23.out; have := s24.out; have := s25.out; have := s28.out; have := s29.out; have := s32.out; have := s35.out; have := s38.out; have := s39.out; have := s40.out; have := s41.out; have := s42.out; omega)
  replace cw00 := keptT ht cw00 (by have := s1.out; have := s2.out; have := s3.out; have := s4.out; have := s9.out; have := s10.out; have := s11.out; have := s12.out; have := s13.out; have := s14.out; have := s16.out; have := s19.out; have := s20.out; have := s23.out; have := s24.out; have := s25.out; have := s28.out; have := s29.out; have := s32.out; have := s35.out; have := s38.out; have := s39.out; have := s40.out; have := s41.out; have := s42.out; omega)
  replace cw01 := keptT ht cw01 (by have := s1.out; have := s2.out; have := s3.out; have := s4.out; have := s9.out; have := s10.out; have := s11.out; have := s12.out; have := s13.out; have := s14.out; have := s16.out; have := s19.out; have := s20.out; have := s23.out; have := s24.out; have := s25.out; have := s28.out; have := s29.out; have := s32.out; have := s35.out; have := s38.out; have := s39.out; have := s40.out; have := s41.out; have := s42.out; omega)
  replace cx00 := keptT ht cx00 (by have := s1.out; have := s2.out; have := s3.out; have := s4.out; have := s9.out; have := s10.out; have := s11.out; have := s12.out; have := s13.out; have := s14.out; have := s16.out; have := s19.out; have := s20.out; have := s23.out; have := s24.out; have := s25.out; have := s28.out; have := s29.out; have := s32.out; have := s35.out; have := s38.out; have := s39.out; have := s40.out; have := s41.out; have := s42.out; omega)
  replace cx01 := keptT ht cx01 (by have := s1.out; have := s2.out; have := s3.out; have := s4.out; have := s9.out; have := s10.out; have := s11.out; have := s12.out; have := s13.out; have := s14.out; have := s16.out; have := s19.out; have := s20.out; have := s23.out; have := s24.out; have := s25.out; have := s28.out; have := s29.out; have := s32.out; have := s35.out; have := s38.out; have := s39.out; have := s40.out; have := s41.out; have := s42.out; omega)
  replace cx10 := keptT ht cx10 (by have := s1.out; have := s2.out; have := s3.out; have := s4.out; have := s9.out; have := s10.out; have := s11.out; have := s12.out; have := s13.out; have := s14.out; have := s16.out; have := s19.out; have := s20.out; have := s23.out; have := s24.out; have := s25.out; have := s28.out; have := s29.out; have := s32.out; have := s35.out; have := s38.out; have := s39.out; have := s40.out; have := s41.out; have := s42.out; omega)
  replace cx11 := keptT ht cx11 (by have := s1.out; have := s2.out; have := s3.out; have := s4.out; have := s9.out; have := s10.out; have := s11.out; have := s12.out; have := s13.out; have := s14.out; have := s16.out; have := s19.out; have := s20.out; have := s23.out; have := s24.out; have := s25.out; have := s28.out; have := s29.out; have := s32.out; have := s35.out; have := s38.out; have := s39.out; have := s40.out; have := s41.out; have := s42.out; omega)
  replace cg00 := keptT ht cg00 (by have := s1.out; have := s2.out; have := s3.out; have := s4.out; have := s9.out; have := s10.out; have := s11.out; have := s12.out; have := s13.out; have := s14.out; have := s16.out; have := s19.out; have := s20.out; have := s23.out; have := s24.out; have := s25.out; have := s28.out; have := s29.out; have := s32.out; have := s35.out; have := s38.out; have := s39.out; have := s40.out; have := s41.out; have := s42.out; omega)
  replace cg01 := keptT ht cg01 (by have := s1.out; have := s2.out; have := s3.out; have := s4.out; have := s9.out; have := s10.out; have := s11.out; have := s12.out; have := s13.out; have := s14.out; have := s16.out; have := s19.out; have := s20.out; have := s23.out; have := s24.out; have := s25.out; have := s28.out; have := s29.out; have := s32.out; have := s35.out; have := s38.out; have := s39.out; have := s40.out; have := s41.out; have := s42.out; omega)
  replace ow0 := ow0.touch ht (by have := s1.out; have := s2.out; have := s3.out; have := s4.out; have := s9.out; have := s10.out; have := s11.out; have := s12.out; have := s13.out; have := s14.out; have := s16.out; have := s19.out; have := s20.out; have := s23.out; have := s24.out; have := s25.out; have := s28.out; have := s29.out; have := s32.out; have := s35.out; have := s38.out; have := s39.out; have := s40.out; have := s41.out; have := s42.out; omega)
  replace ot15 := ot15.touch ht (by have := s1.out; have := s2.out; have := s3.out; have := s4.out; have := s9.out; have := s10.out; have := s11.out; have := s12.out; have := s13.out; have := s14.out; have := s16.out; have := s19.out; have := s20.out; have := s23.out; have := s24.out; have := s25.out; have := s28.out; have := s29.out; have := s32.out; have := s35.out; have := s38.out; have := s39.out; have := s40.out; have := s41.out; have := s42.out; omega)
  replace ot18 := ot18.touch ht (by have := s1.out; have := s2.out; have := s3.out; have := s4.out; have := s9.out; have := s10.out; have := s11.out; have := s12.out; have := s13.out; have := s14.out; have := s16.out; have := s19.out; have := s20.out; have := s23.out; have := s24.out; have := s25.out; have := s28.out; have := s29.out; have := s32.out; have := s35.out; have := s38.out; have := s39.out; have := s40.out; have := s41.out; have := s42.out; omega)
  replace og0 := og0.touch ht (by have := s1.out; have := s2.out; have := s3.out; have := s4.out; have := s9.out; have := s10.out; have := s11.out; have := s12.out; have := s13.out; have := s14.out; have := s16.out; have := s19.out; have := s20.out; have := s23.out; have := s24.out; have := s25.out; have := s28.out; have := s29.out; have := s32.out; have := s35.out; have := s38.out; have := s39.out; have := s40.out; have := s41.out; have := s42.out; omega)
  replace hbel := hbel.trans (ht.below (by have := s1.out; have := s2.out; have := s3.out; have := s4.out; have := s9.out; have := s10.out; have := s11.out; have := s12.out; have := s13.out; have := s14.out; have := s16.out; have := s19.out; have := s20.out; have := s23.out; have := s24.out; have := s25.out; have := s28.out; have := s29.out; have := s32.out; have := s35.out; have := s38.out; have := s39.out; have := s40.out; have := s41.out; have := s42.out; omega) hbel.size)
  clear ht
  have q43 : regEqB (awfR xAB xAZ xBB xBZ xListZ).1 (awfR xAB xAZ xBB xBZ xListZ).1 (awfR xAB xAZ xBB xBZ xListZ).2.1 (awfR xAB xAZ xBB xBZ xListZ).2.1 = true := regEqB_self _ _
  go_wp2_with fail
  refine (eqRegister_any (awfR xAB xAZ xBB xBZ xListZ).1 (awfR xAB xAZ xBB xBZ xListZ).1 g0A w0A g0C w0C (awfR xAB xAZ xBB xBZ xListZ).2.1 (awfR xAB xAZ xBB xBZ xListZ).2.1 v25 og0.rd ow0.rd).mono ?_
  rintro e v26 ⟨rfl, hb⟩
  have s44 : Hid (v25.heap.size ≤ v26.heap.size) := Lib.hid hb.size
  replace cxA0 := kept hb cxA0
  replace cxA1 := kept hb cxA1
  replace cxB0 := kept hb cxB0
  replace cxB1 := kept hb cxB1
  replace cw00 := kept hb cw00
  replace cw01 := kept hb cw01
  replace cx00 := kept hb cx00
  replace cx01 := kept hb cx01
  replace cx10 := kept hb cx10
  replace cx11 := kept hb cx11
  replace cg00 := kept hb cg00
  replace cg01 := kept hb cg01
  replace ow0 := ow0.below hb
  replace ot15 := ot15.below hb
  replace ot18 := ot18.below hb
  replace ot22 := ot22.below hb
  replace og0 := og0.below hb
  replace hbel := hbel.trans (hb.mono hbel.size)
  clear hb
  go_wp2_with fail
  refine (markRegister_any _ _ _ (awfR xAB xAZ xBB xBZ xListZ).1 g0A g0C 1 (awfR xAB xAZ xBB xBZ xListZ).2.1 v26 og0 (by have := ow0.len; have := ot15.len; have := ot18.len; have := ot22.len; have := og0.len; have := hxA.len; have := hxB.len; have := hxList.len; omega) (by have := ow0.len; have := ot15.len; have := ot18.len; have := ot22.len; have := og0.len; have := hxA.len; have := hxB.len; have := hxList.len; omega)).mono ?_
  rintro e v27 ⟨rfl, om, ht⟩
  have s45 : Hid (v26.heap.size ≤ v27.heap.size) := Lib.hid ht.size
  clear og0
  have og0 := om
  clear om
  replace cxA0 := keptT ht cxA0 (by have := s1.out; have := s2.out; have := s3.out; have := s4.out; have := s9.out; have := s10.out; have := s11.out; have := s12.out; have := s13.out; have := s14.out; have := s16.out; have := s19.out; have := s20.out; have := s23.out; have := s24.out; have := s25.out; have := s28.out; have := s29.out; have := s32.out; have := s35.out; have := s38.out; have := s39.out; have := s40.out; have := s41.out; have := s42.out; have := s44.out; have := s45.out; omega)
  replace cxA1 := keptT ht cxA1 (by have := s1.out; have := s2.out; have := s3.out; have := s4.out; have := s9.out; have := s10.out; have := s11.out; have := s12.out; have := s13.out; have := s14.out; have := s16.out; have := s19.out; have := s20.out; have := s23.out; have := s24.out; have := s25.out; have := s28.out; have := s29.out; have := s32.out; have := s35.out; have := s38.out; have := s39.out; have := s40.out; have := s41.out; have := s42.out; have := s44.out; have := s45.out; omega)
  replace cxB0 := keptT ht cxB0 (by have := s1.out; have := s2.out; have := s3.out; have := s4.out; have := s9.out; have := s10.out; have := s11.out; have := s12.out; have := s13.out; have := s14.out; have := s16.out; have := s19.out; have := s20.out; have := s23.out; have := s24.out; have := s25.out; have := s28.out; have := s29.out; have := s32.out; have := s35.out; have := s38.out; have := s39.out; have := s40.out; have := s41.out; have := s42.out; have := s44.out; have := s45.out; omega)
  replace cxB1 := keptT ht cxB1 (by have := s1.out; have := s2.out; have := s3.out; have := s4.out; have := s9.out; have := s10.out; have := s11.out; have := s12.out; have := s13.out; have := s14.out; have := s16.out; have := s19.out; have := s20.out; have := s23.out; have := s24.out; have := s25.out; have := s28.out; have := s29.out; have := s32.out; have := s35.out; have := s38.out; have := s39.out; have := s40.out; have := s41.out; have := s42.out; have := s44.out; have := s45.out; omega)
  replace cw00 := keptT ht cw00 (by have := s1.out; have := s2.out; have := s3.out; have := s4.out; have := s9.out; have := s10.out; have := s11.out; have := s12.out; have := s13.out; have := s14.out; have := s16.out; have := s19.out; have := s20.out; have := s23.out; have := s24.out; have := s25.out; have := s28.out; have := s29.out; have := s32.out; have := s35.out; have := s38.out; have := s39.out; have := s40.out; have := s41.out; have := s42.out; have := s44.out; have := s45.out; omega)
  replace cw01 := keptT ht cw01 (by have := s1.out; have := s2.out; have := s3.out; have := s4.out; have := s9.out; have := s10.out; have := s11.out; have := s12.out; have := s13.out; have := s14.out; have := s16.out; have := s19.out; have := s20.out; have := s23.out; have := s24.out; have := s25.out; have := s28.out; have := s29.out; have := s32.out; have := s35.out; have := s38.out; have := s39.out; have := s40.out; have := s41.out; have := s42.out; have := s44.out; have := s45.out; omega)
  replace cx00 := keptT ht cx00 (by have := s1.out; have := s2.out; have := s3.out; have := s4.out; have := s9.out; have := s10.out; have := s11.out; have := s12.out; have := s13.out; have := s14.out; have := s16.out; have := s19.out; have := s20.out; have := s23.out; have := s24.out; have := s25.out; have := s28.out; have := s29.out; have := s32.out; have := s35.out; have := s38.out; have := s39.out; have := s40.out; have := s41.out; have := s42.out; have := s44.out; have := s45.out; omega)
  replace cx01 := keptT ht cx01 (by have := s1.out; have := s2.out; have := s3.out; have := s4.out; have := s9.out; have := s10.out; have := s11.out; have := s12.out; have := s13.out; have := s14.out; have := s16.out; have := s19.out; have := s20.out; have := s23.out; have := s24.out; have := s25.out; have := s28.out; have := s29.out; have := s32.out; have := s35.out; have := s38.out; have := s39.out; have := s40.out; have := s41.out; have := s42.out; have := s44.out; have := s45.out; omega)
  replace cx10 := keptT ht cx10 (by have := s1.out; have := s2.out; have := s3.out; have := s4.out; have := s9.out; have := s10.out; have := s11.out; have := s12.out; have := s13.out; have := s14.out; have := s16.out; have := s19.out; have := s20.out; have := s23.out; have := s24.out; have := s25.out; have := s28.out; have := s29.out; have := s32.out; have := s35.out; have := s38.out; have := s39.out; have := s40.out; have := s41.out; have := s42.out; have := s44.out; have := s45.out; omega)
  replace cx11 := keptT ht cx11 (by have := s1.out; have := s2.out; have := s3.out; have := s4.out; have := s9.out; have := s10.out; have := s11.out; have := s12.out; have := s13.out; have := s14.out; have := s16.out; have := s19.out; have := s20.out; have := s23.out; have := s24.out; have := s25.out; have := s28.out; have := s29.out; have := s32.out; have := s35.out; have := s38.out; have := s39.out; have := s40.out; have := s41.out; have := s42.out; have := s44.out; have := s45.out; omega)
  replace cg00 := keptT ht cg00 (by have := s1.out; have := s2.out; have := s3.out; have := s4.out; have := s9.out; have := s10.out; have := s11.out; have := s12.out; have := s13.out; have := s14.out; have := s16.out; have := s19.out; have := s20.out; have := s23.out; have := s24.out; have := s25.out; have := s28.out; have := s29.out; have := s32.out; have := s35.out; have := s38.out; have := s39.out; have := s40.out; have := s41.out; have := s42.out; have := s44.out; have := s45.out; omega)
  replace cg01 := keptT ht cg01 (by have := s1.out; have := s2.out; have := s3.out; have := s4.out; have := s9.out; have := s10.out; have := s11.out; have := s12.out; have := s13.out; have := s14.out; have := s16.out; have := s19.out; have := s20.out; have := s23.out; have := s24.out; have := s25.out; have := s28.out; have := s29.out; have := s32.out; have := s35.out; have := s38.out; have := s39.out; have := s40.out; have := s41.out; have := s42.out; have := s44.out; have := s45.out; omega)
  replace ow0 := ow0.touch ht (by have := s1.out; have := s2.out; have := s3.out; have := s4.out; have := s9.out; have := s10.out; have := s11.out; have := s12.out; have := s13.out; have := s14.out; have := s16.out; have := s19.out; have := s20.out; have := s23.out; have := s24.out; have := s25.out; have := s28.out; have := s29.out; have := s32.out; have := s35.out; have := s38.out; have := s39.out; have := s40.out; have := s41.out; have := s42.out; have := s44.out; have := s45.out; omega)
  replace ot15 := ot15.touch ht (by have := s1.out; have := s2.out; have := s3.out; have := s4.out; have := s9.out; have := s10.out; have := s11.out; have := s12.out; have := s13.out; have := s14.out; have := s16.out; have := s19.out; have := s20.out; have := s23.out; have := s24.out; have := s25.out; have := s28.out; have := s29.out; have := s32.out; have := s35.out; have := s38.out; have := s39.out; have := s40.out; have := s41.out; have := s42.out; have := s44.out; have := s45.out; omega)
  replace ot18 := ot18.touch ht (by have := s1.out; have := s2.out; have := s3.out; have := s4.out; have := s9.out; have := s10.out; have := s11.out; have := s12.out; have := s13.out; have := s14.out; have := s16.out; have := s19.out; have := s20.out; have := s23.out; have := s24.out; have := s25.out; have := s28.out; have := s29.out; have := s32.out; have := s35.out; have := s38.out; have := s39.out; have := s40.out; have := s41.out; have := s42.out; have := s44.out; have := s45.out; omega)
  replace ot22 := ot22.touch ht (by have := s1.out; have := s2.out; have := s3.out; have := s4.out; have := s9.out; have := s10.out; have := s11.out; have := s12.out; have := s13.out; have := s14.out; have := s16.out; have := s19.out; have := s20.out; have := s23.out; have := s24.out; have := s25.out; have := s28.out; have := s29.out; have := s32.out; have := s35.out; have := s38.out; have := s39.out; have := s40.out; have := s41.out; have := s42.out; have := s44.out; have := s45.out; omega)
  replace hbel := hbel.trans (ht.below (by have := s1.out; have := s2.out; have := s3.out; have := s4.out; have := s9.out; have := s10.out; have := s11.out; have := s12.out; have := s13.out; have := s14.out; have := s16.out; have := s19.out; have := s20.out; have := s23.out; have := s24.out; have := s25.out; have := s28.out; have := s29.out; have := s32.out; have := s35.out; have := s38.out; have := s39.out; have := s40.out; have := s41.out; have := s42.out; have := s44.out; have := s45.out; omega) hbel.size)
  clear ht
  go_wp2_with fail
  refine (heldRegister_any (awfR xAB xAZ xBB xBZ xListZ).1 g0A g0C 1 (awfR xAB xAZ xBB xBZ xListZ).2.1.length v27 og0.rd (by have := ow0.len; have := ot15.len; have := ot18.len; have := ot22.len; have := og0.len; have := hxA.len; have := hxB.len; have := hxList.len; omega) (by have := ow0.len; have := ot15.len; have := ot18.len; have := ot22.len; have := og0.len; have := hxA.len; have := hxB.len; have := hxList.len; omega)).mono ?_
  rintro e v28 ⟨rfl, hb⟩
  have s46 : Hid (v27.heap.size ≤ v28.heap.size) := Lib.hid hb.size
  replace cxA0 := kept hb cxA0
  replace cxA1 := kept hb cxA1
  replace cxB0 := kept hb cxB0
  replace cxB1 := kept hb cxB1
  replace cw00 := kept hb cw00
  replace cw01 := kept hb cw01
  replace cx00 := kept hb cx00
  replace cx01 := kept hb cx01
  replace cx10 := kept hb cx10
  replace cx11 := kept hb cx11
  replace cg00 := kept hb cg00
  replace cg01 := kept hb cg01
  replace ow0 := ow0.below hb
  replace ot15 := ot15.below hb
  replace ot18 := ot18.below hb
  replace ot22 := ot22.below hb
  replace og0 := og0.below hb
  replace hbel := hbel.trans (hb.mono hbel.size)
  clear hb
  go_upto_region 38 with fail
  go_cut [20, 21, 22] from 23 (fun sl20 sl21 sl22 wx => BoxReg v28 (awfR xAB xAZ xBB xBZ xListZ).1 (awfR xAB xAZ xBB xBZ xListZ).2.1 sl20 wx ∧ sl21 = .int .i64 (awfR xAB xAZ xBB xBZ xListZ).2.2.1 ∧ sl22 = .int .i64 (awfR xAB xAZ xBB xBZ xListZ).2.2.2)
  case first =>
    have rcxA0 := kept_all cxA0
    have rcxA1 := kept_all cxA1
    have rcxB0 := kept_all cxB0
    have rcxB1 := kept_all cxB1
    clear cxA0 cxA1 cxB0 cxB1 cw00 cw01 cx00 cx01 cx10 cx11 cg00 cg01
    go_region_held3 (fun w' => Below v28.heap.size v28 w') (first | exact hk | exact (Below.refl _ _).drew | exact hk.alloc hk.size _ | exact (Below.refl _ _).drew.alloc (Nat.le_refl _) _ | exact (hk.alloc hk.size _).setCell hk.size _ | exact ((hk.setCell bg.out _).setCell bg.out _))
      (first | (go_at_call 29; have qB := ‹Below v28.heap.size v28 _›; ((with_reducible refine (toRegister_any xAB xAA xAC xAZ ((v28.alloc (.cells #[.int .i64 0, .slice none 0 0] 31)).drew) (hxA.below (hbel.trans (qB.mono hbel.size)))).mono ?_)); rintro e v30 ⟨t47A, t47C, rfl, ot47, hb⟩; have bz := ((Bx.new v28 #[.int .i64 0, .slice none 0 0] 31).drew).below hb; have bg : Hid (v28.heap.size ≤ v28.drew.heap.size) := Lib.hid (by first | exact (‹Below v28.heap.size v28 v28.drew›).size | exact Nat.le_refl _); have hk := qB.trans (hb.mono qB.size)) | (go_at_call 29; have qB := ‹Below v28.heap.size v28 _›; ((with_reducible refine (toRegister_any xAB xAA xAC xAZ v28.drew (hxA.below (hbel.trans (qB.mono hbel.size)))).mono ?_)); rintro e v30 ⟨t47A, t47C, rfl, ot47, hb⟩; (try replace bz := bz.below hb); have hk := qB.trans (hb.mono qB.size)) | (go_at_call 29; have qB := ‹Below v28.heap.size v28 _›; ((with_reducible refine (toRegister_any xBB xBA xBC xBZ (v30.alloc (.cells #[.int .i64 0, .slice none 0 0] 31)) (hxB.below (hbel.trans (qB.mono hbel.size)))).mono ?_)); rintro e v31 ⟨t48A, t48C, rfl, ot48, hb⟩; replace ot47 := (ot47.alloc _).below hb; have bz := (Bx.new v30 #[.int .i64 0, .slice none 0 0] 31).below hb; have bg : Hid (v28.heap.size ≤ v30.heap.size) := Lib.hid (by first | exact (‹Below v28.heap.size v28 v30›).size | exact Nat.le_refl _); have hk := qB.trans (hb.mono qB.size)) | (go_at_call 29; have qB := ‹Below v28.heap.size v28 _›; ((with_reducible refine (toRegister_any xBB xBA xBC xBZ v30 (hxB.below (hbel.trans (qB.mono hbel.size)))).mono ?_)); rintro e v31 ⟨t48A, t48C, rfl, ot48, hb⟩; replace ot47 := ot47.below hb; (try replace bz := bz.below hb); have hk := qB.trans (hb.mono qB.size)) | (go_at_call 24; have qB := ‹Below v28.heap.size v28 _›; ((with_reducible refine (toLeverFaultS_any xListA xListC xListZ (v31.alloc (.cells #[.int .i64 0, .slice none 0 0] 31)) (hxList.below (hbel.trans (qB.mono hbel.size)))).mono ?_)); rintro e v32 ⟨t49A, t49C, rfl, ot49, hb⟩; replace ot47 := (ot47.alloc _).below hb; replace ot48 := (ot48.alloc _).below hb; have bz := (Bx.new v31 #[.int .i64 0, .slice none 0 0] 31).below hb; have bg : Hid (v28.heap.size ≤ v31.heap.size) := Lib.hid (by first | exact (‹Below v28.heap.size v28 v31›).size | exact Nat.le_refl _); have hk := qB.trans (hb.mono qB.size)) | (go_at_call 24; have qB := ‹Below v28.heap.size v28 _›; ((with_reducible refine (toLeverFaultS_any xListA xListC xListZ v31 (hxList.below (hbel.trans (qB.mono hbel.size)))).mono ?_)); rintro e v32 ⟨t49A, t49C, rfl, ot49, hb⟩; replace ot47 := ot47.below hb; replace ot48 := ot48.below hb; (try replace bz := bz.below hb); have hk := qB.trans (hb.mono qB.size)) | (go_at_call 30; have qB := ‹Below v28.heap.size v28 _›; ((with_reducible refine (implAddWithFaults xAB t47A t47C xAZ xBB t48A t48C xBZ t49A t49C xListZ (v32.alloc (.cells #[.int .i64 0, .slice none 0 0] 31)) (ot47.alloc _).rd zxA bxA (ot48.alloc _).rd zxB bxB (ot49.alloc _).rd zxList).mono ?_)); rintro e v29 ⟨h0A, h0C, rfl, oh0, hb⟩; have bz := (Bx.new v32 #[.int .i64 0, .slice none 0 0] 31); have bg : Hid (v28.heap.size ≤ v32.heap.size) := Lib.hid (by first | exact (‹Below v28.heap.size v28 v32›).size | exact Nat.le_refl _); have bh := Lib.hid bz.lt; replace bz := bz.below hb; have bz0 := bz.at_ 0 rfl; have bf0 := bz.thaw 0; have bz1 := bz.at_ 1 rfl; have bf1 := bz.thaw 1; have hkU := qB; have hbU := hb; have hk := qB.trans (hb.mono qB.size)) | (go_at_call 30; have qB := ‹Below v28.heap.size v28 _›; ((with_reducible refine (implAddWithFaults xAB t47A t47C xAZ xBB t48A t48C xBZ t49A t49C xListZ v32 ot47.rd zxA bxA ot48.rd zxB bxB ot49.rd zxList).mono ?_)); rintro e v29 ⟨h0A, h0C, rfl, oh0, hb⟩; (try (have bh := Lib.hid bz.lt; replace bz := bz.below hb; have bz0 := bz.at_ 0 rfl; have bf0 := bz.thaw 0; have bz1 := bz.at_ 1 rfl; have bf1 := bz.thaw 1)); have hkU := qB; have hbU := hb; have hk := qB.trans (hb.mono qB.size)))
    all_goals (go_wp2_with fail; go_meet; case rel => first | with_reducible exact ⟨boxReg_after hkU hbU oh0, rfl, rfl⟩ | with_reducible exact ⟨boxReg_before hkU hbU oh0 bz bg bh, rfl, rfl⟩ | exact ⟨boxReg_after hkU hbU oh0, rfl, rfl⟩ | exact ⟨boxReg_before hkU hbU oh0 bz bg bh, rfl, rfl⟩)
  case rest =>
  obtain ⟨⟨B50, h0A, h0C, B50l, B50h, rfl, ch00, ch01, oh0, s51, s52, s53, s54, s55, hb⟩, rfl, rfl⟩ := hcut
  obtain ⟨v29, rfl⟩ : ∃ u, u = wc := ⟨_, rfl⟩
  have s56 : Hid (v28.heap.size ≤ v29.heap.size) := Lib.hid hb.size
  replace cxA0 := kept hb cxA0
  replace cxA1 := kept hb cxA1
  replace cxB0 := kept hb cxB0
  replace cxB1 := kept hb cxB1
  replace cw00 := kept hb cw00
  replace cw01 := kept hb cw01
  replace cx00 := kept hb cx00
  replace cx01 := kept hb cx01
  replace cx10 := kept hb cx10
  replace cx11 := kept hb cx11
  replace cg00 := kept hb cg00
  replace cg01 := kept hb cg01
  replace ow0 := ow0.below hb
  replace ot15 := ot15.below hb
  replace ot18 := ot18.below hb
  replace ot22 := ot22.below hb
  replace og0 := og0.below hb
  replace hbel := hbel.trans (hb.mono hbel.size)
  clear hb
  have q57 : regEqB (awfR xAB xAZ xBB xBZ xListZ).1 (awfR xAB xAZ xBB xBZ xListZ).1 (awfR xAB xAZ xBB xBZ xListZ).2.1 (awfR xAB xAZ xBB xBZ xListZ).2.1 = true := regEqB_self _ _
  go_wp2_with fail
  refine (eqRegister_any (awfR xAB xAZ xBB xBZ xListZ).1 (awfR xAB xAZ xBB xBZ xListZ).1 h0A w0A h0C w0C (awfR xAB xAZ xBB xBZ xListZ).2.1 (awfR xAB xAZ xBB xBZ xListZ).2.1 v29 oh0.rd ow0.rd).mono ?_
  rintro e v33 ⟨rfl, hb⟩
  have s58 : Hid (v29.heap.size ≤ v33.heap.size) := Lib.hid hb.size
  replace cxA0 := kept hb cxA0
  replace cxA1 := kept hb cxA1
  replace cxB0 := kept hb cxB0
  replace cxB1 := kept hb cxB1
  replace cw00 := kept hb cw00
  replace cw01 := kept hb cw01
  replace cx00 := kept hb cx00
  replace cx01 := kept hb cx01
  replace cx10 := kept hb cx10
  replace cx11 := kept hb cx11
  replace cg00 := kept hb cg00
  replace cg01 := kept hb cg01
  replace ch00 := kept hb ch00
  replace ch01 := kept hb ch01
  replace ow0 := ow0.below hb
  replace ot15 := ot15.below hb
  replace ot18 := ot18.below hb
  replace ot22 := ot22.below hb
  replace og0 := og0.below hb
  replace oh0 := oh0.below hb
  replace hbel := hbel.trans (hb.mono hbel.size)
  clear hb
  go_wp2_with fail
  refine (heldRegister_any (awfR xAB xAZ xBB xBZ xListZ).1 g0A g0C 1 (awfR xAB xAZ xBB xBZ xListZ).2.1.length v33 og0.rd (by have := ow0.len; have := ot15.len; have := ot18.len; have := ot22.len; have := og0.len; have := oh0.len; have := hxA.len; have := hxB.len; have := hxList.len; omega) (by have := ow0.len; have := ot15.len; have := ot18.len; have := ot22.len; have := og0.len; have := oh0.len; have := hxA.len; have := hxB.len; have := hxList.len; omega)).mono ?_
  rintro e v34 ⟨rfl, hb⟩
  have s59 : Hid (v33.heap.size ≤ v34.heap.size) := Lib.hid hb.size
  replace cxA0 := kept hb cxA0
  replace cxA1 := kept hb cxA1
  replace cxB0 := kept hb cxB0
  replace cxB1 := kept hb cxB1
  replace cw00 := kept hb cw00
  replace cw01 := kept hb cw01
  replace cx00 := kept hb cx00
  replace cx01 := kept hb cx01
  replace cx10 := kept hb cx10
  replace cx11 := kept hb cx11
  replace cg00 := kept hb cg00
  replace cg01 := kept hb cg01
  replace ch00 := kept hb ch00
  replace ch01 := kept hb ch01
  replace ow0 := ow0.below hb
  replace ot15 := ot15.below hb
  replace ot18 := ot18.below hb
  replace ot22 := ot22.below hb
  replace og0 := og0.below hb
  replace oh0 := oh0.below hb
  replace hbel := hbel.trans (hb.mono hbel.size)
  clear hb
  go_wp2
  go_ret
  exact ⟨rfl, hbel⟩

set_option maxRecDepth 100000 in
theorem lifted (os : Os) (started : os.Started) (H : Type) (enc : TypeId × Value → H) :
    ReturnsInHanded {} Try.checked os 5 .any (Rows.fnExactAddWithFaultsSpec.pre6 enc Try.prog Try.f5 Rows.fnExactAddWithFaultsRow.domain false) (Rows.fnExactAddWithFaultsSpec.post enc Try.prog Try.f5 false true false false) := by
  refine returnsInHanded_of_change (C := Try.checked) own_knob started (by kernel_rfl) Try.func5
    (ChangeSpec.witness6 (enc := enc) (C := Try.checked) false ⟨#[], #[.agg #[.int .i64 0, .slice none 0 0], .agg #[.int .i64 0, .slice none 0 0], .slice none 0 0], []⟩ 8 (by kernel_rfl) (by kernel_rfl) (by kernel_rfl) (by kernel_rfl)) ?_
  intro W base args ds gs before hval0 hW hcnd _
  have hval : ∀ (j : Nat) t v, Try.f5.params[j]? = some t → args[j]? = some v → Value.okWide Try.prog W .any base t v := hval0
  have hW' := hW
  obtain ⟨p, q, hA0, hV, rfl, hfz, hnd⟩ := hW
  have hA : DataW.TrodAll enc Try.prog W 0 (fun _ => true) true Try.f5.params.toList args.toList ds p := hA0
  rw [Try.params5] at hA hval
  obtain ⟨v0, vs0, d0, ds0, p0, q0, hargs, rfl, rfl, h0, r0⟩ := trodAll_cons hA
  obtain ⟨v1, vs1, d1, ds1, p1, q1, rfl, rfl, rfl, h1, r1⟩ := trodAll_cons r0
  obtain ⟨v2, vs2, d2, ds2, p2, q2, rfl, rfl, rfl, h2, r2⟩ := trodAll_cons r1
  obtain ⟨rfl, rfl, rfl⟩ := trodAll_nil r2
  obtain rfl : args = #[v0, v1, v2] := by cases args; simp_all
  obtain ⟨rfl, rfl⟩ := trodVars_none hV
  have k0 := h0
  have lt0 : ∀ x ∈ p0, x.block < W.heap.size := by obtain ⟨m, hm⟩ := k0; exact DataW.trod_lt m _ _ _ hm
  obtain ⟨xAB, xAA, xAC, xAZ, rfl, hxA, bxA⟩ := open_Register (hval 0 47 v0 rfl rfl) h0
  have k1 := h1
  have lt1 : ∀ x ∈ p1, x.block < W.heap.size := by obtain ⟨m, hm⟩ := k1; exact DataW.trod_lt m _ _ _ hm
  obtain ⟨xBB, xBA, xBC, xBZ, rfl, hxB, bxB⟩ := open_Register (hval 1 47 v1 rfl rfl) h1
  have k2 := h2
  have lt2 : ∀ x ∈ p2, x.block < W.heap.size := by obtain ⟨m, hm⟩ := k2; exact DataW.trod_lt m _ _ _ hm
  obtain ⟨xListA, xListC, xListZ, rfl, hxList⟩ := open_LeverFaultS (hval 2 40 v2 rfl rfl) h2
  clear hA0 hval0
  refine (law_walk xAB xAA xAC xAZ xBB xBA xBC xBZ xListA xListC xListZ W hxA bxA hxB bxB hxList).mono fun e W' ⟨he, bel⟩ => ?_
  subst he
  exact ⟨_, rfl, _, _, _, [], _, [], hW', trodAll_mk1 (shut_bool Try.underlying4 _), (trodAll_cons_mk (Below.trod laid_out (by kernel_rfl) (of_decide_eq_true (by kernel_rfl)) k0 bel lt0) (trodAll_cons_mk (Below.trod laid_out (by kernel_rfl) (of_decide_eq_true (by kernel_rfl)) k1 bel lt1) (trodAll_cons_mk (Below.trod laid_out (by kernel_rfl) (of_decide_eq_true (by kernel_rfl)) k2 bel lt2) trodAll_mk0))), rfl, bel.frame _, fun h => by cases h⟩

set_option maxHeartbeats 20000000 in
theorem closed : joinedFacts Try.prog 5 Try.f5 Rows.fnExactAddWithFaultsSpec Rows.fnExactAddWithFaultsRow = true := by
  simp only [joinedFacts, Bool.and_eq_true]
  refine ⟨⟨⟨⟨⟨⟨⟨⟨⟨⟨⟨⟨⟨⟨⟨⟨⟨⟨⟨⟨⟨⟨⟨⟨⟨⟨⟨⟨⟨⟨⟨?_, laid_out⟩, fact_maps⟩, ?_⟩, ?_⟩, ?_⟩, fact_stops⟩, ?_⟩, fact_knobs⟩, ?_⟩, ?_⟩, ?_⟩, ?_⟩, ?_⟩, ?_⟩, ?_⟩, ?_⟩, ?_⟩, ?_⟩, ?_⟩, ?_⟩, ?_⟩, fact_plain⟩, ?_⟩, fact_heard⟩, fact_enter⟩, fact_lift⟩, ?_⟩, ?_⟩, ?_⟩, ?_⟩, ?_⟩
  all_goals (as_aux_lemma => kernel_rfl)

theorem over : Rows.fnExactAddWithFaultsRow.holds Try.pinned (OpenSpec.ofChange Rows.fnExactAddWithFaultsSpec) :=
  OpenClaim.holds_of_wide 5 Try.f5 rfl rfl rfl rfl rfl rfl rfl ⟨rfl, rfl, rfl, rfl, rfl⟩ rfl rfl rfl rfl rfl (by as_aux_lemma => kernel_rfl) Try.func5 closed
    (of_decide_eq_true (by as_aux_lemma => kernel_rfl)) (by unfold Func.isWrapper; rw [if_neg (by decide +kernel)]; exact ⟨rfl, rfl⟩)
    (fun os started H enc _ => lifted os started H enc)

/-- The statement. -/
theorem proved : Rows.FnExactAddWithFaultsSaid := over
end Go.Proofs.Ytmdngcoccekdgaa.lawAddWithFaults
