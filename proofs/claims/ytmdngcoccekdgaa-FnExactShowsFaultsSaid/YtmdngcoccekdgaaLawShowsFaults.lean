/-
  laws.FnExactShowsFaults returns true at every input (no condition), and leaves its arguments as they were.
-/
import Derived.Test.YtmdngcoccekdgaaReg
import Derived.Test.YtmdngcoccekdgaaBox
import Derived.Test.YtmdngcoccekdgaaFrame
import Derived.Test.YtmdngcoccekdgaaLeverFaultS
import Derived.Test.YtmdngcoccekdgaaFrameI
import Derived.Test.YtmdngcoccekdgaaFrameL
import Derived.Test.YtmdngcoccekdgaaShwAll
import Derived.Deep.RegionHeld3
import Derived.Test.YtmdngcoccekdgaaFacts
import Derived.Test.YtmdngcoccekdgaaRows
namespace Go.Proofs.Ytmdngcoccekdgaa.lawShowsFaults
open Go.ChangeShapes Go.WideShapes Go.ChangeAt Go.WideElems Go.RowKit Go.Joins
open Go.ChangeMaps (open_string shut_string)

set_option maxRecDepth 100000 in
set_option maxHeartbeats 4000000 in
theorem law_walk (xAB : Int) (xAA : Option Addr) (xAC : Nat) (xAZ : List Int) (xBB : Int) (xBA : Option Addr) (xBC : Nat) (xBZ : List Int) (xListA : Option Addr) (xListC : Nat) (xListZ : List (Int × Int)) (w : World) (hxA : Raw w xAA xAZ) (bxA : I64 xAB) (hxB : Raw w xBA xBZ) (bxB : I64 xBB) (hxList : RawF pairF (fun x => I64 x.1 ∧ I64 x.2) w xListA xListZ) :
    Calls Try.prog 6 #[.agg #[.int .i64 xAB, .slice xAA xAZ.length xAC], .agg #[.int .i64 xBB, .slice xBA xBZ.length xBC], .slice xListA xListZ.length xListC] w fun e w' => e = .returned (.bool true) ∧ Below w.heap.size w w' := by
  have hbel : Below w.heap.size w ((w.alloc (.cells #[.int .i64 xAB, .slice xAA xAZ.length xAC] 47)).alloc (.cells #[.int .i64 xBB, .slice xBA xBZ.length xBC] 47)) := ((Below.refl _ _).alloc (by simp <;> omega) _).alloc (by simp <;> omega) _
  have cxA0 : ((w.alloc (.cells #[.int .i64 xAB, .slice xAA xAZ.length xAC] 47)).alloc (.cells #[.int .i64 xBB, .slice xBA xBZ.length xBC] 47)).cell? ⟨w.heap.size, 0, none⟩ = some (.int .i64 xAB) := by go_simp
  have cxA1 : ((w.alloc (.cells #[.int .i64 xAB, .slice xAA xAZ.length xAC] 47)).alloc (.cells #[.int .i64 xBB, .slice xBA xBZ.length xBC] 47)).cell? ⟨w.heap.size, 1, none⟩ = some (.slice xAA xAZ.length xAC) := by go_simp
  have cxB0 : ((w.alloc (.cells #[.int .i64 xAB, .slice xAA xAZ.length xAC] 47)).alloc (.cells #[.int .i64 xBB, .slice xBA xBZ.length xBC] 47)).cell? ⟨w.heap.size + 1, 0, none⟩ = some (.int .i64 xBB) := by go_simp
  have cxB1 : ((w.alloc (.cells #[.int .i64 xAB, .slice xAA xAZ.length xAC] 47)).alloc (.cells #[.int .i64 xBB, .slice xBA xBZ.length xBC] 47)).cell? ⟨w.heap.size + 1, 1, none⟩ = some (.slice xBA xBZ.length xBC) := by go_simp
  go_enter Try.func6, Try.ntmps6
  go_wp2_with fail
  obtain ⟨v1, hu⟩ : ∃ u, u = ((w.alloc (.cells #[.int .i64 xAB, .slice xAA xAZ.length xAC] 47)).alloc (.cells #[.int .i64 xBB, .slice xBA xBZ.length xBC] 47)) := ⟨_, rfl⟩
  have s1 : Hid (w.heap.size + 2 ≤ v1.heap.size) := Lib.hid (by rw [hu]; simp)
  rw [← hu] at cxA0 cxA1 cxB0 cxB1 hbel ⊢
  clear hu
  rcases Int.lt_or_le (leftOf xAZ.length 1048576) 0 with k1 | k1
  · refine (szRegister_any xAB xAA xAZ.length xAC 1048576 v1 hxA.len (by omega) (by omega)).mono ?_
    rintro e v2 ⟨rfl, hb⟩
    go_wp2
    go_ret
    exact ⟨rfl, hbel.trans (hb.mono hbel.size)⟩
  have m1 := leftOf_le xAZ.length 1048576 (by omega)
  refine (szRegister_any xAB xAA xAZ.length xAC 1048576 v1 hxA.len (by omega) (by omega)).mono ?_
  rintro e v2 ⟨rfl, hb⟩
  have s2 : Hid (v1.heap.size ≤ v2.heap.size) := Lib.hid hb.size
  replace cxA0 := kept hb cxA0
  replace cxA1 := kept hb cxA1
  replace cxB0 := kept hb cxB0
  replace cxB1 := kept hb cxB1
  replace hbel := hbel.trans (hb.mono hbel.size)
  clear hb
  have zxA := hxA.wf
  replace hxA := hxA.rd (by have := leftOf_len k1; omega)
  go_wp2_with fail
  rcases Int.lt_or_le (leftOf xBZ.length (leftOf xAZ.length 1048576)) 0 with k2 | k2
  · refine (szRegister_any xBB xBA xBZ.length xBC (leftOf xAZ.length 1048576) v2 hxB.len (by omega) (by omega)).mono ?_
    rintro e v3 ⟨rfl, hb⟩
    go_wp2
    go_ret
    exact ⟨rfl, hbel.trans (hb.mono hbel.size)⟩
  have m2 := leftOf_le xBZ.length (leftOf xAZ.length 1048576) (by omega)
  refine (szRegister_any xBB xBA xBZ.length xBC (leftOf xAZ.length 1048576) v2 hxB.len (by omega) (by omega)).mono ?_
  rintro e v3 ⟨rfl, hb⟩
  have s3 : Hid (v2.heap.size ≤ v3.heap.size) := Lib.hid hb.size
  replace cxA0 := kept hb cxA0
  replace cxA1 := kept hb cxA1
  replace cxB0 := kept hb cxB0
  replace cxB1 := kept hb cxB1
  replace hbel := hbel.trans (hb.mono hbel.size)
  clear hb
  have zxB := hxB.wf
  replace hxB := hxB.rd (by have := leftOf_len k2; omega)
  go_wp2_with fail
  rcases Int.lt_or_le (leftOf xListZ.length (leftOf xBZ.length (leftOf xAZ.length 1048576))) 0 with k3 | k3
  · refine (szLeverFaultS_any xListA xListZ.length xListC (leftOf xBZ.length (leftOf xAZ.length 1048576)) v3 hxList.len (by omega) (by omega)).mono ?_
    rintro e v4 ⟨rfl, hb⟩
    subst hb
    go_wp2
    go_ret
    exact ⟨rfl, hbel⟩
  have m3 := leftOf_le xListZ.length (leftOf xBZ.length (leftOf xAZ.length 1048576)) (by omega)
  refine (szLeverFaultS_any xListA xListZ.length xListC (leftOf xBZ.length (leftOf xAZ.length 1048576)) v3 hxList.len (by omega) (by omega)).mono ?_
  rintro e v4 ⟨rfl, hb⟩
  replace hb : Below v3.heap.size v3 v4 := by rw [← hb]; exact Below.refl _ _
  have s4 : Hid (v3.heap.size ≤ v4.heap.size) := Lib.hid hb.size
  replace cxA0 := kept hb cxA0
  replace cxA1 := kept hb cxA1
  replace cxB0 := kept hb cxB0
  replace cxB1 := kept hb cxB1
  replace hbel := hbel.trans (hb.mono hbel.size)
  clear hb
  have zxList : All2 xListZ := hxList.wf
  replace hxList := hxList.rd (by have := leftOf_len k3; omega)
  go_wp2_with fail
  have rcxA0 := kept_all cxA0
  have rcxA1 := kept_all cxA1
  have rcxB0 := kept_all cxB0
  have rcxB1 := kept_all cxB1
  go_region_held3 (fun w' => Below v4.heap.size v4 w') (first | exact hk | exact (Below.refl _ _).drew | exact hk.alloc hk.size _ | exact (hk.alloc hk.size _).setCell hk.size _)
    (first | (go_at_call 29; have qB := ‹Below v4.heap.size v4 _›; ((with_reducible refine (toRegister_any xAB xAA xAC xAZ _ (hxA.below (hbel.trans (qB.mono hbel.size)))).mono ?_)); rintro e v6 ⟨t5A, t5C, rfl, ot5, hb⟩; have hk := qB.trans (hb.mono qB.size)) | (go_at_call 29; have qB := ‹Below v4.heap.size v4 _›; ((with_reducible refine (toRegister_any xBB xBA xBC xBZ _ (hxB.below (hbel.trans (qB.mono hbel.size)))).mono ?_)); rintro e v7 ⟨t6A, t6C, rfl, ot6, hb⟩; replace ot5 := ot5.below hb; have hk := qB.trans (hb.mono qB.size)) | (go_at_call 24; have qB := ‹Below v4.heap.size v4 _›; ((with_reducible refine (toLeverFaultS_any xListA xListC xListZ _ (hxList.below (hbel.trans (qB.mono hbel.size)))).mono ?_)); rintro e v8 ⟨t7A, t7C, rfl, ot7, hb⟩; replace ot5 := ot5.below hb; replace ot6 := ot6.below hb; have hk := qB.trans (hb.mono qB.size)) | (go_at_call 35; have qB := ‹Below v4.heap.size v4 _›; refine (specShowsFaults xAB t5A t5C xAZ xBB t6A t6C xBZ t7A t7C xListZ _ (by first | exact ot5.rd | exact (ot5.alloc _).rd) zxA bxA (by first | exact ot6.rd | exact (ot6.alloc _).rd) zxB bxB (by first | exact ot7.rd | exact (ot7.alloc _).rd) zxList).mono ?_; rintro e v5 ⟨rfl, hb⟩; have hk := qB.trans (hb.mono qB.size)))
  have hb : Below v4.heap.size v4 v5 := by assumption
  clear rcxA0 rcxA1 rcxB0 rcxB1
  clear ot5 ot6 ot7
  have s8 : Hid (v4.heap.size ≤ v5.heap.size) := Lib.hid hb.size
  replace cxA0 := kept hb cxA0
  replace cxA1 := kept hb cxA1
  replace cxB0 := kept hb cxB0
  replace cxB1 := kept hb cxB1
  replace hbel := hbel.trans (hb.mono hbel.size)
  clear hb
  go_wp2_with fail
  refine (toRegister_any xAB xAA xAC xAZ v5 (hxA.below hbel)).mono ?_
  rintro e v9 ⟨t9A, t9C, rfl, ot9, hb⟩
  have s10 : Hid (v5.heap.size ≤ v9.heap.size) := Lib.hid hb.size
  replace cxA0 := kept hb cxA0
  replace cxA1 := kept hb cxA1
  replace cxB0 := kept hb cxB0
  replace cxB1 := kept hb cxB1
  replace hbel := hbel.trans (hb.mono hbel.size)
  clear hb
  have ha11 : Below v9.heap.size v9 (v9.alloc (.cells #[.int .i64 xAB, .slice t9A xAZ.length t9C] 31)) := (Below.refl _ _).alloc (by simp <;> omega) _
  replace cxA0 := kept ha11 cxA0
  replace cxA1 := kept ha11 cxA1
  replace cxB0 := kept ha11 cxB0
  replace cxB1 := kept ha11 cxB1
  replace ot9 := ot9.below ha11
  replace hbel := hbel.trans (ha11.mono hbel.size)
  clear ha11
  have cx00 : (v9.alloc (.cells #[.int .i64 xAB, .slice t9A xAZ.length t9C] 31)).cell? ⟨v9.heap.size, 0, none⟩ = some (.int .i64 xAB) := by go_simp
  have cx01 : (v9.alloc (.cells #[.int .i64 xAB, .slice t9A xAZ.length t9C] 31)).cell? ⟨v9.heap.size, 1, none⟩ = some (.slice t9A xAZ.length t9C) := by go_simp
  go_wp2_with fail
  obtain ⟨v10, hu⟩ : ∃ u, u = (v9.alloc (.cells #[.int .i64 xAB, .slice t9A xAZ.length t9C] 31)) := ⟨_, rfl⟩
  have s13 : Hid (v9.heap.size + 1 ≤ v10.heap.size) := Lib.hid (by rw [hu]; simp)
  rw [← hu] at cxA0 cxA1 cxB0 cxB1 cx00 cx01 ot9 hbel ⊢
  clear hu
  refine (toRegister_any xBB xBA xBC xBZ v10 (hxB.below hbel)).mono ?_
  rintro e v11 ⟨t12A, t12C, rfl, ot12, hb⟩
  have s14 : Hid (v10.heap.size ≤ v11.heap.size) := Lib.hid hb.size
  replace cxA0 := kept hb cxA0
  replace cxA1 := kept hb cxA1
  replace cxB0 := kept hb cxB0
  replace cxB1 := kept hb cxB1
  replace cx00 := kept hb cx00
  replace cx01 := kept hb cx01
  replace ot9 := ot9.below hb
  replace hbel := hbel.trans (hb.mono hbel.size)
  clear hb
  have ha15 : Below v11.heap.size v11 (v11.alloc (.cells #[.int .i64 xBB, .slice t12A xBZ.length t12C] 31)) := (Below.refl _ _).alloc (by simp <;> omega) _
  replace cxA0 := kept ha15 cxA0
  replace cxA1 := kept ha15 cxA1
  replace cxB0 := kept ha15 cxB0
  replace cxB1 := kept ha15 cxB1
  replace cx00 := kept ha15 cx00
  replace cx01 := kept ha15 cx01
  replace ot9 := ot9.below ha15
  replace ot12 := ot12.below ha15
  replace hbel := hbel.trans (ha15.mono hbel.size)
  clear ha15
  have cx10 : (v11.alloc (.cells #[.int .i64 xBB, .slice t12A xBZ.length t12C] 31)).cell? ⟨v11.heap.size, 0, none⟩ = some (.int .i64 xBB) := by go_simp
  have cx11 : (v11.alloc (.cells #[.int .i64 xBB, .slice t12A xBZ.length t12C] 31)).cell? ⟨v11.heap.size, 1, none⟩ = some (.slice t12A xBZ.length t12C) := by go_simp
  go_wp2_with fail
  obtain ⟨v12, hu⟩ : ∃ u, u = (v11.alloc (.cells #[.int .i64 xBB, .slice t12A xBZ.length t12C] 31)) := ⟨_, rfl⟩
  have s17 : Hid (v11.heap.size + 1 ≤ v12.heap.size) := Lib.hid (by rw [hu]; simp)
  rw [← hu] at cxA0 cxA1 cxB0 cxB1 cx00 cx01 cx10 cx11 ot9 ot12 hbel ⊢
  clear hu
  refine (toLeverFaultS_any xListA xListC xListZ v12 (hxList.below hbel)).mono ?_
  rintro e v13 ⟨t16A, t16C, rfl, ot16, hb⟩
  have s18 : Hid (v12.heap.size ≤ v13.heap.size) := Lib.hid hb.size
  replace cxA0 := kept hb cxA0
  replace cxA1 := kept hb cxA1
  replace cxB0 := kept hb cxB0
  replace cxB1 := kept hb cxB1
  replace cx00 := kept hb cx00
  replace cx01 := kept hb cx01
  replace cx10 := kept hb cx10
  replace cx11 := kept hb cx11
  replace ot9 := ot9.below hb
  replace ot12 := ot12.below hb
  replace hbel := hbel.trans (hb.mono hbel.size)
  clear hb
  go_wp2_with fail
  refine (implShowsFaults xAB t9A t9C xAZ xBB t12A t12C xBZ t16A t16C xListZ v13 ot9.rd zxA bxA ot12.rd zxB bxB ot16.rd zxList).mono ?_
  rintro e v14 ⟨rfl, hb⟩
  have s19 : Hid (v13.heap.size ≤ v14.heap.size) := Lib.hid hb.size
  replace cxA0 := kept hb cxA0
  replace cxA1 := kept hb cxA1
  replace cxB0 := kept hb cxB0
  replace cxB1 := kept hb cxB1
  replace cx00 := kept hb cx00
  replace cx01 := kept hb cx01
  replace cx10 := kept hb cx10
  replace cx11 := kept hb cx11
  replace ot9 := ot9.below hb
  replace ot12 := ot12.below hb
  replace ot16 := ot16.below hb
  replace hbel := hbel.trans (hb.mono hbel.size)
  clear hb
  have q20 : regEqB xAB xAB xAZ xAZ = true := regEqB_self _ _
  go_wp2_with fail
  have rcxA0 := kept_all cxA0
  have rcxA1 := kept_all cxA1
  have rcxB0 := kept_all cxB0
  have rcxB1 := kept_all cxB1
  have rcx00 := kept_all cx00
  have rcx01 := kept_all cx01
  have rcx10 := kept_all cx10
  have rcx11 := kept_all cx11
  go_region_held3 (fun w' => Below v14.heap.size v14 w') (first | exact hk | exact (Below.refl _ _).drew | exact hk.alloc hk.size _ | exact (hk.alloc hk.size _).setCell hk.size _)
    (first | (go_at_call 29; have qB := ‹Below v14.heap.size v14 _›; ((with_reducible refine (toRegister_any xAB xAA xAC xAZ _ (hxA.below (hbel.trans (qB.mono hbel.size)))).mono ?_)); rintro e v16 ⟨t21A, t21C, rfl, ot21, hb⟩; have hk := qB.trans (hb.mono qB.size)) | (go_at_call 31; have qB := ‹Below v14.heap.size v14 _›; refine (eqRegister_any xAB xAB t9A t21A t9C t21C xAZ xAZ _ (ot9.below qB).rd (by first | exact ot21.rd | exact (ot21.alloc _).rd)).mono ?_; rintro e v15 ⟨rfl, hb⟩; have hk := qB.trans (hb.mono qB.size)))
  have hb : Below v14.heap.size v14 v15 := by assumption
  clear rcxA0 rcxA1 rcxB0 rcxB1 rcx00 rcx01 rcx10 rcx11
  clear ot21
  have s22 : Hid (v14.heap.size ≤ v15.heap.size) := Lib.hid hb.size
  replace cxA0 := kept hb cxA0
  replace cxA1 := kept hb cxA1
  replace cxB0 := kept hb cxB0
  replace cxB1 := kept hb cxB1
  replace cx00 := kept hb cx00
  replace cx01 := kept hb cx01
  replace cx10 := kept hb cx10
  replace cx11 := kept hb cx11
  replace ot9 := ot9.below hb
  replace ot12 := ot12.below hb
  replace ot16 := ot16.below hb
  replace hbel := hbel.trans (hb.mono hbel.size)
  clear hb
  have q23 : regEqB xBB xBB xBZ xBZ = true := regEqB_self _ _
  go_wp2_with fail
  have rcxA0 := kept_all cxA0
  have rcxA1 := kept_all cxA1
  have rcxB0 := kept_all cxB0
  have rcxB1 := kept_all cxB1
  have rcx00 := kept_all cx00
  have rcx01 := kept_all cx01
  have rcx10 := kept_all cx10
  have rcx11 := kept_all cx11
  go_region_held3 (fun w' => Below v15.heap.size v15 w') (first | exact hk | exact (Below.refl _ _).drew | exact hk.alloc hk.size _ | exact (hk.alloc hk.size _).setCell hk.size _)
    (first | (go_at_call 29; have qB := ‹Below v15.heap.size v15 _›; ((with_reducible refine (toRegister_any xBB xBA xBC xBZ _ (hxB.below (hbel.trans (qB.mono hbel.size)))).mono ?_)); rintro e v18 ⟨t24A, t24C, rfl, ot24, hb⟩; have hk := qB.trans (hb.mono qB.size)) | (go_at_call 31; have qB := ‹Below v15.heap.size v15 _›; refine (eqRegister_any xBB xBB t12A t24A t12C t24C xBZ xBZ _ (ot12.below qB).rd (by first | exact ot24.rd | exact (ot24.alloc _).rd)).mono ?_; rintro e v17 ⟨rfl, hb⟩; have hk := qB.trans (hb.mono qB.size)))
  have hb : Below v15.heap.size v15 v17 := by assumption
  clear rcxA0 rcxA1 rcxB0 rcxB1 rcx00 rcx01 rcx10 rcx11
  clear ot24
  have s25 : Hid (v15.heap.size ≤ v17.heap.size) := Lib.hid hb.size
  replace cxA0 := kept hb cxA0
  replace cxA1 := kept hb cxA1
  replace cxB0 := kept hb cxB0
  replace cxB1 := kept hb cxB1
  replace cx00 := kept hb cx00
  replace cx01 := kept hb cx01
  replace cx10 := kept hb cx10
  replace cx11 := kept hb cx11
  replace ot9 := ot9.below hb
  replace ot12 := ot12.below hb
  replace ot16 := ot16.below hb
  replace hbel := hbel.trans (hb.mono hbel.size)
  clear hb
  have q26 : decide (xListZ = xListZ) = true := decide_eq_true rfl
  go_wp2_with fail
  refine (toLeverFaultS_any xListA xListC xListZ v17 (hxList.below hbel)).mono ?_
  rintro e v19 ⟨t27A, t27C, rfl, ot27, hb⟩
  have s28 : Hid (v17.heap.size ≤ v19.heap.size) := Lib.hid hb.size
  replace cxA0 := kept hb cxA0
  replace cxA1 := kept hb cxA1
  replace cxB0 := kept hb cxB0
  replace cxB1 := kept hb cxB1
  replace cx00 := kept hb cx00
  replace cx01 := kept hb cx01
  replace cx10 := kept hb cx10
  replace cx11 := kept hb cx11
  replace ot9 := ot9.below hb
  replace ot12 := ot12.below hb
  replace ot16 := ot16.below hb
  replace hbel := hbel.trans (hb.mono hbel.size)
  clear hb
  go_wp2_with fail
  refine (eqLeverFaultS_any t16A t27A t16C t27C xListZ xListZ v19 ot16.rd ot27.rd).mono ?_
  rintro e v20 ⟨rfl, hb⟩
  have s29 : Hid (v19.heap.size ≤ v20.heap.size) := Lib.hid hb.size
  replace cxA0 := kept hb cxA0
  replace cxA1 := kept hb cxA1
  replace cxB0 := kept hb cxB0
  replace cxB1 := kept hb cxB1
  replace cx00 := kept hb cx00
  replace cx01 := kept hb cx01
  replace cx10 := kept hb cx10
  replace cx11 := kept hb cx11
  replace ot9 := ot9.below hb
  replace ot12 := ot12.below hb
  replace ot16 := ot16.below hb
  replace ot27 := ot27.below hb
  replace hbel := hbel.trans (hb.mono hbel.size)
  clear hb
  clear ot27
  go_wp2
  go_ret
  exact ⟨rfl, hbel⟩

set_option maxRecDepth 100000 in
theorem lifted (os : Os) (started : os.Started) (H : Type) (enc : TypeId × Value → H) :
    ReturnsInHanded {} Try.checked os 6 .any (Rows.fnExactShowsFaultsSpec.pre6 enc Try.prog Try.f6 Rows.fnExactShowsFaultsRow.domain false) (Rows.fnExactShowsFaultsSpec.post enc Try.prog Try.f6 false true false false) := by
  refine returnsInHanded_of_change (C := Try.checked) own_knob started (by kernel_rfl) Try.func6
    (ChangeSpec.witness6 (enc := enc) (C := Try.checked) false ⟨#[], #[.agg #[.int .i64 0, .slice none 0 0], .agg #[.int .i64 0, .slice none 0 0], .slice none 0 0], []⟩ 8 (by kernel_rfl) (by kernel_rfl) (by kernel_rfl) (by kernel_rfl)) ?_
  intro W base args ds gs before hval0 hW hcnd _
  have hval : ∀ (j : Nat) t v, Try.f6.params[j]? = some t → args[j]? = some v → Value.okWide Try.prog W .any base t v := hval0
  have hW' := hW
  obtain ⟨p, q, hA0, hV, rfl, hfz, hnd⟩ := hW
  have hA : DataW.TrodAll enc Try.prog W 0 (fun _ => true) true Try.f6.params.toList args.toList ds p := hA0
  rw [Try.params6] at hA hval
  obtain ⟨v0, vs0, d0, ds0, p0, q0, hargs, rfl, rfl, h0, r0⟩ := trodAll_cons hA
  obtain ⟨v1, vs1, d1, ds1, p1, q1, rfl, rfl, rfl, h1, r1⟩ := trodAll_cons r0
  obtain ⟨v2, vs2, d2, ds2, p2, q2, rfl, rfl, rfl, h2, r2⟩ := trodAll_cons r1
  obtain ⟨rfl, rfl, rfl⟩ := trodAll_nil r2
  obtain rfl : args = #[v0, v1, v2] := by cases args; simp_all
  obtain ⟨rfl, rfl⟩ := trodVars_none hV
  have k0 := h0
  have lt0 : ∀ x ∈ p0, x.block < W.heap.size := by obtain ⟨m, hm⟩ := k0; exact DataW.trod_lt m _ _ _ hm
  obtain ⟨xAB, xAA, xAC, xAZ, rfl, hxA, bxA⟩ := open_Register (hval 0 47 v0 rfl rfl) h0
  have k1 := h1
  have lt1 : ∀ x ∈ p1, x.block < W.heap.size := by obtain ⟨m, hm⟩ := k1; exact DataW.trod_lt m _ _ _ hm
  obtain ⟨xBB, xBA, xBC, xBZ, rfl, hxB, bxB⟩ := open_Register (hval 1 47 v1 rfl rfl) h1
  have k2 := h2
  have lt2 : ∀ x ∈ p2, x.block < W.heap.size := by obtain ⟨m, hm⟩ := k2; exact DataW.trod_lt m _ _ _ hm
  obtain ⟨xListA, xListC, xListZ, rfl, hxList⟩ := open_LeverFaultS (hval 2 40 v2 rfl rfl) h2
  clear hA0 hval0
  refine (law_walk xAB xAA xAC xAZ xBB xBA xBC xBZ xListA xListC xListZ W hxA bxA hxB bxB hxList).mono fun e W' ⟨he, bel⟩ => ?_
  subst he
  exact ⟨_, rfl, _, _, _, [], _, [], hW', trodAll_mk1 (shut_bool Try.underlying4 _), (trodAll_cons_mk (Below.trod laid_out (by kernel_rfl) (of_decide_eq_true (by kernel_rfl)) k0 bel lt0) (trodAll_cons_mk (Below.trod laid_out (by kernel_rfl) (of_decide_eq_true (by kernel_rfl)) k1 bel lt1) (trodAll_cons_mk (Below.trod laid_out (by kernel_rfl) (of_decide_eq_true (by kernel_rfl)) k2 bel lt2) trodAll_mk0))), rfl, bel.frame _, fun h => by cases h⟩

set_option maxHeartbeats 20000000 in
theorem closed : joinedFacts Try.prog 6 Try.f6 Rows.fnExactShowsFaultsSpec Rows.fnExactShowsFaultsRow = true := by
  simp only [joinedFacts, Bool.and_eq_true]
  refine ⟨⟨⟨⟨⟨⟨⟨⟨⟨⟨⟨⟨⟨⟨⟨⟨⟨⟨⟨⟨⟨⟨⟨⟨⟨⟨⟨⟨⟨⟨⟨?_, laid_out⟩, fact_maps⟩, ?_⟩, ?_⟩, ?_⟩, fact_stops⟩, ?_⟩, fact_knobs⟩, ?_⟩, ?_⟩, ?_⟩, ?_⟩, ?_⟩, ?_⟩, ?_⟩, ?_⟩, ?_⟩, ?_⟩, ?_⟩, ?_⟩, ?_⟩, fact_plain⟩, ?_⟩, fact_heard⟩, fact_enter⟩, fact_lift⟩, ?_⟩, ?_⟩, ?_⟩, ?_⟩, ?_⟩
  all_goals (as_aux_lemma => kernel_rfl)

theorem over : Rows.fnExactShowsFaultsRow.holds Try.pinned (OpenSpec.ofChange Rows.fnExactShowsFaultsSpec) :=
  OpenClaim.holds_of_wide 6 Try.f6 rfl rfl rfl rfl rfl rfl rfl ⟨rfl, rfl, rfl, rfl, rfl⟩ rfl rfl rfl rfl rfl (by as_aux_lemma => kernel_rfl) Try.func6 closed
    (of_decide_eq_true (by as_aux_lemma => kernel_rfl)) (by unfold Func.isWrapper; rw [if_neg (by decide +kernel)]; exact ⟨rfl, rfl⟩)
    (fun os started H enc _ => lifted os started H enc)

/-- The statement. -/
theorem proved : Rows.FnExactShowsFaultsSaid := over
end Go.Proofs.Ytmdngcoccekdgaa.lawShowsFaults
