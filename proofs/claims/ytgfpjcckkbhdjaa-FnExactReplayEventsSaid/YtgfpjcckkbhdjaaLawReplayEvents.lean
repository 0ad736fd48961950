/-
  laws.FnExactReplayEvents returns true at every input (no condition), and leaves its arguments as they were.
-/
import Derived.Test.YtgfpjcckkbhdjaaReg
import Derived.Test.YtgfpjcckkbhdjaaBox
import Derived.Test.YtgfpjcckkbhdjaaFrame
import Derived.Test.YtgfpjcckkbhdjaaCarryEventS
import Derived.Test.YtgfpjcckkbhdjaaFrameE
import Derived.Test.YtgfpjcckkbhdjaaEvU
import Derived.Test.YtgfpjcckkbhdjaaLeaves
import Derived.Deep.RegionHeld3
import Derived.Test.YtgfpjcckkbhdjaaFacts
import Derived.Test.YtgfpjcckkbhdjaaRows
namespace Go.Proofs.Ytgfpjcckkbhdjaa.lawReplayEvents
open Go.ChangeShapes Go.WideShapes Go.ChangeAt Go.WideElems Go.RowKit Go.Joins
open Go.ChangeMaps (open_string shut_string)

set_option maxRecDepth 100000 in
set_option maxHeartbeats 20000000 in
theorem law_walk (xRB : Int) (xRA : Option Addr) (xRC : Nat) (xRZ : List Int) (xListA : Option Addr) (xListC : Nat) (xListZ : List (Int × Int × Int)) (w : World) (hxR : Raw w xRA xRZ) (bxR : I64 xRB) (hxList : RawF tripF (fun x => I64 x.1 ∧ I64 x.2.1 ∧ I64 x.2.2) w xListA xListZ) :
    Calls Try.prog 12 #[.agg #[.int .i64 xRB, .slice xRA xRZ.length xRC], .slice xListA xListZ.length xListC] w fun e w' => e = .returned (.bool true) ∧ Below w.heap.size w w' := by
  have hbel : Below w.heap.size w (w.alloc (.cells #[.int .i64 xRB, .slice xRA xRZ.length xRC] 97)) := (Below.refl _ _).alloc (by simp <;> omega) _
  have cxR0 : (w.alloc (.cells #[.int .i64 xRB, .slice xRA xRZ.length xRC] 97)).cell? ⟨w.heap.size, 0, none⟩ = some (.int .i64 xRB) := by go_simp
  have cxR1 : (w.alloc (.cells #[.int .i64 xRB, .slice xRA xRZ.length xRC] 97)).cell? ⟨w.heap.size, 1, none⟩ = some (.slice xRA xRZ.length xRC) := by go_simp
  go_enter Try.func12, Try.ntmps12
  go_wp2_with fail
  obtain ⟨v1, hu⟩ : ∃ u, u = (w.alloc (.cells #[.int .i64 xRB, .slice xRA xRZ.length xRC] 97)) := ⟨_, rfl⟩
  have s1 : Hid (w.heap.size + 1 ≤ v1.heap.size) := Lib.hid (by rw [hu]; simp)
  rw [← hu] at cxR0 cxR1 hbel ⊢
  clear hu
  rcases Int.lt_or_le (leftOf xRZ.length 1048576) 0 with k1 | k1
  · refine (szRegister_any xRB xRA xRZ.length xRC 1048576 v1 hxR.len (by omega) (by omega)).mono ?_
    rintro e v2 ⟨rfl, hb⟩
    go_wp2
    go_ret
    exact ⟨rfl, hbel.trans (hb.mono hbel.size)⟩
  have m1 := leftOf_le xRZ.length 1048576 (by omega)
  refine (szRegister_any xRB xRA xRZ.length xRC 1048576 v1 hxR.len (by omega) (by omega)).mono ?_
  rintro e v2 ⟨rfl, hb⟩
  have s2 : Hid (v1.heap.size ≤ v2.heap.size) := Lib.hid hb.size
  replace cxR0 := kept hb cxR0
  replace cxR1 := kept hb cxR1
  replace hbel := hbel.trans (hb.mono hbel.size)
  clear hb
  have zxR := hxR.wf
  replace hxR := hxR.rd (by have := leftOf_len k1; omega)
  go_wp2_with fail
  rcases Int.lt_or_le (leftOf xListZ.length (leftOf xRZ.length 1048576)) 0 with k2 | k2
  · refine (szCarryEventS_any xListA xListZ.length xListC (leftOf xRZ.length 1048576) v2 hxList.len (by omega) (by omega)).mono ?_
    rintro e v3 ⟨rfl, hb⟩
    subst hb
    go_wp2
    go_ret
    exact ⟨rfl, hbel⟩
  have m2 := leftOf_le xListZ.length (leftOf xRZ.length 1048576) (by omega)
  refine (szCarryEventS_any xListA xListZ.length xListC (leftOf xRZ.length 1048576) v2 hxList.len (by omega) (by omega)).mono ?_
  rintro e v3 ⟨rfl, hb⟩
  replace hb : Below v2.heap.size v2 v3 := by rw [← hb]; exact Below.refl _ _
  have s3 : Hid (v2.heap.size ≤ v3.heap.size) := Lib.hid hb.size
  replace cxR0 := kept hb cxR0
  replace cxR1 := kept hb cxR1
  replace hbel := hbel.trans (hb.mono hbel.size)
  clear hb
  have zxList : All3 xListZ := hxList.wf
  replace hxList := hxList.rd (by have := leftOf_len k2; omega)
  go_wp2_with fail
  refine (toRegister_any xRB xRA xRC xRZ v3 (hxR.below hbel)).mono ?_
  rintro e v4 ⟨t4A, t4C, rfl, ot4, hb⟩
  have s5 : Hid (v3.heap.size ≤ v4.heap.size) := Lib.hid hb.size
  replace cxR0 := kept hb cxR0
  replace cxR1 := kept hb cxR1
  replace hbel := hbel.trans (hb.mono hbel.size)
  clear hb
  go_wp2_with fail
  refine (toCarryEventS_any xListA xListC xListZ v4 (hxList.below hbel)).mono ?_
  rintro e v5 ⟨t6A, t6C, rfl, ot6, hb⟩
  have s7 : Hid (v4.heap.size ≤ v5.heap.size) := Lib.hid hb.size
  replace cxR0 := kept hb cxR0
  replace cxR1 := kept hb cxR1
  replace ot4 := ot4.below hb
  replace hbel := hbel.trans (hb.mono hbel.size)
  clear hb
  go_wp2_with fail
  refine (specReplayEvents xRB t4A t4C xRZ t6A t6C xListZ v5 ot4.rd zxR bxR ot6.rd zxList).mono ?_
  rintro e v6 ⟨w0A, w0C, rfl, ow0, hb⟩
  have s8 : Hid (v5.heap.size ≤ v6.heap.size) := Lib.hid hb.size
  replace cxR0 := kept hb cxR0
  replace cxR1 := kept hb cxR1
  replace ot4 := ot4.below hb
  replace ot6 := ot6.below hb
  replace hbel := hbel.trans (hb.mono hbel.size)
  clear hb
  clear ot4
  clear ot6
  have ha9 : Below v6.heap.size v6 (v6.alloc (.cells #[.int .i64 (rpeR xRB xRZ xListZ).1, .slice w0A (rpeR xRB xRZ xListZ).2.1.length w0C] 26)) := (Below.refl _ _).alloc (by simp <;> omega) _
  replace cxR0 := kept ha9 cxR0
  replace cxR1 := kept ha9 cxR1
  replace ow0 := ow0.below ha9
  replace hbel := hbel.trans (ha9.mono hbel.size)
  clear ha9
  have cw00 : (v6.alloc (.cells #[.int .i64 (rpeR xRB xRZ xListZ).1, .slice w0A (rpeR xRB xRZ xListZ).2.1.length w0C] 26)).cell? ⟨v6.heap.size, 0, none⟩ = some (.int .i64 (rpeR xRB xRZ xListZ).1) := by go_simp
  have cw01 : (v6.alloc (.cells #[.int .i64 (rpeR xRB xRZ xListZ).1, .slice w0A (rpeR xRB xRZ xListZ).2.1.length w0C] 26)).cell? ⟨v6.heap.size, 1, none⟩ = some (.slice w0A (rpeR xRB xRZ xListZ).2.1.length w0C) := by go_simp
  go_wp2_with fail
  obtain ⟨v7, hu⟩ : ∃ u, u = (v6.alloc (.cells #[.int .i64 (rpeR xRB xRZ xListZ).1, .slice w0A (rpeR xRB xRZ xListZ).2.1.length w0C] 26)) := ⟨_, rfl⟩
  have s11 : Hid (v6.heap.size + 1 ≤ v7.heap.size) := Lib.hid (by rw [hu]; simp)
  rw [← hu] at cxR0 cxR1 cw00 cw01 ow0 hbel ⊢
  clear hu
  refine (toRegister_any xRB xRA xRC xRZ v7 (hxR.below hbel)).mono ?_
  rintro e v8 ⟨t10A, t10C, rfl, ot10, hb⟩
  have s12 : Hid (v7.heap.size ≤ v8.heap.size) := Lib.hid hb.size
  replace cxR0 := kept hb cxR0
  replace cxR1 := kept hb cxR1
  replace cw00 := kept hb cw00
  replace cw01 := kept hb cw01
  replace ow0 := ow0.below hb
  replace hbel := hbel.trans (hb.mono hbel.size)
  clear hb
  have ha13 : Below v8.heap.size v8 (v8.alloc (.cells #[.int .i64 xRB, .slice t10A xRZ.length t10C] 26)) := (Below.refl _ _).alloc (by simp <;> omega) _
  replace cxR0 := kept ha13 cxR0
  replace cxR1 := kept ha13 cxR1
  replace cw00 := kept ha13 cw00
  replace cw01 := kept ha13 cw01
  replace ow0 := ow0.below ha13
  replace ot10 := ot10.below ha13
  replace hbel := hbel.trans (ha13.mono hbel.size)
  clear ha13
  have cx00 : (v8.alloc (.cells #[.int .i64 xRB, .slice t10A xRZ.length t10C] 26)).cell? ⟨v8.heap.size, 0, none⟩ = some (.int .i64 xRB) := by go_simp
  have cx01 : (v8.alloc (.cells #[.int .i64 xRB, .slice t10A xRZ.length t10C] 26)).cell? ⟨v8.heap.size, 1, none⟩ = some (.slice t10A xRZ.length t10C) := by go_simp
  go_wp2_with fail
  obtain ⟨v9, hu⟩ : ∃ u, u = (v8.alloc (.cells #[.int .i64 xRB, .slice t10A xRZ.length t10C] 26)) := ⟨_, rfl⟩
  have s15 : Hid (v8.heap.size + 1 ≤ v9.heap.size) := Lib.hid (by rw [hu]; simp)
  rw [← hu] at cxR0 cxR1 cw00 cw01 cx00 cx01 ow0 ot10 hbel ⊢
  clear hu
  refine (toCarryEventS_any xListA xListC xListZ v9 (hxList.below hbel)).mono ?_
  rintro e v10 ⟨t14A, t14C, rfl, ot14, hb⟩
  have s16 : Hid (v9.heap.size ≤ v10.heap.size) := Lib.hid hb.size
  replace cxR0 := kept hb cxR0
  replace cxR1 := kept hb cxR1
  replace cw00 := kept hb cw00
  replace cw01 := kept hb cw01
  replace cx00 := kept hb cx00
  replace cx01 := kept hb cx01
  replace ow0 := ow0.below hb
  replace ot10 := ot10.below hb
  replace hbel := hbel.trans (hb.mono hbel.size)
  clear hb
  go_wp2_with fail
  refine (implReplayEvents xRB t10A t10C xRZ t14A t14C xListZ v10 ot10.rd zxR bxR ot14.rd zxList).mono ?_
  rintro e v11 ⟨g0A, g0C, rfl, og0, hb⟩
  have s17 : Hid (v10.heap.size ≤ v11.heap.size) := Lib.hid hb.size
  replace cxR0 := kept hb cxR0
  replace cxR1 := kept hb cxR1
  replace cw00 := kept hb cw00
  replace cw01 := kept hb cw01
  replace cx00 := kept hb cx00
  replace cx01 := kept hb cx01
  replace ow0 := ow0.below hb
  replace ot10 := ot10.below hb
  replace ot14 := ot14.below hb
  replace hbel := hbel.trans (hb.mono hbel.size)
  clear hb
  have ha18 : Below v11.heap.size v11 (v11.alloc (.cells #[.int .i64 (rpeR xRB xRZ xListZ).1, .slice g0A (rpeR xRB xRZ xListZ).2.1.length g0C] 26)) := (Below.refl _ _).alloc (by simp <;> omega) _
  replace cxR0 := kept ha18 cxR0
  replace cxR1 := kept ha18 cxR1
  replace cw00 := kept ha18 cw00
  replace cw01 := kept ha18 cw01
  replace cx00 := kept ha18 cx00
  replace cx01 := kept ha18 cx01
  replace ow0 := ow0.below ha18
  replace ot10 := ot10.below ha18
  replace ot14 := ot14.below ha18
  replace og0 := og0.below ha18
  replace hbel := hbel.trans (ha18.mono hbel.size)
  clear ha18
  have cg00 : (v11.alloc (.cells #[.int .i64 (rpeR xRB xRZ xListZ).1, .slice g0A (rpeR xRB xRZ xListZ).2.1.length g0C] 26)).cell? ⟨v11.heap.size, 0, none⟩ = some (.int .i64 (rpeR xRB xRZ xListZ).1) := by go_simp
  have cg01 : (v11.alloc (.cells #[.int .i64 (rpeR xRB xRZ xListZ).1, .slice g0A (rpeR xRB xRZ xListZ).2.1.length g0C] 26)).cell? ⟨v11.heap.size, 1, none⟩ = some (.slice g0A (rpeR xRB xRZ xListZ).2.1.length g0C) := by go_simp
  have q19 : regEqB (rpeR xRB xRZ xListZ).1 (rpeR xRB xRZ xListZ).1 (rpeR xRB xRZ xListZ).2.1 (rpeR xRB xRZ xListZ).2.1 = true := regEqB_self _ _
  go_wp2_with fail
  obtain ⟨v12, hu⟩ : ∃ u, u = (v11.alloc (.cells #[.int .i64 (rpeR xRB xRZ xListZ).1, .slice g0A (rpeR xRB xRZ xListZ).2.1.length g0C] 26)) := ⟨_, rfl⟩
  have s20 : Hid (v11.heap.size + 1 ≤ v12.heap.size) := Lib.hid (by rw [hu]; simp)
  rw [← hu] at cxR0 cxR1 cw00 cw01 cx00 cx01 cg00 cg01 ow0 ot10 ot14 og0 hbel ⊢
  clear hu
  refine (eqRegister_any (rpeR xRB xRZ xListZ).1 (rpeR xRB xRZ xListZ).1 g0A w0A g0C w0C (rpeR xRB xRZ xListZ).2.1 (rpeR xRB xRZ xListZ).2.1 v12 og0.rd ow0.rd).mono ?_
  rintro e v13 ⟨rfl, hb⟩
  have s21 : Hid (v12.heap.size ≤ v13.heap.size) := Lib.hid hb.size
  replace cxR0 := kept hb cxR0
  replace cxR1 := kept hb cxR1
  replace cw00 := kept hb cw00
  replace cw01 := kept hb cw01
  replace cx00 := kept hb cx00
  replace cx01 := kept hb cx01
  replace cg00 := kept hb cg00
  replace cg01 := kept hb cg01
  replace ow0 := ow0.below hb
  replace ot10 := ot10.below hb
  replace ot14 := ot14.below hb
  replace og0 := og0.below hb
  replace hbel := hbel.trans (hb.mono hbel.size)
  clear hb
  have q22 : regEqB xRB xRB xRZ xRZ = true := regEqB_self _ _
  go_wp2_with fail
  have rcxR0 := kept_all cxR0
  have rcxR1 := kept_all cxR1
  have rcw00 := kept_all cw00
  have rcw01 := kept_all cw01
  have rcx00 := kept_all cx00
  have rcx01 := kept_all cx01
  have rcg00 := kept_all cg00
  have rcg01 := kept_all cg01
  go_region_held3 (fun w' => Below v13.heap.size v13 w') (first | exact hk | exact (Below.refl _ _).drew | exact hk.alloc hk.size _ | exact (hk.alloc hk.size _).setCell hk.size _)
    (first | (go_at_call 78; have qB := ‹Below v13.heap.size v13 _›; ((with_reducible refine (toRegister_any xRB xRA xRC xRZ _ (hxR.below (hbel.trans (qB.mono hbel.size)))).mono ?_)); rintro e v15 ⟨t23A, t23C, rfl, ot23, hb⟩; have hk := qB.trans (hb.mono qB.size)) | (go_at_call 79; have qB := ‹Below v13.heap.size v13 _›; refine (eqRegister_any xRB xRB t10A t23A t10C t23C xRZ xRZ _ (ot10.below qB).rd (by first | exact ot23.rd | exact (ot23.alloc _).rd)).mono ?_; rintro e v14 ⟨rfl, hb⟩; have hk := qB.trans (hb.mono qB.size)))
  have hb : Below v13.heap.size v13 v14 := by assumption
  clear rcxR0 rcxR1 rcw00 rcw01 rcx00 rcx01 rcg00 rcg01
  clear ot23
  have s24 : Hid (v13.heap.size ≤ v14.heap.size) := Lib.hid hb.size
  replace cxR0 := kept hb cxR0
  replace cxR1 := kept hb cxR1
  replace cw00 := kept hb cw00
  replace cw01 := kept hb cw01
  replace cx00 := kept hb cx00
  replace cx01 := kept hb cx01
  replace cg00 := kept hb cg00
  replace cg01 := kept hb cg01
  replace ow0 := ow0.below hb
  replace ot10 := ot10.below hb
  replace ot14 := ot14.below hb
  replace og0 := og0.below hb
  replace hbel := hbel.trans (hb.mono hbel.size)
  clear hb
  have q25 : decide (xListZ = xListZ) = true := decide_eq_true rfl
  go_wp2_with fail
  refine (toCarryEventS_any xListA xListC xListZ v14 (hxList.below hbel)).mono ?_
  rintro e v16 ⟨t26A, t26C, rfl, ot26, hb⟩
  have s27 : Hid (v14.heap.size ≤ v16.heap.size) := Lib.hid hb.size
  replace cxR0 := kept hb cxR0
  replace cxR1 := kept hb cxR1
  replace cw00 := kept hb cw00
  replace cw01 := kept hb cw01
  replace cx00 := kept hb cx00
  replace cx01 := kept hb cx01
  replace cg00 := kept hb cg00
  replace cg01 := kept hb cg01
  replace ow0 := ow0.below hb
  replace ot10 := ot10.below hb
  replace ot14 := ot14.below hb
  replace og0 := og0.below hb
  replace hbel := hbel.trans (hb.mono hbel.size)
  clear hb
  go_wp2_with fail
  refine (eqCarryEventS_any t14A t26A t14C t26C xListZ xListZ v16 ot14.rd ot26.rd).mono ?_
  rintro e v17 ⟨rfl, hb⟩
  have s28 : Hid (v16.heap.size ≤ v17.heap.size) := Lib.hid hb.size
  replace cxR0 := kept hb cxR0
  replace cxR1 := kept hb cxR1
  replace cw00 := kept hb cw00
  replace cw01 := kept hb cw01
  replace cx00 := kept hb cx00
  replace cx01 := kept hb cx01
  replace cg00 := kept hb cg00
  replace cg01 := kept hb cg01
  replace ow0 := ow0.below hb
  replace ot10 := ot10.below hb
  replace ot14 := ot14.below hb
  replace og0 := og0.below hb
  replace ot26 := ot26.below hb
  replace hbel := hbel.trans (hb.mono hbel.size)
  clear hb
  clear ot26
  go_wp2_with fail
  refine (markRegister_any _ _ _ xRB t10A t10C 1 xRZ v17 ot10 (by have := ow0.len; have := ot10.len; have := ot14.len; have := og0.len; have := hxR.len; have := hxList.len; omega) (by have := ow0.len; have := ot10.len; have := ot14.len; have := og0.len; have := hxR.len; have := hxList.len; omega)).mono ?_
  rintro e v18 ⟨rfl, om, ht⟩
  have s29 : Hid (v17.heap.size ≤ v18.heap.size) := Lib.hid ht.size
  clear ot10
  have ot10 := om
  clear om
  replace cxR0 := keptT ht cxR0 (by have := s1.out; have := s2.out; have := s3.out; have := s5.out; have := s7.out; have := s8.out; have := s11.out; have := s12.out; have := s15.out; have := s16.out; have := s17.out; have := s20.out; have := s21.out; have := s24.out; have := s27.out; have := s28.out; have := s29.out; omega)
  replace cxR1 := keptT ht cxR1 (by have := s1.out; have := s2.out; have := s3.out; have := s5.out; have := s7.out; have := s8.out; have := s11.out; have := s12.out; have := s15.out; have := s16.out; have := s17.out; have := s20.out; have := s21.out; have := s24.out; have := s27.out; have := s28.out; have := s29.out; omega)
  replace cw00 := keptT ht cw00 (by have := s1.out; have := s2.out; have := s3.out; have := s5.out; have := s7.out; have := s8.out; have := s11.out; have := s12.out; have := s15.out; have := s16.out; have := s17.out; have := s20.out; have := s21.out; have := s24.out; have := s27.out; have := s28.out; have := s29.out; omega)
  replace cw01 := keptT ht cw01 (by have := s1.out; have := s2.out; have := s3.out; have := s5.out; have := s7.out; have := s8.out; have := s11.out; have := s12.out; have := s15.out; have := s16.out; have := s17.out; have := s20.out; have := s21.out; have := s24.out; have := s27.out; have := s28.out; have := s29.out; omega)
  replace cx00 := keptT ht cx00 (by have := s1.out; have := s2.out; have := s3.out; have := s5.out; have := s7.out; have := s8.out; have := s11.out; have := s12.out; have := s15.out; have := s16.out; have := s17.out; have := s20.out; have := s21.out; have := s24.out; have := s27.out; have := s28.out; have := s29.out; omega)
  replace cx01 := keptT ht cx01 (by have := s1.out; have := s2.out; have := s3.out; have := s5.out; have := s7.out; have := s8.out; have := s11.out; have := s12.out; have := s15.out; have := s16.out; have := s17.out; have := s20.out; have := s21.out; have := s24.out; have := s27.out; have := s28.out; have := s29.out; omega)
  replace cg00 := keptT ht cg00 (by have := s1.out; have := s2.out; have := s3.out; have := s5.out; have := s7.out; have := s8.out; have := s11.out; have := s12.out; have := s15.out; have := s16.out; have := s17.out; have := s20.out; have := s21.out; have := s24.out; have := s27.out; have := s28.out; have := s29.out; omega)
  replace cg01 := keptT ht cg01 (by have := s1.out; have := s2.out; have := s3.out; have := s5.out; have := s7.out; have := s8.out; have := s11.out; have := s12.out; have := s15.out; have := s16.out; have := s17.out; have := s20.out; have := s21.out; have := s24.out; have := s27.out; have := s28.out; have := s29.out; omega)
  replace ow0 := ow0.touch ht (by have := s1.out; have := s2.out; have := s3.out; have := s5.out; have := s7.out; have := s8.out; have := s11.out; have := s12.out; have := s15.out; have := s16.out; have := s17.out; have := s20.out; have := s21.out; have := s24.out; have := s27.out; have := s28.out; have := s29.out; omega)
  replace ot14 := ot14.touch ht (by have := s1.out; have := s2.out; have := s3.out; have := s5.out; have := s7.out; have := s8.out; have := s11.out; have := s12.out; have := s15.out; have := s16.out; have := s17.out; have := s20.out; have := s21.out; have := s24.out; have := s27.out; have := s28.out; have := s29.out; omega)
  replace og0 := og0.touch ht (by have := s1.out; have := s2.out; have := s3.out; have := s5.out; have := s7.out; have := s8.out; have := s11.out; have := s12.out; have := s15.out; have := s16.out; have := s17.out; have := s20.out; have := s21.out; have := s24.out; have := s27.out; have := s28.out; have := s29.out; omega)
  replace hbel := hbel.trans (ht.below (by have := s1.out; have := s2.out; have := s3.out; have := s5.out; have := s7.out; have := s8.out; have := s11.out; have := s12.out; have := s15.out; have := s16.out; have := s17.out; have := s20.out; have := s21.out; have := s24.out; have := s27.out; have := s28.out; have := s29.out; omega) hbel.size)
  clear ht
  go_wp2_with fail
  refine (markCarryEventS_any _ _ _ t14A t14C (1 + (xRZ.length : Int)) xListZ v18 ot14 (by have := ow0.len; have := ot10.len; have := ot14.len; have := og0.len; have := hxR.len; have := hxList.len; omega) (by have := ow0.len; have := ot10.len; have := ot14.len; have := og0.len; have := hxR.len; have := hxList.len; omega)).mono ?_
  rintro e v19 ⟨rfl, om, ht⟩
  have s30 : Hid (v18.heap.size ≤ v19.heap.size) := Lib.hid ht.size
  clear ot14
  have ot14 := om
  clear om
  replace cxR0 := keptT ht cxR0 (by have := s1.out; have := s2.out; have := s3.out; have := s5.out; have := s7.out; have := s8.out; have := s11.out; have := s12.out; have := s15.out; have := s16.out; have := s17.out; have := s20.out; have := s21.out; have := s24.out; have := s27.out; have := s28.out; have := s29.out; have := s30.out; omega)
  replace cxR1 := keptT ht cxR1 (by have := s1.out; have := s2.out; have := s3.out; have := s5.out; have := s7.out; have := s8.out; have := s11.out; have := s12.out; have := s15.out; have := s16.out; have := s17.out; have := s20.out; have := s21.out; have := s24.out; have := s27.out; have := s28.out; have := s29.out; have := s30.out; omega)
  replace cw00 := keptT ht cw00 (by have := s1.out; have := s2.out; have := s3.out; have := s5.out; have := s7.out; have := s8.out; have := s11.out; have := s12.out; have := s15.out; have := s16.out; have := s17.out; have := s20.out; have := s21.out; have := s24.out; have := s27.out; have := s28.out; have := s29.out; have := s30.out; omega)
  replace cw01 := keptT ht cw01 (by have := s1.out; have := s2.out; have := s3.out; have := s5.out; have := s7.out; have := s8.out; have := s11.out; have := s12.out; have := s15.out; have := s16.out; have := s17.out; have := s20.out; have := s21.out; have := s24.out; have := s27.out; have := s28.out; have := s29.out; have := s30.out; omega)
  replace cx00 := keptT ht cx00 (by have := s1.out; have := s2.out; have := s3.out; have := s5.out; have := s7.out; have := s8.out; have := s11.out; have := s12.out; have := s15.out; have := s16.out; have := s17.out; have := s20.out; have := s21.out; have := s24.out; have := s27.out; have := s28.out; have := s29.out; have := s30.out; omega)
  replace cx01 := keptT ht cx01 (by have := s1.out; have := s2.out; have := s3.out; have := s5.out; have := s7.out; have := s8.out; have := s11.out; have := s12.out; have := s15.out; have := s16.out; have := s17.out; have := s20.out; have := s21.out; have := s24.out; have := s27.out; have := s28.out; have := s29.out; have := s30.out; omega)
  replace cg00 := keptT ht cg00 (by have := s1.out; have := s2.out; have := s3.out; have := s5.out; have := s7.out; have := s8.out; have := s11.out; have := s12.out; have := s15.out; have := s16.out; have := s17.out; have := s20.out; have := s21.out; have := s24.out; have := s27.out; have := s28.out; have := s29.out; have := s30.out; omega)
  replace cg01 := keptT ht cg01 (by have := s1.out; have := s2.out; have := s3.out; have := s5.out; have := s7.out; have := s8.out; have := s11.out; have := s12.out; have := s15.out; have := s16.out; have := s17.out; have := s20.out; have := s21.out; have := s24.out; have := s27.out; have := s28.out; have := s29.out; have := s30.out; omega)
  replace ow0 := ow0.touch ht (by have := s1.out; have := s2.out; have := s3.out; have := s5.out; have := s7.out; have := s8.out; have := s11.out; have := s12.out; have := s15.out; have := s16.out; have := s17.out; have := s20.out; have := s21.out; have := s24.out; have := s27.out; have := s28.out; have := s29.out; have := s30.out; omega)
  replace ot10 := ot10.touch ht (by have := s1.out; have := s2.out; have := s3.out; have := s5.out; have := s7.out; have := s8.out; have := s11.out; have := s12.out; have := s15.out; have := s16.out; have := s17.out; have := s20.out; have := s21.out; have := s24.out; have := s27.out; have := s28.out; have := s29.out; have := s30.out; omega)
  replace og0 := og0.touch ht (by have := s1.out; have := s2.out; have := s3.out; have := s5.out; have := s7.out; have := s8.out; have := s11.out; have := s12.out; have := s15.out; have := s16.out; have := s17.out; have := s20.out; have := s21.out; have := s24.out; have := s27.out; have := s28.out; have := s29.out; have := s30.out; omega)
  replace hbel := hbel.trans (ht.below (by have := s1.out; have := s2.out; have := s3.out; have := s5.out; have := s7.out; have := s8.out; have := s11.out; have := s12.out; have := s15.out; have := s16.out; have := s17.out; have := s20.out; have := s21.out; have := s24.out; have := s27.out; have := s28.out; have := s29.out; have := s30.out; omega) hbel.size)
  clear ht
  have q31 : regEqB (rpeR xRB xRZ xListZ).1 (rpeR xRB xRZ xListZ).1 (rpeR xRB xRZ xListZ).2.1 (rpeR xRB xRZ xListZ).2.1 = true := regEqB_self _ _
  go_wp2_with fail
  refine (eqRegister_any (rpeR xRB xRZ xListZ).1 (rpeR xRB xRZ xListZ).1 g0A w0A g0C w0C (rpeR xRB xRZ xListZ).2.1 (rpeR xRB xRZ xListZ).2.1 v19 og0.rd ow0.rd).mono ?_
  rintro e v20 ⟨rfl, hb⟩
  have s32 : Hid (v19.heap.size ≤ v20.heap.size) := Lib.hid hb.size
  replace cxR0 := kept hb cxR0
  replace cxR1 := kept hb cxR1
  replace cw00 := kept hb cw00
  replace cw01 := kept hb cw01
  replace cx00 := kept hb cx00
  replace cx01 := kept hb cx01
  replace cg00 := kept hb cg00
  replace cg01 := kept hb cg01
  replace ow0 := ow0.below hb
  replace ot10 := ot10.below hb
  replace ot14 := ot14.below hb
  replace og0 := og0.below hb
  replace hbel := hbel.trans (hb.mono hbel.size)
  clear hb
  go_wp2_with fail
  refine (markRegister_any _ _ _ (rpeR xRB xRZ xListZ).1 g0A g0C 1 (rpeR xRB xRZ xListZ).2.1 v20 og0 (by have := ow0.len; have := ot10.len; have := ot14.len; have := og0.len; have := hxR.len; have := hxList.len; omega) (by have := ow0.len; have := ot10.len; have := ot14.len; have := og0.len; have := hxR.len; have := hxList.len; omega)).mono ?_
  rintro e v21 ⟨rfl, om, ht⟩
  have s33 : Hid (v20.heap.size ≤ v21.heap.size) := Lib.hid ht.size
  clear og0
  have og0 := om
  clear om
  replace cxR0 := keptT ht cxR0 (by have := s1.out; have := s2.out; have := s3.out; have := s5.out; have := s7.out; have := s8.out; have := s11.out; have := s12.out; have := s15.out; have := s16.out; have := s17.out; have := s20.out; have := s21.out; have := s24.out; have := s27.out; have := s28.out; have := s29.out; have := s30.out; have := s32.out; have := s33.out; omega)
  replace cxR1 := keptT ht cxR1 (by have := s1.out; have := s2.out; have := s3.out; have := s5.out; have := s7.out; have := s8.out; have := s11.out; have := s12.out; have := s15.out; have := s16.out; have := s17.out; have := s20.out; have := s21.out; have := s24.out; have := s27.out; have := s28.out; have := s29.out; have := s30.out; have := s32.out; have := s33.out; omega)
  replace cw00 := keptT ht cw00 (by have := s1.out; have := s2.out; have := s3.out; have := s5.out; have := s7.out; have := s8.out; have := s11.out; have := s12.out; have := s15.out; have := s16.out; have := s17.out; have := s20.out; have := s21.out; have := s24.out; have := s27.out; have := s28.out; have := s29.out; have := s30.out; have := s32.out; have := s33.out; omega)
  replace cw01 := keptT ht cw01 (by have := s1.out; have := s2.out; have := s3.out; have := s5.out; have := s7.out; have := s8.out; have := s11.out; have := s12.out; have := s15.out; have := s16.out; have := s17.out; have := s20.out; have := s21.out; have := s24.out; have := s27.out; have := s28.out; have := s29.out; have := s30.out; have := s32.out; have := s33.out; omega)
  replace cx00 := keptT ht cx00 (by have := s1.out; have := s2.out; have := s3.out; have := s5.out; have := s7.out; have := s8.out; have := s11.out; have := s12.out; have := s15.out; have := s16.out; have := s17.out; have := s20.out; have := s21.out; have := s24.out; have := s27.out; have := s28.out; have := s29.out; have := s30.out; have := s32.out; have := s33.out; omega)
  replace cx01 := keptT ht cx01 (by have := s1.out; have := s2.out; have := s3.out; have := s5.out; have := s7.out; have := s8.out; have := s11.out; have := s12.out; have := s15.out; have := s16.out; have := s17.out; have := s20.out; have := s21.out; have := s24.out; have := s27.out; have := s28.out; have := s29.out; have := s30.out; have := s32.out; have := s33.out; omega)
  replace cg00 := keptT ht cg00 (by have := s1.out; have := s2.out; have := s3.out; have := s5.out; have := s7.out; have := s8.out; have := s11.out; have := s12.out; have := s15.out; have := s16.out; have := s17.out; have := s20.out; have := s21.out; have := s24.out; have := s27.out; have := s28.out; have := s29.out; have := s30.out; have := s32.out; have := s33.out; omega)
  replace cg01 := keptT ht cg01 (by have := s1.out; have := s2.out; have := s3.out; have := s5.out; have := s7.out; have := s8.out; have := s11.out; have := s12.out; have := s15.out; have := s16.out; have := s17.out; have := s20.out; have := s21.out; have := s24.out; have := s27.out; have := s28.out; have := s29.out; have := s30.out; have := s32.out; have := s33.out; omega)
  replace ow0 := ow0.touch ht (by have := s1.out; have := s2.out; have := s3.out; have := s5.out; have := s7.out; have := s8.out; have := s11.out; have := s12.out; have := s15.out; have := s16.out; have := s17.out; have := s20.out; have := s21.out; have := s24.out; have := s27.out; have := s28.out; have := s29.out; have := s30.out; have := s32.out; have := s33.out; omega)
  replace ot10 := ot10.touch ht (by have := s1.out; have := s2.out; have := s3.out; have := s5.out; have := s7.out; have := s8.out; have := s11.out; have := s12.out; have := s15.out; have := s16.out; have := s17.out; have := s20.out; have := s21.out; have := s24.out; have := s27.out; have := s28.out; have := s29.out; have := s30.out; have := s32.out; have := s33.out; omega)
  replace ot14 := ot14.touch ht (by have := s1.out; have := s2.out; have := s3.out; have := s5.out; have := s7.out; have := s8.out; have := s11.out; have := s12.out; have := s15.out; have := s16.out; have := s17.out; have := s20.out; have := s21.out; have := s24.out; have := s27.out; have := s28.out; have := s29.out; have := s30.out; have := s32.out; have := s33.out; omega)
  replace hbel := hbel.trans (ht.below (by have := s1.out; have := s2.out; have := s3.out; have := s5.out; have := s7.out; have := s8.out; have := s11.out; have := s12.out; have := s15.out; have := s16.out; have := s17.out; have := s20.out; have := s21.out; have := s24.out; have := s27.out; have := s28.out; have := s29.out; have := s30.out; have := s32.out; have := s33.out; omega) hbel.size)
  clear ht
  go_wp2_with fail
  refine (heldRegister_any (rpeR xRB xRZ xListZ).1 g0A g0C 1 (rpeR xRB xRZ xListZ).2.1.length v21 og0.rd (by have := ow0.len; have := ot10.len; have := ot14.len; have := og0.len; have := hxR.len; have := hxList.len; omega) (by have := ow0.len; have := ot10.len; have := ot14.len; have := og0.len; have := hxR.len; have := hxList.len; omega)).mono ?_
  rintro e v22 ⟨rfl, hb⟩
  have s34 : Hid (v21.heap.size ≤ v22.heap.size) := Lib.hid hb.size
  replace cxR0 := kept hb cxR0
  replace cxR1 := kept hb cxR1
  replace cw00 := kept hb cw00
  replace cw01 := kept hb cw01
  replace cx00 := kept hb cx00
  replace cx01 := kept hb cx01
  replace cg00 := kept hb cg00
  replace cg01 := kept hb cg01
  replace ow0 := ow0.below hb
  replace ot10 := ot10.below hb
  replace ot14 := ot14.below hb
  replace og0 := og0.below hb
  replace hbel := hbel.trans (hb.mono hbel.size)
  clear hb
  go_wp2_with fail
  refine (toRegister_any xRB xRA xRC xRZ v22 (hxR.below hbel)).mono ?_
  rintro e v23 ⟨t35A, t35C, rfl, ot35, hb⟩
  have s36 : Hid (v22.heap.size ≤ v23.heap.size) := Lib.hid hb.size
  replace cxR0 := kept hb cxR0
  replace cxR1 := kept hb cxR1
  replace cw00 := kept hb cw00
  replace cw01 := kept hb cw01
  replace cx00 := kept hb cx00
  replace cx01 := kept hb cx01
  replace cg00 := kept hb cg00
  replace cg01 := kept hb cg01
  replace ow0 := ow0.below hb
  replace ot10 := ot10.below hb
  replace ot14 := ot14.below hb
  replace og0 := og0.below hb
  replace hbel := hbel.trans (hb.mono hbel.size)
  clear hb
  go_wp2_with fail
  refine (toCarryEventS_any xListA xListC xListZ v23 (hxList.below hbel)).mono ?_
  rintro e v24 ⟨t37A, t37C, rfl, ot37, hb⟩
  have s38 : Hid (v23.heap.size ≤ v24.heap.size) := Lib.hid hb.size
  replace cxR0 := kept hb cxR0
  replace cxR1 := kept hb cxR1
  replace cw00 := kept hb cw00
  replace cw01 := kept hb cw01
  replace cx00 := kept hb cx00
  replace cx01 := kept hb cx01
  replace cg00 := kept hb cg00
  replace cg01 := kept hb cg01
  replace ow0 := ow0.below hb
  replace ot10 := ot10.below hb
  replace ot14 := ot14.below hb
  replace og0 := og0.below hb
  replace ot35 := ot35.below hb
  replace hbel := hbel.trans (hb.mono hbel.size)
  clear hb
  go_wp2_with fail
  refine (implReplayEvents xRB t35A t35C xRZ t37A t37C xListZ v24 ot35.rd zxR bxR ot37.rd zxList).mono ?_
  rintro e v25 ⟨h0A, h0C, rfl, oh0, hb⟩
  have s39 : Hid (v24.heap.size ≤ v25.heap.size) := Lib.hid hb.size
  replace cxR0 := kept hb cxR0
  replace cxR1 := kept hb cxR1
  replace cw00 := kept hb cw00
  replace cw01 := kept hb cw01
  replace cx00 := kept hb cx00
  replace cx01 := kept hb cx01
  replace cg00 := kept hb cg00
  replace cg01 := kept hb cg01
  replace ow0 := ow0.below hb
  replace ot10 := ot10.below hb
  replace ot14 := ot14.below hb
  replace og0 := og0.below hb
  replace ot35 := ot35.below hb
  replace ot37 := ot37.below hb
  replace hbel := hbel.trans (hb.mono hbel.size)
  clear hb
  clear ot35
  clear ot37
  have ha40 : Below v25.heap.size v25 (v25.alloc (.cells #[.int .i64 (rpeR xRB xRZ xListZ).1, .slice h0A (rpeR xRB xRZ xListZ).2.1.length h0C] 26)) := (Below.refl _ _).alloc (by simp <;> omega) _
  replace cxR0 := kept ha40 cxR0
  replace cxR1 := kept ha40 cxR1
  replace cw00 := kept ha40 cw00
  replace cw01 := kept ha40 cw01
  replace cx00 := kept ha40 cx00
  replace cx01 := kept ha40 cx01
  replace cg00 := kept ha40 cg00
  replace cg01 := kept ha40 cg01
  replace ow0 := ow0.below ha40
  replace ot10 := ot10.below ha40
  replace ot14 := ot14.below ha40
  replace og0 := og0.below ha40
  replace oh0 := oh0.below ha40
  replace hbel := hbel.trans (ha40.mono hbel.size)
  clear ha40
  have ch00 : (v25.alloc (.cells #[.int .i64 (rpeR xRB xRZ xListZ).1, .slice h0A (rpeR xRB xRZ xListZ).2.1.length h0C] 26)).cell? ⟨v25.heap.size, 0, none⟩ = some (.int .i64 (rpeR xRB xRZ xListZ).1) := by go_simp
  have ch01 : (v25.alloc (.cells #[.int .i64 (rpeR xRB xRZ xListZ).1, .slice h0A (rpeR xRB xRZ xListZ).2.1.length h0C] 26)).cell? ⟨v25.heap.size, 1, none⟩ = some (.slice h0A (rpeR xRB xRZ xListZ).2.1.length h0C) := by go_simp
  have q41 : regEqB (rpeR xRB xRZ xListZ).1 (rpeR xRB xRZ xListZ).1 (rpeR xRB xRZ xListZ).2.1 (rpeR xRB xRZ xListZ).2.1 = true := regEqB_self _ _
  go_wp2_with fail
  obtain ⟨v26, hu⟩ : ∃ u, u = (v25.alloc (.cells #[.int .i64 (rpeR xRB xRZ xListZ).1, .slice h0A (rpeR xRB xRZ xListZ).2.1.length h0C] 26)) := ⟨_, rfl⟩
  have s42 : Hid (v25.heap.size + 1 ≤ v26.heap.size) := Lib.hid (by rw [hu]; simp)
  rw [← hu] at cxR0 cxR1 cw00 cw01 cx00 cx01 cg00 cg01 ch00 ch01 ow0 ot10 ot14 og0 oh0 hbel ⊢
  clear hu
  refine (eqRegister_any (rpeR xRB xRZ xListZ).1 (rpeR xRB xRZ xListZ).1 h0A w0A h0C w0C (rpeR xRB xRZ xListZ).2.1 (rpeR xRB xRZ xListZ).2.1 v26 oh0.rd ow0.rd).mono ?_
  rintro e v27 ⟨rfl, hb⟩
  have s43 : Hid (v26.heap.size ≤ v27.heap.size) := Lib.hid hb.size
  replace cxR0 := kept hb cxR0
  replace cxR1 := kept hb cxR1
  replace cw00 := kept hb cw00
  replace cw01 := kept hb cw01
  replace cx00 := kept hb cx00
  replace cx01 := kept hb cx01
  replace cg00 := kept hb cg00
  replace cg01 := kept hb cg01
  replace ch00 := kept hb ch00
  replace ch01 := kept hb ch01
  replace ow0 := ow0.below hb
  replace ot10 := ot10.below hb
  replace ot14 := ot14.below hb
  replace og0 := og0.below hb
  replace oh0 := oh0.below hb
  replace hbel := hbel.trans (hb.mono hbel.size)
  clear hb
  go_wp2_with fail
  refine (heldRegister_any (rpeR xRB xRZ xListZ).1 g0A g0C 1 (rpeR xRB xRZ xListZ).2.1.length v27 og0.rd (by have := ow0.len; have := ot10.len; have := ot14.len; have := og0.len; have := oh0.len; have := hxR.len; have := hxList.len; omega) (by have := ow0.len; have := ot10.len; have := ot14.len; have := og0.len; have := oh0.len; have := hxR.len; have := hxList.len; omega)).mono ?_
  rintro e v28 ⟨rfl, hb⟩
  have s44 : Hid (v27.heap.size ≤ v28.heap.size) := Lib.hid hb.size
  replace cxR0 := kept hb cxR0
  replace cxR1 := kept hb cxR1
  replace cw00 := kept hb cw00
  replace cw01 := kept hb cw01
  replace cx00 := kept hb cx00
  replace cx01 := kept hb cx01
  replace cg00 := kept hb cg00
  replace cg01 := kept hb cg01
  replace ch00 := kept hb ch00
  replace ch01 := kept hb ch01
  replace ow0 := ow0.below hb
  replace ot10 := ot10.below hb
  replace ot14 := ot14.below hb
  replace og0 := og0.below hb
  replace oh0 := oh0.below hb
  replace hbel := hbel.trans (hb.mono hbel.size)
  clear hb
  go_wp2
  go_ret
  exact ⟨rfl, hbel⟩

set_option maxRecDepth 100000 in
theorem lifted (os : Os) (started : os.Started) (H : Type) (enc : TypeId × Value → H) :
    ReturnsInHanded {} Try.checked os 12 .any (Rows.fnExactReplayEventsSpec.pre6 enc Try.prog Try.f12 Rows.fnExactReplayEventsRow.domain false) (Rows.fnExactReplayEventsSpec.post enc Try.prog Try.f12 false true false false) := by
  refine returnsInHanded_of_change (C := Try.checked) own_knob started (by kernel_rfl) Try.func12
    (ChangeSpec.witness6 (enc := enc) (C := Try.checked) false ⟨#[], #[.agg #[.int .i64 0, .slice none 0 0], .slice none 0 0], []⟩ 8 (by kernel_rfl) (by kernel_rfl) (by kernel_rfl) (by kernel_rfl)) ?_
  intro W base args ds gs before hval0 hW hcnd _
  have hval : ∀ (j : Nat) t v, Try.f12.params[j]? = some t → args[j]? = some v → Value.okWide Try.prog W .any base t v := hval0
  have hW' := hW
  obtain ⟨p, q, hA0, hV, rfl, hfz, hnd⟩ := hW
  have hA : DataW.TrodAll enc Try.prog W 0 (fun _ => true) true Try.f12.params.toList args.toList ds p := hA0
  rw [Try.params12] at hA hval
  obtain ⟨v0, vs0, d0, ds0, p0, q0, hargs, rfl, rfl, h0, r0⟩ := trodAll_cons hA
  obtain ⟨v1, vs1, d1, ds1, p1, q1, rfl, rfl, rfl, h1, r1⟩ := trodAll_cons r0
  obtain ⟨rfl, rfl, rfl⟩ := trodAll_nil r1
  obtain rfl : args = #[v0, v1] := by cases args; simp_all
  obtain ⟨rfl, rfl⟩ := trodVars_none hV
  have k0 := h0
  have lt0 : ∀ x ∈ p0, x.block < W.heap.size := by obtain ⟨m, hm⟩ := k0; exact DataW.trod_lt m _ _ _ hm
  obtain ⟨xRB, xRA, xRC, xRZ, rfl, hxR, bxR⟩ := open_Register (hval 0 97 v0 rfl rfl) h0
  have k1 := h1
  have lt1 : ∀ x ∈ p1, x.block < W.heap.size := by obtain ⟨m, hm⟩ := k1; exact DataW.trod_lt m _ _ _ hm
  obtain ⟨xListA, xListC, xListZ, rfl, hxList⟩ := open_CarryEventS (hval 1 108 v1 rfl rfl) h1
  clear hA0 hval0
  refine (law_walk xRB xRA xRC xRZ xListA xListC xListZ W hxR bxR hxList).mono fun e W' ⟨he, bel⟩ => ?_
  subst he
  exact ⟨_, rfl, _, _, _, [], _, [], hW', trodAll_mk1 (shut_bool Try.underlying4 _), (trodAll_cons_mk (Below.trod laid_out (by kernel_rfl) (of_decide_eq_true (by kernel_rfl)) k0 bel lt0) (trodAll_cons_mk (Below.trod laid_out (by kernel_rfl) (of_decide_eq_true (by kernel_rfl)) k1 bel lt1) trodAll_mk0)), rfl, bel.frame _, fun h => by cases h⟩

set_option maxHeartbeats 20000000 in
theorem closed : joinedFacts Try.prog 12 Try.f12 Rows.fnExactReplayEventsSpec Rows.fnExactReplayEventsRow = true := by
  simp only [joinedFacts, Bool.and_eq_true]
  refine ⟨⟨⟨⟨⟨⟨⟨⟨⟨⟨⟨⟨⟨⟨⟨⟨⟨⟨⟨⟨⟨⟨⟨⟨⟨⟨⟨⟨⟨⟨⟨?_, laid_out⟩, fact_maps⟩, ?_⟩, ?_⟩, ?_⟩, fact_stops⟩, ?_⟩, fact_knobs⟩, ?_⟩, ?_⟩, ?_⟩, ?_⟩, ?_⟩, ?_⟩, ?_⟩, ?_⟩, ?_⟩, ?_⟩, ?_⟩, ?_⟩, ?_⟩, fact_plain⟩, ?_⟩, fact_heard⟩, fact_enter⟩, fact_lift⟩, ?_⟩, ?_⟩, ?_⟩, ?_⟩, ?_⟩
  all_goals (as_aux_lemma => kernel_rfl)

theorem over : Rows.fnExactReplayEventsRow.holds Try.pinned (OpenSpec.ofChange Rows.fnExactReplayEventsSpec) :=
  OpenClaim.holds_of_wide_leaving 12 Try.f12 rfl rfl rfl rfl rfl rfl rfl ⟨rfl, rfl, rfl, rfl, rfl⟩ rfl rfl rfl rfl rfl (by as_aux_lemma => kernel_rfl) Try.func12 closed
    (of_decide_eq_true (by as_aux_lemma => kernel_rfl)) (by unfold Func.isWrapper; rw [if_neg (by decide +kernel)]; exact ⟨rfl, rfl⟩)
    (fun os started H enc _ => leaving_of_handed (lifted os started H enc))

/-- The statement. -/
theorem proved : Rows.FnExactReplayEventsSaid := over
end Go.Proofs.Ytgfpjcckkbhdjaa.lawReplayEvents
