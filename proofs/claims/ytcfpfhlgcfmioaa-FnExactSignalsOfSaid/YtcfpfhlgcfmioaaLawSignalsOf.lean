/-
  laws.FnExactSignalsOf returns true at every input (no condition), and leaves its arguments as they were.
-/
import Derived.Test.YtcfpfhlgcfmioaaReg
import Derived.Test.YtcfpfhlgcfmioaaBox
import Derived.Test.YtcfpfhlgcfmioaaFrame
import Derived.Test.YtcfpfhlgcfmioaaSignalS
import Derived.Test.YtcfpfhlgcfmioaaFrameS
import Derived.Test.YtcfpfhlgcfmioaaSofI
import Derived.Test.YtcfpfhlgcfmioaaLeaves
import Derived.Deep.RegionHeld3
import Derived.Test.YtcfpfhlgcfmioaaFacts
import Derived.Test.YtcfpfhlgcfmioaaRows
namespace Go.Proofs.Ytcfpfhlgcfmioaa.lawSignalsOf
open Go.ChangeShapes Go.WideShapes Go.ChangeAt Go.WideElems Go.RowKit Go.Joins
open Go.ChangeMaps (open_string shut_string)

set_option maxRecDepth 100000 in
set_option maxHeartbeats 4000000 in
theorem law_walk (xAB : Int) (xAA : Option Addr) (xAC : Nat) (xAZ : List Int) (xBB : Int) (xBA : Option Addr) (xBC : Nat) (xBZ : List Int) (w : World) (hxA : Raw w xAA xAZ) (bxA : I64 xAB) (hxB : Raw w xBA xBZ) (bxB : I64 xBB) :
    Calls Try.prog 5 #[.agg #[.int .i64 xAB, .slice xAA xAZ.length xAC], .agg #[.int .i64 xBB, .slice xBA xBZ.length xBC]] w fun e w' => e = .returned (.bool true) ∧ Below w.heap.size w w' := by
  have hbel : Below w.heap.size w ((w.alloc (.cells #[.int .i64 xAB, .slice xAA xAZ.length xAC] 59)).alloc (.cells #[.int .i64 xBB, .slice xBA xBZ.length xBC] 59)) := ((Below.refl _ _).alloc (by simp <;> omega) _).alloc (by simp <;> omega) _
  have cxA0 : ((w.alloc (.cells #[.int .i64 xAB, .slice xAA xAZ.length xAC] 59)).alloc (.cells #[.int .i64 xBB, .slice xBA xBZ.length xBC] 59)).cell? ⟨w.heap.size, 0, none⟩ = some (.int .i64 xAB) := by go_simp
  have cxA1 : ((w.alloc (.cells #[.int .i64 xAB, .slice xAA xAZ.length xAC] 59)).alloc (.cells #[.int .i64 xBB, .slice xBA xBZ.length xBC] 59)).cell? ⟨w.heap.size, 1, none⟩ = some (.slice xAA xAZ.length xAC) := by go_simp
  have cxB0 : ((w.alloc (.cells #[.int .i64 xAB, .slice xAA xAZ.length xAC] 59)).alloc (.cells #[.int .i64 xBB, .slice xBA xBZ.length xBC] 59)).cell? ⟨w.heap.size + 1, 0, none⟩ = some (.int .i64 xBB) := by go_simp
  have cxB1 : ((w.alloc (.cells #[.int .i64 xAB, .slice xAA xAZ.length xAC] 59)).alloc (.cells #[.int .i64 xBB, .slice xBA xBZ.length xBC] 59)).cell? ⟨w.heap.size + 1, 1, none⟩ = some (.slice xBA xBZ.length xBC) := by go_simp
  go_enter Try.func5, Try.ntmps5
  go_wp2_with fail
  obtain ⟨v1, hu⟩ : ∃ u, u = ((w.alloc (.cells #[.int .i64 xAB, .slice xAA xAZ.length xAC] 59)).alloc (.cells #[.int .i64 xBB, .slice xBA xBZ.length xBC] 59)) := ⟨_, rfl⟩
  have s1 : Hid (w.heap.size + 2 ≤ v1.heap.size) := Lib.hid (by rw [hu]; simp)
  rw [← hu] at cxA0 cxA1 cxB0 cxB1 hbel ⊢
  clear hu
  rcases Int.lt_or_le (leftOf xAZ.length 1048576) 0 with k1 | k1
  · refine (szRegister_any xAB xAA xAZ.length xAC 1048576 v1 hxA.len (by omega) (by omega)).mono ?_
    rintro e v2 ⟨rfl, hb⟩
    go_wp2
    go_ret
    exact ⟨rfl, hbel.trans (hb.mono hbel.size)⟩
  have m1 := leftOf_le xAZ.length 1048576 (by omega)
  refine (szRegister_any xAB xAA xAZ.length xAC 1048576 v1 hxA.len (by omega) (by omega)).mono ?_
  rintro e v2 ⟨rfl, hb⟩
  have s2 : Hid (v1.heap.size ≤ v2.heap.size) := Lib.hid hb.size
  replace cxA0 := kept hb cxA0
  replace cxA1 := kept hb cxA1
  replace cxB0 := kept hb cxB0
  replace cxB1 := kept hb cxB1
  replace hbel := hbel.trans (hb.mono hbel.size)
  clear hb
  have zxA := hxA.wf
  replace hxA := hxA.rd (by have := leftOf_len k1; omega)
  go_wp2_with fail
  rcases Int.lt_or_le (leftOf xBZ.length (leftOf xAZ.length 1048576)) 0 with k2 | k2
  · refine (szRegister_any xBB xBA xBZ.length xBC (leftOf xAZ.length 1048576) v2 hxB.len (by omega) (by omega)).mono ?_
    rintro e v3 ⟨rfl, hb⟩
    go_wp2
    go_ret
    exact ⟨rfl, hbel.trans (hb.mono hbel.size)⟩
  have m2 := leftOf_le xBZ.length (leftOf xAZ.length 1048576) (by omega)
  refine (szRegister_any xBB xBA xBZ.length xBC (leftOf xAZ.length 1048576) v2 hxB.len (by omega) (by omega)).mono ?_
  rintro e v3 ⟨rfl, hb⟩
  have s3 : Hid (v2.heap.size ≤ v3.heap.size) := Lib.hid hb.size
  replace cxA0 := kept hb cxA0
  replace cxA1 := kept hb cxA1
  replace cxB0 := kept hb cxB0
  replace cxB1 := kept hb cxB1
  replace hbel := hbel.trans (hb.mono hbel.size)
  clear hb
  have zxB := hxB.wf
  replace hxB := hxB.rd (by have := leftOf_len k2; omega)
  go_wp2_with fail
  have rcxA0 := kept_all cxA0
  have rcxA1 := kept_all cxA1
  have rcxB0 := kept_all cxB0
  have rcxB1 := kept_all cxB1
  go_region_held3 (fun w' => Below v3.heap.size v3 w') (first | exact hk | exact (Below.refl _ _).drew | exact hk.alloc hk.size _ | exact (hk.alloc hk.size _).setCell hk.size _)
    (first | (go_at_call 40; have qB := ‹Below v3.heap.size v3 _›; ((with_reducible refine (toRegister_any xAB xAA xAC xAZ _ (hxA.below (hbel.trans (qB.mono hbel.size)))).mono ?_)); rintro e v5 ⟨t4A, t4C, rfl, ot4, hb⟩; have hk := qB.trans (hb.mono qB.size)) | (go_at_call 40; have qB := ‹Below v3.heap.size v3 _›; ((with_reducible refine (toRegister_any xBB xBA xBC xBZ _ (hxB.below (hbel.trans (qB.mono hbel.size)))).mono ?_)); rintro e v6 ⟨t5A, t5C, rfl, ot5, hb⟩; replace ot4 := ot4.below hb; have hk := qB.trans (hb.mono qB.size)) | (go_at_call 39; have qB := ‹Below v3.heap.size v3 _›; refine (specSignalsOf xAB t4A t4C xAZ xBB t5A t5C xBZ _ (by first | exact ot4.rd | exact (ot4.alloc _).rd) zxA bxA (by first | exact ot5.rd | exact (ot5.alloc _).rd) zxB bxB).mono ?_; rintro e v4 ⟨w0A, w0C, rfl, ow0, hb⟩; replace ow0 := ow0.wide (lo' := v3.heap.size) qB.size (Nat.le_refl _); have hk := qB.trans (hb.mono qB.size)))
  have hb : Below v3.heap.size v3 v4 := by assumption
  clear rcxA0 rcxA1 rcxB0 rcxB1
  clear ot4 ot5
  have s6 : Hid (v3.heap.size ≤ v4.heap.size) := Lib.hid hb.size
  replace cxA0 := kept hb cxA0
  replace cxA1 := kept hb cxA1
  replace cxB0 := kept hb cxB0
  replace cxB1 := kept hb cxB1
  replace hbel := hbel.trans (hb.mono hbel.size)
  clear hb
  go_wp2_with fail
  refine (toRegister_any xAB xAA xAC xAZ v4 (hxA.below hbel)).mono ?_
  rintro e v7 ⟨t7A, t7C, rfl, ot7, hb⟩
  have s8 : Hid (v4.heap.size ≤ v7.heap.size) := Lib.hid hb.size
  replace cxA0 := kept hb cxA0
  replace cxA1 := kept hb cxA1
  replace cxB0 := kept hb cxB0
  replace cxB1 := kept hb cxB1
  replace ow0 := ow0.below hb
  replace hbel := hbel.trans (hb.mono hbel.size)
  clear hb
  have ha9 : Below v7.heap.size v7 (v7.alloc (.cells #[.int .i64 xAB, .slice t7A xAZ.length t7C] 64)) := (Below.refl _ _).alloc (by simp <;> omega) _
  replace cxA0 := kept ha9 cxA0
  replace cxA1 := kept ha9 cxA1
  replace cxB0 := kept ha9 cxB0
  replace cxB1 := kept ha9 cxB1
  replace ow0 := ow0.below ha9
  replace ot7 := ot7.below ha9
  replace hbel := hbel.trans (ha9.mono hbel.size)
  clear ha9
  have cx00 : (v7.alloc (.cells #[.int .i64 xAB, .slice t7A xAZ.length t7C] 64)).cell? ⟨v7.heap.size, 0, none⟩ = some (.int .i64 xAB) := by go_simp
  have cx01 : (v7.alloc (.cells #[.int .i64 xAB, .slice t7A xAZ.length t7C] 64)).cell? ⟨v7.heap.size, 1, none⟩ = some (.slice t7A xAZ.length t7C) := by go_simp
  go_wp2_with fail
  obtain ⟨v8, hu⟩ : ∃ u, u = (v7.alloc (.cells #[.int .i64 xAB, .slice t7A xAZ.length t7C] 64)) := ⟨_, rfl⟩
  have s11 : Hid (v7.heap.size + 1 ≤ v8.heap.size) := Lib.hid (by rw [hu]; simp)
  rw [← hu] at cxA0 cxA1 cxB0 cxB1 cx00 cx01 ow0 ot7 hbel ⊢
  clear hu
  refine (toRegister_any xBB xBA xBC xBZ v8 (hxB.below hbel)).mono ?_
  rintro e v9 ⟨t10A, t10C, rfl, ot10, hb⟩
  have s12 : Hid (v8.heap.size ≤ v9.heap.size) := Lib.hid hb.size
  replace cxA0 := kept hb cxA0
  replace cxA1 := kept hb cxA1
  replace cxB0 := kept hb cxB0
  replace cxB1 := kept hb cxB1
  replace cx00 := kept hb cx00
  replace cx01 := kept hb cx01
  replace ow0 := ow0.below hb
  replace ot7 := ot7.below hb
  replace hbel := hbel.trans (hb.mono hbel.size)
  clear hb
  have ha13 : Below v9.heap.size v9 (v9.alloc (.cells #[.int .i64 xBB, .slice t10A xBZ.length t10C] 64)) := (Below.refl _ _).alloc (by simp <;> omega) _
  replace cxA0 := kept ha13 cxA0
  replace cxA1 := kept ha13 cxA1
  replace cxB0 := kept ha13 cxB0
  replace cxB1 := kept ha13 cxB1
  replace cx00 := kept ha13 cx00
  replace cx01 := kept ha13 cx01
  replace ow0 := ow0.below ha13
  replace ot7 := ot7.below ha13
  replace ot10 := ot10.below ha13
  replace hbel := hbel.trans (ha13.mono hbel.size)
  clear ha13
  have cx10 : (v9.alloc (.cells #[.int .i64 xBB, .slice t10A xBZ.length t10C] 64)).cell? ⟨v9.heap.size, 0, none⟩ = some (.int .i64 xBB) := by go_simp
  have cx11 : (v9.alloc (.cells #[.int .i64 xBB, .slice t10A xBZ.length t10C] 64)).cell? ⟨v9.heap.size, 1, none⟩ = some (.slice t10A xBZ.length t10C) := by go_simp
  go_wp2_with fail
  obtain ⟨v10, hu⟩ : ∃ u, u = (v9.alloc (.cells #[.int .i64 xBB, .slice t10A xBZ.length t10C] 64)) := ⟨_, rfl⟩
  have s14 : Hid (v9.heap.size + 1 ≤ v10.heap.size) := Lib.hid (by rw [hu]; simp)
  rw [← hu] at cxA0 cxA1 cxB0 cxB1 cx00 cx01 cx10 cx11 ow0 ot7 ot10 hbel ⊢
  clear hu
  refine (implSignalsOf xAB t7A t7C xAZ xBB t10A t10C xBZ v10 ot7.rd zxA bxA ot10.rd zxB bxB).mono ?_
  rintro e v11 ⟨g0A, g0C, rfl, og0, hb⟩
  have s15 : Hid (v10.heap.size ≤ v11.heap.size) := Lib.hid hb.size
  replace cxA0 := kept hb cxA0
  replace cxA1 := kept hb cxA1
  replace cxB0 := kept hb cxB0
  replace cxB1 := kept hb cxB1
  replace cx00 := kept hb cx00
  replace cx01 := kept hb cx01
  replace cx10 := kept hb cx10
  replace cx11 := kept hb cx11
  replace ow0 := ow0.below hb
  replace ot7 := ot7.below hb
  replace ot10 := ot10.below hb
  replace hbel := hbel.trans (hb.mono hbel.size)
  clear hb
  have q16 : decide ((sgR xAB xAZ xBB xBZ).1 = (sgR xAB xAZ xBB xBZ).1) = true := decide_eq_true rfl
  go_wp2_with fail
  refine (eqSignalS_any g0A w0A g0C w0C (sgR xAB xAZ xBB xBZ).1 (sgR xAB xAZ xBB xBZ).1 v11 og0.rd ow0.rd).mono ?_
  rintro e v12 ⟨rfl, hb⟩
  have s17 : Hid (v11.heap.size ≤ v12.heap.size) := Lib.hid hb.size
  replace cxA0 := kept hb cxA0
  replace cxA1 := kept hb cxA1
  replace cxB0 := kept hb cxB0
  replace cxB1 := kept hb cxB1
  replace cx00 := kept hb cx00
  replace cx01 := kept hb cx01
  replace cx10 := kept hb cx10
  replace cx11 := kept hb cx11
  replace ow0 := ow0.below hb
  replace ot7 := ot7.below hb
  replace ot10 := ot10.below hb
  replace og0 := og0.below hb
  replace hbel := hbel.trans (hb.mono hbel.size)
  clear hb
  have q18 : regEqB xAB xAB xAZ xAZ = true := regEqB_self _ _
  go_wp2_with fail
  have rcxA0 := kept_all cxA0
  have rcxA1 := kept_all cxA1
  have rcxB0 := kept_all cxB0
  have rcxB1 := kept_all cxB1
  have rcx00 := kept_all cx00
  have rcx01 := kept_all cx01
  have rcx10 := kept_all cx10
  have rcx11 := kept_all cx11
  go_region_held3 (fun w' => Below v12.heap.size v12 w') (first | exact hk | exact (Below.refl _ _).drew | exact hk.alloc hk.size _ | exact (hk.alloc hk.size _).setCell hk.size _)
    (first | (go_at_call 40; have qB := ‹Below v12.heap.size v12 _›; ((with_reducible refine (toRegister_any xAB xAA xAC xAZ _ (hxA.below (hbel.trans (qB.mono hbel.size)))).mono ?_)); rintro e v14 ⟨t19A, t19C, rfl, ot19, hb⟩; have hk := qB.trans (hb.mono qB.size)) | (go_at_call 43; have qB := ‹Below v12.heap.size v12 _›; refine (eqRegister_any xAB xAB t7A t19A t7C t19C xAZ xAZ _ (ot7.below qB).rd (by first | exact ot19.rd | exact (ot19.alloc _).rd)).mono ?_; rintro e v13 ⟨rfl, hb⟩; have hk := qB.trans (hb.mono qB.size)))
  have hb : Below v12.heap.size v12 v13 := by assumption
  clear rcxA0 rcxA1 rcxB0 rcxB1 rcx00 rcx01 rcx10 rcx11
  clear ot19
  have s20 : Hid (v12.heap.size ≤ v13.heap.size) := Lib.hid hb.size
  replace cxA0 := kept hb cxA0
  replace cxA1 := kept hb cxA1
  replace cxB0 := kept hb cxB0
  replace cxB1 := kept hb cxB1
  replace cx00 := kept hb cx00
  replace cx01 := kept hb cx01
  replace cx10 := kept hb cx10
  replace cx11 := kept hb cx11
  replace ow0 := ow0.below hb
  replace ot7 := ot7.below hb
  replace ot10 := ot10.below hb
  replace og0 := og0.below hb
  replace hbel := hbel.trans (hb.mono hbel.size)
  clear hb
  have q21 : regEqB xBB xBB xBZ xBZ = true := regEqB_self _ _
  go_wp2_with fail
  have rcxA0 := kept_all cxA0
  have rcxA1 := kept_all cxA1
  have rcxB0 := kept_all cxB0
  have rcxB1 := kept_all cxB1
  have rcx00 := kept_all cx00
  have rcx01 := kept_all cx01
  have rcx10 := kept_all cx10
  have rcx11 := kept_all cx11
  go_region_held3 (fun w' => Below v13.heap.size v13 w') (first | exact hk | exact (Below.refl _ _).drew | exact hk.alloc hk.size _ | exact (hk.alloc hk.size _).setCell hk.size _)
    (first | (go_at_call 40; have qB := ‹Below v13.heap.size v13 _›; ((with_reducible refine (toRegister_any xBB xBA xBC xBZ _ (hxB.below (hbel.trans (qB.mono hbel.size)))).mono ?_)); rintro e v16 ⟨t22A, t22C, rfl, ot22, hb⟩; have hk := qB.trans (hb.mono qB.size)) | (go_at_call 43; have qB := ‹Below v13.heap.size v13 _›; refine (eqRegister_any xBB xBB t10A t22A t10C t22C xBZ xBZ _ (ot10.below qB).rd (by first | exact ot22.rd | exact (ot22.alloc _).rd)).mono ?_; rintro e v15 ⟨rfl, hb⟩; have hk := qB.trans (hb.mono qB.size)))
  have hb : Below v13.heap.size v13 v15 := by assumption
  clear rcxA0 rcxA1 rcxB0 rcxB1 rcx00 rcx01 rcx10 rcx11
  clear ot22
  have s23 : Hid (v13.heap.size ≤ v15.heap.size) := Lib.hid hb.size
  replace cxA0 := kept hb cxA0
  replace cxA1 := kept hb cxA1
  replace cxB0 := kept hb cxB0
  replace cxB1 := kept hb cxB1
  replace cx00 := kept hb cx00
  replace cx01 := kept hb cx01
  replace cx10 := kept hb cx10
  replace cx11 := kept hb cx11
  replace ow0 := ow0.below hb
  replace ot7 := ot7.below hb
  replace ot10 := ot10.below hb
  replace og0 := og0.below hb
  replace hbel := hbel.trans (hb.mono hbel.size)
  clear hb
  go_wp2_with fail
  refine (markRegister_any _ _ _ xAB t7A t7C 1 xAZ v15 ot7 (by have := ow0.len; have := ot7.len; have := ot10.len; have := og0.len; have := hxA.len; have := hxB.len; omega) (by have := ow0.len; have := ot7.len; have := ot10.len; have := og0.len; have := hxA.len; have := hxB.len; omega)).mono ?_
  rintro e v17 ⟨rfl, om, ht⟩
  have s24 : Hid (v15.heap.size ≤ v17.heap.size) := Lib.hid ht.size
  clear ot7
  have ot7 := om
  clear om
  replace cxA0 := keptT ht cxA0 (by have := s1.out; have := s2.out; have := s3.out; have := s6.out; have := s8.out; have := s11.out; have := s12.out; have := s14.out; have := s15.out; have := s17.out; have := s20.out; have := s23.out; have := s24.out; omega)
  replace cxA1 := keptT ht cxA1 (by have := s1.out; have := s2.out; have := s3.out; have := s6.out; have := s8.out; have := s11.out; have := s12.out; have := s14.out; have := s15.out; have := s17.out; have := s20.out; have := s23.out; have := s24.out; omega)
  replace cxB0 := keptT ht cxB0 (by have := s1.out; have := s2.out; have := s3.out; have := s6.out; have := s8.out; have := s11.out; have := s12.out; have := s14.out; have := s15.out; have := s17.out; have := s20.out; have := s23.out; have := s24.out; omega)
  replace cxB1 := keptT ht cxB1 (by have := s1.out; have := s2.out; have := s3.out; have := s6.out; have := s8.out; have := s11.out; have := s12.out; have := s14.out; have := s15.out; have := s17.out; have := s20.out; have := s23.out; have := s24.out; omega)
  replace cx00 := keptT ht cx00 (by have := s1.out; have := s2.out; have := s3.out; have := s6.out; have := s8.out; have := s11.out; have := s12.out; have := s14.out; have := s15.out; have := s17.out; have := s20.out; have := s23.out; have := s24.out; omega)
  replace cx01 := keptT ht cx01 (by have := s1.out; have := s2.out; have := s3.out; have := s6.out; have := s8.out; have := s11.out; have := s12.out; have := s14.out; have := s15.out; have := s17.out; have := s20.out; have := s23.out; have := s24.out; omega)
  replace cx10 := keptT ht cx10 (by have := s1.out; have := s2.out; have := s3.out; have := s6.out; have := s8.out; have := s11.out; have := s12.out; have := s14.out; have := s15.out; have := s17.out; have := s20.out; have := s23.out; have := s24.out; omega)
  replace cx11 := keptT ht cx11 (by have := s1.out; have := s2.out; have := s3.out; have := s6.out; have := s8.out; have := s11.out; have := s12.out; have := s14.out; have := s15.out; have := s17.out; have := s20.out; have := s23.out; have := s24.out; omega)
  replace ow0 := ow0.touch ht (by have := s1.out; have := s2.out; have := s3.out; have := s6.out; have := s8.out; have := s11.out; have := s12.out; have := s14.out; have := s15.out; have := s17.out; have := s20.out; have := s23.out; have := s24.out; omega)
  replace ot10 := ot10.touch ht (by have := s1.out; have := s2.out; have := s3.out; have := s6.out; have := s8.out; have := s11.out; have := s12.out; have := s14.out; have := s15.out; have := s17.out; have := s20.out; have := s23.out; have := s24.out; omega)
  replace og0 := og0.touch ht (by have := s1.out; have := s2.out; have := s3.out; have := s6.out; have := s8.out; have := s11.out; have := s12.out; have := s14.out; have := s15.out; have := s17.out; have := s20.out; have := s23.out; have := s24.out; omega)
  replace hbel := hbel.trans (ht.below (by have := s1.out; have := s2.out; have := s3.out; have := s6.out; have := s8.out; have := s11.out; have := s12.out; have := s14.out; have := s15.out; have := s17.out; have := s20.out; have := s23.out; have := s24.out; omega) hbel.size)
  clear ht
  go_wp2_with fail
  refine (markRegister_any _ _ _ xBB t10A t10C (1 + (xAZ.length : Int)) xBZ v17 ot10 (by have := ow0.len; have := ot7.len; have := ot10.len; have := og0.len; have := hxA.len; have := hxB.len; omega) (by have := ow0.len; have := ot7.len; have := ot10.len; have := og0.len; have := hxA.len; have := hxB.len; omega)).mono ?_
  rintro e v18 ⟨rfl, om, ht⟩
  have s25 : Hid (v17.heap.size ≤ v18.heap.size) := Lib.hid ht.size
  clear ot10
  have ot10 := om
  clear om
  replace cxA0 := keptT ht cxA0 (by have := s1.out; have := s2.out; have := s3.out; have := s6.out; have := s8.out; have := s11.out; have := s12.out; have := s14.out; have := s15.out; have := s17.out; have := s20.out; have := s23.out; have := s24.out; have := s25.out; omega)
  replace cxA1 := keptT ht cxA1 (by have := s1.out; have := s2.out; have := s3.out; have := s6.out; have := s8.out; have := s11.out; have := s12.out; have := s14.out; have := s15.out; have := s17.out; have := s20.out; have := s23.out; have := s24.out; have := s25.out; omega)
  replace cxB0 := keptT ht cxB0 (by have := s1.out; have := s2.out; have := s3.out; have := s6.out; have := s8.out; have := s11.out; have := s12.out; have := s14.out; have := s15.out; have := s17.out; have := s20.out; have := s23.out; have := s24.out; have := s25.out; omega)
  replace cxB1 := keptT ht cxB1 (by have := s1.out; have := s2.out; have := s3.out; have := s6.out; have := s8.out; have := s11.out; have := s12.out; have := s14.out; have := s15.out; have := s17.out; have := s20.out; have := s23.out; have := s24.out; have := s25.out; omega)
  replace cx00 := keptT ht cx00 (by have := s1.out; have := s2.out; have := s3.out; have := s6.out; have := s8.out; have := s11.out; have := s12.out; have := s14.out; have := s15.out; have := s17.out; have := s20.out; have := s23.out; have := s24.out; have := s25.out; omega)
  replace cx01 := keptT ht cx01 (by have := s1.out; have := s2.out; have := s3.out; have := s6.out; have := s8.out; have := s11.out; have := s12.out; have := s14.out; have := s15.out; have := s17.out; have := s20.out; have := s23.out; have := s24.out; have := s25.out; omega)
  replace cx10 := keptT ht cx10 (by have := s1.out; have := s2.out; have := s3.out; have := s6.out; have := s8.out; have := s11.out; have := s12.out; have := s14.out; have := s15.out; have := s17.out; have := s20.out; have := s23.out; have := s24.out; have := s25.out; omega)
  replace cx11 := keptT ht cx11 (by have := s1.out; have := s2.out; have := s3.out; have := s6.out; have := s8.out; have := s11.out; have := s12.out; have := s14.out; have := s15.out; have := s17.out; have := s20.out; have := s23.out; have := s24.out; have := s25.out; omega)
  replace ow0 := ow0.touch ht (by have := s1.out; have := s2.out; have := s3.out; have := s6.out; have := s8.out; have := s11.out; have := s12.out; have := s14.out; have := s15.out; have := s17.out; have := s20.out; have := s23.out; have := s24.out; have := s25.out; omega)
  replace ot7 := ot7.touch ht (by have := s1.out; have := s2.out; have := s3.out; have := s6.out; have := s8.out; have := s11.out; have := s12.out; have := s14.out; have := s15.out; have := s17.out; have := s20.out; have := s23.out; have := s24.out; have := s25.out; omega)
  replace og0 := og0.touch ht (by have := s1.out; have := s2.out; have := s3.out; have := s6.out; have := s8.out; have := s11.out; have := s12.out; have := s14.out; have := s15.out; have := s17.out; have := s20.out; have := s23.out; have := s24.out; have := s25.out; omega)
  replace hbel := hbel.trans (ht.below (by have := s1.out; have := s2.out; have := s3.out; have := s6.out; have := s8.out; have := s11.out; have := s12.out; have := s14.out; have := s15.out; have := s17.out; have := s20.out; have := s23.out; have := s24.out; have := s25.out; omega) hbel.size)
  clear ht
  have q26 : decide ((sgR xAB xAZ xBB xBZ).1 = (sgR xAB xAZ xBB xBZ).1) = true := decide_eq_true rfl
  go_wp2_with fail
  refine (eqSignalS_any g0A w0A g0C w0C (sgR xAB xAZ xBB xBZ).1 (sgR xAB xAZ xBB xBZ).1 v18 og0.rd ow0.rd).mono ?_
  rintro e v19 ⟨rfl, hb⟩
  have s27 : Hid (v18.heap.size ≤ v19.heap.size) := Lib.hid hb.size
  replace cxA0 := kept hb cxA0
  replace cxA1 := kept hb cxA1
  replace cxB0 := kept hb cxB0
  replace cxB1 := kept hb cxB1
  replace cx00 := kept hb cx00
  replace cx01 := kept hb cx01
  replace cx10 := kept hb cx10
  replace cx11 := kept hb cx11
  replace ow0 := ow0.below hb
  replace ot7 := ot7.below hb
  replace ot10 := ot10.below hb
  replace og0 := og0.below hb
  replace hbel := hbel.trans (hb.mono hbel.size)
  clear hb
  go_wp2_with fail
  refine (markSignalS_any _ _ _ g0A g0C 1 (sgR xAB xAZ xBB xBZ).1 v19 og0 (by have := ow0.len; have := ot7.len; have := ot10.len; have := og0.len; have := hxA.len; have := hxB.len; omega) (by have := ow0.len; have := ot7.len; have := ot10.len; have := og0.len; have := hxA.len; have := hxB.len; omega)).mono ?_
  rintro e v20 ⟨rfl, om, ht⟩
  have s28 : Hid (v19.heap.size ≤ v20.heap.size) := Lib.hid ht.size
  clear og0
  have og0 := om
  clear om
  replace cxA0 := keptT ht cxA0 (by have := s1.out; have := s2.out; have := s3.out; have := s6.out; have := s8.out; have := s11.out; have := s12.out; have := s14.out; have := s15.out; have := s17.out; have := s20.out; have := s23.out; have := s24.out; have := s25.out; have := s27.out; have := s28.out; omega)
  replace cxA1 := keptT ht cxA1 (by have := s1.out; have := s2.out; have := s3.out; have := s6.out; have := s8.out; have := s11.out; have := s12.out; have := s14.out; have := s15.out; have := s17.out; have := s20.out; have := s23.out; have := s24.out; have := s25.out; have := s27.out; have := s28.out; omega)
  replace cxB0 := keptT ht cxB0 (by have := s1.out; have := s2.out; have := s3.out; have := s6.out; have := s8.out; have := s11.out; have := s12.out; have := s14.out; have := s15.out; have := s17.out; have := s20.out; have := s23.out; have := s24.out; have := s25.out; have := s27.out; have := s28.out; omega)
  replace cxB1 := keptT ht cxB1 (by have := s1.out; have := s2.out; have := s3.out; have := s6.out; have := s8.out; have := s11.out; have := s12.out; have := s14.out; have := s15.out; have := s17.out; have := s20.out; have := s23.out; have := s24.out; have := s25.out; have := s27.out; have := s28.out; omega)
  replace cx00 := keptT ht cx00 (by have := s1.out; have := s2.out; have := s3.out; have := s6.out; have := s8.out; have := s11.out; have := s12.out; have := s14.out; have := s15.out; have := s17.out; have := s20.out; have := s23.out; have := s24.out; have := s25.out; have := s27.out; have := s28.out; omega)
  replace cx01 := keptT ht cx01 (by have := s1.out; have := s2.out; have := s3.out; have := s6.out; have := s8.out; have := s11.out; have := s12.out; have := s14.out; have := s15.out; have := s17.out; have := s20.out; have := s23.out; have := s24.out; have := s25.out; have := s27.out; have := s28.out; omega)
  replace cx10 := keptT ht cx10 (by have := s1.out; have := s2.out; have := s3.out; have := s6.out; have := s8.out; have := s11.out; have := s12.out; have := s14.out; have := s15.out; have := s17.out; have := s20.out; have := s23.out; have := s24.out; have := s25.out; have := s27.out; have := s28.out; omega)
  replace cx11 := keptT ht cx11 (by have := s1.out; have := s2.out; have := s3.out; have := s6.out; have := s8.out; have := s11.out; have := s12.out; have := s14.out; have := s15.out; have := s17.out; have := s20.out; have := s23.out; have := s24.out; have := s25.out; have := s27.out; have := s28.out; omega)
  replace ow0 := ow0.touch ht (by have := s1.out; have := s2.out; have := s3.out; have := s6.out; have := s8.out; have := s11.out; have := s12.out; have := s14.out; have := s15.out; have := s17.out; have := s20.out; have := s23.out; have := s24.out; have := s25.out; have := s27.out; have := s28.out; omega)
  replace ot7 := ot7.touch ht (by have := s1.out; have := s2.out; have := s3.out; have := s6.out; have := s8.out; have := s11.out; have := s12.out; have := s14.out; have := s15.out; have := s17.out; have := s20.out; have := s23.out; have := s24.out; have := s25.out; have := s27.out; have := s28.out; omega)
  replace ot10 := ot10.touch ht (by have := s1.out; have := s2.out; have := s3.out; have := s6.out; have := s8.out; have := s11.out; have := s12.out; have := s14.out; have := s15.out; have := s17.out; have := s20.out; have := s23.out; have := s24.out; have := s25.out; have := s27.out; have := s28.out; omega)
  replace hbel := hbel.trans (ht.below (by have := s1.out; have := s2.out; have := s3.out; have := s6.out; have := s8.out; have := s11.out; have := s12.out; have := s14.out; have := s15.out; have := s17.out; have := s20.out; have := s23.out; have := s24.out; have := s25.out; have := s27.out; have := s28.out; omega) hbel.size)
  clear ht
  go_wp2_with fail
  refine (heldSignalS_any g0A g0C 1 (sgR xAB xAZ xBB xBZ).1.length v20 og0.rd (by have := ow0.len; have := ot7.len; have := ot10.len; have := og0.len; have := hxA.len; have := hxB.len; omega) (by have := ow0.len; have := ot7.len; have := ot10.len; have := og0.len; have := hxA.len; have := hxB.len; omega)).mono ?_
  rintro e v21 ⟨rfl, hw⟩
  have hb : Below v20.heap.size v20 v21 := by rw [hw]; exact Below.refl _ _
  clear hw
  have s29 : Hid (v20.heap.size ≤ v21.heap.size) := Lib.hid hb.size
  replace cxA0 := kept hb cxA0
  replace cxA1 := kept hb cxA1
  replace cxB0 := kept hb cxB0
  replace cxB1 := kept hb cxB1
  replace cx00 := kept hb cx00
  replace cx01 := kept hb cx01
  replace cx10 := kept hb cx10
  replace cx11 := kept hb cx11
  replace ow0 := ow0.below hb
  replace ot7 := ot7.below hb
  replace ot10 := ot10.below hb
  replace og0 := og0.below hb
  replace hbel := hbel.trans (hb.mono hbel.size)
  clear hb
  go_wp2_with fail
  have rcxA0 := kept_all cxA0
  have rcxA1 := kept_all cxA1
  have rcxB0 := kept_all cxB0
  have rcxB1 := kept_all cxB1
  have rcx00 := kept_all cx00
  have rcx01 := kept_all cx01
  have rcx10 := kept_all cx10
  have rcx11 := kept_all cx11
  go_region_held3 (fun w' => Below v21.heap.size v21 w') (first | exact hk | exact (Below.refl _ _).drew | exact hk.alloc hk.size _ | exact (hk.alloc hk.size _).setCell hk.size _)
    (first | (go_at_call 40; have qB := ‹Below v21.heap.size v21 _›; ((with_reducible refine (toRegister_any xAB xAA xAC xAZ _ (hxA.below (hbel.trans (qB.mono hbel.size)))).mono ?_)); rintro e v23 ⟨t30A, t30C, rfl, ot30, hb⟩; have hk := qB.trans (hb.mono qB.size)) | (go_at_call 40; have qB := ‹Below v21.heap.size v21 _›; ((with_reducible refine (toRegister_any xBB xBA xBC xBZ _ (hxB.below (hbel.trans (qB.mono hbel.size)))).mono ?_)); rintro e v24 ⟨t31A, t31C, rfl, ot31, hb⟩; replace ot30 := ot30.below hb; have hk := qB.trans (hb.mono qB.size)) | (go_at_call 41; have qB := ‹Below v21.heap.size v21 _›; refine (implSignalsOf xAB t30A t30C xAZ xBB t31A t31C xBZ _ (by first | exact ot30.rd | exact (ot30.alloc _).rd) zxA bxA (by first | exact ot31.rd | exact (ot31.alloc _).rd) zxB bxB).mono ?_; rintro e v22 ⟨h0A, h0C, rfl, oh0, hb⟩; replace oh0 := oh0.wide (lo' := v21.heap.size) qB.size (Nat.le_refl _); have hk := qB.trans (hb.mono qB.size)))
  have hb : Below v21.heap.size v21 v22 := by assumption
  clear rcxA0 rcxA1 rcxB0 rcxB1 rcx00 rcx01 rcx10 rcx11
  clear ot30 ot31
  have s32 : Hid (v21.heap.size ≤ v22.heap.size) := Lib.hid hb.size
  replace cxA0 := kept hb cxA0
  replace cxA1 := kept hb cxA1
  replace cxB0 := kept hb cxB0
  replace cxB1 := kept hb cxB1
  replace cx00 := kept hb cx00
  replace cx01 := kept hb cx01
  replace cx10 := kept hb cx10
  replace cx11 := kept hb cx11
  replace ow0 := ow0.below hb
  replace ot7 := ot7.below hb
  replace ot10 := ot10.below hb
  replace og0 := og0.below hb
  replace hbel := hbel.trans (hb.mono hbel.size)
  clear hb
  have q33 : decide ((sgR xAB xAZ xBB xBZ).1 = (sgR xAB xAZ xBB xBZ).1) = true := decide_eq_true rfl
  go_wp2_with fail
  refine (eqSignalS_any h0A w0A h0C w0C (sgR xAB xAZ xBB xBZ).1 (sgR xAB xAZ xBB xBZ).1 v22 oh0.rd ow0.rd).mono ?_
  rintro e v25 ⟨rfl, hb⟩
  have s34 : Hid (v22.heap.size ≤ v25.heap.size) := Lib.hid hb.size
  replace cxA0 := kept hb cxA0
  replace cxA1 := kept hb cxA1
  replace cxB0 := kept hb cxB0
  replace cxB1 := kept hb cxB1
  replace cx00 := kept hb cx00
  replace cx01 := kept hb cx01
  replace cx10 := kept hb cx10
  replace cx11 := kept hb cx11
  replace ow0 := ow0.below hb
  replace ot7 := ot7.below hb
  replace ot10 := ot10.below hb
  replace og0 := og0.below hb
  replace oh0 := oh0.below hb
  replace hbel := hbel.trans (hb.mono hbel.size)
  clear hb
  go_wp2_with fail
  refine (heldSignalS_any g0A g0C 1 (sgR xAB xAZ xBB xBZ).1.length v25 og0.rd (by have := ow0.len; have := ot7.len; have := ot10.len; have := og0.len; have := oh0.len; have := hxA.len; have := hxB.len; omega) (by have := ow0.len; have := ot7.len; have := ot10.len; have := og0.len; have := oh0.len; have := hxA.len; have := hxB.len; omega)).mono ?_
  rintro e v26 ⟨rfl, hw⟩
  have hb : Below v25.heap.size v25 v26 := by rw [hw]; exact Below.refl _ _
  clear hw
  have s35 : Hid (v25.heap.size ≤ v26.heap.size) := Lib.hid hb.size
  replace cxA0 := kept hb cxA0
  replace cxA1 := kept hb cxA1
  replace cxB0 := kept hb cxB0
  replace cxB1 := kept hb cxB1
  replace cx00 := kept hb cx00
  replace cx01 := kept hb cx01
  replace cx10 := kept hb cx10
  replace cx11 := kept hb cx11
  replace ow0 := ow0.below hb
  replace ot7 := ot7.below hb
  replace ot10 := ot10.below hb
  replace og0 := og0.below hb
  replace oh0 := oh0.below hb
  replace hbel := hbel.trans (hb.mono hbel.size)
  clear hb
  go_wp2
  go_ret
  exact ⟨rfl, hbel⟩

set_option maxRecDepth 100000 in
theorem lifted (os : Os) (started : os.Started) (H : Type) (enc : TypeId × Value → H) :
    ReturnsInHanded {} Try.checked os 5 .any (Rows.fnExactSignalsOfSpec.pre6 enc Try.prog Try.f5 Rows.fnExactSignalsOfRow.domain false) (Rows.fnExactSignalsOfSpec.post enc Try.prog Try.f5 false true false false) := by
  refine returnsInHanded_of_change (C := Try.checked) own_knob started (by kernel_rfl) Try.func5
    (ChangeSpec.witness6 (enc := enc) (C := Try.checked) false ⟨#[], #[.agg #[.int .i64 0, .slice none 0 0], .agg #[.int .i64 0, .slice none 0 0]], []⟩ 8 (by kernel_rfl) (by kernel_rfl) (by kernel_rfl) (by kernel_rfl)) ?_
  intro W base args ds gs before hval0 hW hcnd _
  have hval : ∀ (j : Nat) t v, Try.f5.params[j]? = some t → args[j]? = some v → Value.okWide Try.prog W .any base t v := hval0
  have hW' := hW
  obtain ⟨p, q, hA0, hV, rfl, hfz, hnd⟩ := hW
  have hA : DataW.TrodAll enc Try.prog W 0 (fun _ => true) true Try.f5.params.toList args.toList ds p := hA0
  rw [Try.params5] at hA hval
  obtain ⟨v0, vs0, d0, ds0, p0, q0, hargs, rfl, rfl, h0, r0⟩ := trodAll_cons hA
  obtain ⟨v1, vs1, d1, ds1, p1, q1, rfl, rfl, rfl, h1, r1⟩ := trodAll_cons r0
  obtain ⟨rfl, rfl, rfl⟩ := trodAll_nil r1
  obtain rfl : args = #[v0, v1] := by cases args; simp_all
  obtain ⟨rfl, rfl⟩ := trodVars_none hV
  have k0 := h0
  have lt0 : ∀ x ∈ p0, x.block < W.heap.size := by obtain ⟨m, hm⟩ := k0; exact DataW.trod_lt m _ _ _ hm
  obtain ⟨xAB, xAA, xAC, xAZ, rfl, hxA, bxA⟩ := open_Register (hval 0 59 v0 rfl rfl) h0
  have k1 := h1
  have lt1 : ∀ x ∈ p1, x.block < W.heap.size := by obtain ⟨m, hm⟩ := k1; exact DataW.trod_lt m _ _ _ hm
  obtain ⟨xBB, xBA, xBC, xBZ, rfl, hxB, bxB⟩ := open_Register (hval 1 59 v1 rfl rfl) h1
  clear hA0 hval0
  refine (law_walk xAB xAA xAC xAZ xBB xBA xBC xBZ W hxA bxA hxB bxB).mono fun e W' ⟨he, bel⟩ => ?_
  subst he
  exact ⟨_, rfl, _, _, _, [], _, [], hW', trodAll_mk1 (shut_bool Try.underlying4 _), (trodAll_cons_mk (Below.trod laid_out (by kernel_rfl) (of_decide_eq_true (by kernel_rfl)) k0 bel lt0) (trodAll_cons_mk (Below.trod laid_out (by kernel_rfl) (of_decide_eq_true (by kernel_rfl)) k1 bel lt1) trodAll_mk0)), rfl, bel.frame _, fun h => by cases h⟩

set_option maxHeartbeats 20000000 in
theorem closed : joinedFacts Try.prog 5 Try.f5 Rows.fnExactSignalsOfSpec Rows.fnExactSignalsOfRow = true := by
  simp only [joinedFacts, Bool.and_eq_true]
  refine ⟨⟨⟨⟨⟨⟨⟨⟨⟨⟨⟨⟨⟨⟨⟨⟨⟨⟨⟨⟨⟨⟨⟨⟨⟨⟨⟨⟨⟨⟨⟨?_, laid_out⟩, fact_maps⟩, ?_⟩, ?_⟩, ?_⟩, fact_stops⟩, ?_⟩, fact_knobs⟩, ?_⟩, ?_⟩, ?_⟩, ?_⟩, ?_⟩, ?_⟩, ?_⟩, ?_⟩, ?_⟩, ?_⟩, ?_⟩, ?_⟩, ?_⟩, fact_plain⟩, ?_⟩, fact_heard⟩, fact_enter⟩, fact_lift⟩, ?_⟩, ?_⟩, ?_⟩, ?_⟩, ?_⟩
  all_goals (as_aux_lemma => kernel_rfl)

theorem over : Rows.fnExactSignalsOfRow.holds Try.pinned (OpenSpec.ofChange Rows.fnExactSignalsOfSpec) :=
  OpenClaim.holds_of_wide_leaving 5 Try.f5 rfl rfl rfl rfl rfl rfl rfl ⟨rfl, rfl, rfl, rfl, rfl⟩ rfl rfl rfl rfl rfl (by as_aux_lemma => kernel_rfl) Try.func5 closed
    (of_decide_eq_true (by as_aux_lemma => kernel_rfl)) (by unfold Func.isWrapper; rw [if_neg (by decide +kernel)]; exact ⟨rfl, rfl⟩)
    (fun os started H enc _ => leaving_of_handed (lifted os started H enc))

/-- The statement. -/
theorem proved : Rows.FnExactSignalsOfSaid := over
end Go.Proofs.Ytcfpfhlgcfmioaa.lawSignalsOf
