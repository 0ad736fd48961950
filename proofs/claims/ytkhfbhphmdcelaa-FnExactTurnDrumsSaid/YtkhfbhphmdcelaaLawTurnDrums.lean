/-
  laws.FnExactTurnDrums returns true at every input (no condition), and leaves its arguments as they were.
-/
import Derived.Test.YtkhfbhphmdcelaaReg
import Derived.Test.YtkhfbhphmdcelaaBox
import Derived.Test.YtkhfbhphmdcelaaFrame
import Derived.Test.YtkhfbhphmdcelaaDrumL
import Derived.Test.YtkhfbhphmdcelaaTurnI
import Derived.Test.YtkhfbhphmdcelaaTurnS
import Derived.Deep.RegionHeld3
import Derived.Test.YtkhfbhphmdcelaaFacts
import Derived.Test.YtkhfbhphmdcelaaRows
namespace Go.Proofs.Ytkhfbhphmdcelaa.lawTurnDrums
open Go.ChangeShapes Go.WideShapes Go.ChangeAt Go.WideElems Go.RowKit Go.Joins
open Go.ChangeMaps (open_string shut_string)

set_option maxRecDepth 100000 in
set_option maxHeartbeats 4000000 in
theorem law_walk (xDK : Int) (xDB : Int) (xDT : Int) (xDF : Int) (xWheelsB : Int) (xWheelsA : Option Addr) (xWheelsC : Nat) (xWheelsZ : List Int) (xSettingB : Int) (xSettingA : Option Addr) (xSettingC : Nat) (xSettingZ : List Int) (xTime : Int) (w : World) (bxD : I64 xDK ∧ I64 xDB ∧ I64 xDT ∧ I64 xDF) (hxWheels : Raw w xWheelsA xWheelsZ) (bxWheels : I64 xWheelsB) (hxSetting : Raw w xSettingA xSettingZ) (bxSetting : I64 xSettingB) (bxTime : I64 xTime) :
    Calls Try.prog 13 #[.agg #[.int .i64 xDK, .int .i64 xDB, .int .i64 xDT, .int .i64 xDF], .agg #[.int .i64 xWheelsB, .slice xWheelsA xWheelsZ.length xWheelsC], .agg #[.int .i64 xSettingB, .slice xSettingA xSettingZ.length xSettingC], .int .i64 xTime] w fun e w' => e = .returned (.bool true) ∧ Below w.heap.size w w' := by
  have hbel : Below w.heap.size w (((w.alloc (.cells #[.int .i64 xDK, .int .i64 xDB, .int .i64 xDT, .int .i64 xDF] 73)).alloc (.cells #[.int .i64 xWheelsB, .slice xWheelsA xWheelsZ.length xWheelsC] 88)).alloc (.cells #[.int .i64 xSettingB, .slice xSettingA xSettingZ.length xSettingC] 88)) := (((Below.refl _ _).alloc (by simp <;> omega) _).alloc (by simp <;> omega) _).alloc (by simp <;> omega) _
  have cxD0 : (((w.alloc (.cells #[.int .i64 xDK, .int .i64 xDB, .int .i64 xDT, .int .i64 xDF] 73)).alloc (.cells #[.int .i64 xWheelsB, .slice xWheelsA xWheelsZ.length xWheelsC] 88)).alloc (.cells #[.int .i64 xSettingB, .slice xSettingA xSettingZ.length xSettingC] 88)).cell? ⟨w.heap.size, 0, none⟩ = some (.int .i64 xDK) := by go_simp
  have cxD1 : (((w.alloc (.cells #[.int .i64 xDK, .int .i64 xDB, .int .i64 xDT, .int .i64 xDF] 73)).alloc (.cells #[.int .i64 xWheelsB, .slice xWheelsA xWheelsZ.length xWheelsC] 88)).alloc (.cells #[.int .i64 xSettingB, .slice xSettingA xSettingZ.length xSettingC] 88)).cell? ⟨w.heap.size, 1, none⟩ = some (.int .i64 xDB) := by go_simp
  have cxD2 : (((w.alloc (.cells #[.int .i64 xDK, .int .i64 xDB, .int .i64 xDT, .int .i64 xDF] 73)).alloc (.cells #[.int .i64 xWheelsB, .slice xWheelsA xWheelsZ.length xWheelsC] 88)).alloc (.cells #[.int .i64 xSettingB, .slice xSettingA xSettingZ.length xSettingC] 88)).cell? ⟨w.heap.size, 2, none⟩ = some (.int .i64 xDT) := by go_simp
  have cxD3 : (((w.alloc (.cells #[.int .i64 xDK, .int .i64 xDB, .int .i64 xDT, .int .i64 xDF] 73)).alloc (.cells #[.int .i64 xWheelsB, .slice xWheelsA xWheelsZ.length xWheelsC] 88)).alloc (.cells #[.int .i64 xSettingB, .slice xSettingA xSettingZ.length xSettingC] 88)).cell? ⟨w.heap.size, 3, none⟩ = some (.int .i64 xDF) := by go_simp
  have cxWheels0 : (((w.alloc (.cells #[.int .i64 xDK, .int .i64 xDB, .int .i64 xDT, .int .i64 xDF] 73)).alloc (.cells #[.int .i64 xWheelsB, .slice xWheelsA xWheelsZ.length xWheelsC] 88)).alloc (.cells #[.int .i64 xSettingB, .slice xSettingA xSettingZ.length xSettingC] 88)).cell? ⟨w.heap.size + 1, 0, none⟩ = some (.int .i64 xWheelsB) := by go_simp
  have cxWheels1 : (((w.alloc (.cells #[.int .i64 xDK, .int .i64 xDB, .int .i64 xDT, .int .i64 xDF] 73)).alloc (.cells #[.int .i64 xWheelsB, .slice xWheelsA xWheelsZ.length xWheelsC] 88)).alloc (.cells #[.int .i64 xSettingB, .slice xSettingA xSettingZ.length xSettingC] 88)).cell? ⟨w.heap.size + 1, 1, none⟩ = some (.slice xWheelsA xWheelsZ.length xWheelsC) := by go_simp
  have cxSetting0 : (((w.alloc (.cells #[.int .i64 xDK, .int .i64 xDB, .int .i64 xDT, .int .i64 xDF] 73)).alloc (.cells #[.int .i64 xWheelsB, .slice xWheelsA xWheelsZ.length xWheelsC] 88)).alloc (.cells #[.int .i64 xSettingB, .slice xSettingA xSettingZ.length xSettingC] 88)).cell? ⟨w.heap.size + 2, 0, none⟩ = some (.int .i64 xSettingB) := by go_simp
  have cxSetting1 : (((w.alloc (.cells #[.int .i64 xDK, .int .i64 xDB, .int .i64 xDT, .int .i64 xDF] 73)).alloc (.cells #[.int .i64 xWheelsB, .slice xWheelsA xWheelsZ.length xWheelsC] 88)).alloc (.cells #[.int .i64 xSettingB, .slice xSettingA xSettingZ.length xSettingC] 88)).cell? ⟨w.heap.size + 2, 1, none⟩ = some (.slice xSettingA xSettingZ.length xSettingC) := by go_simp
  go_enter Try.func13, Try.ntmps13
  go_wp2_with fail
  obtain ⟨v1, hu⟩ : ∃ u, u = (((w.alloc (.cells #[.int .i64 xDK, .int .i64 xDB, .int .i64 xDT, .int .i64 xDF] 73)).alloc (.cells #[.int .i64 xWheelsB, .slice xWheelsA xWheelsZ.length xWheelsC] 88)).alloc (.cells #[.int .i64 xSettingB, .slice xSettingA xSettingZ.length xSettingC] 88)) := ⟨_, rfl⟩
  have s1 : Hid (w.heap.size + 3 ≤ v1.heap.size) := Lib.hid (by rw [hu]; simp)
  rw [← hu] at cxD0 cxD1 cxD2 cxD3 cxWheels0 cxWheels1 cxSetting0 cxSetting1 hbel ⊢
  clear hu
  rcases Int.lt_or_le (leftOf xWheelsZ.length 1048576) 0 with k1 | k1
  · refine (szRegister_any xWheelsB xWheelsA xWheelsZ.length xWheelsC 1048576 v1 hxWheels.len (by omega) (by omega)).mono ?_
    rintro e v2 ⟨rfl, hb⟩
    go_wp2
    go_ret
    exact ⟨rfl, hbel.trans (hb.mono hbel.size)⟩
  have m1 := leftOf_le xWheelsZ.length 1048576 (by omega)
  refine (szRegister_any xWheelsB xWheelsA xWheelsZ.length xWheelsC 1048576 v1 hxWheels.len (by omega) (by omega)).mono ?_
  rintro e v2 ⟨rfl, hb⟩
  have s2 : Hid (v1.heap.size ≤ v2.heap.size) := Lib.hid hb.size
  replace cxD0 := kept hb cxD0
  replace cxD1 := kept hb cxD1
  replace cxD2 := kept hb cxD2
  replace cxD3 := kept hb cxD3
  replace cxWheels0 := kept hb cxWheels0
  replace cxWheels1 := kept hb cxWheels1
  replace cxSetting0 := kept hb cxSetting0
  replace cxSetting1 := kept hb cxSetting1
  replace hbel := hbel.trans (hb.mono hbel.size)
  clear hb
  have zxWheels := hxWheels.wf
  replace hxWheels := hxWheels.rd (by have := leftOf_len k1; omega)
  go_wp2_with fail
  rcases Int.lt_or_le (leftOf xSettingZ.length (leftOf xWheelsZ.length 1048576)) 0 with k2 | k2
  · refine (szRegister_any xSettingB xSettingA xSettingZ.length xSettingC (leftOf xWheelsZ.length 1048576) v2 hxSetting.len (by omega) (by omega)).mono ?_
    rintro e v3 ⟨rfl, hb⟩
    go_wp2
    go_ret
    exact ⟨rfl, hbel.trans (hb.mono hbel.size)⟩
  have m2 := leftOf_le xSettingZ.length (leftOf xWheelsZ.length 1048576) (by omega)
  refine (szRegister_any xSettingB xSettingA xSettingZ.length xSettingC (leftOf xWheelsZ.length 1048576) v2 hxSetting.len (by omega) (by omega)).mono ?_
  rintro e v3 ⟨rfl, hb⟩
  have s3 : Hid (v2.heap.size ≤ v3.heap.size) := Lib.hid hb.size
  replace cxD0 := kept hb cxD0
  replace cxD1 := kept hb cxD1
  replace cxD2 := kept hb cxD2
  replace cxD3 := kept hb cxD3
  replace cxWheels0 := kept hb cxWheels0
  replace cxWheels1 := kept hb cxWheels1
  replace cxSetting0 := kept hb cxSetting0
  replace cxSetting1 := kept hb cxSetting1
  replace hbel := hbel.trans (hb.mono hbel.size)
  clear hb
  have zxSetting := hxSetting.wf
  replace hxSetting := hxSetting.rd (by have := leftOf_len k2; omega)
  go_upto_region 8 with fail
  go_cut [10, 11] from 21 (fun sl10 sl11 wx => BoxReg v3 (turnR xDK xDB xDT xDF xWheelsB xWheelsZ xSettingB xSettingZ xTime).1 (turnR xDK xDB xDT xDF xWheelsB xWheelsZ xSettingB xSettingZ xTime).2.1 sl10 wx ∧ sl11 = .int .i64 (turnR xDK xDB xDT xDF xWheelsB xWheelsZ xSettingB xSettingZ xTime).2.2)
  case first =>
    have rcxD0 := kept_all cxD0
    have rcxD1 := kept_all cxD1
    have rcxD2 := kept_all cxD2
    have rcxD3 := kept_all cxD3
    have rcxWheels0 := kept_all cxWheels0
    have rcxWheels1 := kept_all cxWheels1
    have rcxSetting0 := kept_all cxSetting0
    have rcxSetting1 := kept_all cxSetting1
    clear cxD0 cxD1 cxD2 cxD3 cxWheels0 cxWheels1 cxSetting0 cxSetting1
    go_region_held3 (fun w' => Below v3.heap.size v3 w') (first | exact hk | exact (Below.refl _ _).drew | exact hk.alloc hk.size _ | exact (Below.refl _ _).drew.alloc (Nat.le_refl _) _ | exact (hk.alloc hk.size _).setCell hk.size _ | exact ((hk.setCell bg.out _).setCell bg.out _))
      (first | (go_at_call 60; have qB := ‹Below v3.heap.size v3 _›; ((with_reducible refine (toDrum_any xDK xDB xDT xDF ((v3.alloc (.cells #[.int .i64 0, .slice none 0 0] 60)).drew)).mono ?_)); rintro e v5 ⟨rfl, hb⟩; have bz := ((Bx.new v3 #[.int .i64 0, .slice none 0 0] 60).drew).below hb; have bg : Hid (v3.heap.size ≤ v3.drew.heap.size) := Lib.hid (by first | exact (‹Below v3.heap.size v3 v3.drew›).size | exact Nat.le_refl _); have hk := qB.trans (hb.mono qB.size)) | (go_at_call 60; have qB := ‹Below v3.heap.size v3 _›; ((with_reducible refine (toDrum_any xDK xDB xDT xDF v3.drew).mono ?_)); rintro e v5 ⟨rfl, hb⟩; (try replace bz := bz.below hb); have hk := qB.trans (hb.mono qB.size)) | (go_at_call 75; have qB := ‹Below v3.heap.size v3 _›; ((with_reducible refine (toRegister_any xWheelsB xWheelsA xWheelsC xWheelsZ (v5.alloc (.cells #[.int .i64 0, .slice none 0 0] 60)) (hxWheels.below (hbel.trans (qB.mono hbel.size)))).mono ?_)); rintro e v6 ⟨t5A, t5C, rfl, ot5, hb⟩; have bz := (Bx.new v5 #[.int .i64 0, .slice none 0 0] 60).below hb; have bg : Hid (v3.heap.size ≤ v5.heap.size) := Lib.hid (by first | exact (‹Below v3.heap.size v3 v5›).size | exact Nat.le_refl _); have hk := qB.trans (hb.mono qB.size)) | (go_at_call 75; have qB := ‹Below v3.heap.size v3 _›; ((with_reducible refine (toRegister_any xWheelsB xWheelsA xWheelsC xWheelsZ v5 (hxWheels.below (hbel.trans (qB.mono hbel.size)))).mono ?_)); rintro e v6 ⟨t5A, t5C, rfl, ot5, hb⟩; (try replace bz := bz.below hb); have hk := qB.trans (hb.mono qB.size)) | (go_at_call 75; have qB := ‹Below v3.heap.size v3 _›; ((with_reducible refine (toRegister_any xSettingB xSettingA xSettingC xSettingZ (v6.alloc (.cells #[.int .i64 0, .slice none 0 0] 60)) (hxSetting.below (hbel.trans (qB.mono hbel.size)))).mono ?_)); rintro e v7 ⟨t6A, t6C, rfl, ot6, hb⟩; replace ot5 := (ot5.alloc _).below hb; have bz := (Bx.new v6 #[.int .i64 0, .slice none 0 0] 60).below hb; have bg : Hid (v3.heap.size ≤ v6.heap.size) := Lib.hid (by first | exact (‹Below v3.heap.size v3 v6›).size | exact Nat.le_refl _); have hk := qB.trans (hb.mono qB.size)) | (go_at_call 75; have qB := ‹Below v3.heap.size v3 _›; ((with_reducible refine (toRegister_any xSettingB xSettingA xSettingC xSettingZ v6 (hxSetting.below (hbel.trans (qB.mono hbel.size)))).mono ?_)); rintro e v7 ⟨t6A, t6C, rfl, ot6, hb⟩; replace ot5 := ot5.below hb; (try replace bz := bz.below hb); have hk := qB.trans (hb.mono qB.size)) | (go_at_call 51; have qB := ‹Below v3.heap.size v3 _›; ((with_reducible refine (specTurnDrums xDK xDB xDT xDF xWheelsB t5A t5C xWheelsZ xSettingB t6A t6C xSettingZ xTime (v7.alloc (.cells #[.int .i64 0, .slice none 0 0] 60)) bxD (ot5.alloc _).rd zxWheels bxWheels (ot6.alloc _).rd zxSetting bxSetting bxTime).mono ?_)); rintro e v4 ⟨w0A, w0C, rfl, ow0, hb⟩; have bz := (Bx.new v7 #[.int .i64 0, .slice none 0 0] 60); have bg : Hid (v3.heap.size ≤ v7.heap.size) := Lib.hid (by first | exact (‹Below v3.heap.size v3 v7›).size | exact Nat.le_refl _); have bh := Lib.hid bz.lt; replace bz := bz.below hb; have bz0 := bz.at_ 0 rfl; have bf0 := bz.thaw 0; have bz1 := bz.at_ 1 rfl; have bf1 := bz.thaw 1; have hkU := qB; have hbU := hb; have hk := qB.trans (hb.mono qB.size)) | (go_at_call 51; have qB := ‹Below v3.heap.size v3 _›; ((with_reducible refine (specTurnDrums xDK xDB xDT xDF xWheelsB t5A t5C xWheelsZ xSettingB t6A t6C xSettingZ xTime v7 bxD ot5.rd zxWheels bxWheels ot6.rd zxSetting bxSetting bxTime).mono ?_)); rintro e v4 ⟨w0A, w0C, rfl, ow0, hb⟩; (try (have bh := Lib.hid bz.lt; replace bz := bz.below hb; have bz0 := bz.at_ 0 rfl; have bf0 := bz.thaw 0; have bz1 := bz.at_ 1 rfl; have bf1 := bz.thaw 1)); have hkU := qB; have hbU := hb; have hk := qB.trans (hb.mono qB.size)))
    all_goals (go_wp2_with fail; go_meet; case rel => first | with_reducible exact ⟨boxReg_after hkU hbU ow0, rfl⟩ | with_reducible exact ⟨boxReg_before hkU hbU ow0 bz bg bh, rfl⟩ | exact ⟨boxReg_after hkU hbU ow0, rfl⟩ | exact ⟨boxReg_before hkU hbU ow0 bz bg bh, rfl⟩)
  case rest =>
  obtain ⟨⟨B7, w0A, w0C, B7l, B7h, rfl, cw00, cw01, ow0, s8, s9, s10, s11, s12, hb⟩, rfl⟩ := hcut
  obtain ⟨v4, rfl⟩ : ∃ u, u = wc := ⟨_, rfl⟩
  have s13 : Hid (v3.heap.size ≤ v4.heap.size) := Lib.hid hb.size
  replace cxD0 := kept hb cxD0
  replace cxD1 := kept hb cxD1
  replace cxD2 := kept hb cxD2
  replace cxD3 := kept hb cxD3
  replace cxWheels0 := kept hb cxWheels0
  replace cxWheels1 := kept hb cxWheels1
  replace cxSetting0 := kept hb cxSetting0
  replace cxSetting1 := kept hb cxSetting1
  replace hbel := hbel.trans (hb.mono hbel.size)
  clear hb
  go_wp2_with fail
  refine (toRegister_any xWheelsB xWheelsA xWheelsC xWheelsZ v4 (hxWheels.below hbel)).mono ?_
  rintro e v8 ⟨t14A, t14C, rfl, ot14, hb⟩
  have s15 : Hid (v4.heap.size ≤ v8.heap.size) := Lib.hid hb.size
  replace cxD0 := kept hb cxD0
  replace cxD1 := kept hb cxD1
  replace cxD2 := kept hb cxD2
  replace cxD3 := kept hb cxD3
  replace cxWheels0 := kept hb cxWheels0
  replace cxWheels1 := kept hb cxWheels1
  replace cxSetting0 := kept hb cxSetting0
  replace cxSetting1 := kept hb cxSetting1
  replace cw00 := kept hb cw00
  replace cw01 := kept hb cw01
  replace ow0 := ow0.below hb
  replace hbel := hbel.trans (hb.mono hbel.size)
  clear hb
  have ha16 : Below v8.heap.size v8 (v8.alloc (.cells #[.int .i64 xWheelsB, .slice t14A xWheelsZ.length t14C] 60)) := (Below.refl _ _).alloc (by simp <;> omega) _
  replace cxD0 := kept ha16 cxD0
  replace cxD1 := kept ha16 cxD1
  replace cxD2 := kept ha16 cxD2
  replace cxD3 := kept ha16 cxD3
  replace cxWheels0 := kept ha16 cxWheels0
  replace cxWheels1 := kept ha16 cxWheels1
  replace cxSetting0 := kept ha16 cxSetting0
  replace cxSetting1 := kept ha16 cxSetting1
  replace cw00 := kept ha16 cw00
  replace cw01 := kept ha16 cw01
  replace ow0 := ow0.below ha16
  replace ot14 := ot14.below ha16
  replace hbel := hbel.trans (ha16.mono hbel.size)
  clear ha16
  have cx10 : (v8.alloc (.cells #[.int .i64 xWheelsB, .slice t14A xWheelsZ.length t14C] 60)).cell? ⟨v8.heap.size, 0, none⟩ = some (.int .i64 xWheelsB) := by go_simp
  have cx11 : (v8.alloc (.cells #[.int .i64 xWheelsB, .slice t14A xWheelsZ.length t14C] 60)).cell? ⟨v8.heap.size, 1, none⟩ = some (.slice t14A xWheelsZ.length t14C) := by go_simp
  go_wp2_with fail
  obtain ⟨v9, hu⟩ : ∃ u, u = (v8.alloc (.cells #[.int .i64 xWheelsB, .slice t14A xWheelsZ.length t14C] 60)) := ⟨_, rfl⟩
  have s18 : Hid (v8.heap.size + 1 ≤ v9.heap.size) := Lib.hid (by rw [hu]; simp)
  rw [← hu] at cxD0 cxD1 cxD2 cxD3 cxWheels0 cxWheels1 cxSetting0 cxSetting1 cw00 cw01 cx10 cx11 ow0 ot14 hbel ⊢
  clear hu
  refine (toRegister_any xSettingB xSettingA xSettingC xSettingZ v9 (hxSetting.below hbel)).mono ?_
  rintro e v10 ⟨t17A, t17C, rfl, ot17, hb⟩
  have s19 : Hid (v9.heap.size ≤ v10.heap.size) := Lib.hid hb.size
  replace cxD0 := kept hb cxD0
  replace cxD1 := kept hb cxD1
  replace cxD2 := kept hb cxD2
  replace cxD3 := kept hb cxD3
  replace cxWheels0 := kept hb cxWheels0
  replace cxWheels1 := kept hb cxWheels1
  replace cxSetting0 := kept hb cxSetting0
  replace cxSetting1 := kept hb cxSetting1
  replace cw00 := kept hb cw00
  replace cw01 := kept hb cw01
  replace cx10 := kept hb cx10
  replace cx11 := kept hb cx11
  replace ow0 := ow0.below hb
  replace ot14 := ot14.below hb
  replace hbel := hbel.trans (hb.mono hbel.size)
  clear hb
  have ha20 : Below v10.heap.size v10 (v10.alloc (.cells #[.int .i64 xSettingB, .slice t17A xSettingZ.length t17C] 60)) := (Below.refl _ _).alloc (by simp <;> omega) _
  replace cxD0 := kept ha20 cxD0
  replace cxD1 := kept ha20 cxD1
  replace cxD2 := kept ha20 cxD2
  replace cxD3 := kept ha20 cxD3
  replace cxWheels0 := kept ha20 cxWheels0
  replace cxWheels1 := kept ha20 cxWheels1
  replace cxSetting0 := kept ha20 cxSetting0
  replace cxSetting1 := kept ha20 cxSetting1
  replace cw00 := kept ha20 cw00
  replace cw01 := kept ha20 cw01
  replace cx10 := kept ha20 cx10
  replace cx11 := kept ha20 cx11
  replace ow0 := ow0.below ha20
  replace ot14 := ot14.below ha20
  replace ot17 := ot17.below ha20
  replace hbel := hbel.trans (ha20.mono hbel.size)
  clear ha20
  have cx20 : (v10.alloc (.cells #[.int .i64 xSettingB, .slice t17A xSettingZ.length t17C] 60)).cell? ⟨v10.heap.size, 0, none⟩ = some (.int .i64 xSettingB) := by go_simp
  have cx21 : (v10.alloc (.cells #[.int .i64 xSettingB, .slice t17A xSettingZ.length t17C] 60)).cell? ⟨v10.heap.size, 1, none⟩ = some (.slice t17A xSettingZ.length t17C) := by go_simp
  go_upto_region 11 with fail
  obtain ⟨v12, hu⟩ : ∃ u, u = (v10.alloc (.cells #[.int .i64 xSettingB, .slice t17A xSettingZ.length t17C] 60)) := ⟨_, rfl⟩
  have s21 : Hid (v10.heap.size + 1 ≤ v12.heap.size) := Lib.hid (by rw [hu]; simp)
  rw [← hu] at cxD0 cxD1 cxD2 cxD3 cxWheels0 cxWheels1 cxSetting0 cxSetting1 cw00 cw01 cx10 cx11 cx20 cx21 ow0 ot14 ot17 hbel ⊢
  clear hu
  go_cut [14, 15] from 21 (fun sl14 sl15 wx => BoxReg v12 (turnR xDK xDB xDT xDF xWheelsB xWheelsZ xSettingB xSettingZ xTime).1 (turnR xDK xDB xDT xDF xWheelsB xWheelsZ xSettingB xSettingZ xTime).2.1 sl14 wx ∧ sl15 = .int .i64 (turnR xDK xDB xDT xDF xWheelsB xWheelsZ xSettingB xSettingZ xTime).2.2)
  case first =>
    have rcxD0 := kept_all cxD0
    have rcxD1 := kept_all cxD1
    have rcxD2 := kept_all cxD2
    have rcxD3 := kept_all cxD3
    have rcx10 := kept_all cx10
    have rcx11 := kept_all cx11
    have rcx20 := kept_all cx20
    have rcx21 := kept_all cx21
    clear cxD0 cxD1 cxD2 cxD3 cxWheels0 cxWheels1 cxSetting0 cxSetting1 cw00 cw01 cx10 cx11 cx20 cx21
    go_region_held3 (fun w' => Below v12.heap.size v12 w') (first | exact hk | exact (Below.refl _ _).drew | exact hk.alloc hk.size _ | exact (Below.refl _ _).drew.alloc (Nat.le_refl _) _ | exact (hk.alloc hk.size _).setCell hk.size _ | exact ((hk.setCell bg.out _).setCell bg.out _))
      (first | (go_at_call 60; have qB := ‹Below v12.heap.size v12 _›; ((with_reducible refine (toDrum_any xDK xDB xDT xDF ((v12.alloc (.cells #[.int .i64 0, .slice none 0 0] 60)).drew)).mono ?_)); rintro e v13 ⟨rfl, hb⟩; have bz := ((Bx.new v12 #[.int .i64 0, .slice none 0 0] 60).drew).below hb; have bg : Hid (v12.heap.size ≤ v12.drew.heap.size) := Lib.hid (by first | exact (‹Below v12.heap.size v12 v12.drew›).size | exact Nat.le_refl _); have hk := qB.trans (hb.mono qB.size)) | (go_at_call 60; have qB := ‹Below v12.heap.size v12 _›; ((with_reducible refine (toDrum_any xDK xDB xDT xDF v12.drew).mono ?_)); rintro e v13 ⟨rfl, hb⟩; (try replace bz := bz.below hb); have hk := qB.trans (hb.mono qB.size)) | (go_at_call 50; have qB := ‹Below v12.heap.size v12 _›; ((with_reducible refine (implTurnDrums xDK xDB xDT xDF xWheelsB t14A t14C xWheelsZ xSettingB t17A t17C xSettingZ xTime (v13.alloc (.cells #[.int .i64 0, .slice none 0 0] 60)) bxD (ot14.below qB).rd zxWheels bxWheels (ot17.below qB).rd zxSetting bxSetting bxTime).mono ?_)); rintro e v11 ⟨g0A, g0C, rfl, og0, hb⟩; have bz := (Bx.new v13 #[.int .i64 0, .slice none 0 0] 60); have bg : Hid (v12.heap.size ≤ v13.heap.size) := Lib.hid (by first | exact (‹Below v12.heap.size v12 v13›).size | exact Nat.le_refl _); have bh := Lib.hid bz.lt; replace bz := bz.below hb; have bz0 := bz.at_ 0 rfl; have bf0 := bz.thaw 0; have bz1 := bz.at_ 1 rfl; have bf1 := bz.thaw 1; have hkU := qB; have hbU := hb; have hk := qB.trans (hb.mono qB.size)) | (go_at_call 50; have qB := ‹Below v12.heap.size v12 _›; ((with_reducible refine (implTurnDrums xDK xDB xDT xDF xWheelsB t14A t14C xWheelsZ xSettingB t17A t17C xSettingZ xTime v13 bxD (ot14.below qB).rd zxWheels bxWheels (ot17.below qB).rd zxSetting bxSetting bxTime).mono ?_)); rintro e v11 ⟨g0A, g0C, rfl, og0, hb⟩; (try (have bh := Lib.hid bz.lt; replace bz := bz.below hb; have bz0 := bz.at_ 0 rfl; have bf0 := bz.thaw 0; have bz1 := bz.at_ 1 rfl; have bf1 := bz.thaw 1)); have hkU := qB; have hbU := hb; have hk := qB.trans (hb.mono qB.size)))
    all_goals (go_wp2_with fail; go_meet; case rel => first | with_reducible exact ⟨boxReg_after hkU hbU og0, rfl⟩ | with_reducible exact ⟨boxReg_before hkU hbU og0 bz bg bh, rfl⟩ | exact ⟨boxReg_after hkU hbU og0, rfl⟩ | exact ⟨boxReg_before hkU hbU og0 bz bg bh, rfl⟩)
  case rest =>
  obtain ⟨⟨B23, g0A, g0C, B23l, B23h, rfl, cg00, cg01, og0, s24, s25, s26, s27, s28, hb⟩, rfl⟩ := hcut
  obtain ⟨v11, rfl⟩ : ∃ u, u = wc := ⟨_, rfl⟩
  have s29 : Hid (v12.heap.size ≤ v11.heap.size) := Lib.hid hb.size
  replace cxD0 := kept hb cxD0
  replace cxD1 := kept hb cxD1
  replace cxD2 := kept hb cxD2
  replace cxD3 := kept hb cxD3
  replace cxWheels0 := kept hb cxWheels0
  replace cxWheels1 := kept hb cxWheels1
  replace cxSetting0 := kept hb cxSetting0
  replace cxSetting1 := kept hb cxSetting1
  replace cw00 := kept hb cw00
  replace cw01 := kept hb cw01
  replace cx10 := kept hb cx10
  replace cx11 := kept hb cx11
  replace cx20 := kept hb cx20
  replace cx21 := kept hb cx21
  replace ow0 := ow0.below hb
  replace ot14 := ot14.below hb
  replace ot17 := ot17.below hb
  replace hbel := hbel.trans (hb.mono hbel.size)
  clear hb
  have q30 : regEqB (turnR xDK xDB xDT xDF xWheelsB xWheelsZ xSettingB xSettingZ xTime).1 (turnR xDK xDB xDT xDF xWheelsB xWheelsZ xSettingB xSettingZ xTime).1 (turnR xDK xDB xDT xDF xWheelsB xWheelsZ xSettingB xSettingZ xTime).2.1 (turnR xDK xDB xDT xDF xWheelsB xWheelsZ xSettingB xSettingZ xTime).2.1 = true := regEqB_self _ _
  go_wp2_with fail
  refine (eqRegister_any (turnR xDK xDB xDT xDF xWheelsB xWheelsZ xSettingB xSettingZ xTime).1 (turnR xDK xDB xDT xDF xWheelsB xWheelsZ xSettingB xSettingZ xTime).1 g0A w0A g0C w0C (turnR xDK xDB xDT xDF xWheelsB xWheelsZ xSettingB xSettingZ xTime).2.1 (turnR xDK xDB xDT xDF xWheelsB xWheelsZ xSettingB xSettingZ xTime).2.1 v11 og0.rd ow0.rd).mono ?_
  rintro e v14 ⟨rfl, hb⟩
  have s31 : Hid (v11.heap.size ≤ v14.heap.size) := Lib.hid hb.size
  replace cxD0 := kept hb cxD0
  replace cxD1 := kept hb cxD1
  replace cxD2 := kept hb cxD2
  replace cxD3 := kept hb cxD3
  replace cxWheels0 := kept hb cxWheels0
  replace cxWheels1 := kept hb cxWheels1
  replace cxSetting0 := kept hb cxSetting0
  replace cxSetting1 := kept hb cxSetting1
  replace cw00 := kept hb cw00
  replace cw01 := kept hb cw01
  replace cx10 := kept hb cx10
  replace cx11 := kept hb cx11
  replace cx20 := kept hb cx20
  replace cx21 := kept hb cx21
  replace cg00 := kept hb cg00
  replace cg01 := kept hb cg01
  replace ow0 := ow0.below hb
  replace ot14 := ot14.below hb
  replace ot17 := ot17.below hb
  replace og0 := og0.below hb
  replace hbel := hbel.trans (hb.mono hbel.size)
  clear hb
  have q32 : regEqB xWheelsB xWheelsB xWheelsZ xWheelsZ = true := regEqB_self _ _
  go_wp2_with fail
  have rcxD0 := kept_all cxD0
  have rcxD1 := kept_all cxD1
  have rcxD2 := kept_all cxD2
  have rcxD3 := kept_all cxD3
  have rcxWheels0 := kept_all cxWheels0
  have rcxWheels1 := kept_all cxWheels1
  have rcxSetting0 := kept_all cxSetting0
  have rcxSetting1 := kept_all cxSetting1
  have rcw00 := kept_all cw00
  have rcw01 := kept_all cw01
  have rcx10 := kept_all cx10
  have rcx11 := kept_all cx11
  have rcx20 := kept_all cx20
  have rcx21 := kept_all cx21
  have rcg00 := kept_all cg00
  have rcg01 := kept_all cg01
  go_region_held3 (fun w' => Below v14.heap.size v14 w') (first | exact hk | exact (Below.refl _ _).drew | exact hk.alloc hk.size _ | exact (hk.alloc hk.size _).setCell hk.size _)
    (first | (go_at_call 75; have qB := ‹Below v14.heap.size v14 _›; ((with_reducible refine (toRegister_any xWheelsB xWheelsA xWheelsC xWheelsZ _ (hxWheels.below (hbel.trans (qB.mono hbel.size)))).mono ?_)); rintro e v16 ⟨t33A, t33C, rfl, ot33, hb⟩; have hk := qB.trans (hb.mono qB.size)) | (go_at_call 76; have qB := ‹Below v14.heap.size v14 _›; refine (eqRegister_any xWheelsB xWheelsB t14A t33A t14C t33C xWheelsZ xWheelsZ _ (ot14.below qB).rd (by first | exact ot33.rd | exact (ot33.alloc _).rd)).mono ?_; rintro e v15 ⟨rfl, hb⟩; have hk := qB.trans (hb.mono qB.size)))
  have hb : Below v14.heap.size v14 v15 := by assumption
  clear rcxD0 rcxD1 rcxD2 rcxD3 rcxWheels0 rcxWheels1 rcxSetting0 rcxSetting1 rcw00 rcw01 rcx10 rcx11 rcx20 rcx21 rcg00 rcg01
  clear ot33
  have s34 : Hid (v14.heap.size ≤ v15.heap.size) := Lib.hid hb.size
  replace cxD0 := kept hb cxD0
  replace cxD1 := kept hb cxD1
  replace cxD2 := kept hb cxD2
  replace cxD3 := kept hb cxD3
  replace cxWheels0 := kept hb cxWheels0
  replace cxWheels1 := kept hb cxWheels1
  replace cxSetting0 := kept hb cxSetting0
  replace cxSetting1 := kept hb cxSetting1
  replace cw00 := kept hb cw00
  replace cw01 := kept hb cw01
  replace cx10 := kept hb cx10
  replace cx11 := kept hb cx11
  replace cx20 := kept hb cx20
  replace cx21 := kept hb cx21
  replace cg00 := kept hb cg00
  replace cg01 := kept hb cg01
  replace ow0 := ow0.below hb
  replace ot14 := ot14.below hb
  replace ot17 := ot17.below hb
  replace og0 := og0.below hb
  replace hbel := hbel.trans (hb.mono hbel.size)
  clear hb
  have q35 : regEqB xSettingB xSettingB xSettingZ xSettingZ = true := regEqB_self _ _
  go_wp2_with fail
  have rcxD0 := kept_all cxD0
  have rcxD1 := kept_all cxD1
  have rcxD2 := kept_all cxD2
  have rcxD3 := kept_all cxD3
  have rcxWheels0 := kept_all cxWheels0
  have rcxWheels1 := kept_all cxWheels1
  have rcxSetting0 := kept_all cxSetting0
  have rcxSetting1 := kept_all cxSetting1
  have rcw00 := kept_all cw00
  have rcw01 := kept_all cw01
  have rcx10 := kept_all cx10
  have rcx11 := kept_all cx11
  have rcx20 := kept_all cx20
  have rcx21 := kept_all cx21
  have rcg00 := kept_all cg00
  have rcg01 := kept_all cg01
  go_region_held3 (fun w' => Below v15.heap.size v15 w') (first | exact hk | exact (Below.refl _ _).drew | exact hk.alloc hk.size _ | exact (hk.alloc hk.size _).setCell hk.size _)
    (first | (go_at_call 75; have qB := ‹Below v15.heap.size v15 _›; ((with_reducible refine (toRegister_any xSettingB xSettingA xSettingC xSettingZ _ (hxSetting.below (hbel.trans (qB.mono hbel.size)))).mono ?_)); rintro e v18 ⟨t36A, t36C, rfl, ot36, hb⟩; have hk := qB.trans (hb.mono qB.size)) | (go_at_call 76; have qB := ‹Below v15.heap.size v15 _›; refine (eqRegister_any xSettingB xSettingB t17A t36A t17C t36C xSettingZ xSettingZ _ (ot17.below qB).rd (by first | exact ot36.rd | exact (ot36.alloc _).rd)).mono ?_; rintro e v17 ⟨rfl, hb⟩; have hk := qB.trans (hb.mono qB.size)))
  have hb : Below v15.heap.size v15 v17 := by assumption
  clear rcxD0 rcxD1 rcxD2 rcxD3 rcxWheels0 rcxWheels1 rcxSetting0 rcxSetting1 rcw00 rcw01 rcx10 rcx11 rcx20 rcx21 rcg00 rcg01
  clear ot36
  have s37 : Hid (v15.heap.size ≤ v17.heap.size) := Lib.hid hb.size
  replace cxD0 := kept hb cxD0
  replace cxD1 := kept hb cxD1
  replace cxD2 := kept hb cxD2
  replace cxD3 := kept hb cxD3
  replace cxWheels0 := kept hb cxWheels0
  replace cxWheels1 := kept hb cxWheels1
  replace cxSetting0 := kept hb cxSetting0
  replace cxSetting1 := kept hb cxSetting1
  replace cw00 := kept hb cw00
  replace cw01 := kept hb cw01
  replace cx10 := kept hb cx10
  replace cx11 := kept hb cx11
  replace cx20 := kept hb cx20
  replace cx21 := kept hb cx21
  replace cg00 := kept hb cg00
  replace cg01 := kept hb cg01
  replace ow0 := ow0.below hb
  replace ot14 := ot14.below hb
  replace ot17 := ot17.below hb
  replace og0 := og0.below hb
  replace hbel := hbel.trans (hb.mono hbel.size)
  clear hb
  go_wp2_with fail
  refine (markRegister_any _ _ _ xWheelsB t14A t14C 1 xWheelsZ v17 ot14 (by have := ow0.len; have := ot14.len; have := ot17.len; have := og0.len; have := hxWheels.len; have := hxSetting.len; omega) (by have := ow0.len; have := ot14.len; have := ot17.len; have := og0.len; have := hxWheels.len; have := hxSetting.len; omega)).mono ?_
  rintro e v19 ⟨rfl, om, ht⟩
  have s38 : Hid (v17.heap.size ≤ v19.heap.size) := Lib.hid ht.size
  clear ot14
  have ot14 := om
  clear om
  replace cxD0 := keptT ht cxD0 (by have := s1.out; have := s2.out; have := s3.out; have := s8.out; have := s9.out; have := s10.out; have := s11.out; have := s12.out; have := s13.out; have := s15.out; have := s18.out; have := s19.out; have := s21.out; have := s24.out; have := s25.out; have := s26.out; have := s27.out; have := s28.out; have := s29.out; have := s31.out; have := s34.out; have := s37.out; have := s38.out; omega)
  replace cxD1 := keptT ht cxD1 (by have := s1.out; have := s2.out; have := s3.out; have := s8.out; have := s9.out; have := s10.out; have := s11.out; have := s12.out; have := s13.out; have := s15.out; have := s18.out; have := s19.out; have := s21.out; have := s24.out; have := s25.out; have := s26.out; have := s27.out; have := s28.out; have := s29.out; have := s31.out; have := s34.out; have := s37.out; have := s38.out; omega)
  replace cxD2 := keptT ht cxD2 (by have := s1.out; have := s2.out; have := s3.out; have := s8.out; have := s9.out; have := s10.out; have := s11.out; have := s12.out; have := s13.out; have := s15.out; have := s18.out; have := s19.out; have := s21.out; have := s24.out; have := s25.out; have := s26.out; have := s27.out; have := s28.out; have := s29.out; have := s31.out; have := s34.out; have := s37.out; have := s38.out; omega)
  replace cxD3 := keptT ht cxD3 (by have := s1.out; have := s2.out; have := s3.out; have := s8.out; have := s9.out; have := s10.out; have := s11.out; have := s12.out; have := s13.out; have := s15.out; have := s18.out; have := s19.out; have := s21.out; have := s24.out; have := s25.out; have := s26.out; have := s27.out; have := s28.out; have := s29.out; have := s31.out; have := s34.out; have := s37.out; have := s38.out; omega)
  replace cxWheels0 := keptT ht cxWheels0 (by have := s1.out; have := s2.out; have := s3.out; have := s8.out; have := s9.out; have := s10.out; have := s11.out; have := s12.out; have := s13.out; have := s15.out; have := s18.out; have := s19.out; have := s21.out; have := s24.out; have := s25.out; have := s26.out; have := s27.out; have := s28.out; have := s29.out; have := s31.out; have := s34.out; have := s37.out; have := s38.out; omega)
  replace cxWheels1 := keptT ht cxWheels1 (by have := s1.out; have := s2.out; have := s3.out; have := s8.out; have := s9.out; have := s10.out; have := s11.out; have := s12.out; have := s13.out; have := s15.out; have := s18.out; have := s19.out; have := s21.out; have := s24.out; have := s25.out; have := s26.out; have := s27.out; have := s28.out; have := s29.out; have := s31.out; have := s34.out; have := s37.out; have := s38.out; omega)
  replace cxSetting0 := keptT ht cxSetting0 (by have := s1.out; have := s2.out; have := s3.out; have := s8.out; have := s9.out; have := s10.out; have := s11.out; have := s12.out; have := s13.out; have := s15.out; have := s18.out; have := s19.out; have := s21.out; have := s24.out; have := s25.out; have := s26.out; have := s27.out; have := s28.out; have := s29.out; have := s31.out; have := s34.out; have := s37.out; have := s38.out; omega)
  replace cxSetting1 := keptT ht cxSetting1 (by have := s1.out; have := s2.out; have := s3.out; have := s8.out; have := s9.out; have := s10.out; have := s11.out; have := s12.out; have := s13.out; have := s15.out; have := s18.out; have := s19.out; have := s21.out; have := s24.out; have := s25.out; have := s26.out; have := s27.out; have := s28.out; have := s29.out; have := s31.out; have := s34.out; have := s37.out; have := s38.out; omega)
  replace cw00 := keptT ht cw00 (by have := s1.out; have := s2.out; have := s3.out; have := s8.out; have := s9.out; have := s10.out; have := s11.out; have := s12.out; have := s13.out; have := s15.out; have := s18.out; have := s19.out; have := s21.out; have := s24.out; have := s25.out; have := s26.out; have := s27.out; have := s28.out; have := s29.out; have := s31.out; have := s34.out; have := s37.out; have := s38.out; omega)
  replace cw01 := keptT ht cw01 (by have := s1.out; have := s2.out; have := s3.out; have := s8.out; have := s9.out; have := s10.out; have := s11.out; have := s12.out; have := s13.out; have := s15.out; have := s18.out; have := s19.out; have := s21.out; have := s24.out; have := s25.out; have := s26.out; have := s27.out; have := s28.out; have := s29.out; have := s31.out; have := s34.out; have := s37.out; have := s38.out; omega)
  replace cx10 := keptT ht cx10 (by have := s1.out; have := s2.out; have := s3.out; have := s8.out; have := s9.out; have := s10.out; have := s11.out; have := s12.out; have := s13.out; have := s15.out; have := s18.out; have := s19.out; have := s21.out; have := s24.out; have := s25.out; have := s26.out; have := s27.out; have := s28.out; have := s29.out; have := s31.out; have := s34.out; have := s37.out; have := s38.out; omega)
  replace cx11 := keptT ht cx11 (by have := s1.out; have := s2.out; have := s3.out; have := s8.out; have := s9.out; have := s10.out; have := s11.out; have := s12.out; have := s13.out; have := s15.out; have := s18.out; have := s19.out; have := s21.out; have := s24.out; have := s25.out; have := s26.out; have := s27.out; have := s28.out; have := s29.out; have := s31.out; have := s34.out; have := s37.out; have := s38.out; omega)
  replace cx20 := keptT ht cx20 (by have := s1.out; have := s2.out; have := s3.out; have := s8.out; have := s9.out; have := s10.out; have := s11.out; have := s12.out; have := s13.out; have := s15.out; have := s18.out; have := s19.out; have := s21.out; have := s24.out; have := s25.out; have := s26.out; have := s27.out; have := s28.out; have := s29.out; have := s31.out; have := s34.out; have := s37.out; have := s38.out; omega)
  replace cx21 := keptT ht cx21 (by have := s1.out; have := s2.out; have := s3.out; have := s8.out; have := s9.out; have := s10.out; have := s11.out; have := s12.out; have := s13.out; have := s15.out; have := s18.out; have := s19.out; have := s21.out; have := s24.out; have := s25.out; have := s26.out; have := s27.out; have := s28.out; have := s29.out; have := s31.out; have := s34.out; have := s37.out; have := s38.out; omega)
  replace cg00 := keptT ht cg00 (by have := s1.out; have := s2.out; have := s3.out; have := s8.out; have := s9.out; have := s10.out; have := s11.out; have := s12.out; have := s13.out; have := s15.out; have := s18.out; have := s19.out; have := s21.out; have := s24.out; have := s25.out; have := s26.out; have := s27.out; have := s28.out; have := s29.out; have := s31.out; have := s34.out; have := s37.out; have := s38.out; omega)
  replace cg01 := keptT ht cg01 (by have := s1.out; have := s2.out; have := s3.out; have := s8.out; have := s9.out; have := s10.out; have := s11.out; have := s12.out; have := s13.out; have := s15.out; have := s18.out; have := s19.out; have := s21.out; have := s24.out; have := s25.out; have := s26.out; have := s27.out; have := s28.out; have := s29.out; have := s31.out; have := s34.out; have := s37.out; have := s38.out; omega)
  replace ow0 := ow0.touch ht (by have := s1.out; have := s2.out; have := s3.out; have := s8.out; have := s9.out; have := s10.out; have := s11.out; have := s12.out; have := s13.out; have := s15.out; have := s18.out; have := s19.out; have := s21.out; have := s24.out; have := s25.out; have := s26.out; have := s27.out; have := s28.out; have := s29.out; have := s31.out; have := s34.out; have := s37.out; have := s38.out; omega)
  replace ot17 := ot17.touch ht (by have := s1.out; have := s2.out; have := s3.out; have := s8.out; have := s9.out; have := s10.out; have := s11.out; have := s12.out; have := s13.out; have := s15.out; have := s18.out; have := s19.out; have := s21.out; have := s24.out; have := s25.out; have := s26.out; have := s27.out; have := s28.out; have := s29.out; have := s31.out; have := s34.out; have := s37.out; have := s38.out; omega)
  replace og0 := og0.touch ht (by have := s1.out; have := s2.out; have := s3.out; have := s8.out; have := s9.out; have := s10.out; have := s11.out; have := s12.out; have := s13.out; have := s15.out; have := s18.out; have := s19.out; have := s21.out; have := s24.out; have := s25.out; have := s26.out; have := s27.out; have := s28.out; have := s29.out; have := s31.out; have := s34.out; have := s37.out; have := s38.out; omega)
  replace hbel := hbel.trans (ht.below (by have := s1.out; have := s2.out; have := s3.out; have := s8.out; have := s9.out; have := s10.out; have := s11.out; have := s12.out; have := s13.out; have := s15.out; have := s18.out; have := s19.out; have := s21.out; have := s24.out; have := s25.out; have := s26.out; have := s27.out; have := s28.out; have := s29.out; have := s31.out; have := s34.out; have := s37.out; have := s38.out; omega) hbel.size)
  clear ht
  go_wp2_with fail
  refine (markRegister_any _ _ _ xSettingB t17A t17C (1 + (xWheelsZ.length : Int)) xSettingZ v19 ot17 (by have := ow0.len; have := ot14.len; have := ot17.len; have := og0.len; have := hxWheels.len; have := hxSetting.len; omega) (by have := ow0.len; have := ot14.len; have := ot17.len; have := og0.len; have := hxWheels.len; have := hxSetting.len; omega)).mono ?_
  rintro e v20 ⟨rfl, om, ht⟩
  have s39 : Hid (v19.heap.size ≤ v20.heap.size) := Lib.hid ht.size
  clear ot17
  have ot17 := om
  clear om
  replace cxD0 := keptT ht cxD0 (by have := s1.out; have := s2.out; have := s3.out; have := s8.out; have := s9.out; have := s10.out; have := s11.out; have := s12.out; have := s13.out; have := s15.out; have := s18.out; have := s19.out; have := s21.out; have := s24.out; have := s25.out; have := s26.out; have := s27.out; have := s28.out; have := s29.out; have := s31.out; have := s34.out; have := s37.out; have := s38.out; have := s39.out; omega)
  replace cxD1 := keptT ht cxD1 (by have := s1.out; have := s2.out; have := s3.out; have := s8.out; have := s9.out; have := s10.out; have := s11.out; have := s12.out; have := s13.out; have := s15.out; have := s18.out; have := s19.out; have := s21.out; have := s24.out; have := s25.out; have := s26.out; have := s27.out; have := s28.out; have := s29.out; have := s31.out; have := s34.out; have := s37.out; have := s38.out; have := s39.out; omega)
  replace cxD2 := keptT ht cxD2 (by have := s1.out; have := s2.out; have := s3.out; have := s8.out; have := s9.out; have := s10.out; have := s11.out; have := s12.out; have := s13.out; have := s15.out; have := s18.out; have := s19.out; have := s21.out; have := s24.out; have := s25.out; have := s26.out; have := s27.out; have := s28.out; have := s29.out; have := s31.out; have := s34.out; have := s37.out; have := s38.out; have := s39.out; omega)
  replace cxD3 := keptT ht cxD3 (by have := s1.out; have := s2.out; have := s3.out; have := s8.out; have := s9.out; have := s10.out; have := s11.out; have := s12.out; have := s13.out; have := s15.out; have := s18.out; have := s19.out; have := s21.out; have := s24.out; have := s25.out; have := s26.out; have := s27.out; have := s28.out; have := s29.out; have := s31.out; have := s34.out; have := s37.out; have := s38.out; have := s39.out; omega)
  replace cxWheels0 := keptT ht cxWheels0 (by have := s1.out; have := s2.out; have := s3.out; have := s8.out; have := s9.out; have := s10.out; have := s11.out; have := s12.out; have := s13.out; have := s15.out; have := s18.out; have := s19.out; have := s21.out; have := s24.out; have := s25.out; have := s26.out; have := s27.out; have := s28.out; have := s29.out; have := s31.out; have := s34.out; have := s37.out; have := s38.out; have := s39.out; omega)
  replace cxWheels1 := keptT ht cxWheels1 (by have := s1.out; have := s2.out; have := s3.out; have := s8.out; have := s9.out; have := s10.out; have := s11.out; have := s12.out; have := s13.out; have := s15.out; have := s18.out; have := s19.out; have := s21.out; have := s24.out; have := s25.out; have := s26.out; have := s27.out; have := s28.out; have := s29.out; have := s31.out; have := s34.out; have := s37.out; have := s38.out; have := s39.out; omega)
  replace cxSetting0 := keptT ht cxSetting0 (by have := s1.out; have := s2.out; have := s3.out; have := s8.out; have := s9.out; have := s10.out; have := s11.out; have := s12.out; have := s13.out; have := s15.out; have := s18.out; have := s19.out; have := s21.out; have := s24.out; have := s25.out; have := s26.out; have := s27.out; have := s28.out; have := s29.out; have := s31.out; have := s34.out; have := s37.out; have := s38.out; have := s39.out; omega)
  replace cxSetting1 := keptT ht cxSetting1 (by have := s1.out; have := s2.out; have := s3.out; have := s8.out; have := s9.out; have := s10.out; have := s11.out; have := s12.out; have := s13.out; have := s15.out; have := s18.out; have := s19.out; have := s21.out; have := s24.out; have := s25.out; have := s26.out; have := s27.out; have := s28.out; have := s29.out; have := s31.out; have := s34.out; have := s37.out; have := s38.out; have := s39.out; omega)
  replace cw00 := keptT ht cw00 (by have := s1.out; have := s2.out; have := s3.out; have := s8.out; have := s9.out; have := s10.out; have := s11.out; have := s12.out; have := s13.out; have := s15.out; have := s18.out; have := s19.out; have := s21.out; have := s24.out; have := s25.out; have := s26.out; have := s27.out; have := s28.out; have := s29.out; have := s31.out; have := s34.out; have := s37.out; have := s38.out; have := s39.out; omega)
  replace cw01 := keptT ht cw01 (by have := s1.out; have := s2.out; have := s3.out; have := s8.out; have := s9.out; have := s10.out; have := s11.out; have := s12.out; have := s13.out; have := s15.out; have := s18.out; have := s19.out; have := s21.out; have := s24.out; have := s25.out; have := s26.out; have := s27.out; have := s28.out; have := s29.out; have := s31.out; have := s34.out; have := s37.out; have := s38.out; have := s39.out; omega)
  replace cx10 := keptT ht cx10 (by have := s1.out; have := s2.out; have := s3.out; have := s8.out; have := s9.out; have := s10.out; have := s11.out; have := s12.out; have := s13.out; have := s15.out; have := s18.out; have := s19.out; have := s21.out; have := s24.out; have := s25.out; have := s26.out; have := s27.out; have := s28.out; have := s29.out; have := s31.out; have := s34.out; have := s37.out; have := s38.out; have := s39.out; omega)
  replace cx11 := keptT ht cx11 (by have := s1.out; have := s2.out; have := s3.out; have := s8.out; have := s9.out; have := s10.out; have := s11.out; have := s12.out; have := s13.out; have := s15.out; have := s18.out; have := s19.out; have := s21.out; have := s24.out; have := s25.out; have := s26.out; have := s27.out; have := s28.out; have := s29.out; have := s31.out; have := s34.out; have := s37.out; have := s38.out; have := s39.out; omega)
  replace cx20 := keptT ht cx20 (by have := s1.out; have := s2.out; have := s3.out; have := s8.out; have := s9.out; have := s10.out; have := s11.out; have := s12.out; have := s13.out; have := s15.out; have := s18.out; have := s19.out; have := s21.out; have := s24.out; have := s25.out; have := s26.out; have := s27.out; have := s28.out; have := s29.out; have := s31.out; have := s34.out; have := s37.out; have := s38.out; have := s39.out; omega)
  replace cx21 := keptT ht cx21 (by have := s1.out; have := s2.out; have := s3.out; have := s8.out; have := s9.out; have := s10.out; have := s11.out; have := s12.out; have := s13.out; have := s15.out; have := s18.out; have := s19.out; have := s21.out; have := s24.out; have := s25.out; have := s26.out; have := s27.out; have := s28.out; have := s29.out; have := s31.out; have := s34.out; have := s37.out; have := s38.out; have := s39.out; omega)
  replace cg00 := keptT ht cg00 (by have := s1.out; have := s2.out; have := s3.out; have := s8.out; have := s9.out; have := s10.out; have := s11.out; have := s12.out; have := s13.out; have := s15.out; have := s18.out; have := s19.out; have := s21.out; have := s24.out; have := s25.out; have := s26.out; have := s27.out; have := s28.out; have := s29.out; have := s31.out; have := s34.out; have := s37.out; have := s38.out; have := s39.out; omega)
  replace cg01 := keptT ht cg01 (by have := s1.out; have := s2.out; have := s3.out; have := s8.out; have := s9.out; have := s10.out; have := s11.out; have := s12.out; have := s13.out; have := s15.out; have := s18.out; have := s19.out; have := s21.out; have := s24.out; have := s25.out; have := s26.out; have := s27.out; have := s28.out; have := s29.out; have := s31.out; have := s34.out; have := s37.out; have := s38.out; have := s39.out; omega)
  replace ow0 := ow0.touch ht (by have := s1.out; have := s2.out; have := s3.out; have := s8.out; have := s9.out; have := s10.out; have := s11.out; have := s12.out; have := s13.out; have := s15.out; have := s18.out; have := s19.out; have := s21.out; have := s24.out; have := s25.out; have := s26.out; have := s27.out; have := s28.out; have := s29.out; have := s31.out; have := s34.out; have := s37.out; have := s38.out; have := s39.out; omega)
  replace ot14 := ot14.touch ht (by have := s1.out; have := s2.out; have := s3.out; have := s8.out; have := s9.out; have := s10.out; have := s11.out; have := s12.out; have := s13.out; have := s15.out; have := s18.out; have := s19.out; have := s21.out; have := s24.out; have := s25.out; have := s26.out; have := s27.out; have := s28.out; have := s29.out; have := s31.out; have := s34.out; have := s37.out; have := s38.out; have := s39.out; omega)
  replace og0 := og0.touch ht (by have := s1.out; have := s2.out; have := s3.out; have := s8.out; have := s9.out; have := s10.out; have := s11.out; have := s12.out; have := s13.out; have := s15.out; have := s18.out; have := s19.out; have := s21.out; have := s24.out; have := s25.out; have := s26.out; have := s27.out; have := s28.out; have := s29.out; have := s31.out; have := s34.out; have := s37.out; have := s38.out; have := s39.out; omega)
  replace hbel := hbel.trans (ht.below (by have := s1.out; have := s2.out; have := s3.out; have := s8.out; have := s9.out; have := s10.out; have := s11.out; have := s12.out; have := s13.out; have := s15.out; have := s18.out; have := s19.out; have := s21.out; have := s24.out; have := s25.out; have := s26.out; have := s27.out; have := s28.out; have := s29.out; have := s31.out; have := s34.out; have := s37.out; have := s38.out; have := s39.out; omega) hbel.size)
  clear ht
  have q40 : regEqB (turnR xDK xDB xDT xDF xWheelsB xWheelsZ xSettingB xSettingZ xTime).1 (turnR xDK xDB xDT xDF xWheelsB xWheelsZ xSettingB xSettingZ xTime).1 (turnR xDK xDB xDT xDF xWheelsB xWheelsZ xSettingB xSettingZ xTime).2.1 (turnR xDK xDB xDT xDF xWheelsB xWheelsZ xSettingB xSettingZ xTime).2.1 = true := regEqB_self _ _
  go_wp2_with fail
  refine (eqRegister_any (turnR xDK xDB xDT xDF xWheelsB xWheelsZ xSettingB xSettingZ xTime).1 (turnR xDK xDB xDT xDF xWheelsB xWheelsZ xSettingB xSettingZ xTime).1 g0A w0A g0C w0C (turnR xDK xDB xDT xDF xWheelsB xWheelsZ xSettingB xSettingZ xTime).2.1 (turnR xDK xDB xDT xDF xWheelsB xWheelsZ xSettingB xSettingZ xTime).2.1 v20 og0.rd ow0.rd).mono ?_
  rintro e v21 ⟨rfl, hb⟩
  have s41 : Hid (v20.heap.size ≤ v21.heap.size) := Lib.hid hb.size
  replace cxD0 := kept hb cxD0
  replace cxD1 := kept hb cxD1
  replace cxD2 := kept hb cxD2
  replace cxD3 := kept hb cxD3
  replace cxWheels0 := kept hb cxWheels0
  replace cxWheels1 := kept hb cxWheels1
  replace cxSetting0 := kept hb cxSetting0
  replace cxSetting1 := kept hb cxSetting1
  replace cw00 := kept hb cw00
  replace cw01 := kept hb cw01
  replace cx10 := kept hb cx10
  replace cx11 := kept hb cx11
  replace cx20 := kept hb cx20
  replace cx21 := kept hb cx21
  replace cg00 := kept hb cg00
  replace cg01 := kept hb cg01
  replace ow0 := ow0.below hb
  replace ot14 := ot14.below hb
  replace ot17 := ot17.below hb
  replace og0 := og0.below hb
  replace hbel := hbel.trans (hb.mono hbel.size)
  clear hb
  go_wp2_with fail
  refine (markRegister_any _ _ _ (turnR xDK xDB xDT xDF xWheelsB xWheelsZ xSettingB xSettingZ xTime).1 g0A g0C 1 (turnR xDK xDB xDT xDF xWheelsB xWheelsZ xSettingB xSettingZ xTime).2.1 v21 og0 (by have := ow0.len; have := ot14.len; have := ot17.len; have := og0.len; have := hxWheels.len; have := hxSetting.len; omega) (by have := ow0.len; have := ot14.len; have := ot17.len; have := og0.len; have := hxWheels.len; have := hxSetting.len; omega)).mono ?_
  rintro e v22 ⟨rfl, om, ht⟩
  have s42 : Hid (v21.heap.size ≤ v22.heap.size) := Lib.hid ht.size
  clear og0
  have og0 := om
  clear om
  replace cxD0 := keptT ht cxD0 (by have := s1.out; have := s2.out; have := s3.out; have := s8.out; have := s9.out; have := s10.out; have := s11.out; have := s12.out; have := s13.out; have := s15.out; have := s18.out; have := s19.out; have := s21.out; have := s24.out; have := s25.out; have := s26.out; have := s27.out; have := s28.out; have := s29.out; have := s31.out; have := s34.out; have := s37.out; have := s38.out; have := s39.out; have := s41.out; have := s42.out; omega)
  replace cxD1 := keptT ht cxD1 (by have := s1.out; have := s2.out; have := s3.out; have := s8.out; have := s9.out; have := s10.out; have := s11.out; have := s12.out; have := s13.out; have := s15.out; have := s18.out; have := s19.out; have := s21.out; have := s24.out; have := s25.out; have := s26.out; have := s27.out; have := s28.out; have := s29.out; have := s31.out; have := s34.out; have := s37.out; have := s38.out; have := s39.out; have := s41.out; have := s42.out; omega)
  replace cxD2 := keptT ht cxD2 (by have := s1.out; have := s2.out; have := s3.out; have := s8.out; have := s9.out; have := s10.out; have := s11.out; have := s12.out; have := s13.out; have := s15.out; have := s18.out; have := s19.out; have := s21.out; have := s24.out; have := s25.out; have := s26.out; have := s27.out; have := s28.out; have := s29.out; have := s31.out; have := s34.out; have := s37.out; have := s38.out; have := s39.out; have := s41.out; have := s42.out; omega)
  replace cxD3 := keptT ht cxD3 (by have := s1.out; have := s2.out; have := s3.out; have := s8.out; have := s9.out; have := s10.out; have := s11.out; have := s12.out; have := s13.out; have := s15.out; have := s18.out; have := s19.out; have := s21.out; have := s24.out; have := s25.out; have := s26.out; have := s27.out; have := s28.out; have := s29.out; have := s31.out; have := s34.out; have := s37.out; have := s38.out; have := s39.out; have := s41.out; have := s42.out; omega)
  replace cxWheels0 := keptT ht cxWheels0 (by have := s1.out; have := s2.out; have := s3.out; have := s8.out; have := s9.out; have := s10.out; have := s11.out; have := s12.out; have := s13.out; have := s15.out; have := s18.out; have := s19.out; have := s21.out; have := s24.out; have := s25.out; have := s26.out; have := s27.out; have := s28.out; have := s29.out; have := s31.out; have := s34.out; have := s37.out; have := s38.out; have := s39.out; have := s41.out; have := s42.out; omega)
  replace cxWheels1 := keptT ht cxWheels1 (by have := s1.out; have := s2.out; have := s3.out; have := s8.out; have := s9.out; have := s10.out; have := s11.out; have := s12.out; have := s13.out; have := s15.out; have := s18.out; have := s19.out; have := s21.out; have := s24.out; have := s25.out; have := s26.out; have := s27.out; have := s28.out; have := s29.out; have := s31.out; have := s34.out; have := s37.out; have := s38.out; have := s39.out; have := s41.out; have := s42.out; omega)
  replace cxSetting0 := keptT ht cxSetting0 (by have := s1.out; have := s2.out; have := s3.out; have := s8.out; have := s9.out; have := s10.out; have := s11.out; have := s12.out; have := s13.out; have := s15.out; have := s18.out; have := s19.out; have := s21.out; have := s24.out; have := s25.out; have := s26.out; have := s27.out; have := s28.out; have := s29.out; have := s31.out; have := s34.out; have := s37.out; have := s38.out; have := s39.out; have := s41.out; have := s42.out; omega)
  replace cxSetting1 := keptT ht cxSetting1 (by have := s1.out; have := s2.out; have := s3.out; have := s8.out; have := s9.out; have := s10.out; have := s11.out; have := s12.out; have := s13.out; have := s15.out; have := s18.out; have := s19.out; have := s21.out; have := s24.out; have := s25.out; have := s26.out; have := s27.out; have := s28.out; have := s29.out; have := s31.out; have := s34.out; have := s37.out; have := s38.out; have := s39.out; have := s41.out; have := s42.out; omega)
  replace cw00 := keptT ht cw00 (by have := s1.out; have := s2.out; have := s3.out; have := s8.out; have := s9.out; have := s10.out; have := s11.out; have := s12.out; have := s13.out; have := s15.out; have := s18.out; have := s19.out; have := s21.out; have := s24.out; have := s25.out; have := s26.out; have := s27.out; have := s28.out; have := s29.out; have := s31.out; have := s34.out; have := s37.out; have := s38.out; have := s39.out; have := s41.out; have := s42.out; omega)
  replace cw01 := keptT ht cw01 (by have := s1.out; have := s2.out; have := s3.out; have := s8.out; have := s9.out; have := s10.out; have := s11.out; have := s12.out; have := s13.out; have := s15.out; have := s18.out; have := s19.out; have := s21.out; have := s24.out; have := s25.out; have := s26.out; have := s27.out; have := s28.out; have := s29.out; have := s31.out; have := s34.out; have := s37.out; have := s38.out; have := s39.out; have := s41.out; have := s42.out; omega)
  replace cx10 := keptT ht cx10 (by have := s1.out; have := s2.out; have := s3.out; have := s8.out; have := s9.out; have := s10.out; have := s11.out; have := s12.out; have := s13.out; have := s15.out; have := s18.out; have := s19.out; have := s21.out; have := s24.out; have := s25.out; have := s26.out; have := s27.out; have := s28.out; have := s29.out; have := s31.out; have := s34.out; have := s37.out; have := s38.out; have := s39.out; have := s41.out; have := s42.out; omega)
  replace cx11 := keptT ht cx11 (by have := s1.out; have := s2.out; have := s3.out; have := s8.out; have := s9.out; have := s10.out; have := s11.out; have := s12.out; have := s13.out; have := s15.out; have := s18.out; have := s19.out; have := s21.out; have := s24.out; have := s25.out; have := s26.out; have := s27.out; have := s28.out; have := s29.out; have := s31.out; have := s34.out; have := s37.out; have := s38.out; have := s39.out; have := s41.out; have := s42.out; omega)
  replace cx20 := keptT ht cx20 (by have := s1.out; have := s2.out; have := s3.out; have := s8.out; have := s9.out; have := s10.out; have := s11.out; have := s12.out; have := s13.out; have := s15.out; have := s18.out; have := s19.out; have := s21.out; have := s24.out; have := s25.out; have := s26.out; have := s27.out; have := s28.out; have := s29.out; have := s31.out; have := s34.out; have := s37.out; have := s38.out; have := s39.out; have := s41.out; have := s42.out; omega)
  replace cx21 := keptT ht cx21 (by have := s1.out; have := s2.out; have := s3.out; have := s8.out; have := s9.out; have := s10.out; have := s11.out; have := s12.out; have := s13.out; have := s15.out; have := s18.out; have := s19.out; have := s21.out; have := s24.out; have := s25.out; have := s26.out; have := s27.out; have := s28.out; have := s29.out; have := s31.out; have := s34.out; have := s37.out; have := s38.out; have := s39.out; have := s41.out; have := s42.out; omega)
  replace cg00 := keptT ht cg00 (by have := s1.out; have := s2.out; have := s3.out; have := s8.out; have := s9.out; have := s10.out; have := s11.out; have := s12.out; have := s13.out; have := s15.out; have := s18.out; have := s19.out; have := s21.out; have := s24.out; have := s25.out; have := s26.out; have := s27.out; have := s28.out; have := s29.out; have := s31.out; have := s34.out; have := s37.out; have := s38.out; have := s39.out; have := s41.out; have := s42.out; omega)
  replace cg01 := keptT ht cg01 (by have := s1.out; have := s2.out; have := s3.out; have := s8.out; have := s9.out; have := s10.out; have := s11.out; have := s12.out; have := s13.out; have := s15.out; have := s18.out; have := s19.out; have := s21.out; have := s24.out; have := s25.out; have := s26.out; have := s27.out; have := s28.out; have := s29.out; have := s31.out; have := s34.out; have := s37.out; have := s38.out; have := s39.out; have := s41.out; have := s42.out; omega)
  replace ow0 := ow0.touch ht (by have := s1.out; have := s2.out; have := s3.out; have := s8.out; have := s9.out; have := s10.out; have := s11.out; have := s12.out; have := s13.out; have := s15.out; have := s18.out; have := s19.out; have := s21.out; have := s24.out; have := s25.out; have := s26.out; have := s27.out; have := s28.out; have := s29.out; have := s31.out; have := s34.out; have := s37.out; have := s38.out; have := s39.out; have := s41.out; have := s42.out; omega)
  replace ot14 := ot14.touch ht (by have := s1.out; have := s2.out; have := s3.out; have := s8.out; have := s9.out; have := s10.out; have := s11.out; have := s12.out; have := s13.out; have := s15.out; have := s18.out; have := s19.out; have := s21.out; have := s24.out; have := s25.out; have := s26.out; have := s27.out; have := s28.out; have := s29.out; have := s31.out; have := s34.out; have := s37.out; have := s38.out; have := s39.out; have := s41.out; have := s42.out; omega)
  replace ot17 := ot17.touch ht (by have := s1.out; have := s2.out; have := s3.out; have := s8.out; have := s9.out; have := s10.out; have := s11.out; have := s12.out; have := s13.out; have := s15.out; have := s18.out; have := s19.out; have := s21.out; have := s24.out; have := s25.out; have := s26.out; have := s27.out; have := s28.out; have := s29.out; have := s31.out; have := s34.out; have := s37.out; have := s38.out; have := s39.out; have := s41.out; have := s42.out; omega)
  replace hbel := hbel.trans (ht.below (by have := s1.out; have := s2.out; have := s3.out; have := s8.out; have := s9.out; have := s10.out; have := s11.out; have := s12.out; have := s13.out; have := s15.out; have := s18.out; have := s19.out; have := s21.out; have := s24.out; have := s25.out; have := s26.out; have := s27.out; have := s28.out; have := s29.out; have := s31.out; have := s34.out; have := s37.out; have := s38.out; have := s39.out; have := s41.out; have := s42.out; omega) hbel.size)
  clear ht
  go_wp2_with fail
  refine (heldRegister_any (turnR xDK xDB xDT xDF xWheelsB xWheelsZ xSettingB xSettingZ xTime).1 g0A g0C 1 (turnR xDK xDB xDT xDF xWheelsB xWheelsZ xSettingB xSettingZ xTime).2.1.length v22 og0.rd (by have := ow0.len; have := ot14.len; have := ot17.len; have := og0.len; have := hxWheels.len; have := hxSetting.len; omega) (by have := ow0.len; have := ot14.len; have := ot17.len; have := og0.len; have := hxWheels.len; have := hxSetting.len; omega)).mono ?_
  rintro e v23 ⟨rfl, hb⟩
  have s43 : Hid (v22.heap.size ≤ v23.heap.size) := Lib.hid hb.size
  replace cxD0 := kept hb cxD0
  replace cxD1 := kept hb cxD1
  replace cxD2 := kept hb cxD2
  replace cxD3 := kept hb cxD3
  replace cxWheels0 := kept hb cxWheels0
  replace cxWheels1 := kept hb cxWheels1
  replace cxSetting0 := kept hb cxSetting0
  replace cxSetting1 := kept hb cxSetting1
  replace cw00 := kept hb cw00
  replace cw01 := kept hb cw01
  replace cx10 := kept hb cx10
  replace cx11 := kept hb cx11
  replace cx20 := kept hb cx20
  replace cx21 := kept hb cx21
  replace cg00 := kept hb cg00
  replace cg01 := kept hb cg01
  replace ow0 := ow0.below hb
  replace ot14 := ot14.below hb
  replace ot17 := ot17.below hb
  replace og0 := og0.below hb
  replace hbel := hbel.trans (hb.mono hbel.size)
  clear hb
  go_upto_region 31 with fail
  go_cut [19, 20] from 21 (fun sl19 sl20 wx => BoxReg v23 (turnR xDK xDB xDT xDF xWheelsB xWheelsZ xSettingB xSettingZ xTime).1 (turnR xDK xDB xDT xDF xWheelsB xWheelsZ xSettingB xSettingZ xTime).2.1 sl19 wx ∧ sl20 = .int .i64 (turnR xDK xDB xDT xDF xWheelsB xWheelsZ xSettingB xSettingZ xTime).2.2)
  case first =>
    have rcxD0 := kept_all cxD0
    have rcxD1 := kept_all cxD1
    have rcxD2 := kept_all cxD2
    have rcxD3 := kept_all cxD3
    have rcxWheels0 := kept_all cxWheels0
    have rcxWheels1 := kept_all cxWheels1
    have rcxSetting0 := kept_all cxSetting0
    have rcxSetting1 := kept_all cxSetting1
    clear cxD0 cxD1 cxD2 cxD3 cxWheels0 cxWheels1 cxSetting0 cxSetting1 cw00 cw01 cx10 cx11 cx20 cx21 cg00 cg01
    go_region_held3 (fun w' => Below v23.heap.size v23 w') (first | exact hk | exact (Below.refl _ _).drew | exact hk.alloc hk.size _ | exact (Below.refl _ _).drew.alloc (Nat.le_refl _) _ | exact (hk.alloc hk.size _).setCell hk.size _ | exact ((hk.setCell bg.out _).setCell bg.out _))
      (first | (go_at_call 60; have qB := ‹Below v23.heap.size v23 _›; ((with_reducible refine (toDrum_any xDK xDB xDT xDF ((v23.alloc (.cells #[.int .i64 0, .slice none 0 0] 60)).drew)).mono ?_)); rintro e v25 ⟨rfl, hb⟩; have bz := ((Bx.new v23 #[.int .i64 0, .slice none 0 0] 60).drew).below hb; have bg : Hid (v23.heap.size ≤ v23.drew.heap.size) := Lib.hid (by first | exact (‹Below v23.heap.size v23 v23.drew›).size | exact Nat.le_refl _); have hk := qB.trans (hb.mono qB.size)) | (go_at_call 60; have qB := ‹Below v23.heap.size v23 _›; ((with_reducible refine (toDrum_any xDK xDB xDT xDF v23.drew).mono ?_)); rintro e v25 ⟨rfl, hb⟩; (try replace bz := bz.below hb); have hk := qB.trans (hb.mono qB.size)) | (go_at_call 75; have qB := ‹Below v23.heap.size v23 _›; ((with_reducible refine (toRegister_any xWheelsB xWheelsA xWheelsC xWheelsZ (v25.alloc (.cells #[.int .i64 0, .slice none 0 0] 60)) (hxWheels.below (hbel.trans (qB.mono hbel.size)))).mono ?_)); rintro e v26 ⟨t45A, t45C, rfl, ot45, hb⟩; have bz := (Bx.new v25 #[.int .i64 0, .slice none 0 0] 60).below hb; have bg : Hid (v23.heap.size ≤ v25.heap.size) := Lib.hid (by first | exact (‹Below v23.heap.size v23 v25›).size | exact Nat.le_refl _); have hk := qB.trans (hb.mono qB.size)) | (go_at_call 75; have qB := ‹Below v23.heap.size v23 _›; ((with_reducible refine (toRegister_any xWheelsB xWheelsA xWheelsC xWheelsZ v25 (hxWheels.below (hbel.trans (qB.mono hbel.size)))).mono ?_)); rintro e v26 ⟨t45A, t45C, rfl, ot45, hb⟩; (try replace bz := bz.below hb); have hk := qB.trans (hb.mono qB.size)) | (go_at_call 75; have qB := ‹Below v23.heap.size v23 _›; ((with_reducible refine (toRegister_any xSettingB xSettingA xSettingC xSettingZ (v26.alloc (.cells #[.int .i64 0, .slice none 0 0] 60)) (hxSetting.below (hbel.trans (qB.mono hbel.size)))).mono ?_)); rintro e v27 ⟨t46A, t46C, rfl, ot46, hb⟩; replace ot45 := (ot45.alloc _).below hb; have bz := (Bx.new v26 #[.int .i64 0, .slice none 0 0] 60).below hb; have bg : Hid (v23.heap.size ≤ v26.heap.size) := Lib.hid (by first | exact (‹Below v23.heap.size v23 v26›).size | exact Nat.le_refl _); have hk := qB.trans (hb.mono qB.size)) | (go_at_call 75; have qB := ‹Below v23.heap.size v23 _›; ((with_reducible refine (toRegister_any xSettingB xSettingA xSettingC xSettingZ v26 (hxSetting.below (hbel.trans (qB.mono hbel.size)))).mono ?_)); rintro e v27 ⟨t46A, t46C, rfl, ot46, hb⟩; replace ot45 := ot45.below hb; (try replace bz := bz.below hb); have hk := qB.trans (hb.mono qB.size)) | (go_at_call 50; have qB := ‹Below v23.heap.size v23 _›; ((with_reducible refine (implTurnDrums xDK xDB xDT xDF xWheelsB t45A t45C xWheelsZ xSettingB t46A t46C xSettingZ xTime (v27.alloc (.cells #[.int .i64 0, .slice none 0 0] 60)) bxD (ot45.alloc _).rd zxWheels bxWheels (ot46.alloc _).rd zxSetting bxSetting bxTime).mono ?_)); rintro e v24 ⟨h0A, h0C, rfl, oh0, hb⟩; have bz := (Bx.new v27 #[.int .i64 0, .slice none 0 0] 60); have bg : Hid (v23.heap.size ≤ v27.heap.size) := Lib.hid (by first | exact (‹Below v23.heap.size v23 v27›).size | exact Nat.le_refl _); have bh := Lib.hid bz.lt; replace bz := bz.below hb; have bz0 := bz.at_ 0 rfl; have bf0 := bz.thaw 0; have bz1 := bz.at_ 1 rfl; have bf1 := bz.thaw 1; have hkU := qB; have hbU := hb; have hk := qB.trans (hb.mono qB.size)) | (go_at_call 50; have qB := ‹Below v23.heap.size v23 _›; ((with_reducible refine (implTurnDrums xDK xDB xDT xDF xWheelsB t45A t45C xWheelsZ xSettingB t46A t46C xSettingZ xTime v27 bxD ot45.rd zxWheels bxWheels ot46.rd zxSetting bxSetting bxTime).mono ?_)); rintro e v24 ⟨h0A, h0C, rfl, oh0, hb⟩; (try (have bh := Lib.hid bz.lt; replace bz := bz.below hb; have bz0 := bz.at_ 0 rfl; have bf0 := bz.thaw 0; have bz1 := bz.at_ 1 rfl; have bf1 := bz.thaw 1)); have hkU := qB; have hbU := hb; have hk := qB.trans (hb.mono qB.size)))
    all_goals (go_wp2_with fail; go_meet; case rel => first | with_reducible exact ⟨boxReg_after hkU hbU oh0, rfl⟩ | with_reducible exact ⟨boxReg_before hkU hbU oh0 bz bg bh, rfl⟩ | exact ⟨boxReg_after hkU hbU oh0, rfl⟩ | exact ⟨boxReg_before hkU hbU oh0 bz bg bh, rfl⟩)
  case rest =>
  obtain ⟨⟨B47, h0A, h0C, B47l, B47h, rfl, ch00, ch01, oh0, s48, s49, s50, s51, s52, hb⟩, rfl⟩ := hcut
  obtain ⟨v24, rfl⟩ : ∃ u, u = wc := ⟨_, rfl⟩
  have s53 : Hid (v23.heap.size ≤ v24.heap.size) := Lib.hid hb.size
  replace cxD0 := kept hb cxD0
  replace cxD1 := kept hb cxD1
  replace cxD2 := kept hb cxD2
  replace cxD3 := kept hb cxD3
  replace cxWheels0 := kept hb cxWheels0
  replace cxWheels1 := kept hb cxWheels1
  replace cxSetting0 := kept hb cxSetting0
  replace cxSetting1 := kept hb cxSetting1
  replace cw00 := kept hb cw00
  replace cw01 := kept hb cw01
  replace cx10 := kept hb cx10
  replace cx11 := kept hb cx11
  replace cx20 := kept hb cx20
  replace cx21 := kept hb cx21
  replace cg00 := kept hb cg00
  replace cg01 := kept hb cg01
  replace ow0 := ow0.below hb
  replace ot14 := ot14.below hb
  replace ot17 := ot17.below hb
  replace og0 := og0.below hb
  replace hbel := hbel.trans (hb.mono hbel.size)
  clear hb
  have q54 : regEqB (turnR xDK xDB xDT xDF xWheelsB xWheelsZ xSettingB xSettingZ xTime).1 (turnR xDK xDB xDT xDF xWheelsB xWheelsZ xSettingB xSettingZ xTime).1 (turnR xDK xDB xDT xDF xWheelsB xWheelsZ xSettingB xSettingZ xTime).2.1 (turnR xDK xDB xDT xDF xWheelsB xWheelsZ xSettingB xSettingZ xTime).2.1 = true := regEqB_self _ _
  go_wp2_with fail
  refine (eqRegister_any (turnR xDK xDB xDT xDF xWheelsB xWheelsZ xSettingB xSettingZ xTime).1 (turnR xDK xDB xDT xDF xWheelsB xWheelsZ xSettingB xSettingZ xTime).1 h0A w0A h0C w0C (turnR xDK xDB xDT xDF xWheelsB xWheelsZ xSettingB xSettingZ xTime).2.1 (turnR xDK xDB xDT xDF xWheelsB xWheelsZ xSettingB xSettingZ xTime).2.1 v24 oh0.rd ow0.rd).mono ?_
  rintro e v28 ⟨rfl, hb⟩
  have s55 : Hid (v24.heap.size ≤ v28.heap.size) := Lib.hid hb.size
  replace cxD0 := kept hb cxD0
  replace cxD1 := kept hb cxD1
  replace cxD2 := kept hb cxD2
  replace cxD3 := kept hb cxD3
  replace cxWheels0 := kept hb cxWheels0
  replace cxWheels1 := kept hb cxWheels1
  replace cxSetting0 := kept hb cxSetting0
  replace cxSetting1 := kept hb cxSetting1
  replace cw00 := kept hb cw00
  replace cw01 := kept hb cw01
  replace cx10 := kept hb cx10
  replace cx11 := kept hb cx11
  replace cx20 := kept hb cx20
  replace cx21 := kept hb cx21
  replace cg00 := kept hb cg00
  replace cg01 := kept hb cg01
  replace ch00 := kept hb ch00
  replace ch01 := kept hb ch01
  replace ow0 := ow0.below hb
  replace ot14 := ot14.below hb
  replace ot17 := ot17.below hb
  replace og0 := og0.below hb
  replace oh0 := oh0.below hb
  replace hbel := hbel.trans (hb.mono hbel.size)
  clear hb
  go_wp2_with fail
  refine (heldRegister_any (turnR xDK xDB xDT xDF xWheelsB xWheelsZ xSettingB xSettingZ xTime).1 g0A g0C 1 (turnR xDK xDB xDT xDF xWheelsB xWheelsZ xSettingB xSettingZ xTime).2.1.length v28 og0.rd (by have := ow0.len; have := ot14.len; have := ot17.len; have := og0.len; have := oh0.len; have := hxWheels.len; have := hxSetting.len; omega) (by have := ow0.len; have := ot14.len; have := ot17.len; have := og0.len; have := oh0.len; have := hxWheels.len; have := hxSetting.len; omega)).mono ?_
  rintro e v29 ⟨rfl, hb⟩
  have s56 : Hid (v28.heap.size ≤ v29.heap.size) := Lib.hid hb.size
  replace cxD0 := kept hb cxD0
  replace cxD1 := kept hb cxD1
  replace cxD2 := kept hb cxD2
  replace cxD3 := kept hb cxD3
  replace cxWheels0 := kept hb cxWheels0
  replace cxWheels1 := kept hb cxWheels1
  replace cxSetting0 := kept hb cxSetting0
  replace cxSetting1 := kept hb cxSetting1
  replace cw00 := kept hb cw00
  replace cw01 := kept hb cw01
  replace cx10 := kept hb cx10
  replace cx11 := kept hb cx11
  replace cx20 := kept hb cx20
  replace cx21 := kept hb cx21
  replace cg00 := kept hb cg00
  replace cg01 := kept hb cg01
  replace ch00 := kept hb ch00
  replace ch01 := kept hb ch01
  replace ow0 := ow0.below hb
  replace ot14 := ot14.below hb
  replace ot17 := ot17.below hb
  replace og0 := og0.below hb
  replace oh0 := oh0.below hb
  replace hbel := hbel.trans (hb.mono hbel.size)
  clear hb
  go_wp2
  go_ret
  exact ⟨rfl, hbel⟩

set_option maxRecDepth 100000 in
theorem lifted (os : Os) (started : os.Started) (H : Type) (enc : TypeId × Value → H) :
    ReturnsInHanded {} Try.checked os 13 .any (Rows.fnExactTurnDrumsSpec.pre6 enc Try.prog Try.f13 Rows.fnExactTurnDrumsRow.domain false) (Rows.fnExactTurnDrumsSpec.post enc Try.prog Try.f13 false true false false) := by
  refine returnsInHanded_of_change (C := Try.checked) own_knob started (by kernel_rfl) Try.func13
    (ChangeSpec.witness6 (enc := enc) (C := Try.checked) false ⟨#[], #[.agg #[.int .i64 0, .int .i64 0, .int .i64 0, .int .i64 0], .agg #[.int .i64 0, .slice none 0 0], .agg #[.int .i64 0, .slice none 0 0], .int .i64 0], []⟩ 8 (by kernel_rfl) (by kernel_rfl) (by kernel_rfl) (by kernel_rfl)) ?_
  intro W base args ds gs before hval0 hW hcnd _
  have hval : ∀ (j : Nat) t v, Try.f13.params[j]? = some t → args[j]? = some v → Value.okWide Try.prog W .any base t v := hval0
  have hW' := hW
  obtain ⟨p, q, hA0, hV, rfl, hfz, hnd⟩ := hW
  have hA : DataW.TrodAll enc Try.prog W 0 (fun _ => true) true Try.f13.params.toList args.toList ds p := hA0
  rw [Try.params13] at hA hval
  obtain ⟨v0, vs0, d0, ds0, p0, q0, hargs, rfl, rfl, h0, r0⟩ := trodAll_cons hA
  obtain ⟨v1, vs1, d1, ds1, p1, q1, rfl, rfl, rfl, h1, r1⟩ := trodAll_cons r0
  obtain ⟨v2, vs2, d2, ds2, p2, q2, rfl, rfl, rfl, h2, r2⟩ := trodAll_cons r1
  obtain ⟨v3, vs3, d3, ds3, p3, q3, rfl, rfl, rfl, h3, r3⟩ := trodAll_cons r2
  obtain ⟨rfl, rfl, rfl⟩ := trodAll_nil r3
  obtain rfl : args = #[v0, v1, v2, v3] := by cases args; simp_all
  obtain ⟨rfl, rfl⟩ := trodVars_none hV
  have k0 := h0
  have lt0 : ∀ x ∈ p0, x.block < W.heap.size := by obtain ⟨m, hm⟩ := k0; exact DataW.trod_lt m _ _ _ hm
  obtain ⟨xDK, xDB, xDT, xDF, rfl, bxD⟩ := open_Drum (hval 0 73 v0 rfl rfl) h0
  have k1 := h1
  have lt1 : ∀ x ∈ p1, x.block < W.heap.size := by obtain ⟨m, hm⟩ := k1; exact DataW.trod_lt m _ _ _ hm
  obtain ⟨xWheelsB, xWheelsA, xWheelsC, xWheelsZ, rfl, hxWheels, bxWheels⟩ := open_Register (hval 1 88 v1 rfl rfl) h1
  have k2 := h2
  have lt2 : ∀ x ∈ p2, x.block < W.heap.size := by obtain ⟨m, hm⟩ := k2; exact DataW.trod_lt m _ _ _ hm
  obtain ⟨xSettingB, xSettingA, xSettingC, xSettingZ, rfl, hxSetting, bxSetting⟩ := open_Register (hval 2 88 v2 rfl rfl) h2
  obtain ⟨xTime, rfl, rfl, rfl, bxTime⟩ := open_int Try.underlying2 (hval 3 2 v3 rfl rfl) h3
  clear hA0 hval0
  refine (law_walk xDK xDB xDT xDF xWheelsB xWheelsA xWheelsC xWheelsZ xSettingB xSettingA xSettingC xSettingZ xTime W bxD hxWheels bxWheels hxSetting bxSetting bxTime).mono fun e W' ⟨he, bel⟩ => ?_
  subst he
  exact ⟨_, rfl, _, _, _, [], _, [], hW', trodAll_mk1 (shut_bool Try.underlying4 _), (trodAll_cons_mk (Below.trod laid_out (by kernel_rfl) (of_decide_eq_true (by kernel_rfl)) k0 bel lt0) (trodAll_cons_mk (Below.trod laid_out (by kernel_rfl) (of_decide_eq_true (by kernel_rfl)) k1 bel lt1) (trodAll_cons_mk (Below.trod laid_out (by kernel_rfl) (of_decide_eq_true (by kernel_rfl)) k2 bel lt2) (trodAll_cons_mk (shut_int Try.underlying2 bxTime) trodAll_mk0)))), rfl, bel.frame _, fun h => by cases h⟩

set_option maxHeartbeats 20000000 in
theorem closed : joinedFacts Try.prog 13 Try.f13 Rows.fnExactTurnDrumsSpec Rows.fnExactTurnDrumsRow = true := by
  simp only [joinedFacts, Bool.and_eq_true]
  refine ⟨⟨⟨⟨⟨⟨⟨⟨⟨⟨⟨⟨⟨⟨⟨⟨⟨⟨⟨⟨⟨⟨⟨⟨⟨⟨⟨⟨⟨⟨⟨?_, laid_out⟩, fact_maps⟩, ?_⟩, ?_⟩, ?_⟩, fact_stops⟩, ?_⟩, fact_knobs⟩, ?_⟩, ?_⟩, ?_⟩, ?_⟩, ?_⟩, ?_⟩, ?_⟩, ?_⟩, ?_⟩, ?_⟩, ?_⟩, ?_⟩, ?_⟩, fact_plain⟩, ?_⟩, fact_heard⟩, fact_enter⟩, fact_lift⟩, ?_⟩, ?_⟩, ?_⟩, ?_⟩, ?_⟩
  all_goals (as_aux_lemma => kernel_rfl)

theorem over : Rows.fnExactTurnDrumsRow.holds Try.pinned (OpenSpec.ofChange Rows.fnExactTurnDrumsSpec) :=
  OpenClaim.holds_of_wide 13 Try.f13 rfl rfl rfl rfl rfl rfl rfl ⟨rfl, rfl, rfl, rfl, rfl⟩ rfl rfl rfl rfl rfl (by as_aux_lemma => kernel_rfl) Try.func13 closed
    (of_decide_eq_true (by as_aux_lemma => kernel_rfl)) (by unfold Func.isWrapper; rw [if_neg (by decide +kernel)]; exact ⟨rfl, rfl⟩)
    (fun os started H enc _ => lifted os started H enc)

/-- The statement. -/
theorem proved : Rows.FnExactTurnDrumsSaid := over
end Go.Proofs.Ytkhfbhphmdcelaa.lawTurnDrums
