/-
  laws.FnExactWitnessOf returns true at every input (no condition), and leaves its arguments as they were.
-/
import Derived.Test.YtiogbpnnnpodkaaReg
import Derived.Test.YtiogbpnnnpodkaaBox
import Derived.Test.YtiogbpnnnpodkaaFrame
import Derived.Test.YtiogbpnnnpodkaaLeverFaultS
import Derived.Test.YtiogbpnnnpodkaaFrameI
import Derived.Test.YtiogbpnnnpodkaaFrameL
import Derived.Test.YtiogbpnnnpodkaaWiS
import Derived.Test.YtiogbpnnnpodkaaFacts
import Derived.Test.YtiogbpnnnpodkaaRows
namespace Go.Proofs.Ytiogbpnnnpodkaa.lawWitnessOf
open Go.ChangeShapes Go.WideShapes Go.ChangeAt Go.WideElems Go.RowKit Go.Joins
open Go.ChangeMaps (open_string shut_string)

set_option maxRecDepth 100000 in
set_option maxHeartbeats 4000000 in
theorem law_walk (xBase : Int) (xWidth : Int) (xF : Int × Int) (w : World) (bxBase : I64 xBase) (bxWidth : I64 xWidth) (bxF : I64 xF.1 ∧ I64 xF.2) :
    Calls Try.prog 5 #[.int .i64 xBase, .int .i64 xWidth, .agg #[.int .i64 xF.1, .int .i64 xF.2]] w fun e w' => e = .returned (.bool true) ∧ Below w.heap.size w w' := by
  have hbel : Below w.heap.size w (w.alloc (.cells #[.int .i64 xF.1, .int .i64 xF.2] 39)) := (Below.refl _ _).alloc (by simp <;> omega) _
  have cxF0 : (w.alloc (.cells #[.int .i64 xF.1, .int .i64 xF.2] 39)).cell? ⟨w.heap.size, 0, none⟩ = some (.int .i64 xF.1) := by go_simp
  have cxF1 : (w.alloc (.cells #[.int .i64 xF.1, .int .i64 xF.2] 39)).cell? ⟨w.heap.size, 1, none⟩ = some (.int .i64 xF.2) := by go_simp
  go_enter Try.func5, Try.ntmps5
  go_wp2_with fail
  obtain ⟨v1, hu⟩ : ∃ u, u = (w.alloc (.cells #[.int .i64 xF.1, .int .i64 xF.2] 39)) := ⟨_, rfl⟩
  have s2 : Hid (w.heap.size + 1 ≤ v1.heap.size) := Lib.hid (by rw [hu]; simp)
  rw [← hu] at cxF0 cxF1 hbel ⊢
  clear hu
  refine (toLeverFault_any xF v1).mono ?_
  rintro e v2 ⟨rfl, hb⟩
  have s3 : Hid (v1.heap.size ≤ v2.heap.size) := Lib.hid hb.size
  replace cxF0 := kept hb cxF0
  replace cxF1 := kept hb cxF1
  replace hbel := hbel.trans (hb.mono hbel.size)
  clear hb
  go_wp2_with fail
  refine (specWitnessOf xBase xWidth xF v2 bxBase bxWidth bxF).mono ?_
  rintro e v3 ⟨w0A, w0C, w1A, w1C, w0m, rfl, ow0, ow1, w0m1, w0m2, hb⟩
  have s4 := Lib.hid w0m1
  have s5 := Lib.hid w0m2
  clear w0m1 w0m2
  have s6 : Hid (v2.heap.size ≤ v3.heap.size) := Lib.hid hb.size
  replace cxF0 := kept hb cxF0
  replace cxF1 := kept hb cxF1
  replace hbel := hbel.trans (hb.mono hbel.size)
  clear hb
  have ha7 : Below v3.heap.size v3 ((v3.alloc (.cells #[.int .i64 (wiR xBase xWidth xF).1, .slice w0A (wiR xBase xWidth xF).2.1.length w0C] 31)).alloc (.cells #[.int .i64 (wiR xBase xWidth xF).2.2.1, .slice w1A (wiR xBase xWidth xF).2.2.2.1.length w1C] 31)) := ((Below.refl _ _).alloc (by simp <;> omega) _).alloc (by simp <;> omega) _
  replace cxF0 := kept ha7 cxF0
  replace cxF1 := kept ha7 cxF1
  replace ow0 := ow0.below ha7
  replace ow1 := ow1.below ha7
  replace hbel := hbel.trans (ha7.mono hbel.size)
  clear ha7
  have cw00 : ((v3.alloc (.cells #[.int .i64 (wiR xBase xWidth xF).1, .slice w0A (wiR xBase xWidth xF).2.1.length w0C] 31)).alloc (.cells #[.int .i64 (wiR xBase xWidth xF).2.2.1, .slice w1A (wiR xBase xWidth xF).2.2.2.1.length w1C] 31)).cell? ⟨v3.heap.size, 0, none⟩ = some (.int .i64 (wiR xBase xWidth xF).1) := by go_simp
  have cw01 : ((v3.alloc (.cells #[.int .i64 (wiR xBase xWidth xF).1, .slice w0A (wiR xBase xWidth xF).2.1.length w0C] 31)).alloc (.cells #[.int .i64 (wiR xBase xWidth xF).2.2.1, .slice w1A (wiR xBase xWidth xF).2.2.2.1.length w1C] 31)).cell? ⟨v3.heap.size, 1, none⟩ = some (.slice w0A (wiR xBase xWidth xF).2.1.length w0C) := by go_simp
  have cw10 : ((v3.alloc (.cells #[.int .i64 (wiR xBase xWidth xF).1, .slice w0A (wiR xBase xWidth xF).2.1.length w0C] 31)).alloc (.cells #[.int .i64 (wiR xBase xWidth xF).2.2.1, .slice w1A (wiR xBase xWidth xF).2.2.2.1.length w1C] 31)).cell? ⟨v3.heap.size + 1, 0, none⟩ = some (.int .i64 (wiR xBase xWidth xF).2.2.1) := by go_simp
  have cw11 : ((v3.alloc (.cells #[.int .i64 (wiR xBase xWidth xF).1, .slice w0A (wiR xBase xWidth xF).2.1.length w0C] 31)).alloc (.cells #[.int .i64 (wiR xBase xWidth xF).2.2.1, .slice w1A (wiR xBase xWidth xF).2.2.2.1.length w1C] 31)).cell? ⟨v3.heap.size + 1, 1, none⟩ = some (.slice w1A (wiR xBase xWidth xF).2.2.2.1.length w1C) := by go_simp
  go_wp2_with fail
  obtain ⟨v4, hu⟩ : ∃ u, u = ((v3.alloc (.cells #[.int .i64 (wiR xBase xWidth xF).1, .slice w0A (wiR xBase xWidth xF).2.1.length w0C] 31)).alloc (.cells #[.int .i64 (wiR xBase xWidth xF).2.2.1, .slice w1A (wiR xBase xWidth xF).2.2.2.1.length w1C] 31)) := ⟨_, rfl⟩
  have s9 : Hid (v3.heap.size + 2 ≤ v4.heap.size) := Lib.hid (by rw [hu]; simp)
  rw [← hu] at cxF0 cxF1 cw00 cw01 cw10 cw11 ow0 ow1 hbel ⊢
  clear hu
  refine (toLeverFault_any xF v4).mono ?_
  rintro e v5 ⟨rfl, hb⟩
  have s10 : Hid (v4.heap.size ≤ v5.heap.size) := Lib.hid hb.size
  replace cxF0 := kept hb cxF0
  replace cxF1 := kept hb cxF1
  replace cw00 := kept hb cw00
  replace cw01 := kept hb cw01
  replace cw10 := kept hb cw10
  replace cw11 := kept hb cw11
  replace ow0 := ow0.below hb
  replace ow1 := ow1.below hb
  replace hbel := hbel.trans (hb.mono hbel.size)
  clear hb
  go_wp2_with fail
  refine (implWitnessOf xBase xWidth xF v5 bxBase bxWidth bxF).mono ?_
  rintro e v6 ⟨g0A, g0C, g1A, g1C, g0m, rfl, og0, og1, g0m1, g0m2, hb⟩
  have s11 := Lib.hid g0m1
  have s12 := Lib.hid g0m2
  clear g0m1 g0m2
  have s13 : Hid (v5.heap.size ≤ v6.heap.size) := Lib.hid hb.size
  replace cxF0 := kept hb cxF0
  replace cxF1 := kept hb cxF1
  replace cw00 := kept hb cw00
  replace cw01 := kept hb cw01
  replace cw10 := kept hb cw10
  replace cw11 := kept hb cw11
  replace ow0 := ow0.below hb
  replace ow1 := ow1.below hb
  replace hbel := hbel.trans (hb.mono hbel.size)
  clear hb
  have ha14 : Below v6.heap.size v6 ((v6.alloc (.cells #[.int .i64 (wiR xBase xWidth xF).1, .slice g0A (wiR xBase xWidth xF).2.1.length g0C] 31)).alloc (.cells #[.int .i64 (wiR xBase xWidth xF).2.2.1, .slice g1A (wiR xBase xWidth xF).2.2.2.1.length g1C] 31)) := ((Below.refl _ _).alloc (by simp <;> omega) _).alloc (by simp <;> omega) _
  replace cxF0 := kept ha14 cxF0
  replace cxF1 := kept ha14 cxF1
  replace cw00 := kept ha14 cw00
  replace cw01 := kept ha14 cw01
  replace cw10 := kept ha14 cw10
  replace cw11 := kept ha14 cw11
  replace ow0 := ow0.below ha14
  replace ow1 := ow1.below ha14
  replace og0 := og0.below ha14
  replace og1 := og1.below ha14
  replace hbel := hbel.trans (ha14.mono hbel.size)
  clear ha14
  have cg00 : ((v6.alloc (.cells #[.int .i64 (wiR xBase xWidth xF).1, .slice g0A (wiR xBase xWidth xF).2.1.length g0C] 31)).alloc (.cells #[.int .i64 (wiR xBase xWidth xF).2.2.1, .slice g1A (wiR xBase xWidth xF).2.2.2.1.length g1C] 31)).cell? ⟨v6.heap.size, 0, none⟩ = some (.int .i64 (wiR xBase xWidth xF).1) := by go_simp
  have cg01 : ((v6.alloc (.cells #[.int .i64 (wiR xBase xWidth xF).1, .slice g0A (wiR xBase xWidth xF).2.1.length g0C] 31)).alloc (.cells #[.int .i64 (wiR xBase xWidth xF).2.2.1, .slice g1A (wiR xBase xWidth xF).2.2.2.1.length g1C] 31)).cell? ⟨v6.heap.size, 1, none⟩ = some (.slice g0A (wiR xBase xWidth xF).2.1.length g0C) := by go_simp
  have cg10 : ((v6.alloc (.cells #[.int .i64 (wiR xBase xWidth xF).1, .slice g0A (wiR xBase xWidth xF).2.1.length g0C] 31)).alloc (.cells #[.int .i64 (wiR xBase xWidth xF).2.2.1, .slice g1A (wiR xBase xWidth xF).2.2.2.1.length g1C] 31)).cell? ⟨v6.heap.size + 1, 0, none⟩ = some (.int .i64 (wiR xBase xWidth xF).2.2.1) := by go_simp
  have cg11 : ((v6.alloc (.cells #[.int .i64 (wiR xBase xWidth xF).1, .slice g0A (wiR xBase xWidth xF).2.1.length g0C] 31)).alloc (.cells #[.int .i64 (wiR xBase xWidth xF).2.2.1, .slice g1A (wiR xBase xWidth xF).2.2.2.1.length g1C] 31)).cell? ⟨v6.heap.size + 1, 1, none⟩ = some (.slice g1A (wiR xBase xWidth xF).2.2.2.1.length g1C) := by go_simp
  have q15 : regEqB (wiR xBase xWidth xF).1 (wiR xBase xWidth xF).1 (wiR xBase xWidth xF).2.1 (wiR xBase xWidth xF).2.1 = true := regEqB_self _ _
  go_wp2_with fail
  obtain ⟨v7, hu⟩ : ∃ u, u = ((v6.alloc (.cells #[.int .i64 (wiR xBase xWidth xF).1, .slice g0A (wiR xBase xWidth xF).2.1.length g0C] 31)).alloc (.cells #[.int .i64 (wiR xBase xWidth xF).2.2.1, .slice g1A (wiR xBase xWidth xF).2.2.2.1.length g1C] 31)) := ⟨_, rfl⟩
  have s16 : Hid (v6.heap.size + 2 ≤ v7.heap.size) := Lib.hid (by rw [hu]; simp)
  rw [← hu] at cxF0 cxF1 cw00 cw01 cw10 cw11 cg00 cg01 cg10 cg11 ow0 ow1 og0 og1 hbel ⊢
  clear hu
  refine (eqRegister_any (wiR xBase xWidth xF).1 (wiR xBase xWidth xF).1 g0A w0A g0C w0C (wiR xBase xWidth xF).2.1 (wiR xBase xWidth xF).2.1 v7 og0.rd ow0.rd).mono ?_
  rintro e v8 ⟨rfl, hb⟩
  have s17 : Hid (v7.heap.size ≤ v8.heap.size) := Lib.hid hb.size
  replace cxF0 := kept hb cxF0
  replace cxF1 := kept hb cxF1
  replace cw00 := kept hb cw00
  replace cw01 := kept hb cw01
  replace cw10 := kept hb cw10
  replace cw11 := kept hb cw11
  replace cg00 := kept hb cg00
  replace cg01 := kept hb cg01
  replace cg10 := kept hb cg10
  replace cg11 := kept hb cg11
  replace ow0 := ow0.below hb
  replace ow1 := ow1.below hb
  replace og0 := og0.below hb
  replace og1 := og1.below hb
  replace hbel := hbel.trans (hb.mono hbel.size)
  clear hb
  have q18 : regEqB (wiR xBase xWidth xF).2.2.1 (wiR xBase xWidth xF).2.2.1 (wiR xBase xWidth xF).2.2.2.1 (wiR xBase xWidth xF).2.2.2.1 = true := regEqB_self _ _
  go_wp2_with fail
  refine (eqRegister_any (wiR xBase xWidth xF).2.2.1 (wiR xBase xWidth xF).2.2.1 g1A w1A g1C w1C (wiR xBase xWidth xF).2.2.2.1 (wiR xBase xWidth xF).2.2.2.1 v8 og1.rd ow1.rd).mono ?_
  rintro e v9 ⟨rfl, hb⟩
  have s19 : Hid (v8.heap.size ≤ v9.heap.size) := Lib.hid hb.size
  replace cxF0 := kept hb cxF0
  replace cxF1 := kept hb cxF1
  replace cw00 := kept hb cw00
  replace cw01 := kept hb cw01
  replace cw10 := kept hb cw10
  replace cw11 := kept hb cw11
  replace cg00 := kept hb cg00
  replace cg01 := kept hb cg01
  replace cg10 := kept hb cg10
  replace cg11 := kept hb cg11
  replace ow0 := ow0.below hb
  replace ow1 := ow1.below hb
  replace og0 := og0.below hb
  replace og1 := og1.below hb
  replace hbel := hbel.trans (hb.mono hbel.size)
  clear hb
  go_wp2_with fail
  refine (markRegister_any _ _ _ (wiR xBase xWidth xF).1 g0A g0C 1 (wiR xBase xWidth xF).2.1 v9 og0 (by have := ow0.len; have := ow1.len; have := og0.len; have := og1.len; omega) (by have := ow0.len; have := ow1.len; have := og0.len; have := og1.len; omega)).mono ?_
  rintro e v10 ⟨rfl, om, ht⟩
  have s20 : Hid (v9.heap.size ≤ v10.heap.size) := Lib.hid ht.size
  clear og0
  have og0 := om
  clear om
  replace cxF0 := keptT ht cxF0 (by have := s2.out; have := s3.out; have := s4.out; have := s5.out; have := s6.out; have := s9.out; have := s10.out; have := s11.out; have := s12.out; have := s13.out; have := s16.out; have := s17.out; have := s19.out; have := s20.out; omega)
  replace cxF1 := keptT ht cxF1 (by have := s2.out; have := s3.out; have := s4.out; have := s5.out; have := s6.out; have := s9.out; have := s10.out; have := s11.out; have := s12.out; have := s13.out; have := s16.out; have := s17.out; have := s19.out; have := s20.out; omega)
  replace cw00 := keptT ht cw00 (by have := s2.out; have := s3.out; have := s4.out; have := s5.out; have := s6.out; have := s9.out; have := s10.out; have := s11.out; have := s12.out; have := s13.out; have := s16.out; have := s17.out; have := s19.out; have := s20.out; omega)
  replace cw01 := keptT ht cw01 (by have := s2.out; have := s3.out; have := s4.out; have := s5.out; have := s6.out; have := s9.out; have := s10.out; have := s11.out; have := s12.out; have := s13.out; have := s16.out; have := s17.out; have := s19.out; have := s20.out; omega)
  replace cw10 := keptT ht cw10 (by have := s2.out; have := s3.out; have := s4.out; have := s5.out; have := s6.out; have := s9.out; have := s10.out; have := s11.out; have := s12.out; have := s13.out; have := s16.out; have := s17.out; have := s19.out; have := s20.out; omega)
  replace cw11 := keptT ht cw11 (by have := s2.out; have := s3.out; have := s4.out; have := s5.out; have := s6.out; have := s9.out; have := s10.out; have := s11.out; have := s12.out; have := s13.out; have := s16.out; have := s17.out; have := s19.out; have := s20.out; omega)
  replace cg00 := keptT ht cg00 (by have := s2.out; have := s3.out; have := s4.out; have := s5.out; have := s6.out; have := s9.out; have := s10.out; have := s11.out; have := s12.out; have := s13.out; have := s16.out; have := s17.out; have := s19.out; have := s20.out; omega)
  replace cg01 := keptT ht cg01 (by have := s2.out; have := s3.out; have := s4.out; have := s5.out; have := s6.out; have := s9.out; have := s10.out; have := s11.out; have := s12.out; have := s13.out; have := s16.out; have := s17.out; have := s19.out; have := s20.out; omega)
  replace cg10 := keptT ht cg10 (by have := s2.out; have := s3.out; have := s4.out; have := s5.out; have := s6.out; have := s9.out; have := s10.out; have := s11.out; have := s12.out; have := s13.out; have := s16.out; have := s17.out; have := s19.out; have := s20.out; omega)
  replace cg11 := keptT ht cg11 (by have := s2.out; have := s3.out; have := s4.out; have := s5.out; have := s6.out; have := s9.out; have := s10.out; have := s11.out; have := s12.out; have := s13.out; have := s16.out; have := s17.out; have := s19.out; have := s20.out; omega)
  replace ow0 := ow0.touch ht (by have := s2.out; have := s3.out; have := s4.out; have := s5.out; have := s6.out; have := s9.out; have := s10.out; have := s11.out; have := s12.out; have := s13.out; have := s16.out; have := s17.out; have := s19.out; have := s20.out; omega)
  replace ow1 := ow1.touch ht (by have := s2.out; have := s3.out; have := s4.out; have := s5.out; have := s6.out; have := s9.out; have := s10.out; have := s11.out; have := s12.out; have := s13.out; have := s16.out; have := s17.out; have := s19.out; have := s20.out; omega)
  replace og1 := og1.touch ht (by have := s2.out; have := s3.out; have := s4.out; have := s5.out; have := s6.out; have := s9.out; have := s10.out; have := s11.out; have := s12.out; have := s13.out; have := s16.out; have := s17.out; have := s19.out; have := s20.out; omega)
  replace hbel := hbel.trans (ht.below (by have := s2.out; have := s3.out; have := s4.out; have := s5.out; have := s6.out; have := s9.out; have := s10.out; have := s11.out; have := s12.out; have := s13.out; have := s16.out; have := s17.out; have := s19.out; have := s20.out; omega) hbel.size)
  clear ht
  go_wp2_with fail
  refine (markRegister_any _ _ _ (wiR xBase xWidth xF).2.2.1 g1A g1C (1 + ((wiR xBase xWidth xF).2.1.length : Int)) (wiR xBase xWidth xF).2.2.2.1 v10 og1 (by have := ow0.len; have := ow1.len; have := og0.len; have := og1.len; omega) (by have := ow0.len; have := ow1.len; have := og0.len; have := og1.len; omega)).mono ?_
  rintro e v11 ⟨rfl, om, ht⟩
  have s21 : Hid (v10.heap.size ≤ v11.heap.size) := Lib.hid ht.size
  clear og1
  have og1 := om
  clear om
  replace cxF0 := keptT ht cxF0 (by have := s2.out; have := s3.out; have := s4.out; have := s5.out; have := s6.out; have := s9.out; have := s10.out; have := s11.out; have := s12.out; have := s13.out; have := s16.out; have := s17.out; have := s19.out; have := s20.out; have := s21.out; omega)
  replace cxF1 := keptT ht cxF1 (by have := s2.out; have := s3.out; have := s4.out; have := s5.out; have := s6.out; have := s9.out; have := s10.out; have := s11.out; have := s12.out; have := s13.out; have := s16.out; have := s17.out; have := s19.out; have := s20.out; have := s21.out; omega)
  replace cw00 := keptT ht cw00 (by have := s2.out; have := s3.out; have := s4.out; have := s5.out; have := s6.out; have := s9.out; have := s10.out; have := s11.out; have := s12.out; have := s13.out; have := s16.out; have := s17.out; have := s19.out; have := s20.out; have := s21.out; omega)
  replace cw01 := keptT ht cw01 (by have := s2.out; have := s3.out; have := s4.out; have := s5.out; have := s6.out; have := s9.out; have := s10.out; have := s11.out; have := s12.out; have := s13.out; have := s16.out; have := s17.out; have := s19.out; have := s20.out; have := s21.out; omega)
  replace cw10 := keptT ht cw10 (by have := s2.out; have := s3.out; have := s4.out; have := s5.out; have := s6.out; have := s9.out; have := s10.out; have := s11.out; have := s12.out; have := s13.out; have := s16.out; have := s17.out; have := s19.out; have := s20.out; have := s21.out; omega)
  replace cw11 := keptT ht cw11 (by have := s2.out; have := s3.out; have := s4.out; have := s5.out; have := s6.out; have := s9.out; have := s10.out; have := s11.out; have := s12.out; have := s13.out; have := s16.out; have := s17.out; have := s19.out; have := s20.out; have := s21.out; omega)
  replace cg00 := keptT ht cg00 (by have := s2.out; have := s3.out; have := s4.out; have := s5.out; have := s6.out; have := s9.out; have := s10.out; have := s11.out; have := s12.out; have := s13.out; have := s16.out; have := s17.out; have := s19.out; have := s20.out; have := s21.out; omega)
  replace cg01 := keptT ht cg01 (by have := s2.out; have := s3.out; have := s4.out; have := s5.out; have := s6.out; have := s9.out; have := s10.out; have := s11.out; have := s12.out; have := s13.out; have := s16.out; have := s17.out; have := s19.out; have := s20.out; have := s21.out; omega)
  replace cg10 := keptT ht cg10 (by have := s2.out; have := s3.out; have := s4.out; have := s5.out; have := s6.out; have := s9.out; have := s10.out; have := s11.out; have := s12.out; have := s13.out; have := s16.out; have := s17.out; have := s19.out; have := s20.out; have := s21.out; omega)
  replace cg11 := keptT ht cg11 (by have := s2.out; have := s3.out; have := s4.out; have := s5.out; have := s6.out; have := s9.out; have := s10.out; have := s11.out; have := s12.out; have := s13.out; have := s16.out; have := s17.out; have := s19.out; have := s20.out; have := s21.out; omega)
  replace ow0 := ow0.touch ht (by have := s2.out; have := s3.out; have := s4.out; have := s5.out; have := s6.out; have := s9.out; have := s10.out; have := s11.out; have := s12.out; have := s13.out; have := s16.out; have := s17.out; have := s19.out; have := s20.out; have := s21.out; omega)
  replace ow1 := ow1.touch ht (by have := s2.out; have := s3.out; have := s4.out; have := s5.out; have := s6.out; have := s9.out; have := s10.out; have := s11.out; have := s12.out; have := s13.out; have := s16.out; have := s17.out; have := s19.out; have := s20.out; have := s21.out; omega)
  replace og0 := og0.touch ht (by have := s2.out; have := s3.out; have := s4.out; have := s5.out; have := s6.out; have := s9.out; have := s10.out; have := s11.out; have := s12.out; have := s13.out; have := s16.out; have := s17.out; have := s19.out; have := s20.out; have := s21.out; omega)
  replace hbel := hbel.trans (ht.below (by have := s2.out; have := s3.out; have := s4.out; have := s5.out; have := s6.out; have := s9.out; have := s10.out; have := s11.out; have := s12.out; have := s13.out; have := s16.out; have := s17.out; have := s19.out; have := s20.out; have := s21.out; omega) hbel.size)
  clear ht
  go_wp2_with fail
  refine (heldRegister_any (wiR xBase xWidth xF).1 g0A g0C 1 (wiR xBase xWidth xF).2.1.length v11 og0.rd (by have := ow0.len; have := ow1.len; have := og0.len; have := og1.len; omega) (by have := ow0.len; have := ow1.len; have := og0.len; have := og1.len; omega)).mono ?_
  rintro e v12 ⟨rfl, hb⟩
  have s22 : Hid (v11.heap.size ≤ v12.heap.size) := Lib.hid hb.size
  replace cxF0 := kept hb cxF0
  replace cxF1 := kept hb cxF1
  replace cw00 := kept hb cw00
  replace cw01 := kept hb cw01
  replace cw10 := kept hb cw10
  replace cw11 := kept hb cw11
  replace cg00 := kept hb cg00
  replace cg01 := kept hb cg01
  replace cg10 := kept hb cg10
  replace cg11 := kept hb cg11
  replace ow0 := ow0.below hb
  replace ow1 := ow1.below hb
  replace og0 := og0.below hb
  replace og1 := og1.below hb
  replace hbel := hbel.trans (hb.mono hbel.size)
  clear hb
  go_wp2_with fail
  refine (heldRegister_any (wiR xBase xWidth xF).2.2.1 g1A g1C (1 + ((wiR xBase xWidth xF).2.1.length : Int)) (wiR xBase xWidth xF).2.2.2.1.length v12 og1.rd (by have := ow0.len; have := ow1.len; have := og0.len; have := og1.len; omega) (by have := ow0.len; have := ow1.len; have := og0.len; have := og1.len; omega)).mono ?_
  rintro e v13 ⟨rfl, hb⟩
  have s23 : Hid (v12.heap.size ≤ v13.heap.size) := Lib.hid hb.size
  replace cxF0 := kept hb cxF0
  replace cxF1 := kept hb cxF1
  replace cw00 := kept hb cw00
  replace cw01 := kept hb cw01
  replace cw10 := kept hb cw10
  replace cw11 := kept hb cw11
  replace cg00 := kept hb cg00
  replace cg01 := kept hb cg01
  replace cg10 := kept hb cg10
  replace cg11 := kept hb cg11
  replace ow0 := ow0.below hb
  replace ow1 := ow1.below hb
  replace og0 := og0.below hb
  replace og1 := og1.below hb
  replace hbel := hbel.trans (hb.mono hbel.size)
  clear hb
  go_wp2_with fail
  refine (toLeverFault_any xF v13).mono ?_
  rintro e v14 ⟨rfl, hb⟩
  have s25 : Hid (v13.heap.size ≤ v14.heap.size) := Lib.hid hb.size
  replace cxF0 := kept hb cxF0
  replace cxF1 := kept hb cxF1
  replace cw00 := kept hb cw00
  replace cw01 := kept hb cw01
  replace cw10 := kept hb cw10
  replace cw11 := kept hb cw11
  replace cg00 := kept hb cg00
  replace cg01 := kept hb cg01
  replace cg10 := kept hb cg10
  replace cg11 := kept hb cg11
  replace ow0 := ow0.below hb
  replace ow1 := ow1.below hb
  replace og0 := og0.below hb
  replace og1 := og1.below hb
  replace hbel := hbel.trans (hb.mono hbel.size)
  clear hb
  go_wp2_with fail
  refine (implWitnessOf xBase xWidth xF v14 bxBase bxWidth bxF).mono ?_
  rintro e v15 ⟨h0A, h0C, h1A, h1C, h0m, rfl, oh0, oh1, h0m1, h0m2, hb⟩
  have s26 := Lib.hid h0m1
  have s27 := Lib.hid h0m2
  clear h0m1 h0m2
  have s28 : Hid (v14.heap.size ≤ v15.heap.size) := Lib.hid hb.size
  replace cxF0 := kept hb cxF0
  replace cxF1 := kept hb cxF1
  replace cw00 := kept hb cw00
  replace cw01 := kept hb cw01
  replace cw10 := kept hb cw10
  replace cw11 := kept hb cw11
  replace cg00 := kept hb cg00
  replace cg01 := kept hb cg01
  replace cg10 := kept hb cg10
  replace cg11 := kept hb cg11
  replace ow0 := ow0.below hb
  replace ow1 := ow1.below hb
  replace og0 := og0.below hb
  replace og1 := og1.below hb
  replace hbel := hbel.trans (hb.mono hbel.size)
  clear hb
  have ha29 : Below v15.heap.size v15 ((v15.alloc (.cells #[.int .i64 (wiR xBase xWidth xF).1, .slice h0A (wiR xBase xWidth xF).2.1.length h0C] 31)).alloc (.cells #[.int .i64 (wiR xBase xWidth xF).2.2.1, .slice h1A (wiR xBase xWidth xF).2.2.2.1.length h1C] 31)) := ((Below.refl _ _).alloc (by simp <;> omega) _).alloc (by simp <;> omega) _
  replace cxF0 := kept ha29 cxF0
  replace cxF1 := kept ha29 cxF1
  replace cw00 := kept ha29 cw00
  replace cw01 := kept ha29 cw01
  replace cw10 := kept ha29 cw10
  replace cw11 := kept ha29 cw11
  replace cg00 := kept ha29 cg00
  replace cg01 := kept ha29 cg01
  replace cg10 := kept ha29 cg10
  replace cg11 := kept ha29 cg11
  replace ow0 := ow0.below ha29
  replace ow1 := ow1.below ha29
  replace og0 := og0.below ha29
  replace og1 := og1.below ha29
  replace oh0 := oh0.below ha29
  replace oh1 := oh1.below ha29
  replace hbel := hbel.trans (ha29.mono hbel.size)
  clear ha29
  have ch00 : ((v15.alloc (.cells #[.int .i64 (wiR xBase xWidth xF).1, .slice h0A (wiR xBase xWidth xF).2.1.length h0C] 31)).alloc (.cells #[.int .i64 (wiR xBase xWidth xF).2.2.1, .slice h1A (wiR xBase xWidth xF).2.2.2.1.length h1C] 31)).cell? ⟨v15.heap.size, 0, none⟩ = some (.int .i64 (wiR xBase xWidth xF).1) := by go_simp
  have ch01 : ((v15.alloc (.cells #[.int .i64 (wiR xBase xWidth xF).1, .slice h0A (wiR xBase xWidth xF).2.1.length h0C] 31)).alloc (.cells #[.int .i64 (wiR xBase xWidth xF).2.2.1, .slice h1A (wiR xBase xWidth xF).2.2.2.1.length h1C] 31)).cell? ⟨v15.heap.size, 1, none⟩ = some (.slice h0A (wiR xBase xWidth xF).2.1.length h0C) := by go_simp
  have ch10 : ((v15.alloc (.cells #[.int .i64 (wiR xBase xWidth xF).1, .slice h0A (wiR xBase xWidth xF).2.1.length h0C] 31)).alloc (.cells #[.int .i64 (wiR xBase xWidth xF).2.2.1, .slice h1A (wiR xBase xWidth xF).2.2.2.1.length h1C] 31)).cell? ⟨v15.heap.size + 1, 0, none⟩ = some (.int .i64 (wiR xBase xWidth xF).2.2.1) := by go_simp
  have ch11 : ((v15.alloc (.cells #[.int .i64 (wiR xBase xWidth xF).1, .slice h0A (wiR xBase xWidth xF).2.1.length h0C] 31)).alloc (.cells #[.int .i64 (wiR xBase xWidth xF).2.2.1, .slice h1A (wiR xBase xWidth xF).2.2.2.1.length h1C] 31)).cell? ⟨v15.heap.size + 1, 1, none⟩ = some (.slice h1A (wiR xBase xWidth xF).2.2.2.1.length h1C) := by go_simp
  have q30 : regEqB (wiR xBase xWidth xF).1 (wiR xBase xWidth xF).1 (wiR xBase xWidth xF).2.1 (wiR xBase xWidth xF).2.1 = true := regEqB_self _ _
  go_wp2_with fail
  obtain ⟨v16, hu⟩ : ∃ u, u = ((v15.alloc (.cells #[.int .i64 (wiR xBase xWidth xF).1, .slice h0A (wiR xBase xWidth xF).2.1.length h0C] 31)).alloc (.cells #[.int .i64 (wiR xBase xWidth xF).2.2.1, .slice h1A (wiR xBase xWidth xF).2.2.2.1.length h1C] 31)) := ⟨_, rfl⟩
  have s31 : Hid (v15.heap.size + 2 ≤ v16.heap.size) := Lib.hid (by rw [hu]; simp)
  rw [← hu] at cxF0 cxF1 cw00 cw01 cw10 cw11 cg00 cg01 cg10 cg11 ch00 ch01 ch10 ch11 ow0 ow1 og0 og1 oh0 oh1 hbel ⊢
  clear hu
  refine (eqRegister_any (wiR xBase xWidth xF).1 (wiR xBase xWidth xF).1 h0A w0A h0C w0C (wiR xBase xWidth xF).2.1 (wiR xBase xWidth xF).2.1 v16 oh0.rd ow0.rd).mono ?_
  rintro e v17 ⟨rfl, hb⟩
  have s32 : Hid (v16.heap.size ≤ v17.heap.size) := Lib.hid hb.size
  replace cxF0 := kept hb cxF0
  replace cxF1 := kept hb cxF1
  replace cw00 := kept hb cw00
  replace cw01 := kept hb cw01
  replace cw10 := kept hb cw10
  replace cw11 := kept hb cw11
  replace cg00 := kept hb cg00
  replace cg01 := kept hb cg01
  replace cg10 := kept hb cg10
  replace cg11 := kept hb cg11
  replace ch00 := kept hb ch00
  replace ch01 := kept hb ch01
  replace ch10 := kept hb ch10
  replace ch11 := kept hb ch11
  replace ow0 := ow0.below hb
  replace ow1 := ow1.below hb
  replace og0 := og0.below hb
  replace og1 := og1.below hb
  replace oh0 := oh0.below hb
  replace oh1 := oh1.below hb
  replace hbel := hbel.trans (hb.mono hbel.size)
  clear hb
  have q33 : regEqB (wiR xBase xWidth xF).2.2.1 (wiR xBase xWidth xF).2.2.1 (wiR xBase xWidth xF).2.2.2.1 (wiR xBase xWidth xF).2.2.2.1 = true := regEqB_self _ _
  go_wp2_with fail
  refine (eqRegister_any (wiR xBase xWidth xF).2.2.1 (wiR xBase xWidth xF).2.2.1 h1A w1A h1C w1C (wiR xBase xWidth xF).2.2.2.1 (wiR xBase xWidth xF).2.2.2.1 v17 oh1.rd ow1.rd).mono ?_
  rintro e v18 ⟨rfl, hb⟩
  have s34 : Hid (v17.heap.size ≤ v18.heap.size) := Lib.hid hb.size
  replace cxF0 := kept hb cxF0
  replace cxF1 := kept hb cxF1
  replace cw00 := kept hb cw00
  replace cw01 := kept hb cw01
  replace cw10 := kept hb cw10
  replace cw11 := kept hb cw11
  replace cg00 := kept hb cg00
  replace cg01 := kept hb cg01
  replace cg10 := kept hb cg10
  replace cg11 := kept hb cg11
  replace ch00 := kept hb ch00
  replace ch01 := kept hb ch01
  replace ch10 := kept hb ch10
  replace ch11 := kept hb ch11
  replace ow0 := ow0.below hb
  replace ow1 := ow1.below hb
  replace og0 := og0.below hb
  replace og1 := og1.below hb
  replace oh0 := oh0.below hb
  replace oh1 := oh1.below hb
  replace hbel := hbel.trans (hb.mono hbel.size)
  clear hb
  go_wp2_with fail
  refine (heldRegister_any (wiR xBase xWidth xF).1 g0A g0C 1 (wiR xBase xWidth xF).2.1.length v18 og0.rd (by have := ow0.len; have := ow1.len; have := og0.len; have := og1.len; have := oh0.len; have := oh1.len; omega) (by have := ow0.len; have := ow1.len; have := og0.len; have := og1.len; have := oh0.len; have := oh1.len; omega)).mono ?_
  rintro e v19 ⟨rfl, hb⟩
  have s35 : Hid (v18.heap.size ≤ v19.heap.size) := Lib.hid hb.size
  replace cxF0 := kept hb cxF0
  replace cxF1 := kept hb cxF1
  replace cw00 := kept hb cw00
  replace cw01 := kept hb cw01
  replace cw10 := kept hb cw10
  replace cw11 := kept hb cw11
  replace cg00 := kept hb cg00
  replace cg01 := kept hb cg01
  replace cg10 := kept hb cg10
  replace cg11 := kept hb cg11
  replace ch00 := kept hb ch00
  replace ch01 := kept hb ch01
  replace ch10 := kept hb ch10
  replace ch11 := kept hb ch11
  replace ow0 := ow0.below hb
  replace ow1 := ow1.below hb
  replace og0 := og0.below hb
  replace og1 := og1.below hb
  replace oh0 := oh0.below hb
  replace oh1 := oh1.below hb
  replace hbel := hbel.trans (hb.mono hbel.size)
  clear hb
  go_wp2_with fail
  refine (heldRegister_any (wiR xBase xWidth xF).2.2.1 g1A g1C (1 + ((wiR xBase xWidth xF).2.1.length : Int)) (wiR xBase xWidth xF).2.2.2.1.length v19 og1.rd (by have := ow0.len; have := ow1.len; have := og0.len; have := og1.len; have := oh0.len; have := oh1.len; omega) (by have := ow0.len; have := ow1.len; have := og0.len; have := og1.len; have := oh0.len; have := oh1.len; omega)).mono ?_
  rintro e v20 ⟨rfl, hb⟩
  have s36 : Hid (v19.heap.size ≤ v20.heap.size) := Lib.hid hb.size
  replace cxF0 := kept hb cxF0
  replace cxF1 := kept hb cxF1
  replace cw00 := kept hb cw00
  replace cw01 := kept hb cw01
  replace cw10 := kept hb cw10
  replace cw11 := kept hb cw11
  replace cg00 := kept hb cg00
  replace cg01 := kept hb cg01
  replace cg10 := kept hb cg10
  replace cg11 := kept hb cg11
  replace ch00 := kept hb ch00
  replace ch01 := kept hb ch01
  replace ch10 := kept hb ch10
  replace ch11 := kept hb ch11
  replace ow0 := ow0.below hb
  replace ow1 := ow1.below hb
  replace og0 := og0.below hb
  replace og1 := og1.below hb
  replace oh0 := oh0.below hb
  replace oh1 := oh1.below hb
  replace hbel := hbel.trans (hb.mono hbel.size)
  clear hb
  go_wp2
  go_ret
  exact ⟨rfl, hbel⟩

set_option maxRecDepth 100000 in
theorem lifted (os : Os) (started : os.Started) (H : Type) (enc : TypeId × Value → H) :
    ReturnsInHanded {} Try.checked os 5 .any (Rows.fnExactWitnessOfSpec.pre6 enc Try.prog Try.f5 Rows.fnExactWitnessOfRow.domain false) (Rows.fnExactWitnessOfSpec.post enc Try.prog Try.f5 false true false false) := by
  refine returnsInHanded_of_change (C := Try.checked) own_knob started (by kernel_rfl) Try.func5
    (ChangeSpec.witness6 (enc := enc) (C := Try.checked) false ⟨#[], #[.int .i64 0, .int .i64 0, .agg #[.int .i64 0, .int .i64 0]], []⟩ 8 (by kernel_rfl) (by kernel_rfl) (by kernel_rfl) (by kernel_rfl)) ?_
  intro W base args ds gs before hval0 hW hcnd _
  have hval : ∀ (j : Nat) t v, Try.f5.params[j]? = some t → args[j]? = some v → Value.okWide Try.prog W .any base t v := hval0
  have hW' := hW
  obtain ⟨p, q, hA0, hV, rfl, hfz, hnd⟩ := hW
  have hA : DataW.TrodAll enc Try.prog W 0 (fun _ => true) true Try.f5.params.toList args.toList ds p := hA0
  rw [Try.params5] at hA hval
  obtain ⟨v0, vs0, d0, ds0, p0, q0, hargs, rfl, rfl, h0, r0⟩ := trodAll_cons hA
  obtain ⟨v1, vs1, d1, ds1, p1, q1, rfl, rfl, rfl, h1, r1⟩ := trodAll_cons r0
  obtain ⟨v2, vs2, d2, ds2, p2, q2, rfl, rfl, rfl, h2, r2⟩ := trodAll_cons r1
  obtain ⟨rfl, rfl, rfl⟩ := trodAll_nil r2
  obtain rfl : args = #[v0, v1, v2] := by cases args; simp_all
  obtain ⟨rfl, rfl⟩ := trodVars_none hV
  obtain ⟨xBase, rfl, rfl, rfl, bxBase⟩ := open_int Try.underlying2 (hval 0 2 v0 rfl rfl) h0
  obtain ⟨xWidth, rfl, rfl, rfl, bxWidth⟩ := open_int Try.underlying2 (hval 1 2 v1 rfl rfl) h1
  have k2 := h2
  have lt2 : ∀ x ∈ p2, x.block < W.heap.size := by obtain ⟨m, hm⟩ := k2; exact DataW.trod_lt m _ _ _ hm
  obtain ⟨xF, rfl, bxF⟩ := open_LeverFault (hval 2 39 v2 rfl rfl) h2
  clear hA0 hval0
  refine (law_walk xBase xWidth xF W bxBase bxWidth bxF).mono fun e W' ⟨he, bel⟩ => ?_
  subst he
  exact ⟨_, rfl, _, _, _, [], _, [], hW', trodAll_mk1 (shut_bool Try.underlying4 _), (trodAll_cons_mk (shut_int Try.underlying2 bxBase) (trodAll_cons_mk (shut_int Try.underlying2 bxWidth) (trodAll_cons_mk (Below.trod laid_out (by kernel_rfl) (of_decide_eq_true (by kernel_rfl)) k2 bel lt2) trodAll_mk0))), rfl, bel.frame _, fun h => by cases h⟩

set_option maxHeartbeats 20000000 in
theorem closed : joinedFacts Try.prog 5 Try.f5 Rows.fnExactWitnessOfSpec Rows.fnExactWitnessOfRow = true := by
  simp only [joinedFacts, Bool.and_eq_true]
  refine ⟨⟨⟨⟨⟨⟨⟨⟨⟨⟨⟨⟨⟨⟨⟨⟨⟨⟨⟨⟨⟨⟨⟨⟨⟨⟨⟨⟨⟨⟨⟨?_, laid_out⟩, fact_maps⟩, ?_⟩, ?_⟩, ?_⟩, fact_stops⟩, ?_⟩, fact_knobs⟩, ?_⟩, ?_⟩, ?_⟩, ?_⟩, ?_⟩, ?_⟩, ?_⟩, ?_⟩, ?_⟩, ?_⟩, ?_⟩, ?_⟩, ?_⟩, fact_plain⟩, ?_⟩, fact_heard⟩, fact_enter⟩, fact_lift⟩, ?_⟩, ?_⟩, ?_⟩, ?_⟩, ?_⟩
  all_goals (as_aux_lemma => kernel_rfl)

theorem over : Rows.fnExactWitnessOfRow.holds Try.pinned (OpenSpec.ofChange Rows.fnExactWitnessOfSpec) :=
  OpenClaim.holds_of_wide 5 Try.f5 rfl rfl rfl rfl rfl rfl rfl ⟨rfl, rfl, rfl, rfl, rfl⟩ rfl rfl rfl rfl rfl (by as_aux_lemma => kernel_rfl) Try.func5 closed
    (of_decide_eq_true (by as_aux_lemma => kernel_rfl)) (by unfold Func.isWrapper; rw [if_neg (by decide +kernel)]; exact ⟨rfl, rfl⟩)
    (fun os started H enc _ => lifted os started H enc)

/-- The statement. -/
theorem proved : Rows.FnExactWitnessOfSaid := over
end Go.Proofs.Ytiogbpnnnpodkaa.lawWitnessOf
