/-
  laws.FnExactWorstRipple returns true at every input (no condition), and leaves its arguments as they were.
-/
import Derived.Test.YtgfpjcckkbhdjaaReg
import Derived.Test.YtgfpjcckkbhdjaaBox
import Derived.Test.YtgfpjcckkbhdjaaFrame
import Derived.Test.YtgfpjcckkbhdjaaWorI
import Derived.Test.YtgfpjcckkbhdjaaWorS
import Derived.Test.YtgfpjcckkbhdjaaLeaves
import Derived.Test.YtgfpjcckkbhdjaaFacts
import Derived.Test.YtgfpjcckkbhdjaaRows
namespace Go.Proofs.Ytgfpjcckkbhdjaa.lawWorstRipple
open Go.ChangeShapes Go.WideShapes Go.ChangeAt Go.WideElems Go.RowKit Go.Joins
open Go.ChangeMaps (open_string shut_string)

set_option maxRecDepth 100000 in
set_option maxHeartbeats 4000000 in
theorem law_walk (xBase : Int) (xWidth : Int) (w : World) (bxBase : I64 xBase) (bxWidth : I64 xWidth) :
    Calls Try.prog 15 #[.int .i64 xBase, .int .i64 xWidth] w fun e w' => e = .returned (.bool true) ∧ Below w.heap.size w w' := by
  have hbel : Below w.heap.size w w := Below.refl _ _
  go_enter Try.func15, Try.ntmps15
  go_wp2_with fail
  refine (specWorstRipple xBase xWidth w bxBase bxWidth).mono ?_
  rintro e v1 ⟨w0A, w0C, w1A, w1C, w0m, rfl, ow0, ow1, w0m1, w0m2, hb⟩
  have s1 := Lib.hid w0m1
  have s2 := Lib.hid w0m2
  clear w0m1 w0m2
  have s3 : Hid (w.heap.size ≤ v1.heap.size) := Lib.hid hb.size
  replace hbel := hbel.trans (hb.mono hbel.size)
  clear hb
  have ha4 : Below v1.heap.size v1 ((v1.alloc (.cells #[.int .i64 (wrR xBase xWidth).1, .slice w0A (wrR xBase xWidth).2.1.length w0C] 26)).alloc (.cells #[.int .i64 (wrR xBase xWidth).2.2.1, .slice w1A (wrR xBase xWidth).2.2.2.1.length w1C] 26)) := ((Below.refl _ _).alloc (by simp <;> omega) _).alloc (by simp <;> omega) _
  replace ow0 := ow0.below ha4
  replace ow1 := ow1.below ha4
  replace hbel := hbel.trans (ha4.mono hbel.size)
  clear ha4
  have cw00 : ((v1.alloc (.cells #[.int .i64 (wrR xBase xWidth).1, .slice w0A (wrR xBase xWidth).2.1.length w0C] 26)).alloc (.cells #[.int .i64 (wrR xBase xWidth).2.2.1, .slice w1A (wrR xBase xWidth).2.2.2.1.length w1C] 26)).cell? ⟨v1.heap.size, 0, none⟩ = some (.int .i64 (wrR xBase xWidth).1) := by go_simp
  have cw01 : ((v1.alloc (.cells #[.int .i64 (wrR xBase xWidth).1, .slice w0A (wrR xBase xWidth).2.1.length w0C] 26)).alloc (.cells #[.int .i64 (wrR xBase xWidth).2.2.1, .slice w1A (wrR xBase xWidth).2.2.2.1.length w1C] 26)).cell? ⟨v1.heap.size, 1, none⟩ = some (.slice w0A (wrR xBase xWidth).2.1.length w0C) := by go_simp
  have cw10 : ((v1.alloc (.cells #[.int .i64 (wrR xBase xWidth).1, .slice w0A (wrR xBase xWidth).2.1.length w0C] 26)).alloc (.cells #[.int .i64 (wrR xBase xWidth).2.2.1, .slice w1A (wrR xBase xWidth).2.2.2.1.length w1C] 26)).cell? ⟨v1.heap.size + 1, 0, none⟩ = some (.int .i64 (wrR xBase xWidth).2.2.1) := by go_simp
  have cw11 : ((v1.alloc (.cells #[.int .i64 (wrR xBase xWidth).1, .slice w0A (wrR xBase xWidth).2.1.length w0C] 26)).alloc (.cells #[.int .i64 (wrR xBase xWidth).2.2.1, .slice w1A (wrR xBase xWidth).2.2.2.1.length w1C] 26)).cell? ⟨v1.heap.size + 1, 1, none⟩ = some (.slice w1A (wrR xBase xWidth).2.2.2.1.length w1C) := by go_simp
  go_wp2_with fail
  obtain ⟨v2, hu⟩ : ∃ u, u = ((v1.alloc (.cells #[.int .i64 (wrR xBase xWidth).1, .slice w0A (wrR xBase xWidth).2.1.length w0C] 26)).alloc (.cells #[.int .i64 (wrR xBase xWidth).2.2.1, .slice w1A (wrR xBase xWidth).2.2.2.1.length w1C] 26)) := ⟨_, rfl⟩
  have s5 : Hid (v1.heap.size + 2 ≤ v2.heap.size) := Lib.hid (by rw [hu]; simp)
  rw [← hu] at cw00 cw01 cw10 cw11 ow0 ow1 hbel ⊢
  clear hu
  refine (implWorstRipple xBase xWidth v2 bxBase bxWidth).mono ?_
  rintro e v3 ⟨g0A, g0C, g1A, g1C, g0m, rfl, og0, og1, g0m1, g0m2, hb⟩
  have s6 := Lib.hid g0m1
  have s7 := Lib.hid g0m2
  clear g0m1 g0m2
  have s8 : Hid (v2.heap.size ≤ v3.heap.size) := Lib.hid hb.size
  replace cw00 := kept hb cw00
  replace cw01 := kept hb cw01
  replace cw10 := kept hb cw10
  replace cw11 := kept hb cw11
  replace ow0 := ow0.below hb
  replace ow1 := ow1.below hb
  replace hbel := hbel.trans (hb.mono hbel.size)
  clear hb
  have ha9 : Below v3.heap.size v3 ((v3.alloc (.cells #[.int .i64 (wrR xBase xWidth).1, .slice g0A (wrR xBase xWidth).2.1.length g0C] 26)).alloc (.cells #[.int .i64 (wrR xBase xWidth).2.2.1, .slice g1A (wrR xBase xWidth).2.2.2.1.length g1C] 26)) := ((Below.refl _ _).alloc (by simp <;> omega) _).alloc (by simp <;> omega) _
  replace cw00 := kept ha9 cw00
  replace cw01 := kept ha9 cw01
  replace cw10 := kept ha9 cw10
  replace cw11 := kept ha9 cw11
  replace ow0 := ow0.below ha9
  replace ow1 := ow1.below ha9
  replace og1 := og1.below ha9
  replace og0 := og0.below ha9
  replace hbel := hbel.trans (ha9.mono hbel.size)
  clear ha9
  have cg00 : ((v3.alloc (.cells #[.int .i64 (wrR xBase xWidth).1, .slice g0A (wrR xBase xWidth).2.1.length g0C] 26)).alloc (.cells #[.int .i64 (wrR xBase xWidth).2.2.1, .slice g1A (wrR xBase xWidth).2.2.2.1.length g1C] 26)).cell? ⟨v3.heap.size, 0, none⟩ = some (.int .i64 (wrR xBase xWidth).1) := by go_simp
  have cg01 : ((v3.alloc (.cells #[.int .i64 (wrR xBase xWidth).1, .slice g0A (wrR xBase xWidth).2.1.length g0C] 26)).alloc (.cells #[.int .i64 (wrR xBase xWidth).2.2.1, .slice g1A (wrR xBase xWidth).2.2.2.1.length g1C] 26)).cell? ⟨v3.heap.size, 1, none⟩ = some (.slice g0A (wrR xBase xWidth).2.1.length g0C) := by go_simp
  have cg10 : ((v3.alloc (.cells #[.int .i64 (wrR xBase xWidth).1, .slice g0A (wrR xBase xWidth).2.1.length g0C] 26)).alloc (.cells #[.int .i64 (wrR xBase xWidth).2.2.1, .slice g1A (wrR xBase xWidth).2.2.2.1.length g1C] 26)).cell? ⟨v3.heap.size + 1, 0, none⟩ = some (.int .i64 (wrR xBase xWidth).2.2.1) := by go_simp
  have cg11 : ((v3.alloc (.cells #[.int .i64 (wrR xBase xWidth).1, .slice g0A (wrR xBase xWidth).2.1.length g0C] 26)).alloc (.cells #[.int .i64 (wrR xBase xWidth).2.2.1, .slice g1A (wrR xBase xWidth).2.2.2.1.length g1C] 26)).cell? ⟨v3.heap.size + 1, 1, none⟩ = some (.slice g1A (wrR xBase xWidth).2.2.2.1.length g1C) := by go_simp
  have q10 : regEqB (wrR xBase xWidth).1 (wrR xBase xWidth).1 (wrR xBase xWidth).2.1 (wrR xBase xWidth).2.1 = true := regEqB_self _ _
  go_wp2_with fail
  obtain ⟨v4, hu⟩ : ∃ u, u = ((v3.alloc (.cells #[.int .i64 (wrR xBase xWidth).1, .slice g0A (wrR xBase xWidth).2.1.length g0C] 26)).alloc (.cells #[.int .i64 (wrR xBase xWidth).2.2.1, .slice g1A (wrR xBase xWidth).2.2.2.1.length g1C] 26)) := ⟨_, rfl⟩
  have s11 : Hid (v3.heap.size + 2 ≤ v4.heap.size) := Lib.hid (by rw [hu]; simp)
  rw [← hu] at cw00 cw01 cw10 cw11 cg00 cg01 cg10 cg11 ow0 ow1 og1 og0 hbel ⊢
  clear hu
  refine (eqRegister_any (wrR xBase xWidth).1 (wrR xBase xWidth).1 g0A w0A g0C w0C (wrR xBase xWidth).2.1 (wrR xBase xWidth).2.1 v4 og0.rd ow0.rd).mono ?_
  rintro e v5 ⟨rfl, hb⟩
  have s12 : Hid (v4.heap.size ≤ v5.heap.size) := Lib.hid hb.size
  replace cw00 := kept hb cw00
  replace cw01 := kept hb cw01
  replace cw10 := kept hb cw10
  replace cw11 := kept hb cw11
  replace cg00 := kept hb cg00
  replace cg01 := kept hb cg01
  replace cg10 := kept hb cg10
  replace cg11 := kept hb cg11
  replace ow0 := ow0.below hb
  replace ow1 := ow1.below hb
  replace og1 := og1.below hb
  replace og0 := og0.below hb
  replace hbel := hbel.trans (hb.mono hbel.size)
  clear hb
  have q13 : regEqB (wrR xBase xWidth).2.2.1 (wrR xBase xWidth).2.2.1 (wrR xBase xWidth).2.2.2.1 (wrR xBase xWidth).2.2.2.1 = true := regEqB_self _ _
  go_wp2_with fail
  refine (eqRegister_any (wrR xBase xWidth).2.2.1 (wrR xBase xWidth).2.2.1 g1A w1A g1C w1C (wrR xBase xWidth).2.2.2.1 (wrR xBase xWidth).2.2.2.1 v5 og1.rd ow1.rd).mono ?_
  rintro e v6 ⟨rfl, hb⟩
  have s14 : Hid (v5.heap.size ≤ v6.heap.size) := Lib.hid hb.size
  replace cw00 := kept hb cw00
  replace cw01 := kept hb cw01
  replace cw10 := kept hb cw10
  replace cw11 := kept hb cw11
  replace cg00 := kept hb cg00
  replace cg01 := kept hb cg01
  replace cg10 := kept hb cg10
  replace cg11 := kept hb cg11
  replace ow0 := ow0.below hb
  replace ow1 := ow1.below hb
  replace og1 := og1.below hb
  replace og0 := og0.below hb
  replace hbel := hbel.trans (hb.mono hbel.size)
  clear hb
  go_wp2_with fail
  refine (markRegister_any _ _ _ (wrR xBase xWidth).1 g0A g0C 1 (wrR xBase xWidth).2.1 v6 og0 (by have := ow0.len; have := ow1.len; have := og1.len; have := og0.len; omega) (by have := ow0.len; have := ow1.len; have := og1.len; have := og0.len; omega)).mono ?_
  rintro e v7 ⟨rfl, om, ht⟩
  have s15 : Hid (v6.heap.size ≤ v7.heap.size) := Lib.hid ht.size
  clear og0
  have og0 := om
  clear om
  replace cw00 := keptT ht cw00 (by have := s1.out; have := s2.out; have := s3.out; have := s5.out; have := s6.out; have := s7.out; have := s8.out; have := s11.out; have := s12.out; have := s14.out; have := s15.out; omega)
  replace cw01 := keptT ht cw01 (by have := s1.out; have := s2.out; have := s3.out; have := s5.out; have := s6.out; have := s7.out; have := s8.out; have := s11.out; have := s12.out; have := s14.out; have := s15.out; omega)
  replace cw10 := keptT ht cw10 (by have := s1.out; have := s2.out; have := s3.out; have := s5.out; have := s6.out; have := s7.out; have := s8.out; have := s11.out; have := s12.out; have := s14.out; have := s15.out; omega)
  replace cw11 := keptT ht cw11 (by have := s1.out; have := s2.out; have := s3.out; have := s5.out; have := s6.out; have := s7.out; have := s8.out; have := s11.out; have := s12.out; have := s14.out; have := s15.out; omega)
  replace cg00 := keptT ht cg00 (by have := s1.out; have := s2.out; have := s3.out; have := s5.out; have := s6.out; have := s7.out; have := s8.out; have := s11.out; have := s12.out; have := s14.out; have := s15.out; omega)
  replace cg01 := keptT ht cg01 (by have := s1.out; have := s2.out; have := s3.out; have := s5.out; have := s6.out; have := s7.out; have := s8.out; have := s11.out; have := s12.out; have := s14.out; have := s15.out; omega)
  replace cg10 := keptT ht cg10 (by have := s1.out; have := s2.out; have := s3.out; have := s5.out; have := s6.out; have := s7.out; have := s8.out; have := s11.out; have := s12.out; have := s14.out; have := s15.out; omega)
  replace cg11 := keptT ht cg11 (by have := s1.out; have := s2.out; have := s3.out; have := s5.out; have := s6.out; have := s7.out; have := s8.out; have := s11.out; have := s12.out; have := s14.out; have := s15.out; omega)
  replace ow0 := ow0.touch ht (by have := s1.out; have := s2.out; have := s3.out; have := s5.out; have := s6.out; have := s7.out; have := s8.out; have := s11.out; have := s12.out; have := s14.out; have := s15.out; omega)
  replace ow1 := ow1.touch ht (by have := s1.out; have := s2.out; have := s3.out; have := s5.out; have := s6.out; have := s7.out; have := s8.out; have := s11.out; have := s12.out; have := s14.out; have := s15.out; omega)
  replace og1 := og1.touch ht (by have := s1.out; have := s2.out; have := s3.out; have := s5.out; have := s6.out; have := s7.out; have := s8.out; have := s11.out; have := s12.out; have := s14.out; have := s15.out; omega)
  replace hbel := hbel.trans (ht.below (by have := s1.out; have := s2.out; have := s3.out; have := s5.out; have := s6.out; have := s7.out; have := s8.out; have := s11.out; have := s12.out; have := s14.out; have := s15.out; omega) hbel.size)
  clear ht
  go_wp2_with fail
  refine (markRegister_any _ _ _ (wrR xBase xWidth).2.2.1 g1A g1C (1 + ((wrR xBase xWidth).2.1.length : Int)) (wrR xBase xWidth).2.2.2.1 v7 og1 (by have := ow0.len; have := ow1.len; have := og1.len; have := og0.len; omega) (by have := ow0.len; have := ow1.len; have := og1.len; have := og0.len; omega)).mono ?_
  rintro e v8 ⟨rfl, om, ht⟩
  have s16 : Hid (v7.heap.size ≤ v8.heap.size) := Lib.hid ht.size
  clear og1
  have og1 := om
  clear om
  replace cw00 := keptT ht cw00 (by have := s1.out; have := s2.out; have := s3.out; have := s5.out; have := s6.out; have := s7.out; have := s8.out; have := s11.out; have := s12.out; have := s14.out; have := s15.out; have := s16.out; omega)
  replace cw01 := keptT ht cw01 (by have := s1.out; have := s2.out; have := s3.out; have := s5.out; have := s6.out; have := s7.out; have := s8.out; have := s11.out; have := s12.out; have := s14.out; have := s15.out; have := s16.out; omega)
  replace cw10 := keptT ht cw10 (by have := s1.out; have := s2.out; have := s3.out; have := s5.out; have := s6.out; have := s7.out; have := s8.out; have := s11.out; have := s12.out; have := s14.out; have := s15.out; have := s16.out; omega)
  replace cw11 := keptT ht cw11 (by have := s1.out; have := s2.out; have := s3.out; have := s5.out; have := s6.out; have := s7.out; have := s8.out; have := s11.out; have := s12.out; have := s14.out; have := s15.out; have := s16.out; omega)
  replace cg00 := keptT ht cg00 (by have := s1.out; have := s2.out; have := s3.out; have := s5.out; have := s6.out; have := s7.out; have := s8.out; have := s11.out; have := s12.out; have := s14.out; have := s15.out; have := s16.out; omega)
  replace cg01 := keptT ht cg01 (by have := s1.out; have := s2.out; have := s3.out; have := s5.out; have := s6.out; have := s7.out; have := s8.out; have := s11.out; have := s12.out; have := s14.out; have := s15.out; have := s16.out; omega)
  replace cg10 := keptT ht cg10 (by have := s1.out; have := s2.out; have := s3.out; have := s5.out; have := s6.out; have := s7.out; have := s8.out; have := s11.out; have := s12.out; have := s14.out; have := s15.out; have := s16.out; omega)
  replace cg11 := keptT ht cg11 (by have := s1.out; have := s2.out; have := s3.out; have := s5.out; have := s6.out; have := s7.out; have := s8.out; have := s11.out; have := s12.out; have := s14.out; have := s15.out; have := s16.out; omega)
  replace ow0 := ow0.touch ht (by have := s1.out; have := s2.out; have := s3.out; have := s5.out; have := s6.out; have := s7.out; have := s8.out; have := s11.out; have := s12.out; have := s14.out; have := s15.out; have := s16.out; omega)
  replace ow1 := ow1.touch ht (by have := s1.out; have := s2.out; have := s3.out; have := s5.out; have := s6.out; have := s7.out; have := s8.out; have := s11.out; have := s12.out; have := s14.out; have := s15.out; have := s16.out; omega)
  replace og0 := og0.touch ht (by have := s1.out; have := s2.out; have := s3.out; have := s5.out; have := s6.out; have := s7.out; have := s8.out; have := s11.out; have := s12.out; have := s14.out; have := s15.out; have := s16.out; omega)
  replace hbel := hbel.trans (ht.below (by have := s1.out; have := s2.out; have := s3.out; have := s5.out; have := s6.out; have := s7.out; have := s8.out; have := s11.out; have := s12.out; have := s14.out; have := s15.out; have := s16.out; omega) hbel.size)
  clear ht
  go_wp2_with fail
  refine (heldRegister_any (wrR xBase xWidth).1 g0A g0C 1 (wrR xBase xWidth).2.1.length v8 og0.rd (by have := ow0.len; have := ow1.len; have := og1.len; have := og0.len; omega) (by have := ow0.len; have := ow1.len; have := og1.len; have := og0.len; omega)).mono ?_
  rintro e v9 ⟨rfl, hb⟩
  have s17 : Hid (v8.heap.size ≤ v9.heap.size) := Lib.hid hb.size
  replace cw00 := kept hb cw00
  replace cw01 := kept hb cw01
  replace cw10 := kept hb cw10
  replace cw11 := kept hb cw11
  replace cg00 := kept hb cg00
  replace cg01 := kept hb cg01
  replace cg10 := kept hb cg10
  replace cg11 := kept hb cg11
  replace ow0 := ow0.below hb
  replace ow1 := ow1.below hb
  replace og1 := og1.below hb
  replace og0 := og0.below hb
  replace hbel := hbel.trans (hb.mono hbel.size)
  clear hb
  go_wp2_with fail
  refine (heldRegister_any (wrR xBase xWidth).2.2.1 g1A g1C (1 + ((wrR xBase xWidth).2.1.length : Int)) (wrR xBase xWidth).2.2.2.1.length v9 og1.rd (by have := ow0.len; have := ow1.len; have := og1.len; have := og0.len; omega) (by have := ow0.len; have := ow1.len; have := og1.len; have := og0.len; omega)).mono ?_
  rintro e v10 ⟨rfl, hb⟩
  have s18 : Hid (v9.heap.size ≤ v10.heap.size) := Lib.hid hb.size
  replace cw00 := kept hb cw00
  replace cw01 := kept hb cw01
  replace cw10 := kept hb cw10
  replace cw11 := kept hb cw11
  replace cg00 := kept hb cg00
  replace cg01 := kept hb cg01
  replace cg10 := kept hb cg10
  replace cg11 := kept hb cg11
  replace ow0 := ow0.below hb
  replace ow1 := ow1.below hb
  replace og1 := og1.below hb
  replace og0 := og0.below hb
  replace hbel := hbel.trans (hb.mono hbel.size)
  clear hb
  go_wp2_with fail
  refine (implWorstRipple xBase xWidth v10 bxBase bxWidth).mono ?_
  rintro e v11 ⟨h0A, h0C, h1A, h1C, h0m, rfl, oh0, oh1, h0m1, h0m2, hb⟩
  have s19 := Lib.hid h0m1
  have s20 := Lib.hid h0m2
  clear h0m1 h0m2
  have s21 : Hid (v10.heap.size ≤ v11.heap.size) := Lib.hid hb.size
  replace cw00 := kept hb cw00
  replace cw01 := kept hb cw01
  replace cw10 := kept hb cw10
  replace cw11 := kept hb cw11
  replace cg00 := kept hb cg00
  replace cg01 := kept hb cg01
  replace cg10 := kept hb cg10
  replace cg11 := kept hb cg11
  replace ow0 := ow0.below hb
  replace ow1 := ow1.below hb
  replace og1 := og1.below hb
  replace og0 := og0.below hb
  replace hbel := hbel.trans (hb.mono hbel.size)
  clear hb
  have ha22 : Below v11.heap.size v11 ((v11.alloc (.cells #[.int .i64 (wrR xBase xWidth).1, .slice h0A (wrR xBase xWidth).2.1.length h0C] 26)).alloc (.cells #[.int .i64 (wrR xBase xWidth).2.2.1, .slice h1A (wrR xBase xWidth).2.2.2.1.length h1C] 26)) := ((Below.refl _ _).alloc (by simp <;> omega) _).alloc (by simp <;> omega) _
  replace cw00 := kept ha22 cw00
  replace cw01 := kept ha22 cw01
  replace cw10 := kept ha22 cw10
  replace cw11 := kept ha22 cw11
  replace cg00 := kept ha22 cg00
  replace cg01 := kept ha22 cg01
  replace cg10 := kept ha22 cg10
  replace cg11 := kept ha22 cg11
  replace ow0 := ow0.below ha22
  replace ow1 := ow1.below ha22
  replace og1 := og1.below ha22
  replace og0 := og0.below ha22
  replace oh1 := oh1.below ha22
  replace oh0 := oh0.below ha22
  replace hbel := hbel.trans (ha22.mono hbel.size)
  clear ha22
  have ch00 : ((v11.alloc (.cells #[.int .i64 (wrR xBase xWidth).1, .slice h0A (wrR xBase xWidth).2.1.length h0C] 26)).alloc (.cells #[.int .i64 (wrR xBase xWidth).2.2.1, .slice h1A (wrR xBase xWidth).2.2.2.1.length h1C] 26)).cell? ⟨v11.heap.size, 0, none⟩ = some (.int .i64 (wrR xBase xWidth).1) := by go_simp
  have ch01 : ((v11.alloc (.cells #[.int .i64 (wrR xBase xWidth).1, .slice h0A (wrR xBase xWidth).2.1.length h0C] 26)).alloc (.cells #[.int .i64 (wrR xBase xWidth).2.2.1, .slice h1A (wrR xBase xWidth).2.2.2.1.length h1C] 26)).cell? ⟨v11.heap.size, 1, none⟩ = some (.slice h0A (wrR xBase xWidth).2.1.length h0C) := by go_simp
  have ch10 : ((v11.alloc (.cells #[.int .i64 (wrR xBase xWidth).1, .slice h0A (wrR xBase xWidth).2.1.length h0C] 26)).alloc (.cells #[.int .i64 (wrR xBase xWidth).2.2.1, .slice h1A (wrR xBase xWidth).2.2.2.1.length h1C] 26)).cell? ⟨v11.heap.size + 1, 0, none⟩ = some (.int .i64 (wrR xBase xWidth).2.2.1) := by go_simp
  have ch11 : ((v11.alloc (.cells #[.int .i64 (wrR xBase xWidth).1, .slice h0A (wrR xBase xWidth).2.1.length h0C] 26)).alloc (.cells #[.int .i64 (wrR xBase xWidth).2.2.1, .slice h1A (wrR xBase xWidth).2.2.2.1.length h1C] 26)).cell? ⟨v11.heap.size + 1, 1, none⟩ = some (.slice h1A (wrR xBase xWidth).2.2.2.1.length h1C) := by go_simp
  have q23 : regEqB (wrR xBase xWidth).1 (wrR xBase xWidth).1 (wrR xBase xWidth).2.1 (wrR xBase xWidth).2.1 = true := regEqB_self _ _
  go_wp2_with fail
  obtain ⟨v12, hu⟩ : ∃ u, u = ((v11.alloc (.cells #[.int .i64 (wrR xBase xWidth).1, .slice h0A (wrR xBase xWidth).2.1.length h0C] 26)).alloc (.cells #[.int .i64 (wrR xBase xWidth).2.2.1, .slice h1A (wrR xBase xWidth).2.2.2.1.length h1C] 26)) := ⟨_, rfl⟩
  have s24 : Hid (v11.heap.size + 2 ≤ v12.heap.size) := Lib.hid (by rw [hu]; simp)
  rw [← hu] at cw00 cw01 cw10 cw11 cg00 cg01 cg10 cg11 ch00 ch01 ch10 ch11 ow0 ow1 og1 og0 oh1 oh0 hbel ⊢
  clear hu
  refine (eqRegister_any (wrR xBase xWidth).1 (wrR xBase xWidth).1 h0A w0A h0C w0C (wrR xBase xWidth).2.1 (wrR xBase xWidth).2.1 v12 oh0.rd ow0.rd).mono ?_
  rintro e v13 ⟨rfl, hb⟩
  have s25 : Hid (v12.heap.size ≤ v13.heap.size) := Lib.hid hb.size
  replace cw00 := kept hb cw00
  replace cw01 := kept hb cw01
  replace cw10 := kept hb cw10
  replace cw11 := kept hb cw11
  replace cg00 := kept hb cg00
  replace cg01 := kept hb cg01
  replace cg10 := kept hb cg10
  replace cg11 := kept hb cg11
  replace ch00 := kept hb ch00
  replace ch01 := kept hb ch01
  replace ch10 := kept hb ch10
  replace ch11 := kept hb ch11
  replace ow0 := ow0.below hb
  replace ow1 := ow1.below hb
  replace og1 := og1.below hb
  replace og0 := og0.below hb
  replace oh1 := oh1.below hb
  replace oh0 := oh0.below hb
  replace hbel := hbel.trans (hb.mono hbel.size)
  clear hb
  have q26 : regEqB (wrR xBase xWidth).2.2.1 (wrR xBase xWidth).2.2.1 (wrR xBase xWidth).2.2.2.1 (wrR xBase xWidth).2.2.2.1 = true := regEqB_self _ _
  go_wp2_with fail
  refine (eqRegister_any (wrR xBase xWidth).2.2.1 (wrR xBase xWidth).2.2.1 h1A w1A h1C w1C (wrR xBase xWidth).2.2.2.1 (wrR xBase xWidth).2.2.2.1 v13 oh1.rd ow1.rd).mono ?_
  rintro e v14 ⟨rfl, hb⟩
  have s27 : Hid (v13.heap.size ≤ v14.heap.size) := Lib.hid hb.size
  replace cw00 := kept hb cw00
  replace cw01 := kept hb cw01
  replace cw10 := kept hb cw10
  replace cw11 := kept hb cw11
  replace cg00 := kept hb cg00
  replace cg01 := kept hb cg01
  replace cg10 := kept hb cg10
  replace cg11 := kept hb cg11
  replace ch00 := kept hb ch00
  replace ch01 := kept hb ch01
  replace ch10 := kept hb ch10
  replace ch11 := kept hb ch11
  replace ow0 := ow0.below hb
  replace ow1 := ow1.below hb
  replace og1 := og1.below hb
  replace og0 := og0.below hb
  replace oh1 := oh1.below hb
  replace oh0 := oh0.below hb
  replace hbel := hbel.trans (hb.mono hbel.size)
  clear hb
  go_wp2_with fail
  refine (heldRegister_any (wrR xBase xWidth).1 g0A g0C 1 (wrR xBase xWidth).2.1.length v14 og0.rd (by have := ow0.len; have := ow1.len; have := og1.len; have := og0.len; have := oh1.len; have := oh0.len; omega) (by have := ow0.len; have := ow1.len; have := og1.len; have := og0.len; have := oh1.len; have := oh0.len; omega)).mono ?_
  rintro e v15 ⟨rfl, hb⟩
  have s28 : Hid (v14.heap.size ≤ v15.heap.size) := Lib.hid hb.size
  replace cw00 := kept hb cw00
  replace cw01 := kept hb cw01
  replace cw10 := kept hb cw10
  replace cw11 := kept hb cw11
  replace cg00 := kept hb cg00
  replace cg01 := kept hb cg01
  replace cg10 := kept hb cg10
  replace cg11 := kept hb cg11
  replace ch00 := kept hb ch00
  replace ch01 := kept hb ch01
  replace ch10 := kept hb ch10
  replace ch11 := kept hb ch11
  replace ow0 := ow0.below hb
  replace ow1 := ow1.below hb
  replace og1 := og1.below hb
  replace og0 := og0.below hb
  replace oh1 := oh1.below hb
  replace oh0 := oh0.below hb
  replace hbel := hbel.trans (hb.mono hbel.size)
  clear hb
  go_wp2_with fail
  refine (heldRegister_any (wrR xBase xWidth).2.2.1 g1A g1C (1 + ((wrR xBase xWidth).2.1.length : Int)) (wrR xBase xWidth).2.2.2.1.length v15 og1.rd (by have := ow0.len; have := ow1.len; have := og1.len; have := og0.len; have := oh1.len; have := oh0.len; omega) (by have := ow0.len; have := ow1.len; have := og1.len; have := og0.len; have := oh1.len; have := oh0.len; omega)).mono ?_
  rintro e v16 ⟨rfl, hb⟩
  have s29 : Hid (v15.heap.size ≤ v16.heap.size) := Lib.hid hb.size
  replace cw00 := kept hb cw00
  replace cw01 := kept hb cw01
  replace cw10 := kept hb cw10
  replace cw11 := kept hb cw11
  replace cg00 := kept hb cg00
  replace cg01 := kept hb cg01
  replace cg10 := kept hb cg10
  replace cg11 := kept hb cg11
  replace ch00 := kept hb ch00
  replace ch01 := kept hb ch01
  replace ch10 := kept hb ch10
  replace ch11 := kept hb ch11
  replace ow0 := ow0.below hb
  replace ow1 := ow1.below hb
  replace og1 := og1.below hb
  replace og0 := og0.below hb
  replace oh1 := oh1.below hb
  replace oh0 := oh0.below hb
  replace hbel := hbel.trans (hb.mono hbel.size)
  clear hb
  go_wp2
  go_ret
  exact ⟨rfl, hbel⟩

set_option maxRecDepth 100000 in
theorem lifted (os : Os) (started : os.Started) (H : Type) (enc : TypeId × Value → H) :
    ReturnsInHanded {} Try.checked os 15 .any (Rows.fnExactWorstRippleSpec.pre6 enc Try.prog Try.f15 Rows.fnExactWorstRippleRow.domain false) (Rows.fnExactWorstRippleSpec.post enc Try.prog Try.f15 false true false false) := by
  refine returnsInHanded_of_change (C := Try.checked) own_knob started (by kernel_rfl) Try.func15
    (ChangeSpec.witness6 (enc := enc) (C := Try.checked) false ⟨#[], #[.int .i64 0, .int .i64 0], []⟩ 8 (by kernel_rfl) (by kernel_rfl) (by kernel_rfl) (by kernel_rfl)) ?_
  intro W base args ds gs before hval0 hW hcnd _
  have hval : ∀ (j : Nat) t v, Try.f15.params[j]? = some t → args[j]? = some v → Value.okWide Try.prog W .any base t v := hval0
  have hW' := hW
  obtain ⟨p, q, hA0, hV, rfl, hfz, hnd⟩ := hW
  have hA : DataW.TrodAll enc Try.prog W 0 (fun _ => true) true Try.f15.params.toList args.toList ds p := hA0
  rw [Try.params15] at hA hval
  obtain ⟨v0, vs0, d0, ds0, p0, q0, hargs, rfl, rfl, h0, r0⟩ := trodAll_cons hA
  obtain ⟨v1, vs1, d1, ds1, p1, q1, rfl, rfl, rfl, h1, r1⟩ := trodAll_cons r0
  obtain ⟨rfl, rfl, rfl⟩ := trodAll_nil r1
  obtain rfl : args = #[v0, v1] := by cases args; simp_all
  obtain ⟨rfl, rfl⟩ := trodVars_none hV
  obtain ⟨xBase, rfl, rfl, rfl, bxBase⟩ := open_int Try.underlying2 (hval 0 2 v0 rfl rfl) h0
  obtain ⟨xWidth, rfl, rfl, rfl, bxWidth⟩ := open_int Try.underlying2 (hval 1 2 v1 rfl rfl) h1
  clear hA0 hval0
  refine (law_walk xBase xWidth W bxBase bxWidth).mono fun e W' ⟨he, bel⟩ => ?_
  subst he
  exact ⟨_, rfl, _, _, _, [], _, [], hW', trodAll_mk1 (shut_bool Try.underlying4 _), (trodAll_cons_mk (shut_int Try.underlying2 bxBase) (trodAll_cons_mk (shut_int Try.underlying2 bxWidth) trodAll_mk0)), rfl, bel.frame _, fun h => by cases h⟩

set_option maxHeartbeats 20000000 in
theorem closed : joinedFacts Try.prog 15 Try.f15 Rows.fnExactWorstRippleSpec Rows.fnExactWorstRippleRow = true := by
  simp only [joinedFacts, Bool.and_eq_true]
  refine ⟨⟨⟨⟨⟨⟨⟨⟨⟨⟨⟨⟨⟨⟨⟨⟨⟨⟨⟨⟨⟨⟨⟨⟨⟨⟨⟨⟨⟨⟨⟨?_, laid_out⟩, fact_maps⟩, ?_⟩, ?_⟩, ?_⟩, fact_stops⟩, ?_⟩, fact_knobs⟩, ?_⟩, ?_⟩, ?_⟩, ?_⟩, ?_⟩, ?_⟩, ?_⟩, ?_⟩, ?_⟩, ?_⟩, ?_⟩, ?_⟩, ?_⟩, fact_plain⟩, ?_⟩, fact_heard⟩, fact_enter⟩, fact_lift⟩, ?_⟩, ?_⟩, ?_⟩, ?_⟩, ?_⟩
  all_goals (as_aux_lemma => kernel_rfl)

theorem over : Rows.fnExactWorstRippleRow.holds Try.pinned (OpenSpec.ofChange Rows.fnExactWorstRippleSpec) :=
  OpenClaim.holds_of_wide_leaving 15 Try.f15 rfl rfl rfl rfl rfl rfl rfl ⟨rfl, rfl, rfl, rfl, rfl⟩ rfl rfl rfl rfl rfl (by as_aux_lemma => kernel_rfl) Try.func15 closed
    (of_decide_eq_true (by as_aux_lemma => kernel_rfl)) (by unfold Func.isWrapper; rw [if_neg (by decide +kernel)]; exact ⟨rfl, rfl⟩)
    (fun os started H enc _ => leaving_of_handed (lifted os started H enc))

/-- The statement. -/
theorem proved : Rows.FnExactWorstRippleSaid := over
end Go.Proofs.Ytgfpjcckkbhdjaa.lawWorstRipple
