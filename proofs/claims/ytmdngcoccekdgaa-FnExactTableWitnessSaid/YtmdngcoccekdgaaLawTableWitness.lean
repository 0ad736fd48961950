/-
  laws.FnExactTableWitness returns true at every input (no condition), and leaves its arguments as they were.
-/
import Derived.Test.YtmdngcoccekdgaaReg
import Derived.Test.YtmdngcoccekdgaaBox
import Derived.Test.YtmdngcoccekdgaaFrame
import Derived.Test.YtmdngcoccekdgaaAddRowS
import Derived.Test.YtmdngcoccekdgaaFrameI
import Derived.Test.YtmdngcoccekdgaaFrameT
import Derived.Test.YtmdngcoccekdgaaTwI
import Derived.Test.YtmdngcoccekdgaaTwS
import Derived.Test.YtmdngcoccekdgaaFacts
import Derived.Test.YtmdngcoccekdgaaRows
namespace Go.Proofs.Ytmdngcoccekdgaa.lawTableWitness
open Go.ChangeShapes Go.WideShapes Go.ChangeAt Go.WideElems Go.RowKit Go.Joins
open Go.ChangeMaps (open_string shut_string)

set_option maxRecDepth 100000 in
set_option maxHeartbeats 4000000 in
theorem law_walk (xBase : Int) (xListA : Option Addr) (xListC : Nat) (xListZ : List (Int × Int × Int × Int × Int)) (w : World) (bxBase : I64 xBase) (hxList : RawF quinF (fun x => I64 x.1 ∧ I64 x.2.1 ∧ I64 x.2.2.1 ∧ I64 x.2.2.2.1 ∧ I64 x.2.2.2.2) w xListA xListZ) :
    Calls Try.prog 11 #[.int .i64 xBase, .slice xListA xListZ.length xListC] w fun e w' => e = .returned (.bool true) ∧ Below w.heap.size w w' := by
  have hbel : Below w.heap.size w w := Below.refl _ _
  go_enter Try.func11, Try.ntmps11
  go_wp2_with fail
  rcases Int.lt_or_le (leftOf xListZ.length 1048576) 0 with k1 | k1
  · refine (szAddRowS_any xListA xListZ.length xListC 1048576 w hxList.len (by omega) (by omega)).mono ?_
    rintro e v1 ⟨rfl, hb⟩
    subst hb
    go_wp2
    go_ret
    exact ⟨rfl, hbel⟩
  have m1 := leftOf_le xListZ.length 1048576 (by omega)
  refine (szAddRowS_any xListA xListZ.length xListC 1048576 w hxList.len (by omega) (by omega)).mono ?_
  rintro e v1 ⟨rfl, hb⟩
  replace hb : Below w.heap.size w v1 := by rw [← hb]; exact Below.refl _ _
  have s1 : Hid (w.heap.size ≤ v1.heap.size) := Lib.hid hb.size
  replace hbel := hbel.trans (hb.mono hbel.size)
  clear hb
  have zxList : All5 xListZ := hxList.wf
  replace hxList := hxList.rd (by have := leftOf_len k1; omega)
  go_wp2_with fail
  refine (toAddRowS_any xListA xListC xListZ v1 (hxList.below hbel)).mono ?_
  rintro e v2 ⟨t2A, t2C, rfl, ot2, hb⟩
  have s3 : Hid (v1.heap.size ≤ v2.heap.size) := Lib.hid hb.size
  replace hbel := hbel.trans (hb.mono hbel.size)
  clear hb
  go_wp2_with fail
  refine (specTableWitness xBase t2A t2C xListZ v2 bxBase ot2.rd zxList).mono ?_
  rintro e v3 ⟨w0A, w0C, w1A, w1C, w0m, rfl, ow0, ow1, w0m1, w0m2, hb⟩
  have s4 := Lib.hid w0m1
  have s5 := Lib.hid w0m2
  clear w0m1 w0m2
  have s6 : Hid (v2.heap.size ≤ v3.heap.size) := Lib.hid hb.size
  replace ot2 := ot2.below hb
  replace hbel := hbel.trans (hb.mono hbel.size)
  clear hb
  clear ot2
  have ha7 : Below v3.heap.size v3 ((v3.alloc (.cells #[.int .i64 (twR xBase xListZ).1, .slice w0A (twR xBase xListZ).2.1.length w0C] 31)).alloc (.cells #[.int .i64 (twR xBase xListZ).2.2.1, .slice w1A (twR xBase xListZ).2.2.2.1.length w1C] 31)) := ((Below.refl _ _).alloc (by simp <;> omega) _).alloc (by simp <;> omega) _
  replace ow0 := ow0.below ha7
  replace ow1 := ow1.below ha7
  replace hbel := hbel.trans (ha7.mono hbel.size)
  clear ha7
  have cw00 : ((v3.alloc (.cells #[.int .i64 (twR xBase xListZ).1, .slice w0A (twR xBase xListZ).2.1.length w0C] 31)).alloc (.cells #[.int .i64 (twR xBase xListZ).2.2.1, .slice w1A (twR xBase xListZ).2.2.2.1.length w1C] 31)).cell? ⟨v3.heap.size, 0, none⟩ = some (.int .i64 (twR xBase xListZ).1) := by go_simp
  have cw01 : ((v3.alloc (.cells #[.int .i64 (twR xBase xListZ).1, .slice w0A (twR xBase xListZ).2.1.length w0C] 31)).alloc (.cells #[.int .i64 (twR xBase xListZ).2.2.1, .slice w1A (twR xBase xListZ).2.2.2.1.length w1C] 31)).cell? ⟨v3.heap.size, 1, none⟩ = some (.slice w0A (twR xBase xListZ).2.1.length w0C) := by go_simp
  have cw10 : ((v3.alloc (.cells #[.int .i64 (twR xBase xListZ).1, .slice w0A (twR xBase xListZ).2.1.length w0C] 31)).alloc (.cells #[.int .i64 (twR xBase xListZ).2.2.1, .slice w1A (twR xBase xListZ).2.2.2.1.length w1C] 31)).cell? ⟨v3.heap.size + 1, 0, none⟩ = some (.int .i64 (twR xBase xListZ).2.2.1) := by go_simp
  have cw11 : ((v3.alloc (.cells #[.int .i64 (twR xBase xListZ).1, .slice w0A (twR xBase xListZ).2.1.length w0C] 31)).alloc (.cells #[.int .i64 (twR xBase xListZ).2.2.1, .slice w1A (twR xBase xListZ).2.2.2.1.length w1C] 31)).cell? ⟨v3.heap.size + 1, 1, none⟩ = some (.slice w1A (twR xBase xListZ).2.2.2.1.length w1C) := by go_simp
  go_wp2_with fail
  obtain ⟨v4, hu⟩ : ∃ u, u = ((v3.alloc (.cells #[.int .i64 (twR xBase xListZ).1, .slice w0A (twR xBase xListZ).2.1.length w0C] 31)).alloc (.cells #[.int .i64 (twR xBase xListZ).2.2.1, .slice w1A (twR xBase xListZ).2.2.2.1.length w1C] 31)) := ⟨_, rfl⟩
  have s9 : Hid (v3.heap.size + 2 ≤ v4.heap.size) := Lib.hid (by rw [hu]; simp)
  rw [← hu] at cw00 cw01 cw10 cw11 ow0 ow1 hbel ⊢
  clear hu
  refine (toAddRowS_any xListA xListC xListZ v4 (hxList.below hbel)).mono ?_
  rintro e v5 ⟨t8A, t8C, rfl, ot8, hb⟩
  have s10 : Hid (v4.heap.size ≤ v5.heap.size) := Lib.hid hb.size
  replace cw00 := kept hb cw00
  replace cw01 := kept hb cw01
  replace cw10 := kept hb cw10
  replace cw11 := kept hb cw11
  replace ow0 := ow0.below hb
  replace ow1 := ow1.below hb
  replace hbel := hbel.trans (hb.mono hbel.size)
  clear hb
  go_wp2_with fail
  refine (implTableWitness xBase t8A t8C xListZ v5 bxBase ot8.rd zxList).mono ?_
  rintro e v6 ⟨g0A, g0C, g1A, g1C, g0m, rfl, og0, og1, g0m1, g0m2, hb⟩
  have s11 := Lib.hid g0m1
  have s12 := Lib.hid g0m2
  clear g0m1 g0m2
  have s13 : Hid (v5.heap.size ≤ v6.heap.size) := Lib.hid hb.size
  replace cw00 := kept hb cw00
  replace cw01 := kept hb cw01
  replace cw10 := kept hb cw10
  replace cw11 := kept hb cw11
  replace ow0 := ow0.below hb
  replace ow1 := ow1.below hb
  replace ot8 := ot8.below hb
  replace hbel := hbel.trans (hb.mono hbel.size)
  clear hb
  have ha14 : Below v6.heap.size v6 ((v6.alloc (.cells #[.int .i64 (twR xBase xListZ).1, .slice g0A (twR xBase xListZ).2.1.length g0C] 31)).alloc (.cells #[.int .i64 (twR xBase xListZ).2.2.1, .slice g1A (twR xBase xListZ).2.2.2.1.length g1C] 31)) := ((Below.refl _ _).alloc (by simp <;> omega) _).alloc (by simp <;> omega) _
  replace cw00 := kept ha14 cw00
  replace cw01 := kept ha14 cw01
  replace cw10 := kept ha14 cw10
  replace cw11 := kept ha14 cw11
  replace ow0 := ow0.below ha14
  replace ow1 := ow1.below ha14
  replace ot8 := ot8.below ha14
  replace og0 := og0.below ha14
  replace og1 := og1.below ha14
  replace hbel := hbel.trans (ha14.mono hbel.size)
  clear ha14
  have cg00 : ((v6.alloc (.cells #[.int .i64 (twR xBase xListZ).1, .slice g0A (twR xBase xListZ).2.1.length g0C] 31)).alloc (.cells #[.int .i64 (twR xBase xListZ).2.2.1, .slice g1A (twR xBase xListZ).2.2.2.1.length g1C] 31)).cell? ⟨v6.heap.size, 0, none⟩ = some (.int .i64 (twR xBase xListZ).1) := by go_simp
  have cg01 : ((v6.alloc (.cells #[.int .i64 (twR xBase xListZ).1, .slice g0A (twR xBase xListZ).2.1.length g0C] 31)).alloc (.cells #[.int .i64 (twR xBase xListZ).2.2.1, .slice g1A (twR xBase xListZ).2.2.2.1.length g1C] 31)).cell? ⟨v6.heap.size, 1, none⟩ = some (.slice g0A (twR xBase xListZ).2.1.length g0C) := by go_simp
  have cg10 : ((v6.alloc (.cells #[.int .i64 (twR xBase xListZ).1, .slice g0A (twR xBase xListZ).2.1.length g0C] 31)).alloc (.cells #[.int .i64 (twR xBase xListZ).2.2.1, .slice g1A (twR xBase xListZ).2.2.2.1.length g1C] 31)).cell? ⟨v6.heap.size + 1, 0, none⟩ = some (.int .i64 (twR xBase xListZ).2.2.1) := by go_simp
  have cg11 : ((v6.alloc (.cells #[.int .i64 (twR xBase xListZ).1, .slice g0A (twR xBase xListZ).2.1.length g0C] 31)).alloc (.cells #[.int .i64 (twR xBase xListZ).2.2.1, .slice g1A (twR xBase xListZ).2.2.2.1.length g1C] 31)).cell? ⟨v6.heap.size + 1, 1, none⟩ = some (.slice g1A (twR xBase xListZ).2.2.2.1.length g1C) := by go_simp
  have q15 : regEqB (twR xBase xListZ).1 (twR xBase xListZ).1 (twR xBase xListZ).2.1 (twR xBase xListZ).2.1 = true := regEqB_self _ _
  go_wp2_with fail
  obtain ⟨v7, hu⟩ : ∃ u, u = ((v6.alloc (.cells #[.int .i64 (twR xBase xListZ).1, .slice g0A (twR xBase xListZ).2.1.length g0C] 31)).alloc (.cells #[.int .i64 (twR xBase xListZ).2.2.1, .slice g1A (twR xBase xListZ).2.2.2.1.length g1C] 31)) := ⟨_, rfl⟩
  have s16 : Hid (v6.heap.size + 2 ≤ v7.heap.size) := Lib.hid (by rw [hu]; simp)
  rw [← hu] at cw00 cw01 cw10 cw11 cg00 cg01 cg10 cg11 ow0 ow1 ot8 og0 og1 hbel ⊢
  clear hu
  refine (eqRegister_any (twR xBase xListZ).1 (twR xBase xListZ).1 g0A w0A g0C w0C (twR xBase xListZ).2.1 (twR xBase xListZ).2.1 v7 og0.rd ow0.rd).mono ?_
  rintro e v8 ⟨rfl, hb⟩
  have s17 : Hid (v7.heap.size ≤ v8.heap.size) := Lib.hid hb.size
  replace cw00 := kept hb cw00
  replace cw01 := kept hb cw01
  replace cw10 := kept hb cw10
  replace cw11 := kept hb cw11
  replace cg00 := kept hb cg00
  replace cg01 := kept hb cg01
  replace cg10 := kept hb cg10
  replace cg11 := kept hb cg11
  replace ow0 := ow0.below hb
  replace ow1 := ow1.below hb
  replace ot8 := ot8.below hb
  replace og0 := og0.below hb
  replace og1 := og1.below hb
  replace hbel := hbel.trans (hb.mono hbel.size)
  clear hb
  have q18 : regEqB (twR xBase xListZ).2.2.1 (twR xBase xListZ).2.2.1 (twR xBase xListZ).2.2.2.1 (twR xBase xListZ).2.2.2.1 = true := regEqB_self _ _
  go_wp2_with fail
  refine (eqRegister_any (twR xBase xListZ).2.2.1 (twR xBase xListZ).2.2.1 g1A w1A g1C w1C (twR xBase xListZ).2.2.2.1 (twR xBase xListZ).2.2.2.1 v8 og1.rd ow1.rd).mono ?_
  rintro e v9 ⟨rfl, hb⟩
  have s19 : Hid (v8.heap.size ≤ v9.heap.size) := Lib.hid hb.size
  replace cw00 := kept hb cw00
  replace cw01 := kept hb cw01
  replace cw10 := kept hb cw10
  replace cw11 := kept hb cw11
  replace cg00 := kept hb cg00
  replace cg01 := kept hb cg01
  replace cg10 := kept hb cg10
  replace cg11 := kept hb cg11
  replace ow0 := ow0.below hb
  replace ow1 := ow1.below hb
  replace ot8 := ot8.below hb
  replace og0 := og0.below hb
  replace og1 := og1.below hb
  replace hbel := hbel.trans (hb.mono hbel.size)
  clear hb
  have q20 : decide (xListZ = xListZ) = true := decide_eq_true rfl
  go_wp2_with fail
  refine (toAddRowS_any xListA xListC xListZ v9 (hxList.below hbel)).mono ?_
  rintro e v10 ⟨t21A, t21C, rfl, ot21, hb⟩
  have s22 : Hid (v9.heap.size ≤ v10.heap.size) := Lib.hid hb.size
  replace cw00 := kept hb cw00
  replace cw01 := kept hb cw01
  replace cw10 := kept hb cw10
  replace cw11 := kept hb cw11
  replace cg00 := kept hb cg00
  replace cg01 := kept hb cg01
  replace cg10 := kept hb cg10
  replace cg11 := kept hb cg11
  replace ow0 := ow0.below hb
  replace ow1 := ow1.below hb
  replace ot8 := ot8.below hb
  replace og0 := og0.below hb
  replace og1 := og1.below hb
  replace hbel := hbel.trans (hb.mono hbel.size)
  clear hb
  go_wp2_with fail
  refine (eqAddRowS_any t8A t21A t8C t21C xListZ xListZ v10 ot8.rd ot21.rd).mono ?_
  rintro e v11 ⟨rfl, hb⟩
  have s23 : Hid (v10.heap.size ≤ v11.heap.size) := Lib.hid hb.size
  replace cw00 := kept hb cw00
  replace cw01 := kept hb cw01
  replace cw10 := kept hb cw10
  replace cw11 := kept hb cw11
  replace cg00 := kept hb cg00
  replace cg01 := kept hb cg01
  replace cg10 := kept hb cg10
  replace cg11 := kept hb cg11
  replace ow0 := ow0.below hb
  replace ow1 := ow1.below hb
  replace ot8 := ot8.below hb
  replace og0 := og0.below hb
  replace og1 := og1.below hb
  replace ot21 := ot21.below hb
  replace hbel := hbel.trans (hb.mono hbel.size)
  clear hb
  clear ot21
  go_wp2_with fail
  refine (markAddRowS_any _ _ _ t8A t8C 1 xListZ v11 ot8 (by have := ow0.len; have := ow1.len; have := ot8.len; have := og0.len; have := og1.len; have := hxList.len; omega) (by have := ow0.len; have := ow1.len; have := ot8.len; have := og0.len; have := og1.len; have := hxList.len; omega)).mono ?_
  rintro e v12 ⟨rfl, om, ht⟩
  have s24 : Hid (v11.heap.size ≤ v12.heap.size) := Lib.hid ht.size
  clear ot8
  have ot8 := om
  clear om
  replace cw00 := keptT ht cw00 (by have := s1.out; have := s3.out; have := s4.out; have := s5.out; have := s6.out; have := s9.out; have := s10.out; have := s11.out; have := s12.out; have := s13.out; have := s16.out; have := s17.out; have := s19.out; have := s22.out; have := s23.out; have := s24.out; omega)
  replace cw01 := keptT ht cw01 (by have := s1.out; have := s3.out; have := s4.out; have := s5.out; have := s6.out; have := s9.out; have := s10.out; have := s11.out; have := s12.out; have := s13.out; have := s16.out; have := s17.out; have := s19.out; have := s22.out; have := s23.out; have := s24.out; omega)
  replace cw10 := keptT ht cw10 (by have := s1.out; have := s3.out; have := s4.out; have := s5.out; have := s6.out; have := s9.out; have := s10.out; have := s11.out; have := s12.out; have := s13.out; have := s16.out; have := s17.out; have := s19.out; have := s22.out; have := s23.out; have := s24.out; omega)
  replace cw11 := keptT ht cw11 (by have := s1.out; have := s3.out; have := s4.out; have := s5.out; have := s6.out; have := s9.out; have := s10.out; have := s11.out; have := s12.out; have := s13.out; have := s16.out; have := s17.out; have := s19.out; have := s22.out; have := s23.out; have := s24.out; omega)
  replace cg00 := keptT ht cg00 (by have := s1.out; have := s3.out; have := s4.out; have := s5.out; have := s6.out; have := s9.out; have := s10.out; have := s11.out; have := s12.out; have := s13.out; have := s16.out; have := s17.out; have := s19.out; have := s22.out; have := s23.out; have := s24.out; omega)
  replace cg01 := keptT ht cg01 (by have := s1.out; have := s3.out; have := s4.out; have := s5.out; have := s6.out; have := s9.out; have := s10.out; have := s11.out; have := s12.out; have := s13.out; have := s16.out; have := s17.out; have := s19.out; have := s22.out; have := s23.out; have := s24.out; omega)
  replace cg10 := keptT ht cg10 (by have := s1.out; have := s3.out; have := s4.out; have := s5.out; have := s6.out; have := s9.out; have := s10.out; have := s11.out; have := s12.out; have := s13.out; have := s16.out; have := s17.out; have := s19.out; have := s22.out; have := s23.out; have := s24.out; omega)
  replace cg11 := keptT ht cg11 (by have := s1.out; have := s3.out; have := s4.out; have := s5.out; have := s6.out; have := s9.out; have := s10.out; have := s11.out; have := s12.out; have := s13.out; have := s16.out; have := s17.out; have := s19.out; have := s22.out; have := s23.out; have := s24.out; omega)
  replace ow0 := ow0.touch ht (by have := s1.out; have := s3.out; have := s4.out; have := s5.out; have := s6.out; have := s9.out; have := s10.out; have := s11.out; have := s12.out; have := s13.out; have := s16.out; have := s17.out; have := s19.out; have := s22.out; have := s23.out; have := s24.out; omega)
  replace ow1 := ow1.touch ht (by have := s1.out; have := s3.out; have := s4.out; have := s5.out; have := s6.out; have := s9.out; have := s10.out; have := s11.out; have := s12.out; have := s13.out; have := s16.out; have := s17.out; have := s19.out; have := s22.out; have := s23.out; have := s24.out; omega)
  replace og0 := og0.touch ht (by have := s1.out; have := s3.out; have := s4.out; have := s5.out; have := s6.out; have := s9.out; have := s10.out; have := s11.out; have := s12.out; have := s13.out; have := s16.out; have := s17.out; have := s19.out; have := s22.out; have := s23.out; have := s24.out; omega)
  replace og1 := og1.touch ht (by have := s1.out; have := s3.out; have := s4.out; have := s5.out; have := s6.out; have := s9.out; have := s10.out; have := s11.out; have := s12.out; have := s13.out; have := s16.out; have := s17.out; have := s19.out; have := s22.out; have := s23.out; have := s24.out; omega)
  replace hbel := hbel.trans (ht.below (by have := s1.out; have := s3.out; have := s4.out; have := s5.out; have := s6.out; have := s9.out; have := s10.out; have := s11.out; have := s12.out; have := s13.out; have := s16.out; have := s17.out; have := s19.out; have := s22.out; have := s23.out; have := s24.out; omega) hbel.size)
  clear ht
  have q25 : regEqB (twR xBase xListZ).1 (twR xBase xListZ).1 (twR xBase xListZ).2.1 (twR xBase xListZ).2.1 = true := regEqB_self _ _
  go_wp2_with fail
  refine (eqRegister_any (twR xBase xListZ).1 (twR xBase xListZ).1 g0A w0A g0C w0C (twR xBase xListZ).2.1 (twR xBase xListZ).2.1 v12 og0.rd ow0.rd).mono ?_
  rintro e v13 ⟨rfl, hb⟩
  have s26 : Hid (v12.heap.size ≤ v13.heap.size) := Lib.hid hb.size
  replace cw00 := kept hb cw00
  replace cw01 := kept hb cw01
  replace cw10 := kept hb cw10
  replace cw11 := kept hb cw11
  replace cg00 := kept hb cg00
  replace cg01 := kept hb cg01
  replace cg10 := kept hb cg10
  replace cg11 := kept hb cg11
  replace ow0 := ow0.below hb
  replace ow1 := ow1.below hb
  replace ot8 := ot8.below hb
  replace og0 := og0.below hb
  replace og1 := og1.below hb
  replace hbel := hbel.trans (hb.mono hbel.size)
  clear hb
  have q27 : regEqB (twR xBase xListZ).2.2.1 (twR xBase xListZ).2.2.1 (twR xBase xListZ).2.2.2.1 (twR xBase xListZ).2.2.2.1 = true := regEqB_self _ _
  go_wp2_with fail
  refine (eqRegister_any (twR xBase xListZ).2.2.1 (twR xBase xListZ).2.2.1 g1A w1A g1C w1C (twR xBase xListZ).2.2.2.1 (twR xBase xListZ).2.2.2.1 v13 og1.rd ow1.rd).mono ?_
  rintro e v14 ⟨rfl, hb⟩
  have s28 : Hid (v13.heap.size ≤ v14.heap.size) := Lib.hid hb.size
  replace cw00 := kept hb cw00
  replace cw01 := kept hb cw01
  replace cw10 := kept hb cw10
  replace cw11 := kept hb cw11
  replace cg00 := kept hb cg00
  replace cg01 := kept hb cg01
  replace cg10 := kept hb cg10
  replace cg11 := kept hb cg11
  replace ow0 := ow0.below hb
  replace ow1 := ow1.below hb
  replace ot8 := ot8.below hb
  replace og0 := og0.below hb
  replace og1 := og1.below hb
  replace hbel := hbel.trans (hb.mono hbel.size)
  clear hb
  go_wp2_with fail
  refine (markRegister_any _ _ _ (twR xBase xListZ).1 g0A g0C 1 (twR xBase xListZ).2.1 v14 og0 (by have := ow0.len; have := ow1.len; have := ot8.len; have := og0.len; have := og1.len; have := hxList.len; omega) (by have := ow0.len; have := ow1.len; have := ot8.len; have := og0.len; have := og1.len; have := hxList.len; omega)).mono ?_
  rintro e v15 ⟨rfl, om, ht⟩
  have s29 : Hid (v14.heap.size ≤ v15.heap.size) := Lib.hid ht.size
  clear og0
  have og0 := om
  clear om
  replace cw00 := keptT ht cw00 (by have := s1.out; have := s3.out; have := s4.out; have := s5.out; have := s6.out; have := s9.out; have := s10.out; have := s11.out; have := s12.out; have := s13.out; have := s16.out; have := s17.out; have := s19.out; have := s22.out; have := s23.out; have := s24.out; have := s26.out; have := s28.out; have := s29.out; omega)
  replace cw01 := keptT ht cw01 (by have := s1.out; have := s3.out; have := s4.out; have := s5.out; have := s6.out; have := s9.out; have := s10.out; have := s11.out; have := s12.out; have := s13.out; have := s16.out; have := s17.out; have := s19.out; have := s22.out; have := s23.out; have := s24.out; have := s26.out; have := s28.out; have := s29.out; omega)
  replace cw10 := keptT ht cw10 (by have := s1.out; have := s3.out; have := s4.out; have := s5.out; have := s6.out; have := s9.out; have := s10.out; have := s11.out; have := s12.out; have := s13.out; have := s16.out; have := s17.out; have := s19.out; have := s22.out; have := s23.out; have := s24.out; have := s26.out; have := s28.out; have := s29.out; omega)
  replace cw11 := keptT ht cw11 (by have := s1.out; have := s3.out; have := s4.out; have := s5.out; have := s6.out; have := s9.out; have := s10.out; have := s11.out; have := s12.out; have := s13.out; have := s16.out; have := s17.out; have := s19.out; have := s22.out; have := s23.out; have := s24.out; have := s26.out; have := s28.out; have := s29.out; omega)
  replace cg00 := keptT ht cg00 (by have := s1.out; have := s3.out; have := s4.out; have := s5.out; have := s6.out; have := s9.out; have := s10.out; have := s11.out; have := s12.out; have := s13.out; have := s16.out; have := s17.out; have := s19.out; have := s22.out; have := s23.out; have := s24.out; have := s26.out; have := s28.out; have := s29.out; omega)
  replace cg01 := keptT ht cg01 (by have := s1.out; have := s3.out; have := s4.out; have := s5.out; have := s6.out; have := s9.out; have := s10.out; have := s11.out; have := s12.out; have := s13.out; have := s16.out; have := s17.out; have := s19.out; have := s22.out; have := s23.out; have := s24.out; have := s26.out; have := s28.out; have := s29.out; omega)
  replace cg10 := keptT ht cg10 (by have := s1.out; have := s3.out; have := s4.out; have := s5.out; have := s6.out; have := s9.out; have := s10.out; have := s11.out; have := s12.out; have := s13.out; have := s16.out; have := s17.out; have := s19.out; have := s22.out; have := s23.out; have := s24.out; have := s26.out; have := s28.out; have := s29.out; omega)
  replace cg11 := keptT ht cg11 (by have := s1.out; have := s3.out; have := s4.out; have := s5.out; have := s6.out; have := s9.out; have := s10.out; have := s11.out; have := s12.out; have := s13.out; have := s16.out; have := s17.out; have := s19.out; have := s22.out; have := s23.out; have := s24.out; have := s26.out; have := s28.out; have := s29.out; omega)
  replace ow0 := ow0.touch ht (by have := s1.out; have := s3.out; have := s4.out; have := s5.out; have := s6.out; have := s9.out; have := s10.out; have := s11.out; have := s12.out; have := s13.out; have := s16.out; have := s17.out; have := s19.out; have := s22.out; have := s23.out; have := s24.out; have := s26.out; have := s28.out; have := s29.out; omega)
  replace ow1 := ow1.touch ht (by have := s1.out; have := s3.out; have := s4.out; have := s5.out; have := s6.out; have := s9.out; have := s10.out; have := s11.out; have := s12.out; have := s13.out; have := s16.out; have := s17.out; have := s19.out; have := s22.out; have := s23.out; have := s24.out; have := s26.out; have := s28.out; have := s29.out; omega)
  replace ot8 := ot8.touch ht (by have := s1.out; have := s3.out; have := s4.out; have := s5.out; have := s6.out; have := s9.out; have := s10.out; have := s11.out; have := s12.out; have := s13.out; have := s16.out; have := s17.out; have := s19.out; have := s22.out; have := s23.out; have := s24.out; have := s26.out; have := s28.out; have := s29.out; omega)
  replace og1 := og1.touch ht (by have := s1.out; have := s3.out; have := s4.out; have := s5.out; have := s6.out; have := s9.out; have := s10.out; have := s11.out; have := s12.out; have := s13.out; have := s16.out; have := s17.out; have := s19.out; have := s22.out; have := s23.out; have := s24.out; have := s26.out; have := s28.out; have := s29.out; omega)
  replace hbel := hbel.trans (ht.below (by have := s1.out; have := s3.out; have := s4.out; have := s5.out; have := s6.out; have := s9.out; have := s10.out; have := s11.out; have := s12.out; have := s13.out; have := s16.out; have := s17.out; have := s19.out; have := s22.out; have := s23.out; have := s24.out; have := s26.out; have := s28.out; have := s29.out; omega) hbel.size)
  clear ht
  go_wp2_with fail
  refine (markRegister_any _ _ _ (twR xBase xListZ).2.2.1 g1A g1C (1 + ((twR xBase xListZ).2.1.length : Int)) (twR xBase xListZ).2.2.2.1 v15 og1 (by have := ow0.len; have := ow1.len; have := ot8.len; have := og0.len; have := og1.len; have := hxList.len; omega) (by have := ow0.len; have := ow1.len; have := ot8.len; have := og0.len; have := og1.len; have := hxList.len; omega)).mono ?_
  rintro e v16 ⟨rfl, om, ht⟩
  have s30 : Hid (v15.heap.size ≤ v16.heap.size) := Lib.hid ht.size
  clear og1
  have og1 := om
  clear om
  replace cw00 := keptT ht cw00 (by have := s1.out; have := s3.out; have := s4.out; have := s5.out; have := s6.out; have := s9.out; have := s10.out; have := s11.out; have := s12.out; have := s13.out; have := s16.out; have := s17.out; have := s19.out; have := s22.out; have := s23.out; have := s24.out; have := s26.out; have := s28.out; have := s29.out; have := s30.out; omega)
  replace cw01 := keptT ht cw01 (by have := s1.out; have := s3.out; have := s4.out; have := s5.out; have := s6.out; have := s9.out; have := s10.out; have := s11.out; have := s12.out; have := s13.out; have := s16.out; have := s17.out; have := s19.out; have := s22.out; have := s23.out; have := s24.out; have := s26.out; have := s28.out; have := s29.out; have := s30.out; omega)
  replace cw10 := keptT ht cw10 (by have := s1.out; have := s3.out; have := s4.out; have := s5.out; have := s6.out; have := s9.out; have := s10.out; have := s11.out; have := s12.out; have := s13.out; have := s16.out; have := s17.out; have := s19.out; have := s22.out; have := s23.out; have := s24.out; have := s26.out; have := s28.out; have := s29.out; have := s30.out; omega)
  replace cw11 := keptT ht cw11 (by have := s1.out; have := s3.out; have := s4.out; have := s5.out; have := s6.out; have := s9.out; have := s10.out; have := s11.out; have := s12.out; have := s13.out; have := s16.out; have := s17.out; have := s19.out; have := s22.out; have := s23.out; have := s24.out; have := s26.out; have := s28.out; have := s29.out; have := s30.out; omega)
  replace cg00 := keptT ht cg00 (by have := s1.out; have := s3.out; have := s4.out; have := s5.out; have := s6.out; have := s9.out; have := s10.out; have := s11.out; have := s12.out; have := s13.out; have := s16.out; have := s17.out; have := s19.out; have := s22.out; have := s23.out; have := s24.out; have := s26.out; have := s28.out; have := s29.out; have := s30.out; omega)
  replace cg01 := keptT ht cg01 (by have := s1.out; have := s3.out; have := s4.out; have := s5.out; have := s6.out; have := s9.out; have := s10.out; have := s11.out; have := s12.out; have := s13.out; have := s16.out; have := s17.out; have := s19.out; have := s22.out; have := s23.out; have := s24.out; have := s26.out; have := s28.out; have := s29.out; have := s30.out; omega)
  replace cg10 := keptT ht cg10 (by have := s1.out; have := s3.out; have := s4.out; have := s5.out; have := s6.out; have := s9.out; have := s10.out; have := s11.out; have := s12.out; have := s13.out; have := s16.out; have := s17.out; have := s19.out; have := s22.out; have := s23.out; have := s24.out; have := s26.out; have := s28.out; have := s29.out; have := s30.out; omega)
  replace cg11 := keptT ht cg11 (by have := s1.out; have := s3.out; have := s4.out; have := s5.out; have := s6.out; have := s9.out; have := s10.out; have := s11.out; have := s12.out; have := s13.out; have := s16.out; have := s17.out; have := s19.out; have := s22.out; have := s23.out; have := s24.out; have := s26.out; have := s28.out; have := s29.out; have := s30.out; omega)
  replace ow0 := ow0.touch ht (by have := s1.out; have := s3.out; have := s4.out; have := s5.out; have := s6.out; have := s9.out; have := s10.out; have := s11.out; have := s12.out; have := s13.out; have := s16.out; have := s17.out; have := s19.out; have := s22.out; have := s23.out; have := s24.out; have := s26.out; have := s28.out; have := s29.out; have := s30.out; omega)
  replace ow1 := ow1.touch ht (by have := s1.out; have := s3.out; have := s4.out; have := s5.out; have := s6.out; have := s9.out; have := s10.out; have := s11.out; have := s12.out; have := s13.out; have := s16.out; have := s17.out; have := s19.out; have := s22.out; have := s23.out; have := s24.out; have := s26.out; have := s28.out; have := s29.out; have := s30.out; omega)
  replace ot8 := ot8.touch ht (by have := s1.out; have := s3.out; have := s4.out; have := s5.out; have := s6.out; have := s9.out; have := s10.out; have := s11.out; have := s12.out; have := s13.out; have := s16.out; have := s17.out; have := s19.out; have := s22.out; have := s23.out; have := s24.out; have := s26.out; have := s28.out; have := s29.out; have := s30.out; omega)
  replace og0 := og0.touch ht (by have := s1.out; have := s3.out; have := s4.out; have := s5.out; have := s6.out; have := s9.out; have := s10.out; have := s11.out; have := s12.out; have := s13.out; have := s16.out; have := s17.out; have := s19.out; have := s22.out; have := s23.out; have := s24.out; have := s26.out; have := s28.out; have := s29.out; have := s30.out; omega)
  replace hbel := hbel.trans (ht.below (by have := s1.out; have := s3.out; have := s4.out; have := s5.out; have := s6.out; have := s9.out; have := s10.out; have := s11.out; have := s12.out; have := s13.out; have := s16.out; have := s17.out; have := s19.out; have := s22.out; have := s23.out; have := s24.out; have := s26.out; have := s28.out; have := s29.out; have := s30.out; omega) hbel.size)
  clear ht
  go_wp2_with fail
  refine (heldRegister_any (twR xBase xListZ).1 g0A g0C 1 (twR xBase xListZ).2.1.length v16 og0.rd (by have := ow0.len; have := ow1.len; have := ot8.len; have := og0.len; have := og1.len; have := hxList.len; omega) (by have := ow0.len; have := ow1.len; have := ot8.len; have := og0.len; have := og1.len; have := hxList.len; omega)).mono ?_
  rintro e v17 ⟨rfl, hb⟩
  have s31 : Hid (v16.heap.size ≤ v17.heap.size) := Lib.hid hb.size
  replace cw00 := kept hb cw00
  replace cw01 := kept hb cw01
  replace cw10 := kept hb cw10
  replace cw11 := kept hb cw11
  replace cg00 := kept hb cg00
  replace cg01 := kept hb cg01
  replace cg10 := kept hb cg10
  replace cg11 := kept hb cg11
  replace ow0 := ow0.below hb
  replace ow1 := ow1.below hb
  replace ot8 := ot8.below hb
  replace og0 := og0.below hb
  replace og1 := og1.below hb
  replace hbel := hbel.trans (hb.mono hbel.size)
  clear hb
  go_wp2_with fail
  refine (heldRegister_any (twR xBase xListZ).2.2.1 g1A g1C (1 + ((twR xBase xListZ).2.1.length : Int)) (twR xBase xListZ).2.2.2.1.length v17 og1.rd (by have := ow0.len; have := ow1.len; have := ot8.len; have := og0.len; have := og1.len; have := hxList.len; omega) (by have := ow0.len; have := ow1.len; have := ot8.len; have := og0.len; have := og1.len; have := hxList.len; omega)).mono ?_
  rintro e v18 ⟨rfl, hb⟩
  have s32 : Hid (v17.heap.size ≤ v18.heap.size) := Lib.hid hb.size
  replace cw00 := kept hb cw00
  replace cw01 := kept hb cw01
  replace cw10 := kept hb cw10
  replace cw11 := kept hb cw11
  replace cg00 := kept hb cg00
  replace cg01 := kept hb cg01
  replace cg10 := kept hb cg10
  replace cg11 := kept hb cg11
  replace ow0 := ow0.below hb
  replace ow1 := ow1.below hb
  replace ot8 := ot8.below hb
  replace og0 := og0.below hb
  replace og1 := og1.below hb
  replace hbel := hbel.trans (hb.mono hbel.size)
  clear hb
  go_wp2_with fail
  refine (toAddRowS_any xListA xListC xListZ v18 (hxList.below hbel)).mono ?_
  rintro e v19 ⟨t33A, t33C, rfl, ot33, hb⟩
  have s34 : Hid (v18.heap.size ≤ v19.heap.size) := Lib.hid hb.size
  replace cw00 := kept hb cw00
  replace cw01 := kept hb cw01
  replace cw10 := kept hb cw10
  replace cw11 := kept hb cw11
  replace cg00 := kept hb cg00
  replace cg01 := kept hb cg01
  replace cg10 := kept hb cg10
  replace cg11 := kept hb cg11
  replace ow0 := ow0.below hb
  replace ow1 := ow1.below hb
  replace ot8 := ot8.below hb
  replace og0 := og0.below hb
  replace og1 := og1.below hb
  replace hbel := hbel.trans (hb.mono hbel.size)
  clear hb
  go_wp2_with fail
  refine (implTableWitness xBase t33A t33C xListZ v19 bxBase ot33.rd zxList).mono ?_
  rintro e v20 ⟨h0A, h0C, h1A, h1C, h0m, rfl, oh0, oh1, h0m1, h0m2, hb⟩
  have s35 := Lib.hid h0m1
  have s36 := Lib.hid h0m2
  clear h0m1 h0m2
  have s37 : Hid (v19.heap.size ≤ v20.heap.size) := Lib.hid hb.size
  replace cw00 := kept hb cw00
  replace cw01 := kept hb cw01
  replace cw10 := kept hb cw10
  replace cw11 := kept hb cw11
  replace cg00 := kept hb cg00
  replace cg01 := kept hb cg01
  replace cg10 := kept hb cg10
  replace cg11 := kept hb cg11
  replace ow0 := ow0.below hb
  replace ow1 := ow1.below hb
  replace ot8 := ot8.below hb
  replace og0 := og0.below hb
  replace og1 := og1.below hb
  replace ot33 := ot33.below hb
  replace hbel := hbel.trans (hb.mono hbel.size)
  clear hb
  clear ot33
  have ha38 : Below v20.heap.size v20 ((v20.alloc (.cells #[.int .i64 (twR xBase xListZ).1, .slice h0A (twR xBase xListZ).2.1.length h0C] 31)).alloc (.cells #[.int .i64 (twR xBase xListZ).2.2.1, .slice h1A (twR xBase xListZ).2.2.2.1.length h1C] 31)) := ((Below.refl _ _).alloc (by simp <;> omega) _).alloc (by simp <;> omega) _
  replace cw00 := kept ha38 cw00
  replace cw01 := kept ha38 cw01
  replace cw10 := kept ha38 cw10
  replace cw11 := kept ha38 cw11
  replace cg00 := kept ha38 cg00
  replace cg01 := kept ha38 cg01
  replace cg10 := kept ha38 cg10
  replace cg11 := kept ha38 cg11
  replace ow0 := ow0.below ha38
  replace ow1 := ow1.below ha38
  replace ot8 := ot8.below ha38
  replace og0 := og0.below ha38
  replace og1 := og1.below ha38
  replace oh0 := oh0.below ha38
  replace oh1 := oh1.below ha38
  replace hbel := hbel.trans (ha38.mono hbel.size)
  clear ha38
  have ch00 : ((v20.alloc (.cells #[.int .i64 (twR xBase xListZ).1, .slice h0A (twR xBase xListZ).2.1.length h0C] 31)).alloc (.cells #[.int .i64 (twR xBase xListZ).2.2.1, .slice h1A (twR xBase xListZ).2.2.2.1.length h1C] 31)).cell? ⟨v20.heap.size, 0, none⟩ = some (.int .i64 (twR xBase xListZ).1) := by go_simp
  have ch01 : ((v20.alloc (.cells #[.int .i64 (twR xBase xListZ).1, .slice h0A (twR xBase xListZ).2.1.length h0C] 31)).alloc (.cells #[.int .i64 (twR xBase xListZ).2.2.1, .slice h1A (twR xBase xListZ).2.2.2.1.length h1C] 31)).cell? ⟨v20.heap.size, 1, none⟩ = some (.slice h0A (twR xBase xListZ).2.1.length h0C) := by go_simp
  have ch10 : ((v20.alloc (.cells #[.int .i64 (twR xBase xListZ).1, .slice h0A (twR xBase xListZ).2.1.length h0C] 31)).alloc (.cells #[.int .i64 (twR xBase xListZ).2.2.1, .slice h1A (twR xBase xListZ).2.2.2.1.length h1C] 31)).cell? ⟨v20.heap.size + 1, 0, none⟩ = some (.int .i64 (twR xBase xListZ).2.2.1) := by go_simp
  have ch11 : ((v20.alloc (.cells #[.int .i64 (twR xBase xListZ).1, .slice h0A (twR xBase xListZ).2.1.length h0C] 31)).alloc (.cells #[.int .i64 (twR xBase xListZ).2.2.1, .slice h1A (twR xBase xListZ).2.2.2.1.length h1C] 31)).cell? ⟨v20.heap.size + 1, 1, none⟩ = some (.slice h1A (twR xBase xListZ).2.2.2.1.length h1C) := by go_simp
  have q39 : regEqB (twR xBase xListZ).1 (twR xBase xListZ).1 (twR xBase xListZ).2.1 (twR xBase xListZ).2.1 = true := regEqB_self _ _
  go_wp2_with fail
  obtain ⟨v21, hu⟩ : ∃ u, u = ((v20.alloc (.cells #[.int .i64 (twR xBase xListZ).1, .slice h0A (twR xBase xListZ).2.1.length h0C] 31)).alloc (.cells #[.int .i64 (twR xBase xListZ).2.2.1, .slice h1A (twR xBase xListZ).2.2.2.1.length h1C] 31)) := ⟨_, rfl⟩
  have s40 : Hid (v20.heap.size + 2 ≤ v21.heap.size) := Lib.hid (by rw [hu]; simp)
  rw [← hu] at cw00 cw01 cw10 cw11 cg00 cg01 cg10 cg11 ch00 ch01 ch10 ch11 ow0 ow1 ot8 og0 og1 oh0 oh1 hbel ⊢
  clear hu
  refine (eqRegister_any (twR xBase xListZ).1 (twR xBase xListZ).1 h0A w0A h0C w0C (twR xBase xListZ).2.1 (twR xBase xListZ).2.1 v21 oh0.rd ow0.rd).mono ?_
  rintro e v22 ⟨rfl, hb⟩
  have s41 : Hid (v21.heap.size ≤ v22.heap.size) := Lib.hid hb.size
  replace cw00 := kept hb cw00
  replace cw01 := kept hb cw01
  replace cw10 := kept hb cw10
  replace cw11 := kept hb cw11
  replace cg00 := kept hb cg00
  replace cg01 := kept hb cg01
  replace cg10 := kept hb cg10
  replace cg11 := kept hb cg11
  replace ch00 := kept hb ch00
  replace ch01 := kept hb ch01
  replace ch10 := kept hb ch10
  replace ch11 := kept hb ch11
  replace ow0 := ow0.below hb
  replace ow1 := ow1.below hb
  replace ot8 := ot8.below hb
  replace og0 := og0.below hb
  replace og1 := og1.below hb
  replace oh0 := oh0.below hb
  replace oh1 := oh1.below hb
  replace hbel := hbel.trans (hb.mono hbel.size)
  clear hb
  have q42 : regEqB (twR xBase xListZ).2.2.1 (twR xBase xListZ).2.2.1 (twR xBase xListZ).2.2.2.1 (twR xBase xListZ).2.2.2.1 = true := regEqB_self _ _
  go_wp2_with fail
  refine (eqRegister_any (twR xBase xListZ).2.2.1 (twR xBase xListZ).2.2.1 h1A w1A h1C w1C (twR xBase xListZ).2.2.2.1 (twR xBase xListZ).2.2.2.1 v22 oh1.rd ow1.rd).mono ?_
  rintro e v23 ⟨rfl, hb⟩
  have s43 : Hid (v22.heap.size ≤ v23.heap.size) := Lib.hid hb.size
  replace cw00 := kept hb cw00
  replace cw01 := kept hb cw01
  replace cw10 := kept hb cw10
  replace cw11 := kept hb cw11
  replace cg00 := kept hb cg00
  replace cg01 := kept hb cg01
  replace cg10 := kept hb cg10
  replace cg11 := kept hb cg11
  replace ch00 := kept hb ch00
  replace ch01 := kept hb ch01
  replace ch10 := kept hb ch10
  replace ch11 := kept hb ch11
  replace ow0 := ow0.below hb
  replace ow1 := ow1.below hb
  replace ot8 := ot8.below hb
  replace og0 := og0.below hb
  replace og1 := og1.below hb
  replace oh0 := oh0.below hb
  replace oh1 := oh1.below hb
  replace hbel := hbel.trans (hb.mono hbel.size)
  clear hb
  go_wp2_with fail
  refine (heldRegister_any (twR xBase xListZ).1 g0A g0C 1 (twR xBase xListZ).2.1.length v23 og0.rd (by have := ow0.len; have := ow1.len; have := ot8.len; have := og0.len; have := og1.len; have := oh0.len; have := oh1.len; have := hxList.len; omega) (by have := ow0.len; have := ow1.len; have := ot8.len; have := og0.len; have := og1.len; have := oh0.len; have := oh1.len; have := hxList.len; omega)).mono ?_
  rintro e v24 ⟨rfl, hb⟩
  have s44 : Hid (v23.heap.size ≤ v24.heap.size) := Lib.hid hb.size
  replace cw00 := kept hb cw00
  replace cw01 := kept hb cw01
  replace cw10 := kept hb cw10
  replace cw11 := kept hb cw11
  replace cg00 := kept hb cg00
  replace cg01 := kept hb cg01
  replace cg10 := kept hb cg10
  replace cg11 := kept hb cg11
  replace ch00 := kept hb ch00
  replace ch01 := kept hb ch01
  replace ch10 := kept hb ch10
  replace ch11 := kept hb ch11
  replace ow0 := ow0.below hb
  replace ow1 := ow1.below hb
  replace ot8 := ot8.below hb
  replace og0 := og0.below hb
  replace og1 := og1.below hb
  replace oh0 := oh0.below hb
  replace oh1 := oh1.below hb
  replace hbel := hbel.trans (hb.mono hbel.size)
  clear hb
  go_wp2_with fail
  refine (heldRegister_any (twR xBase xListZ).2.2.1 g1A g1C (1 + ((twR xBase xListZ).2.1.length : Int)) (twR xBase xListZ).2.2.2.1.length v24 og1.rd (by have := ow0.len; have := ow1.len; have := ot8.len; have := og0.len; have := og1.len; have := oh0.len; have := oh1.len; have := hxList.len; omega) (by have := ow0.len; have := ow1.len; have := ot8.len; have := og0.len; have := og1.len; have := oh0.len; have := oh1.len; have := hxList.len; omega)).mono ?_
  rintro e v25 ⟨rfl, hb⟩
  have s45 : Hid (v24.heap.size ≤ v25.heap.size) := Lib.hid hb.size
  replace cw00 := kept hb cw00
  replace cw01 := kept hb cw01
  replace cw10 := kept hb cw10
  replace cw11 := kept hb cw11
  replace cg00 := kept hb cg00
  replace cg01 := kept hb cg01
  replace cg10 := kept hb cg10
  replace cg11 := kept hb cg11
  replace ch00 := kept hb ch00
  replace ch01 := kept hb ch01
  replace ch10 := kept hb ch10
  replace ch11 := kept hb ch11
  replace ow0 := ow0.below hb
  replace ow1 := ow1.below hb
  replace ot8 := ot8.below hb
  replace og0 := og0.below hb
  replace og1 := og1.below hb
  replace oh0 := oh0.below hb
  replace oh1 := oh1.below hb
  replace hbel := hbel.trans (hb.mono hbel.size)
  clear hb
  go_wp2
  go_ret
  exact ⟨rfl, hbel⟩

set_option maxRecDepth 100000 in
theorem lifted (os : Os) (started : os.Started) (H : Type) (enc : TypeId × Value → H) :
    ReturnsInHanded {} Try.checked os 11 .any (Rows.fnExactTableWitnessSpec.pre6 enc Try.prog Try.f11 Rows.fnExactTableWitnessRow.domain false) (Rows.fnExactTableWitnessSpec.post enc Try.prog Try.f11 false true false false) := by
  refine returnsInHanded_of_change (C := Try.checked) own_knob started (by kernel_rfl) Try.func11
    (ChangeSpec.witness6 (enc := enc) (C := Try.checked) false ⟨#[], #[.int .i64 0, .slice none 0 0], []⟩ 8 (by kernel_rfl) (by kernel_rfl) (by kernel_rfl) (by kernel_rfl)) ?_
  intro W base args ds gs before hval0 hW hcnd _
  have hval : ∀ (j : Nat) t v, Try.f11.params[j]? = some t → args[j]? = some v → Value.okWide Try.prog W .any base t v := hval0
  have hW' := hW
  obtain ⟨p, q, hA0, hV, rfl, hfz, hnd⟩ := hW
  have hA : DataW.TrodAll enc Try.prog W 0 (fun _ => true) true Try.f11.params.toList args.toList ds p := hA0
  rw [Try.params11] at hA hval
  obtain ⟨v0, vs0, d0, ds0, p0, q0, hargs, rfl, rfl, h0, r0⟩ := trodAll_cons hA
  obtain ⟨v1, vs1, d1, ds1, p1, q1, rfl, rfl, rfl, h1, r1⟩ := trodAll_cons r0
  obtain ⟨rfl, rfl, rfl⟩ := trodAll_nil r1
  obtain rfl : args = #[v0, v1] := by cases args; simp_all
  obtain ⟨rfl, rfl⟩ := trodVars_none hV
  obtain ⟨xBase, rfl, rfl, rfl, bxBase⟩ := open_int Try.underlying2 (hval 0 2 v0 rfl rfl) h0
  have k1 := h1
  have lt1 : ∀ x ∈ p1, x.block < W.heap.size := by obtain ⟨m, hm⟩ := k1; exact DataW.trod_lt m _ _ _ hm
  obtain ⟨xListA, xListC, xListZ, rfl, hxList⟩ := open_AddRowS (hval 1 66 v1 rfl rfl) h1
  clear hA0 hval0
  refine (law_walk xBase xListA xListC xListZ W bxBase hxList).mono fun e W' ⟨he, bel⟩ => ?_
  subst he
  exact ⟨_, rfl, _, _, _, [], _, [], hW', trodAll_mk1 (shut_bool Try.underlying4 _), (trodAll_cons_mk (shut_int Try.underlying2 bxBase) (trodAll_cons_mk (Below.trod laid_out (by kernel_rfl) (of_decide_eq_true (by kernel_rfl)) k1 bel lt1) trodAll_mk0)), rfl, bel.frame _, fun h => by cases h⟩

set_option maxHeartbeats 20000000 in
theorem closed : joinedFacts Try.prog 11 Try.f11 Rows.fnExactTableWitnessSpec Rows.fnExactTableWitnessRow = true := by
  simp only [joinedFacts, Bool.and_eq_true]
  refine ⟨⟨⟨⟨⟨⟨⟨⟨⟨⟨⟨⟨⟨⟨⟨⟨⟨⟨⟨⟨⟨⟨⟨⟨⟨⟨⟨⟨⟨⟨⟨?_, laid_out⟩, fact_maps⟩, ?_⟩, ?_⟩, ?_⟩, fact_stops⟩, ?_⟩, fact_knobs⟩, ?_⟩, ?_⟩, ?_⟩, ?_⟩, ?_⟩, ?_⟩, ?_⟩, ?_⟩, ?_⟩, ?_⟩, ?_⟩, ?_⟩, ?_⟩, fact_plain⟩, ?_⟩, fact_heard⟩, fact_enter⟩, fact_lift⟩, ?_⟩, ?_⟩, ?_⟩, ?_⟩, ?_⟩
  all_goals (as_aux_lemma => kernel_rfl)

theorem over : Rows.fnExactTableWitnessRow.holds Try.pinned (OpenSpec.ofChange Rows.fnExactTableWitnessSpec) :=
  OpenClaim.holds_of_wide 11 Try.f11 rfl rfl rfl rfl rfl rfl rfl ⟨rfl, rfl, rfl, rfl, rfl⟩ rfl rfl rfl rfl rfl (by as_aux_lemma => kernel_rfl) Try.func11 closed
    (of_decide_eq_true (by as_aux_lemma => kernel_rfl)) (by unfold Func.isWrapper; rw [if_neg (by decide +kernel)]; exact ⟨rfl, rfl⟩)
    (fun os started H enc _ => lifted os started H enc)

/-- The statement. -/
theorem proved : Rows.FnExactTableWitnessSaid := over
end Go.Proofs.Ytmdngcoccekdgaa.lawTableWitness
