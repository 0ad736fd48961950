/-
  laws.FnExactSameMachine returns true at every input (no condition), and leaves its arguments as they were.
-/
import Derived.Test.YtmjeiagkdcfeiaaMacT
import Derived.Test.YtmjeiagkdcfeiaaFrameM
import Derived.Test.YtmjeiagkdcfeiaaMacM
import Derived.Test.YtmjeiagkdcfeiaaSamM
import Derived.Deep.RegionHeld3
import Derived.Test.YtmjeiagkdcfeiaaFacts
import Derived.Test.YtmjeiagkdcfeiaaRows
namespace Go.Proofs.Ytmjeiagkdcfeiaa.lawSameMachine
open Go.ChangeShapes Go.WideShapes Go.ChangeAt Go.WideElems Go.RowKit Go.Joins
open Go.ChangeMaps (open_string shut_string)

set_option maxRecDepth 100000 in
set_option maxHeartbeats 4000000 in
theorem law_walk (xA : Mac) (xAA1 : Option Addr) (xAC1 : Nat) (xAA2 : Option Addr) (xAC2 : Nat) (xAA3 : Option Addr) (xAC3 : Nat) (xB : Mac) (xBA1 : Option Addr) (xBC1 : Nat) (xBA2 : Option Addr) (xBC2 : Nat) (xBA3 : Option Addr) (xBC3 : Nat) (w : World) (hxA : Raw3 w xAA1 xA.z1 xAA2 xA.z2 xAA3 xA.z3) (bxA : I64 xA.b1 ∧ I64 xA.b2 ∧ I64 xA.b3 ∧ I64 xA.p) (hxB : Raw3 w xBA1 xB.z1 xBA2 xB.z2 xBA3 xB.z3) (bxB : I64 xB.b1 ∧ I64 xB.b2 ∧ I64 xB.b3 ∧ I64 xB.p) :
    Calls Try.prog 3 #[.agg #[.int .i64 xA.b1, .slice xAA1 xA.z1.length xAC1, .int .i64 xA.b2, .slice xAA2 xA.z2.length xAC2, .int .i64 xA.b3, .slice xAA3 xA.z3.length xAC3, .int .i64 xA.p], .agg #[.int .i64 xB.b1, .slice xBA1 xB.z1.length xBC1, .int .i64 xB.b2, .slice xBA2 xB.z2.length xBC2, .int .i64 xB.b3, .slice xBA3 xB.z3.length xBC3, .int .i64 xB.p]] w fun e w' => e = .returned (.bool true) ∧ Below w.heap.size w w' := by
  have hbel : Below w.heap.size w ((w.alloc (.cells #[.int .i64 xA.b1, .slice xAA1 xA.z1.length xAC1, .int .i64 xA.b2, .slice xAA2 xA.z2.length xAC2, .int .i64 xA.b3, .slice xAA3 xA.z3.length xAC3, .int .i64 xA.p] 26)).alloc (.cells #[.int .i64 xB.b1, .slice xBA1 xB.z1.length xBC1, .int .i64 xB.b2, .slice xBA2 xB.z2.length xBC2, .int .i64 xB.b3, .slice xBA3 xB.z3.length xBC3, .int .i64 xB.p] 26)) := ((Below.refl _ _).alloc (by simp <;> omega) _).alloc (by simp <;> omega) _
  have cxA0 : ((w.alloc (.cells #[.int .i64 xA.b1, .slice xAA1 xA.z1.length xAC1, .int .i64 xA.b2, .slice xAA2 xA.z2.length xAC2, .int .i64 xA.b3, .slice xAA3 xA.z3.length xAC3, .int .i64 xA.p] 26)).alloc (.cells #[.int .i64 xB.b1, .slice xBA1 xB.z1.length xBC1, .int .i64 xB.b2, .slice xBA2 xB.z2.length xBC2, .int .i64 xB.b3, .slice xBA3 xB.z3.length xBC3, .int .i64 xB.p] 26)).cell? ⟨w.heap.size, 0, none⟩ = some (.int .i64 xA.b1) := by go_simp
  have cxA1 : ((w.alloc (.cells #[.int .i64 xA.b1, .slice xAA1 xA.z1.length xAC1, .int .i64 xA.b2, .slice xAA2 xA.z2.length xAC2, .int .i64 xA.b3, .slice xAA3 xA.z3.length xAC3, .int .i64 xA.p] 26)).alloc (.cells #[.int .i64 xB.b1, .slice xBA1 xB.z1.length xBC1, .int .i64 xB.b2, .slice xBA2 xB.z2.length xBC2, .int .i64 xB.b3, .slice xBA3 xB.z3.length xBC3, .int .i64 xB.p] 26)).cell? ⟨w.heap.size, 1, none⟩ = some (.slice xAA1 xA.z1.length xAC1) := by go_simp
  have cxA2 : ((w.alloc (.cells #[.int .i64 xA.b1, .slice xAA1 xA.z1.length xAC1, .int .i64 xA.b2, .slice xAA2 xA.z2.length xAC2, .int .i64 xA.b3, .slice xAA3 xA.z3.length xAC3, .int .i64 xA.p] 26)).alloc (.cells #[.int .i64 xB.b1, .slice xBA1 xB.z1.length xBC1, .int .i64 xB.b2, .slice xBA2 xB.z2.length xBC2, .int .i64 xB.b3, .slice xBA3 xB.z3.length xBC3, .int .i64 xB.p] 26)).cell? ⟨w.heap.size, 2, none⟩ = some (.int .i64 xA.b2) := by go_simp
  have cxA3 : ((w.alloc (.cells #[.int .i64 xA.b1, .slice xAA1 xA.z1.length xAC1, .int .i64 xA.b2, .slice xAA2 xA.z2.length xAC2, .int .i64 xA.b3, .slice xAA3 xA.z3.length xAC3, .int .i64 xA.p] 26)).alloc (.cells #[.int .i64 xB.b1, .slice xBA1 xB.z1.length xBC1, .int .i64 xB.b2, .slice xBA2 xB.z2.length xBC2, .int .i64 xB.b3, .slice xBA3 xB.z3.length xBC3, .int .i64 xB.p] 26)).cell? ⟨w.heap.size, 3, none⟩ = some (.slice xAA2 xA.z2.length xAC2) := by go_simp
  have cxA4 : ((w.alloc (.cells #[.int .i64 xA.b1, .slice xAA1 xA.z1.length xAC1, .int .i64 xA.b2, .slice xAA2 xA.z2.length xAC2, .int .i64 xA.b3, .slice xAA3 xA.z3.length xAC3, .int .i64 xA.p] 26)).alloc (.cells #[.int .i64 xB.b1, .slice xBA1 xB.z1.length xBC1, .int .i64 xB.b2, .slice xBA2 xB.z2.length xBC2, .int .i64 xB.b3, .slice xBA3 xB.z3.length xBC3, .int .i64 xB.p] 26)).cell? ⟨w.heap.size, 4, none⟩ = some (.int .i64 xA.b3) := by go_simp
  have cxA5 : ((w.alloc (.cells #[.int .i64 xA.b1, .slice xAA1 xA.z1.length xAC1, .int .i64 xA.b2, .slice xAA2 xA.z2.length xAC2, .int .i64 xA.b3, .slice xAA3 xA.z3.length xAC3, .int .i64 xA.p] 26)).alloc (.cells #[.int .i64 xB.b1, .slice xBA1 xB.z1.length xBC1, .int .i64 xB.b2, .slice xBA2 xB.z2.length xBC2, .int .i64 xB.b3, .slice xBA3 xB.z3.length xBC3, .int .i64 xB.p] 26)).cell? ⟨w.heap.size, 5, none⟩ = some (.slice xAA3 xA.z3.length xAC3) := by go_simp
  have cxA6 : ((w.alloc (.cells #[.int .i64 xA.b1, .slice xAA1 xA.z1.length xAC1, .int .i64 xA.b2, .slice xAA2 xA.z2.length xAC2, .int .i64 xA.b3, .slice xAA3 xA.z3.length xAC3, .int .i64 xA.p] 26)).alloc (.cells #[.int .i64 xB.b1, .slice xBA1 xB.z1.length xBC1, .int .i64 xB.b2, .slice xBA2 xB.z2.length xBC2, .int .i64 xB.b3, .slice xBA3 xB.z3.length xBC3, .int .i64 xB.p] 26)).cell? ⟨w.heap.size, 6, none⟩ = some (.int .i64 xA.p) := by go_simp
  have cxB0 : ((w.alloc (.cells #[.int .i64 xA.b1, .slice xAA1 xA.z1.length xAC1, .int .i64 xA.b2, .slice xAA2 xA.z2.length xAC2, .int .i64 xA.b3, .slice xAA3 xA.z3.length xAC3, .int .i64 xA.p] 26)).alloc (.cells #[.int .i64 xB.b1, .slice xBA1 xB.z1.length xBC1, .int .i64 xB.b2, .slice xBA2 xB.z2.length xBC2, .int .i64 xB.b3, .slice xBA3 xB.z3.length xBC3, .int .i64 xB.p] 26)).cell? ⟨w.heap.size + 1, 0, none⟩ = some (.int .i64 xB.b1) := by go_simp
  have cxB1 : ((w.alloc (.cells #[.int .i64 xA.b1, .slice xAA1 xA.z1.length xAC1, .int .i64 xA.b2, .slice xAA2 xA.z2.length xAC2, .int .i64 xA.b3, .slice xAA3 xA.z3.length xAC3, .int .i64 xA.p] 26)).alloc (.cells #[.int .i64 xB.b1, .slice xBA1 xB.z1.length xBC1, .int .i64 xB.b2, .slice xBA2 xB.z2.length xBC2, .int .i64 xB.b3, .slice xBA3 xB.z3.length xBC3, .int .i64 xB.p] 26)).cell? ⟨w.heap.size + 1, 1, none⟩ = some (.slice xBA1 xB.z1.length xBC1) := by go_simp
  have cxB2 : ((w.alloc (.cells #[.int .i64 xA.b1, .slice xAA1 xA.z1.length xAC1, .int .i64 xA.b2, .slice xAA2 xA.z2.length xAC2, .int .i64 xA.b3, .slice xAA3 xA.z3.length xAC3, .int .i64 xA.p] 26)).alloc (.cells #[.int .i64 xB.b1, .slice xBA1 xB.z1.length xBC1, .int .i64 xB.b2, .slice xBA2 xB.z2.length xBC2, .int .i64 xB.b3, .slice xBA3 xB.z3.length xBC3, .int .i64 xB.p] 26)).cell? ⟨w.heap.size + 1, 2, none⟩ = some (.int .i64 xB.b2) := by go_simp
  have cxB3 : ((w.alloc (.cells #[.int .i64 xA.b1, .slice xAA1 xA.z1.length xAC1, .int .i64 xA.b2, .slice xAA2 xA.z2.length xAC2, .int .i64 xA.b3, .slice xAA3 xA.z3.length xAC3, .int .i64 xA.p] 26)).alloc (.cells #[.int .i64 xB.b1, .slice xBA1 xB.z1.length xBC1, .int .i64 xB.b2, .slice xBA2 xB.z2.length xBC2, .int .i64 xB.b3, .slice xBA3 xB.z3.length xBC3, .int .i64 xB.p] 26)).cell? ⟨w.heap.size + 1, 3, none⟩ = some (.slice xBA2 xB.z2.length xBC2) := by go_simp
  have cxB4 : ((w.alloc (.cells #[.int .i64 xA.b1, .slice xAA1 xA.z1.length xAC1, .int .i64 xA.b2, .slice xAA2 xA.z2.length xAC2, .int .i64 xA.b3, .slice xAA3 xA.z3.length xAC3, .int .i64 xA.p] 26)).alloc (.cells #[.int .i64 xB.b1, .slice xBA1 xB.z1.length xBC1, .int .i64 xB.b2, .slice xBA2 xB.z2.length xBC2, .int .i64 xB.b3, .slice xBA3 xB.z3.length xBC3, .int .i64 xB.p] 26)).cell? ⟨w.heap.size + 1, 4, none⟩ = some (.int .i64 xB.b3) := by go_simp
  have cxB5 : ((w.alloc (.cells #[.int .i64 xA.b1, .slice xAA1 xA.z1.length xAC1, .int .i64 xA.b2, .slice xAA2 xA.z2.length xAC2, .int .i64 xA.b3, .slice xAA3 xA.z3.length xAC3, .int .i64 xA.p] 26)).alloc (.cells #[.int .i64 xB.b1, .slice xBA1 xB.z1.length xBC1, .int .i64 xB.b2, .slice xBA2 xB.z2.length xBC2, .int .i64 xB.b3, .slice xBA3 xB.z3.length xBC3, .int .i64 xB.p] 26)).cell? ⟨w.heap.size + 1, 5, none⟩ = some (.slice xBA3 xB.z3.length xBC3) := by go_simp
  have cxB6 : ((w.alloc (.cells #[.int .i64 xA.b1, .slice xAA1 xA.z1.length xAC1, .int .i64 xA.b2, .slice xAA2 xA.z2.length xAC2, .int .i64 xA.b3, .slice xAA3 xA.z3.length xAC3, .int .i64 xA.p] 26)).alloc (.cells #[.int .i64 xB.b1, .slice xBA1 xB.z1.length xBC1, .int .i64 xB.b2, .slice xBA2 xB.z2.length xBC2, .int .i64 xB.b3, .slice xBA3 xB.z3.length xBC3, .int .i64 xB.p] 26)).cell? ⟨w.heap.size + 1, 6, none⟩ = some (.int .i64 xB.p) := by go_simp
  go_enter Try.func3, Try.ntmps3
  go_wp2_with fail
  obtain ⟨v1, hu⟩ : ∃ u, u = ((w.alloc (.cells #[.int .i64 xA.b1, .slice xAA1 xA.z1.length xAC1, .int .i64 xA.b2, .slice xAA2 xA.z2.length xAC2, .int .i64 xA.b3, .slice xAA3 xA.z3.length xAC3, .int .i64 xA.p] 26)).alloc (.cells #[.int .i64 xB.b1, .slice xBA1 xB.z1.length xBC1, .int .i64 xB.b2, .slice xBA2 xB.z2.length xBC2, .int .i64 xB.b3, .slice xBA3 xB.z3.length xBC3, .int .i64 xB.p] 26)) := ⟨_, rfl⟩
  have s1 : Hid (w.heap.size + 2 ≤ v1.heap.size) := Lib.hid (by rw [hu]; simp)
  rw [← hu] at cxA0 cxA1 cxA2 cxA3 cxA4 cxA5 cxA6 cxB0 cxB1 cxB2 cxB3 cxB4 cxB5 cxB6 hbel ⊢
  clear hu
  rcases Int.lt_or_le (leftOf (xA.z1.length + xA.z2.length + xA.z3.length) 1048576) 0 with k1 | k1
  · refine (szMachine_any xA.b1 xAA1 xA.z1.length xAC1 xA.b2 xAA2 xA.z2.length xAC2 xA.b3 xAA3 xA.z3.length xAC3 xA.p 1048576 v1 hxA.len (by omega) (by omega)).mono ?_
    rintro e v2 ⟨rfl, hb⟩
    go_wp2
    go_ret
    exact ⟨rfl, hbel.trans (hb.mono hbel.size)⟩
  have m1 := leftOf_le (xA.z1.length + xA.z2.length + xA.z3.length) 1048576 (by omega)
  refine (szMachine_any xA.b1 xAA1 xA.z1.length xAC1 xA.b2 xAA2 xA.z2.length xAC2 xA.b3 xAA3 xA.z3.length xAC3 xA.p 1048576 v1 hxA.len (by omega) (by omega)).mono ?_
  rintro e v2 ⟨rfl, hb⟩
  have s2 : Hid (v1.heap.size ≤ v2.heap.size) := Lib.hid hb.size
  replace cxA0 := kept hb cxA0
  replace cxA1 := kept hb cxA1
  replace cxA2 := kept hb cxA2
  replace cxA3 := kept hb cxA3
  replace cxA4 := kept hb cxA4
  replace cxA5 := kept hb cxA5
  replace cxA6 := kept hb cxA6
  replace cxB0 := kept hb cxB0
  replace cxB1 := kept hb cxB1
  replace cxB2 := kept hb cxB2
  replace cxB3 := kept hb cxB3
  replace cxB4 := kept hb cxB4
  replace cxB5 := kept hb cxB5
  replace cxB6 := kept hb cxB6
  replace hbel := hbel.trans (hb.mono hbel.size)
  clear hb
  have zxA := hxA.wf
  replace hxA := hxA.rd (by have := leftOf_len k1; omega)
  go_wp2_with fail
  rcases Int.lt_or_le (leftOf (xB.z1.length + xB.z2.length + xB.z3.length) (leftOf (xA.z1.length + xA.z2.length + xA.z3.length) 1048576)) 0 with k2 | k2
  · refine (szMachine_any xB.b1 xBA1 xB.z1.length xBC1 xB.b2 xBA2 xB.z2.length xBC2 xB.b3 xBA3 xB.z3.length xBC3 xB.p (leftOf (xA.z1.length + xA.z2.length + xA.z3.length) 1048576) v2 hxB.len (by omega) (by omega)).mono ?_
    rintro e v3 ⟨rfl, hb⟩
    go_wp2
    go_ret
    exact ⟨rfl, hbel.trans (hb.mono hbel.size)⟩
  have m2 := leftOf_le (xB.z1.length + xB.z2.length + xB.z3.length) (leftOf (xA.z1.length + xA.z2.length + xA.z3.length) 1048576) (by omega)
  refine (szMachine_any xB.b1 xBA1 xB.z1.length xBC1 xB.b2 xBA2 xB.z2.length xBC2 xB.b3 xBA3 xB.z3.length xBC3 xB.p (leftOf (xA.z1.length + xA.z2.length + xA.z3.length) 1048576) v2 hxB.len (by omega) (by omega)).mono ?_
  rintro e v3 ⟨rfl, hb⟩
  have s3 : Hid (v2.heap.size ≤ v3.heap.size) := Lib.hid hb.size
  replace cxA0 := kept hb cxA0
  replace cxA1 := kept hb cxA1
  replace cxA2 := kept hb cxA2
  replace cxA3 := kept hb cxA3
  replace cxA4 := kept hb cxA4
  replace cxA5 := kept hb cxA5
  replace cxA6 := kept hb cxA6
  replace cxB0 := kept hb cxB0
  replace cxB1 := kept hb cxB1
  replace cxB2 := kept hb cxB2
  replace cxB3 := kept hb cxB3
  replace cxB4 := kept hb cxB4
  replace cxB5 := kept hb cxB5
  replace cxB6 := kept hb cxB6
  replace hbel := hbel.trans (hb.mono hbel.size)
  clear hb
  have zxB := hxB.wf
  replace hxB := hxB.rd (by have := leftOf_len k2; omega)
  go_wp2_with fail
  have rcxA0 := kept_all cxA0
  have rcxA1 := kept_all cxA1
  have rcxA2 := kept_all cxA2
  have rcxA3 := kept_all cxA3
  have rcxA4 := kept_all cxA4
  have rcxA5 := kept_all cxA5
  have rcxA6 := kept_all cxA6
  have rcxB0 := kept_all cxB0
  have rcxB1 := kept_all cxB1
  have rcxB2 := kept_all cxB2
  have rcxB3 := kept_all cxB3
  have rcxB4 := kept_all cxB4
  have rcxB5 := kept_all cxB5
  have rcxB6 := kept_all cxB6
  go_region_held3 (fun w' => Below v3.heap.size v3 w') (first | exact hk | exact (Below.refl _ _).drew | exact hk.alloc hk.size _ | exact (hk.alloc hk.size _).setCell hk.size _)
    (first | (go_at_call 8; have qB := ‹Below v3.heap.size v3 _›; ((with_reducible refine (toMachine_any xA xAA1 xAC1 xAA2 xAC2 xAA3 xAC3 _ (hxA.below (hbel.trans (qB.mono hbel.size)))).mono ?_)); rintro e v5 ⟨t4A1, t4C1, t4A2, t4C2, t4A3, t4C3, rfl, ot4, hb⟩; have hk := qB.trans (hb.mono qB.size)) | (go_at_call 8; have qB := ‹Below v3.heap.size v3 _›; ((with_reducible refine (toMachine_any xB xBA1 xBC1 xBA2 xBC2 xBA3 xBC3 _ (hxB.below (hbel.trans (qB.mono hbel.size)))).mono ?_)); rintro e v6 ⟨t5A1, t5C1, t5A2, t5C2, t5A3, t5C3, rfl, ot5, hb⟩; replace ot4 := ot4.below hb; have hk := qB.trans (hb.mono qB.size)) | (go_at_call 7; have qB := ‹Below v3.heap.size v3 _›; refine (specSameMachine xA t4A1 t4C1 t4A2 t4C2 t4A3 t4C3 xB t5A1 t5C1 t5A2 t5C2 t5A3 t5C3 _ (by first | exact ot4.rd | exact (ot4.alloc _).rd) zxA bxA (by first | exact ot5.rd | exact (ot5.alloc _).rd) zxB bxB).mono ?_; rintro e v4 ⟨rfl, hb⟩; have hk := qB.trans (hb.mono qB.size)))
  have hb : Below v3.heap.size v3 v4 := by assumption
  clear rcxA0 rcxA1 rcxA2 rcxA3 rcxA4 rcxA5 rcxA6 rcxB0 rcxB1 rcxB2 rcxB3 rcxB4 rcxB5 rcxB6
  clear ot4 ot5
  have s6 : Hid (v3.heap.size ≤ v4.heap.size) := Lib.hid hb.size
  replace cxA0 := kept hb cxA0
  replace cxA1 := kept hb cxA1
  replace cxA2 := kept hb cxA2
  replace cxA3 := kept hb cxA3
  replace cxA4 := kept hb cxA4
  replace cxA5 := kept hb cxA5
  replace cxA6 := kept hb cxA6
  replace cxB0 := kept hb cxB0
  replace cxB1 := kept hb cxB1
  replace cxB2 := kept hb cxB2
  replace cxB3 := kept hb cxB3
  replace cxB4 := kept hb cxB4
  replace cxB5 := kept hb cxB5
  replace cxB6 := kept hb cxB6
  replace hbel := hbel.trans (hb.mono hbel.size)
  clear hb
  go_wp2_with fail
  refine (toMachine_any xA xAA1 xAC1 xAA2 xAC2 xAA3 xAC3 v4 (hxA.below hbel)).mono ?_
  rintro e v7 ⟨t7A1, t7C1, t7A2, t7C2, t7A3, t7C3, rfl, ot7, hb⟩
  have s8 : Hid (v4.heap.size ≤ v7.heap.size) := Lib.hid hb.size
  replace cxA0 := kept hb cxA0
  replace cxA1 := kept hb cxA1
  replace cxA2 := kept hb cxA2
  replace cxA3 := kept hb cxA3
  replace cxA4 := kept hb cxA4
  replace cxA5 := kept hb cxA5
  replace cxA6 := kept hb cxA6
  replace cxB0 := kept hb cxB0
  replace cxB1 := kept hb cxB1
  replace cxB2 := kept hb cxB2
  replace cxB3 := kept hb cxB3
  replace cxB4 := kept hb cxB4
  replace cxB5 := kept hb cxB5
  replace cxB6 := kept hb cxB6
  replace hbel := hbel.trans (hb.mono hbel.size)
  clear hb
  have ha9 : Below v7.heap.size v7 (v7.alloc (.cells #[.int .i64 xA.b1, .slice t7A1 xA.z1.length t7C1, .int .i64 xA.b2, .slice t7A2 xA.z2.length t7C2, .int .i64 xA.b3, .slice t7A3 xA.z3.length t7C3, .int .i64 xA.p] 31)) := (Below.refl _ _).alloc (by simp <;> omega) _
  replace cxA0 := kept ha9 cxA0
  replace cxA1 := kept ha9 cxA1
  replace cxA2 := kept ha9 cxA2
  replace cxA3 := kept ha9 cxA3
  replace cxA4 := kept ha9 cxA4
  replace cxA5 := kept ha9 cxA5
  replace cxA6 := kept ha9 cxA6
  replace cxB0 := kept ha9 cxB0
  replace cxB1 := kept ha9 cxB1
  replace cxB2 := kept ha9 cxB2
  replace cxB3 := kept ha9 cxB3
  replace cxB4 := kept ha9 cxB4
  replace cxB5 := kept ha9 cxB5
  replace cxB6 := kept ha9 cxB6
  replace ot7 := ot7.below ha9
  replace hbel := hbel.trans (ha9.mono hbel.size)
  clear ha9
  have cx00 : (v7.alloc (.cells #[.int .i64 xA.b1, .slice t7A1 xA.z1.length t7C1, .int .i64 xA.b2, .slice t7A2 xA.z2.length t7C2, .int .i64 xA.b3, .slice t7A3 xA.z3.length t7C3, .int .i64 xA.p] 31)).cell? ⟨v7.heap.size, 0, none⟩ = some (.int .i64 xA.b1) := by go_simp
  have cx01 : (v7.alloc (.cells #[.int .i64 xA.b1, .slice t7A1 xA.z1.length t7C1, .int .i64 xA.b2, .slice t7A2 xA.z2.length t7C2, .int .i64 xA.b3, .slice t7A3 xA.z3.length t7C3, .int .i64 xA.p] 31)).cell? ⟨v7.heap.size, 1, none⟩ = some (.slice t7A1 xA.z1.length t7C1) := by go_simp
  have cx02 : (v7.alloc (.cells #[.int .i64 xA.b1, .slice t7A1 xA.z1.length t7C1, .int .i64 xA.b2, .slice t7A2 xA.z2.length t7C2, .int .i64 xA.b3, .slice t7A3 xA.z3.length t7C3, .int .i64 xA.p] 31)).cell? ⟨v7.heap.size, 2, none⟩ = some (.int .i64 xA.b2) := by go_simp
  have cx03 : (v7.alloc (.cells #[.int .i64 xA.b1, .slice t7A1 xA.z1.length t7C1, .int .i64 xA.b2, .slice t7A2 xA.z2.length t7C2, .int .i64 xA.b3, .slice t7A3 xA.z3.length t7C3, .int .i64 xA.p] 31)).cell? ⟨v7.heap.size, 3, none⟩ = some (.slice t7A2 xA.z2.length t7C2) := by go_simp
  have cx04 : (v7.alloc (.cells #[.int .i64 xA.b1, .slice t7A1 xA.z1.length t7C1, .int .i64 xA.b2, .slice t7A2 xA.z2.length t7C2, .int .i64 xA.b3, .slice t7A3 xA.z3.length t7C3, .int .i64 xA.p] 31)).cell? ⟨v7.heap.size, 4, none⟩ = some (.int .i64 xA.b3) := by go_simp
  have cx05 : (v7.alloc (.cells #[.int .i64 xA.b1, .slice t7A1 xA.z1.length t7C1, .int .i64 xA.b2, .slice t7A2 xA.z2.length t7C2, .int .i64 xA.b3, .slice t7A3 xA.z3.length t7C3, .int .i64 xA.p] 31)).cell? ⟨v7.heap.size, 5, none⟩ = some (.slice t7A3 xA.z3.length t7C3) := by go_simp
  have cx06 : (v7.alloc (.cells #[.int .i64 xA.b1, .slice t7A1 xA.z1.length t7C1, .int .i64 xA.b2, .slice t7A2 xA.z2.length t7C2, .int .i64 xA.b3, .slice t7A3 xA.z3.length t7C3, .int .i64 xA.p] 31)).cell? ⟨v7.heap.size, 6, none⟩ = some (.int .i64 xA.p) := by go_simp
  go_wp2_with fail
  obtain ⟨v8, hu⟩ : ∃ u, u = (v7.alloc (.cells #[.int .i64 xA.b1, .slice t7A1 xA.z1.length t7C1, .int .i64 xA.b2, .slice t7A2 xA.z2.length t7C2, .int .i64 xA.b3, .slice t7A3 xA.z3.length t7C3, .int .i64 xA.p] 31)) := ⟨_, rfl⟩
  have s11 : Hid (v7.heap.size + 1 ≤ v8.heap.size) := Lib.hid (by rw [hu]; simp)
  rw [← hu] at cxA0 cxA1 cxA2 cxA3 cxA4 cxA5 cxA6 cxB0 cxB1 cxB2 cxB3 cxB4 cxB5 cxB6 cx00 cx01 cx02 cx03 cx04 cx05 cx06 ot7 hbel ⊢
  clear hu
  refine (toMachine_any xB xBA1 xBC1 xBA2 xBC2 xBA3 xBC3 v8 (hxB.below hbel)).mono ?_
  rintro e v9 ⟨t10A1, t10C1, t10A2, t10C2, t10A3, t10C3, rfl, ot10, hb⟩
  have s12 : Hid (v8.heap.size ≤ v9.heap.size) := Lib.hid hb.size
  replace cxA0 := kept hb cxA0
  replace cxA1 := kept hb cxA1
  replace cxA2 := kept hb cxA2
  replace cxA3 := kept hb cxA3
  replace cxA4 := kept hb cxA4
  replace cxA5 := kept hb cxA5
  replace cxA6 := kept hb cxA6
  replace cxB0 := kept hb cxB0
  replace cxB1 := kept hb cxB1
  replace cxB2 := kept hb cxB2
  replace cxB3 := kept hb cxB3
  replace cxB4 := kept hb cxB4
  replace cxB5 := kept hb cxB5
  replace cxB6 := kept hb cxB6
  replace cx00 := kept hb cx00
  replace cx01 := kept hb cx01
  replace cx02 := kept hb cx02
  replace cx03 := kept hb cx03
  replace cx04 := kept hb cx04
  replace cx05 := kept hb cx05
  replace cx06 := kept hb cx06
  replace ot7 := ot7.below hb
  replace hbel := hbel.trans (hb.mono hbel.size)
  clear hb
  have ha13 : Below v9.heap.size v9 (v9.alloc (.cells #[.int .i64 xB.b1, .slice t10A1 xB.z1.length t10C1, .int .i64 xB.b2, .slice t10A2 xB.z2.length t10C2, .int .i64 xB.b3, .slice t10A3 xB.z3.length t10C3, .int .i64 xB.p] 31)) := (Below.refl _ _).alloc (by simp <;> omega) _
  replace cxA0 := kept ha13 cxA0
  replace cxA1 := kept ha13 cxA1
  replace cxA2 := kept ha13 cxA2
  replace cxA3 := kept ha13 cxA3
  replace cxA4 := kept ha13 cxA4
  replace cxA5 := kept ha13 cxA5
  replace cxA6 := kept ha13 cxA6
  replace cxB0 := kept ha13 cxB0
  replace cxB1 := kept ha13 cxB1
  replace cxB2 := kept ha13 cxB2
  replace cxB3 := kept ha13 cxB3
  replace cxB4 := kept ha13 cxB4
  replace cxB5 := kept ha13 cxB5
  replace cxB6 := kept ha13 cxB6
  replace cx00 := kept ha13 cx00
  replace cx01 := kept ha13 cx01
  replace cx02 := kept ha13 cx02
  replace cx03 := kept ha13 cx03
  replace cx04 := kept ha13 cx04
  replace cx05 := kept ha13 cx05
  replace cx06 := kept ha13 cx06
  replace ot7 := ot7.below ha13
  replace ot10 := ot10.below ha13
  replace hbel := hbel.trans (ha13.mono hbel.size)
  clear ha13
  have cx10 : (v9.alloc (.cells #[.int .i64 xB.b1, .slice t10A1 xB.z1.length t10C1, .int .i64 xB.b2, .slice t10A2 xB.z2.length t10C2, .int .i64 xB.b3, .slice t10A3 xB.z3.length t10C3, .int .i64 xB.p] 31)).cell? ⟨v9.heap.size, 0, none⟩ = some (.int .i64 xB.b1) := by go_simp
  have cx11 : (v9.alloc (.cells #[.int .i64 xB.b1, .slice t10A1 xB.z1.length t10C1, .int .i64 xB.b2, .slice t10A2 xB.z2.length t10C2, .int .i64 xB.b3, .slice t10A3 xB.z3.length t10C3, .int .i64 xB.p] 31)).cell? ⟨v9.heap.size, 1, none⟩ = some (.slice t10A1 xB.z1.length t10C1) := by go_simp
  have cx12 : (v9.alloc (.cells #[.int .i64 xB.b1, .slice t10A1 xB.z1.length t10C1, .int .i64 xB.b2, .slice t10A2 xB.z2.length t10C2, .int .i64 xB.b3, .slice t10A3 xB.z3.length t10C3, .int .i64 xB.p] 31)).cell? ⟨v9.heap.size, 2, none⟩ = some (.int .i64 xB.b2) := by go_simp
  have cx13 : (v9.alloc (.cells #[.int .i64 xB.b1, .slice t10A1 xB.z1.length t10C1, .int .i64 xB.b2, .slice t10A2 xB.z2.length t10C2, .int .i64 xB.b3, .slice t10A3 xB.z3.length t10C3, .int .i64 xB.p] 31)).cell? ⟨v9.heap.size, 3, none⟩ = some (.slice t10A2 xB.z2.length t10C2) := by go_simp
  have cx14 : (v9.alloc (.cells #[.int .i64 xB.b1, .slice t10A1 xB.z1.length t10C1, .int .i64 xB.b2, .slice t10A2 xB.z2.length t10C2, .int .i64 xB.b3, .slice t10A3 xB.z3.length t10C3, .int .i64 xB.p] 31)).cell? ⟨v9.heap.size, 4, none⟩ = some (.int .i64 xB.b3) := by go_simp
  have cx15 : (v9.alloc (.cells #[.int .i64 xB.b1, .slice t10A1 xB.z1.length t10C1, .int .i64 xB.b2, .slice t10A2 xB.z2.length t10C2, .int .i64 xB.b3, .slice t10A3 xB.z3.length t10C3, .int .i64 xB.p] 31)).cell? ⟨v9.heap.size, 5, none⟩ = some (.slice t10A3 xB.z3.length t10C3) := by go_simp
  have cx16 : (v9.alloc (.cells #[.int .i64 xB.b1, .slice t10A1 xB.z1.length t10C1, .int .i64 xB.b2, .slice t10A2 xB.z2.length t10C2, .int .i64 xB.b3, .slice t10A3 xB.z3.length t10C3, .int .i64 xB.p] 31)).cell? ⟨v9.heap.size, 6, none⟩ = some (.int .i64 xB.p) := by go_simp
  go_wp2_with fail
  obtain ⟨v10, hu⟩ : ∃ u, u = (v9.alloc (.cells #[.int .i64 xB.b1, .slice t10A1 xB.z1.length t10C1, .int .i64 xB.b2, .slice t10A2 xB.z2.length t10C2, .int .i64 xB.b3, .slice t10A3 xB.z3.length t10C3, .int .i64 xB.p] 31)) := ⟨_, rfl⟩
  have s14 : Hid (v9.heap.size + 1 ≤ v10.heap.size) := Lib.hid (by rw [hu]; simp)
  rw [← hu] at cxA0 cxA1 cxA2 cxA3 cxA4 cxA5 cxA6 cxB0 cxB1 cxB2 cxB3 cxB4 cxB5 cxB6 cx00 cx01 cx02 cx03 cx04 cx05 cx06 cx10 cx11 cx12 cx13 cx14 cx15 cx16 ot7 ot10 hbel ⊢
  clear hu
  refine (implSameMachine xA t7A1 t7C1 t7A2 t7C2 t7A3 t7C3 xB t10A1 t10C1 t10A2 t10C2 t10A3 t10C3 v10 ot7.rd zxA bxA ot10.rd zxB bxB).mono ?_
  rintro e v11 ⟨rfl, hb⟩
  have s15 : Hid (v10.heap.size ≤ v11.heap.size) := Lib.hid hb.size
  replace cxA0 := kept hb cxA0
  replace cxA1 := kept hb cxA1
  replace cxA2 := kept hb cxA2
  replace cxA3 := kept hb cxA3
  replace cxA4 := kept hb cxA4
  replace cxA5 := kept hb cxA5
  replace cxA6 := kept hb cxA6
  replace cxB0 := kept hb cxB0
  replace cxB1 := kept hb cxB1
  replace cxB2 := kept hb cxB2
  replace cxB3 := kept hb cxB3
  replace cxB4 := kept hb cxB4
  replace cxB5 := kept hb cxB5
  replace cxB6 := kept hb cxB6
  replace cx00 := kept hb cx00
  replace cx01 := kept hb cx01
  replace cx02 := kept hb cx02
  replace cx03 := kept hb cx03
  replace cx04 := kept hb cx04
  replace cx05 := kept hb cx05
  replace cx06 := kept hb cx06
  replace cx10 := kept hb cx10
  replace cx11 := kept hb cx11
  replace cx12 := kept hb cx12
  replace cx13 := kept hb cx13
  replace cx14 := kept hb cx14
  replace cx15 := kept hb cx15
  replace cx16 := kept hb cx16
  replace ot7 := ot7.below hb
  replace ot10 := ot10.below hb
  replace hbel := hbel.trans (hb.mono hbel.size)
  clear hb
  have q16 : macEqB xA xA = true := macEqB_self _
  go_wp2_with fail
  have rcxA0 := kept_all cxA0
  have rcxA1 := kept_all cxA1
  have rcxA2 := kept_all cxA2
  have rcxA3 := kept_all cxA3
  have rcxA4 := kept_all cxA4
  have rcxA5 := kept_all cxA5
  have rcxA6 := kept_all cxA6
  have rcxB0 := kept_all cxB0
  have rcxB1 := kept_all cxB1
  have rcxB2 := kept_all cxB2
  have rcxB3 := kept_all cxB3
  have rcxB4 := kept_all cxB4
  have rcxB5 := kept_all cxB5
  have rcxB6 := kept_all cxB6
  have rcx00 := kept_all cx00
  have rcx01 := kept_all cx01
  have rcx02 := kept_all cx02
  have rcx03 := kept_all cx03
  have rcx04 := kept_all cx04
  have rcx05 := kept_all cx05
  have rcx06 := kept_all cx06
  have rcx10 := kept_all cx10
  have rcx11 := kept_all cx11
  have rcx12 := kept_all cx12
  have rcx13 := kept_all cx13
  have rcx14 := kept_all cx14
  have rcx15 := kept_all cx15
  have rcx16 := kept_all cx16
  go_region_held3 (fun w' => Below v11.heap.size v11 w') (first | exact hk | exact (Below.refl _ _).drew | exact hk.alloc hk.size _ | exact (hk.alloc hk.size _).setCell hk.size _)
    (first | (go_at_call 8; have qB := ‹Below v11.heap.size v11 _›; ((with_reducible refine (toMachine_any xA xAA1 xAC1 xAA2 xAC2 xAA3 xAC3 _ (hxA.below (hbel.trans (qB.mono hbel.size)))).mono ?_)); rintro e v13 ⟨t17A1, t17C1, t17A2, t17C2, t17A3, t17C3, rfl, ot17, hb⟩; have hk := qB.trans (hb.mono qB.size)) | (go_at_call 10; have qB := ‹Below v11.heap.size v11 _›; refine (eqMachine_any xA xA t7A1 t7C1 t7A2 t7C2 t7A3 t7C3 t17A1 t17C1 t17A2 t17C2 t17A3 t17C3 _ (ot7.below qB).rd (by first | exact ot17.rd | exact (ot17.alloc _).rd)).mono ?_; rintro e v12 ⟨rfl, hb⟩; have hk := qB.trans (hb.mono qB.size)))
  have hb : Below v11.heap.size v11 v12 := by assumption
  clear rcxA0 rcxA1 rcxA2 rcxA3 rcxA4 rcxA5 rcxA6 rcxB0 rcxB1 rcxB2 rcxB3 rcxB4 rcxB5 rcxB6 rcx00 rcx01 rcx02 rcx03 rcx04 rcx05 rcx06 rcx10 rcx11 rcx12 rcx13 rcx14 rcx15 rcx16
  clear ot17
  have s18 : Hid (v11.heap.size ≤ v12.heap.size) := Lib.hid hb.size
  replace cxA0 := kept hb cxA0
  replace cxA1 := kept hb cxA1
  replace cxA2 := kept hb cxA2
  replace cxA3 := kept hb cxA3
  replace cxA4 := kept hb cxA4
  replace cxA5 := kept hb cxA5
  replace cxA6 := kept hb cxA6
  replace cxB0 := kept hb cxB0
  replace cxB1 := kept hb cxB1
  replace cxB2 := kept hb cxB2
  replace cxB3 := kept hb cxB3
  replace cxB4 := kept hb cxB4
  replace cxB5 := kept hb cxB5
  replace cxB6 := kept hb cxB6
  replace cx00 := kept hb cx00
  replace cx01 := kept hb cx01
  replace cx02 := kept hb cx02
  replace cx03 := kept hb cx03
  replace cx04 := kept hb cx04
  replace cx05 := kept hb cx05
  replace cx06 := kept hb cx06
  replace cx10 := kept hb cx10
  replace cx11 := kept hb cx11
  replace cx12 := kept hb cx12
  replace cx13 := kept hb cx13
  replace cx14 := kept hb cx14
  replace cx15 := kept hb cx15
  replace cx16 := kept hb cx16
  replace ot7 := ot7.below hb
  replace ot10 := ot10.below hb
  replace hbel := hbel.trans (hb.mono hbel.size)
  clear hb
  have q19 : macEqB xB xB = true := macEqB_self _
  go_wp2_with fail
  have rcxA0 := kept_all cxA0
  have rcxA1 := kept_all cxA1
  have rcxA2 := kept_all cxA2
  have rcxA3 := kept_all cxA3
  have rcxA4 := kept_all cxA4
  have rcxA5 := kept_all cxA5
  have rcxA6 := kept_all cxA6
  have rcxB0 := kept_all cxB0
  have rcxB1 := kept_all cxB1
  have rcxB2 := kept_all cxB2
  have rcxB3 := kept_all cxB3
  have rcxB4 := kept_all cxB4
  have rcxB5 := kept_all cxB5
  have rcxB6 := kept_all cxB6
  have rcx00 := kept_all cx00
  have rcx01 := kept_all cx01
  have rcx02 := kept_all cx02
  have rcx03 := kept_all cx03
  have rcx04 := kept_all cx04
  have rcx05 := kept_all cx05
  have rcx06 := kept_all cx06
  have rcx10 := kept_all cx10
  have rcx11 := kept_all cx11
  have rcx12 := kept_all cx12
  have rcx13 := kept_all cx13
  have rcx14 := kept_all cx14
  have rcx15 := kept_all cx15
  have rcx16 := kept_all cx16
  go_region_held3 (fun w' => Below v12.heap.size v12 w') (first | exact hk | exact (Below.refl _ _).drew | exact hk.alloc hk.size _ | exact (hk.alloc hk.size _).setCell hk.size _)
    (first | (go_at_call 8; have qB := ‹Below v12.heap.size v12 _›; ((with_reducible refine (toMachine_any xB xBA1 xBC1 xBA2 xBC2 xBA3 xBC3 _ (hxB.below (hbel.trans (qB.mono hbel.size)))).mono ?_)); rintro e v15 ⟨t20A1, t20C1, t20A2, t20C2, t20A3, t20C3, rfl, ot20, hb⟩; have hk := qB.trans (hb.mono qB.size)) | (go_at_call 10; have qB := ‹Below v12.heap.size v12 _›; refine (eqMachine_any xB xB t10A1 t10C1 t10A2 t10C2 t10A3 t10C3 t20A1 t20C1 t20A2 t20C2 t20A3 t20C3 _ (ot10.below qB).rd (by first | exact ot20.rd | exact (ot20.alloc _).rd)).mono ?_; rintro e v14 ⟨rfl, hb⟩; have hk := qB.trans (hb.mono qB.size)))
  have hb : Below v12.heap.size v12 v14 := by assumption
  clear rcxA0 rcxA1 rcxA2 rcxA3 rcxA4 rcxA5 rcxA6 rcxB0 rcxB1 rcxB2 rcxB3 rcxB4 rcxB5 rcxB6 rcx00 rcx01 rcx02 rcx03 rcx04 rcx05 rcx06 rcx10 rcx11 rcx12 rcx13 rcx14 rcx15 rcx16
  clear ot20
  have s21 : Hid (v12.heap.size ≤ v14.heap.size) := Lib.hid hb.size
  replace cxA0 := kept hb cxA0
  replace cxA1 := kept hb cxA1
  replace cxA2 := kept hb cxA2
  replace cxA3 := kept hb cxA3
  replace cxA4 := kept hb cxA4
  replace cxA5 := kept hb cxA5
  replace cxA6 := kept hb cxA6
  replace cxB0 := kept hb cxB0
  replace cxB1 := kept hb cxB1
  replace cxB2 := kept hb cxB2
  replace cxB3 := kept hb cxB3
  replace cxB4 := kept hb cxB4
  replace cxB5 := kept hb cxB5
  replace cxB6 := kept hb cxB6
  replace cx00 := kept hb cx00
  replace cx01 := kept hb cx01
  replace cx02 := kept hb cx02
  replace cx03 := kept hb cx03
  replace cx04 := kept hb cx04
  replace cx05 := kept hb cx05
  replace cx06 := kept hb cx06
  replace cx10 := kept hb cx10
  replace cx11 := kept hb cx11
  replace cx12 := kept hb cx12
  replace cx13 := kept hb cx13
  replace cx14 := kept hb cx14
  replace cx15 := kept hb cx15
  replace cx16 := kept hb cx16
  replace ot7 := ot7.below hb
  replace ot10 := ot10.below hb
  replace hbel := hbel.trans (hb.mono hbel.size)
  clear hb
  go_wp2
  go_ret
  exact ⟨rfl, hbel⟩

set_option maxRecDepth 100000 in
theorem lifted (os : Os) (started : os.Started) (H : Type) (enc : TypeId × Value → H) :
    ReturnsInHanded {} Try.checked os 3 .any (Rows.fnExactSameMachineSpec.pre6 enc Try.prog Try.f3 Rows.fnExactSameMachineRow.domain false) (Rows.fnExactSameMachineSpec.post enc Try.prog Try.f3 false true false false) := by
  refine returnsInHanded_of_change (C := Try.checked) own_knob started (by kernel_rfl) Try.func3
    (ChangeSpec.witness6 (enc := enc) (C := Try.checked) false ⟨#[], #[.agg #[.int .i64 0, .slice none 0 0, .int .i64 0, .slice none 0 0, .int .i64 0, .slice none 0 0, .int .i64 0], .agg #[.int .i64 0, .slice none 0 0, .int .i64 0, .slice none 0 0, .int .i64 0, .slice none 0 0, .int .i64 0]], []⟩ 8 (by kernel_rfl) (by kernel_rfl) (by kernel_rfl) (by kernel_rfl)) ?_
  intro W base args ds gs before hval0 hW hcnd _
  have hval : ∀ (j : Nat) t v, Try.f3.params[j]? = some t → args[j]? = some v → Value.okWide Try.prog W .any base t v := hval0
  have hW' := hW
  obtain ⟨p, q, hA0, hV, rfl, hfz, hnd⟩ := hW
  have hA : DataW.TrodAll enc Try.prog W 0 (fun _ => true) true Try.f3.params.toList args.toList ds p := hA0
  rw [Try.params3] at hA hval
  obtain ⟨v0, vs0, d0, ds0, p0, q0, hargs, rfl, rfl, h0, r0⟩ := trodAll_cons hA
  obtain ⟨v1, vs1, d1, ds1, p1, q1, rfl, rfl, rfl, h1, r1⟩ := trodAll_cons r0
  obtain ⟨rfl, rfl, rfl⟩ := trodAll_nil r1
  obtain rfl : args = #[v0, v1] := by cases args; simp_all
  obtain ⟨rfl, rfl⟩ := trodVars_none hV
  have k0 := h0
  have lt0 : ∀ x ∈ p0, x.block < W.heap.size := by obtain ⟨m, hm⟩ := k0; exact DataW.trod_lt m _ _ _ hm
  obtain ⟨xA, xAA1, xAC1, xAA2, xAC2, xAA3, xAC3, rfl, hxA, bxA⟩ := open_Machine (hval 0 26 v0 rfl rfl) h0
  have k1 := h1
  have lt1 : ∀ x ∈ p1, x.block < W.heap.size := by obtain ⟨m, hm⟩ := k1; exact DataW.trod_lt m _ _ _ hm
  obtain ⟨xB, xBA1, xBC1, xBA2, xBC2, xBA3, xBC3, rfl, hxB, bxB⟩ := open_Machine (hval 1 26 v1 rfl rfl) h1
  clear hA0 hval0
  refine (law_walk xA xAA1 xAC1 xAA2 xAC2 xAA3 xAC3 xB xBA1 xBC1 xBA2 xBC2 xBA3 xBC3 W hxA bxA hxB bxB).mono fun e W' ⟨he, bel⟩ => ?_
  subst he
  exact ⟨_, rfl, _, _, _, [], _, [], hW', trodAll_mk1 (shut_bool Try.underlying4 _), (trodAll_cons_mk (Below.trod laid_out (by kernel_rfl) (of_decide_eq_true (by kernel_rfl)) k0 bel lt0) (trodAll_cons_mk (Below.trod laid_out (by kernel_rfl) (of_decide_eq_true (by kernel_rfl)) k1 bel lt1) trodAll_mk0)), rfl, bel.frame _, fun h => by cases h⟩

set_option maxHeartbeats 20000000 in
theorem closed : joinedFacts Try.prog 3 Try.f3 Rows.fnExactSameMachineSpec Rows.fnExactSameMachineRow = true := by
  simp only [joinedFacts, Bool.and_eq_true]
  refine ⟨⟨⟨⟨⟨⟨⟨⟨⟨⟨⟨⟨⟨⟨⟨⟨⟨⟨⟨⟨⟨⟨⟨⟨⟨⟨⟨⟨⟨⟨⟨?_, laid_out⟩, fact_maps⟩, ?_⟩, ?_⟩, ?_⟩, fact_stops⟩, ?_⟩, fact_knobs⟩, ?_⟩, ?_⟩, ?_⟩, ?_⟩, ?_⟩, ?_⟩, ?_⟩, ?_⟩, ?_⟩, ?_⟩, ?_⟩, ?_⟩, ?_⟩, fact_plain⟩, ?_⟩, fact_heard⟩, fact_enter⟩, fact_lift⟩, ?_⟩, ?_⟩, ?_⟩, ?_⟩, ?_⟩
  all_goals (as_aux_lemma => kernel_rfl)

theorem over : Rows.fnExactSameMachineRow.holds Try.pinned (OpenSpec.ofChange Rows.fnExactSameMachineSpec) :=
  OpenClaim.holds_of_wide 3 Try.f3 rfl rfl rfl rfl rfl rfl rfl ⟨rfl, rfl, rfl, rfl, rfl⟩ rfl rfl rfl rfl rfl (by as_aux_lemma => kernel_rfl) Try.func3 closed
    (of_decide_eq_true (by as_aux_lemma => kernel_rfl)) (by unfold Func.isWrapper; rw [if_neg (by decide +kernel)]; exact ⟨rfl, rfl⟩)
    (fun os started H enc _ => lifted os started H enc)

/-- The statement. -/
theorem proved : Rows.FnExactSameMachineSaid := over
end Go.Proofs.Ytmjeiagkdcfeiaa.lawSameMachine
