/-
  laws.FnExactDoStrokes returns true at every input (no condition, but the texts of the library's tables, which the card ties), and leaves its arguments as they were.
-/
import Derived.Test.YtlahobdopmdfmaaDoorMacLow
import Derived.Test.YtlahobdopmdfmaaDoorMacHi
import Derived.Test.YtlahobdopmdfmaaDoorDoorFrame
import Derived.Deep.RegionHeld3
import Derived.Lay
import Derived.Test.YtlahobdopmdfmaaDoorFacts
import Derived.Test.YtlahobdopmdfmaaDoorRows
namespace Go.Proofs.YtlahobdopmdfmaaDoor.lawDoStrokes
open Go.ChangeShapes Go.WideShapes Go.ChangeAt Go.WideElems Go.RowKit Go.Joins
open Go.ChangeMaps (open_string shut_string)

theorem rowErr (u : TypeId) (h : Tryd.prog.typeName? 3 u = some "*errors.errorString") : u = 220 :=
  typeName_ptr_named (nm := "errors.errorString") (by rw [show "*" ++ "errors.errorString" = "*errors.errorString" by decide]; kernel_rfl) (by kernel_rfl) (by decide) u (by rw [show "*" ++ "errors.errorString" = "*errors.errorString" by decide]; exact h)
theorem gVar : Tryd.prog.globalNamed "loop.example/g00930/impl.errBell" = some 0 := by kernel_rfl
theorem tVar : (Tryd.prog.globals[0]?).map (·.type) = some 117 := by kernel_rfl
def Door (w : World) : Prop := BellD w
theorem door_below {w w' : World} (h : Door w) (hb : Below w.heap.size w w') : Door w' := h.below hb
theorem of_laid {W : World} (h : laidMetH Tryd.prog Rows.fnExactDoStrokesRow.laid W) : Door W := by
  rw [MakeChecks.laidMetH_plain _ _ _ (by kernel_rfl)] at h
  obtain ⟨a, t, hv, _⟩ := laid_sentinel h (g := 0) (ti := 117) (tp := 220) (te := 243) (ts := 9) (by kernel_rfl) (by kernel_rfl) Tryd.underlying117 rowErr Tryd.underlying220 Tryd.underlying243 rfl rfl Tryd.underlying9 (by kernel_rfl) (by kernel_rfl)
  exact ⟨_, by simpa [BellAt, bellV] using World.var?_cell (g := 0) (by kernel_rfl) hv 0⟩

set_option maxRecDepth 100000 in
set_option maxHeartbeats 4000000 in
theorem law_walk (xM : Mac) (xMA1 : Option Addr) (xMC1 : Nat) (xMA2 : Option Addr) (xMC2 : Nat) (xMA3 : Option Addr) (xMC3 : Nat) (xListA : Option Addr) (xListC : Nat) (xListZ : List Int) (w : World) (hxM : Raw3 w xMA1 xM.z1 xMA2 xM.z2 xMA3 xM.z3) (bxM : I64 xM.b1 ∧ I64 xM.b2 ∧ I64 xM.b3 ∧ I64 xM.p) (hxList : Raw w xListA xListZ) (hD : Door w) :
    Calls Tryd.prog 11 #[.agg #[.int .i64 xM.b1, .slice xMA1 xM.z1.length xMC1, .int .i64 xM.b2, .slice xMA2 xM.z2.length xMC2, .int .i64 xM.b3, .slice xMA3 xM.z3.length xMC3, .int .i64 xM.p], .slice xListA xListZ.length xListC] w fun e w' => e = .returned (.bool true) ∧ Below w.heap.size w w' := by
  rcases Nat.lt_or_ge 1048576 xListZ.length with kxList | fxList
  · have lxList := hxList.len
    go_enter Tryd.func11, Tryd.ntmps11
    go_wp2
    go_ret
    exact ⟨rfl, (Below.refl _ _).alloc (by simp <;> omega) _⟩
  have zxList := hxList.wf
  replace hxList := hxList.rd (by omega)
  have hbel : Below w.heap.size w (w.alloc (.cells #[.int .i64 xM.b1, .slice xMA1 xM.z1.length xMC1, .int .i64 xM.b2, .slice xMA2 xM.z2.length xMC2, .int .i64 xM.b3, .slice xMA3 xM.z3.length xMC3, .int .i64 xM.p] 72)) := (Below.refl _ _).alloc (by simp <;> omega) _
  have cxM0 : (w.alloc (.cells #[.int .i64 xM.b1, .slice xMA1 xM.z1.length xMC1, .int .i64 xM.b2, .slice xMA2 xM.z2.length xMC2, .int .i64 xM.b3, .slice xMA3 xM.z3.length xMC3, .int .i64 xM.p] 72)).cell? ⟨w.heap.size, 0, none⟩ = some (.int .i64 xM.b1) := by go_simp
  have cxM1 : (w.alloc (.cells #[.int .i64 xM.b1, .slice xMA1 xM.z1.length xMC1, .int .i64 xM.b2, .slice xMA2 xM.z2.length xMC2, .int .i64 xM.b3, .slice xMA3 xM.z3.length xMC3, .int .i64 xM.p] 72)).cell? ⟨w.heap.size, 1, none⟩ = some (.slice xMA1 xM.z1.length xMC1) := by go_simp
  have cxM2 : (w.alloc (.cells #[.int .i64 xM.b1, .slice xMA1 xM.z1.length xMC1, .int .i64 xM.b2, .slice xMA2 xM.z2.length xMC2, .int .i64 xM.b3, .slice xMA3 xM.z3.length xMC3, .int .i64 xM.p] 72)).cell? ⟨w.heap.size, 2, none⟩ = some (.int .i64 xM.b2) := by go_simp
  have cxM3 : (w.alloc (.cells #[.int .i64 xM.b1, .slice xMA1 xM.z1.length xMC1, .int .i64 xM.b2, .slice xMA2 xM.z2.length xMC2, .int .i64 xM.b3, .slice xMA3 xM.z3.length xMC3, .int .i64 xM.p] 72)).cell? ⟨w.heap.size, 3, none⟩ = some (.slice xMA2 xM.z2.length xMC2) := by go_simp
  have cxM4 : (w.alloc (.cells #[.int .i64 xM.b1, .slice xMA1 xM.z1.length xMC1, .int .i64 xM.b2, .slice xMA2 xM.z2.length xMC2, .int .i64 xM.b3, .slice xMA3 xM.z3.length xMC3, .int .i64 xM.p] 72)).cell? ⟨w.heap.size, 4, none⟩ = some (.int .i64 xM.b3) := by go_simp
  have cxM5 : (w.alloc (.cells #[.int .i64 xM.b1, .slice xMA1 xM.z1.length xMC1, .int .i64 xM.b2, .slice xMA2 xM.z2.length xMC2, .int .i64 xM.b3, .slice xMA3 xM.z3.length xMC3, .int .i64 xM.p] 72)).cell? ⟨w.heap.size, 5, none⟩ = some (.slice xMA3 xM.z3.length xMC3) := by go_simp
  have cxM6 : (w.alloc (.cells #[.int .i64 xM.b1, .slice xMA1 xM.z1.length xMC1, .int .i64 xM.b2, .slice xMA2 xM.z2.length xMC2, .int .i64 xM.b3, .slice xMA3 xM.z3.length xMC3, .int .i64 xM.p] 72)).cell? ⟨w.heap.size, 6, none⟩ = some (.int .i64 xM.p) := by go_simp
  go_enter Tryd.func11, Tryd.ntmps11
  go_wp2_with fail
  obtain ⟨v1, hu⟩ : ∃ u, u = (w.alloc (.cells #[.int .i64 xM.b1, .slice xMA1 xM.z1.length xMC1, .int .i64 xM.b2, .slice xMA2 xM.z2.length xMC2, .int .i64 xM.b3, .slice xMA3 xM.z3.length xMC3, .int .i64 xM.p] 72)) := ⟨_, rfl⟩
  have s1 : Hid (w.heap.size + 1 ≤ v1.heap.size) := Lib.hid (by rw [hu]; simp)
  rw [← hu] at cxM0 cxM1 cxM2 cxM3 cxM4 cxM5 cxM6 hbel ⊢
  clear hu
  rcases Int.lt_or_le (leftOf (xM.z1.length + xM.z2.length + xM.z3.length) 1048576) 0 with k1 | k1
  · refine (szMachine_any xM.b1 xMA1 xM.z1.length xMC1 xM.b2 xMA2 xM.z2.length xMC2 xM.b3 xMA3 xM.z3.length xMC3 xM.p 1048576 v1 hxM.len (by omega) (by omega)).mono ?_
    rintro e v2 ⟨rfl, hb⟩
    go_wp2
    go_ret
    exact ⟨rfl, hbel.trans (hb.mono hbel.size)⟩
  have m1 := leftOf_le (xM.z1.length + xM.z2.length + xM.z3.length) 1048576 (by omega)
  refine (szMachine_any xM.b1 xMA1 xM.z1.length xMC1 xM.b2 xMA2 xM.z2.length xMC2 xM.b3 xMA3 xM.z3.length xMC3 xM.p 1048576 v1 hxM.len (by omega) (by omega)).mono ?_
  rintro e v2 ⟨rfl, hb⟩
  have s2 : Hid (v1.heap.size ≤ v2.heap.size) := Lib.hid hb.size
  replace cxM0 := kept hb cxM0
  replace cxM1 := kept hb cxM1
  replace cxM2 := kept hb cxM2
  replace cxM3 := kept hb cxM3
  replace cxM4 := kept hb cxM4
  replace cxM5 := kept hb cxM5
  replace cxM6 := kept hb cxM6
  replace hbel := hbel.trans (hb.mono hbel.size)
  clear hb
  have zxM := hxM.wf
  replace hxM := hxM.rd (by have := leftOf_len k1; omega)
  go_wp2_with fail
  refine (toMachine_any xM xMA1 xMC1 xMA2 xMC2 xMA3 xMC3 v2 (hxM.below hbel)).mono ?_
  rintro e v3 ⟨t3A1, t3C1, t3A2, t3C2, t3A3, t3C3, rfl, ot3, hb⟩
  have s4 : Hid (v2.heap.size ≤ v3.heap.size) := Lib.hid hb.size
  replace cxM0 := kept hb cxM0
  replace cxM1 := kept hb cxM1
  replace cxM2 := kept hb cxM2
  replace cxM3 := kept hb cxM3
  replace cxM4 := kept hb cxM4
  replace cxM5 := kept hb cxM5
  replace cxM6 := kept hb cxM6
  replace hbel := hbel.trans (hb.mono hbel.size)
  clear hb
  go_wp2_with fail
  refine (toInt64S_any xListA xListC xListZ v3 (hxList.below hbel)).mono ?_
  rintro e v4 ⟨t5A, t5C, rfl, ot5, hb⟩
  have s6 : Hid (v3.heap.size ≤ v4.heap.size) := Lib.hid hb.size
  replace cxM0 := kept hb cxM0
  replace cxM1 := kept hb cxM1
  replace cxM2 := kept hb cxM2
  replace cxM3 := kept hb cxM3
  replace cxM4 := kept hb cxM4
  replace cxM5 := kept hb cxM5
  replace cxM6 := kept hb cxM6
  replace ot3 := ot3.below hb
  replace hbel := hbel.trans (hb.mono hbel.size)
  clear hb
  go_wp2_with fail
  refine (specDoStrokes xM t3A1 t3C1 t3A2 t3C2 t3A3 t3C3 t5A t5C xListZ v4 ot3.rd zxM bxM ot5.rd zxList).mono ?_
  rintro e v5 ⟨w0A1, w0C1, w0A2, w0C2, w0A3, w0C3, rfl, ow0, hb⟩
  have s7 : Hid (v4.heap.size ≤ v5.heap.size) := Lib.hid hb.size
  replace cxM0 := kept hb cxM0
  replace cxM1 := kept hb cxM1
  replace cxM2 := kept hb cxM2
  replace cxM3 := kept hb cxM3
  replace cxM4 := kept hb cxM4
  replace cxM5 := kept hb cxM5
  replace cxM6 := kept hb cxM6
  replace ot3 := ot3.below hb
  replace ot5 := ot5.below hb
  replace hbel := hbel.trans (hb.mono hbel.size)
  clear hb
  clear ot3
  clear ot5
  have ha8 : Below v5.heap.size v5 (v5.alloc (.cells #[.int .i64 (dssR xM xListZ).1.b1, .slice w0A1 (dssR xM xListZ).1.z1.length w0C1, .int .i64 (dssR xM xListZ).1.b2, .slice w0A2 (dssR xM xListZ).1.z2.length w0C2, .int .i64 (dssR xM xListZ).1.b3, .slice w0A3 (dssR xM xListZ).1.z3.length w0C3, .int .i64 (dssR xM xListZ).1.p] 28)) := (Below.refl _ _).alloc (by simp <;> omega) _
  replace cxM0 := kept ha8 cxM0
  replace cxM1 := kept ha8 cxM1
  replace cxM2 := kept ha8 cxM2
  replace cxM3 := kept ha8 cxM3
  replace cxM4 := kept ha8 cxM4
  replace cxM5 := kept ha8 cxM5
  replace cxM6 := kept ha8 cxM6
  replace ow0 := ow0.below ha8
  replace hbel := hbel.trans (ha8.mono hbel.size)
  clear ha8
  have cw00 : (v5.alloc (.cells #[.int .i64 (dssR xM xListZ).1.b1, .slice w0A1 (dssR xM xListZ).1.z1.length w0C1, .int .i64 (dssR xM xListZ).1.b2, .slice w0A2 (dssR xM xListZ).1.z2.length w0C2, .int .i64 (dssR xM xListZ).1.b3, .slice w0A3 (dssR xM xListZ).1.z3.length w0C3, .int .i64 (dssR xM xListZ).1.p] 28)).cell? ⟨v5.heap.size, 0, none⟩ = some (.int .i64 (dssR xM xListZ).1.b1) := by go_simp
  have cw01 : (v5.alloc (.cells #[.int .i64 (dssR xM xListZ).1.b1, .slice w0A1 (dssR xM xListZ).1.z1.length w0C1, .int .i64 (dssR xM xListZ).1.b2, .slice w0A2 (dssR xM xListZ).1.z2.length w0C2, .int .i64 (dssR xM xListZ).1.b3, .slice w0A3 (dssR xM xListZ).1.z3.length w0C3, .int .i64 (dssR xM xListZ).1.p] 28)).cell? ⟨v5.heap.size, 1, none⟩ = some (.slice w0A1 (dssR xM xListZ).1.z1.length w0C1) := by go_simp
  have cw02 : (v5.alloc (.cells #[.int .i64 (dssR xM xListZ).1.b1, .slice w0A1 (dssR xM xListZ).1.z1.length w0C1, .int .i64 (dssR xM xListZ).1.b2, .slice w0A2 (dssR xM xListZ).1.z2.length w0C2, .int .i64 (dssR xM xListZ).1.b3, .slice w0A3 (dssR xM xListZ).1.z3.length w0C3, .int .i64 (dssR xM xListZ).1.p] 28)).cell? ⟨v5.heap.size, 2, none⟩ = some (.int .i64 (dssR xM xListZ).1.b2) := by go_simp
  have cw03 : (v5.alloc (.cells #[.int .i64 (dssR xM xListZ).1.b1, .slice w0A1 (dssR xM xListZ).1.z1.length w0C1, .int .i64 (dssR xM xListZ).1.b2, .slice w0A2 (dssR xM xListZ).1.z2.length w0C2, .int .i64 (dssR xM xListZ).1.b3, .slice w0A3 (dssR xM xListZ).1.z3.length w0C3, .int .i64 (dssR xM xListZ).1.p] 28)).cell? ⟨v5.heap.size, 3, none⟩ = some (.slice w0A2 (dssR xM xListZ).1.z2.length w0C2) := by go_simp
  have cw04 : (v5.alloc (.cells #[.int .i64 (dssR xM xListZ).1.b1, .slice w0A1 (dssR xM xListZ).1.z1.length w0C1, .int .i64 (dssR xM xListZ).1.b2, .slice w0A2 (dssR xM xListZ).1.z2.length w0C2, .int .i64 (dssR xM xListZ).1.b3, .slice w0A3 (dssR xM xListZ).1.z3.length w0C3, .int .i64 (dssR xM xListZ).1.p] 28)).cell? ⟨v5.heap.size, 4, none⟩ = some (.int .i64 (dssR xM xListZ).1.b3) := by go_simp
  have cw05 : (v5.alloc (.cells #[.int .i64 (dssR xM xListZ).1.b1, .slice w0A1 (dssR xM xListZ).1.z1.length w0C1, .int .i64 (dssR xM xListZ).1.b2, .slice w0A2 (dssR xM xListZ).1.z2.length w0C2, .int .i64 (dssR xM xListZ).1.b3, .slice w0A3 (dssR xM xListZ).1.z3.length w0C3, .int .i64 (dssR xM xListZ).1.p] 28)).cell? ⟨v5.heap.size, 5, none⟩ = some (.slice w0A3 (dssR xM xListZ).1.z3.length w0C3) := by go_simp
  have cw06 : (v5.alloc (.cells #[.int .i64 (dssR xM xListZ).1.b1, .slice w0A1 (dssR xM xListZ).1.z1.length w0C1, .int .i64 (dssR xM xListZ).1.b2, .slice w0A2 (dssR xM xListZ).1.z2.length w0C2, .int .i64 (dssR xM xListZ).1.b3, .slice w0A3 (dssR xM xListZ).1.z3.length w0C3, .int .i64 (dssR xM xListZ).1.p] 28)).cell? ⟨v5.heap.size, 6, none⟩ = some (.int .i64 (dssR xM xListZ).1.p) := by go_simp
  go_wp2_with fail
  obtain ⟨v6, hu⟩ : ∃ u, u = (v5.alloc (.cells #[.int .i64 (dssR xM xListZ).1.b1, .slice w0A1 (dssR xM xListZ).1.z1.length w0C1, .int .i64 (dssR xM xListZ).1.b2, .slice w0A2 (dssR xM xListZ).1.z2.length w0C2, .int .i64 (dssR xM xListZ).1.b3, .slice w0A3 (dssR xM xListZ).1.z3.length w0C3, .int .i64 (dssR xM xListZ).1.p] 28)) := ⟨_, rfl⟩
  have s10 : Hid (v5.heap.size + 1 ≤ v6.heap.size) := Lib.hid (by rw [hu]; simp)
  rw [← hu] at cxM0 cxM1 cxM2 cxM3 cxM4 cxM5 cxM6 cw00 cw01 cw02 cw03 cw04 cw05 cw06 ow0 hbel ⊢
  clear hu
  refine (toMachine_any xM xMA1 xMC1 xMA2 xMC2 xMA3 xMC3 v6 (hxM.below hbel)).mono ?_
  rintro e v7 ⟨t9A1, t9C1, t9A2, t9C2, t9A3, t9C3, rfl, ot9, hb⟩
  have s11 : Hid (v6.heap.size ≤ v7.heap.size) := Lib.hid hb.size
  replace cxM0 := kept hb cxM0
  replace cxM1 := kept hb cxM1
  replace cxM2 := kept hb cxM2
  replace cxM3 := kept hb cxM3
  replace cxM4 := kept hb cxM4
  replace cxM5 := kept hb cxM5
  replace cxM6 := kept hb cxM6
  replace cw00 := kept hb cw00
  replace cw01 := kept hb cw01
  replace cw02 := kept hb cw02
  replace cw03 := kept hb cw03
  replace cw04 := kept hb cw04
  replace cw05 := kept hb cw05
  replace cw06 := kept hb cw06
  replace ow0 := ow0.below hb
  replace hbel := hbel.trans (hb.mono hbel.size)
  clear hb
  have ha12 : Below v7.heap.size v7 (v7.alloc (.cells #[.int .i64 xM.b1, .slice t9A1 xM.z1.length t9C1, .int .i64 xM.b2, .slice t9A2 xM.z2.length t9C2, .int .i64 xM.b3, .slice t9A3 xM.z3.length t9C3, .int .i64 xM.p] 28)) := (Below.refl _ _).alloc (by simp <;> omega) _
  replace cxM0 := kept ha12 cxM0
  replace cxM1 := kept ha12 cxM1
  replace cxM2 := kept ha12 cxM2
  replace cxM3 := kept ha12 cxM3
  replace cxM4 := kept ha12 cxM4
  replace cxM5 := kept ha12 cxM5
  replace cxM6 := kept ha12 cxM6
  replace cw00 := kept ha12 cw00
  replace cw01 := kept ha12 cw01
  replace cw02 := kept ha12 cw02
  replace cw03 := kept ha12 cw03
  replace cw04 := kept ha12 cw04
  replace cw05 := kept ha12 cw05
  replace cw06 := kept ha12 cw06
  replace ow0 := ow0.below ha12
  replace ot9 := ot9.below ha12
  replace hbel := hbel.trans (ha12.mono hbel.size)
  clear ha12
  have cx00 : (v7.alloc (.cells #[.int .i64 xM.b1, .slice t9A1 xM.z1.length t9C1, .int .i64 xM.b2, .slice t9A2 xM.z2.length t9C2, .int .i64 xM.b3, .slice t9A3 xM.z3.length t9C3, .int .i64 xM.p] 28)).cell? ⟨v7.heap.size, 0, none⟩ = some (.int .i64 xM.b1) := by go_simp
  have cx01 : (v7.alloc (.cells #[.int .i64 xM.b1, .slice t9A1 xM.z1.length t9C1, .int .i64 xM.b2, .slice t9A2 xM.z2.length t9C2, .int .i64 xM.b3, .slice t9A3 xM.z3.length t9C3, .int .i64 xM.p] 28)).cell? ⟨v7.heap.size, 1, none⟩ = some (.slice t9A1 xM.z1.length t9C1) := by go_simp
  have cx02 : (v7.alloc (.cells #[.int .i64 xM.b1, .slice t9A1 xM.z1.length t9C1, .int .i64 xM.b2, .slice t9A2 xM.z2.length t9C2, .int .i64 xM.b3, .slice t9A3 xM.z3.length t9C3, .int .i64 xM.p] 28)).cell? ⟨v7.heap.size, 2, none⟩ = some (.int .i64 xM.b2) := by go_simp
  have cx03 : (v7.alloc (.cells #[.int .i64 xM.b1, .slice t9A1 xM.z1.length t9C1, .int .i64 xM.b2, .slice t9A2 xM.z2.length t9C2, .int .i64 xM.b3, .slice t9A3 xM.z3.length t9C3, .int .i64 xM.p] 28)).cell? ⟨v7.heap.size, 3, none⟩ = some (.slice t9A2 xM.z2.length t9C2) := by go_simp
  have cx04 : (v7.alloc (.cells #[.int .i64 xM.b1, .slice t9A1 xM.z1.length t9C1, .int .i64 xM.b2, .slice t9A2 xM.z2.length t9C2, .int .i64 xM.b3, .slice t9A3 xM.z3.length t9C3, .int .i64 xM.p] 28)).cell? ⟨v7.heap.size, 4, none⟩ = some (.int .i64 xM.b3) := by go_simp
  have cx05 : (v7.alloc (.cells #[.int .i64 xM.b1, .slice t9A1 xM.z1.length t9C1, .int .i64 xM.b2, .slice t9A2 xM.z2.length t9C2, .int .i64 xM.b3, .slice t9A3 xM.z3.length t9C3, .int .i64 xM.p] 28)).cell? ⟨v7.heap.size, 5, none⟩ = some (.slice t9A3 xM.z3.length t9C3) := by go_simp
  have cx06 : (v7.alloc (.cells #[.int .i64 xM.b1, .slice t9A1 xM.z1.length t9C1, .int .i64 xM.b2, .slice t9A2 xM.z2.length t9C2, .int .i64 xM.b3, .slice t9A3 xM.z3.length t9C3, .int .i64 xM.p] 28)).cell? ⟨v7.heap.size, 6, none⟩ = some (.int .i64 xM.p) := by go_simp
  go_wp2_with fail
  obtain ⟨v8, hu⟩ : ∃ u, u = (v7.alloc (.cells #[.int .i64 xM.b1, .slice t9A1 xM.z1.length t9C1, .int .i64 xM.b2, .slice t9A2 xM.z2.length t9C2, .int .i64 xM.b3, .slice t9A3 xM.z3.length t9C3, .int .i64 xM.p] 28)) := ⟨_, rfl⟩
  have s14 : Hid (v7.heap.size + 1 ≤ v8.heap.size) := Lib.hid (by rw [hu]; simp)
  rw [← hu] at cxM0 cxM1 cxM2 cxM3 cxM4 cxM5 cxM6 cw00 cw01 cw02 cw03 cw04 cw05 cw06 cx00 cx01 cx02 cx03 cx04 cx05 cx06 ow0 ot9 hbel ⊢
  clear hu
  refine (toInt64S_any xListA xListC xListZ v8 (hxList.below hbel)).mono ?_
  rintro e v9 ⟨t13A, t13C, rfl, ot13, hb⟩
  have s15 : Hid (v8.heap.size ≤ v9.heap.size) := Lib.hid hb.size
  replace cxM0 := kept hb cxM0
  replace cxM1 := kept hb cxM1
  replace cxM2 := kept hb cxM2
  replace cxM3 := kept hb cxM3
  replace cxM4 := kept hb cxM4
  replace cxM5 := kept hb cxM5
  replace cxM6 := kept hb cxM6
  replace cw00 := kept hb cw00
  replace cw01 := kept hb cw01
  replace cw02 := kept hb cw02
  replace cw03 := kept hb cw03
  replace cw04 := kept hb cw04
  replace cw05 := kept hb cw05
  replace cw06 := kept hb cw06
  replace cx00 := kept hb cx00
  replace cx01 := kept hb cx01
  replace cx02 := kept hb cx02
  replace cx03 := kept hb cx03
  replace cx04 := kept hb cx04
  replace cx05 := kept hb cx05
  replace cx06 := kept hb cx06
  replace ow0 := ow0.below hb
  replace ot9 := ot9.below hb
  replace hbel := hbel.trans (hb.mono hbel.size)
  clear hb
  go_wp2_with fail
  refine (implDoStrokes xM t9A1 t9C1 t9A2 t9C2 t9A3 t9C3 t13A t13C xListZ v9 ot9.rd zxM bxM ot13.rd zxList (door_below hD hbel)).mono ?_
  rintro e v10 ⟨g0A1, g0C1, g0A2, g0C2, g0A3, g0C3, rfl, og0, hb⟩
  have s16 : Hid (v9.heap.size ≤ v10.heap.size) := Lib.hid hb.size
  replace cxM0 := kept hb cxM0
  replace cxM1 := kept hb cxM1
  replace cxM2 := kept hb cxM2
  replace cxM3 := kept hb cxM3
  replace cxM4 := kept hb cxM4
  replace cxM5 := kept hb cxM5
  replace cxM6 := kept hb cxM6
  replace cw00 := kept hb cw00
  replace cw01 := kept hb cw01
  replace cw02 := kept hb cw02
  replace cw03 := kept hb cw03
  replace cw04 := kept hb cw04
  replace cw05 := kept hb cw05
  replace cw06 := kept hb cw06
  replace cx00 := kept hb cx00
  replace cx01 := kept hb cx01
  replace cx02 := kept hb cx02
  replace cx03 := kept hb cx03
  replace cx04 := kept hb cx04
  replace cx05 := kept hb cx05
  replace cx06 := kept hb cx06
  replace ow0 := ow0.below hb
  replace ot9 := ot9.below hb
  replace ot13 := ot13.below hb
  replace hbel := hbel.trans (hb.mono hbel.size)
  clear hb
  have ha17 : Below v10.heap.size v10 (v10.alloc (.cells #[.int .i64 (dssR xM xListZ).1.b1, .slice g0A1 (dssR xM xListZ).1.z1.length g0C1, .int .i64 (dssR xM xListZ).1.b2, .slice g0A2 (dssR xM xListZ).1.z2.length g0C2, .int .i64 (dssR xM xListZ).1.b3, .slice g0A3 (dssR xM xListZ).1.z3.length g0C3, .int .i64 (dssR xM xListZ).1.p] 28)) := (Below.refl _ _).alloc (by simp <;> omega) _
  replace cxM0 := kept ha17 cxM0
  replace cxM1 := kept ha17 cxM1
  replace cxM2 := kept ha17 cxM2
  replace cxM3 := kept ha17 cxM3
  replace cxM4 := kept ha17 cxM4
  replace cxM5 := kept ha17 cxM5
  replace cxM6 := kept ha17 cxM6
  replace cw00 := kept ha17 cw00
  replace cw01 := kept ha17 cw01
  replace cw02 := kept ha17 cw02
  replace cw03 := kept ha17 cw03
  replace cw04 := kept ha17 cw04
  replace cw05 := kept ha17 cw05
  replace cw06 := kept ha17 cw06
  replace cx00 := kept ha17 cx00
  replace cx01 := kept ha17 cx01
  replace cx02 := kept ha17 cx02
  replace cx03 := kept ha17 cx03
  replace cx04 := kept ha17 cx04
  replace cx05 := kept ha17 cx05
  replace cx06 := kept ha17 cx06
  replace ow0 := ow0.below ha17
  replace ot9 := ot9.below ha17
  replace ot13 := ot13.below ha17
  replace og0 := og0.below ha17
  replace hbel := hbel.trans (ha17.mono hbel.size)
  clear ha17
  have cg00 : (v10.alloc (.cells #[.int .i64 (dssR xM xListZ).1.b1, .slice g0A1 (dssR xM xListZ).1.z1.length g0C1, .int .i64 (dssR xM xListZ).1.b2, .slice g0A2 (dssR xM xListZ).1.z2.length g0C2, .int .i64 (dssR xM xListZ).1.b3, .slice g0A3 (dssR xM xListZ).1.z3.length g0C3, .int .i64 (dssR xM xListZ).1.p] 28)).cell? ⟨v10.heap.size, 0, none⟩ = some (.int .i64 (dssR xM xListZ).1.b1) := by go_simp
  have cg01 : (v10.alloc (.cells #[.int .i64 (dssR xM xListZ).1.b1, .slice g0A1 (dssR xM xListZ).1.z1.length g0C1, .int .i64 (dssR xM xListZ).1.b2, .slice g0A2 (dssR xM xListZ).1.z2.length g0C2, .int .i64 (dssR xM xListZ).1.b3, .slice g0A3 (dssR xM xListZ).1.z3.length g0C3, .int .i64 (dssR xM xListZ).1.p] 28)).cell? ⟨v10.heap.size, 1, none⟩ = some (.slice g0A1 (dssR xM xListZ).1.z1.length g0C1) := by go_simp
  have cg02 : (v10.alloc (.cells #[.int .i64 (dssR xM xListZ).1.b1, .slice g0A1 (dssR xM xListZ).1.z1.length g0C1, .int .i64 (dssR xM xListZ).1.b2, .slice g0A2 (dssR xM xListZ).1.z2.length g0C2, .int .i64 (dssR xM xListZ).1.b3, .slice g0A3 (dssR xM xListZ).1.z3.length g0C3, .int .i64 (dssR xM xListZ).1.p] 28)).cell? ⟨v10.heap.size, 2, none⟩ = some (.int .i64 (dssR xM xListZ).1.b2) := by go_simp
  have cg03 : (v10.alloc (.cells #[.int .i64 (dssR xM xListZ).1.b1, .slice g0A1 (dssR xM xListZ).1.z1.length g0C1, .int .i64 (dssR xM xListZ).1.b2, .slice g0A2 (dssR xM xListZ).1.z2.length g0C2, .int .i64 (dssR xM xListZ).1.b3, .slice g0A3 (dssR xM xListZ).1.z3.length g0C3, .int .i64 (dssR xM xListZ).1.p] 28)).cell? ⟨v10.heap.size, 3, none⟩ = some (.slice g0A2 (dssR xM xListZ).1.z2.length g0C2) := by go_simp
  have cg04 : (v10.alloc (.cells #[.int .i64 (dssR xM xListZ).1.b1, .slice g0A1 (dssR xM xListZ).1.z1.length g0C1, .int .i64 (dssR xM xListZ).1.b2, .slice g0A2 (dssR xM xListZ).1.z2.length g0C2, .int .i64 (dssR xM xListZ).1.b3, .slice g0A3 (dssR xM xListZ).1.z3.length g0C3, .int .i64 (dssR xM xListZ).1.p] 28)).cell? ⟨v10.heap.size, 4, none⟩ = some (.int .i64 (dssR xM xListZ).1.b3) := by go_simp
  have cg05 : (v10.alloc (.cells #[.int .i64 (dssR xM xListZ).1.b1, .slice g0A1 (dssR xM xListZ).1.z1.length g0C1, .int .i64 (dssR xM xListZ).1.b2, .slice g0A2 (dssR xM xListZ).1.z2.length g0C2, .int .i64 (dssR xM xListZ).1.b3, .slice g0A3 (dssR xM xListZ).1.z3.length g0C3, .int .i64 (dssR xM xListZ).1.p] 28)).cell? ⟨v10.heap.size, 5, none⟩ = some (.slice g0A3 (dssR xM xListZ).1.z3.length g0C3) := by go_simp
  have cg06 : (v10.alloc (.cells #[.int .i64 (dssR xM xListZ).1.b1, .slice g0A1 (dssR xM xListZ).1.z1.length g0C1, .int .i64 (dssR xM xListZ).1.b2, .slice g0A2 (dssR xM xListZ).1.z2.length g0C2, .int .i64 (dssR xM xListZ).1.b3, .slice g0A3 (dssR xM xListZ).1.z3.length g0C3, .int .i64 (dssR xM xListZ).1.p] 28)).cell? ⟨v10.heap.size, 6, none⟩ = some (.int .i64 (dssR xM xListZ).1.p) := by go_simp
  have q18 : macEqB (dssR xM xListZ).1 (dssR xM xListZ).1 = true := macEqB_self _
  go_wp2_with fail
  obtain ⟨v11, hu⟩ : ∃ u, u = (v10.alloc (.cells #[.int .i64 (dssR xM xListZ).1.b1, .slice g0A1 (dssR xM xListZ).1.z1.length g0C1, .int .i64 (dssR xM xListZ).1.b2, .slice g0A2 (dssR xM xListZ).1.z2.length g0C2, .int .i64 (dssR xM xListZ).1.b3, .slice g0A3 (dssR xM xListZ).1.z3.length g0C3, .int .i64 (dssR xM xListZ).1.p] 28)) := ⟨_, rfl⟩
  have s19 : Hid (v10.heap.size + 1 ≤ v11.heap.size) := Lib.hid (by rw [hu]; simp)
  rw [← hu] at cxM0 cxM1 cxM2 cxM3 cxM4 cxM5 cxM6 cw00 cw01 cw02 cw03 cw04 cw05 cw06 cx00 cx01 cx02 cx03 cx04 cx05 cx06 cg00 cg01 cg02 cg03 cg04 cg05 cg06 ow0 ot9 ot13 og0 hbel ⊢
  clear hu
  refine (eqMachine_any (dssR xM xListZ).1 (dssR xM xListZ).1 g0A1 g0C1 g0A2 g0C2 g0A3 g0C3 w0A1 w0C1 w0A2 w0C2 w0A3 w0C3 v11 og0.rd ow0.rd).mono ?_
  rintro e v12 ⟨rfl, hb⟩
  have s20 : Hid (v11.heap.size ≤ v12.heap.size) := Lib.hid hb.size
  replace cxM0 := kept hb cxM0
  replace cxM1 := kept hb cxM1
  replace cxM2 := kept hb cxM2
  replace cxM3 := kept hb cxM3
  replace cxM4 := kept hb cxM4
  replace cxM5 := kept hb cxM5
  replace cxM6 := kept hb cxM6
  replace cw00 := kept hb cw00
  replace cw01 := kept hb cw01
  replace cw02 := kept hb cw02
  replace cw03 := kept hb cw03
  replace cw04 := kept hb cw04
  replace cw05 := kept hb cw05
  replace cw06 := kept hb cw06
  replace cx00 := kept hb cx00
  replace cx01 := kept hb cx01
  replace cx02 := kept hb cx02
  replace cx03 := kept hb cx03
  replace cx04 := kept hb cx04
  replace cx05 := kept hb cx05
  replace cx06 := kept hb cx06
  replace cg00 := kept hb cg00
  replace cg01 := kept hb cg01
  replace cg02 := kept hb cg02
  replace cg03 := kept hb cg03
  replace cg04 := kept hb cg04
  replace cg05 := kept hb cg05
  replace cg06 := kept hb cg06
  replace ow0 := ow0.below hb
  replace ot9 := ot9.below hb
  replace ot13 := ot13.below hb
  replace og0 := og0.below hb
  replace hbel := hbel.trans (hb.mono hbel.size)
  clear hb
  have q21 : macEqB xM xM = true := macEqB_self _
  go_wp2_with fail
  have rcxM0 := kept_all cxM0
  have rcxM1 := kept_all cxM1
  have rcxM2 := kept_all cxM2
  have rcxM3 := kept_all cxM3
  have rcxM4 := kept_all cxM4
  have rcxM5 := kept_all cxM5
  have rcxM6 := kept_all cxM6
  have rcw00 := kept_all cw00
  have rcw01 := kept_all cw01
  have rcw02 := kept_all cw02
  have rcw03 := kept_all cw03
  have rcw04 := kept_all cw04
  have rcw05 := kept_all cw05
  have rcw06 := kept_all cw06
  have rcx00 := kept_all cx00
  have rcx01 := kept_all cx01
  have rcx02 := kept_all cx02
  have rcx03 := kept_all cx03
  have rcx04 := kept_all cx04
  have rcx05 := kept_all cx05
  have rcx06 := kept_all cx06
  have rcg00 := kept_all cg00
  have rcg01 := kept_all cg01
  have rcg02 := kept_all cg02
  have rcg03 := kept_all cg03
  have rcg04 := kept_all cg04
  have rcg05 := kept_all cg05
  have rcg06 := kept_all cg06
  go_region_held3 (fun w' => Below v12.heap.size v12 w') (first | exact hk | exact (Below.refl _ _).drew | exact hk.alloc hk.size _ | exact (hk.alloc hk.size _).setCell hk.size _)
    (first | (go_at_call 64; have qB := ‹Below v12.heap.size v12 _›; ((with_reducible refine (toMachine_any xM xMA1 xMC1 xMA2 xMC2 xMA3 xMC3 _ (hxM.below (hbel.trans (qB.mono hbel.size)))).mono ?_)); rintro e v14 ⟨t22A1, t22C1, t22A2, t22C2, t22A3, t22C3, rfl, ot22, hb⟩; have hk := qB.trans (hb.mono qB.size)) | (go_at_call 60; have qB := ‹Below v12.heap.size v12 _›; refine (eqMachine_any xM xM t9A1 t9C1 t9A2 t9C2 t9A3 t9C3 t22A1 t22C1 t22A2 t22C2 t22A3 t22C3 _ (ot9.below qB).rd (by first | exact ot22.rd | exact (ot22.alloc _).rd)).mono ?_; rintro e v13 ⟨rfl, hb⟩; have hk := qB.trans (hb.mono qB.size)))
  have hb : Below v12.heap.size v12 v13 := by assumption
  clear rcxM0 rcxM1 rcxM2 rcxM3 rcxM4 rcxM5 rcxM6 rcw00 rcw01 rcw02 rcw03 rcw04 rcw05 rcw06 rcx00 rcx01 rcx02 rcx03 rcx04 rcx05 rcx06 rcg00 rcg01 rcg02 rcg03 rcg04 rcg05 rcg06
  clear ot22
  have s23 : Hid (v12.heap.size ≤ v13.heap.size) := Lib.hid hb.size
  replace cxM0 := kept hb cxM0
  replace cxM1 := kept hb cxM1
  replace cxM2 := kept hb cxM2
  replace cxM3 := kept hb cxM3
  replace cxM4 := kept hb cxM4
  replace cxM5 := kept hb cxM5
  replace cxM6 := kept hb cxM6
  replace cw00 := kept hb cw00
  replace cw01 := kept hb cw01
  replace cw02 := kept hb cw02
  replace cw03 := kept hb cw03
  replace cw04 := kept hb cw04
  replace cw05 := kept hb cw05
  replace cw06 := kept hb cw06
  replace cx00 := kept hb cx00
  replace cx01 := kept hb cx01
  replace cx02 := kept hb cx02
  replace cx03 := kept hb cx03
  replace cx04 := kept hb cx04
  replace cx05 := kept hb cx05
  replace cx06 := kept hb cx06
  replace cg00 := kept hb cg00
  replace cg01 := kept hb cg01
  replace cg02 := kept hb cg02
  replace cg03 := kept hb cg03
  replace cg04 := kept hb cg04
  replace cg05 := kept hb cg05
  replace cg06 := kept hb cg06
  replace ow0 := ow0.below hb
  replace ot9 := ot9.below hb
  replace ot13 := ot13.below hb
  replace og0 := og0.below hb
  replace hbel := hbel.trans (hb.mono hbel.size)
  clear hb
  have q24 : decide (xListZ = xListZ) = true := decide_eq_true rfl
  go_wp2_with fail
  refine (toInt64S_any xListA xListC xListZ v13 (hxList.below hbel)).mono ?_
  rintro e v15 ⟨t25A, t25C, rfl, ot25, hb⟩
  have s26 : Hid (v13.heap.size ≤ v15.heap.size) := Lib.hid hb.size
  replace cxM0 := kept hb cxM0
  replace cxM1 := kept hb cxM1
  replace cxM2 := kept hb cxM2
  replace cxM3 := kept hb cxM3
  replace cxM4 := kept hb cxM4
  replace cxM5 := kept hb cxM5
  replace cxM6 := kept hb cxM6
  replace cw00 := kept hb cw00
  replace cw01 := kept hb cw01
  replace cw02 := kept hb cw02
  replace cw03 := kept hb cw03
  replace cw04 := kept hb cw04
  replace cw05 := kept hb cw05
  replace cw06 := kept hb cw06
  replace cx00 := kept hb cx00
  replace cx01 := kept hb cx01
  replace cx02 := kept hb cx02
  replace cx03 := kept hb cx03
  replace cx04 := kept hb cx04
  replace cx05 := kept hb cx05
  replace cx06 := kept hb cx06
  replace cg00 := kept hb cg00
  replace cg01 := kept hb cg01
  replace cg02 := kept hb cg02
  replace cg03 := kept hb cg03
  replace cg04 := kept hb cg04
  replace cg05 := kept hb cg05
  replace cg06 := kept hb cg06
  replace ow0 := ow0.below hb
  replace ot9 := ot9.below hb
  replace ot13 := ot13.below hb
  replace og0 := og0.below hb
  replace hbel := hbel.trans (hb.mono hbel.size)
  clear hb
  go_wp2_with fail
  refine (eqInt64S_any t13A t25A t13C t25C xListZ xListZ v15 ot13.rd ot25.rd).mono ?_
  rintro e v16 ⟨rfl, n, hn⟩
  have hb : Below v15.heap.size v15 v16 := by rw [hn]; exact bel_drewN (Below.refl _ _) n
  clear hn
  have s27 : Hid (v15.heap.size ≤ v16.heap.size) := Lib.hid hb.size
  replace cxM0 := kept hb cxM0
  replace cxM1 := kept hb cxM1
  replace cxM2 := kept hb cxM2
  replace cxM3 := kept hb cxM3
  replace cxM4 := kept hb cxM4
  replace cxM5 := kept hb cxM5
  replace cxM6 := kept hb cxM6
  replace cw00 := kept hb cw00
  replace cw01 := kept hb cw01
  replace cw02 := kept hb cw02
  replace cw03 := kept hb cw03
  replace cw04 := kept hb cw04
  replace cw05 := kept hb cw05
  replace cw06 := kept hb cw06
  replace cx00 := kept hb cx00
  replace cx01 := kept hb cx01
  replace cx02 := kept hb cx02
  replace cx03 := kept hb cx03
  replace cx04 := kept hb cx04
  replace cx05 := kept hb cx05
  replace cx06 := kept hb cx06
  replace cg00 := kept hb cg00
  replace cg01 := kept hb cg01
  replace cg02 := kept hb cg02
  replace cg03 := kept hb cg03
  replace cg04 := kept hb cg04
  replace cg05 := kept hb cg05
  replace cg06 := kept hb cg06
  replace ow0 := ow0.below hb
  replace ot9 := ot9.below hb
  replace ot13 := ot13.below hb
  replace og0 := og0.below hb
  replace ot25 := ot25.below hb
  replace hbel := hbel.trans (hb.mono hbel.size)
  clear hb
  clear ot25
  go_wp2_with fail
  refine (markMachine_any _ _ _ xM t9A1 t9C1 t9A2 t9C2 t9A3 t9C3 1 v16 ot9 (by have := ow0.len; have := ot9.len; have := ot13.len; have := og0.len; have := hxM.len; have := hxList.len; omega) (by have := ow0.len; have := ot9.len; have := ot13.len; have := og0.len; have := hxM.len; have := hxList.len; omega)).mono ?_
  rintro e v17 ⟨rfl, om, ht⟩
  have s28 : Hid (v16.heap.size ≤ v17.heap.size) := Lib.hid ht.size
  clear ot9
  have ot9 := om
  clear om
  replace cxM0 := keptT ht cxM0 (by have := s1.out; have := s2.out; have := s4.out; have := s6.out; have := s7.out; have := s10.out; have := s11.out; have := s14.out; have := s15.out; have := s16.out; have := s19.out; have := s20.out; have := s23.out; have := s26.out; have := s27.out; have := s28.out; omega)
  replace cxM1 := keptT ht cxM1 (by have := s1.out; have := s2.out; have := s4.out; have := s6.out; have := s7.out; have := s10.out; have := s11.out; have := s14.out; have := s15.out; have := s16.out; have := s19.out; have := s20.out; have := s23.out; have := s26.out; have := s27.out; have := s28.out; omega)
  replace cxM2 := keptT ht cxM2 (by have := s1.out; have := s2.out; have := s4.out; have := s6.out; have := s7.out; have := s10.out; have := s11.out; have := s14.out; have := s15.out; have := s16.out; have := s19.out; have := s20.out; have := s23.out; have := s26.out; have := s27.out; have := s28.out; omega)
  replace cxM3 := keptT ht cxM3 (by have := s1.out; have := s2.out; have := s4.out; have := s6.out; have := s7.out; have := s10.out; have := s11.out; have := s14.out; have := s15.out; have := s16.out; have := s19.out; have := s20.out; have := s23.out; have := s26.out; have := s27.out; have := s28.out; omega)
  replace cxM4 := keptT ht cxM4 (by have := s1.out; have := s2.out; have := s4.out; have := s6.out; have := s7.out; have := s10.out; have := s11.out; have := s14.out; have := s15.out; have := s16.out; have := s19.out; have := s20.out; have := s23.out; have := s26.out; have := s27.out; have := s28.out; omega)
  replace cxM5 := keptT ht cxM5 (by have := s1.out; have := s2.out; have := s4.out; have := s6.out; have := s7.out; have := s10.out; have := s11.out; have := s14.out; have := s15.out; have := s16.out; have := s19.out; have := s20.out; have := s23.out; have := s26.out; have := s27.out; have := s28.out; omega)
  replace cxM6 := keptT ht cxM6 (by have := s1.out; have := s2.out; have := s4.out; have := s6.out; have := s7.out; have := s10.out; have := s11.out; have := s14.out; have := s15.out; have := s16.out; have := s19.out; have := s20.out; have := s23.out; have := s26.out; have := s27.out; have := s28.out; omega)
  replace cw00 := keptT ht cw00 (by have := s1.out; have := s2.out; have := s4.out; have := s6.out; have := s7.out; have := s10.out; have := s11.out; have := s14.out; have := s15.out; have := s16.out; have := s19.out; have := s20.out; have := s23.out; have := s26.out; have := s27.out; have := s28.out; omega)
  replace cw01 := keptT ht cw01 (by have := s1.out; have := s2.out; have := s4.out; have := s6.out; have := s7.out; have := s10.out; have := s11.out; have := s14.out; have := s15.out; have := s16.out; have := s19.out; have := s20.out; have := s23.out; have := s26.out; have := s27.out; have := s28.out; omega)
  replace cw02 := keptT ht cw02 (by have := s1.out; have := s2.out; have := s4.out; have := s6.out; have := s7.out; have := s10.out; have := s11.out; have := s14.out; have := s15.out; have := s16.out; have := s19.out; have := s20.out; have := s23.out; have := s26.out; have := s27.out; have := s28.out; omega)
  replace cw03 := keptT ht cw03 (by have := s1.out; have := s2.out; have := s4.out; have := s6.out; have := s7.out; have := s10.out; have := s11.out; have := s14.out; have := s15.out; have := s16.out; have := s19.out; have := s20.out; have := s23.out; have := s26.out; have := s27.out; have := s28.out; omega)
  replace cw04 := keptT ht cw04 (by have := s1.out; have := s2.out; have := s4.out; have := s6.out; have := s7.out; have := s10.out; have := s11.out; have := s14.out; have := s15.out; have := s16.out; have := s19.out; have := s20.out; have := s23.out; have := s26.out; have := s27.out; have := s28.out; omega)
  replace cw05 := keptT ht cw05 (by have := s1.out; have := s2.out; have := s4.out; have := s6.out; have := s7.out; have := s10.out; have := s11.out; have := s14.out; have := s15.out; have := s16.out; have := s19.out; have := s20.out; have := s23.out; have := s26.out; have := s27.out; have := s28.out; omega)
  replace cw06 := keptT ht cw06 (by have := s1.out; have := s2.out; have := s4.out; have := s6.out; have := s7.out; have := s10.out; have := s11.out; have := s14.out; have := s15.out; have := s16.out; have := s19.out; have := s20.out; have := s23.out; have := s26.out; have := s27.out; have := s28.out; omega)
  replace cx00 := keptT ht cx00 (by have := s1.out; have := s2.out; have := s4.out; have := s6.out; have := s7.out; have := s10.out; have := s11.out; have := s14.out; have := s15.out; have := s16.out; have := s19.out; have := s20.out; have := s23.out; have := s26.out; have := s27.out; have := s28.out; omega)
  replace cx01 := keptT ht cx01 (by have := s1.out; have := s2.out; have := s4.out; have := s6.out; have := s7.out; have := s10.out; have := s11.out; have := s14.out; have := s15.out; have := s16.out; have := s19.out; have := s20.out; have := s23.out; have := s26.out; have := s27.out; have := s28.out; omega)
  replace cx02 := keptT ht cx02 (by have := s1.out; have := s2.out; have := s4.out; have := s6.out; have := s7.out; have := s10.out; have := s11.out; have := s14.out; have := s15.out; have := s16.out; have := s19.out; have := s20.out; have := s23.out; have := s26.out; have := s27.out; have := s28.out; omega)
  replace cx03 := keptT ht cx03 (by have := s1.out; have := s2.out; have := s4.out; have := s6.out; have := s7.out; have := s10.out; have := s11.out; have := s14.out; have := s15.out; have := s16.out; have := s19.out; have := s20.out; have := s23.out; have := s26.out; have := s27.out; have := s28.out; omega)
  replace cx04 := keptT ht cx04 (by have := s1.out; have := s2.out; have := s4.out; have := s6.out; have := s7.out; have := s10.out; have := s11.out; have := s14.out; have := s15.out; have := s16.out; have := s19.out; have := s20.out; have := s23.out; have := s26.out; have := s27.out; have := s28.out; omega)
  replace cx05 := keptT ht cx05 (by have := s1.out; have := s2.out; have := s4.out; have := s6.out; have := s7.out; have := s10.out; have := s11.out; have := s14.out; have := s15.out; have := s16.out; have := s19.out; have := s20.out; have := s23.out; have := s26.out; have := s27.out; have := s28.out; omega)
  replace cx06 := keptT ht cx06 (by have := s1.out; have := s2.out; have := s4.out; have := s6.out; have := s7.out; have := s10.out; have := s11.out; have := s14.out; have := s15.out; have := s16.out; have := s19.out; have := s20.out; have := s23.out; have := s26.out; have := s27.out; have := s28.out; omega)
  replace cg00 := keptT ht cg00 (by have := s1.out; have := s2.out; have := s4.out; have := s6.out; have := s7.out; have := s10.out; have := s11.out; have := s14.out; have := s15.out; have := s16.out; have := s19.out; have := s20.out; have := s23.out; have := s26.out; have := s27.out; have := s28.out; omega)
  replace cg01 := keptT ht cg01 (by have := s1.out; have := s2.out; have := s4.out; have := s6.out; have := s7.out; have := s10.out; have := s11.out; have := s14.out; have := s15.out; have := s16.out; have := s19.out; have := s20.out; have := s23.out; have := s26.out; have := s27.out; have := s28.out; omega)
  replace cg02 := keptT ht cg02 (by have := s1.out; have := s2.out; have := s4.out; have := s6.out; have := s7.out; have := s10.out; have := s11.out; have := s14.out; have := s15.out; have := s16.out; have := s19.out; have := s20.out; have := s23.out; have := s26.out; have := s27.out; have := s28.out; omega)
  replace cg03 := keptT ht cg03 (by have := s1.out; have := s2.out; have := s4.out; have := s6.out; have := s7.out; have := s10.out; have := s11.out; have := s14.out; have := s15.out; have := s16.out; have := s19.out; have := s20.out; have := s23.out; have := s26.out; have := s27.out; have := s28.out; omega)
  replace cg04 := keptT ht cg04 (by have := s1.out; have := s2.out; have := s4.out; have := s6.out; have := s7.out; have := s10.out; have := s11.out; have := s14.out; have := s15.out; have := s16.out; have := s19.out; have := s20.out; have := s23.out; have := s26.out; have := s27.out; have := s28.out; omega)
  replace cg05 := keptT ht cg05 (by have := s1.out; have := s2.out; have := s4.out; have := s6.out; have := s7.out; have := s10.out; have := s11.out; have := s14.out; have := s15.out; have := s16.out; have := s19.out; have := s20.out; have := s23.out; have := s26.out; have := s27.out; have := s28.out; omega)
  replace cg06 := keptT ht cg06 (by have := s1.out; have := s2.out; have := s4.out; have := s6.out; have := s7.out; have := s10.out; have := s11.out; have := s14.out; have := s15.out; have := s16.out; have := s19.out; have := s20.out; have := s23.out; have := s26.out; have := s27.out; have := s28.out; omega)
  replace ow0 := ow0.touch ht (by have := s1.out; have := s2.out; have := s4.out; have := s6.out; have := s7.out; have := s10.out; have := s11.out; have := s14.out; have := s15.out; have := s16.out; have := s19.out; have := s20.out; have := s23.out; have := s26.out; have := s27.out; have := s28.out; omega)
  replace ot13 := ot13.touch ht (by have := s1.out; have := s2.out; have := s4.out; have := s6.out; have := s7.out; have := s10.out; have := s11.out; have := s14.out; have := s15.out; have := s16.out; have := s19.out; have := s20.out; have := s23.out; have := s26.out; have := s27.out; have := s28.out; omega)
  replace og0 := og0.touch ht (by have := s1.out; have := s2.out; have := s4.out; have := s6.out; have := s7.out; have := s10.out; have := s11.out; have := s14.out; have := s15.out; have := s16.out; have := s19.out; have := s20.out; have := s23.out; have := s26.out; have := s27.out; have := s28.out; omega)
  replace hbel := hbel.trans (ht.below (by have := s1.out; have := s2.out; have := s4.out; have := s6.out; have := s7.out; have := s10.out; have := s11.out; have := s14.out; have := s15.out; have := s16.out; have := s19.out; have := s20.out; have := s23.out; have := s26.out; have := s27.out; have := s28.out; omega) hbel.size)
  clear ht
  go_wp2_with fail
  refine (markInt64S_any _ _ _ t13A t13C (1 + ((xM.z1.length : Int) + (xM.z2.length : Int) + (xM.z3.length : Int))) xListZ v17 ot13 (by have := ow0.len; have := ot9.len; have := ot13.len; have := og0.len; have := hxM.len; have := hxList.len; omega) (by have := ow0.len; have := ot9.len; have := ot13.len; have := og0.len; have := hxM.len; have := hxList.len; omega)).mono ?_
  rintro e v18 ⟨rfl, om, ht⟩
  have s29 : Hid (v17.heap.size ≤ v18.heap.size) := Lib.hid ht.size
  clear ot13
  have ot13 := om
  clear om
  replace cxM0 := keptT ht cxM0 (by have := s1.out; have := s2.out; have := s4.out; have := s6.out; have := s7.out; have := s10.out; have := s11.out; have := s14.out; have := s15.out; have := s16.out; have := s19.out; have := s20.out; have := s23.out; have := s26.out; have := s27.out; have := s28.out; have := s29.out; omega)
  replace cxM1 := keptT ht cxM1 (by have := s1.out; have := s2.out; have := s4.out; have := s6.out; have := s7.out; have := s10.out; have := s11.out; have := s14.out; have := s15.out; have := s16.out; have := s19.out; have := s20.out; have := s23.out; have := s26.out; have := s27.out; have := s28.out; have := s29.out; omega)
  replace cxM2 := keptT ht cxM2 (by have := s1.out; have := s2.out; have := s4.out; have := s6.out; have := s7.out; have := s10.out; have := s11.out; have := s14.out; have := s15.out; have := s16.out; have := s19.out; have := s20.out; have := s23.out; have := s26.out; have := s27.out; have := s28.out; have := s29.out; omega)
  replace cxM3 := keptT ht cxM3 (by have := s1.out; have := s2.out; have := s4.out; have := s6.out; have := s7.out; have := s10.out; have := s11.out; have := s14.out; have := s15.out; have := s16.out; have := s19.out; have := s20.out; have := s23.out; have := s26.out; have := s27.out; have := s28.out; have := s29.out; omega)
  replace cxM4 := keptT ht cxM4 (by have := s1.out; have := s2.out; have := s4.out; have := s6.out; have := s7.out; have := s10.out; have := s11.out; have := s14.out; have := s15.out; have := s16.out; have := s19.out; have := s20.out; have := s23.out; have := s26.out; have := s27.out; have := s28.out; have := s29.out; omega)
  replace cxM5 := keptT ht cxM5 (by have := s1.out; have := s2.out; have := s4.out; have := s6.out; have := s7.out; have := s10.out; have := s11.out; have := s14.out; have := s15.out; have := s16.out; have := s19.out; have := s20.out; have := s23.out; have := s26.out; have := s27.out; have := s28.out; have := s29.out; omega)
  replace cxM6 := keptT ht cxM6 (by have := s1.out; have := s2.out; have := s4.out; have := s6.out; have := s7.out; have := s10.out; have := s11.out; have := s14.out; have := s15.out; have := s16.out; have := s19.out; have := s20.out; have := s23.out; have := s26.out; have := s27.out; have := s28.out; have := s29.out; omega)
  replace cw00 := keptT ht cw00 (by have := s1.out; have := s2.out; have := s4.out; have := s6.out; have := s7.out; have := s10.out; have := s11.out; have := s14.out; have := s15.out; have := s16.out; have := s19.out; have := s20.out; have := s23.out; have := s26.out; have := s27.out; have := s28.out; have := s29.out; omega)
  replace cw01 := keptT ht cw01 (by have := s1.out; have := s2.out; have := s4.out; have := s6.out; have := s7.out; have := s10.out; have := s11.out; have := s14.out; have := s15.out; have := s16.out; have := s19.out; have := s20.out; have := s23.out; have := s26.out; have := s27.out; have := s28.out; have := s29.out; omega)
  replace cw02 := keptT ht cw02 (by have := s1.out; have := s2.out; have := s4.out; have := s6.out; have := s7.out; have := s10.out; have := s11.out; have := s14.out; have := s15.out; have := s16.out; have := s19.out; have := s20.out; have := s23.out; have := s26.out; have := s27.out; have := s28.out; have := s29.out; omega)
  replace cw03 := keptT ht cw03 (by have := s1.out; have := s2.out; have := s4.out; have := s6.out; have := s7.out; have := s10.out; have := s11.out; have := s14.out; have := s15.out; have := s16.out; have := s19.out; have := s20.out; have := s23.out; have := s26.out; have := s27.out; have := s28.out; have := s29.out; omega)
  replace cw04 := keptT ht cw04 (by have := s1.out; have := s2.out; have := s4.out; have := s6.out; have := s7.out; have := s10.out; have := s11.out; have := s14.out; have := s15.out; have := s16.out; have := s19.out; have := s20.out; have := s23.out; have := s26.out; have := s27.out; have := s28.out; have := s29.out; omega)
  replace cw05 := keptT ht cw05 (by have := s1.out; have := s2.out; have := s4.out; have := s6.out; have := s7.out; have := s10.out; have := s11.out; have := s14.out; have := s15.out; have := s16.out; have := s19.out; have := s20.out; have := s23.out; have := s26.out; have := s27.out; have := s28.out; have := s29.out; omega)
  replace cw06 := keptT ht cw06 (by have := s1.out; have := s2.out; have := s4.out; have := s6.out; have := s7.out; have := s10.out; have := s11.out; have := s14.out; have := s15.out; have := s16.out; have := s19.out; have := s20.out; have := s23.out; have := s26.out; have := s27.out; have := s28.out; have := s29.out; omega)
  replace cx00 := keptT ht cx00 (by have := s1.out; have := s2.out; have := s4.out; have := s6.out; have := s7.out; have := s10.out; have := s11.out; have := s14.out; have := s15.out; have := s16.out; have := s19.out; have := s20.out; have := s23.out; have := s26.out; have := s27.out; have := s28.out; have := s29.out; omega)
  replace cx01 := keptT ht cx01 (by have := s1.out; have := s2.out; have := s4.out; have := s6.out; have := s7.out; have := s10.out; have := s11.out; have := s14.out; have := s15.out; have := s16.out; have := s19.out; have := s20.out; have := s23.out; have := s26.out; have := s27.out; have := s28.out; have := s29.out; omega)
  replace cx02 := keptT ht cx02 (by have := s1.out; have := s2.out; have := s4.out; have := s6.out; have := s7.out; have := s10.out; have := s11.out; have := s14.out; have := s15.out; have := s16.out; have := s19.out; have := s20.out; have := s23.out; have := s26.out; have := s27.out; have := s28.out; have := s29.out; omega)
  replace cx03 := keptT ht cx03 (by have := s1.out; have := s2.out; have := s4.out; have := s6.out; have := s7.out; have := s10.out; have := s11.out; have := s14.out; have := s15.out; have := s16.out; have := s19.out; have := s20.out; have := s23.out; have := s26.out; have := s27.out; have := s28.out; have := s29.out; omega)
  replace cx04 := keptT ht cx04 (by have := s1.out; have := s2.out; have := s4.out; have := s6.out; have := s7.out; have := s10.out; have := s11.out; have := s14.out; have := s15.out; have := s16.out; have := s19.out; have := s20.out; have := s23.out; have := s26.out; have := s27.out; have := s28.out; have := s29.out; omega)
  replace cx05 := keptT ht cx05 (by have := s1.out; have := s2.out; have := s4.out; have := s6.out; have := s7.out; have := s10.out; have := s11.out; have := s14.out; have := s15.out; have := s16.out; have := s19.out; have := s20.out; have := s23.out; have := s26.out; have := s27.out; have := s28.out; have := s29.out; omega)
  replace cx06 := keptT ht cx06 (by have := s1.out; have := s2.out; have := s4.out; have := s6.out; have := s7.out; have := s10.out; have := s11.out; have := s14.out; have := s15.out; have := s16.out; have := s19.out; have := s20.out; have := s23.out; have := s26.out; have := s27.out; have := s28.out; have := s29.out; omega)
  replace cg00 := keptT ht cg00 (by have := s1.out; have := s2.out; have := s4.out; have := s6.out; have := s7.out; have := s10.out; have := s11.out; have := s14.out; have := s15.out; have := s16.out; have := s19.out; have := s20.out; have := s23.out; have := s26.out; have := s27.out; have := s28.out; have := s29.out; omega)
  replace cg01 := keptT ht cg01 (by have := s1.out; have := s2.out; have := s4.out; have := s6.out; have := s7.out; have := s10.out; have := s11.out; have := s14.out; have := s15.out; have := s16.out; have := s19.out; have := s20.out; have := s23.out; have := s26.out; have := s27.out; have := s28.out; have := s29.out; omega)
  replace cg02 := keptT ht cg02 (by have := s1.out; have := s2.out; have := s4.out; have := s6.out; have := s7.out; have := s10.out; have := s11.out; have := s14.out; have := s15.out; have := s16.out; have := s19.out; have := s20.out; have := s23.out; have := s26.out; have := s27.out; have := s28.out; have := s29.out; omega)
  replace cg03 := keptT ht cg03 (by have := s1.out; have := s2.out; have := s4.out; have := s6.out; have := s7.out; have := s10.out; have := s11.out; have := s14.out; have := s15.out; have := s16.out; have := s19.out; have := s20.out; have := s23.out; have := s26.out; have := s27.out; have := s28.out; have := s29.out; omega)
  replace cg04 := keptT ht cg04 (by have := s1.out; have := s2.out; have := s4.out; have := s6.out; have := s7.out; have := s10.out; have := s11.out; have := s14.out; have := s15.out; have := s16.out; have := s19.out; have := s20.out; have := s23.out; have := s26.out; have := s27.out; have := s28.out; have := s29.out; omega)
  replace cg05 := keptT ht cg05 (by have := s1.out; have := s2.out; have := s4.out; have := s6.out; have := s7.out; have := s10.out; have := s11.out; have := s14.out; have := s15.out; have := s16.out; have := s19.out; have := s20.out; have := s23.out; have := s26.out; have := s27.out; have := s28.out; have := s29.out; omega)
  replace cg06 := keptT ht cg06 (by have := s1.out; have := s2.out; have := s4.out; have := s6.out; have := s7.out; have := s10.out; have := s11.out; have := s14.out; have := s15.out; have := s16.out; have := s19.out; have := s20.out; have := s23.out; have := s26.out; have := s27.out; have := s28.out; have := s29.out; omega)
  replace ow0 := ow0.touch ht (by have := s1.out; have := s2.out; have := s4.out; have := s6.out; have := s7.out; have := s10.out; have := s11.out; have := s14.out; have := s15.out; have := s16.out; have := s19.out; have := s20.out; have := s23.out; have := s26.out; have := s27.out; have := s28.out; have := s29.out; omega)
  replace ot9 := ot9.touch ht (by have := s1.out; have := s2.out; have := s4.out; have := s6.out; have := s7.out; have := s10.out; have := s11.out; have := s14.out; have := s15.out; have := s16.out; have := s19.out; have := s20.out; have := s23.out; have := s26.out; have := s27.out; have := s28.out; have := s29.out; omega)
  replace og0 := og0.touch ht (by have := s1.out; have := s2.out; have := s4.out; have := s6.out; have := s7.out; have := s10.out; have := s11.out; have := s14.out; have := s15.out; have := s16.out; have := s19.out; have := s20.out; have := s23.out; have := s26.out; have := s27.out; have := s28.out; have := s29.out; omega)
  replace hbel := hbel.trans (ht.below (by have := s1.out; have := s2.out; have := s4.out; have := s6.out; have := s7.out; have := s10.out; have := s11.out; have := s14.out; have := s15.out; have := s16.out; have := s19.out; have := s20.out; have := s23.out; have := s26.out; have := s27.out; have := s28.out; have := s29.out; omega) hbel.size)
  clear ht
  have q30 : macEqB (dssR xM xListZ).1 (dssR xM xListZ).1 = true := macEqB_self _
  go_wp2_with fail
  refine (eqMachine_any (dssR xM xListZ).1 (dssR xM xListZ).1 g0A1 g0C1 g0A2 g0C2 g0A3 g0C3 w0A1 w0C1 w0A2 w0C2 w0A3 w0C3 v18 og0.rd ow0.rd).mono ?_
  rintro e v19 ⟨rfl, hb⟩
  have s31 : Hid (v18.heap.size ≤ v19.heap.size) := Lib.hid hb.size
  replace cxM0 := kept hb cxM0
  replace cxM1 := kept hb cxM1
  replace cxM2 := kept hb cxM2
  replace cxM3 := kept hb cxM3
  replace cxM4 := kept hb cxM4
  replace cxM5 := kept hb cxM5
  replace cxM6 := kept hb cxM6
  replace cw00 := kept hb cw00
  replace cw01 := kept hb cw01
  replace cw02 := kept hb cw02
  replace cw03 := kept hb cw03
  replace cw04 := kept hb cw04
  replace cw05 := kept hb cw05
  replace cw06 := kept hb cw06
  replace cx00 := kept hb cx00
  replace cx01 := kept hb cx01
  replace cx02 := kept hb cx02
  replace cx03 := kept hb cx03
  replace cx04 := kept hb cx04
  replace cx05 := kept hb cx05
  replace cx06 := kept hb cx06
  replace cg00 := kept hb cg00
  replace cg01 := kept hb cg01
  replace cg02 := kept hb cg02
  replace cg03 := kept hb cg03
  replace cg04 := kept hb cg04
  replace cg05 := kept hb cg05
  replace cg06 := kept hb cg06
  replace ow0 := ow0.below hb
  replace ot9 := ot9.below hb
  replace ot13 := ot13.below hb
  replace og0 := og0.below hb
  replace hbel := hbel.trans (hb.mono hbel.size)
  clear hb
  go_wp2_with fail
  refine (markMachine_any _ _ _ (dssR xM xListZ).1 g0A1 g0C1 g0A2 g0C2 g0A3 g0C3 1 v19 og0 (by have := ow0.len; have := ot9.len; have := ot13.len; have := og0.len; have := hxM.len; have := hxList.len; omega) (by have := ow0.len; have := ot9.len; have := ot13.len; have := og0.len; have := hxM.len; have := hxList.len; omega)).mono ?_
  rintro e v20 ⟨rfl, om, ht⟩
  have s32 : Hid (v19.heap.size ≤ v20.heap.size) := Lib.hid ht.size
  clear og0
  have og0 := om
  clear om
  replace cxM0 := keptT ht cxM0 (by have := s1.out; have := s2.out; have := s4.out; have := s6.out; have := s7.out; have := s10.out; have := s11.out; have := s14.out; have := s15.out; have := s16.out; have := s19.out; have := s20.out; have := s23.out; have := s26.out; have := s27.out; have := s28.out; have := s29.out; have := s31.out; have := s32.out; omega)
  replace cxM1 := keptT ht cxM1 (by have := s1.out; have := s2.out; have := s4.out; have := s6.out; have := s7.out; have := s10.out; have := s11.out; have := s14.out; have := s15.out; have := s16.out; have := s19.out; have := s20.out; have := s23.out; have := s26.out; have := s27.out; have := s28.out; have := s29.out; have := s31.out; have := s32.out; omega)
  replace cxM2 := keptT ht cxM2 (by have := s1.out; have := s2.out; have := s4.out; have := s6.out; have := s7.out; have := s10.out; have := s11.out; have := s14.out; have := s15.out; have := s16.out; have := s19.out; have := s20.out; have := s23.out; have := s26.out; have := s27.out; have := s28.out; have := s29.out; have := s31.out; have := s32.out; omega)
  replace cxM3 := keptT ht cxM3 (by have := s1.out; have := s2.out; have := s4.out; have := s6.out; have := s7.out; have := s10.out; have := s11.out; have := s14.out; have := s15.out; have := s16.out; have := s19.out; have := s20.out; have := s23.out; have := s26.out; have := s27.out; have := s28.out; have := s29.out; have := s31.out; have := s32.out; omega)
  replace cxM4 := keptT ht cxM4 (by have := s1.out; have := s2.out; have := s4.out; have := s6.out; have := s7.out; have := s10.out; have := s11.out; have := s14.out; have := s15.out; have := s16.out; have := s19.out; have := s20.out; have := s23.out; have := s26.out; have := s27.out; have := s28.out; have := s29.out; have := s31.out; have := s32.out; omega)
  replace cxM5 := keptT ht cxM5 (by have := s1.out; have := s2.out; have := s4.out; have := s6.out; have := s7.out; have := s10.out; have := s11.out; have := s14.out; have := s15.out; have := s16.out; have := s19.out; have := s20.out; have := s23.out; have := s26.out; have := s27.out; have := s28.out; have := s29.out; have := s31.out; have := s32.out; omega)
  replace cxM6 := keptT ht cxM6 (by have := s1.out; have := s2.out; have := s4.out; have := s6.out; have := s7.out; have := s10.out; have := s11.out; have := s14.out; have := s15.out; have := s16.out; have := s19.out; have := s20.out; have := s23.out; have := s26.out; have := s27.out; have := s28.out; have := s29.out; have := s31.out; have := s32.out; omega)
  replace cw00 := keptT ht cw00 (by have := s1.out; have := s2.out; have := s4.out; have := s6.out; have := s7.out; have := s10.out; have := s11.out; have := s14.out; have := s15.out; have := s16.out; have := s19.out; have := s20.out; have := s23.out; have := s26.out; have := s27.out; have := s28.out; have := s29.out; have := s31.out; have := s32.out; omega)
  replace cw01 := keptT ht cw01 (by have := s1.out; have := s2.out; have := s4.out; have := s6.out; have := s7.out; have := s10.out; have := s11.out; have := s14.out; have := s15.out; have := s16.out; have := s19.out; have := s20.out; have := s23.out; have := s26.out; have := s27.out; have := s28.out; have := s29.out; have := s31.out; have := s32.out; omega)
  replace cw02 := keptT ht cw02 (by have := s1.out; have := s2.out; have := s4.out; have := s6.out; have := s7.out; have := s10.out; have := s11.out; have := s14.out; have := s15.out; have := s16.out; have := s19.out; have := s20.out; have := s23.out; have := s26.out; have := s27.out; have := s28.out; have := s29.out; have := s31.out; have := s32.out; omega)
  replace cw03 := keptT ht cw03 (by have := s1.out; have := s2.out; have := s4.out; have := s6.out; have := s7.out; have := s10.out; have := s11.out; have := s14.out; have := s15.out; have := s16.out; have := s19.out; have := s20.out; have := s23.out; have := s26.out; have := s27.out; have := s28.out; have := s29.out; have := s31.out; have := s32.out; omega)
  replace cw04 := keptT ht cw04 (by have := s1.out; have := s2.out; have := s4.out; have := s6.out; have := s7.out; have := s10.out; have := s11.out; have := s14.out; have := s15.out; have := s16.out; have := s19.out; have := s20.out; have := s23.out; have := s26.out; have := s27.out; have := s28.out; have := s29.out; have := s31.out; have := s32.out; omega)
  replace cw05 := keptT ht cw05 (by have := s1.out; have := s2.out; have := s4.out; have := s6.out; have := s7.out; have := s10.out; have := s11.out; have := s14.out; have := s15.out; have := s16.out; have := s19.out; have := s20.out; have := s23.out; have := s26.out; have := s27.out; have := s28.out; have := s29.out; have := s31.out; have := s32.out; omega)
  replace cw06 := keptT ht cw06 (by have := s1.out; have := s2.out; have := s4.out; have := s6.out; have := s7.out; have := s10.out; have := s11.out; have := s14.out; have := s15.out; have := s16.out; have := s19.out; have := s20.out; have := s23.out; have := s26.out; have := s27.out; have := s28.out; have := s29.out; have := s31.out; have := s32.out; omega)
  replace cx00 := keptT ht cx00 (by have := s1.out; have := s2.out; have := s4.out; have := s6.out; have := s7.out; have := s10.out; have := s11.out; have := s14.out; have := s15.out; have := s16.out; have := s19.out; have := s20.out; have := s23.out; have := s26.out; have := s27.out; have := s28.out; have := s29.out; have := s31.out; have := s32.out; omega)
  replace cx01 := keptT ht cx01 (by have := s1.out; have := s2.out; have := s4.out; have := s6.out; have := s7.out; have := s10.out; have := s11.out; have := s14.out; have := s15.out; have := s16.out; have := s19.out; have := s20.out; have := s23.out; have := s26.out; have := s27.out; have := s28.out; have := s29.out; have := s31.out; have := s32.out; omega)
  replace cx02 := keptT ht cx02 (by have := s1.out; have := s2.out; have := s4.out; have := s6.out; have := s7.out; have := s10.out; have := s11.out; have := s14.out; have := s15.out; have := s16.out; have := s19.out; have := s20.out; have := s23.out; have := s26.out; have := s27.out; have := s28.out; have := s29.out; have := s31.out; have := s32.out; omega)
  replace cx03 := keptT ht cx03 (by have := s1.out; have := s2.out; have := s4.out; have := s6.out; have := s7.out; have := s10.out; have := s11.out; have := s14.out; have := s15.out; have := s16.out; have := s19.out; have := s20.out; have := s23.out; have := s26.out; have := s27.out; have := s28.out; have := s29.out; have := s31.out; have := s32.out; omega)
  replace cx04 := keptT ht cx04 (by have := s1.out; have := s2.out; have := s4.out; have := s6.out; have := s7.out; have := s10.out; have := s11.out; have := s14.out; have := s15.out; have := s16.out; have := s19.out; have := s20.out; have := s23.out; have := s26.out; have := s27.out; have := s28.out; have := s29.out; have := s31.out; have := s32.out; omega)
  replace cx05 := keptT ht cx05 (by have := s1.out; have := s2.out; have := s4.out; have := s6.out; have := s7.out; have := s10.out; have := s11.out; have := s14.out; have := s15.out; have := s16.out; have := s19.out; have := s20.out; have := s23.out; have := s26.out; have := s27.out; have := s28.out; have := s29.out; have := s31.out; have := s32.out; omega)
  replace cx06 := keptT ht cx06 (by have := s1.out; have := s2.out; have := s4.out; have := s6.out; have := s7.out; have := s10.out; have := s11.out; have := s14.out; have := s15.out; have := s16.out; have := s19.out; have := s20.out; have := s23.out; have := s26.out; have := s27.out; have := s28.out; have := s29.out; have := s31.out; have := s32.out; omega)
  replace cg00 := keptT ht cg00 (by have := s1.out; have := s2.out; have := s4.out; have := s6.out; have := s7.out; have := s10.out; have := s11.out; have := s14.out; have := s15.out; have := s16.out; have := s19.out; have := s20.out; have := s23.out; have := s26.out; have := s27.out; have := s28.out; have := s29.out; have := s31.out; have := s32.out; omega)
  replace cg01 := keptT ht cg01 (by have := s1.out; have := s2.out; have := s4.out; have := s6.out; have := s7.out; have := s10.out; have := s11.out; have := s14.out; have := s15.out; have := s16.out; have := s19.out; have := s20.out; have := s23.out; have := s26.out; have := s27.out; have := s28.out; have := s29.out; have := s31.out; have := s32.out; omega)
  replace cg02 := keptT ht cg02 (by have := s1.out; have := s2.out; have := s4.out; have := s6.out; have := s7.out; have := s10.out; have := s11.out; have := s14.out; have := s15.out; have := s16.out; have := s19.out; have := s20.out; have := s23.out; have := s26.out; have := s27.out; have := s28.out; have := s29.out; have := s31.out; have := s32.out; omega)
  replace cg03 := keptT ht cg03 (by have := s1.out; have := s2.out; have := s4.out; have := s6.out; have := s7.out; have := s10.out; have := s11.out; have := s14.out; have := s15.out; have := s16.out; have := s19.out; have := s20.out; have := s23.out; have := s26.out; have := s27.out; have := s28.out; have := s29.out; have := s31.out; have := s32.out; omega)
  replace cg04 := keptT ht cg04 (by have := s1.out; have := s2.out; have := s4.out; have := s6.out; have := s7.out; have := s10.out; have := s11.out; have := s14.out; have := s15.out; have := s16.out; have := s19.out; have := s20.out; have := s23.out; have := s26.out; have := s27.out; have := s28.out; have := s29.out; have := s31.out; have := s32.out; omega)
  replace cg05 := keptT ht cg05 (by have := s1.out; have := s2.out; have := s4.out; have := s6.out; have := s7.out; have := s10.out; have := s11.out; have := s14.out; have := s15.out; have := s16.out; have := s19.out; have := s20.out; have := s23.out; have := s26.out; have := s27.out; have := s28.out; have := s29.out; have := s31.out; have := s32.out; omega)
  replace cg06 := keptT ht cg06 (by have := s1.out; have := s2.out; have := s4.out; have := s6.out; have := s7.out; have := s10.out; have := s11.out; have := s14.out; have := s15.out; have := s16.out; have := s19.out; have := s20.out; have := s23.out; have := s26.out; have := s27.out; have := s28.out; have := s29.out; have := s31.out; have := s32.out; omega)
  replace ow0 := ow0.touch ht (by have := s1.out; have := s2.out; have := s4.out; have := s6.out; have := s7.out; have := s10.out; have := s11.out; have := s14.out; have := s15.out; have := s16.out; have := s19.out; have := s20.out; have := s23.out; have := s26.out; have := s27.out; have := s28.out; have := s29.out; have := s31.out; have := s32.out; omega)
  replace ot9 := ot9.touch ht (by have := s1.out; have := s2.out; have := s4.out; have := s6.out; have := s7.out; have := s10.out; have := s11.out; have := s14.out; have := s15.out; have := s16.out; have := s19.out; have := s20.out; have := s23.out; have := s26.out; have := s27.out; have := s28.out; have := s29.out; have := s31.out; have := s32.out; omega)
  replace ot13 := ot13.touch ht (by have := s1.out; have := s2.out; have := s4.out; have := s6.out; have := s7.out; have := s10.out; have := s11.out; have := s14.out; have := s15.out; have := s16.out; have := s19.out; have := s20.out; have := s23.out; have := s26.out; have := s27.out; have := s28.out; have := s29.out; have := s31.out; have := s32.out; omega)
  replace hbel := hbel.trans (ht.below (by have := s1.out; have := s2.out; have := s4.out; have := s6.out; have := s7.out; have := s10.out; have := s11.out; have := s14.out; have := s15.out; have := s16.out; have := s19.out; have := s20.out; have := s23.out; have := s26.out; have := s27.out; have := s28.out; have := s29.out; have := s31.out; have := s32.out; omega) hbel.size)
  clear ht
  go_wp2_with fail
  refine (heldMachine_any (dssR xM xListZ).1 g0A1 g0C1 g0A2 g0C2 g0A3 g0C3 1 (dssR xM xListZ).1.z1.length (dssR xM xListZ).1.z2.length (dssR xM xListZ).1.z3.length v20 og0.rd (by have := ow0.len; have := ot9.len; have := ot13.len; have := og0.len; have := hxM.len; have := hxList.len; omega) (by have := ow0.len; have := ot9.len; have := ot13.len; have := og0.len; have := hxM.len; have := hxList.len; omega)).mono ?_
  rintro e v21 ⟨rfl, hb⟩
  have s33 : Hid (v20.heap.size ≤ v21.heap.size) := Lib.hid hb.size
  replace cxM0 := kept hb cxM0
  replace cxM1 := kept hb cxM1
  replace cxM2 := kept hb cxM2
  replace cxM3 := kept hb cxM3
  replace cxM4 := kept hb cxM4
  replace cxM5 := kept hb cxM5
  replace cxM6 := kept hb cxM6
  replace cw00 := kept hb cw00
  replace cw01 := kept hb cw01
  replace cw02 := kept hb cw02
  replace cw03 := kept hb cw03
  replace cw04 := kept hb cw04
  replace cw05 := kept hb cw05
  replace cw06 := kept hb cw06
  replace cx00 := kept hb cx00
  replace cx01 := kept hb cx01
  replace cx02 := kept hb cx02
  replace cx03 := kept hb cx03
  replace cx04 := kept hb cx04
  replace cx05 := kept hb cx05
  replace cx06 := kept hb cx06
  replace cg00 := kept hb cg00
  replace cg01 := kept hb cg01
  replace cg02 := kept hb cg02
  replace cg03 := kept hb cg03
  replace cg04 := kept hb cg04
  replace cg05 := kept hb cg05
  replace cg06 := kept hb cg06
  replace ow0 := ow0.below hb
  replace ot9 := ot9.below hb
  replace ot13 := ot13.below hb
  replace og0 := og0.below hb
  replace hbel := hbel.trans (hb.mono hbel.size)
  clear hb
  go_wp2_with fail
  refine (toMachine_any xM xMA1 xMC1 xMA2 xMC2 xMA3 xMC3 v21 (hxM.below hbel)).mono ?_
  rintro e v22 ⟨t34A1, t34C1, t34A2, t34C2, t34A3, t34C3, rfl, ot34, hb⟩
  have s35 : Hid (v21.heap.size ≤ v22.heap.size) := Lib.hid hb.size
  replace cxM0 := kept hb cxM0
  replace cxM1 := kept hb cxM1
  replace cxM2 := kept hb cxM2
  replace cxM3 := kept hb cxM3
  replace cxM4 := kept hb cxM4
  replace cxM5 := kept hb cxM5
  replace cxM6 := kept hb cxM6
  replace cw00 := kept hb cw00
  replace cw01 := kept hb cw01
  replace cw02 := kept hb cw02
  replace cw03 := kept hb cw03
  replace cw04 := kept hb cw04
  replace cw05 := kept hb cw05
  replace cw06 := kept hb cw06
  replace cx00 := kept hb cx00
  replace cx01 := kept hb cx01
  replace cx02 := kept hb cx02
  replace cx03 := kept hb cx03
  replace cx04 := kept hb cx04
  replace cx05 := kept hb cx05
  replace cx06 := kept hb cx06
  replace cg00 := kept hb cg00
  replace cg01 := kept hb cg01
  replace cg02 := kept hb cg02
  replace cg03 := kept hb cg03
  replace cg04 := kept hb cg04
  replace cg05 := kept hb cg05
  replace cg06 := kept hb cg06
  replace ow0 := ow0.below hb
  replace ot9 := ot9.below hb
  replace ot13 := ot13.below hb
  replace og0 := og0.below hb
  replace hbel := hbel.trans (hb.mono hbel.size)
  clear hb
  go_wp2_with fail
  refine (toInt64S_any xListA xListC xListZ v22 (hxList.below hbel)).mono ?_
  rintro e v23 ⟨t36A, t36C, rfl, ot36, hb⟩
  have s37 : Hid (v22.heap.size ≤ v23.heap.size) := Lib.hid hb.size
  replace cxM0 := kept hb cxM0
  replace cxM1 := kept hb cxM1
  replace cxM2 := kept hb cxM2
  replace cxM3 := kept hb cxM3
  replace cxM4 := kept hb cxM4
  replace cxM5 := kept hb cxM5
  replace cxM6 := kept hb cxM6
  replace cw00 := kept hb cw00
  replace cw01 := kept hb cw01
  replace cw02 := kept hb cw02
  replace cw03 := kept hb cw03
  replace cw04 := kept hb cw04
  replace cw05 := kept hb cw05
  replace cw06 := kept hb cw06
  replace cx00 := kept hb cx00
  replace cx01 := kept hb cx01
  replace cx02 := kept hb cx02
  replace cx03 := kept hb cx03
  replace cx04 := kept hb cx04
  replace cx05 := kept hb cx05
  replace cx06 := kept hb cx06
  replace cg00 := kept hb cg00
  replace cg01 := kept hb cg01
  replace cg02 := kept hb cg02
  replace cg03 := kept hb cg03
  replace cg04 := kept hb cg04
  replace cg05 := kept hb cg05
  replace cg06 := kept hb cg06
  replace ow0 := ow0.below hb
  replace ot9 := ot9.below hb
  replace ot13 := ot13.below hb
  replace og0 := og0.below hb
  replace ot34 := ot34.below hb
  replace hbel := hbel.trans (hb.mono hbel.size)
  clear hb
  go_wp2_with fail
  refine (implDoStrokes xM t34A1 t34C1 t34A2 t34C2 t34A3 t34C3 t36A t36C xListZ v23 ot34.rd zxM bxM ot36.rd zxList (door_below hD hbel)).mono ?_
  rintro e v24 ⟨h0A1, h0C1, h0A2, h0C2, h0A3, h0C3, rfl, oh0, hb⟩
  have s38 : Hid (v23.heap.size ≤ v24.heap.size) := Lib.hid hb.size
  replace cxM0 := kept hb cxM0
  replace cxM1 := kept hb cxM1
  replace cxM2 := kept hb cxM2
  replace cxM3 := kept hb cxM3
  replace cxM4 := kept hb cxM4
  replace cxM5 := kept hb cxM5
  replace cxM6 := kept hb cxM6
  replace cw00 := kept hb cw00
  replace cw01 := kept hb cw01
  replace cw02 := kept hb cw02
  replace cw03 := kept hb cw03
  replace cw04 := kept hb cw04
  replace cw05 := kept hb cw05
  replace cw06 := kept hb cw06
  replace cx00 := kept hb cx00
  replace cx01 := kept hb cx01
  replace cx02 := kept hb cx02
  replace cx03 := kept hb cx03
  replace cx04 := kept hb cx04
  replace cx05 := kept hb cx05
  replace cx06 := kept hb cx06
  replace cg00 := kept hb cg00
  replace cg01 := kept hb cg01
  replace cg02 := kept hb cg02
  replace cg03 := kept hb cg03
  replace cg04 := kept hb cg04
  replace cg05 := kept hb cg05
  replace cg06 := kept hb cg06
  replace ow0 := ow0.below hb
  replace ot9 := ot9.below hb
  replace ot13 := ot13.below hb
  replace og0 := og0.below hb
  replace ot34 := ot34.below hb
  replace ot36 := ot36.below hb
  replace hbel := hbel.trans (hb.mono hbel.size)
  clear hb
  clear ot34
  clear ot36
  have ha39 : Below v24.heap.size v24 (v24.alloc (.cells #[.int .i64 (dssR xM xListZ).1.b1, .slice h0A1 (dssR xM xListZ).1.z1.length h0C1, .int .i64 (dssR xM xListZ).1.b2, .slice h0A2 (dssR xM xListZ).1.z2.length h0C2, .int .i64 (dssR xM xListZ).1.b3, .slice h0A3 (dssR xM xListZ).1.z3.length h0C3, .int .i64 (dssR xM xListZ).1.p] 28)) := (Below.refl _ _).alloc (by simp <;> omega) _
  replace cxM0 := kept ha39 cxM0
  replace cxM1 := kept ha39 cxM1
  replace cxM2 := kept ha39 cxM2
  replace cxM3 := kept ha39 cxM3
  replace cxM4 := kept ha39 cxM4
  replace cxM5 := kept ha39 cxM5
  replace cxM6 := kept ha39 cxM6
  replace cw00 := kept ha39 cw00
  replace cw01 := kept ha39 cw01
  replace cw02 := kept ha39 cw02
  replace cw03 := kept ha39 cw03
  replace cw04 := kept ha39 cw04
  replace cw05 := kept ha39 cw05
  replace cw06 := kept ha39 cw06
  replace cx00 := kept ha39 cx00
  replace cx01 := kept ha39 cx01
  replace cx02 := kept ha39 cx02
  replace cx03 := kept ha39 cx03
  replace cx04 := kept ha39 cx04
  replace cx05 := kept ha39 cx05
  replace cx06 := kept ha39 cx06
  replace cg00 := kept ha39 cg00
  replace cg01 := kept ha39 cg01
  replace cg02 := kept ha39 cg02
  replace cg03 := kept ha39 cg03
  replace cg04 := kept ha39 cg04
  replace cg05 := kept ha39 cg05
  replace cg06 := kept ha39 cg06
  replace ow0 := ow0.below ha39
  replace ot9 := ot9.below ha39
  replace ot13 := ot13.below ha39
  replace og0 := og0.below ha39
  replace oh0 := oh0.below ha39
  replace hbel := hbel.trans (ha39.mono hbel.size)
  clear ha39
  have ch00 : (v24.alloc (.cells #[.int .i64 (dssR xM xListZ).1.b1, .slice h0A1 (dssR xM xListZ).1.z1.length h0C1, .int .i64 (dssR xM xListZ).1.b2, .slice h0A2 (dssR xM xListZ).1.z2.length h0C2, .int .i64 (dssR xM xListZ).1.b3, .slice h0A3 (dssR xM xListZ).1.z3.length h0C3, .int .i64 (dssR xM xListZ).1.p] 28)).cell? ⟨v24.heap.size, 0, none⟩ = some (.int .i64 (dssR xM xListZ).1.b1) := by go_simp
  have ch01 : (v24.alloc (.cells #[.int .i64 (dssR xM xListZ).1.b1, .slice h0A1 (dssR xM xListZ).1.z1.length h0C1, .int .i64 (dssR xM xListZ).1.b2, .slice h0A2 (dssR xM xListZ).1.z2.length h0C2, .int .i64 (dssR xM xListZ).1.b3, .slice h0A3 (dssR xM xListZ).1.z3.length h0C3, .int .i64 (dssR xM xListZ).1.p] 28)).cell? ⟨v24.heap.size, 1, none⟩ = some (.slice h0A1 (dssR xM xListZ).1.z1.length h0C1) := by go_simp
  have ch02 : (v24.alloc (.cells #[.int .i64 (dssR xM xListZ).1.b1, .slice h0A1 (dssR xM xListZ).1.z1.length h0C1, .int .i64 (dssR xM xListZ).1.b2, .slice h0A2 (dssR xM xListZ).1.z2.length h0C2, .int .i64 (dssR xM xListZ).1.b3, .slice h0A3 (dssR xM xListZ).1.z3.length h0C3, .int .i64 (dssR xM xListZ).1.p] 28)).cell? ⟨v24.heap.size, 2, none⟩ = some (.int .i64 (dssR xM xListZ).1.b2) := by go_simp
  have ch03 : (v24.alloc (.cells #[.int .i64 (dssR xM xListZ).1.b1, .slice h0A1 (dssR xM xListZ).1.z1.length h0C1, .int .i64 (dssR xM xListZ).1.b2, .slice h0A2 (dssR xM xListZ).1.z2.length h0C2, .int .i64 (dssR xM xListZ).1.b3, .slice h0A3 (dssR xM xListZ).1.z3.length h0C3, .int .i64 (dssR xM xListZ).1.p] 28)).cell? ⟨v24.heap.size, 3, none⟩ = some (.slice h0A2 (dssR xM xListZ).1.z2.length h0C2) := by go_simp
  have ch04 : (v24.alloc (.cells #[.int .i64 (dssR xM xListZ).1.b1, .slice h0A1 (dssR xM xListZ).1.z1.length h0C1, .int .i64 (dssR xM xListZ).1.b2, .slice h0A2 (dssR xM xListZ).1.z2.length h0C2, .int .i64 (dssR xM xListZ).1.b3, .slice h0A3 (dssR xM xListZ).1.z3.length h0C3, .int .i64 (dssR xM xListZ).1.p] 28)).cell? ⟨v24.heap.size, 4, none⟩ = some (.int .i64 (dssR xM xListZ).1.b3) := by go_simp
  have ch05 : (v24.alloc (.cells #[.int .i64 (dssR xM xListZ).1.b1, .slice h0A1 (dssR xM xListZ).1.z1.length h0C1, .int .i64 (dssR xM xListZ).1.b2, .slice h0A2 (dssR xM xListZ).1.z2.length h0C2, .int .i64 (dssR xM xListZ).1.b3, .slice h0A3 (dssR xM xListZ).1.z3.length h0C3, .int .i64 (dssR xM xListZ).1.p] 28)).cell? ⟨v24.heap.size, 5, none⟩ = some (.slice h0A3 (dssR xM xListZ).1.z3.length h0C3) := by go_simp
  have ch06 : (v24.alloc (.cells #[.int .i64 (dssR xM xListZ).1.b1, .slice h0A1 (dssR xM xListZ).1.z1.length h0C1, .int .i64 (dssR xM xListZ).1.b2, .slice h0A2 (dssR xM xListZ).1.z2.length h0C2, .int .i64 (dssR xM xListZ).1.b3, .slice h0A3 (dssR xM xListZ).1.z3.length h0C3, .int .i64 (dssR xM xListZ).1.p] 28)).cell? ⟨v24.heap.size, 6, none⟩ = some (.int .i64 (dssR xM xListZ).1.p) := by go_simp
  have q40 : macEqB (dssR xM xListZ).1 (dssR xM xListZ).1 = true := macEqB_self _
  go_wp2_with fail
  obtain ⟨v25, hu⟩ : ∃ u, u = (v24.alloc (.cells #[.int .i64 (dssR xM xListZ).1.b1, .slice h0A1 (dssR xM xListZ).1.z1.length h0C1, .int .i64 (dssR xM xListZ).1.b2, .slice h0A2 (dssR xM xListZ).1.z2.length h0C2, .int .i64 (dssR xM xListZ).1.b3, .slice h0A3 (dssR xM xListZ).1.z3.length h0C3, .int .i64 (dssR xM xListZ).1.p] 28)) := ⟨_, rfl⟩
  have s41 : Hid (v24.heap.size + 1 ≤ v25.heap.size) := Lib.hid (by rw [hu]; simp)
  rw [← hu] at cxM0 cxM1 cxM2 cxM3 cxM4 cxM5 cxM6 cw00 cw01 cw02 cw03 cw04 cw05 cw06 cx00 cx01 cx02 cx03 cx04 cx05 cx06 cg00 cg01 cg02 cg03 cg04 cg05 cg06 ch00 ch01 ch02 ch03 ch04 ch05 ch06 ow0 ot9 ot13 og0 oh0 hbel ⊢
  clear hu
  refine (eqMachine_any (dssR xM xListZ).1 (dssR xM xListZ).1 h0A1 h0C1 h0A2 h0C2 h0A3 h0C3 w0A1 w0C1 w0A2 w0C2 w0A3 w0C3 v25 oh0.rd ow0.rd).mono ?_
  rintro e v26 ⟨rfl, hb⟩
  have s42 : Hid (v25.heap.size ≤ v26.heap.size) := Lib.hid hb.size
  replace cxM0 := kept hb cxM0
  replace cxM1 := kept hb cxM1
  replace cxM2 := kept hb cxM2
  replace cxM3 := kept hb cxM3
  replace cxM4 := kept hb cxM4
  replace cxM5 := kept hb cxM5
  replace cxM6 := kept hb cxM6
  replace cw00 := kept hb cw00
  replace cw01 := kept hb cw01
  replace cw02 := kept hb cw02
  replace cw03 := kept hb cw03
  replace cw04 := kept hb cw04
  replace cw05 := kept hb cw05
  replace cw06 := kept hb cw06
  replace cx00 := kept hb cx00
  replace cx01 := kept hb cx01
  replace cx02 := kept hb cx02
  replace cx03 := kept hb cx03
  replace cx04 := kept hb cx04
  replace cx05 := kept hb cx05
  replace cx06 := kept hb cx06
  replace cg00 := kept hb cg00
  replace cg01 := kept hb cg01
  replace cg02 := kept hb cg02
  replace cg03 := kept hb cg03
  replace cg04 := kept hb cg04
  replace cg05 := kept hb cg05
  replace cg06 := kept hb cg06
  replace ch00 := kept hb ch00
  replace ch01 := kept hb ch01
  replace ch02 := kept hb ch02
  replace ch03 := kept hb ch03
  replace ch04 := kept hb ch04
  replace ch05 := kept hb ch05
  replace ch06 := kept hb ch06
  replace ow0 := ow0.below hb
  replace ot9 := ot9.below hb
  replace ot13 := ot13.below hb
  replace og0 := og0.below hb
  replace oh0 := oh0.below hb
  replace hbel := hbel.trans (hb.mono hbel.size)
  clear hb
  go_wp2_with fail
  refine (heldMachine_any (dssR xM xListZ).1 g0A1 g0C1 g0A2 g0C2 g0A3 g0C3 1 (dssR xM xListZ).1.z1.length (dssR xM xListZ).1.z2.length (dssR xM xListZ).1.z3.length v26 og0.rd (by have := ow0.len; have := ot9.len; have := ot13.len; have := og0.len; have := oh0.len; have := hxM.len; have := hxList.len; omega) (by have := ow0.len; have := ot9.len; have := ot13.len; have := og0.len; have := oh0.len; have := hxM.len; have := hxList.len; omega)).mono ?_
  rintro e v27 ⟨rfl, hb⟩
  have s43 : Hid (v26.heap.size ≤ v27.heap.size) := Lib.hid hb.size
  replace cxM0 := kept hb cxM0
  replace cxM1 := kept hb cxM1
  replace cxM2 := kept hb cxM2
  replace cxM3 := kept hb cxM3
  replace cxM4 := kept hb cxM4
  replace cxM5 := kept hb cxM5
  replace cxM6 := kept hb cxM6
  replace cw00 := kept hb cw00
  replace cw01 := kept hb cw01
  replace cw02 := kept hb cw02
  replace cw03 := kept hb cw03
  replace cw04 := kept hb cw04
  replace cw05 := kept hb cw05
  replace cw06 := kept hb cw06
  replace cx00 := kept hb cx00
  replace cx01 := kept hb cx01
  replace cx02 := kept hb cx02
  replace cx03 := kept hb cx03
  replace cx04 := kept hb cx04
  replace cx05 := kept hb cx05
  replace cx06 := kept hb cx06
  replace cg00 := kept hb cg00
  replace cg01 := kept hb cg01
  replace cg02 := kept hb cg02
  replace cg03 := kept hb cg03
  replace cg04 := kept hb cg04
  replace cg05 := kept hb cg05
  replace cg06 := kept hb cg06
  replace ch00 := kept hb ch00
  replace ch01 := kept hb ch01
  replace ch02 := kept hb ch02
  replace ch03 := kept hb ch03
  replace ch04 := kept hb ch04
  replace ch05 := kept hb ch05
  replace ch06 := kept hb ch06
  replace ow0 := ow0.below hb
  replace ot9 := ot9.below hb
  replace ot13 := ot13.below hb
  replace og0 := og0.below hb
  replace oh0 := oh0.below hb
  replace hbel := hbel.trans (hb.mono hbel.size)
  clear hb
  go_wp2
  go_ret
  exact ⟨rfl, hbel⟩

/-- The door's own heap meets the condition: closed facts. -/
theorem door_met (os : Os) (args : Array Value) : laidMetH Tryd.prog Rows.fnExactDoStrokesRow.laid ((World.laidAll Tryd.prog os Rows.fnExactDoStrokesRow.laid).forCall (fun _ _ => 0) ⟨#[], args, []⟩).memory :=
  by rw [MakeChecks.laidMetH_plain _ _ _ (by kernel_rfl)]; exact laidMet_laidAll _ (by kernel_rfl) (by kernel_rfl)

set_option maxRecDepth 100000 in
theorem lifted (os : Os) (started : os.Started) (H : Type) (enc : TypeId × Value → H) :
    ReturnsInHanded {} Tryd.checked os 11 .any (fun w args => (Rows.fnExactDoStrokesSpec.pre enc Tryd.prog Tryd.f11 [] false w args ∧ laidMetH Tryd.prog Rows.fnExactDoStrokesRow.laid w) ∧ sizedMet enc Tryd.prog Tryd.f11 (OpenSpec.ofChange Rows.fnExactDoStrokesSpec) false w args)
      (Rows.fnExactDoStrokesSpec.post enc Tryd.prog Tryd.f11 false true false false) := by
  refine returnsInHanded_of_change_and (C := Tryd.checked) (X := fun w _ => laidMetH Tryd.prog Rows.fnExactDoStrokesRow.laid w) (fun _ _ _ hh h => h.of_heap hh) own_knob started (by kernel_rfl) Tryd.func11
    (ChangeSpec.witness_shaped (enc := enc) (C := Tryd.checked) (os := os) (X := fun w _ => laidMetH Tryd.prog Rows.fnExactDoStrokesRow.laid w) false (World.laidAll Tryd.prog os Rows.fnExactDoStrokesRow.laid) #[.agg #[.int .i64 0, .slice none 0 0, .int .i64 0, .slice none 0 0, .int .i64 0, .slice none 0 0, .int .i64 0], .slice none 0 0] 8 (World.laidAll_os _ _ _) (World.shaped_of_ZipB (by kernel_rfl) (by kernel_rfl)) (by kernel_rfl) (by kernel_rfl) (by kernel_rfl) (door_met os _)) ?_
  intro W base args ds gs before hval0 hW _ _ hL _
  have hval : ∀ (j : Nat) t v, Tryd.f11.params[j]? = some t → args[j]? = some v → Value.okWide Tryd.prog W .any base t v := hval0
  have hW' := hW
  obtain ⟨p, q, hA0, hV0, rfl, hfz, hnd⟩ := hW
  have hA : DataW.TrodAll enc Tryd.prog W 0 (fun _ => true) true Tryd.f11.params.toList args.toList ds p := hA0
  have hV : DataW.TrodVars enc Tryd.prog W (fun _ => true) ["loop.example/g00930/impl.errBell"] gs q := hV0
  rw [Tryd.params11] at hA hval
  obtain ⟨v0, vs0, d0, ds0, p0, q0, hargs, rfl, rfl, h0, r0⟩ := trodAll_cons hA
  obtain ⟨v1, vs1, d1, ds1, p1, q1, rfl, rfl, rfl, h1, r1⟩ := trodAll_cons r0
  obtain ⟨rfl, rfl, rfl⟩ := trodAll_nil r1
  obtain rfl : args = #[v0, v1] := by cases args; simp_all
  have k0 := h0
  have lt0 : ∀ x ∈ p0, x.block < W.heap.size := by obtain ⟨m, hm⟩ := k0; exact DataW.trod_lt m _ _ _ hm
  obtain ⟨xM, xMA1, xMC1, xMA2, xMC2, xMA3, xMC3, rfl, hxM, bxM⟩ := open_Machine (hval 0 72 v0 rfl rfl) h0
  have k1 := h1
  have lt1 : ∀ x ∈ p1, x.block < W.heap.size := by obtain ⟨m, hm⟩ := k1; exact DataW.trod_lt m _ _ _ hm
  obtain ⟨xListA, xListC, xListZ, rfl, hxList⟩ := open_Int64S (hval 1 24 v1 rfl rfl) h1
  have hD := of_laid hL
  clear hA0 hval0
  obtain ⟨gd, rfl⟩ : ∃ gd, gs = [gd] := by
    obtain ⟨_, _, _, _, d, _, h, _⟩ := trodVars_one hV
    exact ⟨d, h⟩
  refine (law_walk xM xMA1 xMC1 xMA2 xMC2 xMA3 xMC3 xListA xListC xListZ W hxM bxM hxList hD).mono fun e W' ⟨he, bel⟩ => ?_
  subst he
  obtain ⟨q', hq'⟩ := var_stays gVar tVar (by kernel_rfl) (of_decide_eq_true (by kernel_rfl)) hV bel
  exact ⟨_, rfl, _, _, _, [], _, q', hW', trodAll_mk1 (shut_bool Tryd.underlying4 _), (trodAll_cons_mk (Below.trod laid_out (by kernel_rfl) (of_decide_eq_true (by kernel_rfl)) k0 bel lt0) (trodAll_cons_mk (Below.trod laid_out (by kernel_rfl) (of_decide_eq_true (by kernel_rfl)) k1 bel lt1) trodAll_mk0)), hq', bel.frame _, fun h => by cases h⟩

set_option maxHeartbeats 20000000 in
theorem closed : joinedFacts Tryd.prog 11 Tryd.f11 Rows.fnExactDoStrokesSpec Rows.fnExactDoStrokesRow = true := by
  simp only [joinedFacts, Bool.and_eq_true]
  refine ⟨⟨⟨⟨⟨⟨⟨⟨⟨⟨⟨⟨⟨⟨⟨⟨⟨⟨⟨⟨⟨⟨⟨⟨⟨⟨⟨⟨⟨⟨⟨?_, laid_out⟩, fact_maps⟩, ?_⟩, ?_⟩, ?_⟩, fact_stops⟩, ?_⟩, fact_knobs⟩, ?_⟩, ?_⟩, ?_⟩, ?_⟩, ?_⟩, ?_⟩, ?_⟩, ?_⟩, ?_⟩, ?_⟩, ?_⟩, ?_⟩, ?_⟩, fact_plain⟩, ?_⟩, fact_heard⟩, fact_enter⟩, fact_lift⟩, ?_⟩, ?_⟩, ?_⟩, ?_⟩, ?_⟩
  all_goals (as_aux_lemma => kernel_rfl)

theorem over : Rows.FnExactDoStrokesSaid :=
  OpenClaim.holds_of_wide 11 Tryd.f11 rfl rfl rfl rfl rfl rfl rfl ⟨rfl, rfl, rfl, rfl, rfl⟩ rfl rfl rfl rfl rfl (by as_aux_lemma => kernel_rfl) Tryd.func11 closed
    (of_decide_eq_true (by as_aux_lemma => kernel_rfl)) (by unfold Func.isWrapper; first | (rw [if_pos (by decide +kernel)]; kernel_rfl) | (rw [if_neg (by decide +kernel)]; exact ⟨rfl, rfl⟩))
    (fun os started H enc _ => lifted os started H enc)

set_option maxHeartbeats 20000000 in
/-- The statement: the tied card. -/
theorem proved : Rows.FnExactDoStrokesCardSaid :=
  Claim7.holds_tied_plain_at .later [] [.sentinel] true (true, "ec655d68bd83ee750dda8ab1bd41c2789a9eb6bdf7c44e01156a152df2f96c04") true
    over (fun _ h => by cases h) (by as_aux_lemma => kernel_rfl) (fun _ h => by cases h) fnExactDoStrokes_row_tie rfl ⟨rfl, rfl⟩ (by as_aux_lemma => kernel_rfl) rfl
    (fun f fn hf hfn => by
      obtain rfl : f = 11 := Option.some.inj ((show Tryd.prog.funcNamed "loop.example/g00930/laws.FnExactDoStrokes" = some 11 by as_aux_lemma => kernel_rfl).symm.trans hf) |>.symm
      obtain rfl : fn = Tryd.f11 := (Option.some.inj (Tryd.func11.symm.trans hfn)).symm
      exact ⟨(by as_aux_lemma => kernel_rfl), fun j t ht => by
        rw [Tryd.params11] at ht
        have hm : t ∈ [72, 24] := by simpa using Array.mem_of_getElem? ht
        have hall : ([72, 24].all fun u => !Tryd.prog.wantsStandIn u) = true := by as_aux_lemma => kernel_rfl
        exact (show Tryd.prog.wantsStandIn t = false by simpa using List.all_eq_true.1 hall t hm)⟩)
    (by as_aux_lemma => kernel_rfl)
end Go.Proofs.YtlahobdopmdfmaaDoor.lawDoStrokes
