/-
  laws.FnExactDoStroke returns true at every input (no condition, but the texts of the library's tables, which the card ties), and leaves its arguments as they were.
-/
import Derived.Test.YtlahobdopmdfmaaDoorMacLow
import Derived.Test.YtlahobdopmdfmaaDoorMacHi
import Derived.Test.YtlahobdopmdfmaaDoorDoorFrame
import Derived.Deep.RegionHeld3
import Derived.Lay
import Derived.Test.YtlahobdopmdfmaaDoorFacts
import Derived.Test.YtlahobdopmdfmaaDoorRows
namespace Go.Proofs.YtlahobdopmdfmaaDoor.lawDoStroke
open Go.ChangeShapes Go.WideShapes Go.ChangeAt Go.WideElems Go.RowKit Go.Joins
open Go.ChangeMaps (open_string shut_string)

theorem rowErr (u : TypeId) (h : Tryd.prog.typeName? 3 u = some "*errors.errorString") : u = 220 :=
  typeName_ptr_named (nm := "errors.errorString") (by rw [show "*" ++ "errors.errorString" = "*errors.errorString" by decide]; kernel_rfl) (by kernel_rfl) (by decide) u (by rw [show "*" ++ "errors.errorString" = "*errors.errorString" by decide]; exact h)
theorem gVar : Tryd.prog.globalNamed "loop.example/g00930/impl.errBell" = some 0 := by kernel_rfl
theorem tVar : (Tryd.prog.globals[0]?).map (·.type) = some 117 := by kernel_rfl
def Door (w : World) : Prop := BellD w
theorem door_below {w w' : World} (h : Door w) (hb : Below w.heap.size w w') : Door w' := h.below hb
theorem of_laid {W : World} (h : laidMetH Tryd.prog Rows.fnExactDoStrokeRow.laid W) : Door W := by
  rw [MakeChecks.laidMetH_plain _ _ _ (by kernel_rfl)] at h
  obtain ⟨a, t, hv, _⟩ := laid_sentinel h (g := 0) (ti := 117) (tp := 220) (te := 243) (ts := 9) (by kernel_rfl) (by kernel_rfl) Tryd.underlying117 rowErr Tryd.underlying220 Tryd.underlying243 rfl rfl Tryd.underlying9 (by kernel_rfl) (by kernel_rfl)
  exact ⟨_, by simpa [BellAt, bellV] using World.var?_cell (g := 0) (by kernel_rfl) hv 0⟩

set_option maxRecDepth 100000 in
set_option maxHeartbeats 4000000 in
theorem law_walk (xM : Mac) (xMA1 : Option Addr) (xMC1 : Nat) (xMA2 : Option Addr) (xMC2 : Nat) (xMA3 : Option Addr) (xMC3 : Nat) (xKind : Int) (w : World) (hxM : Raw3 w xMA1 xM.z1 xMA2 xM.z2 xMA3 xM.z3) (bxM : I64 xM.b1 ∧ I64 xM.b2 ∧ I64 xM.b3 ∧ I64 xM.p) (bxKind : I64 xKind) (hD : Door w) :
    Calls Tryd.prog 10 #[.agg #[.int .i64 xM.b1, .slice xMA1 xM.z1.length xMC1, .int .i64 xM.b2, .slice xMA2 xM.z2.length xMC2, .int .i64 xM.b3, .slice xMA3 xM.z3.length xMC3, .int .i64 xM.p], .int .i64 xKind] w fun e w' => e = .returned (.bool true) ∧ Below w.heap.size w w' := by
  have hbel : Below w.heap.size w (w.alloc (.cells #[.int .i64 xM.b1, .slice xMA1 xM.z1.length xMC1, .int .i64 xM.b2, .slice xMA2 xM.z2.length xMC2, .int .i64 xM.b3, .slice xMA3 xM.z3.length xMC3, .int .i64 xM.p] 72)) := (Below.refl _ _).alloc (by simp <;> omega) _
  have cxM0 : (w.alloc (.cells #[.int .i64 xM.b1, .slice xMA1 xM.z1.length xMC1, .int .i64 xM.b2, .slice xMA2 xM.z2.length xMC2, .int .i64 xM.b3, .slice xMA3 xM.z3.length xMC3, .int .i64 xM.p] 72)).cell? ⟨w.heap.size, 0, none⟩ = some (.int .i64 xM.b1) := by go_simp
  have cxM1 : (w.alloc (.cells #[.int .i64 xM.b1, .slice xMA1 xM.z1.length xMC1, .int .i64 xM.b2, .slice xMA2 xM.z2.length xMC2, .int .i64 xM.b3, .slice xMA3 xM.z3.length xMC3, .int .i64 xM.p] 72)).cell? ⟨w.heap.size, 1, none⟩ = some (.slice xMA1 xM.z1.length xMC1) := by go_simp
  have cxM2 : (w.alloc (.cells #[.int .i64 xM.b1, .slice xMA1 xM.z1.length xMC1, .int .i64 xM.b2, .slice xMA2 xM.z2.length xMC2, .int .i64 xM.b3, .slice xMA3 xM.z3.length xMC3, .int .i64 xM.p] 72)).cell? ⟨w.heap.size, 2, none⟩ = some (.int .i64 xM.b2) := by go_simp
  have cxM3 : (w.alloc (.cells #[.int .i64 xM.b1, .slice xMA1 xM.z1.length xMC1, .int .i64 xM.b2, .slice xMA2 xM.z2.length xMC2, .int .i64 xM.b3, .slice xMA3 xM.z3.length xMC3, .int .i64 xM.p] 72)).cell? ⟨w.heap.size, 3, none⟩ = some (.slice xMA2 xM.z2.length xMC2) := by go_simp
  have cxM4 : (w.alloc (.cells #[.int .i64 xM.b1, .slice xMA1 xM.z1.length xMC1, .int .i64 xM.b2, .slice xMA2 xM.z2.length xMC2, .int .i64 xM.b3, .slice xMA3 xM.z3.length xMC3, .int .i64 xM.p] 72)).cell? ⟨w.heap.size, 4, none⟩ = some (.int .i64 xM.b3) := by go_simp
  have cxM5 : (w.alloc (.cells #[.int .i64 xM.b1, .slice xMA1 xM.z1.length xMC1, .int .i64 xM.b2, .slice xMA2 xM.z2.length xMC2, .int .i64 xM.b3, .slice xMA3 xM.z3.length xMC3, .int .i64 xM.p] 72)).cell? ⟨w.heap.size, 5, none⟩ = some (.slice xMA3 xM.z3.length xMC3) := by go_simp
  have cxM6 : (w.alloc (.cells #[.int .i64 xM.b1, .slice xMA1 xM.z1.length xMC1, .int .i64 xM.b2, .slice xMA2 xM.z2.length xMC2, .int .i64 xM.b3, .slice xMA3 xM.z3.length xMC3, .int .i64 xM.p] 72)).cell? ⟨w.heap.size, 6, none⟩ = some (.int .i64 xM.p) := by go_simp
  go_enter Tryd.func10, Tryd.ntmps10
  go_wp2_with fail
  obtain ⟨v1, hu⟩ : ∃ u, u = (w.alloc (.cells #[.int .i64 xM.b1, .slice xMA1 xM.z1.length xMC1, .int .i64 xM.b2, .slice xMA2 xM.z2.length xMC2, .int .i64 xM.b3, .slice xMA3 xM.z3.length xMC3, .int .i64 xM.p] 72)) := ⟨_, rfl⟩
  have s1 : Hid (w.heap.size + 1 ≤ v1.heap.size) := Lib.hid (by rw [hu]; simp)
  rw [← hu] at cxM0 cxM1 cxM2 cxM3 cxM4 cxM5 cxM6 hbel ⊢
  clear hu
  rcases Int.lt_or_le (leftOf (xM.z1.length + xM.z2.length + xM.z3.length) 1048576) 0 with k1 | k1
  · refine (szMachine_any xM.b1 xMA1 xM.z1.length xMC1 xM.b2 xMA2 xM.z2.length xMC2 xM.b3 xMA3 xM.z3.length xMC3 xM.p 1048576 v1 hxM.len (by omega) (by omega)).mono ?_
    rintro e v2 ⟨rfl, hb⟩
    go_wp2
    go_ret
    exact ⟨rfl, hbel.trans (hb.mono hbel.size)⟩
  have m1 := leftOf_le (xM.z1.length + xM.z2.length + xM.z3.length) 1048576 (by omega)
  refine (szMachine_any xM.b1 xMA1 xM.z1.length xMC1 xM.b2 xMA2 xM.z2.length xMC2 xM.b3 xMA3 xM.z3.length xMC3 xM.p 1048576 v1 hxM.len (by omega) (by omega)).mono ?_
  rintro e v2 ⟨rfl, hb⟩
  have s2 : Hid (v1.heap.size ≤ v2.heap.size) := Lib.hid hb.size
  replace cxM0 := kept hb cxM0
  replace cxM1 := kept hb cxM1
  replace cxM2 := kept hb cxM2
  replace cxM3 := kept hb cxM3
  replace cxM4 := kept hb cxM4
  replace cxM5 := kept hb cxM5
  replace cxM6 := kept hb cxM6
  replace hbel := hbel.trans (hb.mono hbel.size)
  clear hb
  have zxM := hxM.wf
  replace hxM := hxM.rd (by have := leftOf_len k1; omega)
  go_wp2_with fail
  refine (toMachine_any xM xMA1 xMC1 xMA2 xMC2 xMA3 xMC3 v2 (hxM.below hbel)).mono ?_
  rintro e v3 ⟨t3A1, t3C1, t3A2, t3C2, t3A3, t3C3, rfl, ot3, hb⟩
  have s4 : Hid (v2.heap.size ≤ v3.heap.size) := Lib.hid hb.size
  replace cxM0 := kept hb cxM0
  replace cxM1 := kept hb cxM1
  replace cxM2 := kept hb cxM2
  replace cxM3 := kept hb cxM3
  replace cxM4 := kept hb cxM4
  replace cxM5 := kept hb cxM5
  replace cxM6 := kept hb cxM6
  replace hbel := hbel.trans (hb.mono hbel.size)
  clear hb
  go_wp2_with fail
  refine (specDoStroke xM t3A1 t3C1 t3A2 t3C2 t3A3 t3C3 xKind v3 ot3.rd zxM bxM bxKind).mono ?_
  rintro e v4 ⟨w0A1, w0C1, w0A2, w0C2, w0A3, w0C3, rfl, ow0, hb⟩
  have s5 : Hid (v3.heap.size ≤ v4.heap.size) := Lib.hid hb.size
  replace cxM0 := kept hb cxM0
  replace cxM1 := kept hb cxM1
  replace cxM2 := kept hb cxM2
  replace cxM3 := kept hb cxM3
  replace cxM4 := kept hb cxM4
  replace cxM5 := kept hb cxM5
  replace cxM6 := kept hb cxM6
  replace ot3 := ot3.below hb
  replace hbel := hbel.trans (hb.mono hbel.size)
  clear hb
  clear ot3
  have ha6 : Below v4.heap.size v4 (v4.alloc (.cells #[.int .i64 (dsR xM xKind).1.b1, .slice w0A1 (dsR xM xKind).1.z1.length w0C1, .int .i64 (dsR xM xKind).1.b2, .slice w0A2 (dsR xM xKind).1.z2.length w0C2, .int .i64 (dsR xM xKind).1.b3, .slice w0A3 (dsR xM xKind).1.z3.length w0C3, .int .i64 (dsR xM xKind).1.p] 28)) := (Below.refl _ _).alloc (by simp <;> omega) _
  replace cxM0 := kept ha6 cxM0
  replace cxM1 := kept ha6 cxM1
  replace cxM2 := kept ha6 cxM2
  replace cxM3 := kept ha6 cxM3
  replace cxM4 := kept ha6 cxM4
  replace cxM5 := kept ha6 cxM5
  replace cxM6 := kept ha6 cxM6
  replace ow0 := ow0.below ha6
  replace hbel := hbel.trans (ha6.mono hbel.size)
  clear ha6
  have cw00 : (v4.alloc (.cells #[.int .i64 (dsR xM xKind).1.b1, .slice w0A1 (dsR xM xKind).1.z1.length w0C1, .int .i64 (dsR xM xKind).1.b2, .slice w0A2 (dsR xM xKind).1.z2.length w0C2, .int .i64 (dsR xM xKind).1.b3, .slice w0A3 (dsR xM xKind).1.z3.length w0C3, .int .i64 (dsR xM xKind).1.p] 28)).cell? ⟨v4.heap.size, 0, none⟩ = some (.int .i64 (dsR xM xKind).1.b1) := by go_simp
  have cw01 : (v4.alloc (.cells #[.int .i64 (dsR xM xKind).1.b1, .slice w0A1 (dsR xM xKind).1.z1.length w0C1, .int .i64 (dsR xM xKind).1.b2, .slice w0A2 (dsR xM xKind).1.z2.length w0C2, .int .i64 (dsR xM xKind).1.b3, .slice w0A3 (dsR xM xKind).1.z3.length w0C3, .int .i64 (dsR xM xKind).1.p] 28)).cell? ⟨v4.heap.size, 1, none⟩ = some (.slice w0A1 (dsR xM xKind).1.z1.length w0C1) := by go_simp
  have cw02 : (v4.alloc (.cells #[.int .i64 (dsR xM xKind).1.b1, .slice w0A1 (dsR xM xKind).1.z1.length w0C1, .int .i64 (dsR xM xKind).1.b2, .slice w0A2 (dsR xM xKind).1.z2.length w0C2, .int .i64 (dsR xM xKind).1.b3, .slice w0A3 (dsR xM xKind).1.z3.length w0C3, .int .i64 (dsR xM xKind).1.p] 28)).cell? ⟨v4.heap.size, 2, none⟩ = some (.int .i64 (dsR xM xKind).1.b2) := by go_simp
  have cw03 : (v4.alloc (.cells #[.int .i64 (dsR xM xKind).1.b1, .slice w0A1 (dsR xM xKind).1.z1.length w0C1, .int .i64 (dsR xM xKind).1.b2, .slice w0A2 (dsR xM xKind).1.z2.length w0C2, .int .i64 (dsR xM xKind).1.b3, .slice w0A3 (dsR xM xKind).1.z3.length w0C3, .int .i64 (dsR xM xKind).1.p] 28)).cell? ⟨v4.heap.size, 3, none⟩ = some (.slice w0A2 (dsR xM xKind).1.z2.length w0C2) := by go_simp
  have cw04 : (v4.alloc (.cells #[.int .i64 (dsR xM xKind).1.b1, .slice w0A1 (dsR xM xKind).1.z1.length w0C1, .int .i64 (dsR xM xKind).1.b2, .slice w0A2 (dsR xM xKind).1.z2.length w0C2, .int .i64 (dsR xM xKind).1.b3, .slice w0A3 (dsR xM xKind).1.z3.length w0C3, .int .i64 (dsR xM xKind).1.p] 28)).cell? ⟨v4.heap.size, 4, none⟩ = some (.int .i64 (dsR xM xKind).1.b3) := by go_simp
  have cw05 : (v4.alloc (.cells #[.int .i64 (dsR xM xKind).1.b1, .slice w0A1 (dsR xM xKind).1.z1.length w0C1, .int .i64 (dsR xM xKind).1.b2, .slice w0A2 (dsR xM xKind).1.z2.length w0C2, .int .i64 (dsR xM xKind).1.b3, .slice w0A3 (dsR xM xKind).1.z3.length w0C3, .int .i64 (dsR xM xKind).1.p] 28)).cell? ⟨v4.heap.size, 5, none⟩ = some (.slice w0A3 (dsR xM xKind).1.z3.length w0C3) := by go_simp
  have cw06 : (v4.alloc (.cells #[.int .i64 (dsR xM xKind).1.b1, .slice w0A1 (dsR xM xKind).1.z1.length w0C1, .int .i64 (dsR xM xKind).1.b2, .slice w0A2 (dsR xM xKind).1.z2.length w0C2, .int .i64 (dsR xM xKind).1.b3, .slice w0A3 (dsR xM xKind).1.z3.length w0C3, .int .i64 (dsR xM xKind).1.p] 28)).cell? ⟨v4.heap.size, 6, none⟩ = some (.int .i64 (dsR xM xKind).1.p) := by go_simp
  go_wp2_with fail
  obtain ⟨v5, hu⟩ : ∃ u, u = (v4.alloc (.cells #[.int .i64 (dsR xM xKind).1.b1, .slice w0A1 (dsR xM xKind).1.z1.length w0C1, .int .i64 (dsR xM xKind).1.b2, .slice w0A2 (dsR xM xKind).1.z2.length w0C2, .int .i64 (dsR xM xKind).1.b3, .slice w0A3 (dsR xM xKind).1.z3.length w0C3, .int .i64 (dsR xM xKind).1.p] 28)) := ⟨_, rfl⟩
  have s8 : Hid (v4.heap.size + 1 ≤ v5.heap.size) := Lib.hid (by rw [hu]; simp)
  rw [← hu] at cxM0 cxM1 cxM2 cxM3 cxM4 cxM5 cxM6 cw00 cw01 cw02 cw03 cw04 cw05 cw06 ow0 hbel ⊢
  clear hu
  refine (toMachine_any xM xMA1 xMC1 xMA2 xMC2 xMA3 xMC3 v5 (hxM.below hbel)).mono ?_
  rintro e v6 ⟨t7A1, t7C1, t7A2, t7C2, t7A3, t7C3, rfl, ot7, hb⟩
  have s9 : Hid (v5.heap.size ≤ v6.heap.size) := Lib.hid hb.size
  replace cxM0 := kept hb cxM0
  replace cxM1 := kept hb cxM1
  replace cxM2 := kept hb cxM2
  replace cxM3 := kept hb cxM3
  replace cxM4 := kept hb cxM4
  replace cxM5 := kept hb cxM5
  replace cxM6 := kept hb cxM6
  replace cw00 := kept hb cw00
  replace cw01 := kept hb cw01
  replace cw02 := kept hb cw02
  replace cw03 := kept hb cw03
  replace cw04 := kept hb cw04
  replace cw05 := kept hb cw05
  replace cw06 := kept hb cw06
  replace ow0 := ow0.below hb
  replace hbel := hbel.trans (hb.mono hbel.size)
  clear hb
  have ha10 : Below v6.heap.size v6 (v6.alloc (.cells #[.int .i64 xM.b1, .slice t7A1 xM.z1.length t7C1, .int .i64 xM.b2, .slice t7A2 xM.z2.length t7C2, .int .i64 xM.b3, .slice t7A3 xM.z3.length t7C3, .int .i64 xM.p] 28)) := (Below.refl _ _).alloc (by simp <;> omega) _
  replace cxM0 := kept ha10 cxM0
  replace cxM1 := kept ha10 cxM1
  replace cxM2 := kept ha10 cxM2
  replace cxM3 := kept ha10 cxM3
  replace cxM4 := kept ha10 cxM4
  replace cxM5 := kept ha10 cxM5
  replace cxM6 := kept ha10 cxM6
  replace cw00 := kept ha10 cw00
  replace cw01 := kept ha10 cw01
  replace cw02 := kept ha10 cw02
  replace cw03 := kept ha10 cw03
  replace cw04 := kept ha10 cw04
  replace cw05 := kept ha10 cw05
  replace cw06 := kept ha10 cw06
  replace ow0 := ow0.below ha10
  replace ot7 := ot7.below ha10
  replace hbel := hbel.trans (ha10.mono hbel.size)
  clear ha10
  have cx00 : (v6.alloc (.cells #[.int .i64 xM.b1, .slice t7A1 xM.z1.length t7C1, .int .i64 xM.b2, .slice t7A2 xM.z2.length t7C2, .int .i64 xM.b3, .slice t7A3 xM.z3.length t7C3, .int .i64 xM.p] 28)).cell? ⟨v6.heap.size, 0, none⟩ = some (.int .i64 xM.b1) := by go_simp
  have cx01 : (v6.alloc (.cells #[.int .i64 xM.b1, .slice t7A1 xM.z1.length t7C1, .int .i64 xM.b2, .slice t7A2 xM.z2.length t7C2, .int .i64 xM.b3, .slice t7A3 xM.z3.length t7C3, .int .i64 xM.p] 28)).cell? ⟨v6.heap.size, 1, none⟩ = some (.slice t7A1 xM.z1.length t7C1) := by go_simp
  have cx02 : (v6.alloc (.cells #[.int .i64 xM.b1, .slice t7A1 xM.z1.length t7C1, .int .i64 xM.b2, .slice t7A2 xM.z2.length t7C2, .int .i64 xM.b3, .slice t7A3 xM.z3.length t7C3, .int .i64 xM.p] 28)).cell? ⟨v6.heap.size, 2, none⟩ = some (.int .i64 xM.b2) := by go_simp
  have cx03 : (v6.alloc (.cells #[.int .i64 xM.b1, .slice t7A1 xM.z1.length t7C1, .int .i64 xM.b2, .slice t7A2 xM.z2.length t7C2, .int .i64 xM.b3, .slice t7A3 xM.z3.length t7C3, .int .i64 xM.p] 28)).cell? ⟨v6.heap.size, 3, none⟩ = some (.slice t7A2 xM.z2.length t7C2) := by go_simp
  have cx04 : (v6.alloc (.cells #[.int .i64 xM.b1, .slice t7A1 xM.z1.length t7C1, .int .i64 xM.b2, .slice t7A2 xM.z2.length t7C2, .int .i64 xM.b3, .slice t7A3 xM.z3.length t7C3, .int .i64 xM.p] 28)).cell? ⟨v6.heap.size, 4, none⟩ = some (.int .i64 xM.b3) := by go_simp
  have cx05 : (v6.alloc (.cells #[.int .i64 xM.b1, .slice t7A1 xM.z1.length t7C1, .int .i64 xM.b2, .slice t7A2 xM.z2.length t7C2, .int .i64 xM.b3, .slice t7A3 xM.z3.length t7C3, .int .i64 xM.p] 28)).cell? ⟨v6.heap.size, 5, none⟩ = some (.slice t7A3 xM.z3.length t7C3) := by go_simp
  have cx06 : (v6.alloc (.cells #[.int .i64 xM.b1, .slice t7A1 xM.z1.length t7C1, .int .i64 xM.b2, .slice t7A2 xM.z2.length t7C2, .int .i64 xM.b3, .slice t7A3 xM.z3.length t7C3, .int .i64 xM.p] 28)).cell? ⟨v6.heap.size, 6, none⟩ = some (.int .i64 xM.p) := by go_simp
  go_wp2_with fail
  obtain ⟨v7, hu⟩ : ∃ u, u = (v6.alloc (.cells #[.int .i64 xM.b1, .slice t7A1 xM.z1.length t7C1, .int .i64 xM.b2, .slice t7A2 xM.z2.length t7C2, .int .i64 xM.b3, .slice t7A3 xM.z3.length t7C3, .int .i64 xM.p] 28)) := ⟨_, rfl⟩
  have s11 : Hid (v6.heap.size + 1 ≤ v7.heap.size) := Lib.hid (by rw [hu]; simp)
  rw [← hu] at cxM0 cxM1 cxM2 cxM3 cxM4 cxM5 cxM6 cw00 cw01 cw02 cw03 cw04 cw05 cw06 cx00 cx01 cx02 cx03 cx04 cx05 cx06 ow0 ot7 hbel ⊢
  clear hu
  refine (implDoStroke xM t7A1 t7C1 t7A2 t7C2 t7A3 t7C3 xKind v7 ot7.rd zxM bxM bxKind (door_below hD hbel)).mono ?_
  rintro e v8 ⟨g0A1, g0C1, g0A2, g0C2, g0A3, g0C3, rfl, og0, hb⟩
  have s12 : Hid (v7.heap.size ≤ v8.heap.size) := Lib.hid hb.size
  replace cxM0 := kept hb cxM0
  replace cxM1 := kept hb cxM1
  replace cxM2 := kept hb cxM2
  replace cxM3 := kept hb cxM3
  replace cxM4 := kept hb cxM4
  replace cxM5 := kept hb cxM5
  replace cxM6 := kept hb cxM6
  replace cw00 := kept hb cw00
  replace cw01 := kept hb cw01
  replace cw02 := kept hb cw02
  replace cw03 := kept hb cw03
  replace cw04 := kept hb cw04
  replace cw05 := kept hb cw05
  replace cw06 := kept hb cw06
  replace cx00 := kept hb cx00
  replace cx01 := kept hb cx01
  replace cx02 := kept hb cx02
  replace cx03 := kept hb cx03
  replace cx04 := kept hb cx04
  replace cx05 := kept hb cx05
  replace cx06 := kept hb cx06
  replace ow0 := ow0.below hb
  replace ot7 := ot7.below hb
  replace hbel := hbel.trans (hb.mono hbel.size)
  clear hb
  have ha13 : Below v8.heap.size v8 (v8.alloc (.cells #[.int .i64 (dsR xM xKind).1.b1, .slice g0A1 (dsR xM xKind).1.z1.length g0C1, .int .i64 (dsR xM xKind).1.b2, .slice g0A2 (dsR xM xKind).1.z2.length g0C2, .int .i64 (dsR xM xKind).1.b3, .slice g0A3 (dsR xM xKind).1.z3.length g0C3, .int .i64 (dsR xM xKind).1.p] 28)) := (Below.refl _ _).alloc (by simp <;> omega) _
  replace cxM0 := kept ha13 cxM0
  replace cxM1 := kept ha13 cxM1
  replace cxM2 := kept ha13 cxM2
  replace cxM3 := kept ha13 cxM3
  replace cxM4 := kept ha13 cxM4
  replace cxM5 := kept ha13 cxM5
  replace cxM6 := kept ha13 cxM6
  replace cw00 := kept ha13 cw00
  replace cw01 := kept ha13 cw01
  replace cw02 := kept ha13 cw02
  replace cw03 := kept ha13 cw03
  replace cw04 := kept ha13 cw04
  replace cw05 := kept ha13 cw05
  replace cw06 := kept ha13 cw06
  replace cx00 := kept ha13 cx00
  replace cx01 := kept ha13 cx01
  replace cx02 := kept ha13 cx02
  replace cx03 := kept ha13 cx03
  replace cx04 := kept ha13 cx04
  replace cx05 := kept ha13 cx05
  replace cx06 := kept ha13 cx06
  replace ow0 := ow0.below ha13
  replace ot7 := ot7.below ha13
  replace og0 := og0.below ha13
  replace hbel := hbel.trans (ha13.mono hbel.size)
  clear ha13
  have cg00 : (v8.alloc (.cells #[.int .i64 (dsR xM xKind).1.b1, .slice g0A1 (dsR xM xKind).1.z1.length g0C1, .int .i64 (dsR xM xKind).1.b2, .slice g0A2 (dsR xM xKind).1.z2.length g0C2, .int .i64 (dsR xM xKind).1.b3, .slice g0A3 (dsR xM xKind).1.z3.length g0C3, .int .i64 (dsR xM xKind).1.p] 28)).cell? ⟨v8.heap.size, 0, none⟩ = some (.int .i64 (dsR xM xKind).1.b1) := by go_simp
  have cg01 : (v8.alloc (.cells #[.int .i64 (dsR xM xKind).1.b1, .slice g0A1 (dsR xM xKind).1.z1.length g0C1, .int .i64 (dsR xM xKind).1.b2, .slice g0A2 (dsR xM xKind).1.z2.length g0C2, .int .i64 (dsR xM xKind).1.b3, .slice g0A3 (dsR xM xKind).1.z3.length g0C3, .int .i64 (dsR xM xKind).1.p] 28)).cell? ⟨v8.heap.size, 1, none⟩ = some (.slice g0A1 (dsR xM xKind).1.z1.length g0C1) := by go_simp
  have cg02 : (v8.alloc (.cells #[.int .i64 (dsR xM xKind).1.b1, .slice g0A1 (dsR xM xKind).1.z1.length g0C1, .int .i64 (dsR xM xKind).1.b2, .slice g0A2 (dsR xM xKind).1.z2.length g0C2, .int .i64 (dsR xM xKind).1.b3, .slice g0A3 (dsR xM xKind).1.z3.length g0C3, .int .i64 (dsR xM xKind).1.p] 28)).cell? ⟨v8.heap.size, 2, none⟩ = some (.int .i64 (dsR xM xKind).1.b2) := by go_simp
  have cg03 : (v8.alloc (.cells #[.int .i64 (dsR xM xKind).1.b1, .slice g0A1 (dsR xM xKind).1.z1.length g0C1, .int .i64 (dsR xM xKind).1.b2, .slice g0A2 (dsR xM xKind).1.z2.length g0C2, .int .i64 (dsR xM xKind).1.b3, .slice g0A3 (dsR xM xKind).1.z3.length g0C3, .int .i64 (dsR xM xKind).1.p] 28)).cell? ⟨v8.heap.size, 3, none⟩ = some (.slice g0A2 (dsR xM xKind).1.z2.length g0C2) := by go_simp
  have cg04 : (v8.alloc (.cells #[.int .i64 (dsR xM xKind).1.b1, .slice g0A1 (dsR xM xKind).1.z1.length g0C1, .int .i64 (dsR xM xKind).1.b2, .slice g0A2 (dsR xM xKind).1.z2.length g0C2, .int .i64 (dsR xM xKind).1.b3, .slice g0A3 (dsR xM xKind).1.z3.length g0C3, .int .i64 (dsR xM xKind).1.p] 28)).cell? ⟨v8.heap.size, 4, none⟩ = some (.int .i64 (dsR xM xKind).1.b3) := by go_simp
  have cg05 : (v8.alloc (.cells #[.int .i64 (dsR xM xKind).1.b1, .slice g0A1 (dsR xM xKind).1.z1.length g0C1, .int .i64 (dsR xM xKind).1.b2, .slice g0A2 (dsR xM xKind).1.z2.length g0C2, .int .i64 (dsR xM xKind).1.b3, .slice g0A3 (dsR xM xKind).1.z3.length g0C3, .int .i64 (dsR xM xKind).1.p] 28)).cell? ⟨v8.heap.size, 5, none⟩ = some (.slice g0A3 (dsR xM xKind).1.z3.length g0C3) := by go_simp
  have cg06 : (v8.alloc (.cells #[.int .i64 (dsR xM xKind).1.b1, .slice g0A1 (dsR xM xKind).1.z1.length g0C1, .int .i64 (dsR xM xKind).1.b2, .slice g0A2 (dsR xM xKind).1.z2.length g0C2, .int .i64 (dsR xM xKind).1.b3, .slice g0A3 (dsR xM xKind).1.z3.length g0C3, .int .i64 (dsR xM xKind).1.p] 28)).cell? ⟨v8.heap.size, 6, none⟩ = some (.int .i64 (dsR xM xKind).1.p) := by go_simp
  have q14 : macEqB (dsR xM xKind).1 (dsR xM xKind).1 = true := macEqB_self _
  go_wp2_with fail
  obtain ⟨v9, hu⟩ : ∃ u, u = (v8.alloc (.cells #[.int .i64 (dsR xM xKind).1.b1, .slice g0A1 (dsR xM xKind).1.z1.length g0C1, .int .i64 (dsR xM xKind).1.b2, .slice g0A2 (dsR xM xKind).1.z2.length g0C2, .int .i64 (dsR xM xKind).1.b3, .slice g0A3 (dsR xM xKind).1.z3.length g0C3, .int .i64 (dsR xM xKind).1.p] 28)) := ⟨_, rfl⟩
  have s15 : Hid (v8.heap.size + 1 ≤ v9.heap.size) := Lib.hid (by rw [hu]; simp)
  rw [← hu] at cxM0 cxM1 cxM2 cxM3 cxM4 cxM5 cxM6 cw00 cw01 cw02 cw03 cw04 cw05 cw06 cx00 cx01 cx02 cx03 cx04 cx05 cx06 cg00 cg01 cg02 cg03 cg04 cg05 cg06 ow0 ot7 og0 hbel ⊢
  clear hu
  refine (eqMachine_any (dsR xM xKind).1 (dsR xM xKind).1 g0A1 g0C1 g0A2 g0C2 g0A3 g0C3 w0A1 w0C1 w0A2 w0C2 w0A3 w0C3 v9 og0.rd ow0.rd).mono ?_
  rintro e v10 ⟨rfl, hb⟩
  have s16 : Hid (v9.heap.size ≤ v10.heap.size) := Lib.hid hb.size
  replace cxM0 := kept hb cxM0
  replace cxM1 := kept hb cxM1
  replace cxM2 := kept hb cxM2
  replace cxM3 := kept hb cxM3
  replace cxM4 := kept hb cxM4
  replace cxM5 := kept hb cxM5
  replace cxM6 := kept hb cxM6
  replace cw00 := kept hb cw00
  replace cw01 := kept hb cw01
  replace cw02 := kept hb cw02
  replace cw03 := kept hb cw03
  replace cw04 := kept hb cw04
  replace cw05 := kept hb cw05
  replace cw06 := kept hb cw06
  replace cx00 := kept hb cx00
  replace cx01 := kept hb cx01
  replace cx02 := kept hb cx02
  replace cx03 := kept hb cx03
  replace cx04 := kept hb cx04
  replace cx05 := kept hb cx05
  replace cx06 := kept hb cx06
  replace cg00 := kept hb cg00
  replace cg01 := kept hb cg01
  replace cg02 := kept hb cg02
  replace cg03 := kept hb cg03
  replace cg04 := kept hb cg04
  replace cg05 := kept hb cg05
  replace cg06 := kept hb cg06
  replace ow0 := ow0.below hb
  replace ot7 := ot7.below hb
  replace og0 := og0.below hb
  replace hbel := hbel.trans (hb.mono hbel.size)
  clear hb
  have q17 : macEqB xM xM = true := macEqB_self _
  go_wp2_with fail
  have rcxM0 := kept_all cxM0
  have rcxM1 := kept_all cxM1
  have rcxM2 := kept_all cxM2
  have rcxM3 := kept_all cxM3
  have rcxM4 := kept_all cxM4
  have rcxM5 := kept_all cxM5
  have rcxM6 := kept_all cxM6
  have rcw00 := kept_all cw00
  have rcw01 := kept_all cw01
  have rcw02 := kept_all cw02
  have rcw03 := kept_all cw03
  have rcw04 := kept_all cw04
  have rcw05 := kept_all cw05
  have rcw06 := kept_all cw06
  have rcx00 := kept_all cx00
  have rcx01 := kept_all cx01
  have rcx02 := kept_all cx02
  have rcx03 := kept_all cx03
  have rcx04 := kept_all cx04
  have rcx05 := kept_all cx05
  have rcx06 := kept_all cx06
  have rcg00 := kept_all cg00
  have rcg01 := kept_all cg01
  have rcg02 := kept_all cg02
  have rcg03 := kept_all cg03
  have rcg04 := kept_all cg04
  have rcg05 := kept_all cg05
  have rcg06 := kept_all cg06
  go_region_held3 (fun w' => Below v10.heap.size v10 w') (first | exact hk | exact (Below.refl _ _).drew | exact hk.alloc hk.size _ | exact (hk.alloc hk.size _).setCell hk.size _)
    (first | (go_at_call 64; have qB := ‹Below v10.heap.size v10 _›; ((with_reducible refine (toMachine_any xM xMA1 xMC1 xMA2 xMC2 xMA3 xMC3 _ (hxM.below (hbel.trans (qB.mono hbel.size)))).mono ?_)); rintro e v12 ⟨t18A1, t18C1, t18A2, t18C2, t18A3, t18C3, rfl, ot18, hb⟩; have hk := qB.trans (hb.mono qB.size)) | (go_at_call 60; have qB := ‹Below v10.heap.size v10 _›; refine (eqMachine_any xM xM t7A1 t7C1 t7A2 t7C2 t7A3 t7C3 t18A1 t18C1 t18A2 t18C2 t18A3 t18C3 _ (ot7.below qB).rd (by first | exact ot18.rd | exact (ot18.alloc _).rd)).mono ?_; rintro e v11 ⟨rfl, hb⟩; have hk := qB.trans (hb.mono qB.size)))
  have hb : Below v10.heap.size v10 v11 := by assumption
  clear rcxM0 rcxM1 rcxM2 rcxM3 rcxM4 rcxM5 rcxM6 rcw00 rcw01 rcw02 rcw03 rcw04 rcw05 rcw06 rcx00 rcx01 rcx02 rcx03 rcx04 rcx05 rcx06 rcg00 rcg01 rcg02 rcg03 rcg04 rcg05 rcg06
  clear ot18
  have s19 : Hid (v10.heap.size ≤ v11.heap.size) := Lib.hid hb.size
  replace cxM0 := kept hb cxM0
  replace cxM1 := kept hb cxM1
  replace cxM2 := kept hb cxM2
  replace cxM3 := kept hb cxM3
  replace cxM4 := kept hb cxM4
  replace cxM5 := kept hb cxM5
  replace cxM6 := kept hb cxM6
  replace cw00 := kept hb cw00
  replace cw01 := kept hb cw01
  replace cw02 := kept hb cw02
  replace cw03 := kept hb cw03
  replace cw04 := kept hb cw04
  replace cw05 := kept hb cw05
  replace cw06 := kept hb cw06
  replace cx00 := kept hb cx00
  replace cx01 := kept hb cx01
  replace cx02 := kept hb cx02
  replace cx03 := kept hb cx03
  replace cx04 := kept hb cx04
  replace cx05 := kept hb cx05
  replace cx06 := kept hb cx06
  replace cg00 := kept hb cg00
  replace cg01 := kept hb cg01
  replace cg02 := kept hb cg02
  replace cg03 := kept hb cg03
  replace cg04 := kept hb cg04
  replace cg05 := kept hb cg05
  replace cg06 := kept hb cg06
  replace ow0 := ow0.below hb
  replace ot7 := ot7.below hb
  replace og0 := og0.below hb
  replace hbel := hbel.trans (hb.mono hbel.size)
  clear hb
  go_wp2_with fail
  refine (markMachine_any _ _ _ xM t7A1 t7C1 t7A2 t7C2 t7A3 t7C3 1 v11 ot7 (by have := ow0.len; have := ot7.len; have := og0.len; have := hxM.len; omega) (by have := ow0.len; have := ot7.len; have := og0.len; have := hxM.len; omega)).mono ?_
  rintro e v13 ⟨rfl, om, ht⟩
  have s20 : Hid (v11.heap.size ≤ v13.heap.size) := Lib.hid ht.size
  clear ot7
  have ot7 := om
  clear om
  replace cxM0 := keptT ht cxM0 (by have := s1.out; have := s2.out; have := s4.out; have := s5.out; have := s8.out; have := s9.out; have := s11.out; have := s12.out; have := s15.out; have := s16.out; have := s19.out; have := s20.out; omega)
  replace cxM1 := keptT ht cxM1 (by have := s1.out; have := s2.out; have := s4.out; have := s5.out; have := s8.out; have := s9.out; have := s11.out; have := s12.out; have := s15.out; have := s16.out; have := s19.out; have := s20.out; omega)
  replace cxM2 := keptT ht cxM2 (by have := s1.out; have := s2.out; have := s4.out; have := s5.out; have := s8.out; have := s9.out; have := s11.out; have := s12.out; have := s15.out; have := s16.out; have := s19.out; have := s20.out; omega)
  replace cxM3 := keptT ht cxM3 (by have := s1.out; have := s2.out; have := s4.out; have := s5.out; have := s8.out; have := s9.out; have := s11.out; have := s12.out; have := s15.out; have := s16.out; have := s19.out; have := s20.out; omega)
  replace cxM4 := keptT ht cxM4 (by have := s1.out; have := s2.out; have := s4.out; have := s5.out; have := s8.out; have := s9.out; have := s11.out; have := s12.out; have := s15.out; have := s16.out; have := s19.out; have := s20.out; omega)
  replace cxM5 := keptT ht cxM5 (by have := s1.out; have := s2.out; have := s4.out; have := s5.out; have := s8.out; have := s9.out; have := s11.out; have := s12.out; have := s15.out; have := s16.out; have := s19.out; have := s20.out; omega)
  replace cxM6 := keptT ht cxM6 (by have := s1.out; have := s2.out; have := s4.out; have := s5.out; have := s8.out; have := s9.out; have := s11.out; have := s12.out; have := s15.out; have := s16.out; have := s19.out; have := s20.out; omega)
  replace cw00 := keptT ht cw00 (by have := s1.out; have := s2.out; have := s4.out; have := s5.out; have := s8.out; have := s9.out; have := s11.out; have := s12.out; have := s15.out; have := s16.out; have := s19.out; have := s20.out; omega)
  replace cw01 := keptT ht cw01 (by have := s1.out; have := s2.out; have := s4.out; have := s5.out; have := s8.out; have := s9.out; have := s11.out; have := s12.out; have := s15.out; have := s16.out; have := s19.out; have := s20.out; omega)
  replace cw02 := keptT ht cw02 (by have := s1.out; have := s2.out; have := s4.out; have := s5.out; have := s8.out; have := s9.out; have := s11.out; have := s12.out; have := s15.out; have := s16.out; have := s19.out; have := s20.out; omega)
  replace cw03 := keptT ht cw03 (by have := s1.out; have := s2.out; have := s4.out; have := s5.out; have := s8.out; have := s9.out; have := s11.out; have := s12.out; have := s15.out; have := s16.out; have := s19.out; have := s20.out; omega)
  replace cw04 := keptT ht cw04 (by have := s1.out; have := s2.out; have := s4.out; have := s5.out; have := s8.out; have := s9.out; have := s11.out; have := s12.out; have := s15.out; have := s16.out; have := s19.out; have := s20.out; omega)
  replace cw05 := keptT ht cw05 (by have := s1.out; have := s2.out; have := s4.out; have := s5.out; have := s8.out; have := s9.out; have := s11.out; have := s12.out; have := s15.out; have := s16.out; have := s19.out; have := s20.out; omega)
  replace cw06 := keptT ht cw06 (by have := s1.out; have := s2.out; have := s4.out; have := s5.out; have := s8.out; have := s9.out; have := s11.out; have := s12.out; have := s15.out; have := s16.out; have := s19.out; have := s20.out; omega)
  replace cx00 := keptT ht cx00 (by have := s1.out; have := s2.out; have := s4.out; have := s5.out; have := s8.out; have := s9.out; have := s11.out; have := s12.out; have := s15.out; have := s16.out; have := s19.out; have := s20.out; omega)
  replace cx01 := keptT ht cx01 (by have := s1.out; have := s2.out; have := s4.out; have := s5.out; have := s8.out; have := s9.out; have := s11.out; have := s12.out; have := s15.out; have := s16.out; have := s19.out; have := s20.out; omega)
  replace cx02 := keptT ht cx02 (by have := s1.out; have := s2.out; have := s4.out; have := s5.out; have := s8.out; have := s9.out; have := s11.out; have := s12.out; have := s15.out; have := s16.out; have := s19.out; have := s20.out; omega)
  replace cx03 := keptT ht cx03 (by have := s1.out; have := s2.out; have := s4.out; have := s5.out; have := s8.out; have := s9.out; have := s11.out; have := s12.out; have := s15.out; have := s16.out; have := s19.out; have := s20.out; omega)
  replace cx04 := keptT ht cx04 (by have := s1.out; have := s2.out; have := s4.out; have := s5.out; have := s8.out; have := s9.out; have := s11.out; have := s12.out; have := s15.out; have := s16.out; have := s19.out; have := s20.out; omega)
  replace cx05 := keptT ht cx05 (by have := s1.out; have := s2.out; have := s4.out; have := s5.out; have := s8.out; have := s9.out; have := s11.out; have := s12.out; have := s15.out; have := s16.out; have := s19.out; have := s20.out; omega)
  replace cx06 := keptT ht cx06 (by have := s1.out; have := s2.out; have := s4.out; have := s5.out; have := s8.out; have := s9.out; have := s11.out; have := s12.out; have := s15.out; have := s16.out; have := s19.out; have := s20.out; omega)
  replace cg00 := keptT ht cg00 (by have := s1.out; have := s2.out; have := s4.out; have := s5.out; have := s8.out; have := s9.out; have := s11.out; have := s12.out; have := s15.out; have := s16.out; have := s19.out; have := s20.out; omega)
  replace cg01 := keptT ht cg01 (by have := s1.out; have := s2.out; have := s4.out; have := s5.out; have := s8.out; have := s9.out; have := s11.out; have := s12.out; have := s15.out; have := s16.out; have := s19.out; have := s20.out; omega)
  replace cg02 := keptT ht cg02 (by have := s1.out; have := s2.out; have := s4.out; have := s5.out; have := s8.out; have := s9.out; have := s11.out; have := s12.out; have := s15.out; have := s16.out; have := s19.out; have := s20.out; omega)
  replace cg03 := keptT ht cg03 (by have := s1.out; have := s2.out; have := s4.out; have := s5.out; have := s8.out; have := s9.out; have := s11.out; have := s12.out; have := s15.out; have := s16.out; have := s19.out; have := s20.out; omega)
  replace cg04 := keptT ht cg04 (by have := s1.out; have := s2.out; have := s4.out; have := s5.out; have := s8.out; have := s9.out; have := s11.out; have := s12.out; have := s15.out; have := s16.out; have := s19.out; have := s20.out; omega)
  replace cg05 := keptT ht cg05 (by have := s1.out; have := s2.out; have := s4.out; have := s5.out; have := s8.out; have := s9.out; have := s11.out; have := s12.out; have := s15.out; have := s16.out; have := s19.out; have := s20.out; omega)
  replace cg06 := keptT ht cg06 (by have := s1.out; have := s2.out; have := s4.out; have := s5.out; have := s8.out; have := s9.out; have := s11.out; have := s12.out; have := s15.out; have := s16.out; have := s19.out; have := s20.out; omega)
  replace ow0 := ow0.touch ht (by have := s1.out; have := s2.out; have := s4.out; have := s5.out; have := s8.out; have := s9.out; have := s11.out; have := s12.out; have := s15.out; have := s16.out; have := s19.out; have := s20.out; omega)
  replace og0 := og0.touch ht (by have := s1.out; have := s2.out; have := s4.out; have := s5.out; have := s8.out; have := s9.out; have := s11.out; have := s12.out; have := s15.out; have := s16.out; have := s19.out; have := s20.out; omega)
  replace hbel := hbel.trans (ht.below (by have := s1.out; have := s2.out; have := s4.out; have := s5.out; have := s8.out; have := s9.out; have := s11.out; have := s12.out; have := s15.out; have := s16.out; have := s19.out; have := s20.out; omega) hbel.size)
  clear ht
  have q21 : macEqB (dsR xM xKind).1 (dsR xM xKind).1 = true := macEqB_self _
  go_wp2_with fail
  refine (eqMachine_any (dsR xM xKind).1 (dsR xM xKind).1 g0A1 g0C1 g0A2 g0C2 g0A3 g0C3 w0A1 w0C1 w0A2 w0C2 w0A3 w0C3 v13 og0.rd ow0.rd).mono ?_
  rintro e v14 ⟨rfl, hb⟩
  have s22 : Hid (v13.heap.size ≤ v14.heap.size) := Lib.hid hb.size
  replace cxM0 := kept hb cxM0
  replace cxM1 := kept hb cxM1
  replace cxM2 := kept hb cxM2
  replace cxM3 := kept hb cxM3
  replace cxM4 := kept hb cxM4
  replace cxM5 := kept hb cxM5
  replace cxM6 := kept hb cxM6
  replace cw00 := kept hb cw00
  replace cw01 := kept hb cw01
  replace cw02 := kept hb cw02
  replace cw03 := kept hb cw03
  replace cw04 := kept hb cw04
  replace cw05 := kept hb cw05
  replace cw06 := kept hb cw06
  replace cx00 := kept hb cx00
  replace cx01 := kept hb cx01
  replace cx02 := kept hb cx02
  replace cx03 := kept hb cx03
  replace cx04 := kept hb cx04
  replace cx05 := kept hb cx05
  replace cx06 := kept hb cx06
  replace cg00 := kept hb cg00
  replace cg01 := kept hb cg01
  replace cg02 := kept hb cg02
  replace cg03 := kept hb cg03
  replace cg04 := kept hb cg04
  replace cg05 := kept hb cg05
  replace cg06 := kept hb cg06
  replace ow0 := ow0.below hb
  replace ot7 := ot7.below hb
  replace og0 := og0.below hb
  replace hbel := hbel.trans (hb.mono hbel.size)
  clear hb
  go_wp2_with fail
  refine (markMachine_any _ _ _ (dsR xM xKind).1 g0A1 g0C1 g0A2 g0C2 g0A3 g0C3 1 v14 og0 (by have := ow0.len; have := ot7.len; have := og0.len; have := hxM.len; omega) (by have := ow0.len; have := ot7.len; have := og0.len; have := hxM.len; omega)).mono ?_
  rintro e v15 ⟨rfl, om, ht⟩
  have s23 : Hid (v14.heap.size ≤ v15.heap.size) := Lib.hid ht.size
  clear og0
  have og0 := om
  clear om
  replace cxM0 := keptT ht cxM0 (by have := s1.out; have := s2.out; have := s4.out; have := s5.out; have := s8.out; have := s9.out; have := s11.out; have := s12.out; have := s15.out; have := s16.out; have := s19.out; have := s20.out; have := s22.out; have := s23.out; omega)
  replace cxM1 := keptT ht cxM1 (by have := s1.out; have := s2.out; have := s4.out; have := s5.out; have := s8.out; have := s9.out; have := s11.out; have := s12.out; have := s15.out; have := s16.out; have := s19.out; have := s20.out; have := s22.out; have := s23.out; omega)
  replace cxM2 := keptT ht cxM2 (by have := s1.out; have := s2.out; have := s4.out; have := s5.out; have := s8.out; have := s9.out; have := s11.out; have := s12.out; have := s15.out; have := s16.out; have := s19.out; have := s20.out; have := s22.out; have := s23.out; omega)
  replace cxM3 := keptT ht cxM3 (by have := s1.out; have := s2.out; have := s4.out; have := s5.out; have := s8.out; have := s9.out; have := s11.out; have := s12.out; have := s15.out; have := s16.out; have := s19.out; have := s20.out; have := s22.out; have := s23.out; omega)
  replace cxM4 := keptT ht cxM4 (by have := s1.out; have := s2.out; have := s4.out; have := s5.out; have := s8.out; have := s9.out; have := s11.out; have := s12.out; have := s15.out; have := s16.out; have := s19.out; have := s20.out; have := s22.out; have := s23.out; omega)
  replace cxM5 := keptT ht cxM5 (by have := s1.out; have := s2.out; have := s4.out; have := s5.out; have := s8.out; have := s9.out; have := s11.out; have := s12.out; have := s15.out; have := s16.out; have := s19.out; have := s20.out; have := s22.out; have := s23.out; omega)
  replace cxM6 := keptT ht cxM6 (by have := s1.out; have := s2.out; have := s4.out; have := s5.out; have := s8.out; have := s9.out; have := s11.out; have := s12.out; have := s15.out; have := s16.out; have := s19.out; have := s20.out; have := s22.out; have := s23.out; omega)
  replace cw00 := keptT ht cw00 (by have := s1.out; have := s2.out; have := s4.out; have := s5.out; have := s8.out; have := s9.out; have := s11.out; have := s12.out; have := s15.out; have := s16.out; have := s19.out; have := s20.out; have := s22.out; have := s23.out; omega)
  replace cw01 := keptT ht cw01 (by have := s1.out; have := s2.out; have := s4.out; have := s5.out; have := s8.out; have := s9.out; have := s11.out; have := s12.out; have := s15.out; have := s16.out; have := s19.out; have := s20.out; have := s22.out; have := s23.out; omega)
  replace cw02 := keptT ht cw02 (by have := s1.out; have := s2.out; have := s4.out; have := s5.out; have := s8.out; have := s9.out; have := s11.out; have := s12.out; have := s15.out; have := s16.out; have := s19.out; have := s20.out; have := s22.out; have := s23.out; omega)
  replace cw03 := keptT ht cw03 (by have := s1.out; have := s2.out; have := s4.out; have := s5.out; have := s8.out; have := s9.out; have := s11.out; have := s12.out; have := s15.out; have := s16.out; have := s19.out; have := s20.out; have := s22.out; have := s23.out; omega)
  replace cw04 := keptT ht cw04 (by have := s1.out; have := s2.out; have := s4.out; have := s5.out; have := s8.out; have := s9.out; have := s11.out; have := s12.out; have := s15.out; have := s16.out; have := s19.out; have := s20.out; have := s22.out; have := s23.out; omega)
  replace cw05 := keptT ht cw05 (by have := s1.out; have := s2.out; have := s4.out; have := s5.out; have := s8.out; have := s9.out; have := s11.out; have := s12.out; have := s15.out; have := s16.out; have := s19.out; have := s20.out; have := s22.out; have := s23.out; omega)
  replace cw06 := keptT ht cw06 (by have := s1.out; have := s2.out; have := s4.out; have := s5.out; have := s8.out; have := s9.out; have := s11.out; have := s12.out; have := s15.out; have := s16.out; have := s19.out; have := s20.out; have := s22.out; have := s23.out; omega)
  replace cx00 := keptT ht cx00 (by have := s1.out; have := s2.out; have := s4.out; have := s5.out; have := s8.out; have := s9.out; have := s11.out; have := s12.out; have := s15.out; have := s16.out; have := s19.out; have := s20.out; have := s22.out; have := s23.out; omega)
  replace cx01 := keptT ht cx01 (by have := s1.out; have := s2.out; have := s4.out; have := s5.out; have := s8.out; have := s9.out; have := s11.out; have := s12.out; have := s15.out; have := s16.out; have := s19.out; have := s20.out; have := s22.out; have := s23.out; omega)
  replace cx02 := keptT ht cx02 (by have := s1.out; have := s2.out; have := s4.out; have := s5.out; have := s8.out; have := s9.out; have := s11.out; have := s12.out; have := s15.out; have := s16.out; have := s19.out; have := s20.out; have := s22.out; have := s23.out; omega)
  replace cx03 := keptT ht cx03 (by have := s1.out; have := s2.out; have := s4.out; have := s5.out; have := s8.out; have := s9.out; have := s11.out; have := s12.out; have := s15.out; have := s16.out; have := s19.out; have := s20.out; have := s22.out; have := s23.out; omega)
  replace cx04 := keptT ht cx04 (by have := s1.out; have := s2.out; have := s4.out; have := s5.out; have := s8.out; have := s9.out; have := s11.out; have := s12.out; have := s15.out; have := s16.out; have := s19.out; have := s20.out; have := s22.out; have := s23.out; omega)
  replace cx05 := keptT ht cx05 (by have := s1.out; have := s2.out; have := s4.out; have := s5.out; have := s8.out; have := s9.out; have := s11.out; have := s12.out; have := s15.out; have := s16.out; have := s19.out; have := s20.out; have := s22.out; have := s23.out; omega)
  replace cx06 := keptT ht cx06 (by have := s1.out; have := s2.out; have := s4.out; have := s5.out; have := s8.out; have := s9.out; have := s11.out; have := s12.out; have := s15.out; have := s16.out; have := s19.out; have := s20.out; have := s22.out; have := s23.out; omega)
  replace cg00 := keptT ht cg00 (by have := s1.out; have := s2.out; have := s4.out; have := s5.out; have := s8.out; have := s9.out; have := s11.out; have := s12.out; have := s15.out; have := s16.out; have := s19.out; have := s20.out; have := s22.out; have := s23.out; omega)
  replace cg01 := keptT ht cg01 (by have := s1.out; have := s2.out; have := s4.out; have := s5.out; have := s8.out; have := s9.out; have := s11.out; have := s12.out; have := s15.out; have := s16.out; have := s19.out; have := s20.out; have := s22.out; have := s23.out; omega)
  replace cg02 := keptT ht cg02 (by have := s1.out; have := s2.out; have := s4.out; have := s5.out; have := s8.out; have := s9.out; have := s11.out; have := s12.out; have := s15.out; have := s16.out; have := s19.out; have := s20.out; have := s22.out; have := s23.out; omega)
  replace cg03 := keptT ht cg03 (by have := s1.out; have := s2.out; have := s4.out; have := s5.out; have := s8.out; have := s9.out; have := s11.out; have := s12.out; have := s15.out; have := s16.out; have := s19.out; have := s20.out; have := s22.out; have := s23.out; omega)
  replace cg04 := keptT ht cg04 (by have := s1.out; have := s2.out; have := s4.out; have := s5.out; have := s8.out; have := s9.out; have := s11.out; have := s12.out; have := s15.out; have := s16.out; have := s19.out; have := s20.out; have := s22.out; have := s23.out; omega)
  replace cg05 := keptT ht cg05 (by have := s1.out; have := s2.out; have := s4.out; have := s5.out; have := s8.out; have := s9.out; have := s11.out; have := s12.out; have := s15.out; have := s16.out; have := s19.out; have := s20.out; have := s22.out; have := s23.out; omega)
  replace cg06 := keptT ht cg06 (by have := s1.out; have := s2.out; have := s4.out; have := s5.out; have := s8.out; have := s9.out; have := s11.out; have := s12.out; have := s15.out; have := s16.out; have := s19.out; have := s20.out; have := s22.out; have := s23.out; omega)
  replace ow0 := ow0.touch ht (by have := s1.out; have := s2.out; have := s4.out; have := s5.out; have := s8.out; have := s9.out; have := s11.out; have := s12.out; have := s15.out; have := s16.out; have := s19.out; have := s20.out; have := s22.out; have := s23.out; omega)
  replace ot7 := ot7.touch ht (by have := s1.out; have := s2.out; have := s4.out; have := s5.out; have := s8.out; have := s9.out; have := s11.out; have := s12.out; have := s15.out; have := s16.out; have := s19.out; have := s20.out; have := s22.out; have := s23.out; omega)
  replace hbel := hbel.trans (ht.below (by have := s1.out; have := s2.out; have := s4.out; have := s5.out; have := s8.out; have := s9.out; have := s11.out; have := s12.out; have := s15.out; have := s16.out; have := s19.out; have := s20.out; have := s22.out; have := s23.out; omega) hbel.size)
  clear ht
  go_wp2_with fail
  refine (heldMachine_any (dsR xM xKind).1 g0A1 g0C1 g0A2 g0C2 g0A3 g0C3 1 (dsR xM xKind).1.z1.length (dsR xM xKind).1.z2.length (dsR xM xKind).1.z3.length v15 og0.rd (by have := ow0.len; have := ot7.len; have := og0.len; have := hxM.len; omega) (by have := ow0.len; have := ot7.len; have := og0.len; have := hxM.len; omega)).mono ?_
  rintro e v16 ⟨rfl, hb⟩
  have s24 : Hid (v15.heap.size ≤ v16.heap.size) := Lib.hid hb.size
  replace cxM0 := kept hb cxM0
  replace cxM1 := kept hb cxM1
  replace cxM2 := kept hb cxM2
  replace cxM3 := kept hb cxM3
  replace cxM4 := kept hb cxM4
  replace cxM5 := kept hb cxM5
  replace cxM6 := kept hb cxM6
  replace cw00 := kept hb cw00
  replace cw01 := kept hb cw01
  replace cw02 := kept hb cw02
  replace cw03 := kept hb cw03
  replace cw04 := kept hb cw04
  replace cw05 := kept hb cw05
  replace cw06 := kept hb cw06
  replace cx00 := kept hb cx00
  replace cx01 := kept hb cx01
  replace cx02 := kept hb cx02
  replace cx03 := kept hb cx03
  replace cx04 := kept hb cx04
  replace cx05 := kept hb cx05
  replace cx06 := kept hb cx06
  replace cg00 := kept hb cg00
  replace cg01 := kept hb cg01
  replace cg02 := kept hb cg02
  replace cg03 := kept hb cg03
  replace cg04 := kept hb cg04
  replace cg05 := kept hb cg05
  replace cg06 := kept hb cg06
  replace ow0 := ow0.below hb
  replace ot7 := ot7.below hb
  replace og0 := og0.below hb
  replace hbel := hbel.trans (hb.mono hbel.size)
  clear hb
  go_wp2_with fail
  refine (toMachine_any xM xMA1 xMC1 xMA2 xMC2 xMA3 xMC3 v16 (hxM.below hbel)).mono ?_
  rintro e v17 ⟨t25A1, t25C1, t25A2, t25C2, t25A3, t25C3, rfl, ot25, hb⟩
  have s26 : Hid (v16.heap.size ≤ v17.heap.size) := Lib.hid hb.size
  replace cxM0 := kept hb cxM0
  replace cxM1 := kept hb cxM1
  replace cxM2 := kept hb cxM2
  replace cxM3 := kept hb cxM3
  replace cxM4 := kept hb cxM4
  replace cxM5 := kept hb cxM5
  replace cxM6 := kept hb cxM6
  replace cw00 := kept hb cw00
  replace cw01 := kept hb cw01
  replace cw02 := kept hb cw02
  replace cw03 := kept hb cw03
  replace cw04 := kept hb cw04
  replace cw05 := kept hb cw05
  replace cw06 := kept hb cw06
  replace cx00 := kept hb cx00
  replace cx01 := kept hb cx01
  replace cx02 := kept hb cx02
  replace cx03 := kept hb cx03
  replace cx04 := kept hb cx04
  replace cx05 := kept hb cx05
  replace cx06 := kept hb cx06
  replace cg00 := kept hb cg00
  replace cg01 := kept hb cg01
  replace cg02 := kept hb cg02
  replace cg03 := kept hb cg03
  replace cg04 := kept hb cg04
  replace cg05 := kept hb cg05
  replace cg06 := kept hb cg06
  replace ow0 := ow0.below hb
  replace ot7 := ot7.below hb
  replace og0 := og0.below hb
  replace hbel := hbel.trans (hb.mono hbel.size)
  clear hb
  go_wp2_with fail
  refine (implDoStroke xM t25A1 t25C1 t25A2 t25C2 t25A3 t25C3 xKind v17 ot25.rd zxM bxM bxKind (door_below hD hbel)).mono ?_
  rintro e v18 ⟨h0A1, h0C1, h0A2, h0C2, h0A3, h0C3, rfl, oh0, hb⟩
  have s27 : Hid (v17.heap.size ≤ v18.heap.size) := Lib.hid hb.size
  replace cxM0 := kept hb cxM0
  replace cxM1 := kept hb cxM1
  replace cxM2 := kept hb cxM2
  replace cxM3 := kept hb cxM3
  replace cxM4 := kept hb cxM4
  replace cxM5 := kept hb cxM5
  replace cxM6 := kept hb cxM6
  replace cw00 := kept hb cw00
  replace cw01 := kept hb cw01
  replace cw02 := kept hb cw02
  replace cw03 := kept hb cw03
  replace cw04 := kept hb cw04
  replace cw05 := kept hb cw05
  replace cw06 := kept hb cw06
  replace cx00 := kept hb cx00
  replace cx01 := kept hb cx01
  replace cx02 := kept hb cx02
  replace cx03 := kept hb cx03
  replace cx04 := kept hb cx04
  replace cx05 := kept hb cx05
  replace cx06 := kept hb cx06
  replace cg00 := kept hb cg00
  replace cg01 := kept hb cg01
  replace cg02 := kept hb cg02
  replace cg03 := kept hb cg03
  replace cg04 := kept hb cg04
  replace cg05 := kept hb cg05
  replace cg06 := kept hb cg06
  replace ow0 := ow0.below hb
  replace ot7 := ot7.below hb
  replace og0 := og0.below hb
  replace ot25 := ot25.below hb
  replace hbel := hbel.trans (hb.mono hbel.size)
  clear hb
  clear ot25
  have ha28 : Below v18.heap.size v18 (v18.alloc (.cells #[.int .i64 (dsR xM xKind).1.b1, .slice h0A1 (dsR xM xKind).1.z1.length h0C1, .int .i64 (dsR xM xKind).1.b2, .slice h0A2 (dsR xM xKind).1.z2.length h0C2, .int .i64 (dsR xM xKind).1.b3, .slice h0A3 (dsR xM xKind).1.z3.length h0C3, .int .i64 (dsR xM xKind).1.p] 28)) := (Below.refl _ _).alloc (by simp <;> omega) _
  replace cxM0 := kept ha28 cxM0
  replace cxM1 := kept ha28 cxM1
  replace cxM2 := kept ha28 cxM2
  replace cxM3 := kept ha28 cxM3
  replace cxM4 := kept ha28 cxM4
  replace cxM5 := kept ha28 cxM5
  replace cxM6 := kept ha28 cxM6
  replace cw00 := kept ha28 cw00
  replace cw01 := kept ha28 cw01
  replace cw02 := kept ha28 cw02
  replace cw03 := kept ha28 cw03
  replace cw04 := kept ha28 cw04
  replace cw05 := kept ha28 cw05
  replace cw06 := kept ha28 cw06
  replace cx00 := kept ha28 cx00
  replace cx01 := kept ha28 cx01
  replace cx02 := kept ha28 cx02
  replace cx03 := kept ha28 cx03
  replace cx04 := kept ha28 cx04
  replace cx05 := kept ha28 cx05
  replace cx06 := kept ha28 cx06
  replace cg00 := kept ha28 cg00
  replace cg01 := kept ha28 cg01
  replace cg02 := kept ha28 cg02
  replace cg03 := kept ha28 cg03
  replace cg04 := kept ha28 cg04
  replace cg05 := kept ha28 cg05
  replace cg06 := kept ha28 cg06
  replace ow0 := ow0.below ha28
  replace ot7 := ot7.below ha28
  replace og0 := og0.below ha28
  replace oh0 := oh0.below ha28
  replace hbel := hbel.trans (ha28.mono hbel.size)
  clear ha28
  have ch00 : (v18.alloc (.cells #[.int .i64 (dsR xM xKind).1.b1, .slice h0A1 (dsR xM xKind).1.z1.length h0C1, .int .i64 (dsR xM xKind).1.b2, .slice h0A2 (dsR xM xKind).1.z2.length h0C2, .int .i64 (dsR xM xKind).1.b3, .slice h0A3 (dsR xM xKind).1.z3.length h0C3, .int .i64 (dsR xM xKind).1.p] 28)).cell? ⟨v18.heap.size, 0, none⟩ = some (.int .i64 (dsR xM xKind).1.b1) := by go_simp
  have ch01 : (v18.alloc (.cells #[.int .i64 (dsR xM xKind).1.b1, .slice h0A1 (dsR xM xKind).1.z1.length h0C1, .int .i64 (dsR xM xKind).1.b2, .slice h0A2 (dsR xM xKind).1.z2.length h0C2, .int .i64 (dsR xM xKind).1.b3, .slice h0A3 (dsR xM xKind).1.z3.length h0C3, .int .i64 (dsR xM xKind).1.p] 28)).cell? ⟨v18.heap.size, 1, none⟩ = some (.slice h0A1 (dsR xM xKind).1.z1.length h0C1) := by go_simp
  have ch02 : (v18.alloc (.cells #[.int .i64 (dsR xM xKind).1.b1, .slice h0A1 (dsR xM xKind).1.z1.length h0C1, .int .i64 (dsR xM xKind).1.b2, .slice h0A2 (dsR xM xKind).1.z2.length h0C2, .int .i64 (dsR xM xKind).1.b3, .slice h0A3 (dsR xM xKind).1.z3.length h0C3, .int .i64 (dsR xM xKind).1.p] 28)).cell? ⟨v18.heap.size, 2, none⟩ = some (.int .i64 (dsR xM xKind).1.b2) := by go_simp
  have ch03 : (v18.alloc (.cells #[.int .i64 (dsR xM xKind).1.b1, .slice h0A1 (dsR xM xKind).1.z1.length h0C1, .int .i64 (dsR xM xKind).1.b2, .slice h0A2 (dsR xM xKind).1.z2.length h0C2, .int .i64 (dsR xM xKind).1.b3, .slice h0A3 (dsR xM xKind).1.z3.length h0C3, .int .i64 (dsR xM xKind).1.p] 28)).cell? ⟨v18.heap.size, 3, none⟩ = some (.slice h0A2 (dsR xM xKind).1.z2.length h0C2) := by go_simp
  have ch04 : (v18.alloc (.cells #[.int .i64 (dsR xM xKind).1.b1, .slice h0A1 (dsR xM xKind).1.z1.length h0C1, .int .i64 (dsR xM xKind).1.b2, .slice h0A2 (dsR xM xKind).1.z2.length h0C2, .int .i64 (dsR xM xKind).1.b3, .slice h0A3 (dsR xM xKind).1.z3.length h0C3, .int .i64 (dsR xM xKind).1.p] 28)).cell? ⟨v18.heap.size, 4, none⟩ = some (.int .i64 (dsR xM xKind).1.b3) := by go_simp
  have ch05 : (v18.alloc (.cells #[.int .i64 (dsR xM xKind).1.b1, .slice h0A1 (dsR xM xKind).1.z1.length h0C1, .int .i64 (dsR xM xKind).1.b2, .slice h0A2 (dsR xM xKind).1.z2.length h0C2, .int .i64 (dsR xM xKind).1.b3, .slice h0A3 (dsR xM xKind).1.z3.length h0C3, .int .i64 (dsR xM xKind).1.p] 28)).cell? ⟨v18.heap.size, 5, none⟩ = some (.slice h0A3 (dsR xM xKind).1.z3.length h0C3) := by go_simp
  have ch06 : (v18.alloc (.cells #[.int .i64 (dsR xM xKind).1.b1, .slice h0A1 (dsR xM xKind).1.z1.length h0C1, .int .i64 (dsR xM xKind).1.b2, .slice h0A2 (dsR xM xKind).1.z2.length h0C2, .int .i64 (dsR xM xKind).1.b3, .slice h0A3 (dsR xM xKind).1.z3.length h0C3, .int .i64 (dsR xM xKind).1.p] 28)).cell? ⟨v18.heap.size, 6, none⟩ = some (.int .i64 (dsR xM xKind).1.p) := by go_simp
  have q29 : macEqB (dsR xM xKind).1 (dsR xM xKind).1 = true := macEqB_self _
  go_wp2_with fail
  obtain ⟨v19, hu⟩ : ∃ u, u = (v18.alloc (.cells #[.int .i64 (dsR xM xKind).1.b1, .slice h0A1 (dsR xM xKind).1.z1.length h0C1, .int .i64 (dsR xM xKind).1.b2, .slice h0A2 (dsR xM xKind).1.z2.length h0C2, .int .i64 (dsR xM xKind).1.b3, .slice h0A3 (dsR xM xKind).1.z3.length h0C3, .int .i64 (dsR xM xKind).1.p] 28)) := ⟨_, rfl⟩
  have s30 : Hid (v18.heap.size + 1 ≤ v19.heap.size) := Lib.hid (by rw [hu]; simp)
  rw [← hu] at cxM0 cxM1 cxM2 cxM3 cxM4 cxM5 cxM6 cw00 cw01 cw02 cw03 cw04 cw05 cw06 cx00 cx01 cx02 cx03 cx04 cx05 cx06 cg00 cg01 cg02 cg03 cg04 cg05 cg06 ch00 ch01 ch02 ch03 ch04 ch05 ch06 ow0 ot7 og0 oh0 hbel ⊢
  clear hu
  refine (eqMachine_any (dsR xM xKind).1 (dsR xM xKind).1 h0A1 h0C1 h0A2 h0C2 h0A3 h0C3 w0A1 w0C1 w0A2 w0C2 w0A3 w0C3 v19 oh0.rd ow0.rd).mono ?_
  rintro e v20 ⟨rfl, hb⟩
  have s31 : Hid (v19.heap.size ≤ v20.heap.size) := Lib.hid hb.size
  replace cxM0 := kept hb cxM0
  replace cxM1 := kept hb cxM1
  replace cxM2 := kept hb cxM2
  replace cxM3 := kept hb cxM3
  replace cxM4 := kept hb cxM4
  replace cxM5 := kept hb cxM5
  replace cxM6 := kept hb cxM6
  replace cw00 := kept hb cw00
  replace cw01 := kept hb cw01
  replace cw02 := kept hb cw02
  replace cw03 := kept hb cw03
  replace cw04 := kept hb cw04
  replace cw05 := kept hb cw05
  replace cw06 := kept hb cw06
  replace cx00 := kept hb cx00
  replace cx01 := kept hb cx01
  replace cx02 := kept hb cx02
  replace cx03 := kept hb cx03
  replace cx04 := kept hb cx04
  replace cx05 := kept hb cx05
  replace cx06 := kept hb cx06
  replace cg00 := kept hb cg00
  replace cg01 := kept hb cg01
  replace cg02 := kept hb cg02
  replace cg03 := kept hb cg03
  replace cg04 := kept hb cg04
  replace cg05 := kept hb cg05
  replace cg06 := kept hb cg06
  replace ch00 := kept hb ch00
  replace ch01 := kept hb ch01
  replace ch02 := kept hb ch02
  replace ch03 := kept hb ch03
  replace ch04 := kept hb ch04
  replace ch05 := kept hb ch05
  replace ch06 := kept hb ch06
  replace ow0 := ow0.below hb
  replace ot7 := ot7.below hb
  replace og0 := og0.below hb
  replace oh0 := oh0.below hb
  replace hbel := hbel.trans (hb.mono hbel.size)
  clear hb
  go_wp2_with fail
  refine (heldMachine_any (dsR xM xKind).1 g0A1 g0C1 g0A2 g0C2 g0A3 g0C3 1 (dsR xM xKind).1.z1.length (dsR xM xKind).1.z2.length (dsR xM xKind).1.z3.length v20 og0.rd (by have := ow0.len; have := ot7.len; have := og0.len; have := oh0.len; have := hxM.len; omega) (by have := ow0.len; have := ot7.len; have := og0.len; have := oh0.len; have := hxM.len; omega)).mono ?_
  rintro e v21 ⟨rfl, hb⟩
  have s32 : Hid (v20.heap.size ≤ v21.heap.size) := Lib.hid hb.size
  replace cxM0 := kept hb cxM0
  replace cxM1 := kept hb cxM1
  replace cxM2 := kept hb cxM2
  replace cxM3 := kept hb cxM3
  replace cxM4 := kept hb cxM4
  replace cxM5 := kept hb cxM5
  replace cxM6 := kept hb cxM6
  replace cw00 := kept hb cw00
  replace cw01 := kept hb cw01
  replace cw02 := kept hb cw02
  replace cw03 := kept hb cw03
  replace cw04 := kept hb cw04
  replace cw05 := kept hb cw05
  replace cw06 := kept hb cw06
  replace cx00 := kept hb cx00
  replace cx01 := kept hb cx01
  replace cx02 := kept hb cx02
  replace cx03 := kept hb cx03
  replace cx04 := kept hb cx04
  replace cx05 := kept hb cx05
  replace cx06 := kept hb cx06
  replace cg00 := kept hb cg00
  replace cg01 := kept hb cg01
  replace cg02 := kept hb cg02
  replace cg03 := kept hb cg03
  replace cg04 := kept hb cg04
  replace cg05 := kept hb cg05
  replace cg06 := kept hb cg06
  replace ch00 := kept hb ch00
  replace ch01 := kept hb ch01
  replace ch02 := kept hb ch02
  replace ch03 := kept hb ch03
  replace ch04 := kept hb ch04
  replace ch05 := kept hb ch05
  replace ch06 := kept hb ch06
  replace ow0 := ow0.below hb
  replace ot7 := ot7.below hb
  replace og0 := og0.below hb
  replace oh0 := oh0.below hb
  replace hbel := hbel.trans (hb.mono hbel.size)
  clear hb
  go_wp2
  go_ret
  exact ⟨rfl, hbel⟩

/-- The door's own heap meets the condition: closed facts. -/
theorem door_met (os : Os) (args : Array Value) : laidMetH Tryd.prog Rows.fnExactDoStrokeRow.laid ((World.laidAll Tryd.prog os Rows.fnExactDoStrokeRow.laid).forCall (fun _ _ => 0) ⟨#[], args, []⟩).memory :=
  by rw [MakeChecks.laidMetH_plain _ _ _ (by kernel_rfl)]; exact laidMet_laidAll _ (by kernel_rfl) (by kernel_rfl)

set_option maxRecDepth 100000 in
theorem lifted (os : Os) (started : os.Started) (H : Type) (enc : TypeId × Value → H) :
    ReturnsInHanded {} Tryd.checked os 10 .any (fun w args => (Rows.fnExactDoStrokeSpec.pre enc Tryd.prog Tryd.f10 [] false w args ∧ laidMetH Tryd.prog Rows.fnExactDoStrokeRow.laid w) ∧ sizedMet enc Tryd.prog Tryd.f10 (OpenSpec.ofChange Rows.fnExactDoStrokeSpec) false w args)
      (Rows.fnExactDoStrokeSpec.post enc Tryd.prog Tryd.f10 false true false false) := by
  refine returnsInHanded_of_change_and (C := Tryd.checked) (X := fun w _ => laidMetH Tryd.prog Rows.fnExactDoStrokeRow.laid w) (fun _ _ _ hh h => h.of_heap hh) own_knob started (by kernel_rfl) Tryd.func10
    (ChangeSpec.witness_shaped (enc := enc) (C := Tryd.checked) (os := os) (X := fun w _ => laidMetH Tryd.prog Rows.fnExactDoStrokeRow.laid w) false (World.laidAll Tryd.prog os Rows.fnExactDoStrokeRow.laid) #[.agg #[.int .i64 0, .slice none 0 0, .int .i64 0, .slice none 0 0, .int .i64 0, .slice none 0 0, .int .i64 0], .int .i64 0] 8 (World.laidAll_os _ _ _) (World.shaped_of_ZipB (by kernel_rfl) (by kernel_rfl)) (by kernel_rfl) (by kernel_rfl) (by kernel_rfl) (door_met os _)) ?_
  intro W base args ds gs before hval0 hW _ _ hL _
  have hval : ∀ (j : Nat) t v, Tryd.f10.params[j]? = some t → args[j]? = some v → Value.okWide Tryd.prog W .any base t v := hval0
  have hW' := hW
  obtain ⟨p, q, hA0, hV0, rfl, hfz, hnd⟩ := hW
  have hA : DataW.TrodAll enc Tryd.prog W 0 (fun _ => true) true Tryd.f10.params.toList args.toList ds p := hA0
  have hV : DataW.TrodVars enc Tryd.prog W (fun _ => true) ["loop.example/g00930/impl.errBell"] gs q := hV0
  rw [Tryd.params10] at hA hval
  obtain ⟨v0, vs0, d0, ds0, p0, q0, hargs, rfl, rfl, h0, r0⟩ := trodAll_cons hA
  obtain ⟨v1, vs1, d1, ds1, p1, q1, rfl, rfl, rfl, h1, r1⟩ := trodAll_cons r0
  obtain ⟨rfl, rfl, rfl⟩ := trodAll_nil r1
  obtain rfl : args = #[v0, v1] := by cases args; simp_all
  have k0 := h0
  have lt0 : ∀ x ∈ p0, x.block < W.heap.size := by obtain ⟨m, hm⟩ := k0; exact DataW.trod_lt m _ _ _ hm
  obtain ⟨xM, xMA1, xMC1, xMA2, xMC2, xMA3, xMC3, rfl, hxM, bxM⟩ := open_Machine (hval 0 72 v0 rfl rfl) h0
  obtain ⟨xKind, rfl, rfl, rfl, bxKind⟩ := open_int Tryd.underlying2 (hval 1 2 v1 rfl rfl) h1
  have hD := of_laid hL
  clear hA0 hval0
  obtain ⟨gd, rfl⟩ : ∃ gd, gs = [gd] := by
    obtain ⟨_, _, _, _, d, _, h, _⟩ := trodVars_one hV
    exact ⟨d, h⟩
  refine (law_walk xM xMA1 xMC1 xMA2 xMC2 xMA3 xMC3 xKind W hxM bxM bxKind hD).mono fun e W' ⟨he, bel⟩ => ?_
  subst he
  obtain ⟨q', hq'⟩ := var_stays gVar tVar (by kernel_rfl) (of_decide_eq_true (by kernel_rfl)) hV bel
  exact ⟨_, rfl, _, _, _, [], _, q', hW', trodAll_mk1 (shut_bool Tryd.underlying4 _), (trodAll_cons_mk (Below.trod laid_out (by kernel_rfl) (of_decide_eq_true (by kernel_rfl)) k0 bel lt0) (trodAll_cons_mk (shut_int Tryd.underlying2 bxKind) trodAll_mk0)), hq', bel.frame _, fun h => by cases h⟩

set_option maxHeartbeats 20000000 in
theorem closed : joinedFacts Tryd.prog 10 Tryd.f10 Rows.fnExactDoStrokeSpec Rows.fnExactDoStrokeRow = true := by
  simp only [joinedFacts, Bool.and_eq_true]
  refine ⟨⟨⟨⟨⟨⟨⟨⟨⟨⟨⟨⟨⟨⟨⟨⟨⟨⟨⟨⟨⟨⟨⟨⟨⟨⟨⟨⟨⟨⟨⟨?_, laid_out⟩, fact_maps⟩, ?_⟩, ?_⟩, ?_⟩, fact_stops⟩, ?_⟩, fact_knobs⟩, ?_⟩, ?_⟩, ?_⟩, ?_⟩, ?_⟩, ?_⟩, ?_⟩, ?_⟩, ?_⟩, ?_⟩, ?_⟩, ?_⟩, ?_⟩, fact_plain⟩, ?_⟩, fact_heard⟩, fact_enter⟩, fact_lift⟩, ?_⟩, ?_⟩, ?_⟩, ?_⟩, ?_⟩
  all_goals (as_aux_lemma => kernel_rfl)

theorem over : Rows.FnExactDoStrokeSaid :=
  OpenClaim.holds_of_wide 10 Tryd.f10 rfl rfl rfl rfl rfl rfl rfl ⟨rfl, rfl, rfl, rfl, rfl⟩ rfl rfl rfl rfl rfl (by as_aux_lemma => kernel_rfl) Tryd.func10 closed
    (of_decide_eq_true (by as_aux_lemma => kernel_rfl)) (by unfold Func.isWrapper; first | (rw [if_pos (by decide +kernel)]; kernel_rfl) | (rw [if_neg (by decide +kernel)]; exact ⟨rfl, rfl⟩))
    (fun os started H enc _ => lifted os started H enc)

set_option maxHeartbeats 20000000 in
/-- The statement: the tied card. -/
theorem proved : Rows.FnExactDoStrokeCardSaid :=
  Claim7.holds_tied_plain_at .later [] [.sentinel] true (true, "ec655d68bd83ee750dda8ab1bd41c2789a9eb6bdf7c44e01156a152df2f96c04") true
    over (fun _ h => by cases h) (by as_aux_lemma => kernel_rfl) (fun _ h => by cases h) fnExactDoStroke_row_tie rfl ⟨rfl, rfl⟩ (by as_aux_lemma => kernel_rfl) rfl
    (fun f fn hf hfn => by
      obtain rfl : f = 10 := Option.some.inj ((show Tryd.prog.funcNamed "loop.example/g00930/laws.FnExactDoStroke" = some 10 by as_aux_lemma => kernel_rfl).symm.trans hf) |>.symm
      obtain rfl : fn = Tryd.f10 := (Option.some.inj (Tryd.func10.symm.trans hfn)).symm
      exact ⟨(by as_aux_lemma => kernel_rfl), fun j t ht => by
        rw [Tryd.params10] at ht
        have hm : t ∈ [72, 2] := by simpa using Array.mem_of_getElem? ht
        have hall : ([72, 2].all fun u => !Tryd.prog.wantsStandIn u) = true := by as_aux_lemma => kernel_rfl
        exact (show Tryd.prog.wantsStandIn t = false by simpa using List.all_eq_true.1 hall t hm)⟩)
    (by as_aux_lemma => kernel_rfl)
end Go.Proofs.YtlahobdopmdfmaaDoor.lawDoStroke
