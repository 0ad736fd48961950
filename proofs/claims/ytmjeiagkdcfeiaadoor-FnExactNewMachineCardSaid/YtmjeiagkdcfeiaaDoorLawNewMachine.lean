/-
  laws.FnExactNewMachine returns true at every input (no condition, but the texts of the library's tables, which the card ties), and leaves its arguments as they were.
-/
import Derived.Test.YtmjeiagkdcfeiaaDoorMacLow
import Derived.Test.YtmjeiagkdcfeiaaDoorMacMid
import Derived.Test.YtmjeiagkdcfeiaaDoorDoorFrame
import Derived.Test.YtmjeiagkdcfeiaaDoorFacts
import Derived.Test.YtmjeiagkdcfeiaaDoorRows
namespace Go.Proofs.YtmjeiagkdcfeiaaDoor.lawNewMachine
open Go.ChangeShapes Go.WideShapes Go.ChangeAt Go.WideElems Go.RowKit Go.Joins
open Go.ChangeMaps (open_string shut_string)

theorem rowErr (u : TypeId) (h : Tryd.prog.typeName? 3 u = some "*errors.errorString") : u = 220 :=
  typeName_ptr_named (nm := "errors.errorString") (by rw [show "*" ++ "errors.errorString" = "*errors.errorString" by decide]; kernel_rfl) (by kernel_rfl) (by decide) u (by rw [show "*" ++ "errors.errorString" = "*errors.errorString" by decide]; exact h)
theorem gVar : Tryd.prog.globalNamed "loop.example/g00930/impl.errBell" = some 1 := by kernel_rfl
theorem tVar : (Tryd.prog.globals[1]?).map (·.type) = some 136 := by kernel_rfl
def Door (w : World) : Prop := BellD w
theorem door_below {w w' : World} (h : Door w) (hb : Below w.heap.size w w') : Door w' := h.below hb
theorem of_laid {W : World} (h : laidMetH Tryd.prog Rows.fnExactNewMachineRow.laid W) : Door W := by
  rw [MakeChecks.laidMetH_plain _ _ _ (by kernel_rfl)] at h
  obtain ⟨a, t, hv, _⟩ := laid_sentinel h (g := 1) (ti := 136) (tp := 220) (te := 243) (ts := 9) (by kernel_rfl) (by kernel_rfl) Tryd.underlying136 rowErr Tryd.underlying220 Tryd.underlying243 rfl rfl Tryd.underlying9 (by kernel_rfl) (by kernel_rfl)
  exact ⟨_, by simpa [BellAt, bellV] using World.var?_cell (g := 1) (by kernel_rfl) hv 0⟩

set_option maxRecDepth 100000 in
set_option maxHeartbeats 4000000 in
theorem law_walk (xBase : Int) (xSetting : Int) (xResult : Int) (xCount : Int) (w : World) (bxBase : I64 xBase) (bxSetting : I64 xSetting) (bxResult : I64 xResult) (bxCount : I64 xCount) (hD : Door w) :
    Calls Tryd.prog 4 #[.int .i64 xBase, .int .i64 xSetting, .int .i64 xResult, .int .i64 xCount] w fun e w' => e = .returned (.bool true) ∧ Below w.heap.size w w' := by
  have hbel : Below w.heap.size w w := Below.refl _ _
  go_enter Tryd.func4, Tryd.ntmps4
  go_wp2_with fail
  refine (specNewMachine xBase xSetting xResult xCount w bxBase bxSetting bxResult bxCount).mono ?_
  rintro e v1 ⟨w0A1, w0C1, w0A2, w0C2, w0A3, w0C3, rfl, ow0, hb⟩
  have s1 : Hid (w.heap.size ≤ v1.heap.size) := Lib.hid hb.size
  replace hbel := hbel.trans (hb.mono hbel.size)
  clear hb
  have ha2 : Below v1.heap.size v1 (v1.alloc (.cells #[.int .i64 (nmR xBase xSetting xResult xCount).1.b1, .slice w0A1 (nmR xBase xSetting xResult xCount).1.z1.length w0C1, .int .i64 (nmR xBase xSetting xResult xCount).1.b2, .slice w0A2 (nmR xBase xSetting xResult xCount).1.z2.length w0C2, .int .i64 (nmR xBase xSetting xResult xCount).1.b3, .slice w0A3 (nmR xBase xSetting xResult xCount).1.z3.length w0C3, .int .i64 (nmR xBase xSetting xResult xCount).1.p] 28)) := (Below.refl _ _).alloc (by simp <;> omega) _
  replace ow0 := ow0.below ha2
  replace hbel := hbel.trans (ha2.mono hbel.size)
  clear ha2
  have cw00 : (v1.alloc (.cells #[.int .i64 (nmR xBase xSetting xResult xCount).1.b1, .slice w0A1 (nmR xBase xSetting xResult xCount).1.z1.length w0C1, .int .i64 (nmR xBase xSetting xResult xCount).1.b2, .slice w0A2 (nmR xBase xSetting xResult xCount).1.z2.length w0C2, .int .i64 (nmR xBase xSetting xResult xCount).1.b3, .slice w0A3 (nmR xBase xSetting xResult xCount).1.z3.length w0C3, .int .i64 (nmR xBase xSetting xResult xCount).1.p] 28)).cell? ⟨v1.heap.size, 0, none⟩ = some (.int .i64 (nmR xBase xSetting xResult xCount).1.b1) := by go_simp
  have cw01 : (v1.alloc (.cells #[.int .i64 (nmR xBase xSetting xResult xCount).1.b1, .slice w0A1 (nmR xBase xSetting xResult xCount).1.z1.length w0C1, .int .i64 (nmR xBase xSetting xResult xCount).1.b2, .slice w0A2 (nmR xBase xSetting xResult xCount).1.z2.length w0C2, .int .i64 (nmR xBase xSetting xResult xCount).1.b3, .slice w0A3 (nmR xBase xSetting xResult xCount).1.z3.length w0C3, .int .i64 (nmR xBase xSetting xResult xCount).1.p] 28)).cell? ⟨v1.heap.size, 1, none⟩ = some (.slice w0A1 (nmR xBase xSetting xResult xCount).1.z1.length w0C1) := by go_simp
  have cw02 : (v1.alloc (.cells #[.int .i64 (nmR xBase xSetting xResult xCount).1.b1, .slice w0A1 (nmR xBase xSetting xResult xCount).1.z1.length w0C1, .int .i64 (nmR xBase xSetting xResult xCount).1.b2, .slice w0A2 (nmR xBase xSetting xResult xCount).1.z2.length w0C2, .int .i64 (nmR xBase xSetting xResult xCount).1.b3, .slice w0A3 (nmR xBase xSetting xResult xCount).1.z3.length w0C3, .int .i64 (nmR xBase xSetting xResult xCount).1.p] 28)).cell? ⟨v1.heap.size, 2, none⟩ = some (.int .i64 (nmR xBase xSetting xResult xCount).1.b2) := by go_simp
  have cw03 : (v1.alloc (.cells #[.int .i64 (nmR xBase xSetting xResult xCount).1.b1, .slice w0A1 (nmR xBase xSetting xResult xCount).1.z1.length w0C1, .int .i64 (nmR xBase xSetting xResult xCount).1.b2, .slice w0A2 (nmR xBase xSetting xResult xCount).1.z2.length w0C2, .int .i64 (nmR xBase xSetting xResult xCount).1.b3, .slice w0A3 (nmR xBase xSetting xResult xCount).1.z3.length w0C3, .int .i64 (nmR xBase xSetting xResult xCount).1.p] 28)).cell? ⟨v1.heap.size, 3, none⟩ = some (.slice w0A2 (nmR xBase xSetting xResult xCount).1.z2.length w0C2) := by go_simp
  have cw04 : (v1.alloc (.cells #[.int .i64 (nmR xBase xSetting xResult xCount).1.b1, .slice w0A1 (nmR xBase xSetting xResult xCount).1.z1.length w0C1, .int .i64 (nmR xBase xSetting xResult xCount).1.b2, .slice w0A2 (nmR xBase xSetting xResult xCount).1.z2.length w0C2, .int .i64 (nmR xBase xSetting xResult xCount).1.b3, .slice w0A3 (nmR xBase xSetting xResult xCount).1.z3.length w0C3, .int .i64 (nmR xBase xSetting xResult xCount).1.p] 28)).cell? ⟨v1.heap.size, 4, none⟩ = some (.int .i64 (nmR xBase xSetting xResult xCount).1.b3) := by go_simp
  have cw05 : (v1.alloc (.cells #[.int .i64 (nmR xBase xSetting xResult xCount).1.b1, .slice w0A1 (nmR xBase xSetting xResult xCount).1.z1.length w0C1, .int .i64 (nmR xBase xSetting xResult xCount).1.b2, .slice w0A2 (nmR xBase xSetting xResult xCount).1.z2.length w0C2, .int .i64 (nmR xBase xSetting xResult xCount).1.b3, .slice w0A3 (nmR xBase xSetting xResult xCount).1.z3.length w0C3, .int .i64 (nmR xBase xSetting xResult xCount).1.p] 28)).cell? ⟨v1.heap.size, 5, none⟩ = some (.slice w0A3 (nmR xBase xSetting xResult xCount).1.z3.length w0C3) := by go_simp
  have cw06 : (v1.alloc (.cells #[.int .i64 (nmR xBase xSetting xResult xCount).1.b1, .slice w0A1 (nmR xBase xSetting xResult xCount).1.z1.length w0C1, .int .i64 (nmR xBase xSetting xResult xCount).1.b2, .slice w0A2 (nmR xBase xSetting xResult xCount).1.z2.length w0C2, .int .i64 (nmR xBase xSetting xResult xCount).1.b3, .slice w0A3 (nmR xBase xSetting xResult xCount).1.z3.length w0C3, .int .i64 (nmR xBase xSetting xResult xCount).1.p] 28)).cell? ⟨v1.heap.size, 6, none⟩ = some (.int .i64 (nmR xBase xSetting xResult xCount).1.p) := by go_simp
  go_wp2_with fail
  obtain ⟨v2, hu⟩ : ∃ u, u = (v1.alloc (.cells #[.int .i64 (nmR xBase xSetting xResult xCount).1.b1, .slice w0A1 (nmR xBase xSetting xResult xCount).1.z1.length w0C1, .int .i64 (nmR xBase xSetting xResult xCount).1.b2, .slice w0A2 (nmR xBase xSetting xResult xCount).1.z2.length w0C2, .int .i64 (nmR xBase xSetting xResult xCount).1.b3, .slice w0A3 (nmR xBase xSetting xResult xCount).1.z3.length w0C3, .int .i64 (nmR xBase xSetting xResult xCount).1.p] 28)) := ⟨_, rfl⟩
  have s3 : Hid (v1.heap.size + 1 ≤ v2.heap.size) := Lib.hid (by rw [hu]; simp)
  rw [← hu] at cw00 cw01 cw02 cw03 cw04 cw05 cw06 ow0 hbel ⊢
  clear hu
  refine (implNewMachine xBase xSetting xResult xCount v2 bxBase bxSetting bxResult bxCount (door_below hD hbel)).mono ?_
  rintro e v3 ⟨g0A1, g0C1, g0A2, g0C2, g0A3, g0C3, rfl, og0, hb⟩
  have s4 : Hid (v2.heap.size ≤ v3.heap.size) := Lib.hid hb.size
  replace cw00 := kept hb cw00
  replace cw01 := kept hb cw01
  replace cw02 := kept hb cw02
  replace cw03 := kept hb cw03
  replace cw04 := kept hb cw04
  replace cw05 := kept hb cw05
  replace cw06 := kept hb cw06
  replace ow0 := ow0.below hb
  replace hbel := hbel.trans (hb.mono hbel.size)
  clear hb
  have ha5 : Below v3.heap.size v3 (v3.alloc (.cells #[.int .i64 (nmR xBase xSetting xResult xCount).1.b1, .slice g0A1 (nmR xBase xSetting xResult xCount).1.z1.length g0C1, .int .i64 (nmR xBase xSetting xResult xCount).1.b2, .slice g0A2 (nmR xBase xSetting xResult xCount).1.z2.length g0C2, .int .i64 (nmR xBase xSetting xResult xCount).1.b3, .slice g0A3 (nmR xBase xSetting xResult xCount).1.z3.length g0C3, .int .i64 (nmR xBase xSetting xResult xCount).1.p] 28)) := (Below.refl _ _).alloc (by simp <;> omega) _
  replace cw00 := kept ha5 cw00
  replace cw01 := kept ha5 cw01
  replace cw02 := kept ha5 cw02
  replace cw03 := kept ha5 cw03
  replace cw04 := kept ha5 cw04
  replace cw05 := kept ha5 cw05
  replace cw06 := kept ha5 cw06
  replace ow0 := ow0.below ha5
  replace og0 := og0.below ha5
  replace hbel := hbel.trans (ha5.mono hbel.size)
  clear ha5
  have cg00 : (v3.alloc (.cells #[.int .i64 (nmR xBase xSetting xResult xCount).1.b1, .slice g0A1 (nmR xBase xSetting xResult xCount).1.z1.length g0C1, .int .i64 (nmR xBase xSetting xResult xCount).1.b2, .slice g0A2 (nmR xBase xSetting xResult xCount).1.z2.length g0C2, .int .i64 (nmR xBase xSetting xResult xCount).1.b3, .slice g0A3 (nmR xBase xSetting xResult xCount).1.z3.length g0C3, .int .i64 (nmR xBase xSetting xResult xCount).1.p] 28)).cell? ⟨v3.heap.size, 0, none⟩ = some (.int .i64 (nmR xBase xSetting xResult xCount).1.b1) := by go_simp
  have cg01 : (v3.alloc (.cells #[.int .i64 (nmR xBase xSetting xResult xCount).1.b1, .slice g0A1 (nmR xBase xSetting xResult xCount).1.z1.length g0C1, .int .i64 (nmR xBase xSetting xResult xCount).1.b2, .slice g0A2 (nmR xBase xSetting xResult xCount).1.z2.length g0C2, .int .i64 (nmR xBase xSetting xResult xCount).1.b3, .slice g0A3 (nmR xBase xSetting xResult xCount).1.z3.length g0C3, .int .i64 (nmR xBase xSetting xResult xCount).1.p] 28)).cell? ⟨v3.heap.size, 1, none⟩ = some (.slice g0A1 (nmR xBase xSetting xResult xCount).1.z1.length g0C1) := by go_simp
  have cg02 : (v3.alloc (.cells #[.int .i64 (nmR xBase xSetting xResult xCount).1.b1, .slice g0A1 (nmR xBase xSetting xResult xCount).1.z1.length g0C1, .int .i64 (nmR xBase xSetting xResult xCount).1.b2, .slice g0A2 (nmR xBase xSetting xResult xCount).1.z2.length g0C2, .int .i64 (nmR xBase xSetting xResult xCount).1.b3, .slice g0A3 (nmR xBase xSetting xResult xCount).1.z3.length g0C3, .int .i64 (nmR xBase xSetting xResult xCount).1.p] 28)).cell? ⟨v3.heap.size, 2, none⟩ = some (.int .i64 (nmR xBase xSetting xResult xCount).1.b2) := by go_simp
  have cg03 : (v3.alloc (.cells #[.int .i64 (nmR xBase xSetting xResult xCount).1.b1, .slice g0A1 (nmR xBase xSetting xResult xCount).1.z1.length g0C1, .int .i64 (nmR xBase xSetting xResult xCount).1.b2, .slice g0A2 (nmR xBase xSetting xResult xCount).1.z2.length g0C2, .int .i64 (nmR xBase xSetting xResult xCount).1.b3, .slice g0A3 (nmR xBase xSetting xResult xCount).1.z3.length g0C3, .int .i64 (nmR xBase xSetting xResult xCount).1.p] 28)).cell? ⟨v3.heap.size, 3, none⟩ = some (.slice g0A2 (nmR xBase xSetting xResult xCount).1.z2.length g0C2) := by go_simp
  have cg04 : (v3.alloc (.cells #[.int .i64 (nmR xBase xSetting xResult xCount).1.b1, .slice g0A1 (nmR xBase xSetting xResult xCount).1.z1.length g0C1, .int .i64 (nmR xBase xSetting xResult xCount).1.b2, .slice g0A2 (nmR xBase xSetting xResult xCount).1.z2.length g0C2, .int .i64 (nmR xBase xSetting xResult xCount).1.b3, .slice g0A3 (nmR xBase xSetting xResult xCount).1.z3.length g0C3, .int .i64 (nmR xBase xSetting xResult xCount).1.p] 28)).cell? ⟨v3.heap.size, 4, none⟩ = some (.int .i64 (nmR xBase xSetting xResult xCount).1.b3) := by go_simp
  have cg05 : (v3.alloc (.cells #[.int .i64 (nmR xBase xSetting xResult xCount).1.b1, .slice g0A1 (nmR xBase xSetting xResult xCount).1.z1.length g0C1, .int .i64 (nmR xBase xSetting xResult xCount).1.b2, .slice g0A2 (nmR xBase xSetting xResult xCount).1.z2.length g0C2, .int .i64 (nmR xBase xSetting xResult xCount).1.b3, .slice g0A3 (nmR xBase xSetting xResult xCount).1.z3.length g0C3, .int .i64 (nmR xBase xSetting xResult xCount).1.p] 28)).cell? ⟨v3.heap.size, 5, none⟩ = some (.slice g0A3 (nmR xBase xSetting xResult xCount).1.z3.length g0C3) := by go_simp
  have cg06 : (v3.alloc (.cells #[.int .i64 (nmR xBase xSetting xResult xCount).1.b1, .slice g0A1 (nmR xBase xSetting xResult xCount).1.z1.length g0C1, .int .i64 (nmR xBase xSetting xResult xCount).1.b2, .slice g0A2 (nmR xBase xSetting xResult xCount).1.z2.length g0C2, .int .i64 (nmR xBase xSetting xResult xCount).1.b3, .slice g0A3 (nmR xBase xSetting xResult xCount).1.z3.length g0C3, .int .i64 (nmR xBase xSetting xResult xCount).1.p] 28)).cell? ⟨v3.heap.size, 6, none⟩ = some (.int .i64 (nmR xBase xSetting xResult xCount).1.p) := by go_simp
  have q6 : macEqB (nmR xBase xSetting xResult xCount).1 (nmR xBase xSetting xResult xCount).1 = true := macEqB_self _
  go_wp2_with fail
  obtain ⟨v4, hu⟩ : ∃ u, u = (v3.alloc (.cells #[.int .i64 (nmR xBase xSetting xResult xCount).1.b1, .slice g0A1 (nmR xBase xSetting xResult xCount).1.z1.length g0C1, .int .i64 (nmR xBase xSetting xResult xCount).1.b2, .slice g0A2 (nmR xBase xSetting xResult xCount).1.z2.length g0C2, .int .i64 (nmR xBase xSetting xResult xCount).1.b3, .slice g0A3 (nmR xBase xSetting xResult xCount).1.z3.length g0C3, .int .i64 (nmR xBase xSetting xResult xCount).1.p] 28)) := ⟨_, rfl⟩
  have s7 : Hid (v3.heap.size + 1 ≤ v4.heap.size) := Lib.hid (by rw [hu]; simp)
  rw [← hu] at cw00 cw01 cw02 cw03 cw04 cw05 cw06 cg00 cg01 cg02 cg03 cg04 cg05 cg06 ow0 og0 hbel ⊢
  clear hu
  refine (eqMachine_any (nmR xBase xSetting xResult xCount).1 (nmR xBase xSetting xResult xCount).1 g0A1 g0C1 g0A2 g0C2 g0A3 g0C3 w0A1 w0C1 w0A2 w0C2 w0A3 w0C3 v4 og0.rd ow0.rd).mono ?_
  rintro e v5 ⟨rfl, hb⟩
  have s8 : Hid (v4.heap.size ≤ v5.heap.size) := Lib.hid hb.size
  replace cw00 := kept hb cw00
  replace cw01 := kept hb cw01
  replace cw02 := kept hb cw02
  replace cw03 := kept hb cw03
  replace cw04 := kept hb cw04
  replace cw05 := kept hb cw05
  replace cw06 := kept hb cw06
  replace cg00 := kept hb cg00
  replace cg01 := kept hb cg01
  replace cg02 := kept hb cg02
  replace cg03 := kept hb cg03
  replace cg04 := kept hb cg04
  replace cg05 := kept hb cg05
  replace cg06 := kept hb cg06
  replace ow0 := ow0.below hb
  replace og0 := og0.below hb
  replace hbel := hbel.trans (hb.mono hbel.size)
  clear hb
  go_wp2_with fail
  refine (markMachine_any _ _ _ (nmR xBase xSetting xResult xCount).1 g0A1 g0C1 g0A2 g0C2 g0A3 g0C3 1 v5 og0 (by have := ow0.len; have := og0.len; omega) (by have := ow0.len; have := og0.len; omega)).mono ?_
  rintro e v6 ⟨rfl, om, ht⟩
  have s9 : Hid (v5.heap.size ≤ v6.heap.size) := Lib.hid ht.size
  clear og0
  have og0 := om
  clear om
  replace cw00 := keptT ht cw00 (by have := s1.out; have := s3.out; have := s4.out; have := s7.out; have := s8.out; have := s9.out; omega)
  replace cw01 := keptT ht cw01 (by have := s1.out; have := s3.out; have := s4.out; have := s7.out; have := s8.out; have := s9.out; omega)
  replace cw02 := keptT ht cw02 (by have := s1.out; have := s3.out; have := s4.out; have := s7.out; have := s8.out; have := s9.out; omega)
  replace cw03 := keptT ht cw03 (by have := s1.out; have := s3.out; have := s4.out; have := s7.out; have := s8.out; have := s9.out; omega)
  replace cw04 := keptT ht cw04 (by have := s1.out; have := s3.out; have := s4.out; have := s7.out; have := s8.out; have := s9.out; omega)
  replace cw05 := keptT ht cw05 (by have := s1.out; have := s3.out; have := s4.out; have := s7.out; have := s8.out; have := s9.out; omega)
  replace cw06 := keptT ht cw06 (by have := s1.out; have := s3.out; have := s4.out; have := s7.out; have := s8.out; have := s9.out; omega)
  replace cg00 := keptT ht cg00 (by have := s1.out; have := s3.out; have := s4.out; have := s7.out; have := s8.out; have := s9.out; omega)
  replace cg01 := keptT ht cg01 (by have := s1.out; have := s3.out; have := s4.out; have := s7.out; have := s8.out; have := s9.out; omega)
  replace cg02 := keptT ht cg02 (by have := s1.out; have := s3.out; have := s4.out; have := s7.out; have := s8.out; have := s9.out; omega)
  replace cg03 := keptT ht cg03 (by have := s1.out; have := s3.out; have := s4.out; have := s7.out; have := s8.out; have := s9.out; omega)
  replace cg04 := keptT ht cg04 (by have := s1.out; have := s3.out; have := s4.out; have := s7.out; have := s8.out; have := s9.out; omega)
  replace cg05 := keptT ht cg05 (by have := s1.out; have := s3.out; have := s4.out; have := s7.out; have := s8.out; have := s9.out; omega)
  replace cg06 := keptT ht cg06 (by have := s1.out; have := s3.out; have := s4.out; have := s7.out; have := s8.out; have := s9.out; omega)
  replace ow0 := ow0.touch ht (by have := s1.out; have := s3.out; have := s4.out; have := s7.out; have := s8.out; have := s9.out; omega)
  replace hbel := hbel.trans (ht.below (by have := s1.out; have := s3.out; have := s4.out; have := s7.out; have := s8.out; have := s9.out; omega) hbel.size)
  clear ht
  go_wp2_with fail
  refine (heldMachine_any (nmR xBase xSetting xResult xCount).1 g0A1 g0C1 g0A2 g0C2 g0A3 g0C3 1 (nmR xBase xSetting xResult xCount).1.z1.length (nmR xBase xSetting xResult xCount).1.z2.length (nmR xBase xSetting xResult xCount).1.z3.length v6 og0.rd (by have := ow0.len; have := og0.len; omega) (by have := ow0.len; have := og0.len; omega)).mono ?_
  rintro e v7 ⟨rfl, hb⟩
  have s10 : Hid (v6.heap.size ≤ v7.heap.size) := Lib.hid hb.size
  replace cw00 := kept hb cw00
  replace cw01 := kept hb cw01
  replace cw02 := kept hb cw02
  replace cw03 := kept hb cw03
  replace cw04 := kept hb cw04
  replace cw05 := kept hb cw05
  replace cw06 := kept hb cw06
  replace cg00 := kept hb cg00
  replace cg01 := kept hb cg01
  replace cg02 := kept hb cg02
  replace cg03 := kept hb cg03
  replace cg04 := kept hb cg04
  replace cg05 := kept hb cg05
  replace cg06 := kept hb cg06
  replace ow0 := ow0.below hb
  replace og0 := og0.below hb
  replace hbel := hbel.trans (hb.mono hbel.size)
  clear hb
  go_wp2_with fail
  refine (implNewMachine xBase xSetting xResult xCount v7 bxBase bxSetting bxResult bxCount (door_below hD hbel)).mono ?_
  rintro e v8 ⟨h0A1, h0C1, h0A2, h0C2, h0A3, h0C3, rfl, oh0, hb⟩
  have s11 : Hid (v7.heap.size ≤ v8.heap.size) := Lib.hid hb.size
  replace cw00 := kept hb cw00
  replace cw01 := kept hb cw01
  replace cw02 := kept hb cw02
  replace cw03 := kept hb cw03
  replace cw04 := kept hb cw04
  replace cw05 := kept hb cw05
  replace cw06 := kept hb cw06
  replace cg00 := kept hb cg00
  replace cg01 := kept hb cg01
  replace cg02 := kept hb cg02
  replace cg03 := kept hb cg03
  replace cg04 := kept hb cg04
  replace cg05 := kept hb cg05
  replace cg06 := kept hb cg06
  replace ow0 := ow0.below hb
  replace og0 := og0.below hb
  replace hbel := hbel.trans (hb.mono hbel.size)
  clear hb
  have ha12 : Below v8.heap.size v8 (v8.alloc (.cells #[.int .i64 (nmR xBase xSetting xResult xCount).1.b1, .slice h0A1 (nmR xBase xSetting xResult xCount).1.z1.length h0C1, .int .i64 (nmR xBase xSetting xResult xCount).1.b2, .slice h0A2 (nmR xBase xSetting xResult xCount).1.z2.length h0C2, .int .i64 (nmR xBase xSetting xResult xCount).1.b3, .slice h0A3 (nmR xBase xSetting xResult xCount).1.z3.length h0C3, .int .i64 (nmR xBase xSetting xResult xCount).1.p] 28)) := (Below.refl _ _).alloc (by simp <;> omega) _
  replace cw00 := kept ha12 cw00
  replace cw01 := kept ha12 cw01
  replace cw02 := kept ha12 cw02
  replace cw03 := kept ha12 cw03
  replace cw04 := kept ha12 cw04
  replace cw05 := kept ha12 cw05
  replace cw06 := kept ha12 cw06
  replace cg00 := kept ha12 cg00
  replace cg01 := kept ha12 cg01
  replace cg02 := kept ha12 cg02
  replace cg03 := kept ha12 cg03
  replace cg04 := kept ha12 cg04
  replace cg05 := kept ha12 cg05
  replace cg06 := kept ha12 cg06
  replace ow0 := ow0.below ha12
  replace og0 := og0.below ha12
  replace oh0 := oh0.below ha12
  replace hbel := hbel.trans (ha12.mono hbel.size)
  clear ha12
  have ch00 : (v8.alloc (.cells #[.int .i64 (nmR xBase xSetting xResult xCount).1.b1, .slice h0A1 (nmR xBase xSetting xResult xCount).1.z1.length h0C1, .int .i64 (nmR xBase xSetting xResult xCount).1.b2, .slice h0A2 (nmR xBase xSetting xResult xCount).1.z2.length h0C2, .int .i64 (nmR xBase xSetting xResult xCount).1.b3, .slice h0A3 (nmR xBase xSetting xResult xCount).1.z3.length h0C3, .int .i64 (nmR xBase xSetting xResult xCount).1.p] 28)).cell? ⟨v8.heap.size, 0, none⟩ = some (.int .i64 (nmR xBase xSetting xResult xCount).1.b1) := by go_simp
  have ch01 : (v8.alloc (.cells #[.int .i64 (nmR xBase xSetting xResult xCount).1.b1, .slice h0A1 (nmR xBase xSetting xResult xCount).1.z1.length h0C1, .int .i64 (nmR xBase xSetting xResult xCount).1.b2, .slice h0A2 (nmR xBase xSetting xResult xCount).1.z2.length h0C2, .int .i64 (nmR xBase xSetting xResult xCount).1.b3, .slice h0A3 (nmR xBase xSetting xResult xCount).1.z3.length h0C3, .int .i64 (nmR xBase xSetting xResult xCount).1.p] 28)).cell? ⟨v8.heap.size, 1, none⟩ = some (.slice h0A1 (nmR xBase xSetting xResult xCount).1.z1.length h0C1) := by go_simp
  have ch02 : (v8.alloc (.cells #[.int .i64 (nmR xBase xSetting xResult xCount).1.b1, .slice h0A1 (nmR xBase xSetting xResult xCount).1.z1.length h0C1, .int .i64 (nmR xBase xSetting xResult xCount).1.b2, .slice h0A2 (nmR xBase xSetting xResult xCount).1.z2.length h0C2, .int .i64 (nmR xBase xSetting xResult xCount).1.b3, .slice h0A3 (nmR xBase xSetting xResult xCount).1.z3.length h0C3, .int .i64 (nmR xBase xSetting xResult xCount).1.p] 28)).cell? ⟨v8.heap.size, 2, none⟩ = some (.int .i64 (nmR xBase xSetting xResult xCount).1.b2) := by go_simp
  have ch03 : (v8.alloc (.cells #[.int .i64 (nmR xBase xSetting xResult xCount).1.b1, .slice h0A1 (nmR xBase xSetting xResult xCount).1.z1.length h0C1, .int .i64 (nmR xBase xSetting xResult xCount).1.b2, .slice h0A2 (nmR xBase xSetting xResult xCount).1.z2.length h0C2, .int .i64 (nmR xBase xSetting xResult xCount).1.b3, .slice h0A3 (nmR xBase xSetting xResult xCount).1.z3.length h0C3, .int .i64 (nmR xBase xSetting xResult xCount).1.p] 28)).cell? ⟨v8.heap.size, 3, none⟩ = some (.slice h0A2 (nmR xBase xSetting xResult xCount).1.z2.length h0C2) := by go_simp
  have ch04 : (v8.alloc (.cells #[.int .i64 (nmR xBase xSetting xResult xCount).1.b1, .slice h0A1 (nmR xBase xSetting xResult xCount).1.z1.length h0C1, .int .i64 (nmR xBase xSetting xResult xCount).1.b2, .slice h0A2 (nmR xBase xSetting xResult xCount).1.z2.length h0C2, .int .i64 (nmR xBase xSetting xResult xCount).1.b3, .slice h0A3 (nmR xBase xSetting xResult xCount).1.z3.length h0C3, .int .i64 (nmR xBase xSetting xResult xCount).1.p] 28)).cell? ⟨v8.heap.size, 4, none⟩ = some (.int .i64 (nmR xBase xSetting xResult xCount).1.b3) := by go_simp
  have ch05 : (v8.alloc (.cells #[.int .i64 (nmR xBase xSetting xResult xCount).1.b1, .slice h0A1 (nmR xBase xSetting xResult xCount).1.z1.length h0C1, .int .i64 (nmR xBase xSetting xResult xCount).1.b2, .slice h0A2 (nmR xBase xSetting xResult xCount).1.z2.length h0C2, .int .i64 (nmR xBase xSetting xResult xCount).1.b3, .slice h0A3 (nmR xBase xSetting xResult xCount).1.z3.length h0C3, .int .i64 (nmR xBase xSetting xResult xCount).1.p] 28)).cell? ⟨v8.heap.size, 5, none⟩ = some (.slice h0A3 (nmR xBase xSetting xResult xCount).1.z3.length h0C3) := by go_simp
  have ch06 : (v8.alloc (.cells #[.int .i64 (nmR xBase xSetting xResult xCount).1.b1, .slice h0A1 (nmR xBase xSetting xResult xCount).1.z1.length h0C1, .int .i64 (nmR xBase xSetting xResult xCount).1.b2, .slice h0A2 (nmR xBase xSetting xResult xCount).1.z2.length h0C2, .int .i64 (nmR xBase xSetting xResult xCount).1.b3, .slice h0A3 (nmR xBase xSetting xResult xCount).1.z3.length h0C3, .int .i64 (nmR xBase xSetting xResult xCount).1.p] 28)).cell? ⟨v8.heap.size, 6, none⟩ = some (.int .i64 (nmR xBase xSetting xResult xCount).1.p) := by go_simp
  have q13 : macEqB (nmR xBase xSetting xResult xCount).1 (nmR xBase xSetting xResult xCount).1 = true := macEqB_self _
  go_wp2_with fail
  obtain ⟨v9, hu⟩ : ∃ u, u = (v8.alloc (.cells #[.int .i64 (nmR xBase xSetting xResult xCount).1.b1, .slice h0A1 (nmR xBase xSetting xResult xCount).1.z1.length h0C1, .int .i64 (nmR xBase xSetting xResult xCount).1.b2, .slice h0A2 (nmR xBase xSetting xResult xCount).1.z2.length h0C2, .int .i64 (nmR xBase xSetting xResult xCount).1.b3, .slice h0A3 (nmR xBase xSetting xResult xCount).1.z3.length h0C3, .int .i64 (nmR xBase xSetting xResult xCount).1.p] 28)) := ⟨_, rfl⟩
  have s14 : Hid (v8.heap.size + 1 ≤ v9.heap.size) := Lib.hid (by rw [hu]; simp)
  rw [← hu] at cw00 cw01 cw02 cw03 cw04 cw05 cw06 cg00 cg01 cg02 cg03 cg04 cg05 cg06 ch00 ch01 ch02 ch03 ch04 ch05 ch06 ow0 og0 oh0 hbel ⊢
  clear hu
  refine (eqMachine_any (nmR xBase xSetting xResult xCount).1 (nmR xBase xSetting xResult xCount).1 h0A1 h0C1 h0A2 h0C2 h0A3 h0C3 w0A1 w0C1 w0A2 w0C2 w0A3 w0C3 v9 oh0.rd ow0.rd).mono ?_
  rintro e v10 ⟨rfl, hb⟩
  have s15 : Hid (v9.heap.size ≤ v10.heap.size) := Lib.hid hb.size
  replace cw00 := kept hb cw00
  replace cw01 := kept hb cw01
  replace cw02 := kept hb cw02
  replace cw03 := kept hb cw03
  replace cw04 := kept hb cw04
  replace cw05 := kept hb cw05
  replace cw06 := kept hb cw06
  replace cg00 := kept hb cg00
  replace cg01 := kept hb cg01
  replace cg02 := kept hb cg02
  replace cg03 := kept hb cg03
  replace cg04 := kept hb cg04
  replace cg05 := kept hb cg05
  replace cg06 := kept hb cg06
  replace ch00 := kept hb ch00
  replace ch01 := kept hb ch01
  replace ch02 := kept hb ch02
  replace ch03 := kept hb ch03
  replace ch04 := kept hb ch04
  replace ch05 := kept hb ch05
  replace ch06 := kept hb ch06
  replace ow0 := ow0.below hb
  replace og0 := og0.below hb
  replace oh0 := oh0.below hb
  replace hbel := hbel.trans (hb.mono hbel.size)
  clear hb
  go_wp2_with fail
  refine (heldMachine_any (nmR xBase xSetting xResult xCount).1 g0A1 g0C1 g0A2 g0C2 g0A3 g0C3 1 (nmR xBase xSetting xResult xCount).1.z1.length (nmR xBase xSetting xResult xCount).1.z2.length (nmR xBase xSetting xResult xCount).1.z3.length v10 og0.rd (by have := ow0.len; have := og0.len; have := oh0.len; omega) (by have := ow0.len; have := og0.len; have := oh0.len; omega)).mono ?_
  rintro e v11 ⟨rfl, hb⟩
  have s16 : Hid (v10.heap.size ≤ v11.heap.size) := Lib.hid hb.size
  replace cw00 := kept hb cw00
  replace cw01 := kept hb cw01
  replace cw02 := kept hb cw02
  replace cw03 := kept hb cw03
  replace cw04 := kept hb cw04
  replace cw05 := kept hb cw05
  replace cw06 := kept hb cw06
  replace cg00 := kept hb cg00
  replace cg01 := kept hb cg01
  replace cg02 := kept hb cg02
  replace cg03 := kept hb cg03
  replace cg04 := kept hb cg04
  replace cg05 := kept hb cg05
  replace cg06 := kept hb cg06
  replace ch00 := kept hb ch00
  replace ch01 := kept hb ch01
  replace ch02 := kept hb ch02
  replace ch03 := kept hb ch03
  replace ch04 := kept hb ch04
  replace ch05 := kept hb ch05
  replace ch06 := kept hb ch06
  replace ow0 := ow0.below hb
  replace og0 := og0.below hb
  replace oh0 := oh0.below hb
  replace hbel := hbel.trans (hb.mono hbel.size)
  clear hb
  go_wp2
  go_ret
  exact ⟨rfl, hbel⟩

/-- The door's own heap meets the condition: closed facts. -/
theorem door_met (os : Os) (args : Array Value) : laidMetH Tryd.prog Rows.fnExactNewMachineRow.laid ((World.doorLaid Tryd.prog 400 os).forCall (fun _ _ => 0) ⟨#[], args, []⟩).memory :=
  laidMetH_of_parts3 (fuel := 8) (laidMet_of_run' 8 (by kernel_rfl) (by kernel_rfl)) (by kernel_rfl) (by kernel_rfl)

set_option maxRecDepth 100000 in
theorem lifted (os : Os) (started : os.Started) (H : Type) (enc : TypeId × Value → H) :
    ReturnsInHanded {} Tryd.checked os 4 .any (fun w args => (Rows.fnExactNewMachineSpec.pre enc Tryd.prog Tryd.f4 [] false w args ∧ laidMetH Tryd.prog Rows.fnExactNewMachineRow.laid w) ∧ sizedMet enc Tryd.prog Tryd.f4 (OpenSpec.ofChange Rows.fnExactNewMachineSpec) false w args)
      (Rows.fnExactNewMachineSpec.post enc Tryd.prog Tryd.f4 false true false false) := by
  refine returnsInHanded_of_change_and (C := Tryd.checked) (X := fun w _ => laidMetH Tryd.prog Rows.fnExactNewMachineRow.laid w) (fun _ _ _ hh h => h.of_heap hh) own_knob started (by kernel_rfl) Tryd.func4
    (ChangeSpec.witness_shaped (enc := enc) (C := Tryd.checked) (os := os) (X := fun w _ => laidMetH Tryd.prog Rows.fnExactNewMachineRow.laid w) false (World.doorLaid Tryd.prog 400 os) #[.int .i64 0, .int .i64 0, .int .i64 0, .int .i64 0] 8 rfl (World.shaped_of_RefB (by kernel_rfl) (by kernel_rfl)) (by kernel_rfl) (by kernel_rfl) (by kernel_rfl) (door_met os _)) ?_
  intro W base args ds gs before hval0 hW _ _ hL _
  have hval : ∀ (j : Nat) t v, Tryd.f4.params[j]? = some t → args[j]? = some v → Value.okWide Tryd.prog W .any base t v := hval0
  have hW' := hW
  obtain ⟨p, q, hA0, hV0, rfl, hfz, hnd⟩ := hW
  have hA : DataW.TrodAll enc Tryd.prog W 0 (fun _ => true) true Tryd.f4.params.toList args.toList ds p := hA0
  have hV : DataW.TrodVars enc Tryd.prog W (fun _ => true) ["loop.example/g00930/impl.errBell"] gs q := hV0
  rw [Tryd.params4] at hA hval
  obtain ⟨v0, vs0, d0, ds0, p0, q0, hargs, rfl, rfl, h0, r0⟩ := trodAll_cons hA
  obtain ⟨v1, vs1, d1, ds1, p1, q1, rfl, rfl, rfl, h1, r1⟩ := trodAll_cons r0
  obtain ⟨v2, vs2, d2, ds2, p2, q2, rfl, rfl, rfl, h2, r2⟩ := trodAll_cons r1
  obtain ⟨v3, vs3, d3, ds3, p3, q3, rfl, rfl, rfl, h3, r3⟩ := trodAll_cons r2
  obtain ⟨rfl, rfl, rfl⟩ := trodAll_nil r3
  obtain rfl : args = #[v0, v1, v2, v3] := by cases args; simp_all
  obtain ⟨xBase, rfl, rfl, rfl, bxBase⟩ := open_int Tryd.underlying2 (hval 0 2 v0 rfl rfl) h0
  obtain ⟨xSetting, rfl, rfl, rfl, bxSetting⟩ := open_int Tryd.underlying2 (hval 1 2 v1 rfl rfl) h1
  obtain ⟨xResult, rfl, rfl, rfl, bxResult⟩ := open_int Tryd.underlying2 (hval 2 2 v2 rfl rfl) h2
  obtain ⟨xCount, rfl, rfl, rfl, bxCount⟩ := open_int Tryd.underlying2 (hval 3 2 v3 rfl rfl) h3
  have hD := of_laid hL
  clear hA0 hval0
  obtain ⟨gd, rfl⟩ : ∃ gd, gs = [gd] := by
    obtain ⟨_, _, _, _, d, _, h, _⟩ := trodVars_one hV
    exact ⟨d, h⟩
  refine (law_walk xBase xSetting xResult xCount W bxBase bxSetting bxResult bxCount hD).mono fun e W' ⟨he, bel⟩ => ?_
  subst he
  obtain ⟨q', hq'⟩ := var_stays gVar tVar (by kernel_rfl) (of_decide_eq_true (by kernel_rfl)) hV bel
  exact ⟨_, rfl, _, _, _, [], _, q', hW', trodAll_mk1 (shut_bool Tryd.underlying4 _), (trodAll_cons_mk (shut_int Tryd.underlying2 bxBase) (trodAll_cons_mk (shut_int Tryd.underlying2 bxSetting) (trodAll_cons_mk (shut_int Tryd.underlying2 bxResult) (trodAll_cons_mk (shut_int Tryd.underlying2 bxCount) trodAll_mk0)))), hq', bel.frame _, fun h => by cases h⟩

set_option maxHeartbeats 20000000 in
theorem closed : joinedFacts Tryd.prog 4 Tryd.f4 Rows.fnExactNewMachineSpec Rows.fnExactNewMachineRow = true := by
  simp only [joinedFacts, Bool.and_eq_true]
  refine ⟨⟨⟨⟨⟨⟨⟨⟨⟨⟨⟨⟨⟨⟨⟨⟨⟨⟨⟨⟨⟨⟨⟨⟨⟨⟨⟨⟨⟨⟨⟨?_, laid_out⟩, fact_maps⟩, ?_⟩, ?_⟩, ?_⟩, fact_stops⟩, ?_⟩, fact_knobs⟩, ?_⟩, ?_⟩, ?_⟩, ?_⟩, ?_⟩, ?_⟩, ?_⟩, ?_⟩, ?_⟩, ?_⟩, ?_⟩, ?_⟩, ?_⟩, fact_plain⟩, ?_⟩, fact_heard⟩, fact_enter⟩, fact_lift⟩, ?_⟩, ?_⟩, ?_⟩, ?_⟩, ?_⟩
  all_goals (as_aux_lemma => kernel_rfl)

theorem over : Rows.FnExactNewMachineSaid :=
  OpenClaim.holds_of_wide 4 Tryd.f4 rfl rfl rfl rfl rfl rfl rfl ⟨rfl, rfl, rfl, rfl, rfl⟩ rfl rfl rfl rfl rfl (by as_aux_lemma => kernel_rfl) Tryd.func4 closed
    (of_decide_eq_true (by as_aux_lemma => kernel_rfl)) (by unfold Func.isWrapper; first | (rw [if_pos (by decide +kernel)]; kernel_rfl) | (rw [if_neg (by decide +kernel)]; exact ⟨rfl, rfl⟩))
    (fun os started H enc _ => lifted os started H enc)

set_option maxHeartbeats 20000000 in
/-- The statement: the tied card. -/
theorem proved : Rows.FnExactNewMachineCardSaid :=
  Claim7.holds_tied_plain_at .later [] [.sentinel] true (true, "628e49af870eabad3dd2efe7e2527109367cc2c40df6ba0159ad33d311d01f8a") true
    over (fun _ h => by cases h) (by as_aux_lemma => kernel_rfl) (fun _ h => by cases h) fnExactNewMachine_row_tie rfl ⟨rfl, rfl⟩ (by as_aux_lemma => kernel_rfl) rfl
    (fun f fn hf hfn => by
      obtain rfl : f = 4 := Option.some.inj ((show Tryd.prog.funcNamed "loop.example/g00930/laws.FnExactNewMachine" = some 4 by as_aux_lemma => kernel_rfl).symm.trans hf) |>.symm
      obtain rfl : fn = Tryd.f4 := (Option.some.inj (Tryd.func4.symm.trans hfn)).symm
      exact ⟨(by as_aux_lemma => kernel_rfl), fun j t ht => by
        rw [Tryd.params4] at ht
        have hm : t ∈ [2, 2, 2, 2] := by simpa using Array.mem_of_getElem? ht
        have hall : ([2, 2, 2, 2].all fun u => !Tryd.prog.wantsStandIn u) = true := by as_aux_lemma => kernel_rfl
        exact (show Tryd.prog.wantsStandIn t = false by simpa using List.all_eq_true.1 hall t hm)⟩)
    (by as_aux_lemma => kernel_rfl)
end Go.Proofs.YtmjeiagkdcfeiaaDoor.lawNewMachine
