/-
  laws.FnExactReadMachine returns true at every input (no condition, but the texts of the library's tables, which the card ties), and leaves its arguments as they were.
-/
import Derived.Test.YtlahobdopmdfmaaGreatDoorMacLow
import Derived.Test.YtlahobdopmdfmaaGreatDoorRmAll
import Derived.Test.YtlahobdopmdfmaaGreatDoorDoorFrame
import Derived.Test.YtlahobdopmdfmaaGreatDoorShapeD
import Derived.Lay
import Derived.Test.YtlahobdopmdfmaaGreatDoorFacts
import Derived.Test.YtlahobdopmdfmaaGreatDoorRows
namespace Go.Proofs.YtlahobdopmdfmaaGreatDoor.lawReadMachine
open Go.ChangeShapes Go.WideShapes Go.ChangeAt Go.WideElems Go.RowKit Go.Joins
open Go.ChangeMaps (open_string shut_string)

theorem gVar : Tryz.prog.globalNamed "loop.example/g00930/impl.errBell" = some 4 := by kernel_rfl
theorem tVar : (Tryz.prog.globals[4]?).map (·.type) = some 85 := by kernel_rfl
theorem rowErr (u : TypeId) (h : Tryz.prog.typeName? 3 u = some "*errors.errorString") : u = 187 :=
  typeName_ptr_named (nm := "errors.errorString") (by rw [show "*" ++ "errors.errorString" = "*errors.errorString" by decide]; kernel_rfl) (by kernel_rfl) (by decide) u (by rw [show "*" ++ "errors.errorString" = "*errors.errorString" by decide]; exact h)
def Door (w : World) : Prop := RmDoor w
theorem door_below {w w' : World} (h : Door w) (hb : Below w.heap.size w w') : Door w' := h.below hb
theorem of_laid {W : World} (h : laidMetH Tryz.prog Rows.fnExactReadMachineRow.laid W) (hSh : W.ShapedOpen Tryz.prog) : Door W := by
  rw [MakeChecks.laidMetH_plain _ _ _ (by kernel_rfl)] at h
  have h2 := h.tail.tail
  refine ⟨⟨?_, cell_of_shapedOpen_int (P := Tryz.prog) (g := 1) (t := 3) (zero := #[.int .i64 0]) hSh (of_decide_eq_true (by kernel_rfl)) (by kernel_rfl) rfl (by kernel_rfl) (by kernel_rfl) Tryz.underlying3⟩, ?_⟩
  rotate_left
  · obtain ⟨a, t, hv, _⟩ := laid_sentinel h2.tail.tail.tail.tail (g := 4) (ti := 85) (tp := 187) (te := 189) (ts := 9) (by kernel_rfl) (by kernel_rfl) Tryz.underlying85 rowErr Tryz.underlying187 Tryz.underlying189 rfl rfl Tryz.underlying9 (by kernel_rfl) (by kernel_rfl)
    exact ⟨_, by simpa [BellAt, bellV] using World.var?_cell (g := 4) (by kernel_rfl) hv 0⟩
  refine ⟨Lib.tabIs_of_head (g := 5) (t := 177) (e := 77) (n := 20) (by kernel_rfl) (by kernel_rfl) Tryz.underlying177 Tryz.underlying77 (by kernel_rfl) (by kernel_rfl)
    (show laidMet Tryz.prog (("internal/strconv.uint64pow10", Lib.tabData .u64 Lib.pow10Tab) :: _) W from h2), ?_, ?_⟩
  · obtain ⟨a, t, hv, _⟩ := laid_sentinel h2.tail.tail.tail (g := 2) (ti := 85) (tp := 187) (te := 189) (ts := 9) (by kernel_rfl) (by kernel_rfl) Tryz.underlying85 rowErr Tryz.underlying187 Tryz.underlying189 rfl rfl Tryz.underlying9 (by kernel_rfl) (by kernel_rfl)
    exact ⟨_, by simpa using World.var?_cell (g := 2) (by kernel_rfl) hv 0, _, _, rfl⟩
  · obtain ⟨a, t, hv, _⟩ := laid_sentinel h2.tail.tail (g := 3) (ti := 85) (tp := 187) (te := 189) (ts := 9) (by kernel_rfl) (by kernel_rfl) Tryz.underlying85 rowErr Tryz.underlying187 Tryz.underlying189 rfl rfl Tryz.underlying9 (by kernel_rfl) (by kernel_rfl)
    exact ⟨_, by simpa using World.var?_cell (g := 3) (by kernel_rfl) hv 0, _, _, rfl⟩

set_option maxRecDepth 100000 in
set_option maxHeartbeats 4000000 in
theorem law_walk (xS : ByteArray) (w : World) (lxS : xS.size ≤ 9223372036854775807) (hD : Door w) :
    Calls Tryz.prog 4 #[.string xS] w fun e w' => e = .returned (.bool true) ∧ Below w.heap.size w w' := by
  rcases Nat.lt_or_ge 1048576 xS.size with kxS | fxS
  · go_enter Tryz.func4, Tryz.ntmps4
    go_wp2
    go_ret
    exact ⟨rfl, Below.refl _ _⟩
  have hbel : Below w.heap.size w w := Below.refl _ _
  go_enter Tryz.func4, Tryz.ntmps4
  go_wp2_with fail
  refine (specReadMachine xS w fxS).mono ?_
  rintro e v1 ⟨w0A1, w0C1, w0A2, w0C2, w0A3, w0C3, rfl, ow0, hb⟩
  have s1 : Hid (w.heap.size ≤ v1.heap.size) := Lib.hid hb.size
  replace hbel := hbel.trans (hb.mono hbel.size)
  clear hb
  have ha2 : Below v1.heap.size v1 (v1.alloc (.cells #[.int .i64 (rmR xS).1.b1, .slice w0A1 (rmR xS).1.z1.length w0C1, .int .i64 (rmR xS).1.b2, .slice w0A2 (rmR xS).1.z2.length w0C2, .int .i64 (rmR xS).1.b3, .slice w0A3 (rmR xS).1.z3.length w0C3, .int .i64 (rmR xS).1.p] 28)) := (Below.refl _ _).alloc (by simp <;> omega) _
  replace ow0 := ow0.below ha2
  replace hbel := hbel.trans (ha2.mono hbel.size)
  clear ha2
  have cw00 : (v1.alloc (.cells #[.int .i64 (rmR xS).1.b1, .slice w0A1 (rmR xS).1.z1.length w0C1, .int .i64 (rmR xS).1.b2, .slice w0A2 (rmR xS).1.z2.length w0C2, .int .i64 (rmR xS).1.b3, .slice w0A3 (rmR xS).1.z3.length w0C3, .int .i64 (rmR xS).1.p] 28)).cell? ⟨v1.heap.size, 0, none⟩ = some (.int .i64 (rmR xS).1.b1) := by go_simp
  have cw01 : (v1.alloc (.cells #[.int .i64 (rmR xS).1.b1, .slice w0A1 (rmR xS).1.z1.length w0C1, .int .i64 (rmR xS).1.b2, .slice w0A2 (rmR xS).1.z2.length w0C2, .int .i64 (rmR xS).1.b3, .slice w0A3 (rmR xS).1.z3.length w0C3, .int .i64 (rmR xS).1.p] 28)).cell? ⟨v1.heap.size, 1, none⟩ = some (.slice w0A1 (rmR xS).1.z1.length w0C1) := by go_simp
  have cw02 : (v1.alloc (.cells #[.int .i64 (rmR xS).1.b1, .slice w0A1 (rmR xS).1.z1.length w0C1, .int .i64 (rmR xS).1.b2, .slice w0A2 (rmR xS).1.z2.length w0C2, .int .i64 (rmR xS).1.b3, .slice w0A3 (rmR xS).1.z3.length w0C3, .int .i64 (rmR xS).1.p] 28)).cell? ⟨v1.heap.size, 2, none⟩ = some (.int .i64 (rmR xS).1.b2) := by go_simp
  have cw03 : (v1.alloc (.cells #[.int .i64 (rmR xS).1.b1, .slice w0A1 (rmR xS).1.z1.length w0C1, .int .i64 (rmR xS).1.b2, .slice w0A2 (rmR xS).1.z2.length w0C2, .int .i64 (rmR xS).1.b3, .slice w0A3 (rmR xS).1.z3.length w0C3, .int .i64 (rmR xS).1.p] 28)).cell? ⟨v1.heap.size, 3, none⟩ = some (.slice w0A2 (rmR xS).1.z2.length w0C2) := by go_simp
  have cw04 : (v1.alloc (.cells #[.int .i64 (rmR xS).1.b1, .slice w0A1 (rmR xS).1.z1.length w0C1, .int .i64 (rmR xS).1.b2, .slice w0A2 (rmR xS).1.z2.length w0C2, .int .i64 (rmR xS).1.b3, .slice w0A3 (rmR xS).1.z3.length w0C3, .int .i64 (rmR xS).1.p] 28)).cell? ⟨v1.heap.size, 4, none⟩ = some (.int .i64 (rmR xS).1.b3) := by go_simp
  have cw05 : (v1.alloc (.cells #[.int .i64 (rmR xS).1.b1, .slice w0A1 (rmR xS).1.z1.length w0C1, .int .i64 (rmR xS).1.b2, .slice w0A2 (rmR xS).1.z2.length w0C2, .int .i64 (rmR xS).1.b3, .slice w0A3 (rmR xS).1.z3.length w0C3, .int .i64 (rmR xS).1.p] 28)).cell? ⟨v1.heap.size, 5, none⟩ = some (.slice w0A3 (rmR xS).1.z3.length w0C3) := by go_simp
  have cw06 : (v1.alloc (.cells #[.int .i64 (rmR xS).1.b1, .slice w0A1 (rmR xS).1.z1.length w0C1, .int .i64 (rmR xS).1.b2, .slice w0A2 (rmR xS).1.z2.length w0C2, .int .i64 (rmR xS).1.b3, .slice w0A3 (rmR xS).1.z3.length w0C3, .int .i64 (rmR xS).1.p] 28)).cell? ⟨v1.heap.size, 6, none⟩ = some (.int .i64 (rmR xS).1.p) := by go_simp
  go_wp2_with fail
  obtain ⟨v2, hu⟩ : ∃ u, u = (v1.alloc (.cells #[.int .i64 (rmR xS).1.b1, .slice w0A1 (rmR xS).1.z1.length w0C1, .int .i64 (rmR xS).1.b2, .slice w0A2 (rmR xS).1.z2.length w0C2, .int .i64 (rmR xS).1.b3, .slice w0A3 (rmR xS).1.z3.length w0C3, .int .i64 (rmR xS).1.p] 28)) := ⟨_, rfl⟩
  have s3 : Hid (v1.heap.size + 1 ≤ v2.heap.size) := Lib.hid (by rw [hu]; simp)
  rw [← hu] at cw00 cw01 cw02 cw03 cw04 cw05 cw06 ow0 hbel ⊢
  clear hu
  refine (implReadMachine xS v2 fxS (door_below hD hbel)).mono ?_
  rintro e v3 ⟨g0A1, g0C1, g0A2, g0C2, g0A3, g0C3, rfl, og0, hb⟩
  have s4 : Hid (v2.heap.size ≤ v3.heap.size) := Lib.hid hb.size
  replace cw00 := kept hb cw00
  replace cw01 := kept hb cw01
  replace cw02 := kept hb cw02
  replace cw03 := kept hb cw03
  replace cw04 := kept hb cw04
  replace cw05 := kept hb cw05
  replace cw06 := kept hb cw06
  replace ow0 := ow0.below hb
  replace hbel := hbel.trans (hb.mono hbel.size)
  clear hb
  have ha5 : Below v3.heap.size v3 (v3.alloc (.cells #[.int .i64 (rmR xS).1.b1, .slice g0A1 (rmR xS).1.z1.length g0C1, .int .i64 (rmR xS).1.b2, .slice g0A2 (rmR xS).1.z2.length g0C2, .int .i64 (rmR xS).1.b3, .slice g0A3 (rmR xS).1.z3.length g0C3, .int .i64 (rmR xS).1.p] 28)) := (Below.refl _ _).alloc (by simp <;> omega) _
  replace cw00 := kept ha5 cw00
  replace cw01 := kept ha5 cw01
  replace cw02 := kept ha5 cw02
  replace cw03 := kept ha5 cw03
  replace cw04 := kept ha5 cw04
  replace cw05 := kept ha5 cw05
  replace cw06 := kept ha5 cw06
  replace ow0 := ow0.below ha5
  replace og0 := og0.below ha5
  replace hbel := hbel.trans (ha5.mono hbel.size)
  clear ha5
  have cg00 : (v3.alloc (.cells #[.int .i64 (rmR xS).1.b1, .slice g0A1 (rmR xS).1.z1.length g0C1, .int .i64 (rmR xS).1.b2, .slice g0A2 (rmR xS).1.z2.length g0C2, .int .i64 (rmR xS).1.b3, .slice g0A3 (rmR xS).1.z3.length g0C3, .int .i64 (rmR xS).1.p] 28)).cell? ⟨v3.heap.size, 0, none⟩ = some (.int .i64 (rmR xS).1.b1) := by go_simp
  have cg01 : (v3.alloc (.cells #[.int .i64 (rmR xS).1.b1, .slice g0A1 (rmR xS).1.z1.length g0C1, .int .i64 (rmR xS).1.b2, .slice g0A2 (rmR xS).1.z2.length g0C2, .int .i64 (rmR xS).1.b3, .slice g0A3 (rmR xS).1.z3.length g0C3, .int .i64 (rmR xS).1.p] 28)).cell? ⟨v3.heap.size, 1, none⟩ = some (.slice g0A1 (rmR xS).1.z1.length g0C1) := by go_simp
  have cg02 : (v3.alloc (.cells #[.int .i64 (rmR xS).1.b1, .slice g0A1 (rmR xS).1.z1.length g0C1, .int .i64 (rmR xS).1.b2, .slice g0A2 (rmR xS).1.z2.length g0C2, .int .i64 (rmR xS).1.b3, .slice g0A3 (rmR xS).1.z3.length g0C3, .int .i64 (rmR xS).1.p] 28)).cell? ⟨v3.heap.size, 2, none⟩ = some (.int .i64 (rmR xS).1.b2) := by go_simp
  have cg03 : (v3.alloc (.cells #[.int .i64 (rmR xS).1.b1, .slice g0A1 (rmR xS).1.z1.length g0C1, .int .i64 (rmR xS).1.b2, .slice g0A2 (rmR xS).1.z2.length g0C2, .int .i64 (rmR xS).1.b3, .slice g0A3 (rmR xS).1.z3.length g0C3, .int .i64 (rmR xS).1.p] 28)).cell? ⟨v3.heap.size, 3, none⟩ = some (.slice g0A2 (rmR xS).1.z2.length g0C2) := by go_simp
  have cg04 : (v3.alloc (.cells #[.int .i64 (rmR xS).1.b1, .slice g0A1 (rmR xS).1.z1.length g0C1, .int .i64 (rmR xS).1.b2, .slice g0A2 (rmR xS).1.z2.length g0C2, .int .i64 (rmR xS).1.b3, .slice g0A3 (rmR xS).1.z3.length g0C3, .int .i64 (rmR xS).1.p] 28)).cell? ⟨v3.heap.size, 4, none⟩ = some (.int .i64 (rmR xS).1.b3) := by go_simp
  have cg05 : (v3.alloc (.cells #[.int .i64 (rmR xS).1.b1, .slice g0A1 (rmR xS).1.z1.length g0C1, .int .i64 (rmR xS).1.b2, .slice g0A2 (rmR xS).1.z2.length g0C2, .int .i64 (rmR xS).1.b3, .slice g0A3 (rmR xS).1.z3.length g0C3, .int .i64 (rmR xS).1.p] 28)).cell? ⟨v3.heap.size, 5, none⟩ = some (.slice g0A3 (rmR xS).1.z3.length g0C3) := by go_simp
  have cg06 : (v3.alloc (.cells #[.int .i64 (rmR xS).1.b1, .slice g0A1 (rmR xS).1.z1.length g0C1, .int .i64 (rmR xS).1.b2, .slice g0A2 (rmR xS).1.z2.length g0C2, .int .i64 (rmR xS).1.b3, .slice g0A3 (rmR xS).1.z3.length g0C3, .int .i64 (rmR xS).1.p] 28)).cell? ⟨v3.heap.size, 6, none⟩ = some (.int .i64 (rmR xS).1.p) := by go_simp
  have q6 : macEqB (rmR xS).1 (rmR xS).1 = true := macEqB_self _
  go_wp2_with fail
  obtain ⟨v4, hu⟩ : ∃ u, u = (v3.alloc (.cells #[.int .i64 (rmR xS).1.b1, .slice g0A1 (rmR xS).1.z1.length g0C1, .int .i64 (rmR xS).1.b2, .slice g0A2 (rmR xS).1.z2.length g0C2, .int .i64 (rmR xS).1.b3, .slice g0A3 (rmR xS).1.z3.length g0C3, .int .i64 (rmR xS).1.p] 28)) := ⟨_, rfl⟩
  have s7 : Hid (v3.heap.size + 1 ≤ v4.heap.size) := Lib.hid (by rw [hu]; simp)
  rw [← hu] at cw00 cw01 cw02 cw03 cw04 cw05 cw06 cg00 cg01 cg02 cg03 cg04 cg05 cg06 ow0 og0 hbel ⊢
  clear hu
  refine (eqMachine_any (rmR xS).1 (rmR xS).1 g0A1 g0C1 g0A2 g0C2 g0A3 g0C3 w0A1 w0C1 w0A2 w0C2 w0A3 w0C3 v4 og0.rd ow0.rd).mono ?_
  rintro e v5 ⟨rfl, hb⟩
  have s8 : Hid (v4.heap.size ≤ v5.heap.size) := Lib.hid hb.size
  replace cw00 := kept hb cw00
  replace cw01 := kept hb cw01
  replace cw02 := kept hb cw02
  replace cw03 := kept hb cw03
  replace cw04 := kept hb cw04
  replace cw05 := kept hb cw05
  replace cw06 := kept hb cw06
  replace cg00 := kept hb cg00
  replace cg01 := kept hb cg01
  replace cg02 := kept hb cg02
  replace cg03 := kept hb cg03
  replace cg04 := kept hb cg04
  replace cg05 := kept hb cg05
  replace cg06 := kept hb cg06
  replace ow0 := ow0.below hb
  replace og0 := og0.below hb
  replace hbel := hbel.trans (hb.mono hbel.size)
  clear hb
  go_wp2_with fail
  refine (markMachine_any _ _ _ (rmR xS).1 g0A1 g0C1 g0A2 g0C2 g0A3 g0C3 1 v5 og0 (by have := ow0.len; have := og0.len; omega) (by have := ow0.len; have := og0.len; omega)).mono ?_
  rintro e v6 ⟨rfl, om, ht⟩
  have s9 : Hid (v5.heap.size ≤ v6.heap.size) := Lib.hid ht.size
  clear og0
  have og0 := om
  clear om
  replace cw00 := keptT ht cw00 (by have := s1.out; have := s3.out; have := s4.out; have := s7.out; have := s8.out; have := s9.out; omega)
  replace cw01 := keptT ht cw01 (by have := s1.out; have := s3.out; have := s4.out; have := s7.out; have := s8.out; have := s9.out; omega)
  replace cw02 := keptT ht cw02 (by have := s1.out; have := s3.out; have := s4.out; have := s7.out; have := s8.out; have := s9.out; omega)
  replace cw03 := keptT ht cw03 (by have := s1.out; have := s3.out; have := s4.out; have := s7.out; have := s8.out; have := s9.out; omega)
  replace cw04 := keptT ht cw04 (by have := s1.out; have := s3.out; have := s4.out; have := s7.out; have := s8.out; have := s9.out; omega)
  replace cw05 := keptT ht cw05 (by have := s1.out; have := s3.out; have := s4.out; have := s7.out; have := s8.out; have := s9.out; omega)
  replace cw06 := keptT ht cw06 (by have := s1.out; have := s3.out; have := s4.out; have := s7.out; have := s8.out; have := s9.out; omega)
  replace cg00 := keptT ht cg00 (by have := s1.out; have := s3.out; have := s4.out; have := s7.out; have := s8.out; have := s9.out; omega)
  replace cg01 := keptT ht cg01 (by have := s1.out; have := s3.out; have := s4.out; have := s7.out; have := s8.out; have := s9.out; omega)
  replace cg02 := keptT ht cg02 (by have := s1.out; have := s3.out; have := s4.out; have := s7.out; have := s8.out; have := s9.out; omega)
  replace cg03 := keptT ht cg03 (by have := s1.out; have := s3.out; have := s4.out; have := s7.out; have := s8.out; have := s9.out; omega)
  replace cg04 := keptT ht cg04 (by have := s1.out; have := s3.out; have := s4.out; have := s7.out; have := s8.out; have := s9.out; omega)
  replace cg05 := keptT ht cg05 (by have := s1.out; have := s3.out; have := s4.out; have := s7.out; have := s8.out; have := s9.out; omega)
  replace cg06 := keptT ht cg06 (by have := s1.out; have := s3.out; have := s4.out; have := s7.out; have := s8.out; have := s9.out; omega)
  replace ow0 := ow0.touch ht (by have := s1.out; have := s3.out; have := s4.out; have := s7.out; have := s8.out; have := s9.out; omega)
  replace hbel := hbel.trans (ht.below (by have := s1.out; have := s3.out; have := s4.out; have := s7.out; have := s8.out; have := s9.out; omega) hbel.size)
  clear ht
  go_wp2_with fail
  refine (heldMachine_any (rmR xS).1 g0A1 g0C1 g0A2 g0C2 g0A3 g0C3 1 (rmR xS).1.z1.length (rmR xS).1.z2.length (rmR xS).1.z3.length v6 og0.rd (by have := ow0.len; have := og0.len; omega) (by have := ow0.len; have := og0.len; omega)).mono ?_
  rintro e v7 ⟨rfl, hb⟩
  have s10 : Hid (v6.heap.size ≤ v7.heap.size) := Lib.hid hb.size
  replace cw00 := kept hb cw00
  replace cw01 := kept hb cw01
  replace cw02 := kept hb cw02
  replace cw03 := kept hb cw03
  replace cw04 := kept hb cw04
  replace cw05 := kept hb cw05
  replace cw06 := kept hb cw06
  replace cg00 := kept hb cg00
  replace cg01 := kept hb cg01
  replace cg02 := kept hb cg02
  replace cg03 := kept hb cg03
  replace cg04 := kept hb cg04
  replace cg05 := kept hb cg05
  replace cg06 := kept hb cg06
  replace ow0 := ow0.below hb
  replace og0 := og0.below hb
  replace hbel := hbel.trans (hb.mono hbel.size)
  clear hb
  go_wp2_with fail
  refine (implReadMachine xS v7 fxS (door_below hD hbel)).mono ?_
  rintro e v8 ⟨h0A1, h0C1, h0A2, h0C2, h0A3, h0C3, rfl, oh0, hb⟩
  have s11 : Hid (v7.heap.size ≤ v8.heap.size) := Lib.hid hb.size
  replace cw00 := kept hb cw00
  replace cw01 := kept hb cw01
  replace cw02 := kept hb cw02
  replace cw03 := kept hb cw03
  replace cw04 := kept hb cw04
  replace cw05 := kept hb cw05
  replace cw06 := kept hb cw06
  replace cg00 := kept hb cg00
  replace cg01 := kept hb cg01
  replace cg02 := kept hb cg02
  replace cg03 := kept hb cg03
  replace cg04 := kept hb cg04
  replace cg05 := kept hb cg05
  replace cg06 := kept hb cg06
  replace ow0 := ow0.below hb
  replace og0 := og0.below hb
  replace hbel := hbel.trans (hb.mono hbel.size)
  clear hb
  have ha12 : Below v8.heap.size v8 (v8.alloc (.cells #[.int .i64 (rmR xS).1.b1, .slice h0A1 (rmR xS).1.z1.length h0C1, .int .i64 (rmR xS).1.b2, .slice h0A2 (rmR xS).1.z2.length h0C2, .int .i64 (rmR xS).1.b3, .slice h0A3 (rmR xS).1.z3.length h0C3, .int .i64 (rmR xS).1.p] 28)) := (Below.refl _ _).alloc (by simp <;> omega) _
  replace cw00 := kept ha12 cw00
  replace cw01 := kept ha12 cw01
  replace cw02 := kept ha12 cw02
  replace cw03 := kept ha12 cw03
  replace cw04 := kept ha12 cw04
  replace cw05 := kept ha12 cw05
  replace cw06 := kept ha12 cw06
  replace cg00 := kept ha12 cg00
  replace cg01 := kept ha12 cg01
  replace cg02 := kept ha12 cg02
  replace cg03 := kept ha12 cg03
  replace cg04 := kept ha12 cg04
  replace cg05 := kept ha12 cg05
  replace cg06 := kept ha12 cg06
  replace ow0 := ow0.below ha12
  replace og0 := og0.below ha12
  replace oh0 := oh0.below ha12
  replace hbel := hbel.trans (ha12.mono hbel.size)
  clear ha12
  have ch00 : (v8.alloc (.cells #[.int .i64 (rmR xS).1.b1, .slice h0A1 (rmR xS).1.z1.length h0C1, .int .i64 (rmR xS).1.b2, .slice h0A2 (rmR xS).1.z2.length h0C2, .int .i64 (rmR xS).1.b3, .slice h0A3 (rmR xS).1.z3.length h0C3, .int .i64 (rmR xS).1.p] 28)).cell? ⟨v8.heap.size, 0, none⟩ = some (.int .i64 (rmR xS).1.b1) := by go_simp
  have ch01 : (v8.alloc (.cells #[.int .i64 (rmR xS).1.b1, .slice h0A1 (rmR xS).1.z1.length h0C1, .int .i64 (rmR xS).1.b2, .slice h0A2 (rmR xS).1.z2.length h0C2, .int .i64 (rmR xS).1.b3, .slice h0A3 (rmR xS).1.z3.length h0C3, .int .i64 (rmR xS).1.p] 28)).cell? ⟨v8.heap.size, 1, none⟩ = some (.slice h0A1 (rmR xS).1.z1.length h0C1) := by go_simp
  have ch02 : (v8.alloc (.cells #[.int .i64 (rmR xS).1.b1, .slice h0A1 (rmR xS).1.z1.length h0C1, .int .i64 (rmR xS).1.b2, .slice h0A2 (rmR xS).1.z2.length h0C2, .int .i64 (rmR xS).1.b3, .slice h0A3 (rmR xS).1.z3.length h0C3, .int .i64 (rmR xS).1.p] 28)).cell? ⟨v8.heap.size, 2, none⟩ = some (.int .i64 (rmR xS).1.b2) := by go_simp
  have ch03 : (v8.alloc (.cells #[.int .i64 (rmR xS).1.b1, .slice h0A1 (rmR xS).1.z1.length h0C1, .int .i64 (rmR xS).1.b2, .slice h0A2 (rmR xS).1.z2.length h0C2, .int .i64 (rmR xS).1.b3, .slice h0A3 (rmR xS).1.z3.length h0C3, .int .i64 (rmR xS).1.p] 28)).cell? ⟨v8.heap.size, 3, none⟩ = some (.slice h0A2 (rmR xS).1.z2.length h0C2) := by go_simp
  have ch04 : (v8.alloc (.cells #[.int .i64 (rmR xS).1.b1, .slice h0A1 (rmR xS).1.z1.length h0C1, .int .i64 (rmR xS).1.b2, .slice h0A2 (rmR xS).1.z2.length h0C2, .int .i64 (rmR xS).1.b3, .slice h0A3 (rmR xS).1.z3.length h0C3, .int .i64 (rmR xS).1.p] 28)).cell? ⟨v8.heap.size, 4, none⟩ = some (.int .i64 (rmR xS).1.b3) := by go_simp
  have ch05 : (v8.alloc (.cells #[.int .i64 (rmR xS).1.b1, .slice h0A1 (rmR xS).1.z1.length h0C1, .int .i64 (rmR xS).1.b2, .slice h0A2 (rmR xS).1.z2.length h0C2, .int .i64 (rmR xS).1.b3, .slice h0A3 (rmR xS).1.z3.length h0C3, .int .i64 (rmR xS).1.p] 28)).cell? ⟨v8.heap.size, 5, none⟩ = some (.slice h0A3 (rmR xS).1.z3.length h0C3) := by go_simp
  have ch06 : (v8.alloc (.cells #[.int .i64 (rmR xS).1.b1, .slice h0A1 (rmR xS).1.z1.length h0C1, .int .i64 (rmR xS).1.b2, .slice h0A2 (rmR xS).1.z2.length h0C2, .int .i64 (rmR xS).1.b3, .slice h0A3 (rmR xS).1.z3.length h0C3, .int .i64 (rmR xS).1.p] 28)).cell? ⟨v8.heap.size, 6, none⟩ = some (.int .i64 (rmR xS).1.p) := by go_simp
  have q13 : macEqB (rmR xS).1 (rmR xS).1 = true := macEqB_self _
  go_wp2_with fail
  obtain ⟨v9, hu⟩ : ∃ u, u = (v8.alloc (.cells #[.int .i64 (rmR xS).1.b1, .slice h0A1 (rmR xS).1.z1.length h0C1, .int .i64 (rmR xS).1.b2, .slice h0A2 (rmR xS).1.z2.length h0C2, .int .i64 (rmR xS).1.b3, .slice h0A3 (rmR xS).1.z3.length h0C3, .int .i64 (rmR xS).1.p] 28)) := ⟨_, rfl⟩
  have s14 : Hid (v8.heap.size + 1 ≤ v9.heap.size) := Lib.hid (by rw [hu]; simp)
  rw [← hu] at cw00 cw01 cw02 cw03 cw04 cw05 cw06 cg00 cg01 cg02 cg03 cg04 cg05 cg06 ch00 ch01 ch02 ch03 ch04 ch05 ch06 ow0 og0 oh0 hbel ⊢
  clear hu
  refine (eqMachine_any (rmR xS).1 (rmR xS).1 h0A1 h0C1 h0A2 h0C2 h0A3 h0C3 w0A1 w0C1 w0A2 w0C2 w0A3 w0C3 v9 oh0.rd ow0.rd).mono ?_
  rintro e v10 ⟨rfl, hb⟩
  have s15 : Hid (v9.heap.size ≤ v10.heap.size) := Lib.hid hb.size
  replace cw00 := kept hb cw00
  replace cw01 := kept hb cw01
  replace cw02 := kept hb cw02
  replace cw03 := kept hb cw03
  replace cw04 := kept hb cw04
  replace cw05 := kept hb cw05
  replace cw06 := kept hb cw06
  replace cg00 := kept hb cg00
  replace cg01 := kept hb cg01
  replace cg02 := kept hb cg02
  replace cg03 := kept hb cg03
  replace cg04 := kept hb cg04
  replace cg05 := kept hb cg05
  replace cg06 := kept hb cg06
  replace ch00 := kept hb ch00
  replace ch01 := kept hb ch01
  replace ch02 := kept hb ch02
  replace ch03 := kept hb ch03
  replace ch04 := kept hb ch04
  replace ch05 := kept hb ch05
  replace ch06 := kept hb ch06
  replace ow0 := ow0.below hb
  replace og0 := og0.below hb
  replace oh0 := oh0.below hb
  replace hbel := hbel.trans (hb.mono hbel.size)
  clear hb
  go_wp2_with fail
  refine (heldMachine_any (rmR xS).1 g0A1 g0C1 g0A2 g0C2 g0A3 g0C3 1 (rmR xS).1.z1.length (rmR xS).1.z2.length (rmR xS).1.z3.length v10 og0.rd (by have := ow0.len; have := og0.len; have := oh0.len; omega) (by have := ow0.len; have := og0.len; have := oh0.len; omega)).mono ?_
  rintro e v11 ⟨rfl, hb⟩
  have s16 : Hid (v10.heap.size ≤ v11.heap.size) := Lib.hid hb.size
  replace cw00 := kept hb cw00
  replace cw01 := kept hb cw01
  replace cw02 := kept hb cw02
  replace cw03 := kept hb cw03
  replace cw04 := kept hb cw04
  replace cw05 := kept hb cw05
  replace cw06 := kept hb cw06
  replace cg00 := kept hb cg00
  replace cg01 := kept hb cg01
  replace cg02 := kept hb cg02
  replace cg03 := kept hb cg03
  replace cg04 := kept hb cg04
  replace cg05 := kept hb cg05
  replace cg06 := kept hb cg06
  replace ch00 := kept hb ch00
  replace ch01 := kept hb ch01
  replace ch02 := kept hb ch02
  replace ch03 := kept hb ch03
  replace ch04 := kept hb ch04
  replace ch05 := kept hb ch05
  replace ch06 := kept hb ch06
  replace ow0 := ow0.below hb
  replace og0 := og0.below hb
  replace oh0 := oh0.below hb
  replace hbel := hbel.trans (hb.mono hbel.size)
  clear hb
  go_wp2
  go_ret
  exact ⟨rfl, hbel⟩

/-- The door's own heap meets the condition: closed facts. -/
theorem door_met (os : Os) (args : Array Value) : laidMetH Tryz.prog Rows.fnExactReadMachineRow.laid ((World.laidAll Tryz.prog os Rows.fnExactReadMachineRow.laid).forCall (fun _ _ => 0) ⟨#[], args, []⟩).memory :=
  by rw [MakeChecks.laidMetH_plain _ _ _ (by kernel_rfl)]; exact laidMet_laidAll _ (by kernel_rfl) (by kernel_rfl)

set_option maxRecDepth 100000 in
theorem lifted (os : Os) (started : os.Started) (H : Type) (enc : TypeId × Value → H) :
    ReturnsInHanded {} Tryz.checked os 4 .any (fun w args => (Rows.fnExactReadMachineSpec.pre enc Tryz.prog Tryz.f4 [] false w args ∧ laidMetH Tryz.prog Rows.fnExactReadMachineRow.laid w) ∧ sizedMet enc Tryz.prog Tryz.f4 (OpenSpec.ofChange Rows.fnExactReadMachineSpec) false w args)
      (Rows.fnExactReadMachineSpec.post enc Tryz.prog Tryz.f4 false true false false) := by
  refine handed_laid_shaped (C := Tryz.checked) (laid := Rows.fnExactReadMachineRow.laid) own_knob started (by kernel_rfl) Tryz.func4
    (ChangeSpec.witness_shaped (enc := enc) (C := Tryz.checked) (os := os) (X := fun w _ => laidMetH Tryz.prog Rows.fnExactReadMachineRow.laid w) false (World.laidAll Tryz.prog os Rows.fnExactReadMachineRow.laid) #[.string ByteArray.empty] 8 (World.laidAll_os _ _ _) (World.shaped_of_ZipB (by kernel_rfl) (by kernel_rfl)) (by kernel_rfl) (by kernel_rfl) (by kernel_rfl) (door_met os _)) ?_
  intro W base args ds gs before hval0 hW hL hSh
  have hval : ∀ (j : Nat) t v, Tryz.f4.params[j]? = some t → args[j]? = some v → Value.okWide Tryz.prog W .any base t v := hval0
  have hW' := hW
  obtain ⟨p, q, hA0, hV0, rfl, hfz, hnd⟩ := hW
  have hA : DataW.TrodAll enc Tryz.prog W 0 (fun _ => true) true Tryz.f4.params.toList args.toList ds p := hA0
  have hV : DataW.TrodVars enc Tryz.prog W (fun _ => true) ["loop.example/g00930/impl.errBell"] gs q := hV0
  rw [Tryz.params4] at hA hval
  obtain ⟨v0, vs0, d0, ds0, p0, q0, hargs, rfl, rfl, h0, r0⟩ := trodAll_cons hA
  obtain ⟨rfl, rfl, rfl⟩ := trodAll_nil r0
  obtain rfl : args = #[v0] := by cases args; simp_all
  obtain ⟨xS, rfl, rfl, rfl, lxS⟩ := open_string Tryz.underlying9 (hval 0 9 v0 rfl rfl) h0
  have hD := of_laid hL hSh
  clear hA0 hval0
  obtain ⟨gd, rfl⟩ : ∃ gd, gs = [gd] := by
    obtain ⟨_, _, _, _, d, _, h, _⟩ := trodVars_one hV
    exact ⟨d, h⟩
  refine (law_walk xS W lxS hD).mono fun e W' ⟨he, bel⟩ => ?_
  subst he
  obtain ⟨q', hq'⟩ := var_stays gVar tVar (by kernel_rfl) (of_decide_eq_true (by kernel_rfl)) hV bel
  exact ⟨_, rfl, _, _, _, [], _, q', hW', trodAll_mk1 (shut_bool Tryz.underlying4 _), (trodAll_cons_mk (shut_string Tryz.underlying9 lxS) trodAll_mk0), hq', bel.frame _, fun h => by cases h⟩

set_option maxHeartbeats 20000000 in
theorem closed : joinedFacts Tryz.prog 4 Tryz.f4 Rows.fnExactReadMachineSpec Rows.fnExactReadMachineRow = true := by
  simp only [joinedFacts, Bool.and_eq_true]
  refine ⟨⟨⟨⟨⟨⟨⟨⟨⟨⟨⟨⟨⟨⟨⟨⟨⟨⟨⟨⟨⟨⟨⟨⟨⟨⟨⟨⟨⟨⟨⟨?_, laid_out⟩, fact_maps⟩, ?_⟩, ?_⟩, ?_⟩, fact_stops⟩, ?_⟩, fact_knobs⟩, ?_⟩, ?_⟩, ?_⟩, ?_⟩, ?_⟩, ?_⟩, ?_⟩, ?_⟩, ?_⟩, ?_⟩, ?_⟩, ?_⟩, ?_⟩, fact_plain⟩, ?_⟩, fact_heard⟩, fact_enter⟩, fact_lift⟩, ?_⟩, ?_⟩, ?_⟩, ?_⟩, ?_⟩
  all_goals (as_aux_lemma => kernel_rfl)

theorem over : Rows.FnExactReadMachineSaid :=
  OpenClaim.holds_of_wide 4 Tryz.f4 rfl rfl rfl rfl rfl rfl rfl ⟨rfl, rfl, rfl, rfl, rfl⟩ rfl rfl rfl rfl rfl (by as_aux_lemma => kernel_rfl) Tryz.func4 closed
    (of_decide_eq_true (by as_aux_lemma => kernel_rfl)) (by unfold Func.isWrapper; first | (rw [if_pos (by decide +kernel)]; kernel_rfl) | (rw [if_neg (by decide +kernel)]; exact ⟨rfl, rfl⟩))
    (fun os started H enc _ => lifted os started H enc)

set_option maxHeartbeats 20000000 in
/-- The statement: the tied card. -/
theorem proved : Rows.FnExactReadMachineCardSaid :=
  Claim7.holds_tied_plain_at .later [] [.data, .data, .data, .data, .sentinel, .sentinel, .sentinel, .pinned] true (true, "61cfff32aeb99ca9daefb1d458c1b9fabf4809b3c6edd00c913c6703de6f036a") true
    over (fun _ h => by cases h) (by as_aux_lemma => kernel_rfl) (fun _ h => by cases h) fnExactReadMachine_row_tie rfl ⟨rfl, rfl⟩ (by as_aux_lemma => kernel_rfl) rfl
    (fun f fn hf hfn => by
      obtain rfl : f = 4 := Option.some.inj ((show Tryz.prog.funcNamed "loop.example/g00930/laws.FnExactReadMachine" = some 4 by as_aux_lemma => kernel_rfl).symm.trans hf) |>.symm
      obtain rfl : fn = Tryz.f4 := (Option.some.inj (Tryz.func4.symm.trans hfn)).symm
      exact ⟨(by as_aux_lemma => kernel_rfl), fun j t ht => by
        rw [Tryz.params4] at ht
        have hm : t ∈ [9] := by simpa using Array.mem_of_getElem? ht
        have hall : ([9].all fun u => !Tryz.prog.wantsStandIn u) = true := by as_aux_lemma => kernel_rfl
        exact (show Tryz.prog.wantsStandIn t = false by simpa using List.all_eq_true.1 hall t hm)⟩)
    (by as_aux_lemma => kernel_rfl)
end Go.Proofs.YtlahobdopmdfmaaGreatDoor.lawReadMachine
