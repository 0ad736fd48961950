/-
  laws.FnExactMachineText returns true at every input (no condition, but the texts of the library's tables, which the card ties), and leaves its arguments as they were.
-/
import Derived.Test.YtlahobdopmdfmaaDoorMacLow
import Derived.Test.YtlahobdopmdfmaaDoorMtxAll
import Derived.Test.YtlahobdopmdfmaaDoorDoorFrame
import Derived.Deep.RegionHeld3
import Derived.Lay
import Derived.Test.YtlahobdopmdfmaaDoorFacts
import Derived.Test.YtlahobdopmdfmaaDoorRows
namespace Go.Proofs.YtlahobdopmdfmaaDoor.lawMachineText
open Go.ChangeShapes Go.WideShapes Go.ChangeAt Go.WideElems Go.RowKit Go.Joins
open Go.ChangeMaps (open_string shut_string)

theorem rowErr (u : TypeId) (h : Tryd.prog.typeName? 3 u = some "*errors.errorString") : u = 220 :=
  typeName_ptr_named (nm := "errors.errorString") (by rw [show "*" ++ "errors.errorString" = "*errors.errorString" by decide]; kernel_rfl) (by kernel_rfl) (by decide) u (by rw [show "*" ++ "errors.errorString" = "*errors.errorString" by decide]; exact h)
theorem gVar : Tryd.prog.globalNamed "loop.example/g00930/impl.errBell" = some 0 := by kernel_rfl
theorem tVar : (Tryd.prog.globals[0]?).map (·.type) = some 117 := by kernel_rfl
def Door (w : World) : Prop := PowTab w ∧ BellD w
theorem door_below {w w' : World} (h : Door w) (hb : Below w.heap.size w w') : Door w' := ⟨powTab_below h.1 hb, h.2.below hb⟩
theorem of_laid {W : World} (h : laidMetH Tryd.prog Rows.fnExactMachineTextRow.laid W) : Door W := by
  rw [MakeChecks.laidMetH_plain _ _ _ (by kernel_rfl)] at h
  refine ⟨Lib.tabIs_of_head (g := 2) (t := 213) (e := 147) (n := 20) (by kernel_rfl) (by kernel_rfl) Tryd.underlying213 Tryd.underlying147 (by kernel_rfl) (by kernel_rfl)
    (show laidMet Tryd.prog (("internal/strconv.uint64pow10", Lib.tabData .u64 Lib.pow10Tab) :: _) W from h.tail.tail), ?_⟩
  obtain ⟨a, t, hv, _⟩ := laid_sentinel h.tail.tail.tail (g := 0) (ti := 117) (tp := 220) (te := 243) (ts := 9) (by kernel_rfl) (by kernel_rfl) Tryd.underlying117 rowErr Tryd.underlying220 Tryd.underlying243 rfl rfl Tryd.underlying9 (by kernel_rfl) (by kernel_rfl)
  exact ⟨_, by simpa [BellAt, bellV] using World.var?_cell (g := 0) (by kernel_rfl) hv 0⟩

set_option maxRecDepth 100000 in
set_option maxHeartbeats 4000000 in
theorem law_walk (xM : Mac) (xMA1 : Option Addr) (xMC1 : Nat) (xMA2 : Option Addr) (xMC2 : Nat) (xMA3 : Option Addr) (xMC3 : Nat) (w : World) (hxM : Raw3 w xMA1 xM.z1 xMA2 xM.z2 xMA3 xM.z3) (bxM : I64 xM.b1 ∧ I64 xM.b2 ∧ I64 xM.b3 ∧ I64 xM.p) (hD : Door w) :
    Calls Tryd.prog 13 #[.agg #[.int .i64 xM.b1, .slice xMA1 xM.z1.length xMC1, .int .i64 xM.b2, .slice xMA2 xM.z2.length xMC2, .int .i64 xM.b3, .slice xMA3 xM.z3.length xMC3, .int .i64 xM.p]] w fun e w' => e = .returned (.bool true) ∧ Below w.heap.size w w' := by
  have hbel : Below w.heap.size w (w.alloc (.cells #[.int .i64 xM.b1, .slice xMA1 xM.z1.length xMC1, .int .i64 xM.b2, .slice xMA2 xM.z2.length xMC2, .int .i64 xM.b3, .slice xMA3 xM.z3.length xMC3, .int .i64 xM.p] 72)) := (Below.refl _ _).alloc (by simp <;> omega) _
  have cxM0 : (w.alloc (.cells #[.int .i64 xM.b1, .slice xMA1 xM.z1.length xMC1, .int .i64 xM.b2, .slice xMA2 xM.z2.length xMC2, .int .i64 xM.b3, .slice xMA3 xM.z3.length xMC3, .int .i64 xM.p] 72)).cell? ⟨w.heap.size, 0, none⟩ = some (.int .i64 xM.b1) := by go_simp
  have cxM1 : (w.alloc (.cells #[.int .i64 xM.b1, .slice xMA1 xM.z1.length xMC1, .int .i64 xM.b2, .slice xMA2 xM.z2.length xMC2, .int .i64 xM.b3, .slice xMA3 xM.z3.length xMC3, .int .i64 xM.p] 72)).cell? ⟨w.heap.size, 1, none⟩ = some (.slice xMA1 xM.z1.length xMC1) := by go_simp
  have cxM2 : (w.alloc (.cells #[.int .i64 xM.b1, .slice xMA1 xM.z1.length xMC1, .int .i64 xM.b2, .slice xMA2 xM.z2.length xMC2, .int .i64 xM.b3, .slice xMA3 xM.z3.length xMC3, .int .i64 xM.p] 72)).cell? ⟨w.heap.size, 2, none⟩ = some (.int .i64 xM.b2) := by go_simp
  have cxM3 : (w.alloc (.cells #[.int .i64 xM.b1, .slice xMA1 xM.z1.length xMC1, .int .i64 xM.b2, .slice xMA2 xM.z2.length xMC2, .int .i64 xM.b3, .slice xMA3 xM.z3.length xMC3, .int .i64 xM.p] 72)).cell? ⟨w.heap.size, 3, none⟩ = some (.slice xMA2 xM.z2.length xMC2) := by go_simp
  have cxM4 : (w.alloc (.cells #[.int .i64 xM.b1, .slice xMA1 xM.z1.length xMC1, .int .i64 xM.b2, .slice xMA2 xM.z2.length xMC2, .int .i64 xM.b3, .slice xMA3 xM.z3.length xMC3, .int .i64 xM.p] 72)).cell? ⟨w.heap.size, 4, none⟩ = some (.int .i64 xM.b3) := by go_simp
  have cxM5 : (w.alloc (.cells #[.int .i64 xM.b1, .slice xMA1 xM.z1.length xMC1, .int .i64 xM.b2, .slice xMA2 xM.z2.length xMC2, .int .i64 xM.b3, .slice xMA3 xM.z3.length xMC3, .int .i64 xM.p] 72)).cell? ⟨w.heap.size, 5, none⟩ = some (.slice xMA3 xM.z3.length xMC3) := by go_simp
  have cxM6 : (w.alloc (.cells #[.int .i64 xM.b1, .slice xMA1 xM.z1.length xMC1, .int .i64 xM.b2, .slice xMA2 xM.z2.length xMC2, .int .i64 xM.b3, .slice xMA3 xM.z3.length xMC3, .int .i64 xM.p] 72)).cell? ⟨w.heap.size, 6, none⟩ = some (.int .i64 xM.p) := by go_simp
  go_enter Tryd.func13, Tryd.ntmps13
  go_wp2_with fail
  obtain ⟨v1, hu⟩ : ∃ u, u = (w.alloc (.cells #[.int .i64 xM.b1, .slice xMA1 xM.z1.length xMC1, .int .i64 xM.b2, .slice xMA2 xM.z2.length xMC2, .int .i64 xM.b3, .slice xMA3 xM.z3.length xMC3, .int .i64 xM.p] 72)) := ⟨_, rfl⟩
  have s1 : Hid (w.heap.size + 1 ≤ v1.heap.size) := Lib.hid (by rw [hu]; simp)
  rw [← hu] at cxM0 cxM1 cxM2 cxM3 cxM4 cxM5 cxM6 hbel ⊢
  clear hu
  rcases Int.lt_or_le (leftOf (xM.z1.length + xM.z2.length + xM.z3.length) 1048576) 0 with k1 | k1
  · refine (szMachine_any xM.b1 xMA1 xM.z1.length xMC1 xM.b2 xMA2 xM.z2.length xMC2 xM.b3 xMA3 xM.z3.length xMC3 xM.p 1048576 v1 hxM.len (by omega) (by omega)).mono ?_
    rintro e v2 ⟨rfl, hb⟩
    go_wp2
    go_ret
    exact ⟨rfl, hbel.trans (hb.mono hbel.size)⟩
  have m1 := leftOf_le (xM.z1.length + xM.z2.length + xM.z3.length) 1048576 (by omega)
  refine (szMachine_any xM.b1 xMA1 xM.z1.length xMC1 xM.b2 xMA2 xM.z2.length xMC2 xM.b3 xMA3 xM.z3.length xMC3 xM.p 1048576 v1 hxM.len (by omega) (by omega)).mono ?_
  rintro e v2 ⟨rfl, hb⟩
  have s2 : Hid (v1.heap.size ≤ v2.heap.size) := Lib.hid hb.size
  replace cxM0 := kept hb cxM0
  replace cxM1 := kept hb cxM1
  replace cxM2 := kept hb cxM2
  replace cxM3 := kept hb cxM3
  replace cxM4 := kept hb cxM4
  replace cxM5 := kept hb cxM5
  replace cxM6 := kept hb cxM6
  replace hbel := hbel.trans (hb.mono hbel.size)
  clear hb
  have zxM := hxM.wf
  replace hxM := hxM.rd (by have := leftOf_len k1; omega)
  go_wp2_with fail
  refine (toMachine_any xM xMA1 xMC1 xMA2 xMC2 xMA3 xMC3 v2 (hxM.below hbel)).mono ?_
  rintro e v3 ⟨t3A1, t3C1, t3A2, t3C2, t3A3, t3C3, rfl, ot3, hb⟩
  have s4 : Hid (v2.heap.size ≤ v3.heap.size) := Lib.hid hb.size
  replace cxM0 := kept hb cxM0
  replace cxM1 := kept hb cxM1
  replace cxM2 := kept hb cxM2
  replace cxM3 := kept hb cxM3
  replace cxM4 := kept hb cxM4
  replace cxM5 := kept hb cxM5
  replace cxM6 := kept hb cxM6
  replace hbel := hbel.trans (hb.mono hbel.size)
  clear hb
  go_wp2_with fail
  refine (specMachineText xM t3A1 t3C1 t3A2 t3C2 t3A3 t3C3 v3 ot3.rd zxM bxM).mono ?_
  rintro e v4 ⟨rfl, hb⟩
  have s5 : Hid (v3.heap.size ≤ v4.heap.size) := Lib.hid hb.size
  replace cxM0 := kept hb cxM0
  replace cxM1 := kept hb cxM1
  replace cxM2 := kept hb cxM2
  replace cxM3 := kept hb cxM3
  replace cxM4 := kept hb cxM4
  replace cxM5 := kept hb cxM5
  replace cxM6 := kept hb cxM6
  replace ot3 := ot3.below hb
  replace hbel := hbel.trans (hb.mono hbel.size)
  clear hb
  clear ot3
  go_wp2_with fail
  refine (toMachine_any xM xMA1 xMC1 xMA2 xMC2 xMA3 xMC3 v4 (hxM.below hbel)).mono ?_
  rintro e v5 ⟨t6A1, t6C1, t6A2, t6C2, t6A3, t6C3, rfl, ot6, hb⟩
  have s7 : Hid (v4.heap.size ≤ v5.heap.size) := Lib.hid hb.size
  replace cxM0 := kept hb cxM0
  replace cxM1 := kept hb cxM1
  replace cxM2 := kept hb cxM2
  replace cxM3 := kept hb cxM3
  replace cxM4 := kept hb cxM4
  replace cxM5 := kept hb cxM5
  replace cxM6 := kept hb cxM6
  replace hbel := hbel.trans (hb.mono hbel.size)
  clear hb
  have ha8 : Below v5.heap.size v5 (v5.alloc (.cells #[.int .i64 xM.b1, .slice t6A1 xM.z1.length t6C1, .int .i64 xM.b2, .slice t6A2 xM.z2.length t6C2, .int .i64 xM.b3, .slice t6A3 xM.z3.length t6C3, .int .i64 xM.p] 28)) := (Below.refl _ _).alloc (by simp <;> omega) _
  replace cxM0 := kept ha8 cxM0
  replace cxM1 := kept ha8 cxM1
  replace cxM2 := kept ha8 cxM2
  replace cxM3 := kept ha8 cxM3
  replace cxM4 := kept ha8 cxM4
  replace cxM5 := kept ha8 cxM5
  replace cxM6 := kept ha8 cxM6
  replace ot6 := ot6.below ha8
  replace hbel := hbel.trans (ha8.mono hbel.size)
  clear ha8
  have cx00 : (v5.alloc (.cells #[.int .i64 xM.b1, .slice t6A1 xM.z1.length t6C1, .int .i64 xM.b2, .slice t6A2 xM.z2.length t6C2, .int .i64 xM.b3, .slice t6A3 xM.z3.length t6C3, .int .i64 xM.p] 28)).cell? ⟨v5.heap.size, 0, none⟩ = some (.int .i64 xM.b1) := by go_simp
  have cx01 : (v5.alloc (.cells #[.int .i64 xM.b1, .slice t6A1 xM.z1.length t6C1, .int .i64 xM.b2, .slice t6A2 xM.z2.length t6C2, .int .i64 xM.b3, .slice t6A3 xM.z3.length t6C3, .int .i64 xM.p] 28)).cell? ⟨v5.heap.size, 1, none⟩ = some (.slice t6A1 xM.z1.length t6C1) := by go_simp
  have cx02 : (v5.alloc (.cells #[.int .i64 xM.b1, .slice t6A1 xM.z1.length t6C1, .int .i64 xM.b2, .slice t6A2 xM.z2.length t6C2, .int .i64 xM.b3, .slice t6A3 xM.z3.length t6C3, .int .i64 xM.p] 28)).cell? ⟨v5.heap.size, 2, none⟩ = some (.int .i64 xM.b2) := by go_simp
  have cx03 : (v5.alloc (.cells #[.int .i64 xM.b1, .slice t6A1 xM.z1.length t6C1, .int .i64 xM.b2, .slice t6A2 xM.z2.length t6C2, .int .i64 xM.b3, .slice t6A3 xM.z3.length t6C3, .int .i64 xM.p] 28)).cell? ⟨v5.heap.size, 3, none⟩ = some (.slice t6A2 xM.z2.length t6C2) := by go_simp
  have cx04 : (v5.alloc (.cells #[.int .i64 xM.b1, .slice t6A1 xM.z1.length t6C1, .int .i64 xM.b2, .slice t6A2 xM.z2.length t6C2, .int .i64 xM.b3, .slice t6A3 xM.z3.length t6C3, .int .i64 xM.p] 28)).cell? ⟨v5.heap.size, 4, none⟩ = some (.int .i64 xM.b3) := by go_simp
  have cx05 : (v5.alloc (.cells #[.int .i64 xM.b1, .slice t6A1 xM.z1.length t6C1, .int .i64 xM.b2, .slice t6A2 xM.z2.length t6C2, .int .i64 xM.b3, .slice t6A3 xM.z3.length t6C3, .int .i64 xM.p] 28)).cell? ⟨v5.heap.size, 5, none⟩ = some (.slice t6A3 xM.z3.length t6C3) := by go_simp
  have cx06 : (v5.alloc (.cells #[.int .i64 xM.b1, .slice t6A1 xM.z1.length t6C1, .int .i64 xM.b2, .slice t6A2 xM.z2.length t6C2, .int .i64 xM.b3, .slice t6A3 xM.z3.length t6C3, .int .i64 xM.p] 28)).cell? ⟨v5.heap.size, 6, none⟩ = some (.int .i64 xM.p) := by go_simp
  go_wp2_with fail
  obtain ⟨v6, hu⟩ : ∃ u, u = (v5.alloc (.cells #[.int .i64 xM.b1, .slice t6A1 xM.z1.length t6C1, .int .i64 xM.b2, .slice t6A2 xM.z2.length t6C2, .int .i64 xM.b3, .slice t6A3 xM.z3.length t6C3, .int .i64 xM.p] 28)) := ⟨_, rfl⟩
  have s9 : Hid (v5.heap.size + 1 ≤ v6.heap.size) := Lib.hid (by rw [hu]; simp)
  rw [← hu] at cxM0 cxM1 cxM2 cxM3 cxM4 cxM5 cxM6 cx00 cx01 cx02 cx03 cx04 cx05 cx06 ot6 hbel ⊢
  clear hu
  refine (implMachineText xM t6A1 t6C1 t6A2 t6C2 t6A3 t6C3 v6 ot6.rd zxM bxM (door_below hD hbel)).mono ?_
  rintro e v7 ⟨rfl, hb⟩
  have s10 : Hid (v6.heap.size ≤ v7.heap.size) := Lib.hid hb.size
  replace cxM0 := kept hb cxM0
  replace cxM1 := kept hb cxM1
  replace cxM2 := kept hb cxM2
  replace cxM3 := kept hb cxM3
  replace cxM4 := kept hb cxM4
  replace cxM5 := kept hb cxM5
  replace cxM6 := kept hb cxM6
  replace cx00 := kept hb cx00
  replace cx01 := kept hb cx01
  replace cx02 := kept hb cx02
  replace cx03 := kept hb cx03
  replace cx04 := kept hb cx04
  replace cx05 := kept hb cx05
  replace cx06 := kept hb cx06
  replace ot6 := ot6.below hb
  replace hbel := hbel.trans (hb.mono hbel.size)
  clear hb
  have q11 : macEqB xM xM = true := macEqB_self _
  go_wp2_with fail
  have rcxM0 := kept_all cxM0
  have rcxM1 := kept_all cxM1
  have rcxM2 := kept_all cxM2
  have rcxM3 := kept_all cxM3
  have rcxM4 := kept_all cxM4
  have rcxM5 := kept_all cxM5
  have rcxM6 := kept_all cxM6
  have rcx00 := kept_all cx00
  have rcx01 := kept_all cx01
  have rcx02 := kept_all cx02
  have rcx03 := kept_all cx03
  have rcx04 := kept_all cx04
  have rcx05 := kept_all cx05
  have rcx06 := kept_all cx06
  go_region_held3 (fun w' => Below v7.heap.size v7 w') (first | exact hk | exact (Below.refl _ _).drew | exact hk.alloc hk.size _ | exact (hk.alloc hk.size _).setCell hk.size _)
    (first | (go_at_call 64; have qB := ‹Below v7.heap.size v7 _›; ((with_reducible refine (toMachine_any xM xMA1 xMC1 xMA2 xMC2 xMA3 xMC3 _ (hxM.below (hbel.trans (qB.mono hbel.size)))).mono ?_)); rintro e v9 ⟨t12A1, t12C1, t12A2, t12C2, t12A3, t12C3, rfl, ot12, hb⟩; have hk := qB.trans (hb.mono qB.size)) | (go_at_call 60; have qB := ‹Below v7.heap.size v7 _›; refine (eqMachine_any xM xM t6A1 t6C1 t6A2 t6C2 t6A3 t6C3 t12A1 t12C1 t12A2 t12C2 t12A3 t12C3 _ (ot6.below qB).rd (by first | exact ot12.rd | exact (ot12.alloc _).rd)).mono ?_; rintro e v8 ⟨rfl, hb⟩; have hk := qB.trans (hb.mono qB.size)))
  have hb : Below v7.heap.size v7 v8 := by assumption
  clear rcxM0 rcxM1 rcxM2 rcxM3 rcxM4 rcxM5 rcxM6 rcx00 rcx01 rcx02 rcx03 rcx04 rcx05 rcx06
  clear ot12
  have s13 : Hid (v7.heap.size ≤ v8.heap.size) := Lib.hid hb.size
  replace cxM0 := kept hb cxM0
  replace cxM1 := kept hb cxM1
  replace cxM2 := kept hb cxM2
  replace cxM3 := kept hb cxM3
  replace cxM4 := kept hb cxM4
  replace cxM5 := kept hb cxM5
  replace cxM6 := kept hb cxM6
  replace cx00 := kept hb cx00
  replace cx01 := kept hb cx01
  replace cx02 := kept hb cx02
  replace cx03 := kept hb cx03
  replace cx04 := kept hb cx04
  replace cx05 := kept hb cx05
  replace cx06 := kept hb cx06
  replace ot6 := ot6.below hb
  replace hbel := hbel.trans (hb.mono hbel.size)
  clear hb
  go_wp2
  go_ret
  exact ⟨rfl, hbel⟩

/-- The door's own heap meets the condition: closed facts. -/
theorem door_met (os : Os) (args : Array Value) : laidMetH Tryd.prog Rows.fnExactMachineTextRow.laid ((World.laidAll Tryd.prog os Rows.fnExactMachineTextRow.laid).forCall (fun _ _ => 0) ⟨#[], args, []⟩).memory :=
  by rw [MakeChecks.laidMetH_plain _ _ _ (by kernel_rfl)]; exact laidMet_laidAll _ (by kernel_rfl) (by kernel_rfl)

set_option maxRecDepth 100000 in
theorem lifted (os : Os) (started : os.Started) (H : Type) (enc : TypeId × Value → H) :
    ReturnsInHanded {} Tryd.checked os 13 .any (fun w args => (Rows.fnExactMachineTextSpec.pre enc Tryd.prog Tryd.f13 [] false w args ∧ laidMetH Tryd.prog Rows.fnExactMachineTextRow.laid w) ∧ sizedMet enc Tryd.prog Tryd.f13 (OpenSpec.ofChange Rows.fnExactMachineTextSpec) false w args)
      (Rows.fnExactMachineTextSpec.post enc Tryd.prog Tryd.f13 false true false false) := by
  refine returnsInHanded_of_change_and (C := Tryd.checked) (X := fun w _ => laidMetH Tryd.prog Rows.fnExactMachineTextRow.laid w) (fun _ _ _ hh h => h.of_heap hh) own_knob started (by kernel_rfl) Tryd.func13
    (ChangeSpec.witness_shaped (enc := enc) (C := Tryd.checked) (os := os) (X := fun w _ => laidMetH Tryd.prog Rows.fnExactMachineTextRow.laid w) false (World.laidAll Tryd.prog os Rows.fnExactMachineTextRow.laid) #[.agg #[.int .i64 0, .slice none 0 0, .int .i64 0, .slice none 0 0, .int .i64 0, .slice none 0 0, .int .i64 0]] 8 (World.laidAll_os _ _ _) (World.shaped_of_ZipB (by kernel_rfl) (by kernel_rfl)) (by kernel_rfl) (by kernel_rfl) (by kernel_rfl) (door_met os _)) ?_
  intro W base args ds gs before hval0 hW _ _ hL _
  have hval : ∀ (j : Nat) t v, Tryd.f13.params[j]? = some t → args[j]? = some v → Value.okWide Tryd.prog W .any base t v := hval0
  have hW' := hW
  obtain ⟨p, q, hA0, hV0, rfl, hfz, hnd⟩ := hW
  have hA : DataW.TrodAll enc Tryd.prog W 0 (fun _ => true) true Tryd.f13.params.toList args.toList ds p := hA0
  have hV : DataW.TrodVars enc Tryd.prog W (fun _ => true) ["loop.example/g00930/impl.errBell"] gs q := hV0
  rw [Tryd.params13] at hA hval
  obtain ⟨v0, vs0, d0, ds0, p0, q0, hargs, rfl, rfl, h0, r0⟩ := trodAll_cons hA
  obtain ⟨rfl, rfl, rfl⟩ := trodAll_nil r0
  obtain rfl : args = #[v0] := by cases args; simp_all
  have k0 := h0
  have lt0 : ∀ x ∈ p0, x.block < W.heap.size := by obtain ⟨m, hm⟩ := k0; exact DataW.trod_lt m _ _ _ hm
  obtain ⟨xM, xMA1, xMC1, xMA2, xMC2, xMA3, xMC3, rfl, hxM, bxM⟩ := open_Machine (hval 0 72 v0 rfl rfl) h0
  have hD := of_laid hL
  clear hA0 hval0
  obtain ⟨gd, rfl⟩ : ∃ gd, gs = [gd] := by
    obtain ⟨_, _, _, _, d, _, h, _⟩ := trodVars_one hV
    exact ⟨d, h⟩
  refine (law_walk xM xMA1 xMC1 xMA2 xMC2 xMA3 xMC3 W hxM bxM hD).mono fun e W' ⟨he, bel⟩ => ?_
  subst he
  obtain ⟨q', hq'⟩ := var_stays gVar tVar (by kernel_rfl) (of_decide_eq_true (by kernel_rfl)) hV bel
  exact ⟨_, rfl, _, _, _, [], _, q', hW', trodAll_mk1 (shut_bool Tryd.underlying4 _), (trodAll_cons_mk (Below.trod laid_out (by kernel_rfl) (of_decide_eq_true (by kernel_rfl)) k0 bel lt0) trodAll_mk0), hq', bel.frame _, fun h => by cases h⟩

set_option maxHeartbeats 20000000 in
theorem closed : joinedFacts Tryd.prog 13 Tryd.f13 Rows.fnExactMachineTextSpec Rows.fnExactMachineTextRow = true := by
  simp only [joinedFacts, Bool.and_eq_true]
  refine ⟨⟨⟨⟨⟨⟨⟨⟨⟨⟨⟨⟨⟨⟨⟨⟨⟨⟨⟨⟨⟨⟨⟨⟨⟨⟨⟨⟨⟨⟨⟨?_, laid_out⟩, fact_maps⟩, ?_⟩, ?_⟩, ?_⟩, fact_stops⟩, ?_⟩, fact_knobs⟩, ?_⟩, ?_⟩, ?_⟩, ?_⟩, ?_⟩, ?_⟩, ?_⟩, ?_⟩, ?_⟩, ?_⟩, ?_⟩, ?_⟩, ?_⟩, fact_plain⟩, ?_⟩, fact_heard⟩, fact_enter⟩, fact_lift⟩, ?_⟩, ?_⟩, ?_⟩, ?_⟩, ?_⟩
  all_goals (as_aux_lemma => kernel_rfl)

theorem over : Rows.FnExactMachineTextSaid :=
  OpenClaim.holds_of_wide 13 Tryd.f13 rfl rfl rfl rfl rfl rfl rfl ⟨rfl, rfl, rfl, rfl, rfl⟩ rfl rfl rfl rfl rfl (by as_aux_lemma => kernel_rfl) Tryd.func13 closed
    (of_decide_eq_true (by as_aux_lemma => kernel_rfl)) (by unfold Func.isWrapper; first | (rw [if_pos (by decide +kernel)]; kernel_rfl) | (rw [if_neg (by decide +kernel)]; exact ⟨rfl, rfl⟩))
    (fun os started H enc _ => lifted os started H enc)

set_option maxHeartbeats 20000000 in
/-- The statement: the tied card. -/
theorem proved : Rows.FnExactMachineTextCardSaid :=
  Claim7.holds_tied_plain_at .later [] [.data, .data, .data, .sentinel] true (true, "ec655d68bd83ee750dda8ab1bd41c2789a9eb6bdf7c44e01156a152df2f96c04") true
    over (fun _ h => by cases h) (by as_aux_lemma => kernel_rfl) (fun _ h => by cases h) fnExactMachineText_row_tie rfl ⟨rfl, rfl⟩ (by as_aux_lemma => kernel_rfl) rfl
    (fun f fn hf hfn => by
      obtain rfl : f = 13 := Option.some.inj ((show Tryd.prog.funcNamed "loop.example/g00930/laws.FnExactMachineText" = some 13 by as_aux_lemma => kernel_rfl).symm.trans hf) |>.symm
      obtain rfl : fn = Tryd.f13 := (Option.some.inj (Tryd.func13.symm.trans hfn)).symm
      exact ⟨(by as_aux_lemma => kernel_rfl), fun j t ht => by
        rw [Tryd.params13] at ht
        have hm : t ∈ [72] := by simpa using Array.mem_of_getElem? ht
        have hall : ([72].all fun u => !Tryd.prog.wantsStandIn u) = true := by as_aux_lemma => kernel_rfl
        exact (show Tryd.prog.wantsStandIn t = false by simpa using List.all_eq_true.1 hall t hm)⟩)
    (by as_aux_lemma => kernel_rfl)
end Go.Proofs.YtlahobdopmdfmaaDoor.lawMachineText
