/-
  laws.FnExactAccumulateNumber returns true at every input (no condition, but the texts of the library's tables, which the card ties), and leaves its arguments as they were.
-/
import Derived.Test.YtiogbpnnnpodkaaDoorReg
import Derived.Test.YtiogbpnnnpodkaaDoorBox
import Derived.Test.YtiogbpnnnpodkaaDoorFrame
import Derived.Test.YtiogbpnnnpodkaaDoorAcnI
import Derived.Test.YtiogbpnnnpodkaaDoorAcnS
import Derived.Test.YtiogbpnnnpodkaaDoorDoorFrame
import Derived.Deep.RegionHeld3
import Derived.Test.YtiogbpnnnpodkaaDoorFacts
import Derived.Test.YtiogbpnnnpodkaaDoorRows
namespace Go.Proofs.YtiogbpnnnpodkaaDoor.lawAccumulateNumber
open Go.ChangeShapes Go.WideShapes Go.ChangeAt Go.WideElems Go.RowKit Go.Joins
open Go.ChangeMaps (open_string shut_string)

theorem rowErr (u : TypeId) (h : Tryd.prog.typeName? 3 u = some "*errors.errorString") : u = 204 :=
  typeName_ptr_named (nm := "errors.errorString") (by rw [show "*" ++ "errors.errorString" = "*errors.errorString" by decide]; kernel_rfl) (by kernel_rfl) (by decide) u (by rw [show "*" ++ "errors.errorString" = "*errors.errorString" by decide]; exact h)
theorem gVar : Tryd.prog.globalNamed "loop.example/g00930/impl.errBell" = some 0 := by kernel_rfl
theorem tVar : (Tryd.prog.globals[0]?).map (·.type) = some 85 := by kernel_rfl
def Door (w : World) : Prop := BellD w
theorem door_below {w w' : World} (h : Door w) (hb : Below w.heap.size w w') : Door w' := h.below hb
theorem of_laid {W : World} (h : laidMetH Tryd.prog Rows.fnExactAccumulateNumberRow.laid W) : Door W := by
  rw [MakeChecks.laidMetH_plain _ _ _ (by kernel_rfl)] at h
  obtain ⟨a, t, hv, _⟩ := laid_sentinel h (g := 0) (ti := 85) (tp := 204) (te := 206) (ts := 9) (by kernel_rfl) (by kernel_rfl) Tryd.underlying85 rowErr Tryd.underlying204 Tryd.underlying206 rfl rfl Tryd.underlying9 (by kernel_rfl) (by kernel_rfl)
  exact ⟨_, by simpa [BellAt, bellV] using World.var?_cell (g := 0) (by kernel_rfl) hv 0⟩

set_option maxRecDepth 100000 in
set_option maxHeartbeats 4000000 in
theorem law_walk (xRB : Int) (xRA : Option Addr) (xRC : Nat) (xRZ : List Int) (xNumber : Int) (w : World) (hxR : Raw w xRA xRZ) (bxR : I64 xRB) (bxNumber : I64 xNumber) (hD : Door w) :
    Calls Tryd.prog 6 #[.agg #[.int .i64 xRB, .slice xRA xRZ.length xRC], .int .i64 xNumber] w fun e w' => e = .returned (.bool true) ∧ Below w.heap.size w w' := by
  have hbel : Below w.heap.size w (w.alloc (.cells #[.int .i64 xRB, .slice xRA xRZ.length xRC] 30)) := (Below.refl _ _).alloc (by simp <;> omega) _
  have cxR0 : (w.alloc (.cells #[.int .i64 xRB, .slice xRA xRZ.length xRC] 30)).cell? ⟨w.heap.size, 0, none⟩ = some (.int .i64 xRB) := by go_simp
  have cxR1 : (w.alloc (.cells #[.int .i64 xRB, .slice xRA xRZ.length xRC] 30)).cell? ⟨w.heap.size, 1, none⟩ = some (.slice xRA xRZ.length xRC) := by go_simp
  go_enter Tryd.func6, Tryd.ntmps6
  go_wp2_with fail
  obtain ⟨v1, hu⟩ : ∃ u, u = (w.alloc (.cells #[.int .i64 xRB, .slice xRA xRZ.length xRC] 30)) := ⟨_, rfl⟩
  have s1 : Hid (w.heap.size + 1 ≤ v1.heap.size) := Lib.hid (by rw [hu]; simp)
  rw [← hu] at cxR0 cxR1 hbel ⊢
  clear hu
  rcases Int.lt_or_le (leftOf xRZ.length 1048576) 0 with k1 | k1
  · refine (szRegister_any xRB xRA xRZ.length xRC 1048576 v1 hxR.len (by omega) (by omega)).mono ?_
    rintro e v2 ⟨rfl, hb⟩
    go_wp2
    go_ret
    exact ⟨rfl, hbel.trans (hb.mono hbel.size)⟩
  have m1 := leftOf_le xRZ.length 1048576 (by omega)
  refine (szRegister_any xRB xRA xRZ.length xRC 1048576 v1 hxR.len (by omega) (by omega)).mono ?_
  rintro e v2 ⟨rfl, hb⟩
  have s2 : Hid (v1.heap.size ≤ v2.heap.size) := Lib.hid hb.size
  replace cxR0 := kept hb cxR0
  replace cxR1 := kept hb cxR1
  replace hbel := hbel.trans (hb.mono hbel.size)
  clear hb
  have zxR := hxR.wf
  replace hxR := hxR.rd (by have := leftOf_len k1; omega)
  go_wp2_with fail
  refine (toRegister_any xRB xRA xRC xRZ v2 (hxR.below hbel)).mono ?_
  rintro e v3 ⟨t3A, t3C, rfl, ot3, hb⟩
  have s4 : Hid (v2.heap.size ≤ v3.heap.size) := Lib.hid hb.size
  replace cxR0 := kept hb cxR0
  replace cxR1 := kept hb cxR1
  replace hbel := hbel.trans (hb.mono hbel.size)
  clear hb
  go_wp2_with fail
  refine (specAccumulateNumber xRB t3A t3C xRZ xNumber v3 ot3.rd zxR bxR bxNumber).mono ?_
  rintro e v4 ⟨w0A, w0C, rfl, ow0, hb⟩
  have s5 : Hid (v3.heap.size ≤ v4.heap.size) := Lib.hid hb.size
  replace cxR0 := kept hb cxR0
  replace cxR1 := kept hb cxR1
  replace ot3 := ot3.below hb
  replace hbel := hbel.trans (hb.mono hbel.size)
  clear hb
  clear ot3
  have ha6 : Below v4.heap.size v4 (v4.alloc (.cells #[.int .i64 (acnR xRB xRZ xNumber).1, .slice w0A (acnR xRB xRZ xNumber).2.1.length w0C] 24)) := (Below.refl _ _).alloc (by simp <;> omega) _
  replace cxR0 := kept ha6 cxR0
  replace cxR1 := kept ha6 cxR1
  replace ow0 := ow0.below ha6
  replace hbel := hbel.trans (ha6.mono hbel.size)
  clear ha6
  have cw00 : (v4.alloc (.cells #[.int .i64 (acnR xRB xRZ xNumber).1, .slice w0A (acnR xRB xRZ xNumber).2.1.length w0C] 24)).cell? ⟨v4.heap.size, 0, none⟩ = some (.int .i64 (acnR xRB xRZ xNumber).1) := by go_simp
  have cw01 : (v4.alloc (.cells #[.int .i64 (acnR xRB xRZ xNumber).1, .slice w0A (acnR xRB xRZ xNumber).2.1.length w0C] 24)).cell? ⟨v4.heap.size, 1, none⟩ = some (.slice w0A (acnR xRB xRZ xNumber).2.1.length w0C) := by go_simp
  go_wp2_with fail
  obtain ⟨v5, hu⟩ : ∃ u, u = (v4.alloc (.cells #[.int .i64 (acnR xRB xRZ xNumber).1, .slice w0A (acnR xRB xRZ xNumber).2.1.length w0C] 24)) := ⟨_, rfl⟩
  have s8 : Hid (v4.heap.size + 1 ≤ v5.heap.size) := Lib.hid (by rw [hu]; simp)
  rw [← hu] at cxR0 cxR1 cw00 cw01 ow0 hbel ⊢
  clear hu
  refine (toRegister_any xRB xRA xRC xRZ v5 (hxR.below hbel)).mono ?_
  rintro e v6 ⟨t7A, t7C, rfl, ot7, hb⟩
  have s9 : Hid (v5.heap.size ≤ v6.heap.size) := Lib.hid hb.size
  replace cxR0 := kept hb cxR0
  replace cxR1 := kept hb cxR1
  replace cw00 := kept hb cw00
  replace cw01 := kept hb cw01
  replace ow0 := ow0.below hb
  replace hbel := hbel.trans (hb.mono hbel.size)
  clear hb
  have ha10 : Below v6.heap.size v6 (v6.alloc (.cells #[.int .i64 xRB, .slice t7A xRZ.length t7C] 24)) := (Below.refl _ _).alloc (by simp <;> omega) _
  replace cxR0 := kept ha10 cxR0
  replace cxR1 := kept ha10 cxR1
  replace cw00 := kept ha10 cw00
  replace cw01 := kept ha10 cw01
  replace ow0 := ow0.below ha10
  replace ot7 := ot7.below ha10
  replace hbel := hbel.trans (ha10.mono hbel.size)
  clear ha10
  have cx00 : (v6.alloc (.cells #[.int .i64 xRB, .slice t7A xRZ.length t7C] 24)).cell? ⟨v6.heap.size, 0, none⟩ = some (.int .i64 xRB) := by go_simp
  have cx01 : (v6.alloc (.cells #[.int .i64 xRB, .slice t7A xRZ.length t7C] 24)).cell? ⟨v6.heap.size, 1, none⟩ = some (.slice t7A xRZ.length t7C) := by go_simp
  go_wp2_with fail
  obtain ⟨v7, hu⟩ : ∃ u, u = (v6.alloc (.cells #[.int .i64 xRB, .slice t7A xRZ.length t7C] 24)) := ⟨_, rfl⟩
  have s11 : Hid (v6.heap.size + 1 ≤ v7.heap.size) := Lib.hid (by rw [hu]; simp)
  rw [← hu] at cxR0 cxR1 cw00 cw01 cx00 cx01 ow0 ot7 hbel ⊢
  clear hu
  refine (implAccumulateNumber xRB t7A t7C xRZ xNumber v7 ot7.rd zxR bxR bxNumber (door_below hD hbel)).mono ?_
  rintro e v8 ⟨g0A, g0C, rfl, og0, hb⟩
  have s12 : Hid (v7.heap.size ≤ v8.heap.size) := Lib.hid hb.size
  replace cxR0 := kept hb cxR0
  replace cxR1 := kept hb cxR1
  replace cw00 := kept hb cw00
  replace cw01 := kept hb cw01
  replace cx00 := kept hb cx00
  replace cx01 := kept hb cx01
  replace ow0 := ow0.below hb
  replace ot7 := ot7.below hb
  replace hbel := hbel.trans (hb.mono hbel.size)
  clear hb
  have ha13 : Below v8.heap.size v8 (v8.alloc (.cells #[.int .i64 (acnR xRB xRZ xNumber).1, .slice g0A (acnR xRB xRZ xNumber).2.1.length g0C] 24)) := (Below.refl _ _).alloc (by simp <;> omega) _
  replace cxR0 := kept ha13 cxR0
  replace cxR1 := kept ha13 cxR1
  replace cw00 := kept ha13 cw00
  replace cw01 := kept ha13 cw01
  replace cx00 := kept ha13 cx00
  replace cx01 := kept ha13 cx01
  replace ow0 := ow0.below ha13
  replace ot7 := ot7.below ha13
  replace og0 := og0.below ha13
  replace hbel := hbel.trans (ha13.mono hbel.size)
  clear ha13
  have cg00 : (v8.alloc (.cells #[.int .i64 (acnR xRB xRZ xNumber).1, .slice g0A (acnR xRB xRZ xNumber).2.1.length g0C] 24)).cell? ⟨v8.heap.size, 0, none⟩ = some (.int .i64 (acnR xRB xRZ xNumber).1) := by go_simp
  have cg01 : (v8.alloc (.cells #[.int .i64 (acnR xRB xRZ xNumber).1, .slice g0A (acnR xRB xRZ xNumber).2.1.length g0C] 24)).cell? ⟨v8.heap.size, 1, none⟩ = some (.slice g0A (acnR xRB xRZ xNumber).2.1.length g0C) := by go_simp
  have q14 : regEqB (acnR xRB xRZ xNumber).1 (acnR xRB xRZ xNumber).1 (acnR xRB xRZ xNumber).2.1 (acnR xRB xRZ xNumber).2.1 = true := regEqB_self _ _
  go_wp2_with fail
  obtain ⟨v9, hu⟩ : ∃ u, u = (v8.alloc (.cells #[.int .i64 (acnR xRB xRZ xNumber).1, .slice g0A (acnR xRB xRZ xNumber).2.1.length g0C] 24)) := ⟨_, rfl⟩
  have s15 : Hid (v8.heap.size + 1 ≤ v9.heap.size) := Lib.hid (by rw [hu]; simp)
  rw [← hu] at cxR0 cxR1 cw00 cw01 cx00 cx01 cg00 cg01 ow0 ot7 og0 hbel ⊢
  clear hu
  refine (eqRegister_any (acnR xRB xRZ xNumber).1 (acnR xRB xRZ xNumber).1 g0A w0A g0C w0C (acnR xRB xRZ xNumber).2.1 (acnR xRB xRZ xNumber).2.1 v9 og0.rd ow0.rd).mono ?_
  rintro e v10 ⟨rfl, hb⟩
  have s16 : Hid (v9.heap.size ≤ v10.heap.size) := Lib.hid hb.size
  replace cxR0 := kept hb cxR0
  replace cxR1 := kept hb cxR1
  replace cw00 := kept hb cw00
  replace cw01 := kept hb cw01
  replace cx00 := kept hb cx00
  replace cx01 := kept hb cx01
  replace cg00 := kept hb cg00
  replace cg01 := kept hb cg01
  replace ow0 := ow0.below hb
  replace ot7 := ot7.below hb
  replace og0 := og0.below hb
  replace hbel := hbel.trans (hb.mono hbel.size)
  clear hb
  have q17 : regEqB xRB xRB xRZ xRZ = true := regEqB_self _ _
  go_wp2_with fail
  have rcxR0 := kept_all cxR0
  have rcxR1 := kept_all cxR1
  have rcw00 := kept_all cw00
  have rcw01 := kept_all cw01
  have rcx00 := kept_all cx00
  have rcx01 := kept_all cx01
  have rcg00 := kept_all cg00
  have rcg01 := kept_all cg01
  go_region_held3 (fun w' => Below v10.heap.size v10 w') (first | exact hk | exact (Below.refl _ _).drew | exact hk.alloc hk.size _ | exact (hk.alloc hk.size _).setCell hk.size _)
    (first | (go_at_call 21; have qB := ‹Below v10.heap.size v10 _›; ((with_reducible refine (toRegister_any xRB xRA xRC xRZ _ (hxR.below (hbel.trans (qB.mono hbel.size)))).mono ?_)); rintro e v12 ⟨t18A, t18C, rfl, ot18, hb⟩; have hk := qB.trans (hb.mono qB.size)) | (go_at_call 16; have qB := ‹Below v10.heap.size v10 _›; refine (eqRegister_any xRB xRB t7A t18A t7C t18C xRZ xRZ _ (ot7.below qB).rd (by first | exact ot18.rd | exact (ot18.alloc _).rd)).mono ?_; rintro e v11 ⟨rfl, hb⟩; have hk := qB.trans (hb.mono qB.size)))
  have hb : Below v10.heap.size v10 v11 := by assumption
  clear rcxR0 rcxR1 rcw00 rcw01 rcx00 rcx01 rcg00 rcg01
  clear ot18
  have s19 : Hid (v10.heap.size ≤ v11.heap.size) := Lib.hid hb.size
  replace cxR0 := kept hb cxR0
  replace cxR1 := kept hb cxR1
  replace cw00 := kept hb cw00
  replace cw01 := kept hb cw01
  replace cx00 := kept hb cx00
  replace cx01 := kept hb cx01
  replace cg00 := kept hb cg00
  replace cg01 := kept hb cg01
  replace ow0 := ow0.below hb
  replace ot7 := ot7.below hb
  replace og0 := og0.below hb
  replace hbel := hbel.trans (hb.mono hbel.size)
  clear hb
  go_wp2_with fail
  refine (markRegister_any _ _ _ xRB t7A t7C 1 xRZ v11 ot7 (by have := ow0.len; have := ot7.len; have := og0.len; have := hxR.len; omega) (by have := ow0.len; have := ot7.len; have := og0.len; have := hxR.len; omega)).mono ?_
  rintro e v13 ⟨rfl, om, ht⟩
  have s20 : Hid (v11.heap.size ≤ v13.heap.size) := Lib.hid ht.size
  clear ot7
  have ot7 := om
  clear om
  replace cxR0 := keptT ht cxR0 (by have := s1.out; have := s2.out; have := s4.out; have := s5.out; have := s8.out; have := s9.out; have := s11.out; have := s12.out; have := s15.out; have := s16.out; have := s19.out; have := s20.out; omega)
  replace cxR1 := keptT ht cxR1 (by have := s1.out; have := s2.out; have := s4.out; have := s5.out; have := s8.out; have := s9.out; have := s11.out; have := s12.out; have := s15.out; have := s16.out; have := s19.out; have := s20.out; omega)
  replace cw00 := keptT ht cw00 (by have := s1.out; have := s2.out; have := s4.out; have := s5.out; have := s8.out; have := s9.out; have := s11.out; have := s12.out; have := s15.out; have := s16.out; have := s19.out; have := s20.out; omega)
  replace cw01 := keptT ht cw01 (by have := s1.out; have := s2.out; have := s4.out; have := s5.out; have := s8.out; have := s9.out; have := s11.out; have := s12.out; have := s15.out; have := s16.out; have := s19.out; have := s20.out; omega)
  replace cx00 := keptT ht cx00 (by have := s1.out; have := s2.out; have := s4.out; have := s5.out; have := s8.out; have := s9.out; have := s11.out; have := s12.out; have := s15.out; have := s16.out; have := s19.out; have := s20.out; omega)
  replace cx01 := keptT ht cx01 (by have := s1.out; have := s2.out; have := s4.out; have := s5.out; have := s8.out; have := s9.out; have := s11.out; have := s12.out; have := s15.out; have := s16.out; have := s19.out; have := s20.out; omega)
  replace cg00 := keptT ht cg00 (by have := s1.out; have := s2.out; have := s4.out; have := s5.out; have := s8.out; have := s9.out; have := s11.out; have := s12.out; have := s15.out; have := s16.out; have := s19.out; have := s20.out; omega)
  replace cg01 := keptT ht cg01 (by have := s1.out; have := s2.out; have := s4.out; have := s5.out; have := s8.out; have := s9.out; have := s11.out; have := s12.out; have := s15.out; have := s16.out; have := s19.out; have := s20.out; omega)
  replace ow0 := ow0.touch ht (by have := s1.out; have := s2.out; have := s4.out; have := s5.out; have := s8.out; have := s9.out; have := s11.out; have := s12.out; have := s15.out; have := s16.out; have := s19.out; have := s20.out; omega)
  replace og0 := og0.touch ht (by have := s1.out; have := s2.out; have := s4.out; have := s5.out; have := s8.out; have := s9.out; have := s11.out; have := s12.out; have := s15.out; have := s16.out; have := s19.out; have := s20.out; omega)
  replace hbel := hbel.trans (ht.below (by have := s1.out; have := s2.out; have := s4.out; have := s5.out; have := s8.out; have := s9.out; have := s11.out; have := s12.out; have := s15.out; have := s16.out; have := s19.out; have := s20.out; omega) hbel.size)
  clear ht
  have q21 : regEqB (acnR xRB xRZ xNumber).1 (acnR xRB xRZ xNumber).1 (acnR xRB xRZ xNumber).2.1 (acnR xRB xRZ xNumber).2.1 = true := regEqB_self _ _
  go_wp2_with fail
  refine (eqRegister_any (acnR xRB xRZ xNumber).1 (acnR xRB xRZ xNumber).1 g0A w0A g0C w0C (acnR xRB xRZ xNumber).2.1 (acnR xRB xRZ xNumber).2.1 v13 og0.rd ow0.rd).mono ?_
  rintro e v14 ⟨rfl, hb⟩
  have s22 : Hid (v13.heap.size ≤ v14.heap.size) := Lib.hid hb.size
  replace cxR0 := kept hb cxR0
  replace cxR1 := kept hb cxR1
  replace cw00 := kept hb cw00
  replace cw01 := kept hb cw01
  replace cx00 := kept hb cx00
  replace cx01 := kept hb cx01
  replace cg00 := kept hb cg00
  replace cg01 := kept hb cg01
  replace ow0 := ow0.below hb
  replace ot7 := ot7.below hb
  replace og0 := og0.below hb
  replace hbel := hbel.trans (hb.mono hbel.size)
  clear hb
  go_wp2_with fail
  refine (markRegister_any _ _ _ (acnR xRB xRZ xNumber).1 g0A g0C 1 (acnR xRB xRZ xNumber).2.1 v14 og0 (by have := ow0.len; have := ot7.len; have := og0.len; have := hxR.len; omega) (by have := ow0.len; have := ot7.len; have := og0.len; have := hxR.len; omega)).mono ?_
  rintro e v15 ⟨rfl, om, ht⟩
  have s23 : Hid (v14.heap.size ≤ v15.heap.size) := Lib.hid ht.size
  clear og0
  have og0 := om
  clear om
  replace cxR0 := keptT ht cxR0 (by have := s1.out; have := s2.out; have := s4.out; have := s5.out; have := s8.out; have := s9.out; have := s11.out; have := s12.out; have := s15.out; have := s16.out; have := s19.out; have := s20.out; have := s22.out; have := s23.out; omega)
  replace cxR1 := keptT ht cxR1 (by have := s1.out; have := s2.out; have := s4.out; have := s5.out; have := s8.out; have := s9.out; have := s11.out; have := s12.out; have := s15.out; have := s16.out; have := s19.out; have := s20.out; have := s22.out; have := s23.out; omega)
  replace cw00 := keptT ht cw00 (by have := s1.out; have := s2.out; have := s4.out; have := s5.out; have := s8.out; have := s9.out; have := s11.out; have := s12.out; have := s15.out; have := s16.out; have := s19.out; have := s20.out; have := s22.out; have := s23.out; omega)
  replace cw01 := keptT ht cw01 (by have := s1.out; have := s2.out; have := s4.out; have := s5.out; have := s8.out; have := s9.out; have := s11.out; have := s12.out; have := s15.out; have := s16.out; have := s19.out; have := s20.out; have := s22.out; have := s23.out; omega)
  replace cx00 := keptT ht cx00 (by have := s1.out; have := s2.out; have := s4.out; have := s5.out; have := s8.out; have := s9.out; have := s11.out; have := s12.out; have := s15.out; have := s16.out; have := s19.out; have := s20.out; have := s22.out; have := s23.out; omega)
  replace cx01 := keptT ht cx01 (by have := s1.out; have := s2.out; have := s4.out; have := s5.out; have := s8.out; have := s9.out; have := s11.out; have := s12.out; have := s15.out; have := s16.out; have := s19.out; have := s20.out; have := s22.out; have := s23.out; omega)
  replace cg00 := keptT ht cg00 (by have := s1.out; have := s2.out; have := s4.out; have := s5.out; have := s8.out; have := s9.out; have := s11.out; have := s12.out; have := s15.out; have := s16.out; have := s19.out; have := s20.out; have := s22.out; have := s23.out; omega)
  replace cg01 := keptT ht cg01 (by have := s1.out; have := s2.out; have := s4.out; have := s5.out; have := s8.out; have := s9.out; have := s11.out; have := s12.out; have := s15.out; have := s16.out; have := s19.out; have := s20.out; have := s22.out; have := s23.out; omega)
  replace ow0 := ow0.touch ht (by have := s1.out; have := s2.out; have := s4.out; have := s5.out; have := s8.out; have := s9.out; have := s11.out; have := s12.out; have := s15.out; have := s16.out; have := s19.out; have := s20.out; have := s22.out; have := s23.out; omega)
  replace ot7 := ot7.touch ht (by have := s1.out; have := s2.out; have := s4.out; have := s5.out; have := s8.out; have := s9.out; have := s11.out; have := s12.out; have := s15.out; have := s16.out; have := s19.out; have := s20.out; have := s22.out; have := s23.out; omega)
  replace hbel := hbel.trans (ht.below (by have := s1.out; have := s2.out; have := s4.out; have := s5.out; have := s8.out; have := s9.out; have := s11.out; have := s12.out; have := s15.out; have := s16.out; have := s19.out; have := s20.out; have := s22.out; have := s23.out; omega) hbel.size)
  clear ht
  go_wp2_with fail
  refine (heldRegister_any (acnR xRB xRZ xNumber).1 g0A g0C 1 (acnR xRB xRZ xNumber).2.1.length v15 og0.rd (by have := ow0.len; have := ot7.len; have := og0.len; have := hxR.len; omega) (by have := ow0.len; have := ot7.len; have := og0.len; have := hxR.len; omega)).mono ?_
  rintro e v16 ⟨rfl, hb⟩
  have s24 : Hid (v15.heap.size ≤ v16.heap.size) := Lib.hid hb.size
  replace cxR0 := kept hb cxR0
  replace cxR1 := kept hb cxR1
  replace cw00 := kept hb cw00
  replace cw01 := kept hb cw01
  replace cx00 := kept hb cx00
  replace cx01 := kept hb cx01
  replace cg00 := kept hb cg00
  replace cg01 := kept hb cg01
  replace ow0 := ow0.below hb
  replace ot7 := ot7.below hb
  replace og0 := og0.below hb
  replace hbel := hbel.trans (hb.mono hbel.size)
  clear hb
  go_wp2_with fail
  refine (toRegister_any xRB xRA xRC xRZ v16 (hxR.below hbel)).mono ?_
  rintro e v17 ⟨t25A, t25C, rfl, ot25, hb⟩
  have s26 : Hid (v16.heap.size ≤ v17.heap.size) := Lib.hid hb.size
  replace cxR0 := kept hb cxR0
  replace cxR1 := kept hb cxR1
  replace cw00 := kept hb cw00
  replace cw01 := kept hb cw01
  replace cx00 := kept hb cx00
  replace cx01 := kept hb cx01
  replace cg00 := kept hb cg00
  replace cg01 := kept hb cg01
  replace ow0 := ow0.below hb
  replace ot7 := ot7.below hb
  replace og0 := og0.below hb
  replace hbel := hbel.trans (hb.mono hbel.size)
  clear hb
  go_wp2_with fail
  refine (implAccumulateNumber xRB t25A t25C xRZ xNumber v17 ot25.rd zxR bxR bxNumber (door_below hD hbel)).mono ?_
  rintro e v18 ⟨h0A, h0C, rfl, oh0, hb⟩
  have s27 : Hid (v17.heap.size ≤ v18.heap.size) := Lib.hid hb.size
  replace cxR0 := kept hb cxR0
  replace cxR1 := kept hb cxR1
  replace cw00 := kept hb cw00
  replace cw01 := kept hb cw01
  replace cx00 := kept hb cx00
  replace cx01 := kept hb cx01
  replace cg00 := kept hb cg00
  replace cg01 := kept hb cg01
  replace ow0 := ow0.below hb
  replace ot7 := ot7.below hb
  replace og0 := og0.below hb
  replace ot25 := ot25.below hb
  replace hbel := hbel.trans (hb.mono hbel.size)
  clear hb
  clear ot25
  have ha28 : Below v18.heap.size v18 (v18.alloc (.cells #[.int .i64 (acnR xRB xRZ xNumber).1, .slice h0A (acnR xRB xRZ xNumber).2.1.length h0C] 24)) := (Below.refl _ _).alloc (by simp <;> omega) _
  replace cxR0 := kept ha28 cxR0
  replace cxR1 := kept ha28 cxR1
  replace cw00 := kept ha28 cw00
  replace cw01 := kept ha28 cw01
  replace cx00 := kept ha28 cx00
  replace cx01 := kept ha28 cx01
  replace cg00 := kept ha28 cg00
  replace cg01 := kept ha28 cg01
  replace ow0 := ow0.below ha28
  replace ot7 := ot7.below ha28
  replace og0 := og0.below ha28
  replace oh0 := oh0.below ha28
  replace hbel := hbel.trans (ha28.mono hbel.size)
  clear ha28
  have ch00 : (v18.alloc (.cells #[.int .i64 (acnR xRB xRZ xNumber).1, .slice h0A (acnR xRB xRZ xNumber).2.1.length h0C] 24)).cell? ⟨v18.heap.size, 0, none⟩ = some (.int .i64 (acnR xRB xRZ xNumber).1) := by go_simp
  have ch01 : (v18.alloc (.cells #[.int .i64 (acnR xRB xRZ xNumber).1, .slice h0A (acnR xRB xRZ xNumber).2.1.length h0C] 24)).cell? ⟨v18.heap.size, 1, none⟩ = some (.slice h0A (acnR xRB xRZ xNumber).2.1.length h0C) := by go_simp
  have q29 : regEqB (acnR xRB xRZ xNumber).1 (acnR xRB xRZ xNumber).1 (acnR xRB xRZ xNumber).2.1 (acnR xRB xRZ xNumber).2.1 = true := regEqB_self _ _
  go_wp2_with fail
  obtain ⟨v19, hu⟩ : ∃ u, u = (v18.alloc (.cells #[.int .i64 (acnR xRB xRZ xNumber).1, .slice h0A (acnR xRB xRZ xNumber).2.1.length h0C] 24)) := ⟨_, rfl⟩
  have s30 : Hid (v18.heap.size + 1 ≤ v19.heap.size) := Lib.hid (by rw [hu]; simp)
  rw [← hu] at cxR0 cxR1 cw00 cw01 cx00 cx01 cg00 cg01 ch00 ch01 ow0 ot7 og0 oh0 hbel ⊢
  clear hu
  refine (eqRegister_any (acnR xRB xRZ xNumber).1 (acnR xRB xRZ xNumber).1 h0A w0A h0C w0C (acnR xRB xRZ xNumber).2.1 (acnR xRB xRZ xNumber).2.1 v19 oh0.rd ow0.rd).mono ?_
  rintro e v20 ⟨rfl, hb⟩
  have s31 : Hid (v19.heap.size ≤ v20.heap.size) := Lib.hid hb.size
  replace cxR0 := kept hb cxR0
  replace cxR1 := kept hb cxR1
  replace cw00 := kept hb cw00
  replace cw01 := kept hb cw01
  replace cx00 := kept hb cx00
  replace cx01 := kept hb cx01
  replace cg00 := kept hb cg00
  replace cg01 := kept hb cg01
  replace ch00 := kept hb ch00
  replace ch01 := kept hb ch01
  replace ow0 := ow0.below hb
  replace ot7 := ot7.below hb
  replace og0 := og0.below hb
  replace oh0 := oh0.below hb
  replace hbel := hbel.trans (hb.mono hbel.size)
  clear hb
  go_wp2_with fail
  refine (heldRegister_any (acnR xRB xRZ xNumber).1 g0A g0C 1 (acnR xRB xRZ xNumber).2.1.length v20 og0.rd (by have := ow0.len; have := ot7.len; have := og0.len; have := oh0.len; have := hxR.len; omega) (by have := ow0.len; have := ot7.len; have := og0.len; have := oh0.len; have := hxR.len; omega)).mono ?_
  rintro e v21 ⟨rfl, hb⟩
  have s32 : Hid (v20.heap.size ≤ v21.heap.size) := Lib.hid hb.size
  replace cxR0 := kept hb cxR0
  replace cxR1 := kept hb cxR1
  replace cw00 := kept hb cw00
  replace cw01 := kept hb cw01
  replace cx00 := kept hb cx00
  replace cx01 := kept hb cx01
  replace cg00 := kept hb cg00
  replace cg01 := kept hb cg01
  replace ch00 := kept hb ch00
  replace ch01 := kept hb ch01
  replace ow0 := ow0.below hb
  replace ot7 := ot7.below hb
  replace og0 := og0.below hb
  replace oh0 := oh0.below hb
  replace hbel := hbel.trans (hb.mono hbel.size)
  clear hb
  go_wp2
  go_ret
  exact ⟨rfl, hbel⟩

/-- The door's own heap meets the condition: closed facts. -/
theorem door_met (os : Os) (args : Array Value) : laidMetH Tryd.prog Rows.fnExactAccumulateNumberRow.laid ((World.doorLaid Tryd.prog 400 os).forCall (fun _ _ => 0) ⟨#[], args, []⟩).memory :=
  laidMetH_of_parts3 (fuel := 8) (laidMet_of_run' 8 (by kernel_rfl) (by kernel_rfl)) (by kernel_rfl) (by kernel_rfl)

set_option maxRecDepth 100000 in
theorem lifted (os : Os) (started : os.Started) (H : Type) (enc : TypeId × Value → H) :
    ReturnsInHanded {} Tryd.checked os 6 .any (fun w args => (Rows.fnExactAccumulateNumberSpec.pre enc Tryd.prog Tryd.f6 [] false w args ∧ laidMetH Tryd.prog Rows.fnExactAccumulateNumberRow.laid w) ∧ sizedMet enc Tryd.prog Tryd.f6 (OpenSpec.ofChange Rows.fnExactAccumulateNumberSpec) false w args)
      (Rows.fnExactAccumulateNumberSpec.post enc Tryd.prog Tryd.f6 false true false false) := by
  refine returnsInHanded_of_change_and (C := Tryd.checked) (X := fun w _ => laidMetH Tryd.prog Rows.fnExactAccumulateNumberRow.laid w) (fun _ _ _ hh h => h.of_heap hh) own_knob started (by kernel_rfl) Tryd.func6
    (ChangeSpec.witness_shaped (enc := enc) (C := Tryd.checked) (os := os) (X := fun w _ => laidMetH Tryd.prog Rows.fnExactAccumulateNumberRow.laid w) false (World.doorLaid Tryd.prog 400 os) #[.agg #[.int .i64 0, .slice none 0 0], .int .i64 0] 8 rfl (World.shaped_of_RefB (by kernel_rfl) (by kernel_rfl)) (by kernel_rfl) (by kernel_rfl) (by kernel_rfl) (door_met os _)) ?_
  intro W base args ds gs before hval0 hW _ _ hL _
  have hval : ∀ (j : Nat) t v, Tryd.f6.params[j]? = some t → args[j]? = some v → Value.okWide Tryd.prog W .any base t v := hval0
  have hW' := hW
  obtain ⟨p, q, hA0, hV0, rfl, hfz, hnd⟩ := hW
  have hA : DataW.TrodAll enc Tryd.prog W 0 (fun _ => true) true Tryd.f6.params.toList args.toList ds p := hA0
  have hV : DataW.TrodVars enc Tryd.prog W (fun _ => true) ["loop.example/g00930/impl.errBell"] gs q := hV0
  rw [Tryd.params6] at hA hval
  obtain ⟨v0, vs0, d0, ds0, p0, q0, hargs, rfl, rfl, h0, r0⟩ := trodAll_cons hA
  obtain ⟨v1, vs1, d1, ds1, p1, q1, rfl, rfl, rfl, h1, r1⟩ := trodAll_cons r0
  obtain ⟨rfl, rfl, rfl⟩ := trodAll_nil r1
  obtain rfl : args = #[v0, v1] := by cases args; simp_all
  have k0 := h0
  have lt0 : ∀ x ∈ p0, x.block < W.heap.size := by obtain ⟨m, hm⟩ := k0; exact DataW.trod_lt m _ _ _ hm
  obtain ⟨xRB, xRA, xRC, xRZ, rfl, hxR, bxR⟩ := open_Register (hval 0 30 v0 rfl rfl) h0
  obtain ⟨xNumber, rfl, rfl, rfl, bxNumber⟩ := open_int Tryd.underlying2 (hval 1 2 v1 rfl rfl) h1
  have hD := of_laid hL
  clear hA0 hval0
  obtain ⟨gd, rfl⟩ : ∃ gd, gs = [gd] := by
    obtain ⟨_, _, _, _, d, _, h, _⟩ := trodVars_one hV
    exact ⟨d, h⟩
  refine (law_walk xRB xRA xRC xRZ xNumber W hxR bxR bxNumber hD).mono fun e W' ⟨he, bel⟩ => ?_
  subst he
  obtain ⟨q', hq'⟩ := var_stays gVar tVar (by kernel_rfl) (of_decide_eq_true (by kernel_rfl)) hV bel
  exact ⟨_, rfl, _, _, _, [], _, q', hW', trodAll_mk1 (shut_bool Tryd.underlying4 _), (trodAll_cons_mk (Below.trod laid_out (by kernel_rfl) (of_decide_eq_true (by kernel_rfl)) k0 bel lt0) (trodAll_cons_mk (shut_int Tryd.underlying2 bxNumber) trodAll_mk0)), hq', bel.frame _, fun h => by cases h⟩

set_option maxHeartbeats 20000000 in
theorem closed : joinedFacts Tryd.prog 6 Tryd.f6 Rows.fnExactAccumulateNumberSpec Rows.fnExactAccumulateNumberRow = true := by
  simp only [joinedFacts, Bool.and_eq_true]
  refine ⟨⟨⟨⟨⟨⟨⟨⟨⟨⟨⟨⟨⟨⟨⟨⟨⟨⟨⟨⟨⟨⟨⟨⟨⟨⟨⟨⟨⟨⟨⟨?_, laid_out⟩, fact_maps⟩, ?_⟩, ?_⟩, ?_⟩, fact_stops⟩, ?_⟩, fact_knobs⟩, ?_⟩, ?_⟩, ?_⟩, ?_⟩, ?_⟩, ?_⟩, ?_⟩, ?_⟩, ?_⟩, ?_⟩, ?_⟩, ?_⟩, ?_⟩, fact_plain⟩, ?_⟩, fact_heard⟩, fact_enter⟩, fact_lift⟩, ?_⟩, ?_⟩, ?_⟩, ?_⟩, ?_⟩
  all_goals (as_aux_lemma => kernel_rfl)

theorem over : Rows.FnExactAccumulateNumberSaid :=
  OpenClaim.holds_of_wide 6 Tryd.f6 rfl rfl rfl rfl rfl rfl rfl ⟨rfl, rfl, rfl, rfl, rfl⟩ rfl rfl rfl rfl rfl (by as_aux_lemma => kernel_rfl) Tryd.func6 closed
    (of_decide_eq_true (by as_aux_lemma => kernel_rfl)) (by unfold Func.isWrapper; first | (rw [if_pos (by decide +kernel)]; kernel_rfl) | (rw [if_neg (by decide +kernel)]; exact ⟨rfl, rfl⟩))
    (fun os started H enc _ => lifted os started H enc)

/-- The statement: the tied card. -/
theorem proved : Rows.FnExactAccumulateNumberCardSaid :=
  Claim7.holds_tied_plain_at .later [] [.sentinel] true (true, "5decdcb239c0cb7ade1a9b4d3e61e8baefdaa9861a8d6b55850b5da5e95f7769") true
    over (fun _ h => by cases h) (by kernel_rfl) (fun _ h => by cases h) fnExactAccumulateNumber_row_tie rfl ⟨rfl, rfl⟩ (by kernel_rfl) rfl
    (fun f fn hf hfn => by
      obtain rfl : f = 6 := Option.some.inj ((show Tryd.prog.funcNamed "loop.example/g00930/laws.FnExactAccumulateNumber" = some 6 by kernel_rfl).symm.trans hf) |>.symm
      obtain rfl : fn = Tryd.f6 := (Option.some.inj (Tryd.func6.symm.trans hfn)).symm
      exact ⟨by kernel_rfl, fun j t ht => by
        rw [Tryd.params6] at ht
        have hm : t ∈ [30, 2] := by simpa using Array.mem_of_getElem? ht
        have hall : ([30, 2].all fun u => !Tryd.prog.wantsStandIn u) = true := by kernel_rfl
        exact (show Tryd.prog.wantsStandIn t = false by simpa using List.all_eq_true.1 hall t hm)⟩)
    (by kernel_rfl)
end Go.Proofs.YtiogbpnnnpodkaaDoor.lawAccumulateNumber
