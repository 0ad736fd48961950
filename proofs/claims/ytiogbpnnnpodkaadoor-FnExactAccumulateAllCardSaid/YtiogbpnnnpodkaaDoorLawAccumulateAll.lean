/-
  laws.FnExactAccumulateAll returns true at every input (no condition, but the texts of the library's tables, which the card ties), and leaves its arguments as they were.
-/
import Derived.Test.YtiogbpnnnpodkaaDoorReg
import Derived.Test.YtiogbpnnnpodkaaDoorBox
import Derived.Test.YtiogbpnnnpodkaaDoorFrame
import Derived.Test.YtiogbpnnnpodkaaDoorAllI
import Derived.Test.YtiogbpnnnpodkaaDoorAllS
import Derived.Test.YtiogbpnnnpodkaaDoorDoorFrame
import Derived.Deep.RegionHeld3
import Derived.Test.YtiogbpnnnpodkaaDoorFacts
import Derived.Test.YtiogbpnnnpodkaaDoorRows
namespace Go.Proofs.YtiogbpnnnpodkaaDoor.lawAccumulateAll
open Go.ChangeShapes Go.WideShapes Go.ChangeAt Go.WideElems Go.RowKit Go.Joins
open Go.ChangeMaps (open_string shut_string)

theorem rowErr (u : TypeId) (h : Tryd.prog.typeName? 3 u = some "*errors.errorString") : u = 204 :=
  typeName_ptr_named (nm := "errors.errorString") (by rw [show "*" ++ "errors.errorString" = "*errors.errorString" by decide]; kernel_rfl) (by kernel_rfl) (by decide) u (by rw [show "*" ++ "errors.errorString" = "*errors.errorString" by decide]; exact h)
theorem gVar : Tryd.prog.globalNamed "loop.example/g00930/impl.errBell" = some 0 := by kernel_rfl
theorem tVar : (Tryd.prog.globals[0]?).map (·.type) = some 85 := by kernel_rfl
def Door (w : World) : Prop := BellD w
theorem door_below {w w' : World} (h : Door w) (hb : Below w.heap.size w w') : Door w' := h.below hb
theorem of_laid {W : World} (h : laidMetH Tryd.prog Rows.fnExactAccumulateAllRow.laid W) : Door W := by
  rw [MakeChecks.laidMetH_plain _ _ _ (by kernel_rfl)] at h
  obtain ⟨a, t, hv, _⟩ := laid_sentinel h (g := 0) (ti := 85) (tp := 204) (te := 206) (ts := 9) (by kernel_rfl) (by kernel_rfl) Tryd.underlying85 rowErr Tryd.underlying204 Tryd.underlying206 rfl rfl Tryd.underlying9 (by kernel_rfl) (by kernel_rfl)
  exact ⟨_, by simpa [BellAt, bellV] using World.var?_cell (g := 0) (by kernel_rfl) hv 0⟩

set_option maxRecDepth 100000 in
set_option maxHeartbeats 4000000 in
theorem law_walk (xRB : Int) (xRA : Option Addr) (xRC : Nat) (xRZ : List Int) (xListA : Option Addr) (xListC : Nat) (xListZ : List Int) (w : World) (hxR : Raw w xRA xRZ) (bxR : I64 xRB) (hxList : Raw w xListA xListZ) (hD : Door w) :
    Calls Tryd.prog 7 #[.agg #[.int .i64 xRB, .slice xRA xRZ.length xRC], .slice xListA xListZ.length xListC] w fun e w' => e = .returned (.bool true) ∧ Below w.heap.size w w' := by
  rcases Nat.lt_or_ge 1048576 xListZ.length with kxList | fxList
  · have lxList := hxList.len
    go_enter Tryd.func7, Tryd.ntmps7
    go_wp2
    go_ret
    exact ⟨rfl, (Below.refl _ _).alloc (by simp <;> omega) _⟩
  have zxList := hxList.wf
  replace hxList := hxList.rd (by omega)
  have hbel : Below w.heap.size w (w.alloc (.cells #[.int .i64 xRB, .slice xRA xRZ.length xRC] 30)) := (Below.refl _ _).alloc (by simp <;> omega) _
  have cxR0 : (w.alloc (.cells #[.int .i64 xRB, .slice xRA xRZ.length xRC] 30)).cell? ⟨w.heap.size, 0, none⟩ = some (.int .i64 xRB) := by go_simp
  have cxR1 : (w.alloc (.cells #[.int .i64 xRB, .slice xRA xRZ.length xRC] 30)).cell? ⟨w.heap.size, 1, none⟩ = some (.slice xRA xRZ.length xRC) := by go_simp
  go_enter Tryd.func7, Tryd.ntmps7
  go_wp2_with fail
  obtain ⟨v1, hu⟩ : ∃ u, u = (w.alloc (.cells #[.int .i64 xRB, .slice xRA xRZ.length xRC] 30)) := ⟨_, rfl⟩
  have s1 : Hid (w.heap.size + 1 ≤ v1.heap.size) := Lib.hid (by rw [hu]; simp)
  rw [← hu] at cxR0 cxR1 hbel ⊢
  clear hu
  rcases Int.lt_or_le (leftOf xRZ.length 1048576) 0 with k1 | k1
  · refine (szRegister_any xRB xRA xRZ.length xRC 1048576 v1 hxR.len (by omega) (by omega)).mono ?_
    rintro e v2 ⟨rfl, hb⟩
    go_wp2
    go_ret
    exact ⟨rfl, hbel.trans (hb.mono hbel.size)⟩
  have m1 := leftOf_le xRZ.length 1048576 (by omega)
  refine (szRegister_any xRB xRA xRZ.length xRC 1048576 v1 hxR.len (by omega) (by omega)).mono ?_
  rintro e v2 ⟨rfl, hb⟩
  have s2 : Hid (v1.heap.size ≤ v2.heap.size) := Lib.hid hb.size
  replace cxR0 := kept hb cxR0
  replace cxR1 := kept hb cxR1
  replace hbel := hbel.trans (hb.mono hbel.size)
  clear hb
  have zxR := hxR.wf
  replace hxR := hxR.rd (by have := leftOf_len k1; omega)
  go_wp2_with fail
  refine (toRegister_any xRB xRA xRC xRZ v2 (hxR.below hbel)).mono ?_
  rintro e v3 ⟨t3A, t3C, rfl, ot3, hb⟩
  have s4 : Hid (v2.heap.size ≤ v3.heap.size) := Lib.hid hb.size
  replace cxR0 := kept hb cxR0
  replace cxR1 := kept hb cxR1
  replace hbel := hbel.trans (hb.mono hbel.size)
  clear hb
  go_wp2_with fail
  refine (toInt64S_any xListA xListC xListZ v3 (hxList.below hbel)).mono ?_
  rintro e v4 ⟨t5A, t5C, rfl, ot5, hb⟩
  have s6 : Hid (v3.heap.size ≤ v4.heap.size) := Lib.hid hb.size
  replace cxR0 := kept hb cxR0
  replace cxR1 := kept hb cxR1
  replace ot3 := ot3.below hb
  replace hbel := hbel.trans (hb.mono hbel.size)
  clear hb
  go_wp2_with fail
  refine (specAccumulateAll xRB t3A t3C xRZ t5A t5C xListZ v4 ot3.rd zxR bxR ot5.rd zxList).mono ?_
  rintro e v5 ⟨w0A, w0C, w1A, w1C, rfl, ow0, ow1, hb⟩
  have s7 : Hid (v4.heap.size ≤ v5.heap.size) := Lib.hid hb.size
  replace cxR0 := kept hb cxR0
  replace cxR1 := kept hb cxR1
  replace ot3 := ot3.below hb
  replace ot5 := ot5.below hb
  replace hbel := hbel.trans (hb.mono hbel.size)
  clear hb
  clear ot3
  clear ot5
  have ha8 : Below v5.heap.size v5 (v5.alloc (.cells #[.int .i64 (accR xRB xRZ xListZ).1, .slice w0A (accR xRB xRZ xListZ).2.1.length w0C] 24)) := (Below.refl _ _).alloc (by simp <;> omega) _
  replace cxR0 := kept ha8 cxR0
  replace cxR1 := kept ha8 cxR1
  replace ow0 := ow0.below ha8
  replace ow1 := ow1.below ha8
  replace hbel := hbel.trans (ha8.mono hbel.size)
  clear ha8
  have cw00 : (v5.alloc (.cells #[.int .i64 (accR xRB xRZ xListZ).1, .slice w0A (accR xRB xRZ xListZ).2.1.length w0C] 24)).cell? ⟨v5.heap.size, 0, none⟩ = some (.int .i64 (accR xRB xRZ xListZ).1) := by go_simp
  have cw01 : (v5.alloc (.cells #[.int .i64 (accR xRB xRZ xListZ).1, .slice w0A (accR xRB xRZ xListZ).2.1.length w0C] 24)).cell? ⟨v5.heap.size, 1, none⟩ = some (.slice w0A (accR xRB xRZ xListZ).2.1.length w0C) := by go_simp
  go_wp2_with fail
  obtain ⟨v6, hu⟩ : ∃ u, u = (v5.alloc (.cells #[.int .i64 (accR xRB xRZ xListZ).1, .slice w0A (accR xRB xRZ xListZ).2.1.length w0C] 24)) := ⟨_, rfl⟩
  have s10 : Hid (v5.heap.size + 1 ≤ v6.heap.size) := Lib.hid (by rw [hu]; simp)
  rw [← hu] at cxR0 cxR1 cw00 cw01 ow0 ow1 hbel ⊢
  clear hu
  refine (toRegister_any xRB xRA xRC xRZ v6 (hxR.below hbel)).mono ?_
  rintro e v7 ⟨t9A, t9C, rfl, ot9, hb⟩
  have s11 : Hid (v6.heap.size ≤ v7.heap.size) := Lib.hid hb.size
  replace cxR0 := kept hb cxR0
  replace cxR1 := kept hb cxR1
  replace cw00 := kept hb cw00
  replace cw01 := kept hb cw01
  replace ow0 := ow0.below hb
  replace ow1 := ow1.below hb
  replace hbel := hbel.trans (hb.mono hbel.size)
  clear hb
  have ha12 : Below v7.heap.size v7 (v7.alloc (.cells #[.int .i64 xRB, .slice t9A xRZ.length t9C] 24)) := (Below.refl _ _).alloc (by simp <;> omega) _
  replace cxR0 := kept ha12 cxR0
  replace cxR1 := kept ha12 cxR1
  replace cw00 := kept ha12 cw00
  replace cw01 := kept ha12 cw01
  replace ow0 := ow0.below ha12
  replace ow1 := ow1.below ha12
  replace ot9 := ot9.below ha12
  replace hbel := hbel.trans (ha12.mono hbel.size)
  clear ha12
  have cx00 : (v7.alloc (.cells #[.int .i64 xRB, .slice t9A xRZ.length t9C] 24)).cell? ⟨v7.heap.size, 0, none⟩ = some (.int .i64 xRB) := by go_simp
  have cx01 : (v7.alloc (.cells #[.int .i64 xRB, .slice t9A xRZ.length t9C] 24)).cell? ⟨v7.heap.size, 1, none⟩ = some (.slice t9A xRZ.length t9C) := by go_simp
  go_wp2_with fail
  obtain ⟨v8, hu⟩ : ∃ u, u = (v7.alloc (.cells #[.int .i64 xRB, .slice t9A xRZ.length t9C] 24)) := ⟨_, rfl⟩
  have s14 : Hid (v7.heap.size + 1 ≤ v8.heap.size) := Lib.hid (by rw [hu]; simp)
  rw [← hu] at cxR0 cxR1 cw00 cw01 cx00 cx01 ow0 ow1 ot9 hbel ⊢
  clear hu
  refine (toInt64S_any xListA xListC xListZ v8 (hxList.below hbel)).mono ?_
  rintro e v9 ⟨t13A, t13C, rfl, ot13, hb⟩
  have s15 : Hid (v8.heap.size ≤ v9.heap.size) := Lib.hid hb.size
  replace cxR0 := kept hb cxR0
  replace cxR1 := kept hb cxR1
  replace cw00 := kept hb cw00
  replace cw01 := kept hb cw01
  replace cx00 := kept hb cx00
  replace cx01 := kept hb cx01
  replace ow0 := ow0.below hb
  replace ow1 := ow1.below hb
  replace ot9 := ot9.below hb
  replace hbel := hbel.trans (hb.mono hbel.size)
  clear hb
  go_wp2_with fail
  refine (implAccumulateAll xRB t9A t9C xRZ t13A t13C xListZ v9 ot9.rd zxR bxR ot13.rd zxList (door_below hD hbel)).mono ?_
  rintro e v10 ⟨g0A, g0C, g1A, g1C, g0m, rfl, og0, og1, g0m1, g0m2, hb⟩
  have s16 := Lib.hid g0m1
  have s17 := Lib.hid g0m2
  clear g0m1 g0m2
  have s18 : Hid (v9.heap.size ≤ v10.heap.size) := Lib.hid hb.size
  replace cxR0 := kept hb cxR0
  replace cxR1 := kept hb cxR1
  replace cw00 := kept hb cw00
  replace cw01 := kept hb cw01
  replace cx00 := kept hb cx00
  replace cx01 := kept hb cx01
  replace ow0 := ow0.below hb
  replace ow1 := ow1.below hb
  replace ot9 := ot9.below hb
  replace ot13 := ot13.below hb
  replace hbel := hbel.trans (hb.mono hbel.size)
  clear hb
  have ha19 : Below v10.heap.size v10 (v10.alloc (.cells #[.int .i64 (accR xRB xRZ xListZ).1, .slice g0A (accR xRB xRZ xListZ).2.1.length g0C] 24)) := (Below.refl _ _).alloc (by simp <;> omega) _
  replace cxR0 := kept ha19 cxR0
  replace cxR1 := kept ha19 cxR1
  replace cw00 := kept ha19 cw00
  replace cw01 := kept ha19 cw01
  replace cx00 := kept ha19 cx00
  replace cx01 := kept ha19 cx01
  replace ow0 := ow0.below ha19
  replace ow1 := ow1.below ha19
  replace ot9 := ot9.below ha19
  replace ot13 := ot13.below ha19
  replace og1 := og1.below ha19
  replace og0 := og0.below ha19
  replace hbel := hbel.trans (ha19.mono hbel.size)
  clear ha19
  have cg00 : (v10.alloc (.cells #[.int .i64 (accR xRB xRZ xListZ).1, .slice g0A (accR xRB xRZ xListZ).2.1.length g0C] 24)).cell? ⟨v10.heap.size, 0, none⟩ = some (.int .i64 (accR xRB xRZ xListZ).1) := by go_simp
  have cg01 : (v10.alloc (.cells #[.int .i64 (accR xRB xRZ xListZ).1, .slice g0A (accR xRB xRZ xListZ).2.1.length g0C] 24)).cell? ⟨v10.heap.size, 1, none⟩ = some (.slice g0A (accR xRB xRZ xListZ).2.1.length g0C) := by go_simp
  have q20 : regEqB (accR xRB xRZ xListZ).1 (accR xRB xRZ xListZ).1 (accR xRB xRZ xListZ).2.1 (accR xRB xRZ xListZ).2.1 = true := regEqB_self _ _
  go_wp2_with fail
  obtain ⟨v11, hu⟩ : ∃ u, u = (v10.alloc (.cells #[.int .i64 (accR xRB xRZ xListZ).1, .slice g0A (accR xRB xRZ xListZ).2.1.length g0C] 24)) := ⟨_, rfl⟩
  have s21 : Hid (v10.heap.size + 1 ≤ v11.heap.size) := Lib.hid (by rw [hu]; simp)
  rw [← hu] at cxR0 cxR1 cw00 cw01 cx00 cx01 cg00 cg01 ow0 ow1 ot9 ot13 og1 og0 hbel ⊢
  clear hu
  refine (eqRegister_any (accR xRB xRZ xListZ).1 (accR xRB xRZ xListZ).1 g0A w0A g0C w0C (accR xRB xRZ xListZ).2.1 (accR xRB xRZ xListZ).2.1 v11 og0.rd ow0.rd).mono ?_
  rintro e v12 ⟨rfl, hb⟩
  have s22 : Hid (v11.heap.size ≤ v12.heap.size) := Lib.hid hb.size
  replace cxR0 := kept hb cxR0
  replace cxR1 := kept hb cxR1
  replace cw00 := kept hb cw00
  replace cw01 := kept hb cw01
  replace cx00 := kept hb cx00
  replace cx01 := kept hb cx01
  replace cg00 := kept hb cg00
  replace cg01 := kept hb cg01
  replace ow0 := ow0.below hb
  replace ow1 := ow1.below hb
  replace ot9 := ot9.below hb
  replace ot13 := ot13.below hb
  replace og1 := og1.below hb
  replace og0 := og0.below hb
  replace hbel := hbel.trans (hb.mono hbel.size)
  clear hb
  have q23 : decide ((accR xRB xRZ xListZ).2.2.1 = (accR xRB xRZ xListZ).2.2.1) = true := decide_eq_true rfl
  go_wp2_with fail
  refine (eqInt64S_any g1A w1A g1C w1C (accR xRB xRZ xListZ).2.2.1 (accR xRB xRZ xListZ).2.2.1 v12 og1.rd ow1.rd).mono ?_
  rintro e v13 ⟨rfl, n, hn⟩
  have hb : Below v12.heap.size v12 v13 := by rw [hn]; exact bel_drewN (Below.refl _ _) n
  clear hn
  have s24 : Hid (v12.heap.size ≤ v13.heap.size) := Lib.hid hb.size
  replace cxR0 := kept hb cxR0
  replace cxR1 := kept hb cxR1
  replace cw00 := kept hb cw00
  replace cw01 := kept hb cw01
  replace cx00 := kept hb cx00
  replace cx01 := kept hb cx01
  replace cg00 := kept hb cg00
  replace cg01 := kept hb cg01
  replace ow0 := ow0.below hb
  replace ow1 := ow1.below hb
  replace ot9 := ot9.below hb
  replace ot13 := ot13.below hb
  replace og1 := og1.below hb
  replace og0 := og0.below hb
  replace hbel := hbel.trans (hb.mono hbel.size)
  clear hb
  have q25 : regEqB xRB xRB xRZ xRZ = true := regEqB_self _ _
  go_wp2_with fail
  have rcxR0 := kept_all cxR0
  have rcxR1 := kept_all cxR1
  have rcw00 := kept_all cw00
  have rcw01 := kept_all cw01
  have rcx00 := kept_all cx00
  have rcx01 := kept_all cx01
  have rcg00 := kept_all cg00
  have rcg01 := kept_all cg01
  go_region_held3 (fun w' => Below v13.heap.size v13 w') (first | exact hk | exact (Below.refl _ _).drew | exact hk.alloc hk.size _ | exact (hk.alloc hk.size _).setCell hk.size _)
    (first | (go_at_call 21; have qB := ‹Below v13.heap.size v13 _›; ((with_reducible refine (toRegister_any xRB xRA xRC xRZ _ (hxR.below (hbel.trans (qB.mono hbel.size)))).mono ?_)); rintro e v15 ⟨t26A, t26C, rfl, ot26, hb⟩; have hk := qB.trans (hb.mono qB.size)) | (go_at_call 16; have qB := ‹Below v13.heap.size v13 _›; refine (eqRegister_any xRB xRB t9A t26A t9C t26C xRZ xRZ _ (ot9.below qB).rd (by first | exact ot26.rd | exact (ot26.alloc _).rd)).mono ?_; rintro e v14 ⟨rfl, hb⟩; have hk := qB.trans (hb.mono qB.size)))
  have hb : Below v13.heap.size v13 v14 := by assumption
  clear rcxR0 rcxR1 rcw00 rcw01 rcx00 rcx01 rcg00 rcg01
  clear ot26
  have s27 : Hid (v13.heap.size ≤ v14.heap.size) := Lib.hid hb.size
  replace cxR0 := kept hb cxR0
  replace cxR1 := kept hb cxR1
  replace cw00 := kept hb cw00
  replace cw01 := kept hb cw01
  replace cx00 := kept hb cx00
  replace cx01 := kept hb cx01
  replace cg00 := kept hb cg00
  replace cg01 := kept hb cg01
  replace ow0 := ow0.below hb
  replace ow1 := ow1.below hb
  replace ot9 := ot9.below hb
  replace ot13 := ot13.below hb
  replace og1 := og1.below hb
  replace og0 := og0.below hb
  replace hbel := hbel.trans (hb.mono hbel.size)
  clear hb
  have q28 : decide (xListZ = xListZ) = true := decide_eq_true rfl
  go_wp2_with fail
  refine (toInt64S_any xListA xListC xListZ v14 (hxList.below hbel)).mono ?_
  rintro e v16 ⟨t29A, t29C, rfl, ot29, hb⟩
  have s30 : Hid (v14.heap.size ≤ v16.heap.size) := Lib.hid hb.size
  replace cxR0 := kept hb cxR0
  replace cxR1 := kept hb cxR1
  replace cw00 := kept hb cw00
  replace cw01 := kept hb cw01
  replace cx00 := kept hb cx00
  replace cx01 := kept hb cx01
  replace cg00 := kept hb cg00
  replace cg01 := kept hb cg01
  replace ow0 := ow0.below hb
  replace ow1 := ow1.below hb
  replace ot9 := ot9.below hb
  replace ot13 := ot13.below hb
  replace og1 := og1.below hb
  replace og0 := og0.below hb
  replace hbel := hbel.trans (hb.mono hbel.size)
  clear hb
  go_wp2_with fail
  refine (eqInt64S_any t13A t29A t13C t29C xListZ xListZ v16 ot13.rd ot29.rd).mono ?_
  rintro e v17 ⟨rfl, n, hn⟩
  have hb : Below v16.heap.size v16 v17 := by rw [hn]; exact bel_drewN (Below.refl _ _) n
  clear hn
  have s31 : Hid (v16.heap.size ≤ v17.heap.size) := Lib.hid hb.size
  replace cxR0 := kept hb cxR0
  replace cxR1 := kept hb cxR1
  replace cw00 := kept hb cw00
  replace cw01 := kept hb cw01
  replace cx00 := kept hb cx00
  replace cx01 := kept hb cx01
  replace cg00 := kept hb cg00
  replace cg01 := kept hb cg01
  replace ow0 := ow0.below hb
  replace ow1 := ow1.below hb
  replace ot9 := ot9.below hb
  replace ot13 := ot13.below hb
  replace og1 := og1.below hb
  replace og0 := og0.below hb
  replace ot29 := ot29.below hb
  replace hbel := hbel.trans (hb.mono hbel.size)
  clear hb
  clear ot29
  go_wp2_with fail
  refine (markRegister_any _ _ _ xRB t9A t9C 1 xRZ v17 ot9 (by have := ow0.len; have := ow1.len; have := ot9.len; have := ot13.len; have := og1.len; have := og0.len; have := hxR.len; have := hxList.len; omega) (by have := ow0.len; have := ow1.len; have := ot9.len; have := ot13.len; have := og1.len; have := og0.len; have := hxR.len; have := hxList.len; omega)).mono ?_
  rintro e v18 ⟨rfl, om, ht⟩
  have s32 : Hid (v17.heap.size ≤ v18.heap.size) := Lib.hid ht.size
  clear ot9
  have ot9 := om
  clear om
  replace cxR0 := keptT ht cxR0 (by have := s1.out; have := s2.out; have := s4.out; have := s6.out; have := s7.out; have := s10.out; have := s11.out; have := s14.out; have := s15.out; have := s16.out; have := s17.out; have := s18.out; have := s21.out; have := s22.out; have := s24.out; have := s27.out; have := s30.out; have := s31.out; have := s32.out; omega)
  replace cxR1 := keptT ht cxR1 (by have := s1.out; have := s2.out; have := s4.out; have := s6.out; have := s7.out; have := s10.out; have := s11.out; have := s14.out; have := s15.out; have := s16.out; have := s17.out; have := s18.out; have := s21.out; have := s22.out; have := s24.out; have := s27.out; have := s30.out; have := s31.out; have := s32.out; omega)
  replace cw00 := keptT ht cw00 (by have := s1.out; have := s2.out; have := s4.out; have := s6.out; have := s7.out; have := s10.out; have := s11.out; have := s14.out; have := s15.out; have := s16.out; have := s17.out; have := s18.out; have := s21.out; have := s22.out; have := s24.out; have := s27.out; have := s30.out; have := s31.out; have := s32.out; omega)
  replace cw01 := keptT ht cw01 (by have := s1.out; have := s2.out; have := s4.out; have := s6.out; have := s7.out; have := s10.out; have := s11.out; have := s14.out; have := s15.out; have := s16.out; have := s17.out; have := s18.out; have := s21.out; have := s22.out; have := s24.out; have := s27.out; have := s30.out; have := s31.out; have := s32.out; omega)
  replace cx00 := keptT ht cx00 (by have := s1.out; have := s2.out; have := s4.out; have := s6.out; have := s7.out; have := s10.out; have := s11.out; have := s14.out; have := s15.out; have := s16.out; have := s17.out; have := s18.out; have := s21.out; have := s22.out; have := s24.out; have := s27.out; have := s30.out; have := s31.out; have := s32.out; omega)
  replace cx01 := keptT ht cx01 (by have := s1.out; have := s2.out; have := s4.out; have := s6.out; have := s7.out; have := s10.out; have := s11.out; have := s14.out; have := s15.out; have := s16.out; have := s17.out; have := s18.out; have := s21.out; have := s22.out; have := s24.out; have := s27.out; have := s30.out; have := s31.out; have := s32.out; omega)
  replace cg00 := keptT ht cg00 (by have := s1.out; have := s2.out; have := s4.out; have := s6.out; have := s7.out; have := s10.out; have := s11.out; have := s14.out; have := s15.out; have := s16.out; have := s17.out; have := s18.out; have := s21.out; have := s22.out; have := s24.out; have := s27.out; have := s30.out; have := s31.out; have := s32.out; omega)
  replace cg01 := keptT ht cg01 (by have := s1.out; have := s2.out; have := s4.out; have := s6.out; have := s7.out; have := s10.out; have := s11.out; have := s14.out; have := s15.out; have := s16.out; have := s17.out; have := s18.out; have := s21.out; have := s22.out; have := s24.out; have := s27.out; have := s30.out; have := s31.out; have := s32.out; omega)
  replace ow0 := ow0.touch ht (by have := s1.out; have := s2.out; have := s4.out; have := s6.out; have := s7.out; have := s10.out; have := s11.out; have := s14.out; have := s15.out; have := s16.out; have := s17.out; have := s18.out; have := s21.out; have := s22.out; have := s24.out; have := s27.out; have := s30.out; have := s31.out; have := s32.out; omega)
  replace ow1 := ow1.touch ht (by have := s1.out; have := s2.out; have := s4.out; have := s6.out; have := s7.out; have := s10.out; have := s11.out; have := s14.out; have := s15.out; have := s16.out; have := s17.out; have := s18.out; have := s21.out; have := s22.out; have := s24.out; have := s27.out; have := s30.out; have := s31.out; have := s32.out; omega)
  replace ot13 := ot13.touch ht (by have := s1.out; have := s2.out; have := s4.out; have := s6.out; have := s7.out; have := s10.out; have := s11.out; have := s14.out; have := s15.out; have := s16.out; have := s17.out; have := s18.out; have := s21.out; have := s22.out; have := s24.out; have := s27.out; have := s30.out; have := s31.out; have := s32.out; omega)
  replace og1 := og1.touch ht (by have := s1.out; have := s2.out; have := s4.out; have := s6.out; have := s7.out; have := s10.out; have := s11.out; have := s14.out; have := s15.out; have := s16.out; have := s17.out; have := s18.out; have := s21.out; have := s22.out; have := s24.out; have := s27.out; have := s30.out; have := s31.out; have := s32.out; omega)
  replace og0 := og0.touch ht (by have := s1.out; have := s2.out; have := s4.out; have := s6.out; have := s7.out; have := s10.out; have := s11.out; have := s14.out; have := s15.out; have := s16.out; have := s17.out; have := s18.out; have := s21.out; have := s22.out; have := s24.out; have := s27.out; have := s30.out; have := s31.out; have := s32.out; omega)
  replace hbel := hbel.trans (ht.below (by have := s1.out; have := s2.out; have := s4.out; have := s6.out; have := s7.out; have := s10.out; have := s11.out; have := s14.out; have := s15.out; have := s16.out; have := s17.out; have := s18.out; have := s21.out; have := s22.out; have := s24.out; have := s27.out; have := s30.out; have := s31.out; have := s32.out; omega) hbel.size)
  clear ht
  go_wp2_with fail
  refine (markInt64S_any _ _ _ t13A t13C (1 + (xRZ.length : Int)) xListZ v18 ot13 (by have := ow0.len; have := ow1.len; have := ot9.len; have := ot13.len; have := og1.len; have := og0.len; have := hxR.len; have := hxList.len; omega) (by have := ow0.len; have := ow1.len; have := ot9.len; have := ot13.len; have := og1.len; have := og0.len; have := hxR.len; have := hxList.len; omega)).mono ?_
  rintro e v19 ⟨rfl, om, ht⟩
  have s33 : Hid (v18.heap.size ≤ v19.heap.size) := Lib.hid ht.size
  clear ot13
  have ot13 := om
  clear om
  replace cxR0 := keptT ht cxR0 (by have := s1.out; have := s2.out; have := s4.out; have := s6.out; have := s7.out; have := s10.out; have := s11.out; have := s14.out; have := s15.out; have := s16.out; have := s17.out; have := s18.out; have := s21.out; have := s22.out; have := s24.out; have := s27.out; have := s30.out; have := s31.out; have := s32.out; have := s33.out; omega)
  replace cxR1 := keptT ht cxR1 (by have := s1.out; have := s2.out; have := s4.out; have := s6.out; have := s7.out; have := s10.out; have := s11.out; have := s14.out; have := s15.out; have := s16.out; have := s17.out; have := s18.out; have := s21.out; have := s22.out; have := s24.out; have := s27.out; have := s30.out; have := s31.out; have := s32.out; have := s33.out; omega)
  replace cw00 := keptT ht cw00 (by have := s1.out; have := s2.out; have := s4.out; have := s6.out; have := s7.out; have := s10.out; have := s11.out; have := s14.out; have := s15.out; have := s16.out; have := s17.out; have := s18.out; have := s21.out; have := s22.out; have := s24.out; have := s27.out; have := s30.out; have := s31.out; have := s32.out; have := s33.out; omega)
  replace cw01 := keptT ht cw01 (by have := s1.out; have := s2.out; have := s4.out; have := s6.out; have := s7.out; have := s10.out; have := s11.out; have := s14.out; have := s15.out; have := s16.out; have := s17.out; have := s18.out; have := s21.out; have := s22.out; have := s24.out; have := s27.out; have := s30.out; have := s31.out; have := s32.out; have := s33.out; omega)
  replace cx00 := keptT ht cx00 (by have := s1.out; have := s2.out; have := s4.out; have := s6.out; have := s7.out; have := s10.out; have := s11.out; have := s14.out; have := s15.out; have := s16.out; have := s17.out; have := s18.out; have := s21.out; have := s22.out; have := s24.out; have := s27.out; have := s30.out; have := s31.out; have := s32.out; have := s33.out; omega)
  replace cx01 := keptT ht cx01 (by have := s1.out; have := s2.out; have := s4.out; have := s6.out; have := s7.out; have := s10.out; have := s11.out; have := s14.out; have := s15.out; have := s16.out; have := s17.out; have := s18.out; have := s21.out; have := s22.out; have := s24.out; have := s27.out; have := s30.out; have := s31.out; have := s32.out; have := s33.out; omega)
  replace cg00 := keptT ht cg00 (by have := s1.out; have := s2.out; have := s4.out; have := s6.out; have := s7.out; have := s10.out; have := s11.out; have := s14.out; have := s15.out; have := s16.out; have := s17.out; have := s18.out; have := s21.out; have := s22.out; have := s24.out; have := s27.out; have := s30.out; have := s31.out; have := s32.out; have := s33.out; omega)
  replace cg01 := keptT ht cg01 (by have := s1.out; have := s2.out; have := s4.out; have := s6.out; have := s7.out; have := s10.out; have := s11.out; have := s14.out; have := s15.out; have := s16.out; have := s17.out; have := s18.out; have := s21.out; have := s22.out; have := s24.out; have := s27.out; have := s30.out; have := s31.out; have := s32.out; have := s33.out; omega)
  replace ow0 := ow0.touch ht (by have := s1.out; have := s2.out; have := s4.out; have := s6.out; have := s7.out; have := s10.out; have := s11.out; have := s14.out; have := s15.out; have := s16.out; have := s17.out; have := s18.out; have := s21.out; have := s22.out; have := s24.out; have := s27.out; have := s30.out; have := s31.out; have := s32.out; have := s33.out; omega)
  replace ow1 := ow1.touch ht (by have := s1.out; have := s2.out; have := s4.out; have := s6.out; have := s7.out; have := s10.out; have := s11.out; have := s14.out; have := s15.out; have := s16.out; have := s17.out; have := s18.out; have := s21.out; have := s22.out; have := s24.out; have := s27.out; have := s30.out; have := s31.out; have := s32.out; have := s33.out; omega)
  replace ot9 := ot9.touch ht (by have := s1.out; have := s2.out; have := s4.out; have := s6.out; have := s7.out; have := s10.out; have := s11.out; have := s14.out; have := s15.out; have := s16.out; have := s17.out; have := s18.out; have := s21.out; have := s22.out; have := s24.out; have := s27.out; have := s30.out; have := s31.out; have := s32.out; have := s33.out; omega)
  replace og1 := og1.touch ht (by have := s1.out; have := s2.out; have := s4.out; have := s6.out; have := s7.out; have := s10.out; have := s11.out; have := s14.out; have := s15.out; have := s16.out; have := s17.out; have := s18.out; have := s21.out; have := s22.out; have := s24.out; have := s27.out; have := s30.out; have := s31.out; have := s32.out; have := s33.out; omega)
  replace og0 := og0.touch ht (by have := s1.out; have := s2.out; have := s4.out; have := s6.out; have := s7.out; have := s10.out; have := s11.out; have := s14.out; have := s15.out; have := s16.out; have := s17.out; have := s18.out; have := s21.out; have := s22.out; have := s24.out; have := s27.out; have := s30.out; have := s31.out; have := s32.out; have := s33.out; omega)
  replace hbel := hbel.trans (ht.below (by have := s1.out; have := s2.out; have := s4.out; have := s6.out; have := s7.out; have := s10.out; have := s11.out; have := s14.out; have := s15.out; have := s16.out; have := s17.out; have := s18.out; have := s21.out; have := s22.out; have := s24.out; have := s27.out; have := s30.out; have := s31.out; have := s32.out; have := s33.out; omega) hbel.size)
  clear ht
  have q34 : regEqB (accR xRB xRZ xListZ).1 (accR xRB xRZ xListZ).1 (accR xRB xRZ xListZ).2.1 (accR xRB xRZ xListZ).2.1 = true := regEqB_self _ _
  go_wp2_with fail
  refine (eqRegister_any (accR xRB xRZ xListZ).1 (accR xRB xRZ xListZ).1 g0A w0A g0C w0C (accR xRB xRZ xListZ).2.1 (accR xRB xRZ xListZ).2.1 v19 og0.rd ow0.rd).mono ?_
  rintro e v20 ⟨rfl, hb⟩
  have s35 : Hid (v19.heap.size ≤ v20.heap.size) := Lib.hid hb.size
  replace cxR0 := kept hb cxR0
  replace cxR1 := kept hb cxR1
  replace cw00 := kept hb cw00
  replace cw01 := kept hb cw01
  replace cx00 := kept hb cx00
  replace cx01 := kept hb cx01
  replace cg00 := kept hb cg00
  replace cg01 := kept hb cg01
  replace ow0 := ow0.below hb
  replace ow1 := ow1.below hb
  replace ot9 := ot9.below hb
  replace ot13 := ot13.below hb
  replace og1 := og1.below hb
  replace og0 := og0.below hb
  replace hbel := hbel.trans (hb.mono hbel.size)
  clear hb
  have q36 : decide ((accR xRB xRZ xListZ).2.2.1 = (accR xRB xRZ xListZ).2.2.1) = true := decide_eq_true rfl
  go_wp2_with fail
  refine (eqInt64S_any g1A w1A g1C w1C (accR xRB xRZ xListZ).2.2.1 (accR xRB xRZ xListZ).2.2.1 v20 og1.rd ow1.rd).mono ?_
  rintro e v21 ⟨rfl, n, hn⟩
  have hb : Below v20.heap.size v20 v21 := by rw [hn]; exact bel_drewN (Below.refl _ _) n
  clear hn
  have s37 : Hid (v20.heap.size ≤ v21.heap.size) := Lib.hid hb.size
  replace cxR0 := kept hb cxR0
  replace cxR1 := kept hb cxR1
  replace cw00 := kept hb cw00
  replace cw01 := kept hb cw01
  replace cx00 := kept hb cx00
  replace cx01 := kept hb cx01
  replace cg00 := kept hb cg00
  replace cg01 := kept hb cg01
  replace ow0 := ow0.below hb
  replace ow1 := ow1.below hb
  replace ot9 := ot9.below hb
  replace ot13 := ot13.below hb
  replace og1 := og1.below hb
  replace og0 := og0.below hb
  replace hbel := hbel.trans (hb.mono hbel.size)
  clear hb
  go_wp2_with fail
  refine (markRegister_any _ _ _ (accR xRB xRZ xListZ).1 g0A g0C 1 (accR xRB xRZ xListZ).2.1 v21 og0 (by have := ow0.len; have := ow1.len; have := ot9.len; have := ot13.len; have := og1.len; have := og0.len; have := hxR.len; have := hxList.len; omega) (by have := ow0.len; have := ow1.len; have := ot9.len; have := ot13.len; have := og1.len; have := og0.len; have := hxR.len; have := hxList.len; omega)).mono ?_
  rintro e v22 ⟨rfl, om, ht⟩
  have s38 : Hid (v21.heap.size ≤ v22.heap.size) := Lib.hid ht.size
  clear og0
  have og0 := om
  clear om
  replace cxR0 := keptT ht cxR0 (by have := s1.out; have := s2.out; have := s4.out; have := s6.out; have := s7.out; have := s10.out; have := s11.out; have := s14.out; have := s15.out; have := s16.out; have := s17.out; have := s18.out; have := s21.out; have := s22.out; have := s24.out; have := s27.out; have := s30.out; have := s31.out; have := s32.out; have := s33.out; have := s35.out; have := s37.out; have := s38.out; omega)
  replace cxR1 := keptT ht cxR1 (by have := s1.out; have := s2.out; have := s4.out; have := s6.out; have := s7.out; have := s10.out; have := s11.out; have := s14.out; have := s15.out; have := s16.out; have := s17.out; have := s18.out; have := s21.out; have := s22.out; have := s24.out; have := s27.out; have := s30.out; have := s31.out; have := s32.out; have := s33.out; have := s35.out; have := s37.out; have := s38.out; omega)
  replace cw00 := keptT ht cw00 (by have := s1.out; have := s2.out; have := s4.out; have := s6.out; have := s7.out; have := s10.out; have := s11.out; have := s14.out; have := s15.out; have := s16.out; have := s17.out; have := s18.out; have := s21.out; have := s22.out; have := s24.out; have := s27.out; have := s30.out; have := s31.out; have := s32.out; have := s33.out; have := s35.out; have := s37.out; have := s38.out; omega)
  replace cw01 := keptT ht cw01 (by have := s1.out; have := s2.out; have := s4.out; have := s6.out; have := s7.out; have := s10.out; have := s11.out; have := s14.out; have := s15.out; have := s16.out; have := s17.out; have := s18.out; have := s21.out; have := s22.out; have := s24.out; have := s27.out; have := s30.out; have := s31.out; have := s32.out; have := s33.out; have := s35.out; have := s37.out; have := s38.out; omega)
  replace cx00 := keptT ht cx00 (by have := s1.out; have := s2.out; have := s4.out; have := s6.out; have := s7.out; have := s10.out; have := s11.out; have := s14.out; have := s15.out; have := s16.out; have := s17.out; have := s18.out; have := s21.out; have := s22.out; have := s24.out; have := s27.out; have := s30.out; have := s31.out; have := s32.out; have := s33.out; have := s35.out; have := s37.out; have := s38.out; omega)
  replace cx01 := keptT ht cx01 (by have := s1.out; have := s2.out; have := s4.out; have := s6.out; have := s7.out; have := s10.out; have := s11.out; have := s14.out; have := s15.out; have := s16.out; have := s17.out; have := s18.out; have := s21.out; have := s22.out; have := s24.out; have := s27.out; have := s30.out; have := s31.out; have := s32.out; have := s33.out; have := s35.out; have := s37.out; have := s38.out; omega)
  replace cg00 := keptT ht cg00 (by have := s1.out; have := s2.out; have := s4.out; have := s6.out; have := s7.out; have := s10.out; have := s11.out; have := s14.out; have := s15.out; have := s16.out; have := s17.out; have := s18.out; have := s21.out; have := s22.out; have := s24.out; have := s27.out; have := s30.out; have := s31.out; have := s32.out; have := s33.out; have := s35.out; have := s37.out; have := s38.out; omega)
  replace cg01 := keptT ht cg01 (by have := s1.out; have := s2.out; have := s4.out; have := s6.out; have := s7.out; have := s10.out; have := s11.out; have := s14.out; have := s15.out; have := s16.out; have := s17.out; have := s18.out; have := s21.out; have := s22.out; have := s24.out; have := s27.out; have := s30.out; have := s31.out; have := s32.out; have := s33.out; have := s35.out; have := s37.out; have := s38.out; omega)
  replace ow0 := ow0.touch ht (by have := s1.out; have := s2.out; have := s4.out; have := s6.out; have := s7.out; have := s10.out; have := s11.out; have := s14.out; have := s15.out; have := s16.out; have := s17.out; have := s18.out; have := s21.out; have := s22.out; have := s24.out; have := s27.out; have := s30.out; have := s31.out; have := s32.out; have := s33.out; have := s35.out; have := s37.out; have := s38.out; omega)
  replace ow1 := ow1.touch ht (by have := s1.out; have := s2.out; have := s4.out; have := s6.out; have := s7.out; have := s10.out; have := s11.out; have := s14.out; have := s15.out; have := s16.out; have := s17.out; have := s18.out; have := s21.out; have := s22.out; have := s24.out; have := s27.out; have := s30.out; have := s31.out; have := s32.out; have := s33.out; have := s35.out; have := s37.out; have := s38.out; omega)
  replace ot9 := ot9.touch ht (by have := s1.out; have := s2.out; have := s4.out; have := s6.out; have := s7.out; have := s10.out; have := s11.out; have := s14.out; have := s15.out; have := s16.out; have := s17.out; have := s18.out; have := s21.out; have := s22.out; have := s24.out; have := s27.out; have := s30.out; have := s31.out; have := s32.out; have := s33.out; have := s35.out; have := s37.out; have := s38.out; omega)
  replace ot13 := ot13.touch ht (by have := s1.out; have := s2.out; have := s4.out; have := s6.out; have := s7.out; have := s10.out; have := s11.out; have := s14.out; have := s15.out; have := s16.out; have := s17.out; have := s18.out; have := s21.out; have := s22.out; have := s24.out; have := s27.out; have := s30.out; have := s31.out; have := s32.out; have := s33.out; have := s35.out; have := s37.out; have := s38.out; omega)
  replace og1 := og1.touch ht (by have := s1.out; have := s2.out; have := s4.out; have := s6.out; have := s7.out; have := s10.out; have := s11.out; have := s14.out; have := s15.out; have := s16.out; have := s17.out; have := s18.out; have := s21.out; have := s22.out; have := s24.out; have := s27.out; have := s30.out; have := s31.out; have := s32.out; have := s33.out; have := s35.out; have := s37.out; have := s38.out; omega)
  replace hbel := hbel.trans (ht.below (by have := s1.out; have := s2.out; have := s4.out; have := s6.out; have := s7.out; have := s10.out; have := s11.out; have := s14.out; have := s15.out; have := s16.out; have := s17.out; have := s18.out; have := s21.out; have := s22.out; have := s24.out; have := s27.out; have := s30.out; have := s31.out; have := s32.out; have := s33.out; have := s35.out; have := s37.out; have := s38.out; omega) hbel.size)
  clear ht
  go_wp2_with fail
  refine (markInt64S_any _ _ _ g1A g1C (1 + ((accR xRB xRZ xListZ).2.1.length : Int)) (accR xRB xRZ xListZ).2.2.1 v22 og1 (by have := ow0.len; have := ow1.len; have := ot9.len; have := ot13.len; have := og1.len; have := og0.len; have := hxR.len; have := hxList.len; omega) (by have := ow0.len; have := ow1.len; have := ot9.len; have := ot13.len; have := og1.len; have := og0.len; have := hxR.len; have := hxList.len; omega)).mono ?_
  rintro e v23 ⟨rfl, om, ht⟩
  have s39 : Hid (v22.heap.size ≤ v23.heap.size) := Lib.hid ht.size
  clear og1
  have og1 := om
  clear om
  replace cxR0 := keptT ht cxR0 (by have := s1.out; have := s2.out; have := s4.out; have := s6.out; have := s7.out; have := s10.out; have := s11.out; have := s14.out; have := s15.out; have := s16.out; have := s17.out; have := s18.out; have := s21.out; have := s22.out; have := s24.out; have := s27.out; have := s30.out; have := s31.out; have := s32.out; have := s33.out; have := s35.out; have := s37.out; have := s38.out; have := s39.out; omega)
  replace cxR1 := keptT ht cxR1 (by have := s1.out; have := s2.out; have := s4.out; have := s6.out; have := s7.out; have := s10.out; have := s11.out; have := s14.out; have := s15.out; have := s16.out; have := s17.out; have := s18.out; have := s21.out; have := s22.out; have := s24.out; have := s27.out; have := s30.out; have := s31.out; have := s32.out; have := s33.out; have := s35.out; have := s37.out; have := s38.out; have := s39.out; omega)
  replace cw00 := keptT ht cw00 (by have := s1.out; have := s2.out; have := s4.out; have := s6.out; have := s7.out; have := s10.out; have := s11.out; have := s14.out; have := s15.out; have := s16.out; have := s17.out; have := s18.out; have := s21.out; have := s22.out; have := s24.out; have := s27.out; have := s30.out; have := s31.out; have := s32.out; have := s33.out; have := s35.out; have := s37.out; have := s38.out; have := s39.out; omega)
  replace cw01 := keptT ht cw01 (by have := s1.out; have := s2.out; have := s4.out; have := s6.out; have := s7.out; have := s10.out; have := s11.out; have := s14.out; have := s15.out; have := s16.out; have := s17.out; have := s18.out; have := s21.out; have := s22.out; have := s24.out; have := s27.out; have := s30.out; have := s31.out; have := s32.out; have := s33.out; have := s35.out; have := s37.out; have := s38.out; have := s39.out; omega)
  replace cx00 := keptT ht cx00 (by have := s1.out; have := s2.out; have := s4.out; have := s6.out; have := s7.out; have := s10.out; have := s11.out; have := s14.out; have := s15.out; have := s16.out; have := s17.out; have := s18.out; have := s21.out; have := s22.out; have := s24.out; have := s27.out; have := s30.out; have := s31.out; have := s32.out; have := s33.out; have := s35.out; have := s37.out; have := s38.out; have := s39.out; omega)
  replace cx01 := keptT ht cx01 (by have := s1.out; have := s2.out; have := s4.out; have := s6.out; have := s7.out; have := s10.out; have := s11.out; have := s14.out; have := s15.out; have := s16.out; have := s17.out; have := s18.out; have := s21.out; have := s22.out; have := s24.out; have := s27.out; have := s30.out; have := s31.out; have := s32.out; have := s33.out; have := s35.out; have := s37.out; have := s38.out; have := s39.out; omega)
  replace cg00 := keptT ht cg00 (by have := s1.out; have := s2.out; have := s4.out; have := s6.out; have := s7.out; have := s10.out; have := s11.out; have := s14.out; have := s15.out; have := s16.out; have := s17.out; have := s18.out; have := s21.out; have := s22.out; have := s24.out; have := s27.out; have := s30.out; have := s31.out; have := s32.out; have := s33.out; have := s35.out; have := s37.out; have := s38.out; have := s39.out; omega)
  replace cg01 := keptT ht cg01 (by have := s1.out; have := s2.out; have := s4.out; have := s6.out; have := s7.out; have := s10.out; have := s11.out; have := s14.out; have := s15.out; have := s16.out; have := s17.out; have := s18.out; have := s21.out; have := s22.out; have := s24.out; have := s27.out; have := s30.out; have := s31.out; have := s32.out; have := s33.out; have := s35.out; have := s37.out; have := s38.out; have := s39.out; omega)
  replace ow0 := ow0.touch ht (by have := s1.out; have := s2.out; have := s4.out; have := s6.out; have := s7.out; have := s10.out; have := s11.out; have := s14.out; have := s15.out; have := s16.out; have := s17.out; have := s18.out; have := s21.out; have := s22.out; have := s24.out; have := s27.out; have := s30.out; have := s31.out; have := s32.out; have := s33.out; have := s35.out; have := s37.out; have := s38.out; have := s39.out; omega)
  replace ow1 := ow1.touch ht (by have := s1.out; have := s2.out; have := s4.out; have := s6.out; have := s7.out; have := s10.out; have := s11.out; have := s14.out; have := s15.out; have := s16.out; have := s17.out; have := s18.out; have := s21.out; have := s22.out; have := s24.out; have := s27.out; have := s30.out; have := s31.out; have := s32.out; have := s33.out; have := s35.out; have := s37.out; have := s38.out; have := s39.out; omega)
  replace ot9 := ot9.touch ht (by have := s1.out; have := s2.out; have := s4.out; have := s6.out; have := s7.out; have := s10.out; have := s11.out; have := s14.out; have := s15.out; have := s16.out; have := s17.out; have := s18.out; have := s21.out; have := s22.out; have := s24.out; have := s27.out; have := s30.out; have := s31.out; have := s32.out; have := s33.out; have := s35.out; have := s37.out; have := s38.out; have := s39.out; omega)
  replace ot13 := ot13.touch ht (by have := s1.out; have := s2.out; have := s4.out; have := s6.out; have := s7.out; have := s10.out; have := s11.out; have := s14.out; have := s15.out; have := s16.out; have := s17.out; have := s18.out; have := s21.out; have := s22.out; have := s24.out; have := s27.out; have := s30.out; have := s31.out; have := s32.out; have := s33.out; have := s35.out; have := s37.out; have := s38.out; have := s39.out; omega)
  replace og0 := og0.touch ht (by have := s1.out; have := s2.out; have := s4.out; have := s6.out; have := s7.out; have := s10.out; have := s11.out; have := s14.out; have := s15.out; have := s16.out; have := s17.out; have := s18.out; have := s21.out; have := s22.out; have := s24.out; have := s27.out; have := s30.out; have := s31.out; have := s32.out; have := s33.out; have := s35.out; have := s37.out; have := s38.out; have := s39.out; omega)
  replace hbel := hbel.trans (ht.below (by have := s1.out; have := s2.out; have := s4.out; have := s6.out; have := s7.out; have := s10.out; have := s11.out; have := s14.out; have := s15.out; have := s16.out; have := s17.out; have := s18.out; have := s21.out; have := s22.out; have := s24.out; have := s27.out; have := s30.out; have := s31.out; have := s32.out; have := s33.out; have := s35.out; have := s37.out; have := s38.out; have := s39.out; omega) hbel.size)
  clear ht
  go_wp2_with fail
  refine (heldRegister_any (accR xRB xRZ xListZ).1 g0A g0C 1 (accR xRB xRZ xListZ).2.1.length v23 og0.rd (by have := ow0.len; have := ow1.len; have := ot9.len; have := ot13.len; have := og1.len; have := og0.len; have := hxR.len; have := hxList.len; omega) (by have := ow0.len; have := ow1.len; have := ot9.len; have := ot13.len; have := og1.len; have := og0.len; have := hxR.len; have := hxList.len; omega)).mono ?_
  rintro e v24 ⟨rfl, hb⟩
  have s40 : Hid (v23.heap.size ≤ v24.heap.size) := Lib.hid hb.size
  replace cxR0 := kept hb cxR0
  replace cxR1 := kept hb cxR1
  replace cw00 := kept hb cw00
  replace cw01 := kept hb cw01
  replace cx00 := kept hb cx00
  replace cx01 := kept hb cx01
  replace cg00 := kept hb cg00
  replace cg01 := kept hb cg01
  replace ow0 := ow0.below hb
  replace ow1 := ow1.below hb
  replace ot9 := ot9.below hb
  replace ot13 := ot13.below hb
  replace og1 := og1.below hb
  replace og0 := og0.below hb
  replace hbel := hbel.trans (hb.mono hbel.size)
  clear hb
  go_wp2_with fail
  refine (heldInt64S_any g1A g1C (1 + ((accR xRB xRZ xListZ).2.1.length : Int)) (accR xRB xRZ xListZ).2.2.1.length v24 og1.rd (by have := ow0.len; have := ow1.len; have := ot9.len; have := ot13.len; have := og1.len; have := og0.len; have := hxR.len; have := hxList.len; omega) (by have := ow0.len; have := ow1.len; have := ot9.len; have := ot13.len; have := og1.len; have := og0.len; have := hxR.len; have := hxList.len; omega)).mono ?_
  rintro e v25 ⟨rfl, hw⟩
  have hb : Below v24.heap.size v24 v25 := by rw [hw]; exact Below.refl _ _
  clear hw
  have s41 : Hid (v24.heap.size ≤ v25.heap.size) := Lib.hid hb.size
  replace cxR0 := kept hb cxR0
  replace cxR1 := kept hb cxR1
  replace cw00 := kept hb cw00
  replace cw01 := kept hb cw01
  replace cx00 := kept hb cx00
  replace cx01 := kept hb cx01
  replace cg00 := kept hb cg00
  replace cg01 := kept hb cg01
  replace ow0 := ow0.below hb
  replace ow1 := ow1.below hb
  replace ot9 := ot9.below hb
  replace ot13 := ot13.below hb
  replace og1 := og1.below hb
  replace og0 := og0.below hb
  replace hbel := hbel.trans (hb.mono hbel.size)
  clear hb
  go_wp2_with fail
  refine (toRegister_any xRB xRA xRC xRZ v25 (hxR.below hbel)).mono ?_
  rintro e v26 ⟨t42A, t42C, rfl, ot42, hb⟩
  have s43 : Hid (v25.heap.size ≤ v26.heap.size) := Lib.hid hb.size
  replace cxR0 := kept hb cxR0
  replace cxR1 := kept hb cxR1
  replace cw00 := kept hb cw00
  replace cw01 := kept hb cw01
  replace cx00 := kept hb cx00
  replace cx01 := kept hb cx01
  replace cg00 := kept hb cg00
  replace cg01 := kept hb cg01
  replace ow0 := ow0.below hb
  replace ow1 := ow1.below hb
  replace ot9 := ot9.below hb
  replace ot13 := ot13.below hb
  replace og1 := og1.below hb
  replace og0 := og0.below hb
  replace hbel := hbel.trans (hb.mono hbel.size)
  clear hb
  go_wp2_with fail
  refine (toInt64S_any xListA xListC xListZ v26 (hxList.below hbel)).mono ?_
  rintro e v27 ⟨t44A, t44C, rfl, ot44, hb⟩
  have s45 : Hid (v26.heap.size ≤ v27.heap.size) := Lib.hid hb.size
  replace cxR0 := kept hb cxR0
  replace cxR1 := kept hb cxR1
  replace cw00 := kept hb cw00
  replace cw01 := kept hb cw01
  replace cx00 := kept hb cx00
  replace cx01 := kept hb cx01
  replace cg00 := kept hb cg00
  replace cg01 := kept hb cg01
  replace ow0 := ow0.below hb
  replace ow1 := ow1.below hb
  replace ot9 := ot9.below hb
  replace ot13 := ot13.below hb
  replace og1 := og1.below hb
  replace og0 := og0.below hb
  replace ot42 := ot42.below hb
  replace hbel := hbel.trans (hb.mono hbel.size)
  clear hb
  go_wp2_with fail
  refine (implAccumulateAll xRB t42A t42C xRZ t44A t44C xListZ v27 ot42.rd zxR bxR ot44.rd zxList (door_below hD hbel)).mono ?_
  rintro e v28 ⟨h0A, h0C, h1A, h1C, h0m, rfl, oh0, oh1, h0m1, h0m2, hb⟩
  have s46 := Lib.hid h0m1
  have s47 := Lib.hid h0m2
  clear h0m1 h0m2
  have s48 : Hid (v27.heap.size ≤ v28.heap.size) := Lib.hid hb.size
  replace cxR0 := kept hb cxR0
  replace cxR1 := kept hb cxR1
  replace cw00 := kept hb cw00
  replace cw01 := kept hb cw01
  replace cx00 := kept hb cx00
  replace cx01 := kept hb cx01
  replace cg00 := kept hb cg00
  replace cg01 := kept hb cg01
  replace ow0 := ow0.below hb
  replace ow1 := ow1.below hb
  replace ot9 := ot9.below hb
  replace ot13 := ot13.below hb
  replace og1 := og1.below hb
  replace og0 := og0.below hb
  replace ot42 := ot42.below hb
  replace ot44 := ot44.below hb
  replace hbel := hbel.trans (hb.mono hbel.size)
  clear hb
  clear ot42
  clear ot44
  have ha49 : Below v28.heap.size v28 (v28.alloc (.cells #[.int .i64 (accR xRB xRZ xListZ).1, .slice h0A (accR xRB xRZ xListZ).2.1.length h0C] 24)) := (Below.refl _ _).alloc (by simp <;> omega) _
  replace cxR0 := kept ha49 cxR0
  replace cxR1 := kept ha49 cxR1
  replace cw00 := kept ha49 cw00
  replace cw01 := kept ha49 cw01
  replace cx00 := kept ha49 cx00
  replace cx01 := kept ha49 cx01
  replace cg00 := kept ha49 cg00
  replace cg01 := kept ha49 cg01
  replace ow0 := ow0.below ha49
  replace ow1 := ow1.below ha49
  replace ot9 := ot9.below ha49
  replace ot13 := ot13.below ha49
  replace og1 := og1.below ha49
  replace og0 := og0.below ha49
  replace oh1 := oh1.below ha49
  replace oh0 := oh0.below ha49
  replace hbel := hbel.trans (ha49.mono hbel.size)
  clear ha49
  have ch00 : (v28.alloc (.cells #[.int .i64 (accR xRB xRZ xListZ).1, .slice h0A (accR xRB xRZ xListZ).2.1.length h0C] 24)).cell? ⟨v28.heap.size, 0, none⟩ = some (.int .i64 (accR xRB xRZ xListZ).1) := by go_simp
  have ch01 : (v28.alloc (.cells #[.int .i64 (accR xRB xRZ xListZ).1, .slice h0A (accR xRB xRZ xListZ).2.1.length h0C] 24)).cell? ⟨v28.heap.size, 1, none⟩ = some (.slice h0A (accR xRB xRZ xListZ).2.1.length h0C) := by go_simp
  have q50 : regEqB (accR xRB xRZ xListZ).1 (accR xRB xRZ xListZ).1 (accR xRB xRZ xListZ).2.1 (accR xRB xRZ xListZ).2.1 = true := regEqB_self _ _
  go_wp2_with fail
  obtain ⟨v29, hu⟩ : ∃ u, u = (v28.alloc (.cells #[.int .i64 (accR xRB xRZ xListZ).1, .slice h0A (accR xRB xRZ xListZ).2.1.length h0C] 24)) := ⟨_, rfl⟩
  have s51 : Hid (v28.heap.size + 1 ≤ v29.heap.size) := Lib.hid (by rw [hu]; simp)
  rw [← hu] at cxR0 cxR1 cw00 cw01 cx00 cx01 cg00 cg01 ch00 ch01 ow0 ow1 ot9 ot13 og1 og0 oh1 oh0 hbel ⊢
  clear hu
  refine (eqRegister_any (accR xRB xRZ xListZ).1 (accR xRB xRZ xListZ).1 h0A w0A h0C w0C (accR xRB xRZ xListZ).2.1 (accR xRB xRZ xListZ).2.1 v29 oh0.rd ow0.rd).mono ?_
  rintro e v30 ⟨rfl, hb⟩
  have s52 : Hid (v29.heap.size ≤ v30.heap.size) := Lib.hid hb.size
  replace cxR0 := kept hb cxR0
  replace cxR1 := kept hb cxR1
  replace cw00 := kept hb cw00
  replace cw01 := kept hb cw01
  replace cx00 := kept hb cx00
  replace cx01 := kept hb cx01
  replace cg00 := kept hb cg00
  replace cg01 := kept hb cg01
  replace ch00 := kept hb ch00
  replace ch01 := kept hb ch01
  replace ow0 := ow0.below hb
  replace ow1 := ow1.below hb
  replace ot9 := ot9.below hb
  replace ot13 := ot13.below hb
  replace og1 := og1.below hb
  replace og0 := og0.below hb
  replace oh1 := oh1.below hb
  replace oh0 := oh0.below hb
  replace hbel := hbel.trans (hb.mono hbel.size)
  clear hb
  have q53 : decide ((accR xRB xRZ xListZ).2.2.1 = (accR xRB xRZ xListZ).2.2.1) = true := decide_eq_true rfl
  go_wp2_with fail
  refine (eqInt64S_any h1A w1A h1C w1C (accR xRB xRZ xListZ).2.2.1 (accR xRB xRZ xListZ).2.2.1 v30 oh1.rd ow1.rd).mono ?_
  rintro e v31 ⟨rfl, n, hn⟩
  have hb : Below v30.heap.size v30 v31 := by rw [hn]; exact bel_drewN (Below.refl _ _) n
  clear hn
  have s54 : Hid (v30.heap.size ≤ v31.heap.size) := Lib.hid hb.size
  replace cxR0 := kept hb cxR0
  replace cxR1 := kept hb cxR1
  replace cw00 := kept hb cw00
  replace cw01 := kept hb cw01
  replace cx00 := kept hb cx00
  replace cx01 := kept hb cx01
  replace cg00 := kept hb cg00
  replace cg01 := kept hb cg01
  replace ch00 := kept hb ch00
  replace ch01 := kept hb ch01
  replace ow0 := ow0.below hb
  replace ow1 := ow1.below hb
  replace ot9 := ot9.below hb
  replace ot13 := ot13.below hb
  replace og1 := og1.below hb
  replace og0 := og0.below hb
  replace oh1 := oh1.below hb
  replace oh0 := oh0.below hb
  replace hbel := hbel.trans (hb.mono hbel.size)
  clear hb
  go_wp2_with fail
  refine (heldRegister_any (accR xRB xRZ xListZ).1 g0A g0C 1 (accR xRB xRZ xListZ).2.1.length v31 og0.rd (by have := ow0.len; have := ow1.len; have := ot9.len; have := ot13.len; have := og1.len; have := og0.len; have := oh1.len; have := oh0.len; have := hxR.len; have := hxList.len; omega) (by have := ow0.len; have := ow1.len; have := ot9.len; have := ot13.len; have := og1.len; have := og0.len; have := oh1.len; have := oh0.len; have := hxR.len; have := hxList.len; omega)).mono ?_
  rintro e v32 ⟨rfl, hb⟩
  have s55 : Hid (v31.heap.size ≤ v32.heap.size) := Lib.hid hb.size
  replace cxR0 := kept hb cxR0
  replace cxR1 := kept hb cxR1
  replace cw00 := kept hb cw00
  replace cw01 := kept hb cw01
  replace cx00 := kept hb cx00
  replace cx01 := kept hb cx01
  replace cg00 := kept hb cg00
  replace cg01 := kept hb cg01
  replace ch00 := kept hb ch00
  replace ch01 := kept hb ch01
  replace ow0 := ow0.below hb
  replace ow1 := ow1.below hb
  replace ot9 := ot9.below hb
  replace ot13 := ot13.below hb
  replace og1 := og1.below hb
  replace og0 := og0.below hb
  replace oh1 := oh1.below hb
  replace oh0 := oh0.below hb
  replace hbel := hbel.trans (hb.mono hbel.size)
  clear hb
  go_wp2_with fail
  refine (heldInt64S_any g1A g1C (1 + ((accR xRB xRZ xListZ).2.1.length : Int)) (accR xRB xRZ xListZ).2.2.1.length v32 og1.rd (by have := ow0.len; have := ow1.len; have := ot9.len; have := ot13.len; have := og1.len; have := og0.len; have := oh1.len; have := oh0.len; have := hxR.len; have := hxList.len; omega) (by have := ow0.len; have := ow1.len; have := ot9.len; have := ot13.len; have := og1.len; have := og0.len; have := oh1.len; have := oh0.len; have := hxR.len; have := hxList.len; omega)).mono ?_
  rintro e v33 ⟨rfl, hw⟩
  have hb : Below v32.heap.size v32 v33 := by rw [hw]; exact Below.refl _ _
  clear hw
  have s56 : Hid (v32.heap.size ≤ v33.heap.size) := Lib.hid hb.size
  replace cxR0 := kept hb cxR0
  replace cxR1 := kept hb cxR1
  replace cw00 := kept hb cw00
  replace cw01 := kept hb cw01
  replace cx00 := kept hb cx00
  replace cx01 := kept hb cx01
  replace cg00 := kept hb cg00
  replace cg01 := kept hb cg01
  replace ch00 := kept hb ch00
  replace ch01 := kept hb ch01
  replace ow0 := ow0.below hb
  replace ow1 := ow1.below hb
  replace ot9 := ot9.below hb
  replace ot13 := ot13.below hb
  replace og1 := og1.below hb
  replace og0 := og0.below hb
  replace oh1 := oh1.below hb
  replace oh0 := oh0.below hb
  replace hbel := hbel.trans (hb.mono hbel.size)
  clear hb
  go_wp2
  go_ret
  exact ⟨rfl, hbel⟩

/-- The door's own heap meets the condition: closed facts. -/
theorem door_met (os : Os) (args : Array Value) : laidMetH Tryd.prog Rows.fnExactAccumulateAllRow.laid ((World.doorLaid Tryd.prog 400 os).forCall (fun _ _ => 0) ⟨#[], args, []⟩).memory :=
  laidMetH_of_parts3 (fuel := 8) (laidMet_of_run' 8 (by kernel_rfl) (by kernel_rfl)) (by kernel_rfl) (by kernel_rfl)

set_option maxRecDepth 100000 in
theorem lifted (os : Os) (started : os.Started) (H : Type) (enc : TypeId × Value → H) :
    ReturnsInHanded {} Tryd.checked os 7 .any (fun w args => (Rows.fnExactAccumulateAllSpec.pre enc Tryd.prog Tryd.f7 [] false w args ∧ laidMetH Tryd.prog Rows.fnExactAccumulateAllRow.laid w) ∧ sizedMet enc Tryd.prog Tryd.f7 (OpenSpec.ofChange Rows.fnExactAccumulateAllSpec) false w args)
      (Rows.fnExactAccumulateAllSpec.post enc Tryd.prog Tryd.f7 false true false false) := by
  refine returnsInHanded_of_change_and (C := Tryd.checked) (X := fun w _ => laidMetH Tryd.prog Rows.fnExactAccumulateAllRow.laid w) (fun _ _ _ hh h => h.of_heap hh) own_knob started (by kernel_rfl) Tryd.func7
    (ChangeSpec.witness_shaped (enc := enc) (C := Tryd.checked) (os := os) (X := fun w _ => laidMetH Tryd.prog Rows.fnExactAccumulateAllRow.laid w) false (World.doorLaid Tryd.prog 400 os) #[.agg #[.int .i64 0, .slice none 0 0], .slice none 0 0] 8 rfl (World.shaped_of_RefB (by kernel_rfl) (by kernel_rfl)) (by kernel_rfl) (by kernel_rfl) (by kernel_rfl) (door_met os _)) ?_
  intro W base args ds gs before hval0 hW _ _ hL _
  have hval : ∀ (j : Nat) t v, Tryd.f7.params[j]? = some t → args[j]? = some v → Value.okWide Tryd.prog W .any base t v := hval0
  have hW' := hW
  obtain ⟨p, q, hA0, hV0, rfl, hfz, hnd⟩ := hW
  have hA : DataW.TrodAll enc Tryd.prog W 0 (fun _ => true) true Tryd.f7.params.toList args.toList ds p := hA0
  have hV : DataW.TrodVars enc Tryd.prog W (fun _ => true) ["loop.example/g00930/impl.errBell"] gs q := hV0
  rw [Tryd.params7] at hA hval
  obtain ⟨v0, vs0, d0, ds0, p0, q0, hargs, rfl, rfl, h0, r0⟩ := trodAll_cons hA
  obtain ⟨v1, vs1, d1, ds1, p1, q1, rfl, rfl, rfl, h1, r1⟩ := trodAll_cons r0
  obtain ⟨rfl, rfl, rfl⟩ := trodAll_nil r1
  obtain rfl : args = #[v0, v1] := by cases args; simp_all
  have k0 := h0
  have lt0 : ∀ x ∈ p0, x.block < W.heap.size := by obtain ⟨m, hm⟩ := k0; exact DataW.trod_lt m _ _ _ hm
  obtain ⟨xRB, xRA, xRC, xRZ, rfl, hxR, bxR⟩ := open_Register (hval 0 30 v0 rfl rfl) h0
  have k1 := h1
  have lt1 : ∀ x ∈ p1, x.block < W.heap.size := by obtain ⟨m, hm⟩ := k1; exact DataW.trod_lt m _ _ _ hm
  obtain ⟨xListA, xListC, xListZ, rfl, hxList⟩ := open_Int64S (hval 1 22 v1 rfl rfl) h1
  have hD := of_laid hL
  clear hA0 hval0
  obtain ⟨gd, rfl⟩ : ∃ gd, gs = [gd] := by
    obtain ⟨_, _, _, _, d, _, h, _⟩ := trodVars_one hV
    exact ⟨d, h⟩
  refine (law_walk xRB xRA xRC xRZ xListA xListC xListZ W hxR bxR hxList hD).mono fun e W' ⟨he, bel⟩ => ?_
  subst he
  obtain ⟨q', hq'⟩ := var_stays gVar tVar (by kernel_rfl) (of_decide_eq_true (by kernel_rfl)) hV bel
  exact ⟨_, rfl, _, _, _, [], _, q', hW', trodAll_mk1 (shut_bool Tryd.underlying4 _), (trodAll_cons_mk (Below.trod laid_out (by kernel_rfl) (of_decide_eq_true (by kernel_rfl)) k0 bel lt0) (trodAll_cons_mk (Below.trod laid_out (by kernel_rfl) (of_decide_eq_true (by kernel_rfl)) k1 bel lt1) trodAll_mk0)), hq', bel.frame _, fun h => by cases h⟩

set_option maxHeartbeats 20000000 in
theorem closed : joinedFacts Tryd.prog 7 Tryd.f7 Rows.fnExactAccumulateAllSpec Rows.fnExactAccumulateAllRow = true := by
  simp only [joinedFacts, Bool.and_eq_true]
  refine ⟨⟨⟨⟨⟨⟨⟨⟨⟨⟨⟨⟨⟨⟨⟨⟨⟨⟨⟨⟨⟨⟨⟨⟨⟨⟨⟨⟨⟨⟨⟨?_, laid_out⟩, fact_maps⟩, ?_⟩, ?_⟩, ?_⟩, fact_stops⟩, ?_⟩, fact_knobs⟩, ?_⟩, ?_⟩, ?_⟩, ?_⟩, ?_⟩, ?_⟩, ?_⟩, ?_⟩, ?_⟩, ?_⟩, ?_⟩, ?_⟩, ?_⟩, fact_plain⟩, ?_⟩, fact_heard⟩, fact_enter⟩, fact_lift⟩, ?_⟩, ?_⟩, ?_⟩, ?_⟩, ?_⟩
  all_goals (as_aux_lemma => kernel_rfl)

theorem over : Rows.FnExactAccumulateAllSaid :=
  OpenClaim.holds_of_wide 7 Tryd.f7 rfl rfl rfl rfl rfl rfl rfl ⟨rfl, rfl, rfl, rfl, rfl⟩ rfl rfl rfl rfl rfl (by as_aux_lemma => kernel_rfl) Tryd.func7 closed
    (of_decide_eq_true (by as_aux_lemma => kernel_rfl)) (by unfold Func.isWrapper; first | (rw [if_pos (by decide +kernel)]; kernel_rfl) | (rw [if_neg (by decide +kernel)]; exact ⟨rfl, rfl⟩))
    (fun os started H enc _ => lifted os started H enc)

/-- The statement: the tied card. -/
theorem proved : Rows.FnExactAccumulateAllCardSaid :=
  Claim7.holds_tied_plain_at .later [] [.sentinel] true (true, "5decdcb239c0cb7ade1a9b4d3e61e8baefdaa9861a8d6b55850b5da5e95f7769") true
    over (fun _ h => by cases h) (by kernel_rfl) (fun _ h => by cases h) fnExactAccumulateAll_row_tie rfl ⟨rfl, rfl⟩ (by kernel_rfl) rfl
    (fun f fn hf hfn => by
      obtain rfl : f = 7 := Option.some.inj ((show Tryd.prog.funcNamed "loop.example/g00930/laws.FnExactAccumulateAll" = some 7 by kernel_rfl).symm.trans hf) |>.symm
      obtain rfl : fn = Tryd.f7 := (Option.some.inj (Tryd.func7.symm.trans hfn)).symm
      exact ⟨by kernel_rfl, fun j t ht => by
        rw [Tryd.params7] at ht
        have hm : t ∈ [30, 22] := by simpa using Array.mem_of_getElem? ht
        have hall : ([30, 22].all fun u => !Tryd.prog.wantsStandIn u) = true := by kernel_rfl
        exact (show Tryd.prog.wantsStandIn t = false by simpa using List.all_eq_true.1 hall t hm)⟩)
    (by kernel_rfl)
end Go.Proofs.YtiogbpnnnpodkaaDoor.lawAccumulateAll
