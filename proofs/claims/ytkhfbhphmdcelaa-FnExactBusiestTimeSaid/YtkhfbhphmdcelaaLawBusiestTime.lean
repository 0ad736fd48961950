/-
  laws.FnExactBusiestTime returns true at every input (no condition), and leaves its arguments as they were.
-/
import Derived.Test.YtkhfbhphmdcelaaReg
import Derived.Test.YtkhfbhphmdcelaaBox
import Derived.Test.YtkhfbhphmdcelaaFrame
import Derived.Test.YtkhfbhphmdcelaaDrumL
import Derived.Test.YtkhfbhphmdcelaaBusyI
import Derived.Test.YtkhfbhphmdcelaaBusyS
import Derived.Deep.RegionHeld3
import Derived.Test.YtkhfbhphmdcelaaFacts
import Derived.Test.YtkhfbhphmdcelaaRows
namespace Go.Proofs.Ytkhfbhphmdcelaa.lawBusiestTime
open Go.ChangeShapes Go.WideShapes Go.ChangeAt Go.WideElems Go.RowKit Go.Joins
open Go.ChangeMaps (open_string shut_string)

set_option maxRecDepth 100000 in
set_option maxHeartbeats 4000000 in
theorem law_walk (xDK : Int) (xDB : Int) (xDT : Int) (xDF : Int) (xRB : Int) (xRA : Option Addr) (xRC : Nat) (xRZ : List Int) (w : World) (bxD : I64 xDK ∧ I64 xDB ∧ I64 xDT ∧ I64 xDF) (hxR : Raw w xRA xRZ) (bxR : I64 xRB) :
    Calls Try.prog 12 #[.agg #[.int .i64 xDK, .int .i64 xDB, .int .i64 xDT, .int .i64 xDF], .agg #[.int .i64 xRB, .slice xRA xRZ.length xRC]] w fun e w' => e = .returned (.bool true) ∧ Below w.heap.size w w' := by
  have hbel : Below w.heap.size w ((w.alloc (.cells #[.int .i64 xDK, .int .i64 xDB, .int .i64 xDT, .int .i64 xDF] 73)).alloc (.cells #[.int .i64 xRB, .slice xRA xRZ.length xRC] 88)) := ((Below.refl _ _).alloc (by simp) _).alloc (by simp) _
  have cxD0 : ((w.alloc (.cells #[.int .i64 xDK, .int .i64 xDB, .int .i64 xDT, .int .i64 xDF] 73)).alloc (.cells #[.int .i64 xRB, .slice xRA xRZ.length xRC] 88)).cell? ⟨w.heap.size, 0, none⟩ = some (.int .i64 xDK) := by go_simp
  have cxD1 : ((w.alloc (.cells #[.int .i64 xDK, .int .i64 xDB, .int .i64 xDT, .int .i64 xDF] 73)).alloc (.cells #[.int .i64 xRB, .slice xRA xRZ.length xRC] 88)).cell? ⟨w.heap.size, 1, none⟩ = some (.int .i64 xDB) := by go_simp
  have cxD2 : ((w.alloc (.cells #[.int .i64 xDK, .int .i64 xDB, .int .i64 xDT, .int .i64 xDF] 73)).alloc (.cells #[.int .i64 xRB, .slice xRA xRZ.length xRC] 88)).cell? ⟨w.heap.size, 2, none⟩ = some (.int .i64 xDT) := by go_simp
  have cxD3 : ((w.alloc (.cells #[.int .i64 xDK, .int .i64 xDB, .int .i64 xDT, .int .i64 xDF] 73)).alloc (.cells #[.int .i64 xRB, .slice xRA xRZ.length xRC] 88)).cell? ⟨w.heap.size, 3, none⟩ = some (.int .i64 xDF) := by go_simp
  have cxR0 : ((w.alloc (.cells #[.int .i64 xDK, .int .i64 xDB, .int .i64 xDT, .int .i64 xDF] 73)).alloc (.cells #[.int .i64 xRB, .slice xRA xRZ.length xRC] 88)).cell? ⟨w.heap.size + 1, 0, none⟩ = some (.int .i64 xRB) := by go_simp
  have cxR1 : ((w.alloc (.cells #[.int .i64 xDK, .int .i64 xDB, .int .i64 xDT, .int .i64 xDF] 73)).alloc (.cells #[.int .i64 xRB, .slice xRA xRZ.length xRC] 88)).cell? ⟨w.heap.size + 1, 1, none⟩ = some (.slice xRA xRZ.length xRC) := by go_simp
  go_enter Try.func12, Try.ntmps12
  go_wp2_with fail
  obtain ⟨v1, hu⟩ : ∃ u, u = ((w.alloc (.cells #[.int .i64 xDK, .int .i64 xDB, .int .i64 xDT, .int .i64 xDF] 73)).alloc (.cells #[.int .i64 xRB, .slice xRA xRZ.length xRC] 88)) := ⟨_, rfl⟩
  have s1 : Hid (w.heap.size + 2 ≤ v1.heap.size) := Lib.hid (by rw [hu]; simp)
  rw [← hu] at cxD0 cxD1 cxD2 cxD3 cxR0 cxR1 hbel ⊢
  clear hu
  rcases Int.lt_or_le (leftOf xRZ.length 1048576) 0 with k1 | k1
  · refine (szRegister_any xRB xRA xRZ.length xRC 1048576 v1 hxR.len (by omega) (by omega)).mono ?_
    rintro e v2 ⟨rfl, hb⟩
    go_wp2
    go_ret
    exact ⟨rfl, hbel.trans (hb.mono hbel.size)⟩
  have m1 := leftOf_le xRZ.length 1048576 (by omega)
  refine (szRegister_any xRB xRA xRZ.length xRC 1048576 v1 hxR.len (by omega) (by omega)).mono ?_
  rintro e v2 ⟨rfl, hb⟩
  have s2 : Hid (v1.heap.size ≤ v2.heap.size) := Lib.hid hb.size
  replace cxD0 := kept hb cxD0
  replace cxD1 := kept hb cxD1
  replace cxD2 := kept hb cxD2
  replace cxD3 := kept hb cxD3
  replace cxR0 := kept hb cxR0
  replace cxR1 := kept hb cxR1
  replace hbel := hbel.trans (hb.mono hbel.size)
  clear hb
  have zxR := hxR.wf
  replace hxR := hxR.rd (by have := leftOf_len k1; omega)
  go_wp2_with fail
  have rcxD0 := kept_all cxD0
  have rcxD1 := kept_all cxD1
  have rcxD2 := kept_all cxD2
  have rcxD3 := kept_all cxD3
  have rcxR0 := kept_all cxR0
  have rcxR1 := kept_all cxR1
  go_region_held3 (fun w' => Below v2.heap.size v2 w') (first | exact hk | exact (Below.refl _ _).drew | exact hk.alloc hk.size _ | exact (hk.alloc hk.size _).setCell hk.size _)
    (first | (go_at_call 60; have qB := ‹Below v2.heap.size v2 _›; ((with_reducible refine (toDrum_any xDK xDB xDT xDF _).mono ?_)); rintro e v4 ⟨rfl, hb⟩; have hk := qB.trans (hb.mono qB.size)) | (go_at_call 75; have qB := ‹Below v2.heap.size v2 _›; ((with_reducible refine (toRegister_any xRB xRA xRC xRZ _ (hxR.below (hbel.trans (qB.mono hbel.size)))).mono ?_)); rintro e v5 ⟨t4A, t4C, rfl, ot4, hb⟩; have hk := qB.trans (hb.mono qB.size)) | (go_at_call 57; have qB := ‹Below v2.heap.size v2 _›; refine (specBusiestTime xDK xDB xDT xDF xRB t4A t4C xRZ _ bxD (by first | exact ot4.rd | exact (ot4.alloc _).rd) zxR bxR).mono ?_; rintro e v3 ⟨rfl, hb⟩; have hk := qB.trans (hb.mono qB.size)))
  have hb : Below v2.heap.size v2 v3 := by assumption
  clear rcxD0 rcxD1 rcxD2 rcxD3 rcxR0 rcxR1
  clear ot4
  have s5 : Hid (v2.heap.size ≤ v3.heap.size) := Lib.hid hb.size
  replace cxD0 := kept hb cxD0
  replace cxD1 := kept hb cxD1
  replace cxD2 := kept hb cxD2
  replace cxD3 := kept hb cxD3
  replace cxR0 := kept hb cxR0
  replace cxR1 := kept hb cxR1
  replace hbel := hbel.trans (hb.mono hbel.size)
  clear hb
  go_wp2_with fail
  refine (toRegister_any xRB xRA xRC xRZ v3 (hxR.below hbel)).mono ?_
  rintro e v6 ⟨t6A, t6C, rfl, ot6, hb⟩
  have s7 : Hid (v3.heap.size ≤ v6.heap.size) := Lib.hid hb.size
  replace cxD0 := kept hb cxD0
  replace cxD1 := kept hb cxD1
  replace cxD2 := kept hb cxD2
  replace cxD3 := kept hb cxD3
  replace cxR0 := kept hb cxR0
  replace cxR1 := kept hb cxR1
  replace hbel := hbel.trans (hb.mono hbel.size)
  clear hb
  have ha8 : Below v6.heap.size v6 (v6.alloc (.cells #[.int .i64 xRB, .slice t6A xRZ.length t6C] 60)) := (Below.refl _ _).alloc (by simp) _
  replace cxD0 := kept ha8 cxD0
  replace cxD1 := kept ha8 cxD1
  replace cxD2 := kept ha8 cxD2
  replace cxD3 := kept ha8 cxD3
  replace cxR0 := kept ha8 cxR0
  replace cxR1 := kept ha8 cxR1
  replace ot6 := ot6.below ha8
  replace hbel := hbel.trans (ha8.mono hbel.size)
  clear ha8
  have cx10 : (v6.alloc (.cells #[.int .i64 xRB, .slice t6A xRZ.length t6C] 60)).cell? ⟨v6.heap.size, 0, none⟩ = some (.int .i64 xRB) := by go_simp
  have cx11 : (v6.alloc (.cells #[.int .i64 xRB, .slice t6A xRZ.length t6C] 60)).cell? ⟨v6.heap.size, 1, none⟩ = some (.slice t6A xRZ.length t6C) := by go_simp
  go_wp2_with fail
  obtain ⟨v8, hu⟩ : ∃ u, u = (v6.alloc (.cells #[.int .i64 xRB, .slice t6A xRZ.length t6C] 60)) := ⟨_, rfl⟩
  have s9 : Hid (v6.heap.size + 1 ≤ v8.heap.size) := Lib.hid (by rw [hu]; simp)
  rw [← hu] at cxD0 cxD1 cxD2 cxD3 cxR0 cxR1 cx10 cx11 ot6 hbel ⊢
  clear hu
  have rcxD0 := kept_all cxD0
  have rcxD1 := kept_all cxD1
  have rcxD2 := kept_all cxD2
  have rcxD3 := kept_all cxD3
  have rcxR0 := kept_all cxR0
  have rcxR1 := kept_all cxR1
  have rcx10 := kept_all cx10
  have rcx11 := kept_all cx11
  go_region_held3 (fun w' => Below v8.heap.size v8 w') (first | exact hk | exact (Below.refl _ _).drew | exact hk.alloc hk.size _ | exact (hk.alloc hk.size _).setCell hk.size _)
    (first | (go_at_call 60; have qB := ‹Below v8.heap.size v8 _›; ((with_reducible refine (toDrum_any xDK xDB xDT xDF _).mono ?_)); rintro e v9 ⟨rfl, hb⟩; have hk := qB.trans (hb.mono qB.size)) | (go_at_call 56; have qB := ‹Below v8.heap.size v8 _›; refine (implBusiestTime xDK xDB xDT xDF xRB t6A t6C xRZ _ bxD (ot6.below qB).rd zxR bxR).mono ?_; rintro e v7 ⟨rfl, hb⟩; have hk := qB.trans (hb.mono qB.size)))
  have hb : Below v8.heap.size v8 v7 := by assumption
  clear rcxD0 rcxD1 rcxD2 rcxD3 rcxR0 rcxR1 rcx10 rcx11
  have s11 : Hid (v8.heap.size ≤ v7.heap.size) := Lib.hid hb.size
  replace cxD0 := kept hb cxD0
  replace cxD1 := kept hb cxD1
  replace cxD2 := kept hb cxD2
  replace cxD3 := kept hb cxD3
  replace cxR0 := kept hb cxR0
  replace cxR1 := kept hb cxR1
  replace cx10 := kept hb cx10
  replace cx11 := kept hb cx11
  replace ot6 := ot6.below hb
  replace hbel := hbel.trans (hb.mono hbel.size)
  clear hb
  have q12 : regEqB xRB xRB xRZ xRZ = true := regEqB_self _ _
  go_wp2_with fail
  have rcxD0 := kept_all cxD0
  have rcxD1 := kept_all cxD1
  have rcxD2 := kept_all cxD2
  have rcxD3 := kept_all cxD3
  have rcxR0 := kept_all cxR0
  have rcxR1 := kept_all cxR1
  have rcx10 := kept_all cx10
  have rcx11 := kept_all cx11
  go_region_held3 (fun w' => Below v7.heap.size v7 w') (first | exact hk | exact (Below.refl _ _).drew | exact hk.alloc hk.size _ | exact (hk.alloc hk.size _).setCell hk.size _)
    (first | (go_at_call 75; have qB := ‹Below v7.heap.size v7 _›; ((with_reducible refine (toRegister_any xRB xRA xRC xRZ _ (hxR.below (hbel.trans (qB.mono hbel.size)))).mono ?_)); rintro e v11 ⟨t13A, t13C, rfl, ot13, hb⟩; have hk := qB.trans (hb.mono qB.size)) | (go_at_call 76; have qB := ‹Below v7.heap.size v7 _›; refine (eqRegister_any xRB xRB t6A t13A t6C t13C xRZ xRZ _ (ot6.below qB).rd (by first | exact ot13.rd | exact (ot13.alloc _).rd)).mono ?_; rintro e v10 ⟨rfl, hb⟩; have hk := qB.trans (hb.mono qB.size)))
  have hb : Below v7.heap.size v7 v10 := by assumption
  clear rcxD0 rcxD1 rcxD2 rcxD3 rcxR0 rcxR1 rcx10 rcx11
  clear ot13
  have s14 : Hid (v7.heap.size ≤ v10.heap.size) := Lib.hid hb.size
  replace cxD0 := kept hb cxD0
  replace cxD1 := kept hb cxD1
  replace cxD2 := kept hb cxD2
  replace cxD3 := kept hb cxD3
  replace cxR0 := kept hb cxR0
  replace cxR1 := kept hb cxR1
  replace cx10 := kept hb cx10
  replace cx11 := kept hb cx11
  replace ot6 := ot6.below hb
  replace hbel := hbel.trans (hb.mono hbel.size)
  clear hb
  go_wp2
  go_ret
  exact ⟨rfl, hbel⟩

set_option maxRecDepth 100000 in
theorem lifted (os : Os) (started : os.Started) (H : Type) (enc : TypeId × Value → H) :
    ReturnsInHanded {} Try.checked os 12 .any (Rows.fnExactBusiestTimeSpec.pre6 enc Try.prog Try.f12 Rows.fnExactBusiestTimeRow.domain false) (Rows.fnExactBusiestTimeSpec.post enc Try.prog Try.f12 false true false false) := by
  refine returnsInHanded_of_change (C := Try.checked) own_knob started (by kernel_rfl) Try.func12
    (ChangeSpec.witness6 (enc := enc) (C := Try.checked) false ⟨#[], #[.agg #[.int .i64 0, .int .i64 0, .int .i64 0, .int .i64 0], .agg #[.int .i64 0, .slice none 0 0]], []⟩ 8 (by kernel_rfl) (by kernel_rfl) (by kernel_rfl) (by kernel_rfl)) ?_
  intro W base args ds gs before hval0 hW hcnd _
  have hval : ∀ (j : Nat) t v, Try.f12.params[j]? = some t → args[j]? = some v → Value.okWide Try.prog W .any base t v := hval0
  have hW' := hW
  obtain ⟨p, q, hA0, hV, rfl, hfz, hnd⟩ := hW
  have hA : DataW.TrodAll enc Try.prog W 0 (fun _ => true) true Try.f12.params.toList args.toList ds p := hA0
  rw [Try.params12] at hA hval
  obtain ⟨v0, vs0, d0, ds0, p0, q0, hargs, rfl, rfl, h0, r0⟩ := trodAll_cons hA
  obtain ⟨v1, vs1, d1, ds1, p1, q1, rfl, rfl, rfl, h1, r1⟩ := trodAll_cons r0
  obtain ⟨rfl, rfl, rfl⟩ := trodAll_nil r1
  obtain rfl : args = #[v0, v1] := by cases args; simp_all
  obtain ⟨rfl, rfl⟩ := trodVars_none hV
  have k0 := h0
  have lt0 : ∀ x ∈ p0, x.block < W.heap.size := by obtain ⟨m, hm⟩ := k0; exact DataW.trod_lt m _ _ _ hm
  obtain ⟨xDK, xDB, xDT, xDF, rfl, bxD⟩ := open_Drum (hval 0 73 v0 rfl rfl) h0
  have k1 := h1
  have lt1 : ∀ x ∈ p1, x.block < W.heap.size := by obtain ⟨m, hm⟩ := k1; exact DataW.trod_lt m _ _ _ hm
  obtain ⟨xRB, xRA, xRC, xRZ, rfl, hxR, bxR⟩ := open_Register (hval 1 88 v1 rfl rfl) h1
  clear hA0 hval0
  refine (law_walk xDK xDB xDT xDF xRB xRA xRC xRZ W bxD hxR bxR).mono fun e W' ⟨he, bel⟩ => ?_
  subst he
  exact ⟨_, rfl, _, _, _, [], _, [], hW', trodAll_mk1 (shut_bool Try.underlying4 _), (trodAll_cons_mk (Below.trod laid_out (by kernel_rfl) (of_decide_eq_true (by kernel_rfl)) k0 bel lt0) (trodAll_cons_mk (Below.trod laid_out (by kernel_rfl) (of_decide_eq_true (by kernel_rfl)) k1 bel lt1) trodAll_mk0)), rfl, bel.frame _, fun h => by cases h⟩

set_option maxHeartbeats 20000000 in
theorem closed : joinedFacts Try.prog 12 Try.f12 Rows.fnExactBusiestTimeSpec Rows.fnExactBusiestTimeRow = true := by
  simp only [joinedFacts, Bool.and_eq_true]
  refine ⟨⟨⟨⟨⟨⟨⟨⟨⟨⟨⟨⟨⟨⟨⟨⟨⟨⟨⟨⟨⟨⟨⟨⟨⟨⟨⟨⟨⟨⟨⟨?_, laid_out⟩, fact_maps⟩, ?_⟩, ?_⟩, ?_⟩, fact_stops⟩, ?_⟩, fact_knobs⟩, ?_⟩, ?_⟩, ?_⟩, ?_⟩, ?_⟩, ?_⟩, ?_⟩, ?_⟩, ?_⟩, ?_⟩, ?_⟩, ?_⟩, ?_⟩, fact_plain⟩, ?_⟩, fact_heard⟩, fact_enter⟩, fact_lift⟩, ?_⟩, ?_⟩, ?_⟩, ?_⟩, ?_⟩
  all_goals (as_aux_lemma => kernel_rfl)

theorem over : Rows.fnExactBusiestTimeRow.holds Try.pinned (OpenSpec.ofChange Rows.fnExactBusiestTimeSpec) :=
  OpenClaim.holds_of_wide 12 Try.f12 rfl rfl rfl rfl rfl rfl rfl ⟨rfl, rfl, rfl, rfl, rfl⟩ rfl rfl rfl rfl rfl (by as_aux_lemma => kernel_rfl) Try.func12 closed
    (of_decide_eq_true (by as_aux_lemma => kernel_rfl)) (by unfold Func.isWrapper; rw [if_neg (by decide +kernel)]; exact ⟨rfl, rfl⟩)
    (fun os started H enc _ => lifted os started H enc)

/-- The statement. -/
theorem proved : Rows.FnExactBusiestTimeSaid := over
end Go.Proofs.Ytkhfbhphmdcelaa.lawBusiestTime
