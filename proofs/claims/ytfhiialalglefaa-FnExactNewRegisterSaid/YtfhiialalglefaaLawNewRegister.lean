/-
  laws.FnExactNewRegister returns true at every input (no condition), and leaves its arguments as they were.
-/
import Derived.Test.YtfhiialalglefaaReg
import Derived.Test.YtfhiialalglefaaFrame
import Derived.Test.YtfhiialalglefaaNewReg
import Derived.Deep.RegionHeld3
import Derived.Test.YtfhiialalglefaaRows
namespace Go.Proofs.Ytfhiialalglefaa.lawNewRegister
open Go.ChangeShapes Go.WideShapes Go.ChangeAt Go.RowKit Go.Joins
open Go.ChangeMaps (open_string shut_string)

set_option maxRecDepth 100000 in
set_option maxHeartbeats 4000000 in
theorem law_walk (xBase : Int) (xWidth : Int) (xValue : Int) (w : World) (bxBase : I64 xBase) (bxWidth : I64 xWidth) (bxValue : I64 xValue) :
    Calls Try.prog 8 #[.int .i64 xBase, .int .i64 xWidth, .int .i64 xValue] w fun e w' => e = .returned (.bool true) ∧ Below w.heap.size w w' := by
  have hbel : Below w.heap.size w w := Below.refl _ _
  go_enter Try.func8, Try.ntmps8
  go_wp2_with fail
  refine (specNewRegister xBase xWidth xValue w bxBase bxWidth bxValue).mono ?_
  rintro e v1 ⟨w0A, w0C, rfl, ow0, hb⟩
  have s1 : Hid (w.heap.size ≤ v1.heap.size) := Lib.hid hb.size
  replace hbel := hbel.trans (hb.mono hbel.size)
  clear hb
  have ha2 : Below v1.heap.size v1 (v1.alloc (.cells #[.int .i64 (nrR xBase xWidth xValue).1, .slice w0A (nrR xBase xWidth xValue).2.1.length w0C] 26)) := (Below.refl _ _).alloc (by simp) _
  replace ow0 := ow0.below ha2
  replace hbel := hbel.trans (ha2.mono hbel.size)
  clear ha2
  have cw00 : (v1.alloc (.cells #[.int .i64 (nrR xBase xWidth xValue).1, .slice w0A (nrR xBase xWidth xValue).2.1.length w0C] 26)).cell? ⟨v1.heap.size, 0, none⟩ = some (.int .i64 (nrR xBase xWidth xValue).1) := by go_simp
  have cw01 : (v1.alloc (.cells #[.int .i64 (nrR xBase xWidth xValue).1, .slice w0A (nrR xBase xWidth xValue).2.1.length w0C] 26)).cell? ⟨v1.heap.size, 1, none⟩ = some (.slice w0A (nrR xBase xWidth xValue).2.1.length w0C) := by go_simp
  go_wp2_with fail
  obtain ⟨v2, hu⟩ : ∃ u, u = (v1.alloc (.cells #[.int .i64 (nrR xBase xWidth xValue).1, .slice w0A (nrR xBase xWidth xValue).2.1.length w0C] 26)) := ⟨_, rfl⟩
  have s3 : Hid (v1.heap.size + 1 ≤ v2.heap.size) := Lib.hid (by rw [hu]; simp)
  rw [← hu] at cw00 cw01 ow0 hbel ⊢
  clear hu
  refine (implNewRegister xBase xWidth xValue v2 bxBase bxWidth bxValue).mono ?_
  rintro e v3 ⟨g0A, g0C, rfl, og0, hb⟩
  have s4 : Hid (v2.heap.size ≤ v3.heap.size) := Lib.hid hb.size
  replace cw00 := kept hb cw00
  replace cw01 := kept hb cw01
  replace ow0 := ow0.below hb
  replace hbel := hbel.trans (hb.mono hbel.size)
  clear hb
  have ha5 : Below v3.heap.size v3 (v3.alloc (.cells #[.int .i64 (nrR xBase xWidth xValue).1, .slice g0A (nrR xBase xWidth xValue).2.1.length g0C] 26)) := (Below.refl _ _).alloc (by simp) _
  replace cw00 := kept ha5 cw00
  replace cw01 := kept ha5 cw01
  replace ow0 := ow0.below ha5
  replace og0 := og0.below ha5
  replace hbel := hbel.trans (ha5.mono hbel.size)
  clear ha5
  have cg00 : (v3.alloc (.cells #[.int .i64 (nrR xBase xWidth xValue).1, .slice g0A (nrR xBase xWidth xValue).2.1.length g0C] 26)).cell? ⟨v3.heap.size, 0, none⟩ = some (.int .i64 (nrR xBase xWidth xValue).1) := by go_simp
  have cg01 : (v3.alloc (.cells #[.int .i64 (nrR xBase xWidth xValue).1, .slice g0A (nrR xBase xWidth xValue).2.1.length g0C] 26)).cell? ⟨v3.heap.size, 1, none⟩ = some (.slice g0A (nrR xBase xWidth xValue).2.1.length g0C) := by go_simp
  have q6 : regEqB (nrR xBase xWidth xValue).1 (nrR xBase xWidth xValue).1 (nrR xBase xWidth xValue).2.1 (nrR xBase xWidth xValue).2.1 = true := regEqB_self _ _
  go_wp2_with fail
  obtain ⟨v4, hu⟩ : ∃ u, u = (v3.alloc (.cells #[.int .i64 (nrR xBase xWidth xValue).1, .slice g0A (nrR xBase xWidth xValue).2.1.length g0C] 26)) := ⟨_, rfl⟩
  have s7 : Hid (v3.heap.size + 1 ≤ v4.heap.size) := Lib.hid (by rw [hu]; simp)
  rw [← hu] at cw00 cw01 cg00 cg01 ow0 og0 hbel ⊢
  clear hu
  refine (eqRegister_any (nrR xBase xWidth xValue).1 (nrR xBase xWidth xValue).1 g0A w0A g0C w0C (nrR xBase xWidth xValue).2.1 (nrR xBase xWidth xValue).2.1 v4 og0.rd ow0.rd).mono ?_
  rintro e v5 ⟨rfl, hb⟩
  have s8 : Hid (v4.heap.size ≤ v5.heap.size) := Lib.hid hb.size
  replace cw00 := kept hb cw00
  replace cw01 := kept hb cw01
  replace cg00 := kept hb cg00
  replace cg01 := kept hb cg01
  replace ow0 := ow0.below hb
  replace og0 := og0.below hb
  replace hbel := hbel.trans (hb.mono hbel.size)
  clear hb
  go_wp2_with fail
  refine (markRegister_any _ _ _ (nrR xBase xWidth xValue).1 g0A g0C 1 (nrR xBase xWidth xValue).2.1 v5 og0 (by have := ow0.len; have := og0.len; omega) (by have := ow0.len; have := og0.len; omega)).mono ?_
  rintro e v6 ⟨rfl, om, ht⟩
  have s9 : Hid (v5.heap.size ≤ v6.heap.size) := Lib.hid ht.size
  clear og0
  have og0 := om
  clear om
  replace cw00 := keptT ht cw00 (by have := s1.out; have := s3.out; have := s4.out; have := s7.out; have := s8.out; have := s9.out; omega)
  replace cw01 := keptT ht cw01 (by have := s1.out; have := s3.out; have := s4.out; have := s7.out; have := s8.out; have := s9.out; omega)
  replace cg00 := keptT ht cg00 (by have := s1.out; have := s3.out; have := s4.out; have := s7.out; have := s8.out; have := s9.out; omega)
  replace cg01 := keptT ht cg01 (by have := s1.out; have := s3.out; have := s4.out; have := s7.out; have := s8.out; have := s9.out; omega)
  replace ow0 := ow0.touch ht (by have := s1.out; have := s3.out; have := s4.out; have := s7.out; have := s8.out; have := s9.out; omega)
  replace hbel := hbel.trans (ht.below (by have := s1.out; have := s3.out; have := s4.out; have := s7.out; have := s8.out; have := s9.out; omega) hbel.size)
  clear ht
  go_wp2_with fail
  refine (heldRegister_any (nrR xBase xWidth xValue).1 g0A g0C 1 (nrR xBase xWidth xValue).2.1.length v6 og0.rd (by have := ow0.len; have := og0.len; omega) (by have := ow0.len; have := og0.len; omega)).mono ?_
  rintro e v7 ⟨rfl, hb⟩
  have s10 : Hid (v6.heap.size ≤ v7.heap.size) := Lib.hid hb.size
  replace cw00 := kept hb cw00
  replace cw01 := kept hb cw01
  replace cg00 := kept hb cg00
  replace cg01 := kept hb cg01
  replace ow0 := ow0.below hb
  replace og0 := og0.below hb
  replace hbel := hbel.trans (hb.mono hbel.size)
  clear hb
  go_wp2_with fail
  refine (implNewRegister xBase xWidth xValue v7 bxBase bxWidth bxValue).mono ?_
  rintro e v8 ⟨h0A, h0C, rfl, oh0, hb⟩
  have s11 : Hid (v7.heap.size ≤ v8.heap.size) := Lib.hid hb.size
  replace cw00 := kept hb cw00
  replace cw01 := kept hb cw01
  replace cg00 := kept hb cg00
  replace cg01 := kept hb cg01
  replace ow0 := ow0.below hb
  replace og0 := og0.below hb
  replace hbel := hbel.trans (hb.mono hbel.size)
  clear hb
  have ha12 : Below v8.heap.size v8 (v8.alloc (.cells #[.int .i64 (nrR xBase xWidth xValue).1, .slice h0A (nrR xBase xWidth xValue).2.1.length h0C] 26)) := (Below.refl _ _).alloc (by simp) _
  replace cw00 := kept ha12 cw00
  replace cw01 := kept ha12 cw01
  replace cg00 := kept ha12 cg00
  replace cg01 := kept ha12 cg01
  replace ow0 := ow0.below ha12
  replace og0 := og0.below ha12
  replace oh0 := oh0.below ha12
  replace hbel := hbel.trans (ha12.mono hbel.size)
  clear ha12
  have ch00 : (v8.alloc (.cells #[.int .i64 (nrR xBase xWidth xValue).1, .slice h0A (nrR xBase xWidth xValue).2.1.length h0C] 26)).cell? ⟨v8.heap.size, 0, none⟩ = some (.int .i64 (nrR xBase xWidth xValue).1) := by go_simp
  have ch01 : (v8.alloc (.cells #[.int .i64 (nrR xBase xWidth xValue).1, .slice h0A (nrR xBase xWidth xValue).2.1.length h0C] 26)).cell? ⟨v8.heap.size, 1, none⟩ = some (.slice h0A (nrR xBase xWidth xValue).2.1.length h0C) := by go_simp
  have q13 : regEqB (nrR xBase xWidth xValue).1 (nrR xBase xWidth xValue).1 (nrR xBase xWidth xValue).2.1 (nrR xBase xWidth xValue).2.1 = true := regEqB_self _ _
  go_wp2_with fail
  obtain ⟨v9, hu⟩ : ∃ u, u = (v8.alloc (.cells #[.int .i64 (nrR xBase xWidth xValue).1, .slice h0A (nrR xBase xWidth xValue).2.1.length h0C] 26)) := ⟨_, rfl⟩
  have s14 : Hid (v8.heap.size + 1 ≤ v9.heap.size) := Lib.hid (by rw [hu]; simp)
  rw [← hu] at cw00 cw01 cg00 cg01 ch00 ch01 ow0 og0 oh0 hbel ⊢
  clear hu
  refine (eqRegister_any (nrR xBase xWidth xValue).1 (nrR xBase xWidth xValue).1 h0A w0A h0C w0C (nrR xBase xWidth xValue).2.1 (nrR xBase xWidth xValue).2.1 v9 oh0.rd ow0.rd).mono ?_
  rintro e v10 ⟨rfl, hb⟩
  have s15 : Hid (v9.heap.size ≤ v10.heap.size) := Lib.hid hb.size
  replace cw00 := kept hb cw00
  replace cw01 := kept hb cw01
  replace cg00 := kept hb cg00
  replace cg01 := kept hb cg01
  replace ch00 := kept hb ch00
  replace ch01 := kept hb ch01
  replace ow0 := ow0.below hb
  replace og0 := og0.below hb
  replace oh0 := oh0.below hb
  replace hbel := hbel.trans (hb.mono hbel.size)
  clear hb
  go_wp2_with fail
  refine (heldRegister_any (nrR xBase xWidth xValue).1 g0A g0C 1 (nrR xBase xWidth xValue).2.1.length v10 og0.rd (by have := ow0.len; have := og0.len; have := oh0.len; omega) (by have := ow0.len; have := og0.len; have := oh0.len; omega)).mono ?_
  rintro e v11 ⟨rfl, hb⟩
  have s16 : Hid (v10.heap.size ≤ v11.heap.size) := Lib.hid hb.size
  replace cw00 := kept hb cw00
  replace cw01 := kept hb cw01
  replace cg00 := kept hb cg00
  replace cg01 := kept hb cg01
  replace ch00 := kept hb ch00
  replace ch01 := kept hb ch01
  replace ow0 := ow0.below hb
  replace og0 := og0.below hb
  replace oh0 := oh0.below hb
  replace hbel := hbel.trans (hb.mono hbel.size)
  clear hb
  go_wp2
  go_ret
  exact ⟨rfl, hbel⟩

set_option maxRecDepth 100000 in
theorem lifted (os : Os) (started : os.Started) (H : Type) (enc : TypeId × Value → H) :
    ReturnsInHanded {} Try.checked os 8 .any (Rows.fnExactNewRegisterSpec.pre6 enc Try.prog Try.f8 Rows.fnExactNewRegisterRow.domain false) (Rows.fnExactNewRegisterSpec.post enc Try.prog Try.f8 false true false false) := by
  refine returnsInHanded_of_change (C := Try.checked) own_knob started (by kernel_rfl) Try.func8
    (ChangeSpec.witness6 (enc := enc) (C := Try.checked) false ⟨#[], #[.int .i64 0, .int .i64 0, .int .i64 0], []⟩ 8 (by kernel_rfl) (by kernel_rfl) (by kernel_rfl) (by kernel_rfl)) ?_
  intro W base args ds gs before hval0 hW hcnd _
  have hval : ∀ (j : Nat) t v, Try.f8.params[j]? = some t → args[j]? = some v → Value.okWide Try.prog W .any base t v := hval0
  have hW' := hW
  obtain ⟨p, q, hA0, hV, rfl, hfz, hnd⟩ := hW
  have hA : DataW.TrodAll enc Try.prog W 0 (fun _ => true) true Try.f8.params.toList args.toList ds p := hA0
  rw [Try.params8] at hA hval
  obtain ⟨v0, vs0, d0, ds0, p0, q0, hargs, rfl, rfl, h0, r0⟩ := trodAll_cons hA
  obtain ⟨v1, vs1, d1, ds1, p1, q1, rfl, rfl, rfl, h1, r1⟩ := trodAll_cons r0
  obtain ⟨v2, vs2, d2, ds2, p2, q2, rfl, rfl, rfl, h2, r2⟩ := trodAll_cons r1
  obtain ⟨rfl, rfl, rfl⟩ := trodAll_nil r2
  obtain rfl : args = #[v0, v1, v2] := by cases args; simp_all
  obtain ⟨rfl, rfl⟩ := trodVars_none hV
  obtain ⟨xBase, rfl, rfl, rfl, bxBase⟩ := open_int Try.underlying2 (hval 0 2 v0 rfl rfl) h0
  obtain ⟨xWidth, rfl, rfl, rfl, bxWidth⟩ := open_int Try.underlying2 (hval 1 2 v1 rfl rfl) h1
  obtain ⟨xValue, rfl, rfl, rfl, bxValue⟩ := open_int Try.underlying2 (hval 2 2 v2 rfl rfl) h2
  clear hA0 hval0
  refine (law_walk xBase xWidth xValue W bxBase bxWidth bxValue).mono fun e W' ⟨he, bel⟩ => ?_
  subst he
  exact ⟨_, rfl, _, _, _, [], _, [], hW', trodAll_mk1 (shut_bool Try.underlying4 _), (trodAll_cons_mk (shut_int Try.underlying2 bxBase) (trodAll_cons_mk (shut_int Try.underlying2 bxWidth) (trodAll_cons_mk (shut_int Try.underlying2 bxValue) trodAll_mk0))), rfl, bel.frame _, fun h => by cases h⟩

theorem over : Rows.fnExactNewRegisterRow.holds Try.pinned (OpenSpec.ofChange Rows.fnExactNewRegisterSpec) :=
  OpenClaim.holds_of_wide 8 Try.f8 rfl rfl rfl rfl rfl rfl rfl ⟨rfl, rfl, rfl, rfl, rfl⟩ rfl rfl rfl rfl rfl (by kernel_rfl) Try.func8 (by kernel_rfl)
    (of_decide_eq_true (by kernel_rfl)) (by unfold Func.isWrapper; rw [if_neg (by decide +kernel)]; exact ⟨rfl, rfl⟩)
    (fun os started H enc _ => lifted os started H enc)

/-- The statement. -/
theorem proved : Rows.FnExactNewRegisterSaid := over
end Go.Proofs.Ytfhiialalglefaa.lawNewRegister
