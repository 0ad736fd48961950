/-
  laws.FnExactStepsBetween returns true at every input (no condition), and leaves its arguments as they were.
-/
import Derived.Test.YtkhfbhphmdcelaaReg
import Derived.Test.YtkhfbhphmdcelaaBox
import Derived.Test.YtkhfbhphmdcelaaFrame
import Derived.Test.YtkhfbhphmdcelaaDrumL
import Derived.Test.YtkhfbhphmdcelaaDrumK
import Derived.Test.YtkhfbhphmdcelaaDrumT
import Derived.Test.YtkhfbhphmdcelaaFacts
import Derived.Test.YtkhfbhphmdcelaaRows
namespace Go.Proofs.Ytkhfbhphmdcelaa.lawStepsBetween
open Go.ChangeShapes Go.WideShapes Go.ChangeAt Go.WideElems Go.RowKit Go.Joins
open Go.ChangeMaps (open_string shut_string)

set_option maxRecDepth 100000 in
set_option maxHeartbeats 4000000 in
theorem law_walk (xDK : Int) (xDB : Int) (xDT : Int) (xDF : Int) (xDigit : Int) (xFrom : Int) (xTo : Int) (w : World) (bxD : I64 xDK ∧ I64 xDB ∧ I64 xDT ∧ I64 xDF) (bxDigit : I64 xDigit) (bxFrom : I64 xFrom) (bxTo : I64 xTo) :
    Calls Try.prog 9 #[.agg #[.int .i64 xDK, .int .i64 xDB, .int .i64 xDT, .int .i64 xDF], .int .i64 xDigit, .int .i64 xFrom, .int .i64 xTo] w fun e w' => e = .returned (.bool true) ∧ Below w.heap.size w w' := by
  have hbel : Below w.heap.size w (w.alloc (.cells #[.int .i64 xDK, .int .i64 xDB, .int .i64 xDT, .int .i64 xDF] 73)) := (Below.refl _ _).alloc (by simp) _
  have cxD0 : (w.alloc (.cells #[.int .i64 xDK, .int .i64 xDB, .int .i64 xDT, .int .i64 xDF] 73)).cell? ⟨w.heap.size, 0, none⟩ = some (.int .i64 xDK) := by go_simp
  have cxD1 : (w.alloc (.cells #[.int .i64 xDK, .int .i64 xDB, .int .i64 xDT, .int .i64 xDF] 73)).cell? ⟨w.heap.size, 1, none⟩ = some (.int .i64 xDB) := by go_simp
  have cxD2 : (w.alloc (.cells #[.int .i64 xDK, .int .i64 xDB, .int .i64 xDT, .int .i64 xDF] 73)).cell? ⟨w.heap.size, 2, none⟩ = some (.int .i64 xDT) := by go_simp
  have cxD3 : (w.alloc (.cells #[.int .i64 xDK, .int .i64 xDB, .int .i64 xDT, .int .i64 xDF] 73)).cell? ⟨w.heap.size, 3, none⟩ = some (.int .i64 xDF) := by go_simp
  go_enter Try.func9, Try.ntmps9
  go_wp2_with fail
  obtain ⟨v1, hu⟩ : ∃ u, u = (w.alloc (.cells #[.int .i64 xDK, .int .i64 xDB, .int .i64 xDT, .int .i64 xDF] 73)) := ⟨_, rfl⟩
  have s2 : Hid (w.heap.size + 1 ≤ v1.heap.size) := Lib.hid (by rw [hu]; simp)
  rw [← hu] at cxD0 cxD1 cxD2 cxD3 hbel ⊢
  clear hu
  refine (toDrum_any xDK xDB xDT xDF v1).mono ?_
  rintro e v2 ⟨rfl, hb⟩
  have s3 : Hid (v1.heap.size ≤ v2.heap.size) := Lib.hid hb.size
  replace cxD0 := kept hb cxD0
  replace cxD1 := kept hb cxD1
  replace cxD2 := kept hb cxD2
  replace cxD3 := kept hb cxD3
  replace hbel := hbel.trans (hb.mono hbel.size)
  clear hb
  go_wp2_with fail
  refine (specStepsBetween xDK xDB xDT xDF xDigit xFrom xTo v2 bxD bxDigit bxFrom bxTo).mono ?_
  rintro e v3 ⟨rfl, hb⟩
  have s4 : Hid (v2.heap.size ≤ v3.heap.size) := Lib.hid hb.size
  replace cxD0 := kept hb cxD0
  replace cxD1 := kept hb cxD1
  replace cxD2 := kept hb cxD2
  replace cxD3 := kept hb cxD3
  replace hbel := hbel.trans (hb.mono hbel.size)
  clear hb
  go_wp2_with fail
  refine (toDrum_any xDK xDB xDT xDF v3).mono ?_
  rintro e v4 ⟨rfl, hb⟩
  have s6 : Hid (v3.heap.size ≤ v4.heap.size) := Lib.hid hb.size
  replace cxD0 := kept hb cxD0
  replace cxD1 := kept hb cxD1
  replace cxD2 := kept hb cxD2
  replace cxD3 := kept hb cxD3
  replace hbel := hbel.trans (hb.mono hbel.size)
  clear hb
  go_wp2_with fail
  refine (implStepsBetween xDK xDB xDT xDF xDigit xFrom xTo v4 bxD bxDigit bxFrom bxTo).mono ?_
  rintro e v5 ⟨rfl, hb⟩
  have s7 : Hid (v4.heap.size ≤ v5.heap.size) := Lib.hid hb.size
  replace cxD0 := kept hb cxD0
  replace cxD1 := kept hb cxD1
  replace cxD2 := kept hb cxD2
  replace cxD3 := kept hb cxD3
  replace hbel := hbel.trans (hb.mono hbel.size)
  clear hb
  go_wp2
  go_ret
  exact ⟨rfl, hbel⟩

set_option maxRecDepth 100000 in
theorem lifted (os : Os) (started : os.Started) (H : Type) (enc : TypeId × Value → H) :
    ReturnsInHanded {} Try.checked os 9 .any (Rows.fnExactStepsBetweenSpec.pre6 enc Try.prog Try.f9 Rows.fnExactStepsBetweenRow.domain false) (Rows.fnExactStepsBetweenSpec.post enc Try.prog Try.f9 false true false false) := by
  refine returnsInHanded_of_change (C := Try.checked) own_knob started (by kernel_rfl) Try.func9
    (ChangeSpec.witness6 (enc := enc) (C := Try.checked) false ⟨#[], #[.agg #[.int .i64 0, .int .i64 0, .int .i64 0, .int .i64 0], .int .i64 0, .int .i64 0, .int .i64 0], []⟩ 8 (by kernel_rfl) (by kernel_rfl) (by kernel_rfl) (by kernel_rfl)) ?_
  intro W base args ds gs before hval0 hW hcnd _
  have hval : ∀ (j : Nat) t v, Try.f9.params[j]? = some t → args[j]? = some v → Value.okWide Try.prog W .any base t v := hval0
  have hW' := hW
  obtain ⟨p, q, hA0, hV, rfl, hfz, hnd⟩ := hW
  have hA : DataW.TrodAll enc Try.prog W 0 (fun _ => true) true Try.f9.params.toList args.toList ds p := hA0
  rw [Try.params9] at hA hval
  obtain ⟨v0, vs0, d0, ds0, p0, q0, hargs, rfl, rfl, h0, r0⟩ := trodAll_cons hA
  obtain ⟨v1, vs1, d1, ds1, p1, q1, rfl, rfl, rfl, h1, r1⟩ := trodAll_cons r0
  obtain ⟨v2, vs2, d2, ds2, p2, q2, rfl, rfl, rfl, h2, r2⟩ := trodAll_cons r1
  obtain ⟨v3, vs3, d3, ds3, p3, q3, rfl, rfl, rfl, h3, r3⟩ := trodAll_cons r2
  obtain ⟨rfl, rfl, rfl⟩ := trodAll_nil r3
  obtain rfl : args = #[v0, v1, v2, v3] := by cases args; simp_all
  obtain ⟨rfl, rfl⟩ := trodVars_none hV
  have k0 := h0
  have lt0 : ∀ x ∈ p0, x.block < W.heap.size := by obtain ⟨m, hm⟩ := k0; exact DataW.trod_lt m _ _ _ hm
  obtain ⟨xDK, xDB, xDT, xDF, rfl, bxD⟩ := open_Drum (hval 0 73 v0 rfl rfl) h0
  obtain ⟨xDigit, rfl, rfl, rfl, bxDigit⟩ := open_int Try.underlying2 (hval 1 2 v1 rfl rfl) h1
  obtain ⟨xFrom, rfl, rfl, rfl, bxFrom⟩ := open_int Try.underlying2 (hval 2 2 v2 rfl rfl) h2
  obtain ⟨xTo, rfl, rfl, rfl, bxTo⟩ := open_int Try.underlying2 (hval 3 2 v3 rfl rfl) h3
  clear hA0 hval0
  refine (law_walk xDK xDB xDT xDF xDigit xFrom xTo W bxD bxDigit bxFrom bxTo).mono fun e W' ⟨he, bel⟩ => ?_
  subst he
  exact ⟨_, rfl, _, _, _, [], _, [], hW', trodAll_mk1 (shut_bool Try.underlying4 _), (trodAll_cons_mk (Below.trod laid_out (by kernel_rfl) (of_decide_eq_true (by kernel_rfl)) k0 bel lt0) (trodAll_cons_mk (shut_int Try.underlying2 bxDigit) (trodAll_cons_mk (shut_int Try.underlying2 bxFrom) (trodAll_cons_mk (shut_int Try.underlying2 bxTo) trodAll_mk0)))), rfl, bel.frame _, fun h => by cases h⟩

set_option maxHeartbeats 20000000 in
theorem closed : joinedFacts Try.prog 9 Try.f9 Rows.fnExactStepsBetweenSpec Rows.fnExactStepsBetweenRow = true := by
  simp only [joinedFacts, Bool.and_eq_true]
  refine ⟨⟨⟨⟨⟨⟨⟨⟨⟨⟨⟨⟨⟨⟨⟨⟨⟨⟨⟨⟨⟨⟨⟨⟨⟨⟨⟨⟨⟨⟨⟨?_, laid_out⟩, fact_maps⟩, ?_⟩, ?_⟩, ?_⟩, fact_stops⟩, ?_⟩, fact_knobs⟩, ?_⟩, ?_⟩, ?_⟩, ?_⟩, ?_⟩, ?_⟩, ?_⟩, ?_⟩, ?_⟩, ?_⟩, ?_⟩, ?_⟩, ?_⟩, fact_plain⟩, ?_⟩, fact_heard⟩, fact_enter⟩, fact_lift⟩, ?_⟩, ?_⟩, ?_⟩, ?_⟩, ?_⟩
  all_goals (as_aux_lemma => kernel_rfl)

theorem over : Rows.fnExactStepsBetweenRow.holds Try.pinned (OpenSpec.ofChange Rows.fnExactStepsBetweenSpec) :=
  OpenClaim.holds_of_wide 9 Try.f9 rfl rfl rfl rfl rfl rfl rfl ⟨rfl, rfl, rfl, rfl, rfl⟩ rfl rfl rfl rfl rfl (by as_aux_lemma => kernel_rfl) Try.func9 closed
    (of_decide_eq_true (by as_aux_lemma => kernel_rfl)) (by unfold Func.isWrapper; rw [if_neg (by decide +kernel)]; exact ⟨rfl, rfl⟩)
    (fun os started H enc _ => lifted os started H enc)

/-- The statement. -/
theorem proved : Rows.FnExactStepsBetweenSaid := over
end Go.Proofs.Ytkhfbhphmdcelaa.lawStepsBetween
