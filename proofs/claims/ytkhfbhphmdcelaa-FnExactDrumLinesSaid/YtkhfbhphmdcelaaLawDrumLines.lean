/-
  laws.FnExactDrumLines returns true at every input (no condition), and leaves its arguments as they were.
-/
import Derived.Test.YtkhfbhphmdcelaaReg
import Derived.Test.YtkhfbhphmdcelaaBox
import Derived.Test.YtkhfbhphmdcelaaFrame
import Derived.Test.YtkhfbhphmdcelaaDrumL
import Derived.Test.YtkhfbhphmdcelaaLinI
import Derived.Test.YtkhfbhphmdcelaaLinS
import Derived.Test.YtkhfbhphmdcelaaStrS
import Derived.Test.YtkhfbhphmdcelaaFacts
import Derived.Test.YtkhfbhphmdcelaaRows
namespace Go.Proofs.Ytkhfbhphmdcelaa.lawDrumLines
open Go.ChangeShapes Go.WideShapes Go.ChangeAt Go.WideElems Go.RowKit Go.Joins
open Go.ChangeMaps (open_string shut_string)

set_option maxRecDepth 100000 in
set_option maxHeartbeats 20000000 in
theorem law_walk (xDK : Int) (xDB : Int) (xDT : Int) (xDF : Int) (w : World) (bxD : I64 xDK ∧ I64 xDB ∧ I64 xDT ∧ I64 xDF) :
    Calls Try.prog 14 #[.agg #[.int .i64 xDK, .int .i64 xDB, .int .i64 xDT, .int .i64 xDF]] w fun e w' => e = .returned (.bool true) ∧ Below w.heap.size w w' := by
  have hbel : Below w.heap.size w (w.alloc (.cells #[.int .i64 xDK, .int .i64 xDB, .int .i64 xDT, .int .i64 xDF] 73)) := (Below.refl _ _).alloc (by simp <;> omega) _
  have cxD0 : (w.alloc (.cells #[.int .i64 xDK, .int .i64 xDB, .int .i64 xDT, .int .i64 xDF] 73)).cell? ⟨w.heap.size, 0, none⟩ = some (.int .i64 xDK) := by go_simp
  have cxD1 : (w.alloc (.cells #[.int .i64 xDK, .int .i64 xDB, .int .i64 xDT, .int .i64 xDF] 73)).cell? ⟨w.heap.size, 1, none⟩ = some (.int .i64 xDB) := by go_simp
  have cxD2 : (w.alloc (.cells #[.int .i64 xDK, .int .i64 xDB, .int .i64 xDT, .int .i64 xDF] 73)).cell? ⟨w.heap.size, 2, none⟩ = some (.int .i64 xDT) := by go_simp
  have cxD3 : (w.alloc (.cells #[.int .i64 xDK, .int .i64 xDB, .int .i64 xDT, .int .i64 xDF] 73)).cell? ⟨w.heap.size, 3, none⟩ = some (.int .i64 xDF) := by go_simp
  go_enter Try.func14, Try.ntmps14
  go_wp2_with fail
  obtain ⟨v1, hu⟩ : ∃ u, u = (w.alloc (.cells #[.int .i64 xDK, .int .i64 xDB, .int .i64 xDT, .int .i64 xDF] 73)) := ⟨_, rfl⟩
  have s2 : Hid (w.heap.size + 1 ≤ v1.heap.size) := Lib.hid (by rw [hu]; simp)
  rw [← hu] at cxD0 cxD1 cxD2 cxD3 hbel ⊢
  clear hu
  refine (toDrum_any xDK xDB xDT xDF v1).mono ?_
  rintro e v2 ⟨rfl, hb⟩
  have s3 : Hid (v1.heap.size ≤ v2.heap.size) := Lib.hid hb.size
  replace cxD0 := kept hb cxD0
  replace cxD1 := kept hb cxD1
  replace cxD2 := kept hb cxD2
  replace cxD3 := kept hb cxD3
  replace hbel := hbel.trans (hb.mono hbel.size)
  clear hb
  go_wp2_with fail
  refine (specDrumLines xDK xDB xDT xDF v2 bxD).mono ?_
  rintro e v3 ⟨w0A, w0C, rfl, ow0, hb⟩
  have s4 : Hid (v2.heap.size ≤ v3.heap.size) := Lib.hid hb.size
  replace cxD0 := kept hb cxD0
  replace cxD1 := kept hb cxD1
  replace cxD2 := kept hb cxD2
  replace cxD3 := kept hb cxD3
  replace hbel := hbel.trans (hb.mono hbel.size)
  clear hb
  go_wp2_with fail
  refine (toDrum_any xDK xDB xDT xDF v3).mono ?_
  rintro e v4 ⟨rfl, hb⟩
  have s6 : Hid (v3.heap.size ≤ v4.heap.size) := Lib.hid hb.size
  replace cxD0 := kept hb cxD0
  replace cxD1 := kept hb cxD1
  replace cxD2 := kept hb cxD2
  replace cxD3 := kept hb cxD3
  replace ow0 := ow0.below hb
  replace hbel := hbel.trans (hb.mono hbel.size)
  clear hb
  go_wp2_with fail
  refine (implDrumLines xDK xDB xDT xDF v4 bxD).mono ?_
  rintro e v5 ⟨g0A, g0C, rfl, og0, hb⟩
  have s7 : Hid (v4.heap.size ≤ v5.heap.size) := Lib.hid hb.size
  replace cxD0 := kept hb cxD0
  replace cxD1 := kept hb cxD1
  replace cxD2 := kept hb cxD2
  replace cxD3 := kept hb cxD3
  replace ow0 := ow0.below hb
  replace hbel := hbel.trans (hb.mono hbel.size)
  clear hb
  have q8 : decide ((linesR xDK xDB xDT xDF).1 = (linesR xDK xDB xDT xDF).1) = true := decide_eq_true rfl
  go_wp2_with fail
  refine (eqStringS_any g0A w0A g0C w0C (linesR xDK xDB xDT xDF).1 (linesR xDK xDB xDT xDF).1 v5 og0.rd ow0.rd).mono ?_
  rintro e v6 ⟨rfl, hb⟩
  have s9 : Hid (v5.heap.size ≤ v6.heap.size) := Lib.hid hb.size
  replace cxD0 := kept hb cxD0
  replace cxD1 := kept hb cxD1
  replace cxD2 := kept hb cxD2
  replace cxD3 := kept hb cxD3
  replace ow0 := ow0.below hb
  replace og0 := og0.below hb
  replace hbel := hbel.trans (hb.mono hbel.size)
  clear hb
  go_wp2_with fail
  refine (markStringS_any _ _ _ g0A g0C 1 (linesR xDK xDB xDT xDF).1 v6 og0 (by have := ow0.len; have := og0.len; omega) (by have := ow0.len; have := og0.len; omega)).mono ?_
  rintro e v7 ⟨rfl, om, ht⟩
  have s10 : Hid (v6.heap.size ≤ v7.heap.size) := Lib.hid ht.size
  clear og0
  have og0 := om
  clear om
  replace cxD0 := keptT ht cxD0 (by have := s2.out; have := s3.out; have := s4.out; have := s6.out; have := s7.out; have := s9.out; have := s10.out; omega)
  replace cxD1 := keptT ht cxD1 (by have := s2.out; have := s3.out; have := s4.out; have := s6.out; have := s7.out; have := s9.out; have := s10.out; omega)
  replace cxD2 := keptT ht cxD2 (by have := s2.out; have := s3.out; have := s4.out; have := s6.out; have := s7.out; have := s9.out; have := s10.out; omega)
  replace cxD3 := keptT ht cxD3 (by have := s2.out; have := s3.out; have := s4.out; have := s6.out; have := s7.out; have := s9.out; have := s10.out; omega)
  replace ow0 := ow0.touch ht (by have := s2.out; have := s3.out; have := s4.out; have := s6.out; have := s7.out; have := s9.out; have := s10.out; omega)
  replace hbel := hbel.trans (ht.below (by have := s2.out; have := s3.out; have := s4.out; have := s6.out; have := s7.out; have := s9.out; have := s10.out; omega) hbel.size)
  clear ht
  go_wp2_with fail
  refine (heldStringS_any g0A g0C 1 (linesR xDK xDB xDT xDF).1.length v7 og0.rd (by have := ow0.len; have := og0.len; omega) (by have := ow0.len; have := og0.len; omega)).mono ?_
  rintro e v8 ⟨rfl, hb⟩
  have s11 : Hid (v7.heap.size ≤ v8.heap.size) := Lib.hid hb.size
  replace cxD0 := kept hb cxD0
  replace cxD1 := kept hb cxD1
  replace cxD2 := kept hb cxD2
  replace cxD3 := kept hb cxD3
  replace ow0 := ow0.below hb
  replace og0 := og0.below hb
  replace hbel := hbel.trans (hb.mono hbel.size)
  clear hb
  go_wp2_with fail
  refine (toDrum_any xDK xDB xDT xDF v8).mono ?_
  rintro e v9 ⟨rfl, hb⟩
  have s13 : Hid (v8.heap.size ≤ v9.heap.size) := Lib.hid hb.size
  replace cxD0 := kept hb cxD0
  replace cxD1 := kept hb cxD1
  replace cxD2 := kept hb cxD2
  replace cxD3 := kept hb cxD3
  replace ow0 := ow0.below hb
  replace og0 := og0.below hb
  replace hbel := hbel.trans (hb.mono hbel.size)
  clear hb
  go_wp2_with fail
  refine (implDrumLines xDK xDB xDT xDF v9 bxD).mono ?_
  rintro e v10 ⟨h0A, h0C, rfl, oh0, hb⟩
  have s14 : Hid (v9.heap.size ≤ v10.heap.size) := Lib.hid hb.size
  replace cxD0 := kept hb cxD0
  replace cxD1 := kept hb cxD1
  replace cxD2 := kept hb cxD2
  replace cxD3 := kept hb cxD3
  replace ow0 := ow0.below hb
  replace og0 := og0.below hb
  replace hbel := hbel.trans (hb.mono hbel.size)
  clear hb
  have q15 : decide ((linesR xDK xDB xDT xDF).1 = (linesR xDK xDB xDT xDF).1) = true := decide_eq_true rfl
  go_wp2_with fail
  refine (eqStringS_any h0A w0A h0C w0C (linesR xDK xDB xDT xDF).1 (linesR xDK xDB xDT xDF).1 v10 oh0.rd ow0.rd).mono ?_
  rintro e v11 ⟨rfl, hb⟩
  have s16 : Hid (v10.heap.size ≤ v11.heap.size) := Lib.hid hb.size
  replace cxD0 := kept hb cxD0
  replace cxD1 := kept hb cxD1
  replace cxD2 := kept hb cxD2
  replace cxD3 := kept hb cxD3
  replace ow0 := ow0.below hb
  replace og0 := og0.below hb
  replace oh0 := oh0.below hb
  replace hbel := hbel.trans (hb.mono hbel.size)
  clear hb
  go_wp2_with fail
  refine (heldStringS_any g0A g0C 1 (linesR xDK xDB xDT xDF).1.length v11 og0.rd (by have := ow0.len; have := og0.len; have := oh0.len; omega) (by have := ow0.len; have := og0.len; have := oh0.len; omega)).mono ?_
  rintro e v12 ⟨rfl, hb⟩
  have s17 : Hid (v11.heap.size ≤ v12.heap.size) := Lib.hid hb.size
  replace cxD0 := kept hb cxD0
  replace cxD1 := kept hb cxD1
  replace cxD2 := kept hb cxD2
  replace cxD3 := kept hb cxD3
  replace ow0 := ow0.below hb
  replace og0 := og0.below hb
  replace oh0 := oh0.below hb
  replace hbel := hbel.trans (hb.mono hbel.size)
  clear hb
  go_wp2
  go_ret
  exact ⟨rfl, hbel⟩

set_option maxRecDepth 100000 in
theorem lifted (os : Os) (started : os.Started) (H : Type) (enc : TypeId × Value → H) :
    ReturnsInHanded {} Try.checked os 14 .any (Rows.fnExactDrumLinesSpec.pre6 enc Try.prog Try.f14 Rows.fnExactDrumLinesRow.domain false) (Rows.fnExactDrumLinesSpec.post enc Try.prog Try.f14 false true false false) := by
  refine returnsInHanded_of_change (C := Try.checked) own_knob started (by kernel_rfl) Try.func14
    (ChangeSpec.witness6 (enc := enc) (C := Try.checked) false ⟨#[], #[.agg #[.int .i64 0, .int .i64 0, .int .i64 0, .int .i64 0]], []⟩ 8 (by kernel_rfl) (by kernel_rfl) (by kernel_rfl) (by kernel_rfl)) ?_
  intro W base args ds gs before hval0 hW hcnd _
  have hval : ∀ (j : Nat) t v, Try.f14.params[j]? = some t → args[j]? = some v → Value.okWide Try.prog W .any base t v := hval0
  have hW' := hW
  obtain ⟨p, q, hA0, hV, rfl, hfz, hnd⟩ := hW
  have hA : DataW.TrodAll enc Try.prog W 0 (fun _ => true) true Try.f14.params.toList args.toList ds p := hA0
  rw [Try.params14] at hA hval
  obtain ⟨v0, vs0, d0, ds0, p0, q0, hargs, rfl, rfl, h0, r0⟩ := trodAll_cons hA
  obtain ⟨rfl, rfl, rfl⟩ := trodAll_nil r0
  obtain rfl : args = #[v0] := by cases args; simp_all
  obtain ⟨rfl, rfl⟩ := trodVars_none hV
  have k0 := h0
  have lt0 : ∀ x ∈ p0, x.block < W.heap.size := by obtain ⟨m, hm⟩ := k0; exact DataW.trod_lt m _ _ _ hm
  obtain ⟨xDK, xDB, xDT, xDF, rfl, bxD⟩ := open_Drum (hval 0 73 v0 rfl rfl) h0
  clear hA0 hval0
  refine (law_walk xDK xDB xDT xDF W bxD).mono fun e W' ⟨he, bel⟩ => ?_
  subst he
  exact ⟨_, rfl, _, _, _, [], _, [], hW', trodAll_mk1 (shut_bool Try.underlying4 _), (trodAll_cons_mk (Below.trod laid_out (by kernel_rfl) (of_decide_eq_true (by kernel_rfl)) k0 bel lt0) trodAll_mk0), rfl, bel.frame _, fun h => by cases h⟩

set_option maxHeartbeats 20000000 in
theorem closed : joinedFacts Try.prog 14 Try.f14 Rows.fnExactDrumLinesSpec Rows.fnExactDrumLinesRow = true := by
  simp only [joinedFacts, Bool.and_eq_true]
  refine ⟨⟨⟨⟨⟨⟨⟨⟨⟨⟨⟨⟨⟨⟨⟨⟨⟨⟨⟨⟨⟨⟨⟨⟨⟨⟨⟨⟨⟨⟨⟨?_, laid_out⟩, fact_maps⟩, ?_⟩, ?_⟩, ?_⟩, fact_stops⟩, ?_⟩, fact_knobs⟩, ?_⟩, ?_⟩, ?_⟩, ?_⟩, ?_⟩, ?_⟩, ?_⟩, ?_⟩, ?_⟩, ?_⟩, ?_⟩, ?_⟩, ?_⟩, fact_plain⟩, ?_⟩, fact_heard⟩, fact_enter⟩, fact_lift⟩, ?_⟩, ?_⟩, ?_⟩, ?_⟩, ?_⟩
  all_goals (as_aux_lemma => kernel_rfl)

theorem over : Rows.fnExactDrumLinesRow.holds Try.pinned (OpenSpec.ofChange Rows.fnExactDrumLinesSpec) :=
  OpenClaim.holds_of_wide 14 Try.f14 rfl rfl rfl rfl rfl rfl rfl ⟨rfl, rfl, rfl, rfl, rfl⟩ rfl rfl rfl rfl rfl (by as_aux_lemma => kernel_rfl) Try.func14 closed
    (of_decide_eq_true (by as_aux_lemma => kernel_rfl)) (by unfold Func.isWrapper; rw [if_neg (by decide +kernel)]; exact ⟨rfl, rfl⟩)
    (fun os started H enc _ => lifted os started H enc)

/-- The statement. -/
theorem proved : Rows.FnExactDrumLinesSaid := over
end Go.Proofs.Ytkhfbhphmdcelaa.lawDrumLines
