/-
  laws.FnExactRightTable returns true at every input (no condition), and leaves its arguments as they were.
-/
import Derived.Test.YtmdngcoccekdgaaAddRowS
import Derived.Test.YtmdngcoccekdgaaFrameI
import Derived.Test.YtmdngcoccekdgaaFrameT
import Derived.Test.YtmdngcoccekdgaaRtI
import Derived.Test.YtmdngcoccekdgaaFacts
import Derived.Test.YtmdngcoccekdgaaRows
namespace Go.Proofs.Ytmdngcoccekdgaa.lawRightTable
open Go.ChangeShapes Go.WideShapes Go.ChangeAt Go.WideElems Go.RowKit Go.Joins
open Go.ChangeMaps (open_string shut_string)

set_option maxRecDepth 100000 in
set_option maxHeartbeats 4000000 in
theorem law_walk (xBase : Int) (w : World) (bxBase : I64 xBase) :
    Calls Try.prog 8 #[.int .i64 xBase] w fun e w' => e = .returned (.bool true) ∧ Below w.heap.size w w' := by
  have hbel : Below w.heap.size w w := Below.refl _ _
  go_enter Try.func8, Try.ntmps8
  go_wp2_with fail
  refine (specRightTable xBase w bxBase).mono ?_
  rintro e v1 ⟨w0A, w0C, rfl, ow0, hb⟩
  have s1 : Hid (w.heap.size ≤ v1.heap.size) := Lib.hid hb.size
  replace hbel := hbel.trans (hb.mono hbel.size)
  clear hb
  go_wp2_with fail
  refine (implRightTable xBase v1 bxBase).mono ?_
  rintro e v2 ⟨g0A, g0C, rfl, og0, hb⟩
  have s2 : Hid (v1.heap.size ≤ v2.heap.size) := Lib.hid hb.size
  replace ow0 := ow0.below hb
  replace hbel := hbel.trans (hb.mono hbel.size)
  clear hb
  have q3 : decide ((rtR xBase).1 = (rtR xBase).1) = true := decide_eq_true rfl
  go_wp2_with fail
  refine (eqAddRowS_any g0A w0A g0C w0C (rtR xBase).1 (rtR xBase).1 v2 og0.rd ow0.rd).mono ?_
  rintro e v3 ⟨rfl, hb⟩
  have s4 : Hid (v2.heap.size ≤ v3.heap.size) := Lib.hid hb.size
  replace ow0 := ow0.below hb
  replace og0 := og0.below hb
  replace hbel := hbel.trans (hb.mono hbel.size)
  clear hb
  go_wp2_with fail
  refine (markAddRowS_any _ _ _ g0A g0C 1 (rtR xBase).1 v3 og0 (by have := ow0.len; have := og0.len; omega) (by have := ow0.len; have := og0.len; omega)).mono ?_
  rintro e v4 ⟨rfl, om, ht⟩
  have s5 : Hid (v3.heap.size ≤ v4.heap.size) := Lib.hid ht.size
  clear og0
  have og0 := om
  clear om
  replace ow0 := ow0.touch ht (by have := s1.out; have := s2.out; have := s4.out; have := s5.out; omega)
  replace hbel := hbel.trans (ht.below (by have := s1.out; have := s2.out; have := s4.out; have := s5.out; omega) hbel.size)
  clear ht
  go_wp2_with fail
  refine (heldAddRowS_any g0A g0C 1 (rtR xBase).1.length v4 og0.rd (by have := ow0.len; have := og0.len; omega) (by have := ow0.len; have := og0.len; omega)).mono ?_
  rintro e v5 ⟨rfl, hw⟩
  have hb : Below v4.heap.size v4 v5 := by rw [hw]; exact Below.refl _ _
  clear hw
  have s6 : Hid (v4.heap.size ≤ v5.heap.size) := Lib.hid hb.size
  replace ow0 := ow0.below hb
  replace og0 := og0.below hb
  replace hbel := hbel.trans (hb.mono hbel.size)
  clear hb
  go_wp2_with fail
  refine (implRightTable xBase v5 bxBase).mono ?_
  rintro e v6 ⟨h0A, h0C, rfl, oh0, hb⟩
  have s7 : Hid (v5.heap.size ≤ v6.heap.size) := Lib.hid hb.size
  replace ow0 := ow0.below hb
  replace og0 := og0.below hb
  replace hbel := hbel.trans (hb.mono hbel.size)
  clear hb
  have q8 : decide ((rtR xBase).1 = (rtR xBase).1) = true := decide_eq_true rfl
  go_wp2_with fail
  refine (eqAddRowS_any h0A w0A h0C w0C (rtR xBase).1 (rtR xBase).1 v6 oh0.rd ow0.rd).mono ?_
  rintro e v7 ⟨rfl, hb⟩
  have s9 : Hid (v6.heap.size ≤ v7.heap.size) := Lib.hid hb.size
  replace ow0 := ow0.below hb
  replace og0 := og0.below hb
  replace oh0 := oh0.below hb
  replace hbel := hbel.trans (hb.mono hbel.size)
  clear hb
  go_wp2_with fail
  refine (heldAddRowS_any g0A g0C 1 (rtR xBase).1.length v7 og0.rd (by have := ow0.len; have := og0.len; have := oh0.len; omega) (by have := ow0.len; have := og0.len; have := oh0.len; omega)).mono ?_
  rintro e v8 ⟨rfl, hw⟩
  have hb : Below v7.heap.size v7 v8 := by rw [hw]; exact Below.refl _ _
  clear hw
  have s10 : Hid (v7.heap.size ≤ v8.heap.size) := Lib.hid hb.size
  replace ow0 := ow0.below hb
  replace og0 := og0.below hb
  replace oh0 := oh0.below hb
  replace hbel := hbel.trans (hb.mono hbel.size)
  clear hb
  go_wp2
  go_ret
  exact ⟨rfl, hbel⟩

set_option maxRecDepth 100000 in
theorem lifted (os : Os) (started : os.Started) (H : Type) (enc : TypeId × Value → H) :
    ReturnsInHanded {} Try.checked os 8 .any (Rows.fnExactRightTableSpec.pre6 enc Try.prog Try.f8 Rows.fnExactRightTableRow.domain false) (Rows.fnExactRightTableSpec.post enc Try.prog Try.f8 false true false false) := by
  refine returnsInHanded_of_change (C := Try.checked) own_knob started (by kernel_rfl) Try.func8
    (ChangeSpec.witness6 (enc := enc) (C := Try.checked) false ⟨#[], #[.int .i64 0], []⟩ 8 (by kernel_rfl) (by kernel_rfl) (by kernel_rfl) (by kernel_rfl)) ?_
  intro W base args ds gs before hval0 hW hcnd _
  have hval : ∀ (j : Nat) t v, Try.f8.params[j]? = some t → args[j]? = some v → Value.okWide Try.prog W .any base t v := hval0
  have hW' := hW
  obtain ⟨p, q, hA0, hV, rfl, hfz, hnd⟩ := hW
  have hA : DataW.TrodAll enc Try.prog W 0 (fun _ => true) true Try.f8.params.toList args.toList ds p := hA0
  rw [Try.params8] at hA hval
  obtain ⟨v0, vs0, d0, ds0, p0, q0, hargs, rfl, rfl, h0, r0⟩ := trodAll_cons hA
  obtain ⟨rfl, rfl, rfl⟩ := trodAll_nil r0
  obtain rfl : args = #[v0] := by cases args; simp_all
  obtain ⟨rfl, rfl⟩ := trodVars_none hV
  obtain ⟨xBase, rfl, rfl, rfl, bxBase⟩ := open_int Try.underlying2 (hval 0 2 v0 rfl rfl) h0
  clear hA0 hval0
  refine (law_walk xBase W bxBase).mono fun e W' ⟨he, bel⟩ => ?_
  subst he
  exact ⟨_, rfl, _, _, _, [], _, [], hW', trodAll_mk1 (shut_bool Try.underlying4 _), (trodAll_cons_mk (shut_int Try.underlying2 bxBase) trodAll_mk0), rfl, bel.frame _, fun h => by cases h⟩

set_option maxHeartbeats 20000000 in
theorem closed : joinedFacts Try.prog 8 Try.f8 Rows.fnExactRightTableSpec Rows.fnExactRightTableRow = true := by
  simp only [joinedFacts, Bool.and_eq_true]
  refine ⟨⟨⟨⟨⟨⟨⟨⟨⟨⟨⟨⟨⟨⟨⟨⟨⟨⟨⟨⟨⟨⟨⟨⟨⟨⟨⟨⟨⟨⟨⟨?_, laid_out⟩, fact_maps⟩, ?_⟩, ?_⟩, ?_⟩, fact_stops⟩, ?_⟩, fact_knobs⟩, ?_⟩, ?_⟩, ?_⟩, ?_⟩, ?_⟩, ?_⟩, ?_⟩, ?_⟩, ?_⟩, ?_⟩, ?_⟩, ?_⟩, ?_⟩, fact_plain⟩, ?_⟩, fact_heard⟩, fact_enter⟩, fact_lift⟩, ?_⟩, ?_⟩, ?_⟩, ?_⟩, ?_⟩
  all_goals (as_aux_lemma => kernel_rfl)

theorem over : Rows.fnExactRightTableRow.holds Try.pinned (OpenSpec.ofChange Rows.fnExactRightTableSpec) :=
  OpenClaim.holds_of_wide 8 Try.f8 rfl rfl rfl rfl rfl rfl rfl ⟨rfl, rfl, rfl, rfl, rfl⟩ rfl rfl rfl rfl rfl (by as_aux_lemma => kernel_rfl) Try.func8 closed
    (of_decide_eq_true (by as_aux_lemma => kernel_rfl)) (by unfold Func.isWrapper; rw [if_neg (by decide +kernel)]; exact ⟨rfl, rfl⟩)
    (fun os started H enc _ => lifted os started H enc)

/-- The statement. -/
theorem proved : Rows.FnExactRightTableSaid := over
end Go.Proofs.Ytmdngcoccekdgaa.lawRightTable
