/-
  laws.FnExactMatchOf returns true at every input (no condition), and leaves its arguments as they were.
-/
import Derived.Test.YtgfopieojpjddaaInstrS
import Derived.Test.YtgfopieojpjddaaFrameP
import Derived.Test.YtgfopieojpjddaaFrameI
import Derived.Test.YtgfopieojpjddaaPrdS
import Derived.Test.YtgfopieojpjddaaPrdI
import Derived.Test.YtgfopieojpjddaaFacts
import Derived.Test.YtgfopieojpjddaaRows
namespace Go.Proofs.Ytgfopieojpjddaa.lawMatchOf
open Go.ChangeShapes Go.WideShapes Go.ChangeAt Go.WideElems Go.RowKit Go.Joins
open Go.ChangeMaps (open_string shut_string)

set_option maxRecDepth 100000 in
set_option maxHeartbeats 4000000 in
theorem law_walk (xListA : Option Addr) (xListC : Nat) (xListZ : List (Int × Int)) (xAt : Int) (w : World) (hxList : RawF pairF (fun x => I64 x.1 ∧ I64 x.2) w xListA xListZ) (bxAt : I64 xAt) :
    Calls Try.prog 5 #[.slice xListA xListZ.length xListC, .int .i64 xAt] w fun e w' => e = .returned (.bool true) ∧ Below w.heap.size w w' := by
  have hbel : Below w.heap.size w w := Below.refl _ _
  go_enter Try.func5, Try.ntmps5
  go_wp2_with fail
  rcases Int.lt_or_le (leftOf xListZ.length 1048576) 0 with k1 | k1
  · refine (szInstrS_any xListA xListZ.length xListC 1048576 w hxList.len (by omega) (by omega)).mono ?_
    rintro e v1 ⟨rfl, hb⟩
    subst hb
    go_wp2
    go_ret
    exact ⟨rfl, hbel⟩
  have m1 := leftOf_le xListZ.length 1048576 (by omega)
  refine (szInstrS_any xListA xListZ.length xListC 1048576 w hxList.len (by omega) (by omega)).mono ?_
  rintro e v1 ⟨rfl, hb⟩
  replace hb : Below w.heap.size w v1 := by rw [← hb]; exact Below.refl _ _
  have s1 : Hid (w.heap.size ≤ v1.heap.size) := Lib.hid hb.size
  replace hbel := hbel.trans (hb.mono hbel.size)
  clear hb
  have zxList : All2 xListZ := hxList.wf
  replace hxList := hxList.rd (by have := leftOf_len k1; omega)
  go_wp2_with fail
  refine (toInstrS_any xListA xListC xListZ v1 (hxList.below hbel)).mono ?_
  rintro e v2 ⟨t2A, t2C, rfl, ot2, hb⟩
  have s3 : Hid (v1.heap.size ≤ v2.heap.size) := Lib.hid hb.size
  replace hbel := hbel.trans (hb.mono hbel.size)
  clear hb
  go_wp2_with fail
  refine (specMatchOf t2A t2C xListZ xAt v2 ot2.rd zxList bxAt).mono ?_
  rintro e v3 ⟨rfl, hb⟩
  have s4 : Hid (v2.heap.size ≤ v3.heap.size) := Lib.hid hb.size
  replace ot2 := ot2.below hb
  replace hbel := hbel.trans (hb.mono hbel.size)
  clear hb
  clear ot2
  go_wp2_with fail
  refine (toInstrS_any xListA xListC xListZ v3 (hxList.below hbel)).mono ?_
  rintro e v4 ⟨t5A, t5C, rfl, ot5, hb⟩
  have s6 : Hid (v3.heap.size ≤ v4.heap.size) := Lib.hid hb.size
  replace hbel := hbel.trans (hb.mono hbel.size)
  clear hb
  go_wp2_with fail
  refine (implMatchOf t5A t5C xListZ xAt v4 ot5.rd zxList bxAt).mono ?_
  rintro e v5 ⟨rfl, hb⟩
  have s7 : Hid (v4.heap.size ≤ v5.heap.size) := Lib.hid hb.size
  replace ot5 := ot5.below hb
  replace hbel := hbel.trans (hb.mono hbel.size)
  clear hb
  have q8 : decide (xListZ = xListZ) = true := decide_eq_true rfl
  go_wp2_with fail
  refine (toInstrS_any xListA xListC xListZ v5 (hxList.below hbel)).mono ?_
  rintro e v6 ⟨t9A, t9C, rfl, ot9, hb⟩
  have s10 : Hid (v5.heap.size ≤ v6.heap.size) := Lib.hid hb.size
  replace ot5 := ot5.below hb
  replace hbel := hbel.trans (hb.mono hbel.size)
  clear hb
  go_wp2_with fail
  refine (eqInstrS_any t5A t9A t5C t9C xListZ xListZ v6 ot5.rd ot9.rd).mono ?_
  rintro e v7 ⟨rfl, hb⟩
  have s11 : Hid (v6.heap.size ≤ v7.heap.size) := Lib.hid hb.size
  replace ot5 := ot5.below hb
  replace ot9 := ot9.below hb
  replace hbel := hbel.trans (hb.mono hbel.size)
  clear hb
  clear ot9
  go_wp2
  go_ret
  exact ⟨rfl, hbel⟩

set_option maxRecDepth 100000 in
theorem lifted (os : Os) (started : os.Started) (H : Type) (enc : TypeId × Value → H) :
    ReturnsInHanded {} Try.checked os 5 .any (Rows.fnExactMatchOfSpec.pre6 enc Try.prog Try.f5 Rows.fnExactMatchOfRow.domain false) (Rows.fnExactMatchOfSpec.post enc Try.prog Try.f5 false true false false) := by
  refine returnsInHanded_of_change (C := Try.checked) own_knob started (by kernel_rfl) Try.func5
    (ChangeSpec.witness6 (enc := enc) (C := Try.checked) false ⟨#[], #[.slice none 0 0, .int .i64 0], []⟩ 8 (by kernel_rfl) (by kernel_rfl) (by kernel_rfl) (by kernel_rfl)) ?_
  intro W base args ds gs before hval0 hW hcnd _
  have hval : ∀ (j : Nat) t v, Try.f5.params[j]? = some t → args[j]? = some v → Value.okWide Try.prog W .any base t v := hval0
  have hW' := hW
  obtain ⟨p, q, hA0, hV, rfl, hfz, hnd⟩ := hW
  have hA : DataW.TrodAll enc Try.prog W 0 (fun _ => true) true Try.f5.params.toList args.toList ds p := hA0
  rw [Try.params5] at hA hval
  obtain ⟨v0, vs0, d0, ds0, p0, q0, hargs, rfl, rfl, h0, r0⟩ := trodAll_cons hA
  obtain ⟨v1, vs1, d1, ds1, p1, q1, rfl, rfl, rfl, h1, r1⟩ := trodAll_cons r0
  obtain ⟨rfl, rfl, rfl⟩ := trodAll_nil r1
  obtain rfl : args = #[v0, v1] := by cases args; simp_all
  obtain ⟨rfl, rfl⟩ := trodVars_none hV
  have k0 := h0
  have lt0 : ∀ x ∈ p0, x.block < W.heap.size := by obtain ⟨m, hm⟩ := k0; exact DataW.trod_lt m _ _ _ hm
  obtain ⟨xListA, xListC, xListZ, rfl, hxList⟩ := open_InstrS (hval 0 22 v0 rfl rfl) h0
  obtain ⟨xAt, rfl, rfl, rfl, bxAt⟩ := open_int Try.underlying2 (hval 1 2 v1 rfl rfl) h1
  clear hA0 hval0
  refine (law_walk xListA xListC xListZ xAt W hxList bxAt).mono fun e W' ⟨he, bel⟩ => ?_
  subst he
  exact ⟨_, rfl, _, _, _, [], _, [], hW', trodAll_mk1 (shut_bool Try.underlying4 _), (trodAll_cons_mk (Below.trod laid_out (by kernel_rfl) (of_decide_eq_true (by kernel_rfl)) k0 bel lt0) (trodAll_cons_mk (shut_int Try.underlying2 bxAt) trodAll_mk0)), rfl, bel.frame _, fun h => by cases h⟩

set_option maxHeartbeats 20000000 in
theorem closed : joinedFacts Try.prog 5 Try.f5 Rows.fnExactMatchOfSpec Rows.fnExactMatchOfRow = true := by
  simp only [joinedFacts, Bool.and_eq_true]
  refine ⟨⟨⟨⟨⟨⟨⟨⟨⟨⟨⟨⟨⟨⟨⟨⟨⟨⟨⟨⟨⟨⟨⟨⟨⟨⟨⟨⟨⟨⟨⟨?_, laid_out⟩, fact_maps⟩, ?_⟩, ?_⟩, ?_⟩, fact_stops⟩, ?_⟩, fact_knobs⟩, ?_⟩, ?_⟩, ?_⟩, ?_⟩, ?_⟩, ?_⟩, ?_⟩, ?_⟩, ?_⟩, ?_⟩, ?_⟩, ?_⟩, ?_⟩, fact_plain⟩, ?_⟩, fact_heard⟩, fact_enter⟩, fact_lift⟩, ?_⟩, ?_⟩, ?_⟩, ?_⟩, ?_⟩
  all_goals (as_aux_lemma => kernel_rfl)

theorem over : Rows.fnExactMatchOfRow.holds Try.pinned (OpenSpec.ofChange Rows.fnExactMatchOfSpec) :=
  OpenClaim.holds_of_wide 5 Try.f5 rfl rfl rfl rfl rfl rfl rfl ⟨rfl, rfl, rfl, rfl, rfl⟩ rfl rfl rfl rfl rfl (by as_aux_lemma => kernel_rfl) Try.func5 closed
    (of_decide_eq_true (by as_aux_lemma => kernel_rfl)) (by unfold Func.isWrapper; rw [if_neg (by decide +kernel)]; exact ⟨rfl, rfl⟩)
    (fun os started H enc _ => lifted os started H enc)

/-- The statement. -/
theorem proved : Rows.FnExactMatchOfSaid := over
end Go.Proofs.Ytgfopieojpjddaa.lawMatchOf
