/-
  laws.FnExactFlatStrokes returns true at every input (no condition), and leaves its arguments as they were.
-/
import Derived.Test.YtgfopieojpjddaaInstrS
import Derived.Test.YtgfopieojpjddaaFrameP
import Derived.Test.YtgfopieojpjddaaFrameI
import Derived.Test.YtgfopieojpjddaaEqI
import Derived.Test.YtgfopieojpjddaaMarkI
import Derived.Test.YtgfopieojpjddaaFlsS
import Derived.Test.YtgfopieojpjddaaFlsJ
import Derived.Test.YtgfopieojpjddaaFacts
import Derived.Test.YtgfopieojpjddaaRows
namespace Go.Proofs.Ytgfopieojpjddaa.lawFlatStrokes
open Go.ChangeShapes Go.WideShapes Go.ChangeAt Go.WideElems Go.RowKit Go.Joins
open Go.ChangeMaps (open_string shut_string)

set_option maxRecDepth 100000 in
set_option maxHeartbeats 4000000 in
theorem law_walk (xListA : Option Addr) (xListC : Nat) (xListZ : List (Int × Int)) (w : World) (hxList : RawF pairF (fun x => I64 x.1 ∧ I64 x.2) w xListA xListZ) :
    Calls Try.prog 7 #[.slice xListA xListZ.length xListC] w fun e w' => e = .returned (.bool true) ∧ Below w.heap.size w w' := by
  have hbel : Below w.heap.size w w := Below.refl _ _
  go_enter Try.func7, Try.ntmps7
  go_wp2_with fail
  rcases Int.lt_or_le (leftOf xListZ.length 1048576) 0 with k1 | k1
  · refine (szInstrS_any xListA xListZ.length xListC 1048576 w hxList.len (by omega) (by omega)).mono ?_
    rintro e v1 ⟨rfl, hb⟩
    subst hb
    go_wp2
    go_ret
    exact ⟨rfl, hbel⟩
  have m1 := leftOf_le xListZ.length 1048576 (by omega)
  refine (szInstrS_any xListA xListZ.length xListC 1048576 w hxList.len (by omega) (by omega)).mono ?_
  rintro e v1 ⟨rfl, hb⟩
  replace hb : Below w.heap.size w v1 := by rw [← hb]; exact Below.refl _ _
  have s1 : Hid (w.heap.size ≤ v1.heap.size) := Lib.hid hb.size
  replace hbel := hbel.trans (hb.mono hbel.size)
  clear hb
  have zxList : All2 xListZ := hxList.wf
  replace hxList := hxList.rd (by have := leftOf_len k1; omega)
  go_wp2_with fail
  refine (toInstrS_any xListA xListC xListZ v1 (hxList.below hbel)).mono ?_
  rintro e v2 ⟨t2A, t2C, rfl, ot2, hb⟩
  have s3 : Hid (v1.heap.size ≤ v2.heap.size) := Lib.hid hb.size
  replace hbel := hbel.trans (hb.mono hbel.size)
  clear hb
  go_wp2_with fail
  refine (specFlatStrokes t2A t2C xListZ v2 ot2.rd zxList).mono ?_
  rintro e v3 ⟨w0A, w0C, rfl, ow0, hb⟩
  have s4 : Hid (v2.heap.size ≤ v3.heap.size) := Lib.hid hb.size
  replace ot2 := ot2.below hb
  replace hbel := hbel.trans (hb.mono hbel.size)
  clear hb
  clear ot2
  go_wp2_with fail
  refine (toInstrS_any xListA xListC xListZ v3 (hxList.below hbel)).mono ?_
  rintro e v4 ⟨t5A, t5C, rfl, ot5, hb⟩
  have s6 : Hid (v3.heap.size ≤ v4.heap.size) := Lib.hid hb.size
  replace ow0 := ow0.below hb
  replace hbel := hbel.trans (hb.mono hbel.size)
  clear hb
  go_wp2_with fail
  refine (implFlatStrokes t5A t5C xListZ v4 ot5.rd zxList (own_cap ot5)).mono ?_
  rintro e v5 ⟨g0A, g0C, rfl, og0, hb⟩
  have s7 : Hid (v4.heap.size ≤ v5.heap.size) := Lib.hid hb.size
  replace ow0 := ow0.below hb
  replace ot5 := ot5.below hb
  replace hbel := hbel.trans (hb.mono hbel.size)
  clear hb
  have q8 : decide ((flR xListZ).1 = (flR xListZ).1) = true := decide_eq_true rfl
  go_wp2_with fail
  refine (eqInt64S_any g0A w0A g0C w0C (flR xListZ).1 (flR xListZ).1 v5 og0.rd ow0.rd).mono ?_
  rintro e v6 ⟨rfl, n, hn⟩
  have hb : Below v5.heap.size v5 v6 := by rw [hn]; exact bel_drewN (Below.refl _ _) n
  clear hn
  have s9 : Hid (v5.heap.size ≤ v6.heap.size) := Lib.hid hb.size
  replace ow0 := ow0.below hb
  replace ot5 := ot5.below hb
  replace og0 := og0.below hb
  replace hbel := hbel.trans (hb.mono hbel.size)
  clear hb
  have q10 : decide (xListZ = xListZ) = true := decide_eq_true rfl
  go_wp2_with fail
  refine (toInstrS_any xListA xListC xListZ v6 (hxList.below hbel)).mono ?_
  rintro e v7 ⟨t11A, t11C, rfl, ot11, hb⟩
  have s12 : Hid (v6.heap.size ≤ v7.heap.size) := Lib.hid hb.size
  replace ow0 := ow0.below hb
  replace ot5 := ot5.below hb
  replace og0 := og0.below hb
  replace hbel := hbel.trans (hb.mono hbel.size)
  clear hb
  go_wp2_with fail
  refine (eqInstrS_any t5A t11A t5C t11C xListZ xListZ v7 ot5.rd ot11.rd).mono ?_
  rintro e v8 ⟨rfl, hb⟩
  have s13 : Hid (v7.heap.size ≤ v8.heap.size) := Lib.hid hb.size
  replace ow0 := ow0.below hb
  replace ot5 := ot5.below hb
  replace og0 := og0.below hb
  replace ot11 := ot11.below hb
  replace hbel := hbel.trans (hb.mono hbel.size)
  clear hb
  clear ot11
  go_wp2_with fail
  refine (markInstrS_any _ _ _ t5A t5C 1 xListZ v8 ot5 (by have := ow0.len; have := ot5.len; have := og0.len; have := hxList.len; omega) (by have := ow0.len; have := ot5.len; have := og0.len; have := hxList.len; omega)).mono ?_
  rintro e v9 ⟨rfl, om, ht⟩
  have s14 : Hid (v8.heap.size ≤ v9.heap.size) := Lib.hid ht.size
  clear ot5
  have ot5 := om
  clear om
  replace ow0 := ow0.touch ht (by have := s1.out; have := s3.out; have := s4.out; have := s6.out; have := s7.out; have := s9.out; have := s12.out; have := s13.out; have := s14.out; omega)
  replace og0 := og0.touch ht (by have := s1.out; have := s3.out; have := s4.out; have := s6.out; have := s7.out; have := s9.out; have := s12.out; have := s13.out; have := s14.out; omega)
  replace hbel := hbel.trans (ht.below (by have := s1.out; have := s3.out; have := s4.out; have := s6.out; have := s7.out; have := s9.out; have := s12.out; have := s13.out; have := s14.out; omega) hbel.size)
  clear ht
  have q15 : decide ((flR xListZ).1 = (flR xListZ).1) = true := decide_eq_true rfl
  go_wp2_with fail
  refine (eqInt64S_any g0A w0A g0C w0C (flR xListZ).1 (flR xListZ).1 v9 og0.rd ow0.rd).mono ?_
  rintro e v10 ⟨rfl, n, hn⟩
  have hb : Below v9.heap.size v9 v10 := by rw [hn]; exact bel_drewN (Below.refl _ _) n
  clear hn
  have s16 : Hid (v9.heap.size ≤ v10.heap.size) := Lib.hid hb.size
  replace ow0 := ow0.below hb
  replace ot5 := ot5.below hb
  replace og0 := og0.below hb
  replace hbel := hbel.trans (hb.mono hbel.size)
  clear hb
  go_wp2_with fail
  refine (markInt64S_any _ _ _ g0A g0C 1 (flR xListZ).1 v10 og0 (by have := ow0.len; have := ot5.len; have := og0.len; have := hxList.len; omega) (by have := ow0.len; have := ot5.len; have := og0.len; have := hxList.len; omega)).mono ?_
  rintro e v11 ⟨rfl, om, ht⟩
  have s17 : Hid (v10.heap.size ≤ v11.heap.size) := Lib.hid ht.size
  clear og0
  have og0 := om
  clear om
  replace ow0 := ow0.touch ht (by have := s1.out; have := s3.out; have := s4.out; have := s6.out; have := s7.out; have := s9.out; have := s12.out; have := s13.out; have := s14.out; have := s16.out; have := s17.out; omega)
  replace ot5 := ot5.touch ht (by have := s1.out; have := s3.out; have := s4.out; have := s6.out; have := s7.out; have := s9.out; have := s12.out; have := s13.out; have := s14.out; have := s16.out; have := s17.out; omega)
  replace hbel := hbel.trans (ht.below (by have := s1.out; have := s3.out; have := s4.out; have := s6.out; have := s7.out; have := s9.out; have := s12.out; have := s13.out; have := s14.out; have := s16.out; have := s17.out; omega) hbel.size)
  clear ht
  go_wp2_with fail
  refine (heldInt64S_any g0A g0C 1 (flR xListZ).1.length v11 og0.rd (by have := ow0.len; have := ot5.len; have := og0.len; have := hxList.len; omega) (by have := ow0.len; have := ot5.len; have := og0.len; have := hxList.len; omega)).mono ?_
  rintro e v12 ⟨rfl, hw⟩
  have hb : Below v11.heap.size v11 v12 := by rw [hw]; exact Below.refl _ _
  clear hw
  have s18 : Hid (v11.heap.size ≤ v12.heap.size) := Lib.hid hb.size
  replace ow0 := ow0.below hb
  replace ot5 := ot5.below hb
  replace og0 := og0.below hb
  replace hbel := hbel.trans (hb.mono hbel.size)
  clear hb
  go_wp2_with fail
  refine (toInstrS_any xListA xListC xListZ v12 (hxList.below hbel)).mono ?_
  rintro e v13 ⟨t19A, t19C, rfl, ot19, hb⟩
  have s20 : Hid (v12.heap.size ≤ v13.heap.size) := Lib.hid hb.size
  replace ow0 := ow0.below hb
  replace ot5 := ot5.below hb
  replace og0 := og0.below hb
  replace hbel := hbel.trans (hb.mono hbel.size)
  clear hb
  go_wp2_with fail
  refine (implFlatStrokes t19A t19C xListZ v13 ot19.rd zxList (own_cap ot19)).mono ?_
  rintro e v14 ⟨h0A, h0C, rfl, oh0, hb⟩
  have s21 : Hid (v13.heap.size ≤ v14.heap.size) := Lib.hid hb.size
  replace ow0 := ow0.below hb
  replace ot5 := ot5.below hb
  replace og0 := og0.below hb
  replace ot19 := ot19.below hb
  replace hbel := hbel.trans (hb.mono hbel.size)
  clear hb
  clear ot19
  have q22 : decide ((flR xListZ).1 = (flR xListZ).1) = true := decide_eq_true rfl
  go_wp2_with fail
  refine (eqInt64S_any h0A w0A h0C w0C (flR xListZ).1 (flR xListZ).1 v14 oh0.rd ow0.rd).mono ?_
  rintro e v15 ⟨rfl, n, hn⟩
  have hb : Below v14.heap.size v14 v15 := by rw [hn]; exact bel_drewN (Below.refl _ _) n
  clear hn
  have s23 : Hid (v14.heap.size ≤ v15.heap.size) := Lib.hid hb.size
  replace ow0 := ow0.below hb
  replace ot5 := ot5.below hb
  replace og0 := og0.below hb
  replace oh0 := oh0.below hb
  replace hbel := hbel.trans (hb.mono hbel.size)
  clear hb
  go_wp2_with fail
  refine (heldInt64S_any g0A g0C 1 (flR xListZ).1.length v15 og0.rd (by have := ow0.len; have := ot5.len; have := og0.len; have := oh0.len; have := hxList.len; omega) (by have := ow0.len; have := ot5.len; have := og0.len; have := oh0.len; have := hxList.len; omega)).mono ?_
  rintro e v16 ⟨rfl, hw⟩
  have hb : Below v15.heap.size v15 v16 := by rw [hw]; exact Below.refl _ _
  clear hw
  have s24 : Hid (v15.heap.size ≤ v16.heap.size) := Lib.hid hb.size
  replace ow0 := ow0.below hb
  replace ot5 := ot5.below hb
  replace og0 := og0.below hb
  replace oh0 := oh0.below hb
  replace hbel := hbel.trans (hb.mono hbel.size)
  clear hb
  go_wp2
  go_ret
  exact ⟨rfl, hbel⟩

set_option maxRecDepth 100000 in
theorem lifted (os : Os) (started : os.Started) (H : Type) (enc : TypeId × Value → H) :
    ReturnsInHanded {} Try.checked os 7 .any (Rows.fnExactFlatStrokesSpec.pre6 enc Try.prog Try.f7 Rows.fnExactFlatStrokesRow.domain false) (Rows.fnExactFlatStrokesSpec.post enc Try.prog Try.f7 false true false false) := by
  refine returnsInHanded_of_change (C := Try.checked) own_knob started (by kernel_rfl) Try.func7
    (ChangeSpec.witness6 (enc := enc) (C := Try.checked) false ⟨#[], #[.slice none 0 0], []⟩ 8 (by kernel_rfl) (by kernel_rfl) (by kernel_rfl) (by kernel_rfl)) ?_
  intro W base args ds gs before hval0 hW hcnd _
  have hval : ∀ (j : Nat) t v, Try.f7.params[j]? = some t → args[j]? = some v → Value.okWide Try.prog W .any base t v := hval0
  have hW' := hW
  obtain ⟨p, q, hA0, hV, rfl, hfz, hnd⟩ := hW
  have hA : DataW.TrodAll enc Try.prog W 0 (fun _ => true) true Try.f7.params.toList args.toList ds p := hA0
  rw [Try.params7] at hA hval
  obtain ⟨v0, vs0, d0, ds0, p0, q0, hargs, rfl, rfl, h0, r0⟩ := trodAll_cons hA
  obtain ⟨rfl, rfl, rfl⟩ := trodAll_nil r0
  obtain rfl : args = #[v0] := by cases args; simp_all
  obtain ⟨rfl, rfl⟩ := trodVars_none hV
  have k0 := h0
  have lt0 : ∀ x ∈ p0, x.block < W.heap.size := by obtain ⟨m, hm⟩ := k0; exact DataW.trod_lt m _ _ _ hm
  obtain ⟨xListA, xListC, xListZ, rfl, hxList⟩ := open_InstrS (hval 0 22 v0 rfl rfl) h0
  clear hA0 hval0
  refine (law_walk xListA xListC xListZ W hxList).mono fun e W' ⟨he, bel⟩ => ?_
  subst he
  exact ⟨_, rfl, _, _, _, [], _, [], hW', trodAll_mk1 (shut_bool Try.underlying4 _), (trodAll_cons_mk (Below.trod laid_out (by kernel_rfl) (of_decide_eq_true (by kernel_rfl)) k0 bel lt0) trodAll_mk0), rfl, bel.frame _, fun h => by cases h⟩

set_option maxHeartbeats 20000000 in
theorem closed : joinedFacts Try.prog 7 Try.f7 Rows.fnExactFlatStrokesSpec Rows.fnExactFlatStrokesRow = true := by
  simp only [joinedFacts, Bool.and_eq_true]
  refine ⟨⟨⟨⟨⟨⟨⟨⟨⟨⟨⟨⟨⟨⟨⟨⟨⟨⟨⟨⟨⟨⟨⟨⟨⟨⟨⟨⟨⟨⟨⟨?_, laid_out⟩, fact_maps⟩, ?_⟩, ?_⟩, ?_⟩, fact_stops⟩, ?_⟩, fact_knobs⟩, ?_⟩, ?_⟩, ?_⟩, ?_⟩, ?_⟩, ?_⟩, ?_⟩, ?_⟩, ?_⟩, ?_⟩, ?_⟩, ?_⟩, ?_⟩, fact_plain⟩, ?_⟩, fact_heard⟩, fact_enter⟩, fact_lift⟩, ?_⟩, ?_⟩, ?_⟩, ?_⟩, ?_⟩
  all_goals (as_aux_lemma => kernel_rfl)

theorem over : Rows.fnExactFlatStrokesRow.holds Try.pinned (OpenSpec.ofChange Rows.fnExactFlatStrokesSpec) :=
  OpenClaim.holds_of_wide 7 Try.f7 rfl rfl rfl rfl rfl rfl rfl ⟨rfl, rfl, rfl, rfl, rfl⟩ rfl rfl rfl rfl rfl (by as_aux_lemma => kernel_rfl) Try.func7 closed
    (of_decide_eq_true (by as_aux_lemma => kernel_rfl)) (by unfold Func.isWrapper; rw [if_neg (by decide +kernel)]; exact ⟨rfl, rfl⟩)
    (fun os started H enc _ => lifted os started H enc)

/-- The statement. -/
theorem proved : Rows.FnExactFlatStrokesSaid := over
end Go.Proofs.Ytgfopieojpjddaa.lawFlatStrokes
