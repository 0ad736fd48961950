/-
  laws.FnExactSameProgram returns true at every input (no condition), and leaves its arguments as they were.
-/
import Derived.Test.YtgfopieojpjddaaInstrS
import Derived.Test.YtgfopieojpjddaaFrameP
import Derived.Test.YtgfopieojpjddaaFrameI
import Derived.Test.YtgfopieojpjddaaSprM
import Derived.Test.YtgfopieojpjddaaFacts
import Derived.Test.YtgfopieojpjddaaRows
namespace Go.Proofs.Ytgfopieojpjddaa.lawSameProgram
open Go.ChangeShapes Go.WideShapes Go.ChangeAt Go.WideElems Go.RowKit Go.Joins
open Go.ChangeMaps (open_string shut_string)

set_option maxRecDepth 100000 in
set_option maxHeartbeats 4000000 in
theorem law_walk (xAA : Option Addr) (xAC : Nat) (xAZ : List (Int × Int)) (xBA : Option Addr) (xBC : Nat) (xBZ : List (Int × Int)) (w : World) (hxA : RawF pairF (fun x => I64 x.1 ∧ I64 x.2) w xAA xAZ) (hxB : RawF pairF (fun x => I64 x.1 ∧ I64 x.2) w xBA xBZ) :
    Calls Try.prog 4 #[.slice xAA xAZ.length xAC, .slice xBA xBZ.length xBC] w fun e w' => e = .returned (.bool true) ∧ Below w.heap.size w w' := by
  have hbel : Below w.heap.size w w := Below.refl _ _
  go_enter Try.func4, Try.ntmps4
  go_wp2_with fail
  rcases Int.lt_or_le (leftOf xAZ.length 1048576) 0 with k1 | k1
  · refine (szInstrS_any xAA xAZ.length xAC 1048576 w hxA.len (by omega) (by omega)).mono ?_
    rintro e v1 ⟨rfl, hb⟩
    subst hb
    go_wp2
    go_ret
    exact ⟨rfl, hbel⟩
  have m1 := leftOf_le xAZ.length 1048576 (by omega)
  refine (szInstrS_any xAA xAZ.length xAC 1048576 w hxA.len (by omega) (by omega)).mono ?_
  rintro e v1 ⟨rfl, hb⟩
  replace hb : Below w.heap.size w v1 := by rw [← hb]; exact Below.refl _ _
  have s1 : Hid (w.heap.size ≤ v1.heap.size) := Lib.hid hb.size
  replace hbel := hbel.trans (hb.mono hbel.size)
  clear hb
  have zxA : All2 xAZ := hxA.wf
  replace hxA := hxA.rd (by have := leftOf_len k1; omega)
  go_wp2_with fail
  rcases Int.lt_or_le (leftOf xBZ.length (leftOf xAZ.length 1048576)) 0 with k2 | k2
  · refine (szInstrS_any xBA xBZ.length xBC (leftOf xAZ.length 1048576) v1 hxB.len (by omega) (by omega)).mono ?_
    rintro e v2 ⟨rfl, hb⟩
    subst hb
    go_wp2
    go_ret
    exact ⟨rfl, hbel⟩
  have m2 := leftOf_le xBZ.length (leftOf xAZ.length 1048576) (by omega)
  refine (szInstrS_any xBA xBZ.length xBC (leftOf xAZ.length 1048576) v1 hxB.len (by omega) (by omega)).mono ?_
  rintro e v2 ⟨rfl, hb⟩
  replace hb : Below v1.heap.size v1 v2 := by rw [← hb]; exact Below.refl _ _
  have s2 : Hid (v1.heap.size ≤ v2.heap.size) := Lib.hid hb.size
  replace hbel := hbel.trans (hb.mono hbel.size)
  clear hb
  have zxB : All2 xBZ := hxB.wf
  replace hxB := hxB.rd (by have := leftOf_len k2; omega)
  go_wp2_with fail
  refine (toInstrS_any xAA xAC xAZ v2 (hxA.below hbel)).mono ?_
  rintro e v3 ⟨t3A, t3C, rfl, ot3, hb⟩
  have s4 : Hid (v2.heap.size ≤ v3.heap.size) := Lib.hid hb.size
  replace hbel := hbel.trans (hb.mono hbel.size)
  clear hb
  go_wp2_with fail
  refine (toInstrS_any xBA xBC xBZ v3 (hxB.below hbel)).mono ?_
  rintro e v4 ⟨t5A, t5C, rfl, ot5, hb⟩
  have s6 : Hid (v3.heap.size ≤ v4.heap.size) := Lib.hid hb.size
  replace ot3 := ot3.below hb
  replace hbel := hbel.trans (hb.mono hbel.size)
  clear hb
  go_wp2_with fail
  refine (specSameProgram t3A t3C xAZ t5A t5C xBZ v4 ot3.rd zxA ot5.rd zxB).mono ?_
  rintro e v5 ⟨rfl, hb⟩
  have s7 : Hid (v4.heap.size ≤ v5.heap.size) := Lib.hid hb.size
  replace ot3 := ot3.below hb
  replace ot5 := ot5.below hb
  replace hbel := hbel.trans (hb.mono hbel.size)
  clear hb
  clear ot3
  clear ot5
  go_wp2_with fail
  refine (toInstrS_any xAA xAC xAZ v5 (hxA.below hbel)).mono ?_
  rintro e v6 ⟨t8A, t8C, rfl, ot8, hb⟩
  have s9 : Hid (v5.heap.size ≤ v6.heap.size) := Lib.hid hb.size
  replace hbel := hbel.trans (hb.mono hbel.size)
  clear hb
  go_wp2_with fail
  refine (toInstrS_any xBA xBC xBZ v6 (hxB.below hbel)).mono ?_
  rintro e v7 ⟨t10A, t10C, rfl, ot10, hb⟩
  have s11 : Hid (v6.heap.size ≤ v7.heap.size) := Lib.hid hb.size
  replace ot8 := ot8.below hb
  replace hbel := hbel.trans (hb.mono hbel.size)
  clear hb
  go_wp2_with fail
  refine (implSameProgram t8A t8C xAZ t10A t10C xBZ v7 ot8.rd zxA ot10.rd zxB).mono ?_
  rintro e v8 ⟨rfl, hb⟩
  have s12 : Hid (v7.heap.size ≤ v8.heap.size) := Lib.hid hb.size
  replace ot8 := ot8.below hb
  replace ot10 := ot10.below hb
  replace hbel := hbel.trans (hb.mono hbel.size)
  clear hb
  have q13 : decide (xAZ = xAZ) = true := decide_eq_true rfl
  go_wp2_with fail
  refine (toInstrS_any xAA xAC xAZ v8 (hxA.below hbel)).mono ?_
  rintro e v9 ⟨t14A, t14C, rfl, ot14, hb⟩
  have s15 : Hid (v8.heap.size ≤ v9.heap.size) := Lib.hid hb.size
  replace ot8 := ot8.below hb
  replace ot10 := ot10.below hb
  replace hbel := hbel.trans (hb.mono hbel.size)
  clear hb
  go_wp2_with fail
  refine (eqInstrS_any t8A t14A t8C t14C xAZ xAZ v9 ot8.rd ot14.rd).mono ?_
  rintro e v10 ⟨rfl, hb⟩
  have s16 : Hid (v9.heap.size ≤ v10.heap.size) := Lib.hid hb.size
  replace ot8 := ot8.below hb
  replace ot10 := ot10.below hb
  replace ot14 := ot14.below hb
  replace hbel := hbel.trans (hb.mono hbel.size)
  clear hb
  clear ot14
  have q17 : decide (xBZ = xBZ) = true := decide_eq_true rfl
  go_wp2_with fail
  refine (toInstrS_any xBA xBC xBZ v10 (hxB.below hbel)).mono ?_
  rintro e v11 ⟨t18A, t18C, rfl, ot18, hb⟩
  have s19 : Hid (v10.heap.size ≤ v11.heap.size) := Lib.hid hb.size
  replace ot8 := ot8.below hb
  replace ot10 := ot10.below hb
  replace hbel := hbel.trans (hb.mono hbel.size)
  clear hb
  go_wp2_with fail
  refine (eqInstrS_any t10A t18A t10C t18C xBZ xBZ v11 ot10.rd ot18.rd).mono ?_
  rintro e v12 ⟨rfl, hb⟩
  have s20 : Hid (v11.heap.size ≤ v12.heap.size) := Lib.hid hb.size
  replace ot8 := ot8.below hb
  replace ot10 := ot10.below hb
  replace ot18 := ot18.below hb
  replace hbel := hbel.trans (hb.mono hbel.size)
  clear hb
  clear ot18
  go_wp2
  go_ret
  exact ⟨rfl, hbel⟩

set_option maxRecDepth 100000 in
theorem lifted (os : Os) (started : os.Started) (H : Type) (enc : TypeId × Value → H) :
    ReturnsInHanded {} Try.checked os 4 .any (Rows.fnExactSameProgramSpec.pre6 enc Try.prog Try.f4 Rows.fnExactSameProgramRow.domain false) (Rows.fnExactSameProgramSpec.post enc Try.prog Try.f4 false true false false) := by
  refine returnsInHanded_of_change (C := Try.checked) own_knob started (by kernel_rfl) Try.func4
    (ChangeSpec.witness6 (enc := enc) (C := Try.checked) false ⟨#[], #[.slice none 0 0, .slice none 0 0], []⟩ 8 (by kernel_rfl) (by kernel_rfl) (by kernel_rfl) (by kernel_rfl)) ?_
  intro W base args ds gs before hval0 hW hcnd _
  have hval : ∀ (j : Nat) t v, Try.f4.params[j]? = some t → args[j]? = some v → Value.okWide Try.prog W .any base t v := hval0
  have hW' := hW
  obtain ⟨p, q, hA0, hV, rfl, hfz, hnd⟩ := hW
  have hA : DataW.TrodAll enc Try.prog W 0 (fun _ => true) true Try.f4.params.toList args.toList ds p := hA0
  rw [Try.params4] at hA hval
  obtain ⟨v0, vs0, d0, ds0, p0, q0, hargs, rfl, rfl, h0, r0⟩ := trodAll_cons hA
  obtain ⟨v1, vs1, d1, ds1, p1, q1, rfl, rfl, rfl, h1, r1⟩ := trodAll_cons r0
  obtain ⟨rfl, rfl, rfl⟩ := trodAll_nil r1
  obtain rfl : args = #[v0, v1] := by cases args; simp_all
  obtain ⟨rfl, rfl⟩ := trodVars_none hV
  have k0 := h0
  have lt0 : ∀ x ∈ p0, x.block < W.heap.size := by obtain ⟨m, hm⟩ := k0; exact DataW.trod_lt m _ _ _ hm
  obtain ⟨xAA, xAC, xAZ, rfl, hxA⟩ := open_InstrS (hval 0 22 v0 rfl rfl) h0
  have k1 := h1
  have lt1 : ∀ x ∈ p1, x.block < W.heap.size := by obtain ⟨m, hm⟩ := k1; exact DataW.trod_lt m _ _ _ hm
  obtain ⟨xBA, xBC, xBZ, rfl, hxB⟩ := open_InstrS (hval 1 22 v1 rfl rfl) h1
  clear hA0 hval0
  refine (law_walk xAA xAC xAZ xBA xBC xBZ W hxA hxB).mono fun e W' ⟨he, bel⟩ => ?_
  subst he
  exact ⟨_, rfl, _, _, _, [], _, [], hW', trodAll_mk1 (shut_bool Try.underlying4 _), (trodAll_cons_mk (Below.trod laid_out (by kernel_rfl) (of_decide_eq_true (by kernel_rfl)) k0 bel lt0) (trodAll_cons_mk (Below.trod laid_out (by kernel_rfl) (of_decide_eq_true (by kernel_rfl)) k1 bel lt1) trodAll_mk0)), rfl, bel.frame _, fun h => by cases h⟩

set_option maxHeartbeats 20000000 in
theorem closed : joinedFacts Try.prog 4 Try.f4 Rows.fnExactSameProgramSpec Rows.fnExactSameProgramRow = true := by
  simp only [joinedFacts, Bool.and_eq_true]
  refine ⟨⟨⟨⟨⟨⟨⟨⟨⟨⟨⟨⟨⟨⟨⟨⟨⟨⟨⟨⟨⟨⟨⟨⟨⟨⟨⟨⟨⟨⟨⟨?_, laid_out⟩, fact_maps⟩, ?_⟩, ?_⟩, ?_⟩, fact_stops⟩, ?_⟩, fact_knobs⟩, ?_⟩, ?_⟩, ?_⟩, ?_⟩, ?_⟩, ?_⟩, ?_⟩, ?_⟩, ?_⟩, ?_⟩, ?_⟩, ?_⟩, ?_⟩, fact_plain⟩, ?_⟩, fact_heard⟩, fact_enter⟩, fact_lift⟩, ?_⟩, ?_⟩, ?_⟩, ?_⟩, ?_⟩
  all_goals (as_aux_lemma => kernel_rfl)

theorem over : Rows.fnExactSameProgramRow.holds Try.pinned (OpenSpec.ofChange Rows.fnExactSameProgramSpec) :=
  OpenClaim.holds_of_wide 4 Try.f4 rfl rfl rfl rfl rfl rfl rfl ⟨rfl, rfl, rfl, rfl, rfl⟩ rfl rfl rfl rfl rfl (by as_aux_lemma => kernel_rfl) Try.func4 closed
    (of_decide_eq_true (by as_aux_lemma => kernel_rfl)) (by unfold Func.isWrapper; rw [if_neg (by decide +kernel)]; exact ⟨rfl, rfl⟩)
    (fun os started H enc _ => lifted os started H enc)

/-- The statement. -/
theorem proved : Rows.FnExactSameProgramSaid := over
end Go.Proofs.Ytgfopieojpjddaa.lawSameProgram
