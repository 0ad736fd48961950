/-
  laws.FnExactOutputTurns returns true at every input (no condition), and leaves its arguments as they were.
-/
import Derived.Test.YtaefgkhbgljkoaaGearPairS
import Derived.Test.YtaefgkhbgljkoaaFrameG
import Derived.Test.YtaefgkhbgljkoaaRatI
import Derived.Test.YtaefgkhbgljkoaaRatS
import Derived.Test.YtaefgkhbgljkoaaFractionS
import Derived.Test.YtaefgkhbgljkoaaFacts
import Derived.Test.YtaefgkhbgljkoaaRows
namespace Go.Proofs.Ytaefgkhbgljkoaa.lawOutputTurns
open Go.ChangeShapes Go.WideShapes Go.ChangeAt Go.WideElems Go.RowKit Go.Joins
open Go.ChangeMaps (open_string shut_string)

set_option maxRecDepth 100000 in
set_option maxHeartbeats 4000000 in
theorem law_walk (xListA : Option Addr) (xListC : Nat) (xListZ : List (Int × Int)) (xTurns : Int) (w : World) (hxList : RawF pairF (fun x => I64 x.1 ∧ I64 x.2) w xListA xListZ) (bxTurns : I64 xTurns) :
    Calls Try.prog 7 #[.slice xListA xListZ.length xListC, .int .i64 xTurns] w fun e w' => e = .returned (.bool true) ∧ Below w.heap.size w w' := by
  have hbel : Below w.heap.size w w := Below.refl _ _
  go_enter Try.func7, Try.ntmps7
  go_wp2_with fail
  rcases Int.lt_or_le (leftOf xListZ.length 1048576) 0 with k1 | k1
  · refine (szGearPairS_any xListA xListZ.length xListC 1048576 w hxList.len (by omega) (by omega)).mono ?_
    rintro e v1 ⟨rfl, hb⟩
    subst hb
    go_wp2
    go_ret
    exact ⟨rfl, hbel⟩
  have m1 := leftOf_le xListZ.length 1048576 (by omega)
  refine (szGearPairS_any xListA xListZ.length xListC 1048576 w hxList.len (by omega) (by omega)).mono ?_
  rintro e v1 ⟨rfl, hb⟩
  replace hb : Below w.heap.size w v1 := by rw [← hb]; exact Below.refl _ _
  have s1 : Hid (w.heap.size ≤ v1.heap.size) := Lib.hid hb.size
  replace hbel := hbel.trans (hb.mono hbel.size)
  clear hb
  have zxList : All2 xListZ := hxList.wf
  replace hxList := hxList.rd (by have := leftOf_len k1; omega)
  go_wp2_with fail
  refine (toGearPairS_any xListA xListC xListZ v1 (hxList.below hbel)).mono ?_
  rintro e v2 ⟨t2A, t2C, rfl, ot2, hb⟩
  have s3 : Hid (v1.heap.size ≤ v2.heap.size) := Lib.hid hb.size
  replace hbel := hbel.trans (hb.mono hbel.size)
  clear hb
  go_wp2_with fail
  refine (specOutputTurns t2A t2C xListZ xTurns v2 ot2.rd zxList bxTurns).mono ?_
  rintro e v3 ⟨rfl, hb⟩
  have s4 : Hid (v2.heap.size ≤ v3.heap.size) := Lib.hid hb.size
  replace ot2 := ot2.below hb
  replace hbel := hbel.trans (hb.mono hbel.size)
  clear hb
  clear ot2
  have ha5 : Below v3.heap.size v3 (v3.alloc (.cells #[.int .i64 (outR xListZ xTurns).1.1, .int .i64 (outR xListZ xTurns).1.2] 27)) := (Below.refl _ _).alloc (by simp) _
  replace hbel := hbel.trans (ha5.mono hbel.size)
  clear ha5
  have cw00 : (v3.alloc (.cells #[.int .i64 (outR xListZ xTurns).1.1, .int .i64 (outR xListZ xTurns).1.2] 27)).cell? ⟨v3.heap.size, 0, none⟩ = some (.int .i64 (outR xListZ xTurns).1.1) := by go_simp
  have cw01 : (v3.alloc (.cells #[.int .i64 (outR xListZ xTurns).1.1, .int .i64 (outR xListZ xTurns).1.2] 27)).cell? ⟨v3.heap.size, 1, none⟩ = some (.int .i64 (outR xListZ xTurns).1.2) := by go_simp
  go_wp2_with fail
  obtain ⟨v4, hu⟩ : ∃ u, u = (v3.alloc (.cells #[.int .i64 (outR xListZ xTurns).1.1, .int .i64 (outR xListZ xTurns).1.2] 27)) := ⟨_, rfl⟩
  have s7 : Hid (v3.heap.size + 1 ≤ v4.heap.size) := Lib.hid (by rw [hu]; simp)
  rw [← hu] at cw00 cw01 hbel ⊢
  clear hu
  refine (toGearPairS_any xListA xListC xListZ v4 (hxList.below hbel)).mono ?_
  rintro e v5 ⟨t6A, t6C, rfl, ot6, hb⟩
  have s8 : Hid (v4.heap.size ≤ v5.heap.size) := Lib.hid hb.size
  replace cw00 := kept hb cw00
  replace cw01 := kept hb cw01
  replace hbel := hbel.trans (hb.mono hbel.size)
  clear hb
  go_wp2_with fail
  refine (implOutputTurns t6A t6C xListZ xTurns v5 ot6.rd zxList bxTurns).mono ?_
  rintro e v6 ⟨rfl, hb⟩
  have s9 : Hid (v5.heap.size ≤ v6.heap.size) := Lib.hid hb.size
  replace cw00 := kept hb cw00
  replace cw01 := kept hb cw01
  replace ot6 := ot6.below hb
  replace hbel := hbel.trans (hb.mono hbel.size)
  clear hb
  have ha10 : Below v6.heap.size v6 (v6.alloc (.cells #[.int .i64 (outR xListZ xTurns).1.1, .int .i64 (outR xListZ xTurns).1.2] 27)) := (Below.refl _ _).alloc (by simp) _
  replace cw00 := kept ha10 cw00
  replace cw01 := kept ha10 cw01
  replace ot6 := ot6.below ha10
  replace hbel := hbel.trans (ha10.mono hbel.size)
  clear ha10
  have cg00 : (v6.alloc (.cells #[.int .i64 (outR xListZ xTurns).1.1, .int .i64 (outR xListZ xTurns).1.2] 27)).cell? ⟨v6.heap.size, 0, none⟩ = some (.int .i64 (outR xListZ xTurns).1.1) := by go_simp
  have cg01 : (v6.alloc (.cells #[.int .i64 (outR xListZ xTurns).1.1, .int .i64 (outR xListZ xTurns).1.2] 27)).cell? ⟨v6.heap.size, 1, none⟩ = some (.int .i64 (outR xListZ xTurns).1.2) := by go_simp
  have q11 : decide ((outR xListZ xTurns).1 = (outR xListZ xTurns).1) = true := decide_eq_true rfl
  go_wp2_with fail
  obtain ⟨v7, hu⟩ : ∃ u, u = (v6.alloc (.cells #[.int .i64 (outR xListZ xTurns).1.1, .int .i64 (outR xListZ xTurns).1.2] 27)) := ⟨_, rfl⟩
  have s12 : Hid (v6.heap.size + 1 ≤ v7.heap.size) := Lib.hid (by rw [hu]; simp)
  rw [← hu] at cw00 cw01 cg00 cg01 ot6 hbel ⊢
  clear hu
  refine (eqFraction_any (outR xListZ xTurns).1 (outR xListZ xTurns).1 v7).mono ?_
  rintro e v8 ⟨rfl, hb⟩
  have s13 : Hid (v7.heap.size ≤ v8.heap.size) := Lib.hid hb.size
  replace cw00 := kept hb cw00
  replace cw01 := kept hb cw01
  replace cg00 := kept hb cg00
  replace cg01 := kept hb cg01
  replace ot6 := ot6.below hb
  replace hbel := hbel.trans (hb.mono hbel.size)
  clear hb
  have q14 : decide (xListZ = xListZ) = true := decide_eq_true rfl
  go_wp2_with fail
  refine (toGearPairS_any xListA xListC xListZ v8 (hxList.below hbel)).mono ?_
  rintro e v9 ⟨t15A, t15C, rfl, ot15, hb⟩
  have s16 : Hid (v8.heap.size ≤ v9.heap.size) := Lib.hid hb.size
  replace cw00 := kept hb cw00
  replace cw01 := kept hb cw01
  replace cg00 := kept hb cg00
  replace cg01 := kept hb cg01
  replace ot6 := ot6.below hb
  replace hbel := hbel.trans (hb.mono hbel.size)
  clear hb
  go_wp2_with fail
  refine (eqGearPairS_any t6A t15A t6C t15C xListZ xListZ v9 ot6.rd ot15.rd).mono ?_
  rintro e v10 ⟨rfl, hb⟩
  have s17 : Hid (v9.heap.size ≤ v10.heap.size) := Lib.hid hb.size
  replace cw00 := kept hb cw00
  replace cw01 := kept hb cw01
  replace cg00 := kept hb cg00
  replace cg01 := kept hb cg01
  replace ot6 := ot6.below hb
  replace ot15 := ot15.below hb
  replace hbel := hbel.trans (hb.mono hbel.size)
  clear hb
  clear ot15
  go_wp2
  go_ret
  exact ⟨rfl, hbel⟩

set_option maxRecDepth 100000 in
theorem lifted (os : Os) (started : os.Started) (H : Type) (enc : TypeId × Value → H) :
    ReturnsInHanded {} Try.checked os 7 .any (Rows.fnExactOutputTurnsSpec.pre6 enc Try.prog Try.f7 Rows.fnExactOutputTurnsRow.domain false) (Rows.fnExactOutputTurnsSpec.post enc Try.prog Try.f7 false true false false) := by
  refine returnsInHanded_of_change (C := Try.checked) own_knob started (by kernel_rfl) Try.func7
    (ChangeSpec.witness6 (enc := enc) (C := Try.checked) false ⟨#[], #[.slice none 0 0, .int .i64 0], []⟩ 8 (by kernel_rfl) (by kernel_rfl) (by kernel_rfl) (by kernel_rfl)) ?_
  intro W base args ds gs before hval0 hW hcnd _
  have hval : ∀ (j : Nat) t v, Try.f7.params[j]? = some t → args[j]? = some v → Value.okWide Try.prog W .any base t v := hval0
  have hW' := hW
  obtain ⟨p, q, hA0, hV, rfl, hfz, hnd⟩ := hW
  have hA : DataW.TrodAll enc Try.prog W 0 (fun _ => true) true Try.f7.params.toList args.toList ds p := hA0
  rw [Try.params7] at hA hval
  obtain ⟨v0, vs0, d0, ds0, p0, q0, hargs, rfl, rfl, h0, r0⟩ := trodAll_cons hA
  obtain ⟨v1, vs1, d1, ds1, p1, q1, rfl, rfl, rfl, h1, r1⟩ := trodAll_cons r0
  obtain ⟨rfl, rfl, rfl⟩ := trodAll_nil r1
  obtain rfl : args = #[v0, v1] := by cases args; simp_all
  obtain ⟨rfl, rfl⟩ := trodVars_none hV
  have k0 := h0
  have lt0 : ∀ x ∈ p0, x.block < W.heap.size := by obtain ⟨m, hm⟩ := k0; exact DataW.trod_lt m _ _ _ hm
  obtain ⟨xListA, xListC, xListZ, rfl, hxList⟩ := open_GearPairS (hval 0 50 v0 rfl rfl) h0
  obtain ⟨xTurns, rfl, rfl, rfl, bxTurns⟩ := open_int Try.underlying2 (hval 1 2 v1 rfl rfl) h1
  clear hA0 hval0
  refine (law_walk xListA xListC xListZ xTurns W hxList bxTurns).mono fun e W' ⟨he, bel⟩ => ?_
  subst he
  exact ⟨_, rfl, _, _, _, [], _, [], hW', trodAll_mk1 (shut_bool Try.underlying4 _), (trodAll_cons_mk (Below.trod laid_out (by kernel_rfl) (of_decide_eq_true (by kernel_rfl)) k0 bel lt0) (trodAll_cons_mk (shut_int Try.underlying2 bxTurns) trodAll_mk0)), rfl, bel.frame _, fun h => by cases h⟩

set_option maxHeartbeats 20000000 in
theorem closed : joinedFacts Try.prog 7 Try.f7 Rows.fnExactOutputTurnsSpec Rows.fnExactOutputTurnsRow = true := by
  simp only [joinedFacts, Bool.and_eq_true]
  refine ⟨⟨⟨⟨⟨⟨⟨⟨⟨⟨⟨⟨⟨⟨⟨⟨⟨⟨⟨⟨⟨⟨⟨⟨⟨⟨⟨⟨⟨⟨⟨?_, laid_out⟩, fact_maps⟩, ?_⟩, ?_⟩, ?_⟩, fact_stops⟩, ?_⟩, fact_knobs⟩, ?_⟩, ?_⟩, ?_⟩, ?_⟩, ?_⟩, ?_⟩, ?_⟩, ?_⟩, ?_⟩, ?_⟩, ?_⟩, ?_⟩, ?_⟩, fact_plain⟩, ?_⟩, fact_heard⟩, fact_enter⟩, fact_lift⟩, ?_⟩, ?_⟩, ?_⟩, ?_⟩, ?_⟩
  all_goals (as_aux_lemma => kernel_rfl)

theorem over : Rows.fnExactOutputTurnsRow.holds Try.pinned (OpenSpec.ofChange Rows.fnExactOutputTurnsSpec) :=
  OpenClaim.holds_of_wide 7 Try.f7 rfl rfl rfl rfl rfl rfl rfl ⟨rfl, rfl, rfl, rfl, rfl⟩ rfl rfl rfl rfl rfl (by as_aux_lemma => kernel_rfl) Try.func7 closed
    (of_decide_eq_true (by as_aux_lemma => kernel_rfl)) (by unfold Func.isWrapper; rw [if_neg (by decide +kernel)]; exact ⟨rfl, rfl⟩)
    (fun os started H enc _ => lifted os started H enc)

/-- The statement. -/
theorem proved : Rows.FnExactOutputTurnsSaid := over
end Go.Proofs.Ytaefgkhbgljkoaa.lawOutputTurns
