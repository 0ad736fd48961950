/-
  laws.FnExactDigitFor returns true at every input (no condition), and leaves its arguments as they were.
-/
import Derived.Test.YtkhfbhphmdcelaaReg
import Derived.Test.YtkhfbhphmdcelaaBox
import Derived.Test.YtkhfbhphmdcelaaFrame
import Derived.Test.YtkhfbhphmdcelaaDrumL
import Derived.Test.YtkhfbhphmdcelaaDigI
import Derived.Test.YtkhfbhphmdcelaaDigS
import Derived.Test.YtkhfbhphmdcelaaFacts
import Derived.Test.YtkhfbhphmdcelaaRows
namespace Go.Proofs.Ytkhfbhphmdcelaa.lawDigitFor
open Go.ChangeShapes Go.WideShapes Go.ChangeAt Go.WideElems Go.RowKit Go.Joins
open Go.ChangeMaps (open_string shut_string)

set_option maxRecDepth 100000 in
set_option maxHeartbeats 4000000 in
theorem law_walk (xDK : Int) (xDB : Int) (xDT : Int) (xDF : Int) (xTimesA : Option Addr) (xTimesC : Nat) (xTimesZ : List Int) (w : World) (bxD : I64 xDK ∧ I64 xDB ∧ I64 xDT ∧ I64 xDF) (hxTimes : Raw w xTimesA xTimesZ) :
    Calls Try.prog 10 #[.agg #[.int .i64 xDK, .int .i64 xDB, .int .i64 xDT, .int .i64 xDF], .slice xTimesA xTimesZ.length xTimesC] w fun e w' => e = .returned (.bool true) ∧ Below w.heap.size w w' := by
  rcases Nat.lt_or_ge 1048576 xTimesZ.length with kxTimes | fxTimes
  · have lxTimes := hxTimes.len
    go_enter Try.func10, Try.ntmps10
    go_wp2
    go_ret
    exact ⟨rfl, (Below.refl _ _).alloc (by simp) _⟩
  have zxTimes := hxTimes.wf
  replace hxTimes := hxTimes.rd (by omega)
  have hbel : Below w.heap.size w (w.alloc (.cells #[.int .i64 xDK, .int .i64 xDB, .int .i64 xDT, .int .i64 xDF] 73)) := (Below.refl _ _).alloc (by simp) _
  have cxD0 : (w.alloc (.cells #[.int .i64 xDK, .int .i64 xDB, .int .i64 xDT, .int .i64 xDF] 73)).cell? ⟨w.heap.size, 0, none⟩ = some (.int .i64 xDK) := by go_simp
  have cxD1 : (w.alloc (.cells #[.int .i64 xDK, .int .i64 xDB, .int .i64 xDT, .int .i64 xDF] 73)).cell? ⟨w.heap.size, 1, none⟩ = some (.int .i64 xDB) := by go_simp
  have cxD2 : (w.alloc (.cells #[.int .i64 xDK, .int .i64 xDB, .int .i64 xDT, .int .i64 xDF] 73)).cell? ⟨w.heap.size, 2, none⟩ = some (.int .i64 xDT) := by go_simp
  have cxD3 : (w.alloc (.cells #[.int .i64 xDK, .int .i64 xDB, .int .i64 xDT, .int .i64 xDF] 73)).cell? ⟨w.heap.size, 3, none⟩ = some (.int .i64 xDF) := by go_simp
  go_enter Try.func10, Try.ntmps10
  go_wp2_with fail
  obtain ⟨v1, hu⟩ : ∃ u, u = (w.alloc (.cells #[.int .i64 xDK, .int .i64 xDB, .int .i64 xDT, .int .i64 xDF] 73)) := ⟨_, rfl⟩
  have s2 : Hid (w.heap.size + 1 ≤ v1.heap.size) := Lib.hid (by rw [hu]; simp)
  rw [← hu] at cxD0 cxD1 cxD2 cxD3 hbel ⊢
  clear hu
  refine (toDrum_any xDK xDB xDT xDF v1).mono ?_
  rintro e v2 ⟨rfl, hb⟩
  have s3 : Hid (v1.heap.size ≤ v2.heap.size) := Lib.hid hb.size
  replace cxD0 := kept hb cxD0
  replace cxD1 := kept hb cxD1
  replace cxD2 := kept hb cxD2
  replace cxD3 := kept hb cxD3
  replace hbel := hbel.trans (hb.mono hbel.size)
  clear hb
  go_wp2_with fail
  refine (toInt64S_any xTimesA xTimesC xTimesZ v2 (hxTimes.below hbel)).mono ?_
  rintro e v3 ⟨t4A, t4C, rfl, ot4, hb⟩
  have s5 : Hid (v2.heap.size ≤ v3.heap.size) := Lib.hid hb.size
  replace cxD0 := kept hb cxD0
  replace cxD1 := kept hb cxD1
  replace cxD2 := kept hb cxD2
  replace cxD3 := kept hb cxD3
  replace hbel := hbel.trans (hb.mono hbel.size)
  clear hb
  go_wp2_with fail
  refine (specDigitFor xDK xDB xDT xDF t4A t4C xTimesZ v3 bxD ot4.rd zxTimes).mono ?_
  rintro e v4 ⟨rfl, hb⟩
  have s6 : Hid (v3.heap.size ≤ v4.heap.size) := Lib.hid hb.size
  replace cxD0 := kept hb cxD0
  replace cxD1 := kept hb cxD1
  replace cxD2 := kept hb cxD2
  replace cxD3 := kept hb cxD3
  replace ot4 := ot4.below hb
  replace hbel := hbel.trans (hb.mono hbel.size)
  clear hb
  clear ot4
  go_wp2_with fail
  refine (toInt64S_any xTimesA xTimesC xTimesZ v4 (hxTimes.below hbel)).mono ?_
  rintro e v5 ⟨t7A, t7C, rfl, ot7, hb⟩
  have s8 : Hid (v4.heap.size ≤ v5.heap.size) := Lib.hid hb.size
  replace cxD0 := kept hb cxD0
  replace cxD1 := kept hb cxD1
  replace cxD2 := kept hb cxD2
  replace cxD3 := kept hb cxD3
  replace hbel := hbel.trans (hb.mono hbel.size)
  clear hb
  go_wp2_with fail
  refine (toDrum_any xDK xDB xDT xDF v5).mono ?_
  rintro e v6 ⟨rfl, hb⟩
  have s10 : Hid (v5.heap.size ≤ v6.heap.size) := Lib.hid hb.size
  replace cxD0 := kept hb cxD0
  replace cxD1 := kept hb cxD1
  replace cxD2 := kept hb cxD2
  replace cxD3 := kept hb cxD3
  replace ot7 := ot7.below hb
  replace hbel := hbel.trans (hb.mono hbel.size)
  clear hb
  go_wp2_with fail
  refine (implDigitFor xDK xDB xDT xDF t7A t7C xTimesZ v6 bxD ot7.rd zxTimes).mono ?_
  rintro e v7 ⟨rfl, hb⟩
  have s11 : Hid (v6.heap.size ≤ v7.heap.size) := Lib.hid hb.size
  replace cxD0 := kept hb cxD0
  replace cxD1 := kept hb cxD1
  replace cxD2 := kept hb cxD2
  replace cxD3 := kept hb cxD3
  replace ot7 := ot7.below hb
  replace hbel := hbel.trans (hb.mono hbel.size)
  clear hb
  have q12 : decide (xTimesZ = xTimesZ) = true := decide_eq_true rfl
  go_wp2_with fail
  refine (toInt64S_any xTimesA xTimesC xTimesZ v7 (hxTimes.below hbel)).mono ?_
  rintro e v8 ⟨t13A, t13C, rfl, ot13, hb⟩
  have s14 : Hid (v7.heap.size ≤ v8.heap.size) := Lib.hid hb.size
  replace cxD0 := kept hb cxD0
  replace cxD1 := kept hb cxD1
  replace cxD2 := kept hb cxD2
  replace cxD3 := kept hb cxD3
  replace ot7 := ot7.below hb
  replace hbel := hbel.trans (hb.mono hbel.size)
  clear hb
  go_wp2_with fail
  refine (eqInt64S_any t7A t13A t7C t13C xTimesZ xTimesZ v8 ot7.rd ot13.rd).mono ?_
  rintro e v9 ⟨rfl, n, hn⟩
  have hb : Below v8.heap.size v8 v9 := by rw [hn]; exact bel_drewN (Below.refl _ _) n
  clear hn
  have s15 : Hid (v8.heap.size ≤ v9.heap.size) := Lib.hid hb.size
  replace cxD0 := kept hb cxD0
  replace cxD1 := kept hb cxD1
  replace cxD2 := kept hb cxD2
  replace cxD3 := kept hb cxD3
  replace ot7 := ot7.below hb
  replace ot13 := ot13.below hb
  replace hbel := hbel.trans (hb.mono hbel.size)
  clear hb
  clear ot13
  go_wp2
  go_ret
  exact ⟨rfl, hbel⟩

set_option maxRecDepth 100000 in
theorem lifted (os : Os) (started : os.Started) (H : Type) (enc : TypeId × Value → H) :
    ReturnsInHanded {} Try.checked os 10 .any (Rows.fnExactDigitForSpec.pre6 enc Try.prog Try.f10 Rows.fnExactDigitForRow.domain false) (Rows.fnExactDigitForSpec.post enc Try.prog Try.f10 false true false false) := by
  refine returnsInHanded_of_change (C := Try.checked) own_knob started (by kernel_rfl) Try.func10
    (ChangeSpec.witness6 (enc := enc) (C := Try.checked) false ⟨#[], #[.agg #[.int .i64 0, .int .i64 0, .int .i64 0, .int .i64 0], .slice none 0 0], []⟩ 8 (by kernel_rfl) (by kernel_rfl) (by kernel_rfl) (by kernel_rfl)) ?_
  intro W base args ds gs before hval0 hW hcnd _
  have hval : ∀ (j : Nat) t v, Try.f10.params[j]? = some t → args[j]? = some v → Value.okWide Try.prog W .any base t v := hval0
  have hW' := hW
  obtain ⟨p, q, hA0, hV, rfl, hfz, hnd⟩ := hW
  have hA : DataW.TrodAll enc Try.prog W 0 (fun _ => true) true Try.f10.params.toList args.toList ds p := hA0
  rw [Try.params10] at hA hval
  obtain ⟨v0, vs0, d0, ds0, p0, q0, hargs, rfl, rfl, h0, r0⟩ := trodAll_cons hA
  obtain ⟨v1, vs1, d1, ds1, p1, q1, rfl, rfl, rfl, h1, r1⟩ := trodAll_cons r0
  obtain ⟨rfl, rfl, rfl⟩ := trodAll_nil r1
  obtain rfl : args = #[v0, v1] := by cases args; simp_all
  obtain ⟨rfl, rfl⟩ := trodVars_none hV
  have k0 := h0
  have lt0 : ∀ x ∈ p0, x.block < W.heap.size := by obtain ⟨m, hm⟩ := k0; exact DataW.trod_lt m _ _ _ hm
  obtain ⟨xDK, xDB, xDT, xDF, rfl, bxD⟩ := open_Drum (hval 0 73 v0 rfl rfl) h0
  have k1 := h1
  have lt1 : ∀ x ∈ p1, x.block < W.heap.size := by obtain ⟨m, hm⟩ := k1; exact DataW.trod_lt m _ _ _ hm
  obtain ⟨xTimesA, xTimesC, xTimesZ, rfl, hxTimes⟩ := open_Int64S (hval 1 58 v1 rfl rfl) h1
  clear hA0 hval0
  refine (law_walk xDK xDB xDT xDF xTimesA xTimesC xTimesZ W bxD hxTimes).mono fun e W' ⟨he, bel⟩ => ?_
  subst he
  exact ⟨_, rfl, _, _, _, [], _, [], hW', trodAll_mk1 (shut_bool Try.underlying4 _), (trodAll_cons_mk (Below.trod laid_out (by kernel_rfl) (of_decide_eq_true (by kernel_rfl)) k0 bel lt0) (trodAll_cons_mk (Below.trod laid_out (by kernel_rfl) (of_decide_eq_true (by kernel_rfl)) k1 bel lt1) trodAll_mk0)), rfl, bel.frame _, fun h => by cases h⟩

set_option maxHeartbeats 20000000 in
theorem closed : joinedFacts Try.prog 10 Try.f10 Rows.fnExactDigitForSpec Rows.fnExactDigitForRow = true := by
  simp only [joinedFacts, Bool.and_eq_true]
  refine ⟨⟨⟨⟨⟨⟨⟨⟨⟨⟨⟨⟨⟨⟨⟨⟨⟨⟨⟨⟨⟨⟨⟨⟨⟨⟨⟨⟨⟨⟨⟨?_, laid_out⟩, fact_maps⟩, ?_⟩, ?_⟩, ?_⟩, fact_stops⟩, ?_⟩, fact_knobs⟩, ?_⟩, ?_⟩, ?_⟩, ?_⟩, ?_⟩, ?_⟩, ?_⟩, ?_⟩, ?_⟩, ?_⟩, ?_⟩, ?_⟩, ?_⟩, fact_plain⟩, ?_⟩, fact_heard⟩, fact_enter⟩, fact_lift⟩, ?_⟩, ?_⟩, ?_⟩, ?_⟩, ?_⟩
  all_goals (as_aux_lemma => kernel_rfl)

theorem over : Rows.fnExactDigitForRow.holds Try.pinned (OpenSpec.ofChange Rows.fnExactDigitForSpec) :=
  OpenClaim.holds_of_wide 10 Try.f10 rfl rfl rfl rfl rfl rfl rfl ⟨rfl, rfl, rfl, rfl, rfl⟩ rfl rfl rfl rfl rfl (by as_aux_lemma => kernel_rfl) Try.func10 closed
    (of_decide_eq_true (by as_aux_lemma => kernel_rfl)) (by unfold Func.isWrapper; rw [if_neg (by decide +kernel)]; exact ⟨rfl, rfl⟩)
    (fun os started H enc _ => lifted os started H enc)

/-- The statement. -/
theorem proved : Rows.FnExactDigitForSaid := over
end Go.Proofs.Ytkhfbhphmdcelaa.lawDigitFor
