/-
  laws.FnExactIsPlain returns true at every input (no condition), and leaves its arguments as they were.
-/
import Derived.Test.YthhphopmkmbmiaaAbaL
import Derived.Test.YthhphopmkmbmiaaBoxAba
import Derived.Test.YthhphopmkmbmiaaFrameA
import Derived.Test.YthhphopmkmbmiaaAbaU
import Derived.Test.YthhphopmkmbmiaaAbaY
import Derived.Deep.RegionHeld3
import Derived.Test.YthhphopmkmbmiaaFacts
import Derived.Test.YthhphopmkmbmiaaRows
namespace Go.Proofs.Ythhphopmkmbmiaa.lawIsPlain
open Go.ChangeShapes Go.WideShapes Go.ChangeAt Go.WideElems Go.RowKit Go.Joins
open Go.ChangeMaps (open_string shut_string)

set_option maxRecDepth 100000 in
set_option maxHeartbeats 4000000 in
theorem law_walk (xAU : Int) (xAL : Int) (xAW : Int) (xAA : Option Addr) (xAC : Nat) (xAR : List (Int × Int)) (w : World) (hxA : RawF pairF (fun x => I64 x.1 ∧ I64 x.2) w xAA xAR) (bxAU : I64 xAU) (bxAL : I64 xAL) (bxAW : I64 xAW) :
    Calls Try.prog 11 #[.agg #[.int .i64 xAU, .int .i64 xAL, .int .i64 xAW, .slice xAA xAR.length xAC]] w fun e w' => e = .returned (.bool true) ∧ Below w.heap.size w w' := by
  have hbel : Below w.heap.size w (w.alloc (.cells #[.int .i64 xAU, .int .i64 xAL, .int .i64 xAW, .slice xAA xAR.length xAC] 73)) := (Below.refl _ _).alloc (by simp) _
  have cxA0 : (w.alloc (.cells #[.int .i64 xAU, .int .i64 xAL, .int .i64 xAW, .slice xAA xAR.length xAC] 73)).cell? ⟨w.heap.size, 0, none⟩ = some (.int .i64 xAU) := by go_simp
  have cxA1 : (w.alloc (.cells #[.int .i64 xAU, .int .i64 xAL, .int .i64 xAW, .slice xAA xAR.length xAC] 73)).cell? ⟨w.heap.size, 1, none⟩ = some (.int .i64 xAL) := by go_simp
  have cxA2 : (w.alloc (.cells #[.int .i64 xAU, .int .i64 xAL, .int .i64 xAW, .slice xAA xAR.length xAC] 73)).cell? ⟨w.heap.size, 2, none⟩ = some (.int .i64 xAW) := by go_simp
  have cxA3 : (w.alloc (.cells #[.int .i64 xAU, .int .i64 xAL, .int .i64 xAW, .slice xAA xAR.length xAC] 73)).cell? ⟨w.heap.size, 3, none⟩ = some (.slice xAA xAR.length xAC) := by go_simp
  go_enter Try.func11, Try.ntmps11
  go_wp2_with fail
  obtain ⟨v1, hu⟩ : ∃ u, u = (w.alloc (.cells #[.int .i64 xAU, .int .i64 xAL, .int .i64 xAW, .slice xAA xAR.length xAC] 73)) := ⟨_, rfl⟩
  have s1 : Hid (w.heap.size + 1 ≤ v1.heap.size) := Lib.hid (by rw [hu]; simp)
  rw [← hu] at cxA0 cxA1 cxA2 cxA3 hbel ⊢
  clear hu
  rcases Int.lt_or_le (leftOf xAR.length 1048576) 0 with k1 | k1
  · refine (szAbacus_any xAU xAL xAW xAA xAR.length xAC 1048576 v1 hxA.len (by omega) (by omega)).mono ?_
    rintro e v2 ⟨rfl, hb⟩
    go_wp2
    go_ret
    exact ⟨rfl, hbel.trans (hb.mono hbel.size)⟩
  have m1 := leftOf_le xAR.length 1048576 (by omega)
  refine (szAbacus_any xAU xAL xAW xAA xAR.length xAC 1048576 v1 hxA.len (by omega) (by omega)).mono ?_
  rintro e v2 ⟨rfl, hb⟩
  have s2 : Hid (v1.heap.size ≤ v2.heap.size) := Lib.hid hb.size
  replace cxA0 := kept hb cxA0
  replace cxA1 := kept hb cxA1
  replace cxA2 := kept hb cxA2
  replace cxA3 := kept hb cxA3
  replace hbel := hbel.trans (hb.mono hbel.size)
  clear hb
  have zxA := hxA.wf
  replace hxA := hxA.rd (by have := leftOf_len k1; omega)
  go_wp2_with fail
  refine (toAbacus_any xAU xAL xAW xAA xAC xAR v2 (hxA.below hbel)).mono ?_
  rintro e v3 ⟨t3A, t3C, rfl, ot3, hb⟩
  have s4 : Hid (v2.heap.size ≤ v3.heap.size) := Lib.hid hb.size
  replace cxA0 := kept hb cxA0
  replace cxA1 := kept hb cxA1
  replace cxA2 := kept hb cxA2
  replace cxA3 := kept hb cxA3
  replace hbel := hbel.trans (hb.mono hbel.size)
  clear hb
  go_wp2_with fail
  refine (specIsPlain xAU xAL xAW t3A t3C xAR v3 ot3.rd bxAU bxAL bxAW zxA).mono ?_
  rintro e v4 ⟨rfl, hb⟩
  have s5 : Hid (v3.heap.size ≤ v4.heap.size) := Lib.hid hb.size
  replace cxA0 := kept hb cxA0
  replace cxA1 := kept hb cxA1
  replace cxA2 := kept hb cxA2
  replace cxA3 := kept hb cxA3
  replace ot3 := ot3.below hb
  replace hbel := hbel.trans (hb.mono hbel.size)
  clear hb
  clear ot3
  go_wp2_with fail
  refine (toAbacus_any xAU xAL xAW xAA xAC xAR v4 (hxA.below hbel)).mono ?_
  rintro e v5 ⟨t6A, t6C, rfl, ot6, hb⟩
  have s7 : Hid (v4.heap.size ≤ v5.heap.size) := Lib.hid hb.size
  replace cxA0 := kept hb cxA0
  replace cxA1 := kept hb cxA1
  replace cxA2 := kept hb cxA2
  replace cxA3 := kept hb cxA3
  replace hbel := hbel.trans (hb.mono hbel.size)
  clear hb
  have ha8 : Below v5.heap.size v5 (v5.alloc (.cells #[.int .i64 xAU, .int .i64 xAL, .int .i64 xAW, .slice t6A xAR.length t6C] 38)) := (Below.refl _ _).alloc (by simp) _
  replace cxA0 := kept ha8 cxA0
  replace cxA1 := kept ha8 cxA1
  replace cxA2 := kept ha8 cxA2
  replace cxA3 := kept ha8 cxA3
  replace ot6 := ot6.below ha8
  replace hbel := hbel.trans (ha8.mono hbel.size)
  clear ha8
  have cx00 : (v5.alloc (.cells #[.int .i64 xAU, .int .i64 xAL, .int .i64 xAW, .slice t6A xAR.length t6C] 38)).cell? ⟨v5.heap.size, 0, none⟩ = some (.int .i64 xAU) := by go_simp
  have cx01 : (v5.alloc (.cells #[.int .i64 xAU, .int .i64 xAL, .int .i64 xAW, .slice t6A xAR.length t6C] 38)).cell? ⟨v5.heap.size, 1, none⟩ = some (.int .i64 xAL) := by go_simp
  have cx02 : (v5.alloc (.cells #[.int .i64 xAU, .int .i64 xAL, .int .i64 xAW, .slice t6A xAR.length t6C] 38)).cell? ⟨v5.heap.size, 2, none⟩ = some (.int .i64 xAW) := by go_simp
  have cx03 : (v5.alloc (.cells #[.int .i64 xAU, .int .i64 xAL, .int .i64 xAW, .slice t6A xAR.length t6C] 38)).cell? ⟨v5.heap.size, 3, none⟩ = some (.slice t6A xAR.length t6C) := by go_simp
  go_wp2_with fail
  obtain ⟨v6, hu⟩ : ∃ u, u = (v5.alloc (.cells #[.int .i64 xAU, .int .i64 xAL, .int .i64 xAW, .slice t6A xAR.length t6C] 38)) := ⟨_, rfl⟩
  have s9 : Hid (v5.heap.size + 1 ≤ v6.heap.size) := Lib.hid (by rw [hu]; simp)
  rw [← hu] at cxA0 cxA1 cxA2 cxA3 cx00 cx01 cx02 cx03 ot6 hbel ⊢
  clear hu
  refine (implIsPlain xAU xAL xAW t6A t6C xAR v6 ot6.rd bxAU bxAL bxAW zxA).mono ?_
  rintro e v7 ⟨rfl, hb⟩
  have s10 : Hid (v6.heap.size ≤ v7.heap.size) := Lib.hid hb.size
  replace cxA0 := kept hb cxA0
  replace cxA1 := kept hb cxA1
  replace cxA2 := kept hb cxA2
  replace cxA3 := kept hb cxA3
  replace cx00 := kept hb cx00
  replace cx01 := kept hb cx01
  replace cx02 := kept hb cx02
  replace cx03 := kept hb cx03
  replace ot6 := ot6.below hb
  replace hbel := hbel.trans (hb.mono hbel.size)
  clear hb
  have q11 : abaEqB xAU xAL xAW xAU xAL xAW xAR xAR = true := abaEqB_self _ _ _ _
  go_wp2_with fail
  have rcxA0 := kept_all cxA0
  have rcxA1 := kept_all cxA1
  have rcxA2 := kept_all cxA2
  have rcxA3 := kept_all cxA3
  have rcx00 := kept_all cx00
  have rcx01 := kept_all cx01
  have rcx02 := kept_all cx02
  have rcx03 := kept_all cx03
  go_region_held3 (fun w' => Below v7.heap.size v7 w') (first | exact hk | exact (Below.refl _ _).drew | exact hk.alloc hk.size _ | exact (hk.alloc hk.size _).setCell hk.size _)
    (first | (go_at_call 64; have qB := ‹Below v7.heap.size v7 _›; ((with_reducible refine (toAbacus_any xAU xAL xAW xAA xAC xAR _ (hxA.below (hbel.trans (qB.mono hbel.size)))).mono ?_)); rintro e v9 ⟨t12A, t12C, rfl, ot12, hb⟩; have hk := qB.trans (hb.mono qB.size)) | (go_at_call 65; have qB := ‹Below v7.heap.size v7 _›; refine (eqAbacus_any xAU xAL xAW xAU xAL xAW t6A t12A t6C t12C xAR xAR _ (ot6.below qB).rd (by first | exact ot12.rd | exact (ot12.alloc _).rd)).mono ?_; rintro e v8 ⟨rfl, hb⟩; have hk := qB.trans (hb.mono qB.size)))
  have hb : Below v7.heap.size v7 v8 := by assumption
  clear rcxA0 rcxA1 rcxA2 rcxA3 rcx00 rcx01 rcx02 rcx03
  clear ot12
  have s13 : Hid (v7.heap.size ≤ v8.heap.size) := Lib.hid hb.size
  replace cxA0 := kept hb cxA0
  replace cxA1 := kept hb cxA1
  replace cxA2 := kept hb cxA2
  replace cxA3 := kept hb cxA3
  replace cx00 := kept hb cx00
  replace cx01 := kept hb cx01
  replace cx02 := kept hb cx02
  replace cx03 := kept hb cx03
  replace ot6 := ot6.below hb
  replace hbel := hbel.trans (hb.mono hbel.size)
  clear hb
  go_wp2
  go_ret
  exact ⟨rfl, hbel⟩

set_option maxRecDepth 100000 in
theorem lifted (os : Os) (started : os.Started) (H : Type) (enc : TypeId × Value → H) :
    ReturnsInHanded {} Try.checked os 11 .any (Rows.fnExactIsPlainSpec.pre6 enc Try.prog Try.f11 Rows.fnExactIsPlainRow.domain false) (Rows.fnExactIsPlainSpec.post enc Try.prog Try.f11 false true false false) := by
  refine returnsInHanded_of_change (C := Try.checked) own_knob started (by kernel_rfl) Try.func11
    (ChangeSpec.witness6 (enc := enc) (C := Try.checked) false ⟨#[], #[.agg #[.int .i64 0, .int .i64 0, .int .i64 0, .slice none 0 0]], []⟩ 8 (by kernel_rfl) (by kernel_rfl) (by kernel_rfl) (by kernel_rfl)) ?_
  intro W base args ds gs before hval0 hW hcnd _
  have hval : ∀ (j : Nat) t v, Try.f11.params[j]? = some t → args[j]? = some v → Value.okWide Try.prog W .any base t v := hval0
  have hW' := hW
  obtain ⟨p, q, hA0, hV, rfl, hfz, hnd⟩ := hW
  have hA : DataW.TrodAll enc Try.prog W 0 (fun _ => true) true Try.f11.params.toList args.toList ds p := hA0
  rw [Try.params11] at hA hval
  obtain ⟨v0, vs0, d0, ds0, p0, q0, hargs, rfl, rfl, h0, r0⟩ := trodAll_cons hA
  obtain ⟨rfl, rfl, rfl⟩ := trodAll_nil r0
  obtain rfl : args = #[v0] := by cases args; simp_all
  obtain ⟨rfl, rfl⟩ := trodVars_none hV
  have k0 := h0
  have lt0 : ∀ x ∈ p0, x.block < W.heap.size := by obtain ⟨m, hm⟩ := k0; exact DataW.trod_lt m _ _ _ hm
  obtain ⟨xAU, xAL, xAW, xAA, xAC, xAR, rfl, hxA, bxAU, bxAL, bxAW⟩ := open_Abacus (hval 0 73 v0 rfl rfl) h0
  clear hA0 hval0
  refine (law_walk xAU xAL xAW xAA xAC xAR W hxA bxAU bxAL bxAW).mono fun e W' ⟨he, bel⟩ => ?_
  subst he
  exact ⟨_, rfl, _, _, _, [], _, [], hW', trodAll_mk1 (shut_bool Try.underlying4 _), (trodAll_cons_mk (Below.trod laid_out (by kernel_rfl) (of_decide_eq_true (by kernel_rfl)) k0 bel lt0) trodAll_mk0), rfl, bel.frame _, fun h => by cases h⟩

set_option maxHeartbeats 20000000 in
theorem closed : joinedFacts Try.prog 11 Try.f11 Rows.fnExactIsPlainSpec Rows.fnExactIsPlainRow = true := by
  simp only [joinedFacts, Bool.and_eq_true]
  refine ⟨⟨⟨⟨⟨⟨⟨⟨⟨⟨⟨⟨⟨⟨⟨⟨⟨⟨⟨⟨⟨⟨⟨⟨⟨⟨⟨⟨⟨⟨⟨?_, laid_out⟩, fact_maps⟩, ?_⟩, ?_⟩, ?_⟩, fact_stops⟩, ?_⟩, fact_knobs⟩, ?_⟩, ?_⟩, ?_⟩, ?_⟩, ?_⟩, ?_⟩, ?_⟩, ?_⟩, ?_⟩, ?_⟩, ?_⟩, ?_⟩, ?_⟩, fact_plain⟩, ?_⟩, fact_heard⟩, fact_enter⟩, fact_lift⟩, ?_⟩, ?_⟩, ?_⟩, ?_⟩, ?_⟩
  all_goals (as_aux_lemma => kernel_rfl)

theorem over : Rows.fnExactIsPlainRow.holds Try.pinned (OpenSpec.ofChange Rows.fnExactIsPlainSpec) :=
  OpenClaim.holds_of_wide 11 Try.f11 rfl rfl rfl rfl rfl rfl rfl ⟨rfl, rfl, rfl, rfl, rfl⟩ rfl rfl rfl rfl rfl (by as_aux_lemma => kernel_rfl) Try.func11 closed
    (of_decide_eq_true (by as_aux_lemma => kernel_rfl)) (by unfold Func.isWrapper; rw [if_neg (by decide +kernel)]; exact ⟨rfl, rfl⟩)
    (fun os started H enc _ => lifted os started H enc)

/-- The statement. -/
theorem proved : Rows.FnExactIsPlainSaid := over
end Go.Proofs.Ythhphopmkmbmiaa.lawIsPlain
