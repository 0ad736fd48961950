/-
  laws.FnExactMoveNeeded returns true at every input (no condition), and leaves its arguments as they were.
-/
import Derived.Test.YtaefgkhbgljkoaaChain
import Derived.Test.YtaefgkhbgljkoaaFrameG
import Derived.Test.YtaefgkhbgljkoaaChainJ
import Derived.Test.YtaefgkhbgljkoaaChainT
import Derived.Deep.RegionHeld3
import Derived.Test.YtaefgkhbgljkoaaFacts
import Derived.Test.YtaefgkhbgljkoaaRows
namespace Go.Proofs.Ytaefgkhbgljkoaa.lawMoveNeeded
open Go.ChangeShapes Go.WideShapes Go.ChangeAt Go.WideElems Go.RowKit Go.Joins
open Go.ChangeMaps (open_string shut_string)

set_option maxRecDepth 100000 in
set_option maxHeartbeats 4000000 in
theorem law_walk (xCA : Option Addr) (xCC : Nat) (xCP : List Int) (xCD : Option Addr) (xCE : Nat) (xCQ : List Int) (xGoal : Int) (w : World) (hxC : Raw2 w xCA xCP xCD xCQ) (bxGoal : I64 xGoal) :
    Calls Try.prog 16 #[.agg #[.slice xCA xCP.length xCC, .slice xCD xCQ.length xCE], .int .i64 xGoal] w fun e w' => e = .returned (.bool true) ∧ Below w.heap.size w w' := by
  have hbel : Below w.heap.size w (w.alloc (.cells #[.slice xCA xCP.length xCC, .slice xCD xCQ.length xCE] 60)) := (Below.refl _ _).alloc (by simp) _
  have cxC0 : (w.alloc (.cells #[.slice xCA xCP.length xCC, .slice xCD xCQ.length xCE] 60)).cell? ⟨w.heap.size, 0, none⟩ = some (.slice xCA xCP.length xCC) := by go_simp
  have cxC1 : (w.alloc (.cells #[.slice xCA xCP.length xCC, .slice xCD xCQ.length xCE] 60)).cell? ⟨w.heap.size, 1, none⟩ = some (.slice xCD xCQ.length xCE) := by go_simp
  go_enter Try.func16, Try.ntmps16
  go_wp2_with fail
  obtain ⟨v1, hu⟩ : ∃ u, u = (w.alloc (.cells #[.slice xCA xCP.length xCC, .slice xCD xCQ.length xCE] 60)) := ⟨_, rfl⟩
  have s1 : Hid (w.heap.size + 1 ≤ v1.heap.size) := Lib.hid (by rw [hu]; simp)
  rw [← hu] at cxC0 cxC1 hbel ⊢
  clear hu
  rcases Int.lt_or_le (leftOf (xCP.length + xCQ.length) 1048576) 0 with k1 | k1
  · refine (szChain_any xCA xCP.length xCC xCD xCQ.length xCE 1048576 v1 hxC.len (by omega) (by omega)).mono ?_
    rintro e v2 ⟨rfl, hb⟩
    go_wp2
    go_ret
    exact ⟨rfl, hbel.trans (hb.mono hbel.size)⟩
  have m1 := leftOf_le (xCP.length + xCQ.length) 1048576 (by omega)
  refine (szChain_any xCA xCP.length xCC xCD xCQ.length xCE 1048576 v1 hxC.len (by omega) (by omega)).mono ?_
  rintro e v2 ⟨rfl, hb⟩
  have s2 : Hid (v1.heap.size ≤ v2.heap.size) := Lib.hid hb.size
  replace cxC0 := kept hb cxC0
  replace cxC1 := kept hb cxC1
  replace hbel := hbel.trans (hb.mono hbel.size)
  clear hb
  have zxC := hxC.wf
  replace hxC := hxC.rd (by have := leftOf_len k1; omega)
  go_wp2_with fail
  refine (toChain_any xCA xCC xCP xCD xCE xCQ v2 (hxC.below hbel)).mono ?_
  rintro e v3 ⟨t3A, t3C, t3D, t3E, rfl, ot3, hb⟩
  have s4 : Hid (v2.heap.size ≤ v3.heap.size) := Lib.hid hb.size
  replace cxC0 := kept hb cxC0
  replace cxC1 := kept hb cxC1
  replace hbel := hbel.trans (hb.mono hbel.size)
  clear hb
  go_wp2_with fail
  refine (specMoveNeeded t3A t3C xCP t3D t3E xCQ xGoal v3 ot3.rd zxC bxGoal).mono ?_
  rintro e v4 ⟨rfl, hb⟩
  have s5 : Hid (v3.heap.size ≤ v4.heap.size) := Lib.hid hb.size
  replace cxC0 := kept hb cxC0
  replace cxC1 := kept hb cxC1
  replace ot3 := ot3.below hb
  replace hbel := hbel.trans (hb.mono hbel.size)
  clear hb
  clear ot3
  go_wp2_with fail
  refine (toChain_any xCA xCC xCP xCD xCE xCQ v4 (hxC.below hbel)).mono ?_
  rintro e v5 ⟨t6A, t6C, t6D, t6E, rfl, ot6, hb⟩
  have s7 : Hid (v4.heap.size ≤ v5.heap.size) := Lib.hid hb.size
  replace cxC0 := kept hb cxC0
  replace cxC1 := kept hb cxC1
  replace hbel := hbel.trans (hb.mono hbel.size)
  clear hb
  have ha8 : Below v5.heap.size v5 (v5.alloc (.cells #[.slice t6A xCP.length t6C, .slice t6D xCQ.length t6E] 41)) := (Below.refl _ _).alloc (by simp) _
  replace cxC0 := kept ha8 cxC0
  replace cxC1 := kept ha8 cxC1
  replace ot6 := ot6.below ha8
  replace hbel := hbel.trans (ha8.mono hbel.size)
  clear ha8
  have cx00 : (v5.alloc (.cells #[.slice t6A xCP.length t6C, .slice t6D xCQ.length t6E] 41)).cell? ⟨v5.heap.size, 0, none⟩ = some (.slice t6A xCP.length t6C) := by go_simp
  have cx01 : (v5.alloc (.cells #[.slice t6A xCP.length t6C, .slice t6D xCQ.length t6E] 41)).cell? ⟨v5.heap.size, 1, none⟩ = some (.slice t6D xCQ.length t6E) := by go_simp
  go_wp2_with fail
  obtain ⟨v6, hu⟩ : ∃ u, u = (v5.alloc (.cells #[.slice t6A xCP.length t6C, .slice t6D xCQ.length t6E] 41)) := ⟨_, rfl⟩
  have s9 : Hid (v5.heap.size + 1 ≤ v6.heap.size) := Lib.hid (by rw [hu]; simp)
  rw [← hu] at cxC0 cxC1 cx00 cx01 ot6 hbel ⊢
  clear hu
  refine (implMoveNeeded t6A t6C xCP t6D t6E xCQ xGoal v6 ot6.rd zxC bxGoal).mono ?_
  rintro e v7 ⟨rfl, hb⟩
  have s10 : Hid (v6.heap.size ≤ v7.heap.size) := Lib.hid hb.size
  replace cxC0 := kept hb cxC0
  replace cxC1 := kept hb cxC1
  replace cx00 := kept hb cx00
  replace cx01 := kept hb cx01
  replace ot6 := ot6.below hb
  replace hbel := hbel.trans (hb.mono hbel.size)
  clear hb
  have q11 : chEqB xCP xCP xCQ xCQ = true := chEqB_self _ _
  go_wp2_with fail
  have rcxC0 := kept_all cxC0
  have rcxC1 := kept_all cxC1
  have rcx00 := kept_all cx00
  have rcx01 := kept_all cx01
  go_region_held3 (fun w' => Below v7.heap.size v7 w') (first | exact hk | exact (Below.refl _ _).drew | exact hk.alloc hk.size _ | exact (hk.alloc hk.size _).setCell hk.size _)
    (first | (go_at_call 48; have qB := ‹Below v7.heap.size v7 _›; ((with_reducible refine (toChain_any xCA xCC xCP xCD xCE xCQ _ (hxC.below (hbel.trans (qB.mono hbel.size)))).mono ?_)); rintro e v9 ⟨t12A, t12C, t12D, t12E, rfl, ot12, hb⟩; have hk := qB.trans (hb.mono qB.size)) | (go_at_call 50; have qB := ‹Below v7.heap.size v7 _›; refine (eqChain_any t6A t6C t6D t6E t12A t12C t12D t12E xCP xCP xCQ xCQ _ (ot6.below qB).rd (by first | exact ot12.rd | exact (ot12.alloc _).rd)).mono ?_; rintro e v8 ⟨rfl, hb⟩; have hk := qB.trans (hb.mono qB.size)))
  have hb : Below v7.heap.size v7 v8 := by assumption
  clear rcxC0 rcxC1 rcx00 rcx01
  clear ot12
  have s13 : Hid (v7.heap.size ≤ v8.heap.size) := Lib.hid hb.size
  replace cxC0 := kept hb cxC0
  replace cxC1 := kept hb cxC1
  replace cx00 := kept hb cx00
  replace cx01 := kept hb cx01
  replace ot6 := ot6.below hb
  replace hbel := hbel.trans (hb.mono hbel.size)
  clear hb
  go_wp2
  go_ret
  exact ⟨rfl, hbel⟩

set_option maxRecDepth 100000 in
theorem lifted (os : Os) (started : os.Started) (H : Type) (enc : TypeId × Value → H) :
    ReturnsInHanded {} Try.checked os 16 .any (Rows.fnExactMoveNeededSpec.pre6 enc Try.prog Try.f16 Rows.fnExactMoveNeededRow.domain false) (Rows.fnExactMoveNeededSpec.post enc Try.prog Try.f16 false true false false) := by
  refine returnsInHanded_of_change (C := Try.checked) own_knob started (by kernel_rfl) Try.func16
    (ChangeSpec.witness6 (enc := enc) (C := Try.checked) false ⟨#[], #[.agg #[.slice none 0 0, .slice none 0 0], .int .i64 0], []⟩ 8 (by kernel_rfl) (by kernel_rfl) (by kernel_rfl) (by kernel_rfl)) ?_
  intro W base args ds gs before hval0 hW hcnd _
  have hval : ∀ (j : Nat) t v, Try.f16.params[j]? = some t → args[j]? = some v → Value.okWide Try.prog W .any base t v := hval0
  have hW' := hW
  obtain ⟨p, q, hA0, hV, rfl, hfz, hnd⟩ := hW
  have hA : DataW.TrodAll enc Try.prog W 0 (fun _ => true) true Try.f16.params.toList args.toList ds p := hA0
  rw [Try.params16] at hA hval
  obtain ⟨v0, vs0, d0, ds0, p0, q0, hargs, rfl, rfl, h0, r0⟩ := trodAll_cons hA
  obtain ⟨v1, vs1, d1, ds1, p1, q1, rfl, rfl, rfl, h1, r1⟩ := trodAll_cons r0
  obtain ⟨rfl, rfl, rfl⟩ := trodAll_nil r1
  obtain rfl : args = #[v0, v1] := by cases args; simp_all
  obtain ⟨rfl, rfl⟩ := trodVars_none hV
  have k0 := h0
  have lt0 : ∀ x ∈ p0, x.block < W.heap.size := by obtain ⟨m, hm⟩ := k0; exact DataW.trod_lt m _ _ _ hm
  obtain ⟨xCA, xCC, xCP, xCD, xCE, xCQ, rfl, hxC⟩ := open_Chain (hval 0 60 v0 rfl rfl) h0
  obtain ⟨xGoal, rfl, rfl, rfl, bxGoal⟩ := open_int Try.underlying2 (hval 1 2 v1 rfl rfl) h1
  clear hA0 hval0
  refine (law_walk xCA xCC xCP xCD xCE xCQ xGoal W hxC bxGoal).mono fun e W' ⟨he, bel⟩ => ?_
  subst he
  exact ⟨_, rfl, _, _, _, [], _, [], hW', trodAll_mk1 (shut_bool Try.underlying4 _), (trodAll_cons_mk (Below.trod laid_out (by kernel_rfl) (of_decide_eq_true (by kernel_rfl)) k0 bel lt0) (trodAll_cons_mk (shut_int Try.underlying2 bxGoal) trodAll_mk0)), rfl, bel.frame _, fun h => by cases h⟩

set_option maxHeartbeats 20000000 in
theorem closed : joinedFacts Try.prog 16 Try.f16 Rows.fnExactMoveNeededSpec Rows.fnExactMoveNeededRow = true := by
  simp only [joinedFacts, Bool.and_eq_true]
  refine ⟨⟨⟨⟨⟨⟨⟨⟨⟨⟨⟨⟨⟨⟨⟨⟨⟨⟨⟨⟨⟨⟨⟨⟨⟨⟨⟨⟨⟨⟨⟨?_, laid_out⟩, fact_maps⟩, ?_⟩, ?_⟩, ?_⟩, fact_stops⟩, ?_⟩, fact_knobs⟩, ?_⟩, ?_⟩, ?_⟩, ?_⟩, ?_⟩, ?_⟩, ?_⟩, ?_⟩, ?_⟩, ?_⟩, ?_⟩, ?_⟩, ?_⟩, fact_plain⟩, ?_⟩, fact_heard⟩, fact_enter⟩, fact_lift⟩, ?_⟩, ?_⟩, ?_⟩, ?_⟩, ?_⟩
  all_goals (as_aux_lemma => kernel_rfl)

theorem over : Rows.fnExactMoveNeededRow.holds Try.pinned (OpenSpec.ofChange Rows.fnExactMoveNeededSpec) :=
  OpenClaim.holds_of_wide 16 Try.f16 rfl rfl rfl rfl rfl rfl rfl ⟨rfl, rfl, rfl, rfl, rfl⟩ rfl rfl rfl rfl rfl (by as_aux_lemma => kernel_rfl) Try.func16 closed
    (of_decide_eq_true (by as_aux_lemma => kernel_rfl)) (by unfold Func.isWrapper; rw [if_neg (by decide +kernel)]; exact ⟨rfl, rfl⟩)
    (fun os started H enc _ => lifted os started H enc)

/-- The statement. -/
theorem proved : Rows.FnExactMoveNeededSaid := over
end Go.Proofs.Ytaefgkhbgljkoaa.lawMoveNeeded
