/-
  laws.FnExactSameChain returns true at every input (no condition), and leaves its arguments as they were.
-/
import Derived.Test.YtaefgkhbgljkoaaChain
import Derived.Test.YtaefgkhbgljkoaaFrameG
import Derived.Test.YtaefgkhbgljkoaaSameCh
import Derived.Deep.RegionHeld3
import Derived.Test.YtaefgkhbgljkoaaFacts
import Derived.Test.YtaefgkhbgljkoaaRows
namespace Go.Proofs.Ytaefgkhbgljkoaa.lawSameChain
open Go.ChangeShapes Go.WideShapes Go.ChangeAt Go.WideElems Go.RowKit Go.Joins
open Go.ChangeMaps (open_string shut_string)

set_option maxRecDepth 100000 in
set_option maxHeartbeats 4000000 in
theorem law_walk (xAA : Option Addr) (xAC : Nat) (xAP : List Int) (xAD : Option Addr) (xAE : Nat) (xAQ : List Int) (xBA : Option Addr) (xBC : Nat) (xBP : List Int) (xBD : Option Addr) (xBE : Nat) (xBQ : List Int) (w : World) (hxA : Raw2 w xAA xAP xAD xAQ) (hxB : Raw2 w xBA xBP xBD xBQ) :
    Calls Try.prog 13 #[.agg #[.slice xAA xAP.length xAC, .slice xAD xAQ.length xAE], .agg #[.slice xBA xBP.length xBC, .slice xBD xBQ.length xBE]] w fun e w' => e = .returned (.bool true) ∧ Below w.heap.size w w' := by
  have hbel : Below w.heap.size w ((w.alloc (.cells #[.slice xAA xAP.length xAC, .slice xAD xAQ.length xAE] 60)).alloc (.cells #[.slice xBA xBP.length xBC, .slice xBD xBQ.length xBE] 60)) := ((Below.refl _ _).alloc (by simp) _).alloc (by simp) _
  have cxA0 : ((w.alloc (.cells #[.slice xAA xAP.length xAC, .slice xAD xAQ.length xAE] 60)).alloc (.cells #[.slice xBA xBP.length xBC, .slice xBD xBQ.length xBE] 60)).cell? ⟨w.heap.size, 0, none⟩ = some (.slice xAA xAP.length xAC) := by go_simp
  have cxA1 : ((w.alloc (.cells #[.slice xAA xAP.length xAC, .slice xAD xAQ.length xAE] 60)).alloc (.cells #[.slice xBA xBP.length xBC, .slice xBD xBQ.length xBE] 60)).cell? ⟨w.heap.size, 1, none⟩ = some (.slice xAD xAQ.length xAE) := by go_simp
  have cxB0 : ((w.alloc (.cells #[.slice xAA xAP.length xAC, .slice xAD xAQ.length xAE] 60)).alloc (.cells #[.slice xBA xBP.length xBC, .slice xBD xBQ.length xBE] 60)).cell? ⟨w.heap.size + 1, 0, none⟩ = some (.slice xBA xBP.length xBC) := by go_simp
  have cxB1 : ((w.alloc (.cells #[.slice xAA xAP.length xAC, .slice xAD xAQ.length xAE] 60)).alloc (.cells #[.slice xBA xBP.length xBC, .slice xBD xBQ.length xBE] 60)).cell? ⟨w.heap.size + 1, 1, none⟩ = some (.slice xBD xBQ.length xBE) := by go_simp
  go_enter Try.func13, Try.ntmps13
  go_wp2_with fail
  obtain ⟨v1, hu⟩ : ∃ u, u = ((w.alloc (.cells #[.slice xAA xAP.length xAC, .slice xAD xAQ.length xAE] 60)).alloc (.cells #[.slice xBA xBP.length xBC, .slice xBD xBQ.length xBE] 60)) := ⟨_, rfl⟩
  have s1 : Hid (w.heap.size + 2 ≤ v1.heap.size) := Lib.hid (by rw [hu]; simp)
  rw [← hu] at cxA0 cxA1 cxB0 cxB1 hbel ⊢
  clear hu
  rcases Int.lt_or_le (leftOf (xAP.length + xAQ.length) 1048576) 0 with k1 | k1
  · refine (szChain_any xAA xAP.length xAC xAD xAQ.length xAE 1048576 v1 hxA.len (by omega) (by omega)).mono ?_
    rintro e v2 ⟨rfl, hb⟩
    go_wp2
    go_ret
    exact ⟨rfl, hbel.trans (hb.mono hbel.size)⟩
  have m1 := leftOf_le (xAP.length + xAQ.length) 1048576 (by omega)
  refine (szChain_any xAA xAP.length xAC xAD xAQ.length xAE 1048576 v1 hxA.len (by omega) (by omega)).mono ?_
  rintro e v2 ⟨rfl, hb⟩
  have s2 : Hid (v1.heap.size ≤ v2.heap.size) := Lib.hid hb.size
  replace cxA0 := kept hb cxA0
  replace cxA1 := kept hb cxA1
  replace cxB0 := kept hb cxB0
  replace cxB1 := kept hb cxB1
  replace hbel := hbel.trans (hb.mono hbel.size)
  clear hb
  have zxA := hxA.wf
  replace hxA := hxA.rd (by have := leftOf_len k1; omega)
  go_wp2_with fail
  rcases Int.lt_or_le (leftOf (xBP.length + xBQ.length) (leftOf (xAP.length + xAQ.length) 1048576)) 0 with k2 | k2
  · refine (szChain_any xBA xBP.length xBC xBD xBQ.length xBE (leftOf (xAP.length + xAQ.length) 1048576) v2 hxB.len (by omega) (by omega)).mono ?_
    rintro e v3 ⟨rfl, hb⟩
    go_wp2
    go_ret
    exact ⟨rfl, hbel.trans (hb.mono hbel.size)⟩
  have m2 := leftOf_le (xBP.length + xBQ.length) (leftOf (xAP.length + xAQ.length) 1048576) (by omega)
  refine (szChain_any xBA xBP.length xBC xBD xBQ.length xBE (leftOf (xAP.length + xAQ.length) 1048576) v2 hxB.len (by omega) (by omega)).mono ?_
  rintro e v3 ⟨rfl, hb⟩
  have s3 : Hid (v2.heap.size ≤ v3.heap.size) := Lib.hid hb.size
  replace cxA0 := kept hb cxA0
  replace cxA1 := kept hb cxA1
  replace cxB0 := kept hb cxB0
  replace cxB1 := kept hb cxB1
  replace hbel := hbel.trans (hb.mono hbel.size)
  clear hb
  have zxB := hxB.wf
  replace hxB := hxB.rd (by have := leftOf_len k2; omega)
  go_wp2_with fail
  have rcxA0 := kept_all cxA0
  have rcxA1 := kept_all cxA1
  have rcxB0 := kept_all cxB0
  have rcxB1 := kept_all cxB1
  go_region_held3 (fun w' => Below v3.heap.size v3 w') (first | exact hk | exact (Below.refl _ _).drew | exact hk.alloc hk.size _ | exact (hk.alloc hk.size _).setCell hk.size _)
    (first | (go_at_call 48; have qB := ‹Below v3.heap.size v3 _›; ((with_reducible refine (toChain_any xAA xAC xAP xAD xAE xAQ _ (hxA.below (hbel.trans (qB.mono hbel.size)))).mono ?_)); rintro e v5 ⟨t4A, t4C, t4D, t4E, rfl, ot4, hb⟩; have hk := qB.trans (hb.mono qB.size)) | (go_at_call 48; have qB := ‹Below v3.heap.size v3 _›; ((with_reducible refine (toChain_any xBA xBC xBP xBD xBE xBQ _ (hxB.below (hbel.trans (qB.mono hbel.size)))).mono ?_)); rintro e v6 ⟨t5A, t5C, t5D, t5E, rfl, ot5, hb⟩; replace ot4 := ot4.below hb; have hk := qB.trans (hb.mono qB.size)) | (go_at_call 33; have qB := ‹Below v3.heap.size v3 _›; refine (specSameChain t4A t4C xAP t4D t4E xAQ t5A t5C xBP t5D t5E xBQ _ (by first | exact ot4.rd | exact (ot4.alloc _).rd) zxA (by first | exact ot5.rd | exact (ot5.alloc _).rd) zxB).mono ?_; rintro e v4 ⟨rfl, hb⟩; have hk := qB.trans (hb.mono qB.size)))
  have hb : Below v3.heap.size v3 v4 := by assumption
  clear rcxA0 rcxA1 rcxB0 rcxB1
  clear ot4 ot5
  have s6 : Hid (v3.heap.size ≤ v4.heap.size) := Lib.hid hb.size
  replace cxA0 := kept hb cxA0
  replace cxA1 := kept hb cxA1
  replace cxB0 := kept hb cxB0
  replace cxB1 := kept hb cxB1
  replace hbel := hbel.trans (hb.mono hbel.size)
  clear hb
  go_wp2_with fail
  refine (toChain_any xAA xAC xAP xAD xAE xAQ v4 (hxA.below hbel)).mono ?_
  rintro e v7 ⟨t7A, t7C, t7D, t7E, rfl, ot7, hb⟩
  have s8 : Hid (v4.heap.size ≤ v7.heap.size) := Lib.hid hb.size
  replace cxA0 := kept hb cxA0
  replace cxA1 := kept hb cxA1
  replace cxB0 := kept hb cxB0
  replace cxB1 := kept hb cxB1
  replace hbel := hbel.trans (hb.mono hbel.size)
  clear hb
  have ha9 : Below v7.heap.size v7 (v7.alloc (.cells #[.slice t7A xAP.length t7C, .slice t7D xAQ.length t7E] 41)) := (Below.refl _ _).alloc (by simp) _
  replace cxA0 := kept ha9 cxA0
  replace cxA1 := kept ha9 cxA1
  replace cxB0 := kept ha9 cxB0
  replace cxB1 := kept ha9 cxB1
  replace ot7 := ot7.below ha9
  replace hbel := hbel.trans (ha9.mono hbel.size)
  clear ha9
  have cx00 : (v7.alloc (.cells #[.slice t7A xAP.length t7C, .slice t7D xAQ.length t7E] 41)).cell? ⟨v7.heap.size, 0, none⟩ = some (.slice t7A xAP.length t7C) := by go_simp
  have cx01 : (v7.alloc (.cells #[.slice t7A xAP.length t7C, .slice t7D xAQ.length t7E] 41)).cell? ⟨v7.heap.size, 1, none⟩ = some (.slice t7D xAQ.length t7E) := by go_simp
  go_wp2_with fail
  obtain ⟨v8, hu⟩ : ∃ u, u = (v7.alloc (.cells #[.slice t7A xAP.length t7C, .slice t7D xAQ.length t7E] 41)) := ⟨_, rfl⟩
  have s11 : Hid (v7.heap.size + 1 ≤ v8.heap.size) := Lib.hid (by rw [hu]; simp)
  rw [← hu] at cxA0 cxA1 cxB0 cxB1 cx00 cx01 ot7 hbel ⊢
  clear hu
  refine (toChain_any xBA xBC xBP xBD xBE xBQ v8 (hxB.below hbel)).mono ?_
  rintro e v9 ⟨t10A, t10C, t10D, t10E, rfl, ot10, hb⟩
  have s12 : Hid (v8.heap.size ≤ v9.heap.size) := Lib.hid hb.size
  replace cxA0 := kept hb cxA0
  replace cxA1 := kept hb cxA1
  replace cxB0 := kept hb cxB0
  replace cxB1 := kept hb cxB1
  replace cx00 := kept hb cx00
  replace cx01 := kept hb cx01
  replace ot7 := ot7.below hb
  replace hbel := hbel.trans (hb.mono hbel.size)
  clear hb
  have ha13 : Below v9.heap.size v9 (v9.alloc (.cells #[.slice t10A xBP.length t10C, .slice t10D xBQ.length t10E] 41)) := (Below.refl _ _).alloc (by simp) _
  replace cxA0 := kept ha13 cxA0
  replace cxA1 := kept ha13 cxA1
  replace cxB0 := kept ha13 cxB0
  replace cxB1 := kept ha13 cxB1
  replace cx00 := kept ha13 cx00
  replace cx01 := kept ha13 cx01
  replace ot7 := ot7.below ha13
  replace ot10 := ot10.below ha13
  replace hbel := hbel.trans (ha13.mono hbel.size)
  clear ha13
  have cx10 : (v9.alloc (.cells #[.slice t10A xBP.length t10C, .slice t10D xBQ.length t10E] 41)).cell? ⟨v9.heap.size, 0, none⟩ = some (.slice t10A xBP.length t10C) := by go_simp
  have cx11 : (v9.alloc (.cells #[.slice t10A xBP.length t10C, .slice t10D xBQ.length t10E] 41)).cell? ⟨v9.heap.size, 1, none⟩ = some (.slice t10D xBQ.length t10E) := by go_simp
  go_wp2_with fail
  obtain ⟨v10, hu⟩ : ∃ u, u = (v9.alloc (.cells #[.slice t10A xBP.length t10C, .slice t10D xBQ.length t10E] 41)) := ⟨_, rfl⟩
  have s14 : Hid (v9.heap.size + 1 ≤ v10.heap.size) := Lib.hid (by rw [hu]; simp)
  rw [← hu] at cxA0 cxA1 cxB0 cxB1 cx00 cx01 cx10 cx11 ot7 ot10 hbel ⊢
  clear hu
  refine (implSameChain t7A t7C xAP t7D t7E xAQ t10A t10C xBP t10D t10E xBQ v10 ot7.rd zxA ot10.rd zxB).mono ?_
  rintro e v11 ⟨rfl, hb⟩
  have s15 : Hid (v10.heap.size ≤ v11.heap.size) := Lib.hid hb.size
  replace cxA0 := kept hb cxA0
  replace cxA1 := kept hb cxA1
  replace cxB0 := kept hb cxB0
  replace cxB1 := kept hb cxB1
  replace cx00 := kept hb cx00
  replace cx01 := kept hb cx01
  replace cx10 := kept hb cx10
  replace cx11 := kept hb cx11
  replace ot7 := ot7.below hb
  replace ot10 := ot10.below hb
  replace hbel := hbel.trans (hb.mono hbel.size)
  clear hb
  have q16 : chEqB xAP xAP xAQ xAQ = true := chEqB_self _ _
  go_wp2_with fail
  have rcxA0 := kept_all cxA0
  have rcxA1 := kept_all cxA1
  have rcxB0 := kept_all cxB0
  have rcxB1 := kept_all cxB1
  have rcx00 := kept_all cx00
  have rcx01 := kept_all cx01
  have rcx10 := kept_all cx10
  have rcx11 := kept_all cx11
  go_region_held3 (fun w' => Below v11.heap.size v11 w') (first | exact hk | exact (Below.refl _ _).drew | exact hk.alloc hk.size _ | exact (hk.alloc hk.size _).setCell hk.size _)
    (first | (go_at_call 48; have qB := ‹Below v11.heap.size v11 _›; ((with_reducible refine (toChain_any xAA xAC xAP xAD xAE xAQ _ (hxA.below (hbel.trans (qB.mono hbel.size)))).mono ?_)); rintro e v13 ⟨t17A, t17C, t17D, t17E, rfl, ot17, hb⟩; have hk := qB.trans (hb.mono qB.size)) | (go_at_call 50; have qB := ‹Below v11.heap.size v11 _›; refine (eqChain_any t7A t7C t7D t7E t17A t17C t17D t17E xAP xAP xAQ xAQ _ (ot7.below qB).rd (by first | exact ot17.rd | exact (ot17.alloc _).rd)).mono ?_; rintro e v12 ⟨rfl, hb⟩; have hk := qB.trans (hb.mono qB.size)))
  have hb : Below v11.heap.size v11 v12 := by assumption
  clear rcxA0 rcxA1 rcxB0 rcxB1 rcx00 rcx01 rcx10 rcx11
  clear ot17
  have s18 : Hid (v11.heap.size ≤ v12.heap.size) := Lib.hid hb.size
  replace cxA0 := kept hb cxA0
  replace cxA1 := kept hb cxA1
  replace cxB0 := kept hb cxB0
  replace cxB1 := kept hb cxB1
  replace cx00 := kept hb cx00
  replace cx01 := kept hb cx01
  replace cx10 := kept hb cx10
  replace cx11 := kept hb cx11
  replace ot7 := ot7.below hb
  replace ot10 := ot10.below hb
  replace hbel := hbel.trans (hb.mono hbel.size)
  clear hb
  have q19 : chEqB xBP xBP xBQ xBQ = true := chEqB_self _ _
  go_wp2_with fail
  have rcxA0 := kept_all cxA0
  have rcxA1 := kept_all cxA1
  have rcxB0 := kept_all cxB0
  have rcxB1 := kept_all cxB1
  have rcx00 := kept_all cx00
  have rcx01 := kept_all cx01
  have rcx10 := kept_all cx10
  have rcx11 := kept_all cx11
  go_region_held3 (fun w' => Below v12.heap.size v12 w') (first | exact hk | exact (Below.refl _ _).drew | exact hk.alloc hk.size _ | exact (hk.alloc hk.size _).setCell hk.size _)
    (first | (go_at_call 48; have qB := ‹Below v12.heap.size v12 _›; ((with_reducible refine (toChain_any xBA xBC xBP xBD xBE xBQ _ (hxB.below (hbel.trans (qB.mono hbel.size)))).mono ?_)); rintro e v15 ⟨t20A, t20C, t20D, t20E, rfl, ot20, hb⟩; have hk := qB.trans (hb.mono qB.size)) | (go_at_call 50; have qB := ‹Below v12.heap.size v12 _›; refine (eqChain_any t10A t10C t10D t10E t20A t20C t20D t20E xBP xBP xBQ xBQ _ (ot10.below qB).rd (by first | exact ot20.rd | exact (ot20.alloc _).rd)).mono ?_; rintro e v14 ⟨rfl, hb⟩; have hk := qB.trans (hb.mono qB.size)))
  have hb : Below v12.heap.size v12 v14 := by assumption
  clear rcxA0 rcxA1 rcxB0 rcxB1 rcx00 rcx01 rcx10 rcx11
  clear ot20
  have s21 : Hid (v12.heap.size ≤ v14.heap.size) := Lib.hid hb.size
  replace cxA0 := kept hb cxA0
  replace cxA1 := kept hb cxA1
  replace cxB0 := kept hb cxB0
  replace cxB1 := kept hb cxB1
  replace cx00 := kept hb cx00
  replace cx01 := kept hb cx01
  replace cx10 := kept hb cx10
  replace cx11 := kept hb cx11
  replace ot7 := ot7.below hb
  replace ot10 := ot10.below hb
  replace hbel := hbel.trans (hb.mono hbel.size)
  clear hb
  go_wp2
  go_ret
  exact ⟨rfl, hbel⟩

set_option maxRecDepth 100000 in
theorem lifted (os : Os) (started : os.Started) (H : Type) (enc : TypeId × Value → H) :
    ReturnsInHanded {} Try.checked os 13 .any (Rows.fnExactSameChainSpec.pre6 enc Try.prog Try.f13 Rows.fnExactSameChainRow.domain false) (Rows.fnExactSameChainSpec.post enc Try.prog Try.f13 false true false false) := by
  refine returnsInHanded_of_change (C := Try.checked) own_knob started (by kernel_rfl) Try.func13
    (ChangeSpec.witness6 (enc := enc) (C := Try.checked) false ⟨#[], #[.agg #[.slice none 0 0, .slice none 0 0], .agg #[.slice none 0 0, .slice none 0 0]], []⟩ 8 (by kernel_rfl) (by kernel_rfl) (by kernel_rfl) (by kernel_rfl)) ?_
  intro W base args ds gs before hval0 hW hcnd _
  have hval : ∀ (j : Nat) t v, Try.f13.params[j]? = some t → args[j]? = some v → Value.okWide Try.prog W .any base t v := hval0
  have hW' := hW
  obtain ⟨p, q, hA0, hV, rfl, hfz, hnd⟩ := hW
  have hA : DataW.TrodAll enc Try.prog W 0 (fun _ => true) true Try.f13.params.toList args.toList ds p := hA0
  rw [Try.params13] at hA hval
  obtain ⟨v0, vs0, d0, ds0, p0, q0, hargs, rfl, rfl, h0, r0⟩ := trodAll_cons hA
  obtain ⟨v1, vs1, d1, ds1, p1, q1, rfl, rfl, rfl, h1, r1⟩ := trodAll_cons r0
  obtain ⟨rfl, rfl, rfl⟩ := trodAll_nil r1
  obtain rfl : args = #[v0, v1] := by cases args; simp_all
  obtain ⟨rfl, rfl⟩ := trodVars_none hV
  have k0 := h0
  have lt0 : ∀ x ∈ p0, x.block < W.heap.size := by obtain ⟨m, hm⟩ := k0; exact DataW.trod_lt m _ _ _ hm
  obtain ⟨xAA, xAC, xAP, xAD, xAE, xAQ, rfl, hxA⟩ := open_Chain (hval 0 60 v0 rfl rfl) h0
  have k1 := h1
  have lt1 : ∀ x ∈ p1, x.block < W.heap.size := by obtain ⟨m, hm⟩ := k1; exact DataW.trod_lt m _ _ _ hm
  obtain ⟨xBA, xBC, xBP, xBD, xBE, xBQ, rfl, hxB⟩ := open_Chain (hval 1 60 v1 rfl rfl) h1
  clear hA0 hval0
  refine (law_walk xAA xAC xAP xAD xAE xAQ xBA xBC xBP xBD xBE xBQ W hxA hxB).mono fun e W' ⟨he, bel⟩ => ?_
  subst he
  exact ⟨_, rfl, _, _, _, [], _, [], hW', trodAll_mk1 (shut_bool Try.underlying4 _), (trodAll_cons_mk (Below.trod laid_out (by kernel_rfl) (of_decide_eq_true (by kernel_rfl)) k0 bel lt0) (trodAll_cons_mk (Below.trod laid_out (by kernel_rfl) (of_decide_eq_true (by kernel_rfl)) k1 bel lt1) trodAll_mk0)), rfl, bel.frame _, fun h => by cases h⟩

set_option maxHeartbeats 20000000 in
theorem closed : joinedFacts Try.prog 13 Try.f13 Rows.fnExactSameChainSpec Rows.fnExactSameChainRow = true := by
  simp only [joinedFacts, Bool.and_eq_true]
  refine ⟨⟨⟨⟨⟨⟨⟨⟨⟨⟨⟨⟨⟨⟨⟨⟨⟨⟨⟨⟨⟨⟨⟨⟨⟨⟨⟨⟨⟨⟨⟨?_, laid_out⟩, fact_maps⟩, ?_⟩, ?_⟩, ?_⟩, fact_stops⟩, ?_⟩, fact_knobs⟩, ?_⟩, ?_⟩, ?_⟩, ?_⟩, ?_⟩, ?_⟩, ?_⟩, ?_⟩, ?_⟩, ?_⟩, ?_⟩, ?_⟩, ?_⟩, fact_plain⟩, ?_⟩, fact_heard⟩, fact_enter⟩, fact_lift⟩, ?_⟩, ?_⟩, ?_⟩, ?_⟩, ?_⟩
  all_goals (as_aux_lemma => kernel_rfl)

theorem over : Rows.fnExactSameChainRow.holds Try.pinned (OpenSpec.ofChange Rows.fnExactSameChainSpec) :=
  OpenClaim.holds_of_wide 13 Try.f13 rfl rfl rfl rfl rfl rfl rfl ⟨rfl, rfl, rfl, rfl, rfl⟩ rfl rfl rfl rfl rfl (by as_aux_lemma => kernel_rfl) Try.func13 closed
    (of_decide_eq_true (by as_aux_lemma => kernel_rfl)) (by unfold Func.isWrapper; rw [if_neg (by decide +kernel)]; exact ⟨rfl, rfl⟩)
    (fun os started H enc _ => lifted os started H enc)

/-- The statement. -/
theorem proved : Rows.FnExactSameChainSaid := over
end Go.Proofs.Ytaefgkhbgljkoaa.lawSameChain
