/-
  laws.FnExactJoinSignals returns true at every input (no condition), and leaves its arguments as they were.
-/
import Derived.Test.YtcfpfhlgcfmioaaSignalS
import Derived.Test.YtcfpfhlgcfmioaaFrameS
import Derived.Test.YtcfpfhlgcfmioaaSigI
import Derived.Test.YtcfpfhlgcfmioaaBoxSig
import Derived.Deep.RegionHeld3
import Derived.Test.YtcfpfhlgcfmioaaFacts
import Derived.Test.YtcfpfhlgcfmioaaRows
namespace Go.Proofs.Ytcfpfhlgcfmioaa.lawJoinSignals
open Go.ChangeShapes Go.WideShapes Go.ChangeAt Go.WideElems Go.RowKit Go.Joins
open Go.ChangeMaps (open_string shut_string)

set_option maxRecDepth 100000 in
set_option maxHeartbeats 4000000 in
theorem law_walk (xLow : Bool × Bool) (xHigh : Bool × Bool) (w : World)  :
    Calls Try.prog 6 #[.agg #[.bool xLow.1, .bool xLow.2], .agg #[.bool xHigh.1, .bool xHigh.2]] w fun e w' => e = .returned (.bool true) ∧ Below w.heap.size w w' := by
  have hbel : Below w.heap.size w ((w.alloc (.cells #[.bool xLow.1, .bool xLow.2] 71)).alloc (.cells #[.bool xHigh.1, .bool xHigh.2] 71)) := ((Below.refl _ _).alloc (by simp <;> omega) _).alloc (by simp <;> omega) _
  have cxLow0 : ((w.alloc (.cells #[.bool xLow.1, .bool xLow.2] 71)).alloc (.cells #[.bool xHigh.1, .bool xHigh.2] 71)).cell? ⟨w.heap.size, 0, none⟩ = some (.bool xLow.1) := by go_simp
  have cxLow1 : ((w.alloc (.cells #[.bool xLow.1, .bool xLow.2] 71)).alloc (.cells #[.bool xHigh.1, .bool xHigh.2] 71)).cell? ⟨w.heap.size, 1, none⟩ = some (.bool xLow.2) := by go_simp
  have cxHigh0 : ((w.alloc (.cells #[.bool xLow.1, .bool xLow.2] 71)).alloc (.cells #[.bool xHigh.1, .bool xHigh.2] 71)).cell? ⟨w.heap.size + 1, 0, none⟩ = some (.bool xHigh.1) := by go_simp
  have cxHigh1 : ((w.alloc (.cells #[.bool xLow.1, .bool xLow.2] 71)).alloc (.cells #[.bool xHigh.1, .bool xHigh.2] 71)).cell? ⟨w.heap.size + 1, 1, none⟩ = some (.bool xHigh.2) := by go_simp
  go_enter Try.func6, Try.ntmps6
  go_upto_region 1 with fail
  obtain ⟨v2, hu⟩ : ∃ u, u = ((w.alloc (.cells #[.bool xLow.1, .bool xLow.2] 71)).alloc (.cells #[.bool xHigh.1, .bool xHigh.2] 71)) := ⟨_, rfl⟩
  have s1 : Hid (w.heap.size + 2 ≤ v2.heap.size) := Lib.hid (by rw [hu]; simp)
  rw [← hu] at cxLow0 cxLow1 cxHigh0 cxHigh1 hbel ⊢
  clear hu
  go_cut [5] from 7 (fun sl5 wx => BoxSig v2 (jn xLow xHigh) sl5 wx)
  case first =>
    have rcxLow0 := kept_all cxLow0
    have rcxLow1 := kept_all cxLow1
    have rcxHigh0 := kept_all cxHigh0
    have rcxHigh1 := kept_all cxHigh1
    clear cxLow0 cxLow1 cxHigh0 cxHigh1
    go_region_held3 (fun w' => Below v2.heap.size v2 w') (first | exact hk | exact (Below.refl _ _).drew | exact hk.alloc hk.size _ | exact (Below.refl _ _).drew.alloc (Nat.le_refl _) _ | exact (hk.alloc hk.size _).setCell hk.size _ | exact ((hk.setCell bg.out _).setCell bg.out _))
      (first | (go_at_call 47; have qB := ‹Below v2.heap.size v2 _›; ((with_reducible refine (toSignal_any xLow ((v2.alloc (.cells #[.bool false, .bool false] 51)).drew)).mono ?_)); rintro e v3 ⟨rfl, hb⟩; have bz := ((Bx.new v2 #[.bool false, .bool false] 51).drew).below hb; have bg : Hid (v2.heap.size ≤ v2.drew.heap.size) := Lib.hid (by first | exact (‹Below v2.heap.size v2 v2.drew›).size | exact Nat.le_refl _); have hk := qB.trans (hb.mono qB.size)) | (go_at_call 47; have qB := ‹Below v2.heap.size v2 _›; ((with_reducible refine (toSignal_any xLow v2.drew).mono ?_)); rintro e v3 ⟨rfl, hb⟩; (try replace bz := bz.below hb); have hk := qB.trans (hb.mono qB.size)) | (go_at_call 47; have qB := ‹Below v2.heap.size v2 _›; ((with_reducible refine (toSignal_any xHigh (v3.alloc (.cells #[.bool false, .bool false] 51))).mono ?_)); rintro e v4 ⟨rfl, hb⟩; have bz := (Bx.new v3 #[.bool false, .bool false] 51).below hb; have bg : Hid (v2.heap.size ≤ v3.heap.size) := Lib.hid (by first | exact (‹Below v2.heap.size v2 v3›).size | exact Nat.le_refl _); have hk := qB.trans (hb.mono qB.size)) | (go_at_call 47; have qB := ‹Below v2.heap.size v2 _›; ((with_reducible refine (toSignal_any xHigh v3).mono ?_)); rintro e v4 ⟨rfl, hb⟩; (try replace bz := bz.below hb); have hk := qB.trans (hb.mono qB.size)) | (go_at_call 37; have qB := ‹Below v2.heap.size v2 _›; ((with_reducible refine (specJoinSignals xLow xHigh (v4.alloc (.cells #[.bool false, .bool false] 51)) ).mono ?_)); rintro e v1 ⟨rfl, hb⟩; have bz := (Bx.new v4 #[.bool false, .bool false] 51); have bg : Hid (v2.heap.size ≤ v4.heap.size) := Lib.hid (by first | exact (‹Below v2.heap.size v2 v4›).size | exact Nat.le_refl _); have bh := Lib.hid bz.lt; replace bz := bz.below hb; have bz0 := bz.at_ 0 rfl; have bf0 := bz.thaw 0; have bz1 := bz.at_ 1 rfl; have bf1 := bz.thaw 1; have hkU := qB; have hbU := hb; have hk := qB.trans (hb.mono qB.size)) | (go_at_call 37; have qB := ‹Below v2.heap.size v2 _›; ((with_reducible refine (specJoinSignals xLow xHigh v4 ).mono ?_)); rintro e v1 ⟨rfl, hb⟩; (try (have bh := Lib.hid bz.lt; replace bz := bz.below hb; have bz0 := bz.at_ 0 rfl; have bf0 := bz.thaw 0; have bz1 := bz.at_ 1 rfl; have bf1 := bz.thaw 1)); have hkU := qB; have hbU := hb; have hk := qB.trans (hb.mono qB.size)))
    all_goals (go_wp2_with fail; go_meet; case rel => first | with_reducible exact (boxSig_after hkU hbU) | with_reducible exact (boxSig_before hkU hbU bz bg bh) | exact (boxSig_after hkU hbU) | exact (boxSig_before hkU hbU bz bg bh))
  case rest =>
  obtain ⟨B4, rfl, cw00, cw01, s5, s6, hb⟩ := hcut
  obtain ⟨v1, rfl⟩ : ∃ u, u = wc := ⟨_, rfl⟩
  have s10 : Hid (v2.heap.size ≤ v1.heap.size) := Lib.hid hb.size
  replace cxLow0 := kept hb cxLow0
  replace cxLow1 := kept hb cxLow1
  replace cxHigh0 := kept hb cxHigh0
  replace cxHigh1 := kept hb cxHigh1
  replace hbel := hbel.trans (hb.mono hbel.size)
  clear hb
  go_upto_region 2 with fail
  go_cut [6] from 7 (fun sl6 wx => BoxSig v1 (jn xLow xHigh) sl6 wx)
  case first =>
    have rcxLow0 := kept_all cxLow0
    have rcxLow1 := kept_all cxLow1
    have rcxHigh0 := kept_all cxHigh0
    have rcxHigh1 := kept_all cxHigh1
    clear cxLow0 cxLow1 cxHigh0 cxHigh1 cw00 cw01
    go_region_held3 (fun w' => Below v1.heap.size v1 w') (first | exact hk | exact (Below.refl _ _).drew | exact hk.alloc hk.size _ | exact (Below.refl _ _).drew.alloc (Nat.le_refl _) _ | exact (hk.alloc hk.size _).setCell hk.size _ | exact ((hk.setCell bg.out _).setCell bg.out _))
      (first | (go_at_call 47; have qB := ‹Below v1.heap.size v1 _›; ((with_reducible refine (toSignal_any xLow ((v1.alloc (.cells #[.bool false, .bool false] 51)).drew)).mono ?_)); rintro e v6 ⟨rfl, hb⟩; have bz := ((Bx.new v1 #[.bool false, .bool false] 51).drew).below hb; have bg : Hid (v1.heap.size ≤ v1.drew.heap.size) := Lib.hid (by first | exact (‹Below v1.heap.size v1 v1.drew›).size | exact Nat.le_refl _); have hk := qB.trans (hb.mono qB.size)) | (go_at_call 47; have qB := ‹Below v1.heap.size v1 _›; ((with_reducible refine (toSignal_any xLow v1.drew).mono ?_)); rintro e v6 ⟨rfl, hb⟩; (try replace bz := bz.below hb); have hk := qB.trans (hb.mono qB.size)) | (go_at_call 47; have qB := ‹Below v1.heap.size v1 _›; ((with_reducible refine (toSignal_any xHigh (v6.alloc (.cells #[.bool false, .bool false] 51))).mono ?_)); rintro e v7 ⟨rfl, hb⟩; have bz := (Bx.new v6 #[.bool false, .bool false] 51).below hb; have bg : Hid (v1.heap.size ≤ v6.heap.size) := Lib.hid (by first | exact (‹Below v1.heap.size v1 v6›).size | exact Nat.le_refl _); have hk := qB.trans (hb.mono qB.size)) | (go_at_call 47; have qB := ‹Below v1.heap.size v1 _›; ((with_reducible refine (toSignal_any xHigh v6).mono ?_)); rintro e v7 ⟨rfl, hb⟩; (try replace bz := bz.below hb); have hk := qB.trans (hb.mono qB.size)) | (go_at_call 33; have qB := ‹Below v1.heap.size v1 _›; ((with_reducible refine (implJoinSignals xLow xHigh (v7.alloc (.cells #[.bool false, .bool false] 51)) ).mono ?_)); rintro e v5 ⟨rfl, hb⟩; have bz := (Bx.new v7 #[.bool false, .bool false] 51); have bg : Hid (v1.heap.size ≤ v7.heap.size) := Lib.hid (by first | exact (‹Below v1.heap.size v1 v7›).size | exact Nat.le_refl _); have bh := Lib.hid bz.lt; replace bz := bz.below hb; have bz0 := bz.at_ 0 rfl; have bf0 := bz.thaw 0; have bz1 := bz.at_ 1 rfl; have bf1 := bz.thaw 1; have hkU := qB; have hbU := hb; have hk := qB.trans (hb.mono qB.size)) | (go_at_call 33; have qB := ‹Below v1.heap.size v1 _›; ((with_reducible refine (implJoinSignals xLow xHigh v7 ).mono ?_)); rintro e v5 ⟨rfl, hb⟩; (try (have bh := Lib.hid bz.lt; replace bz := bz.below hb; have bz0 := bz.at_ 0 rfl; have bf0 := bz.thaw 0; have bz1 := bz.at_ 1 rfl; have bf1 := bz.thaw 1)); have hkU := qB; have hbU := hb; have hk := qB.trans (hb.mono qB.size)))
    all_goals (go_wp2_with fail; go_meet; case rel => first | with_reducible exact (boxSig_after hkU hbU) | with_reducible exact (boxSig_before hkU hbU bz bg bh) | exact (boxSig_after hkU hbU) | exact (boxSig_before hkU hbU bz bg bh))
  case rest =>
  obtain ⟨B13, rfl, cg00, cg01, s14, s15, hb⟩ := hcut
  obtain ⟨v5, rfl⟩ : ∃ u, u = wc := ⟨_, rfl⟩
  have s19 : Hid (v1.heap.size ≤ v5.heap.size) := Lib.hid hb.size
  replace cxLow0 := kept hb cxLow0
  replace cxLow1 := kept hb cxLow1
  replace cxHigh0 := kept hb cxHigh0
  replace cxHigh1 := kept hb cxHigh1
  replace cw00 := kept hb cw00
  replace cw01 := kept hb cw01
  replace hbel := hbel.trans (hb.mono hbel.size)
  clear hb
  have q20 : decide ((jn xLow xHigh) = (jn xLow xHigh)) = true := decide_eq_true rfl
  go_wp2_with fail
  refine (eqSignal_any (jn xLow xHigh) (jn xLow xHigh) v5).mono ?_
  rintro e v8 ⟨rfl, hb⟩
  have s21 : Hid (v5.heap.size ≤ v8.heap.size) := Lib.hid hb.size
  replace cxLow0 := kept hb cxLow0
  replace cxLow1 := kept hb cxLow1
  replace cxHigh0 := kept hb cxHigh0
  replace cxHigh1 := kept hb cxHigh1
  replace cw00 := kept hb cw00
  replace cw01 := kept hb cw01
  replace cg00 := kept hb cg00
  replace cg01 := kept hb cg01
  replace hbel := hbel.trans (hb.mono hbel.size)
  clear hb
  go_wp2
  go_ret
  exact ⟨rfl, hbel⟩

set_option maxRecDepth 100000 in
theorem lifted (os : Os) (started : os.Started) (H : Type) (enc : TypeId × Value → H) :
    ReturnsInHanded {} Try.checked os 6 .any (Rows.fnExactJoinSignalsSpec.pre6 enc Try.prog Try.f6 Rows.fnExactJoinSignalsRow.domain false) (Rows.fnExactJoinSignalsSpec.post enc Try.prog Try.f6 false true false false) := by
  refine returnsInHanded_of_change (C := Try.checked) own_knob started (by kernel_rfl) Try.func6
    (ChangeSpec.witness6 (enc := enc) (C := Try.checked) false ⟨#[], #[.agg #[.bool false, .bool false], .agg #[.bool false, .bool false]], []⟩ 8 (by kernel_rfl) (by kernel_rfl) (by kernel_rfl) (by kernel_rfl)) ?_
  intro W base args ds gs before hval0 hW hcnd _
  have hval : ∀ (j : Nat) t v, Try.f6.params[j]? = some t → args[j]? = some v → Value.okWide Try.prog W .any base t v := hval0
  have hW' := hW
  obtain ⟨p, q, hA0, hV, rfl, hfz, hnd⟩ := hW
  have hA : DataW.TrodAll enc Try.prog W 0 (fun _ => true) true Try.f6.params.toList args.toList ds p := hA0
  rw [Try.params6] at hA hval
  obtain ⟨v0, vs0, d0, ds0, p0, q0, hargs, rfl, rfl, h0, r0⟩ := trodAll_cons hA
  obtain ⟨v1, vs1, d1, ds1, p1, q1, rfl, rfl, rfl, h1, r1⟩ := trodAll_cons r0
  obtain ⟨rfl, rfl, rfl⟩ := trodAll_nil r1
  obtain rfl : args = #[v0, v1] := by cases args; simp_all
  obtain ⟨rfl, rfl⟩ := trodVars_none hV
  have k0 := h0
  have lt0 : ∀ x ∈ p0, x.block < W.heap.size := by obtain ⟨m, hm⟩ := k0; exact DataW.trod_lt m _ _ _ hm
  obtain ⟨xLow, rfl⟩ := open_Signal (hval 0 71 v0 rfl rfl) h0
  have k1 := h1
  have lt1 : ∀ x ∈ p1, x.block < W.heap.size := by obtain ⟨m, hm⟩ := k1; exact DataW.trod_lt m _ _ _ hm
  obtain ⟨xHigh, rfl⟩ := open_Signal (hval 1 71 v1 rfl rfl) h1
  clear hA0 hval0
  refine (law_walk xLow xHigh W ).mono fun e W' ⟨he, bel⟩ => ?_
  subst he
  exact ⟨_, rfl, _, _, _, [], _, [], hW', trodAll_mk1 (shut_bool Try.underlying4 _), (trodAll_cons_mk (Below.trod laid_out (by kernel_rfl) (of_decide_eq_true (by kernel_rfl)) k0 bel lt0) (trodAll_cons_mk (Below.trod laid_out (by kernel_rfl) (of_decide_eq_true (by kernel_rfl)) k1 bel lt1) trodAll_mk0)), rfl, bel.frame _, fun h => by cases h⟩

set_option maxHeartbeats 20000000 in
theorem closed : joinedFacts Try.prog 6 Try.f6 Rows.fnExactJoinSignalsSpec Rows.fnExactJoinSignalsRow = true := by
  simp only [joinedFacts, Bool.and_eq_true]
  refine ⟨⟨⟨⟨⟨⟨⟨⟨⟨⟨⟨⟨⟨⟨⟨⟨⟨⟨⟨⟨⟨⟨⟨⟨⟨⟨⟨⟨⟨⟨⟨?_, laid_out⟩, fact_maps⟩, ?_⟩, ?_⟩, ?_⟩, fact_stops⟩, ?_⟩, fact_knobs⟩, ?_⟩, ?_⟩, ?_⟩, ?_⟩, ?_⟩, ?_⟩, ?_⟩, ?_⟩, ?_⟩, ?_⟩, ?_⟩, ?_⟩, ?_⟩, fact_plain⟩, ?_⟩, fact_heard⟩, fact_enter⟩, fact_lift⟩, ?_⟩, ?_⟩, ?_⟩, ?_⟩, ?_⟩
  all_goals (as_aux_lemma => kernel_rfl)

theorem over : Rows.fnExactJoinSignalsRow.holds Try.pinned (OpenSpec.ofChange Rows.fnExactJoinSignalsSpec) :=
  OpenClaim.holds_of_wide 6 Try.f6 rfl rfl rfl rfl rfl rfl rfl ⟨rfl, rfl, rfl, rfl, rfl⟩ rfl rfl rfl rfl rfl (by as_aux_lemma => kernel_rfl) Try.func6 closed
    (of_decide_eq_true (by as_aux_lemma => kernel_rfl)) (by unfold Func.isWrapper; rw [if_neg (by decide +kernel)]; exact ⟨rfl, rfl⟩)
    (fun os started H enc _ => lifted os started H enc)

/-- The statement. -/
theorem proved : Rows.FnExactJoinSignalsSaid := over
end Go.Proofs.Ytcfpfhlgcfmioaa.lawJoinSignals
