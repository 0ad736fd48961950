/-
  laws.FnExactProgramLines returns true at every input (no condition, but the texts of the library's tables, which the card ties), and leaves its arguments as they were.
-/
import Derived.Test.YtgfopieojpjddaaDoorInstrS
import Derived.Test.YtgfopieojpjddaaDoorFrameP
import Derived.Test.YtgfopieojpjddaaDoorFrameI
import Derived.Test.YtgfopieojpjddaaDoorPlnS
import Derived.Test.YtgfopieojpjddaaDoorPlnI
import Derived.Test.YtgfopieojpjddaaDoorStrS
import Derived.Test.YtgfopieojpjddaaDoorDoorFrame
import Derived.Test.YtgfopieojpjddaaDoorFacts
import Derived.Test.YtgfopieojpjddaaDoorRows
namespace Go.Proofs.YtgfopieojpjddaaDoor.lawProgramLines
open Go.ChangeShapes Go.WideShapes Go.ChangeAt Go.WideElems Go.RowKit Go.Joins
open Go.ChangeMaps (open_string shut_string)

def Door (w : World) : Prop := PowTab w ∧ OpWords w
theorem door_below {w w' : World} (h : Door w) (hb : Below w.heap.size w w') : Door w' := ⟨powTab_below h.1 hb, opWords_below h.2 hb⟩
theorem gVar : Tryd.prog.globalNamed "loop.example/g00930/impl.opWords" = some 2 := by kernel_rfl
theorem tVar : (Tryd.prog.globals[2]?).map (·.type) = some 152 := by kernel_rfl
set_option maxRecDepth 100000 in
theorem of_laid {W : World} (h : laidMetH Tryd.prog Rows.fnExactProgramLinesRow.laid W) : Door W := by
  rw [MakeChecks.laidMetH_plain _ _ _ (by kernel_rfl)] at h
  have h2 := h.tail.tail
  refine ⟨Lib.tabIs_of_head (g := 6) (t := 206) (e := 159) (n := 20) (by kernel_rfl) (by kernel_rfl) Tryd.underlying206 Tryd.underlying159 (by kernel_rfl) (by kernel_rfl)
    (show laidMet Tryd.prog (("internal/strconv.uint64pow10", Lib.tabData .u64 Lib.pow10Tab) :: _) W from h2), ?_⟩
  obtain ⟨ps, ⟨g0, t0, cs0, f0, p0, q0, hg0, ht0, hv0, hd0, _⟩, _, _⟩ := h2.tail
  obtain rfl := Option.some.inj (gVar.symm.trans hg0)
  obtain rfl := Option.some.inj (tVar.symm.trans ht0)
  have at_ : ∀ (i : Nat) (b : List UInt8), i < 11 → (match (Rows.laid_loop_example_g00930_impl_opWords : DataW Unit) with | .agg ds => ds[i]? | _ => none) = some (.lit (.string b)) → W.cell? ⟨2, i, none⟩ = some (.string ⟨b.toArray⟩) := by
    intro i b hi hb
    have := strs_of Tryd.underlying152 Tryd.underlying9 (by kernel_rfl) (show DataW.trod _ Tryd.prog W 0 _ _ f0 152 cs0.toList = some (.agg _, p0) from hd0) hi hb
    rw [World.var?_cell hg0 hv0 i]
    simpa using this
  intro k hk
  have hc : k = 0 ∨ k = 1 ∨ k = 2 ∨ k = 3 ∨ k = 4 ∨ k = 5 ∨ k = 6 ∨ k = 7 ∨ k = 8 ∨ k = 9 ∨ k = 10 := by omega
  rcases hc with rfl | rfl | rfl | rfl | rfl | rfl | rfl | rfl | rfl | rfl | rfl
  all_goals exact at_ _ _ (by omega) rfl

set_option maxRecDepth 100000 in
set_option maxHeartbeats 4000000 in
theorem law_walk (xListA : Option Addr) (xListC : Nat) (xListZ : List (Int × Int)) (w : World) (hxList : RawF pairF (fun x => I64 x.1 ∧ I64 x.2) w xListA xListZ) (hD : Door w) :
    Calls Tryd.prog 5 #[.slice xListA xListZ.length xListC] w fun e w' => e = .returned (.bool true) ∧ Below w.heap.size w w' := by
  have hbel : Below w.heap.size w w := Below.refl _ _
  go_enter Tryd.func5, Tryd.ntmps5
  go_wp2_with fail
  rcases Int.lt_or_le (leftOf xListZ.length 1048576) 0 with k1 | k1
  · refine (szInstrS_any xListA xListZ.length xListC 1048576 w hxList.len (by omega) (by omega)).mono ?_
    rintro e v1 ⟨rfl, hb⟩
    subst hb
    go_wp2
    go_ret
    exact ⟨rfl, hbel⟩
  have m1 := leftOf_le xListZ.length 1048576 (by omega)
  refine (szInstrS_any xListA xListZ.length xListC 1048576 w hxList.len (by omega) (by omega)).mono ?_
  rintro e v1 ⟨rfl, hb⟩
  replace hb : Below w.heap.size w v1 := by rw [← hb]; exact Below.refl _ _
  have s1 : Hid (w.heap.size ≤ v1.heap.size) := Lib.hid hb.size
  replace hbel := hbel.trans (hb.mono hbel.size)
  clear hb
  have zxList : All2 xListZ := hxList.wf
  replace hxList := hxList.rd (by have := leftOf_len k1; omega)
  go_wp2_with fail
  refine (toInstrS_any xListA xListC xListZ v1 (hxList.below hbel)).mono ?_
  rintro e v2 ⟨t2A, t2C, rfl, ot2, hb⟩
  have s3 : Hid (v1.heap.size ≤ v2.heap.size) := Lib.hid hb.size
  replace hbel := hbel.trans (hb.mono hbel.size)
  clear hb
  go_wp2_with fail
  refine (specProgramLines t2A t2C xListZ v2 ot2.rd zxList).mono ?_
  rintro e v3 ⟨w0A, w0C, rfl, ow0, hb⟩
  have s4 : Hid (v2.heap.size ≤ v3.heap.size) := Lib.hid hb.size
  replace ot2 := ot2.below hb
  replace hbel := hbel.trans (hb.mono hbel.size)
  clear hb
  clear ot2
  go_wp2_with fail
  refine (toInstrS_any xListA xListC xListZ v3 (hxList.below hbel)).mono ?_
  rintro e v4 ⟨t5A, t5C, rfl, ot5, hb⟩
  have s6 : Hid (v3.heap.size ≤ v4.heap.size) := Lib.hid hb.size
  replace ow0 := ow0.below hb
  replace hbel := hbel.trans (hb.mono hbel.size)
  clear hb
  go_wp2_with fail
  refine (implProgramLines t5A t5C xListZ v4 ot5.rd zxList (door_below hD hbel)).mono ?_
  rintro e v5 ⟨g0A, g0C, rfl, og0, hb⟩
  have s7 : Hid (v4.heap.size ≤ v5.heap.size) := Lib.hid hb.size
  replace ow0 := ow0.below hb
  replace ot5 := ot5.below hb
  replace hbel := hbel.trans (hb.mono hbel.size)
  clear hb
  have q8 : decide ((plR xListZ).1 = (plR xListZ).1) = true := decide_eq_true rfl
  go_wp2_with fail
  refine (eqStringS_any g0A w0A g0C w0C (plR xListZ).1 (plR xListZ).1 v5 og0.rd ow0.rd).mono ?_
  rintro e v6 ⟨rfl, hb⟩
  have s9 : Hid (v5.heap.size ≤ v6.heap.size) := Lib.hid hb.size
  replace ow0 := ow0.below hb
  replace ot5 := ot5.below hb
  replace og0 := og0.below hb
  replace hbel := hbel.trans (hb.mono hbel.size)
  clear hb
  have q10 : decide (xListZ = xListZ) = true := decide_eq_true rfl
  go_wp2_with fail
  refine (toInstrS_any xListA xListC xListZ v6 (hxList.below hbel)).mono ?_
  rintro e v7 ⟨t11A, t11C, rfl, ot11, hb⟩
  have s12 : Hid (v6.heap.size ≤ v7.heap.size) := Lib.hid hb.size
  replace ow0 := ow0.below hb
  replace ot5 := ot5.below hb
  replace og0 := og0.below hb
  replace hbel := hbel.trans (hb.mono hbel.size)
  clear hb
  go_wp2_with fail
  refine (eqInstrS_any t5A t11A t5C t11C xListZ xListZ v7 ot5.rd ot11.rd).mono ?_
  rintro e v8 ⟨rfl, hb⟩
  have s13 : Hid (v7.heap.size ≤ v8.heap.size) := Lib.hid hb.size
  replace ow0 := ow0.below hb
  replace ot5 := ot5.below hb
  replace og0 := og0.below hb
  replace ot11 := ot11.below hb
  replace hbel := hbel.trans (hb.mono hbel.size)
  clear hb
  clear ot11
  go_wp2_with fail
  refine (markInstrS_any _ _ _ t5A t5C 1 xListZ v8 ot5 (by have := ow0.len; have := ot5.len; have := og0.len; have := hxList.len; omega) (by have := ow0.len; have := ot5.len; have := og0.len; have := hxList.len; omega)).mono ?_
  rintro e v9 ⟨rfl, om, ht⟩
  have s14 : Hid (v8.heap.size ≤ v9.heap.size) := Lib.hid ht.size
  clear ot5
  have ot5 := om
  clear om
  replace ow0 := ow0.touch ht (by have := s1.out; have := s3.out; have := s4.out; have := s6.out; have := s7.out; have := s9.out; have := s12.out; have := s13.out; have := s14.out; omega)
  replace og0 := og0.touch ht (by have := s1.out; have := s3.out; have := s4.out; have := s6.out; have := s7.out; have := s9.out; have := s12.out; have := s13.out; have := s14.out; omega)
  replace hbel := hbel.trans (ht.below (by have := s1.out; have := s3.out; have := s4.out; have := s6.out; have := s7.out; have := s9.out; have := s12.out; have := s13.out; have := s14.out; omega) hbel.size)
  clear ht
  have q15 : decide ((plR xListZ).1 = (plR xListZ).1) = true := decide_eq_true rfl
  go_wp2_with fail
  refine (eqStringS_any g0A w0A g0C w0C (plR xListZ).1 (plR xListZ).1 v9 og0.rd ow0.rd).mono ?_
  rintro e v10 ⟨rfl, hb⟩
  have s16 : Hid (v9.heap.size ≤ v10.heap.size) := Lib.hid hb.size
  replace ow0 := ow0.below hb
  replace ot5 := ot5.below hb
  replace og0 := og0.below hb
  replace hbel := hbel.trans (hb.mono hbel.size)
  clear hb
  go_wp2_with fail
  refine (markStringS_any _ _ _ g0A g0C 1 (plR xListZ).1 v10 og0 (by have := ow0.len; have := ot5.len; have := og0.len; have := hxList.len; omega) (by have := ow0.len; have := ot5.len; have := og0.len; have := hxList.len; omega)).mono ?_
  rintro e v11 ⟨rfl, om, ht⟩
  have s17 : Hid (v10.heap.size ≤ v11.heap.size) := Lib.hid ht.size
  clear og0
  have og0 := om
  clear om
  replace ow0 := ow0.touch ht (by have := s1.out; have := s3.out; have := s4.out; have := s6.out; have := s7.out; have := s9.out; have := s12.out; have := s13.out; have := s14.out; have := s16.out; have := s17.out; omega)
  replace ot5 := ot5.touch ht (by have := s1.out; have := s3.out; have := s4.out; have := s6.out; have := s7.out; have := s9.out; have := s12.out; have := s13.out; have := s14.out; have := s16.out; have := s17.out; omega)
  replace hbel := hbel.trans (ht.below (by have := s1.out; have := s3.out; have := s4.out; have := s6.out; have := s7.out; have := s9.out; have := s12.out; have := s13.out; have := s14.out; have := s16.out; have := s17.out; omega) hbel.size)
  clear ht
  go_wp2_with fail
  refine (heldStringS_any g0A g0C 1 (plR xListZ).1.length v11 og0.rd (by have := ow0.len; have := ot5.len; have := og0.len; have := hxList.len; omega) (by have := ow0.len; have := ot5.len; have := og0.len; have := hxList.len; omega)).mono ?_
  rintro e v12 ⟨rfl, hb⟩
  have s18 : Hid (v11.heap.size ≤ v12.heap.size) := Lib.hid hb.size
  replace ow0 := ow0.below hb
  replace ot5 := ot5.below hb
  replace og0 := og0.below hb
  replace hbel := hbel.trans (hb.mono hbel.size)
  clear hb
  go_wp2_with fail
  refine (toInstrS_any xListA xListC xListZ v12 (hxList.below hbel)).mono ?_
  rintro e v13 ⟨t19A, t19C, rfl, ot19, hb⟩
  have s20 : Hid (v12.heap.size ≤ v13.heap.size) := Lib.hid hb.size
  replace ow0 := ow0.below hb
  replace ot5 := ot5.below hb
  replace og0 := og0.below hb
  replace hbel := hbel.trans (hb.mono hbel.size)
  clear hb
  go_wp2_with fail
  refine (implProgramLines t19A t19C xListZ v13 ot19.rd zxList (door_below hD hbel)).mono ?_
  rintro e v14 ⟨h0A, h0C, rfl, oh0, hb⟩
  have s21 : Hid (v13.heap.size ≤ v14.heap.size) := Lib.hid hb.size
  replace ow0 := ow0.below hb
  replace ot5 := ot5.below hb
  replace og0 := og0.below hb
  replace ot19 := ot19.below hb
  replace hbel := hbel.trans (hb.mono hbel.size)
  clear hb
  clear ot19
  have q22 : decide ((plR xListZ).1 = (plR xListZ).1) = true := decide_eq_true rfl
  go_wp2_with fail
  refine (eqStringS_any h0A w0A h0C w0C (plR xListZ).1 (plR xListZ).1 v14 oh0.rd ow0.rd).mono ?_
  rintro e v15 ⟨rfl, hb⟩
  have s23 : Hid (v14.heap.size ≤ v15.heap.size) := Lib.hid hb.size
  replace ow0 := ow0.below hb
  replace ot5 := ot5.below hb
  replace og0 := og0.below hb
  replace oh0 := oh0.below hb
  replace hbel := hbel.trans (hb.mono hbel.size)
  clear hb
  go_wp2_with fail
  refine (heldStringS_any g0A g0C 1 (plR xListZ).1.length v15 og0.rd (by have := ow0.len; have := ot5.len; have := og0.len; have := oh0.len; have := hxList.len; omega) (by have := ow0.len; have := ot5.len; have := og0.len; have := oh0.len; have := hxList.len; omega)).mono ?_
  rintro e v16 ⟨rfl, hb⟩
  have s24 : Hid (v15.heap.size ≤ v16.heap.size) := Lib.hid hb.size
  replace ow0 := ow0.below hb
  replace ot5 := ot5.below hb
  replace og0 := og0.below hb
  replace oh0 := oh0.below hb
  replace hbel := hbel.trans (hb.mono hbel.size)
  clear hb
  go_wp2
  go_ret
  exact ⟨rfl, hbel⟩

/-- The door's own heap meets the condition: closed facts. -/
theorem door_met (os : Os) (args : Array Value) : laidMetH Tryd.prog Rows.fnExactProgramLinesRow.laid ((World.doorLaid Tryd.prog 400 os).forCall (fun _ _ => 0) ⟨#[], args, []⟩).memory :=
  laidMetH_of_parts3 (fuel := 8) (laidMet_of_run' 8 (by kernel_rfl) (by kernel_rfl)) (by kernel_rfl) (by kernel_rfl)

set_option maxRecDepth 100000 in
theorem lifted (os : Os) (started : os.Started) (H : Type) (enc : TypeId × Value → H) :
    ReturnsInHanded {} Tryd.checked os 5 .any (fun w args => (Rows.fnExactProgramLinesSpec.pre enc Tryd.prog Tryd.f5 [] false w args ∧ laidMetH Tryd.prog Rows.fnExactProgramLinesRow.laid w) ∧ sizedMet enc Tryd.prog Tryd.f5 (OpenSpec.ofChange Rows.fnExactProgramLinesSpec) false w args)
      (Rows.fnExactProgramLinesSpec.post enc Tryd.prog Tryd.f5 false true false false) := by
  refine returnsInHanded_of_change_and (C := Tryd.checked) (X := fun w _ => laidMetH Tryd.prog Rows.fnExactProgramLinesRow.laid w) (fun _ _ _ hh h => h.of_heap hh) own_knob started (by kernel_rfl) Tryd.func5
    (ChangeSpec.witness_shaped (enc := enc) (C := Tryd.checked) (os := os) (X := fun w _ => laidMetH Tryd.prog Rows.fnExactProgramLinesRow.laid w) false (World.doorLaid Tryd.prog 400 os) #[.slice none 0 0] 8 rfl (World.shaped_of_RefB (by kernel_rfl) (by kernel_rfl)) (by kernel_rfl) (by kernel_rfl) (by kernel_rfl) (door_met os _)) ?_
  intro W base args ds gs before hval0 hW _ _ hL _
  have hval : ∀ (j : Nat) t v, Tryd.f5.params[j]? = some t → args[j]? = some v → Value.okWide Tryd.prog W .any base t v := hval0
  have hW' := hW
  obtain ⟨p, q, hA0, hV0, rfl, hfz, hnd⟩ := hW
  have hA : DataW.TrodAll enc Tryd.prog W 0 (fun _ => true) true Tryd.f5.params.toList args.toList ds p := hA0
  have hV : DataW.TrodVars enc Tryd.prog W (fun _ => true) ["loop.example/g00930/impl.opWords"] gs q := hV0
  rw [Tryd.params5] at hA hval
  obtain ⟨v0, vs0, d0, ds0, p0, q0, hargs, rfl, rfl, h0, r0⟩ := trodAll_cons hA
  obtain ⟨rfl, rfl, rfl⟩ := trodAll_nil r0
  obtain rfl : args = #[v0] := by cases args; simp_all
  have k0 := h0
  have lt0 : ∀ x ∈ p0, x.block < W.heap.size := by obtain ⟨m, hm⟩ := k0; exact DataW.trod_lt m _ _ _ hm
  obtain ⟨xListA, xListC, xListZ, rfl, hxList⟩ := open_InstrS (hval 0 34 v0 rfl rfl) h0
  have hD := of_laid hL
  clear hA0 hval0
  obtain ⟨gd, rfl⟩ : ∃ gd, gs = [gd] := by
    obtain ⟨_, _, _, _, d, _, h, _⟩ := trodVars_one hV
    exact ⟨d, h⟩
  refine (law_walk xListA xListC xListZ W hxList hD).mono fun e W' ⟨he, bel⟩ => ?_
  subst he
  obtain ⟨q', hq'⟩ := var_stays gVar tVar (by kernel_rfl) (of_decide_eq_true (by kernel_rfl)) hV bel
  exact ⟨_, rfl, _, _, _, [], _, q', hW', trodAll_mk1 (shut_bool Tryd.underlying4 _), (trodAll_cons_mk (Below.trod laid_out (by kernel_rfl) (of_decide_eq_true (by kernel_rfl)) k0 bel lt0) trodAll_mk0), hq', bel.frame _, fun h => by cases h⟩

set_option maxHeartbeats 20000000 in
theorem closed : joinedFacts Tryd.prog 5 Tryd.f5 Rows.fnExactProgramLinesSpec Rows.fnExactProgramLinesRow = true := by
  simp only [joinedFacts, Bool.and_eq_true]
  refine ⟨⟨⟨⟨⟨⟨⟨⟨⟨⟨⟨⟨⟨⟨⟨⟨⟨⟨⟨⟨⟨⟨⟨⟨⟨⟨⟨⟨⟨⟨⟨?_, laid_out⟩, fact_maps⟩, ?_⟩, ?_⟩, ?_⟩, fact_stops⟩, ?_⟩, fact_knobs⟩, ?_⟩, ?_⟩, ?_⟩, ?_⟩, ?_⟩, ?_⟩, ?_⟩, ?_⟩, ?_⟩, ?_⟩, ?_⟩, ?_⟩, ?_⟩, fact_plain⟩, ?_⟩, fact_heard⟩, fact_enter⟩, fact_lift⟩, ?_⟩, ?_⟩, ?_⟩, ?_⟩, ?_⟩
  all_goals (as_aux_lemma => kernel_rfl)

theorem over : Rows.FnExactProgramLinesSaid :=
  OpenClaim.holds_of_wide 5 Tryd.f5 rfl rfl rfl rfl rfl rfl rfl ⟨rfl, rfl, rfl, rfl, rfl⟩ rfl rfl rfl rfl rfl (by as_aux_lemma => kernel_rfl) Tryd.func5 closed
    (of_decide_eq_true (by as_aux_lemma => kernel_rfl)) (by unfold Func.isWrapper; first | (rw [if_pos (by decide +kernel)]; kernel_rfl) | (rw [if_neg (by decide +kernel)]; exact ⟨rfl, rfl⟩))
    (fun os started H enc _ => lifted os started H enc)

set_option maxHeartbeats 20000000 in
/-- The statement: the tied card. -/
theorem proved : Rows.FnExactProgramLinesCardSaid :=
  Claim7.holds_tied_plain_at .later [] [.data, .data, .data, .data] true (true, "6075a7d7f41d0bf6fa5891e1ddca2dba93e09eafc9bda3e018996d44eb929edf") true
    over (fun _ h => by cases h) (by as_aux_lemma => kernel_rfl) (fun _ h => by cases h) fnExactProgramLines_row_tie rfl ⟨rfl, rfl⟩ (by as_aux_lemma => kernel_rfl) rfl
    (fun f fn hf hfn => by
      obtain rfl : f = 5 := Option.some.inj ((show Tryd.prog.funcNamed "loop.example/g00930/laws.FnExactProgramLines" = some 5 by as_aux_lemma => kernel_rfl).symm.trans hf) |>.symm
      obtain rfl : fn = Tryd.f5 := (Option.some.inj (Tryd.func5.symm.trans hfn)).symm
      exact ⟨(by as_aux_lemma => kernel_rfl), fun j t ht => by
        rw [Tryd.params5] at ht
        have hm : t ∈ [34] := by simpa using Array.mem_of_getElem? ht
        have hall : ([34].all fun u => !Tryd.prog.wantsStandIn u) = true := by as_aux_lemma => kernel_rfl
        exact (show Tryd.prog.wantsStandIn t = false by simpa using List.all_eq_true.1 hall t hm)⟩)
    (by as_aux_lemma => kernel_rfl)
end Go.Proofs.YtgfopieojpjddaaDoor.lawProgramLines
