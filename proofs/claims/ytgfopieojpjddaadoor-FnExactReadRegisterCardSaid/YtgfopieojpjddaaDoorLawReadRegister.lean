/-
  laws.FnExactReadRegister returns true at every input (no condition, but the texts of the library's tables, which the card ties), and leaves its arguments as they were.
-/
import Derived.Test.YtgfopieojpjddaaDoorReg
import Derived.Test.YtgfopieojpjddaaDoorBox
import Derived.Test.YtgfopieojpjddaaDoorFrame
import Derived.Test.YtgfopieojpjddaaDoorRgS
import Derived.Test.YtgfopieojpjddaaDoorDoorFrame
import Derived.Test.YtgfopieojpjddaaDoorShapeD
import Derived.Test.YtgfopieojpjddaaDoorFacts
import Derived.Test.YtgfopieojpjddaaDoorRows
namespace Go.Proofs.YtgfopieojpjddaaDoor.lawReadRegister
open Go.ChangeShapes Go.WideShapes Go.ChangeAt Go.WideElems Go.RowKit Go.Joins
open Go.ChangeMaps (open_string shut_string)

theorem rowErr (u : TypeId) (h : Tryd.prog.typeName? 3 u = some "*errors.errorString") : u = 202 :=
  typeName_ptr_named (nm := "errors.errorString") (by rw [show "*" ++ "errors.errorString" = "*errors.errorString" by decide]; kernel_rfl) (by kernel_rfl) (by decide) u (by rw [show "*" ++ "errors.errorString" = "*errors.errorString" by decide]; exact h)
def Door (w : World) : Prop := RgDoor w
theorem door_below {w w' : World} (h : Door w) (hb : Below w.heap.size w w') : Door w' := rgDoor_below h hb
theorem of_laid {W : World} (h : laidMetH Tryd.prog Rows.fnExactReadRegisterRow.laid W) (hSh : W.ShapedOpen Tryd.prog) : Door W := by
  rw [MakeChecks.laidMetH_plain _ _ _ (by kernel_rfl)] at h
  have h2 := h.tail.tail
  refine ⟨?_, cell_of_shapedOpen_int (P := Tryd.prog) (g := 5) (t := 3) (zero := #[.int .i64 0]) hSh (of_decide_eq_true (by kernel_rfl)) (by kernel_rfl) rfl (by kernel_rfl) (by kernel_rfl) Tryd.underlying3⟩
  refine ⟨Lib.tabIs_of_head (g := 6) (t := 206) (e := 159) (n := 20) (by kernel_rfl) (by kernel_rfl) Tryd.underlying206 Tryd.underlying159 (by kernel_rfl) (by kernel_rfl)
    (show laidMet Tryd.prog (("internal/strconv.uint64pow10", Lib.tabData .u64 Lib.pow10Tab) :: _) W from h2), ?_, ?_⟩
  · obtain ⟨a, t, hv, _⟩ := laid_sentinel h2.tail.tail (g := 3) (ti := 95) (tp := 202) (te := 204) (ts := 9) (by kernel_rfl) (by kernel_rfl) Tryd.underlying95 rowErr Tryd.underlying202 Tryd.underlying204 rfl rfl Tryd.underlying9 (by kernel_rfl) (by kernel_rfl)
    exact ⟨_, by simpa using World.var?_cell (g := 3) (by kernel_rfl) hv 0, _, _, rfl⟩
  · obtain ⟨a, t, hv, _⟩ := laid_sentinel h2.tail (g := 4) (ti := 95) (tp := 202) (te := 204) (ts := 9) (by kernel_rfl) (by kernel_rfl) Tryd.underlying95 rowErr Tryd.underlying202 Tryd.underlying204 rfl rfl Tryd.underlying9 (by kernel_rfl) (by kernel_rfl)
    exact ⟨_, by simpa using World.var?_cell (g := 4) (by kernel_rfl) hv 0, _, _, rfl⟩

set_option maxRecDepth 100000 in
set_option maxHeartbeats 4000000 in
theorem law_walk (xS : ByteArray) (w : World) (lxS : xS.size ≤ 9223372036854775807) (hD : Door w) :
    Calls Tryd.prog 8 #[.string xS] w fun e w' => e = .returned (.bool true) ∧ Below w.heap.size w w' := by
  rcases Nat.lt_or_ge 1048576 xS.size with kxS | fxS
  · go_enter Tryd.func8, Tryd.ntmps8
    go_wp2
    go_ret
    exact ⟨rfl, Below.refl _ _⟩
  have hbel : Below w.heap.size w w := Below.refl _ _
  go_enter Tryd.func8, Tryd.ntmps8
  go_wp2_with fail
  refine (specReadRegister xS w fxS).mono ?_
  rintro e v1 ⟨w0A, w0C, rfl, ow0, hb⟩
  have s1 : Hid (w.heap.size ≤ v1.heap.size) := Lib.hid hb.size
  replace hbel := hbel.trans (hb.mono hbel.size)
  clear hb
  have ha2 : Below v1.heap.size v1 (v1.alloc (.cells #[.int .i64 (rgR xS).1, .slice w0A (rgR xS).2.1.length w0C] 47)) := (Below.refl _ _).alloc (by simp <;> omega) _
  replace ow0 := ow0.below ha2
  replace hbel := hbel.trans (ha2.mono hbel.size)
  clear ha2
  have cw00 : (v1.alloc (.cells #[.int .i64 (rgR xS).1, .slice w0A (rgR xS).2.1.length w0C] 47)).cell? ⟨v1.heap.size, 0, none⟩ = some (.int .i64 (rgR xS).1) := by go_simp
  have cw01 : (v1.alloc (.cells #[.int .i64 (rgR xS).1, .slice w0A (rgR xS).2.1.length w0C] 47)).cell? ⟨v1.heap.size, 1, none⟩ = some (.slice w0A (rgR xS).2.1.length w0C) := by go_simp
  go_wp2_with fail
  obtain ⟨v2, hu⟩ : ∃ u, u = (v1.alloc (.cells #[.int .i64 (rgR xS).1, .slice w0A (rgR xS).2.1.length w0C] 47)) := ⟨_, rfl⟩
  have s3 : Hid (v1.heap.size + 1 ≤ v2.heap.size) := Lib.hid (by rw [hu]; simp)
  rw [← hu] at cw00 cw01 ow0 hbel ⊢
  clear hu
  refine (implReadRegister xS v2 fxS (door_below hD hbel)).mono ?_
  rintro e v3 ⟨g0A, g0C, rfl, og0, hb⟩
  have s4 : Hid (v2.heap.size ≤ v3.heap.size) := Lib.hid hb.size
  replace cw00 := kept hb cw00
  replace cw01 := kept hb cw01
  replace ow0 := ow0.below hb
  replace hbel := hbel.trans (hb.mono hbel.size)
  clear hb
  have ha5 : Below v3.heap.size v3 (v3.alloc (.cells #[.int .i64 (rgR xS).1, .slice g0A (rgR xS).2.1.length g0C] 47)) := (Below.refl _ _).alloc (by simp <;> omega) _
  replace cw00 := kept ha5 cw00
  replace cw01 := kept ha5 cw01
  replace ow0 := ow0.below ha5
  replace og0 := og0.below ha5
  replace hbel := hbel.trans (ha5.mono hbel.size)
  clear ha5
  have cg00 : (v3.alloc (.cells #[.int .i64 (rgR xS).1, .slice g0A (rgR xS).2.1.length g0C] 47)).cell? ⟨v3.heap.size, 0, none⟩ = some (.int .i64 (rgR xS).1) := by go_simp
  have cg01 : (v3.alloc (.cells #[.int .i64 (rgR xS).1, .slice g0A (rgR xS).2.1.length g0C] 47)).cell? ⟨v3.heap.size, 1, none⟩ = some (.slice g0A (rgR xS).2.1.length g0C) := by go_simp
  have q6 : regEqB (rgR xS).1 (rgR xS).1 (rgR xS).2.1 (rgR xS).2.1 = true := regEqB_self _ _
  go_wp2_with fail
  obtain ⟨v4, hu⟩ : ∃ u, u = (v3.alloc (.cells #[.int .i64 (rgR xS).1, .slice g0A (rgR xS).2.1.length g0C] 47)) := ⟨_, rfl⟩
  have s7 : Hid (v3.heap.size + 1 ≤ v4.heap.size) := Lib.hid (by rw [hu]; simp)
  rw [← hu] at cw00 cw01 cg00 cg01 ow0 og0 hbel ⊢
  clear hu
  refine (eqRegister_any (rgR xS).1 (rgR xS).1 g0A w0A g0C w0C (rgR xS).2.1 (rgR xS).2.1 v4 og0.rd ow0.rd).mono ?_
  rintro e v5 ⟨rfl, hb⟩
  have s8 : Hid (v4.heap.size ≤ v5.heap.size) := Lib.hid hb.size
  replace cw00 := kept hb cw00
  replace cw01 := kept hb cw01
  replace cg00 := kept hb cg00
  replace cg01 := kept hb cg01
  replace ow0 := ow0.below hb
  replace og0 := og0.below hb
  replace hbel := hbel.trans (hb.mono hbel.size)
  clear hb
  go_wp2_with fail
  refine (markRegister_any _ _ _ (rgR xS).1 g0A g0C 1 (rgR xS).2.1 v5 og0 (by have := ow0.len; have := og0.len; omega) (by have := ow0.len; have := og0.len; omega)).mono ?_
  rintro e v6 ⟨rfl, om, ht⟩
  have s9 : Hid (v5.heap.size ≤ v6.heap.size) := Lib.hid ht.size
  clear og0
  have og0 := om
  clear om
  replace cw00 := keptT ht cw00 (by have := s1.out; have := s3.out; have := s4.out; have := s7.out; have := s8.out; have := s9.out; omega)
  replace cw01 := keptT ht cw01 (by have := s1.out; have := s3.out; have := s4.out; have := s7.out; have := s8.out; have := s9.out; omega)
  replace cg00 := keptT ht cg00 (by have := s1.out; have := s3.out; have := s4.out; have := s7.out; have := s8.out; have := s9.out; omega)
  replace cg01 := keptT ht cg01 (by have := s1.out; have := s3.out; have := s4.out; have := s7.out; have := s8.out; have := s9.out; omega)
  replace ow0 := ow0.touch ht (by have := s1.out; have := s3.out; have := s4.out; have := s7.out; have := s8.out; have := s9.out; omega)
  replace hbel := hbel.trans (ht.below (by have := s1.out; have := s3.out; have := s4.out; have := s7.out; have := s8.out; have := s9.out; omega) hbel.size)
  clear ht
  go_wp2_with fail
  refine (heldRegister_any (rgR xS).1 g0A g0C 1 (rgR xS).2.1.length v6 og0.rd (by have := ow0.len; have := og0.len; omega) (by have := ow0.len; have := og0.len; omega)).mono ?_
  rintro e v7 ⟨rfl, hb⟩
  have s10 : Hid (v6.heap.size ≤ v7.heap.size) := Lib.hid hb.size
  replace cw00 := kept hb cw00
  replace cw01 := kept hb cw01
  replace cg00 := kept hb cg00
  replace cg01 := kept hb cg01
  replace ow0 := ow0.below hb
  replace og0 := og0.below hb
  replace hbel := hbel.trans (hb.mono hbel.size)
  clear hb
  go_wp2_with fail
  refine (implReadRegister xS v7 fxS (door_below hD hbel)).mono ?_
  rintro e v8 ⟨h0A, h0C, rfl, oh0, hb⟩
  have s11 : Hid (v7.heap.size ≤ v8.heap.size) := Lib.hid hb.size
  replace cw00 := kept hb cw00
  replace cw01 := kept hb cw01
  replace cg00 := kept hb cg00
  replace cg01 := kept hb cg01
  replace ow0 := ow0.below hb
  replace og0 := og0.below hb
  replace hbel := hbel.trans (hb.mono hbel.size)
  clear hb
  have ha12 : Below v8.heap.size v8 (v8.alloc (.cells #[.int .i64 (rgR xS).1, .slice h0A (rgR xS).2.1.length h0C] 47)) := (Below.refl _ _).alloc (by simp <;> omega) _
  replace cw00 := kept ha12 cw00
  replace cw01 := kept ha12 cw01
  replace cg00 := kept ha12 cg00
  replace cg01 := kept ha12 cg01
  replace ow0 := ow0.below ha12
  replace og0 := og0.below ha12
  replace oh0 := oh0.below ha12
  replace hbel := hbel.trans (ha12.mono hbel.size)
  clear ha12
  have ch00 : (v8.alloc (.cells #[.int .i64 (rgR xS).1, .slice h0A (rgR xS).2.1.length h0C] 47)).cell? ⟨v8.heap.size, 0, none⟩ = some (.int .i64 (rgR xS).1) := by go_simp
  have ch01 : (v8.alloc (.cells #[.int .i64 (rgR xS).1, .slice h0A (rgR xS).2.1.length h0C] 47)).cell? ⟨v8.heap.size, 1, none⟩ = some (.slice h0A (rgR xS).2.1.length h0C) := by go_simp
  have q13 : regEqB (rgR xS).1 (rgR xS).1 (rgR xS).2.1 (rgR xS).2.1 = true := regEqB_self _ _
  go_wp2_with fail
  obtain ⟨v9, hu⟩ : ∃ u, u = (v8.alloc (.cells #[.int .i64 (rgR xS).1, .slice h0A (rgR xS).2.1.length h0C] 47)) := ⟨_, rfl⟩
  have s14 : Hid (v8.heap.size + 1 ≤ v9.heap.size) := Lib.hid (by rw [hu]; simp)
  rw [← hu] at cw00 cw01 cg00 cg01 ch00 ch01 ow0 og0 oh0 hbel ⊢
  clear hu
  refine (eqRegister_any (rgR xS).1 (rgR xS).1 h0A w0A h0C w0C (rgR xS).2.1 (rgR xS).2.1 v9 oh0.rd ow0.rd).mono ?_
  rintro e v10 ⟨rfl, hb⟩
  have s15 : Hid (v9.heap.size ≤ v10.heap.size) := Lib.hid hb.size
  replace cw00 := kept hb cw00
  replace cw01 := kept hb cw01
  replace cg00 := kept hb cg00
  replace cg01 := kept hb cg01
  replace ch00 := kept hb ch00
  replace ch01 := kept hb ch01
  replace ow0 := ow0.below hb
  replace og0 := og0.below hb
  replace oh0 := oh0.below hb
  replace hbel := hbel.trans (hb.mono hbel.size)
  clear hb
  go_wp2_with fail
  refine (heldRegister_any (rgR xS).1 g0A g0C 1 (rgR xS).2.1.length v10 og0.rd (by have := ow0.len; have := og0.len; have := oh0.len; omega) (by have := ow0.len; have := og0.len; have := oh0.len; omega)).mono ?_
  rintro e v11 ⟨rfl, hb⟩
  have s16 : Hid (v10.heap.size ≤ v11.heap.size) := Lib.hid hb.size
  replace cw00 := kept hb cw00
  replace cw01 := kept hb cw01
  replace cg00 := kept hb cg00
  replace cg01 := kept hb cg01
  replace ch00 := kept hb ch00
  replace ch01 := kept hb ch01
  replace ow0 := ow0.below hb
  replace og0 := og0.below hb
  replace oh0 := oh0.below hb
  replace hbel := hbel.trans (hb.mono hbel.size)
  clear hb
  go_wp2
  go_ret
  exact ⟨rfl, hbel⟩

/-- The door's own heap meets the condition: closed facts. -/
theorem door_met (os : Os) (args : Array Value) : laidMetH Tryd.prog Rows.fnExactReadRegisterRow.laid ((World.doorLaid Tryd.prog 400 os).forCall (fun _ _ => 0) ⟨#[], args, []⟩).memory :=
  laidMetH_of_parts3 (fuel := 8) (laidMet_of_run' 8 (by kernel_rfl) (by kernel_rfl)) (by kernel_rfl) (by kernel_rfl)

set_option maxRecDepth 100000 in
theorem lifted (os : Os) (started : os.Started) (H : Type) (enc : TypeId × Value → H) :
    ReturnsInHanded {} Tryd.checked os 8 .any (fun w args => (Rows.fnExactReadRegisterSpec.pre enc Tryd.prog Tryd.f8 [] false w args ∧ laidMetH Tryd.prog Rows.fnExactReadRegisterRow.laid w) ∧ sizedMet enc Tryd.prog Tryd.f8 (OpenSpec.ofChange Rows.fnExactReadRegisterSpec) false w args)
      (Rows.fnExactReadRegisterSpec.post enc Tryd.prog Tryd.f8 false true false false) := by
  refine handed_laid_shaped (C := Tryd.checked) (laid := Rows.fnExactReadRegisterRow.laid) own_knob started (by kernel_rfl) Tryd.func8
    (ChangeSpec.witness_shaped (enc := enc) (C := Tryd.checked) (os := os) (X := fun w _ => laidMetH Tryd.prog Rows.fnExactReadRegisterRow.laid w) false (World.doorLaid Tryd.prog 400 os) #[.string ByteArray.empty] 8 rfl (World.shaped_of_RefB (by kernel_rfl) (by kernel_rfl)) (by kernel_rfl) (by kernel_rfl) (by kernel_rfl) (door_met os _)) ?_
  intro W base args ds gs before hval0 hW hL hSh
  have hval : ∀ (j : Nat) t v, Tryd.f8.params[j]? = some t → args[j]? = some v → Value.okWide Tryd.prog W .any base t v := hval0
  have hW' := hW
  obtain ⟨p, q, hA0, hV0, rfl, hfz, hnd⟩ := hW
  have hA : DataW.TrodAll enc Tryd.prog W 0 (fun _ => true) true Tryd.f8.params.toList args.toList ds p := hA0
  have hV : DataW.TrodVars enc Tryd.prog W (fun _ => true) [] gs q := hV0
  rw [Tryd.params8] at hA hval
  obtain ⟨v0, vs0, d0, ds0, p0, q0, hargs, rfl, rfl, h0, r0⟩ := trodAll_cons hA
  obtain ⟨rfl, rfl, rfl⟩ := trodAll_nil r0
  obtain rfl : args = #[v0] := by cases args; simp_all
  obtain ⟨xS, rfl, rfl, rfl, lxS⟩ := open_string Tryd.underlying9 (hval 0 9 v0 rfl rfl) h0
  have hD := of_laid hL hSh
  clear hA0 hval0
  obtain ⟨rfl, rfl⟩ := trodVars_none hV
  refine (law_walk xS W lxS hD).mono fun e W' ⟨he, bel⟩ => ?_
  subst he
  exact ⟨_, rfl, _, _, _, [], _, [], hW', trodAll_mk1 (shut_bool Tryd.underlying4 _), (trodAll_cons_mk (shut_string Tryd.underlying9 lxS) trodAll_mk0), rfl, bel.frame _, fun h => by cases h⟩

set_option maxHeartbeats 20000000 in
theorem closed : joinedFacts Tryd.prog 8 Tryd.f8 Rows.fnExactReadRegisterSpec Rows.fnExactReadRegisterRow = true := by
  simp only [joinedFacts, Bool.and_eq_true]
  refine ⟨⟨⟨⟨⟨⟨⟨⟨⟨⟨⟨⟨⟨⟨⟨⟨⟨⟨⟨⟨⟨⟨⟨⟨⟨⟨⟨⟨⟨⟨⟨?_, laid_out⟩, fact_maps⟩, ?_⟩, ?_⟩, ?_⟩, fact_stops⟩, ?_⟩, fact_knobs⟩, ?_⟩, ?_⟩, ?_⟩, ?_⟩, ?_⟩, ?_⟩, ?_⟩, ?_⟩, ?_⟩, ?_⟩, ?_⟩, ?_⟩, ?_⟩, fact_plain⟩, ?_⟩, fact_heard⟩, fact_enter⟩, fact_lift⟩, ?_⟩, ?_⟩, ?_⟩, ?_⟩, ?_⟩
  all_goals (as_aux_lemma => kernel_rfl)

theorem over : Rows.FnExactReadRegisterSaid :=
  OpenClaim.holds_of_wide 8 Tryd.f8 rfl rfl rfl rfl rfl rfl rfl ⟨rfl, rfl, rfl, rfl, rfl⟩ rfl rfl rfl rfl rfl (by as_aux_lemma => kernel_rfl) Tryd.func8 closed
    (of_decide_eq_true (by as_aux_lemma => kernel_rfl)) (by unfold Func.isWrapper; first | (rw [if_pos (by decide +kernel)]; kernel_rfl) | (rw [if_neg (by decide +kernel)]; exact ⟨rfl, rfl⟩))
    (fun os started H enc _ => lifted os started H enc)

set_option maxHeartbeats 20000000 in
/-- The statement: the tied card. -/
theorem proved : Rows.FnExactReadRegisterCardSaid :=
  Claim7.holds_tied_plain_at .later [] [.data, .data, .data, .sentinel, .sentinel] true (true, "6075a7d7f41d0bf6fa5891e1ddca2dba93e09eafc9bda3e018996d44eb929edf") true
    over (fun _ h => by cases h) (by as_aux_lemma => kernel_rfl) (fun _ h => by cases h) fnExactReadRegister_row_tie rfl ⟨rfl, rfl⟩ (by as_aux_lemma => kernel_rfl) rfl
    (fun f fn hf hfn => by
      obtain rfl : f = 8 := Option.some.inj ((show Tryd.prog.funcNamed "loop.example/g00930/laws.FnExactReadRegister" = some 8 by as_aux_lemma => kernel_rfl).symm.trans hf) |>.symm
      obtain rfl : fn = Tryd.f8 := (Option.some.inj (Tryd.func8.symm.trans hfn)).symm
      exact ⟨(by as_aux_lemma => kernel_rfl), fun j t ht => by
        rw [Tryd.params8] at ht
        have hm : t ∈ [9] := by simpa using Array.mem_of_getElem? ht
        have hall : ([9].all fun u => !Tryd.prog.wantsStandIn u) = true := by as_aux_lemma => kernel_rfl
        exact (show Tryd.prog.wantsStandIn t = false by simpa using List.all_eq_true.1 hall t hm)⟩)
    (by as_aux_lemma => kernel_rfl)
end Go.Proofs.YtgfopieojpjddaaDoor.lawReadRegister
