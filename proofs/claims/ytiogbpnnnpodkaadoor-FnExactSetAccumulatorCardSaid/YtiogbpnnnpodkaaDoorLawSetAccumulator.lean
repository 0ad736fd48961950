/-
  laws.FnExactSetAccumulator returns true at every input (no condition, but the texts of the library's tables, which the card ties), and leaves its arguments as they were.
-/
import Derived.Test.YtiogbpnnnpodkaaDoorReg
import Derived.Test.YtiogbpnnnpodkaaDoorBox
import Derived.Test.YtiogbpnnnpodkaaDoorFrame
import Derived.Test.YtiogbpnnnpodkaaDoorSetI
import Derived.Test.YtiogbpnnnpodkaaDoorSetS
import Derived.Test.YtiogbpnnnpodkaaDoorDoorFrame
import Derived.Test.YtiogbpnnnpodkaaDoorFacts
import Derived.Test.YtiogbpnnnpodkaaDoorRows
namespace Go.Proofs.YtiogbpnnnpodkaaDoor.lawSetAccumulator
open Go.ChangeShapes Go.WideShapes Go.ChangeAt Go.WideElems Go.RowKit Go.Joins
open Go.ChangeMaps (open_string shut_string)

theorem rowErr (u : TypeId) (h : Tryd.prog.typeName? 3 u = some "*errors.errorString") : u = 204 :=
  typeName_ptr_named (nm := "errors.errorString") (by rw [show "*" ++ "errors.errorString" = "*errors.errorString" by decide]; kernel_rfl) (by kernel_rfl) (by decide) u (by rw [show "*" ++ "errors.errorString" = "*errors.errorString" by decide]; exact h)
theorem gVar : Tryd.prog.globalNamed "loop.example/g00930/impl.errBell" = some 0 := by kernel_rfl
theorem tVar : (Tryd.prog.globals[0]?).map (·.type) = some 85 := by kernel_rfl
def Door (w : World) : Prop := BellD w
theorem door_below {w w' : World} (h : Door w) (hb : Below w.heap.size w w') : Door w' := h.below hb
theorem of_laid {W : World} (h : laidMetH Tryd.prog Rows.fnExactSetAccumulatorRow.laid W) : Door W := by
  rw [MakeChecks.laidMetH_plain _ _ _ (by kernel_rfl)] at h
  obtain ⟨a, t, hv, _⟩ := laid_sentinel h (g := 0) (ti := 85) (tp := 204) (te := 206) (ts := 9) (by kernel_rfl) (by kernel_rfl) Tryd.underlying85 rowErr Tryd.underlying204 Tryd.underlying206 rfl rfl Tryd.underlying9 (by kernel_rfl) (by kernel_rfl)
  exact ⟨_, by simpa [BellAt, bellV] using World.var?_cell (g := 0) (by kernel_rfl) hv 0⟩

set_option maxRecDepth 100000 in
set_option maxHeartbeats 4000000 in
theorem law_walk (xBase : Int) (xWidth : Int) (xNumber : Int) (w : World) (bxBase : I64 xBase) (bxWidth : I64 xWidth) (bxNumber : I64 xNumber) (hD : Door w) :
    Calls Tryd.prog 3 #[.int .i64 xBase, .int .i64 xWidth, .int .i64 xNumber] w fun e w' => e = .returned (.bool true) ∧ Below w.heap.size w w' := by
  have hbel : Below w.heap.size w w := Below.refl _ _
  go_enter Tryd.func3, Tryd.ntmps3
  go_wp2_with fail
  refine (specSetAccumulator xBase xWidth xNumber w bxBase bxWidth bxNumber).mono ?_
  rintro e v1 ⟨w0A, w0C, rfl, ow0, hb⟩
  have s1 : Hid (w.heap.size ≤ v1.heap.size) := Lib.hid hb.size
  replace hbel := hbel.trans (hb.mono hbel.size)
  clear hb
  have ha2 : Below v1.heap.size v1 (v1.alloc (.cells #[.int .i64 (setAR xBase xWidth xNumber).1, .slice w0A (setAR xBase xWidth xNumber).2.1.length w0C] 24)) := (Below.refl _ _).alloc (by simp <;> omega) _
  replace ow0 := ow0.below ha2
  replace hbel := hbel.trans (ha2.mono hbel.size)
  clear ha2
  have cw00 : (v1.alloc (.cells #[.int .i64 (setAR xBase xWidth xNumber).1, .slice w0A (setAR xBase xWidth xNumber).2.1.length w0C] 24)).cell? ⟨v1.heap.size, 0, none⟩ = some (.int .i64 (setAR xBase xWidth xNumber).1) := by go_simp
  have cw01 : (v1.alloc (.cells #[.int .i64 (setAR xBase xWidth xNumber).1, .slice w0A (setAR xBase xWidth xNumber).2.1.length w0C] 24)).cell? ⟨v1.heap.size, 1, none⟩ = some (.slice w0A (setAR xBase xWidth xNumber).2.1.length w0C) := by go_simp
  go_wp2_with fail
  obtain ⟨v2, hu⟩ : ∃ u, u = (v1.alloc (.cells #[.int .i64 (setAR xBase xWidth xNumber).1, .slice w0A (setAR xBase xWidth xNumber).2.1.length w0C] 24)) := ⟨_, rfl⟩
  have s3 : Hid (v1.heap.size + 1 ≤ v2.heap.size) := Lib.hid (by rw [hu]; simp)
  rw [← hu] at cw00 cw01 ow0 hbel ⊢
  clear hu
  refine (implSetAccumulator xBase xWidth xNumber v2 bxBase bxWidth bxNumber (door_below hD hbel)).mono ?_
  rintro e v3 ⟨g0A, g0C, rfl, og0, hb⟩
  have s4 : Hid (v2.heap.size ≤ v3.heap.size) := Lib.hid hb.size
  replace cw00 := kept hb cw00
  replace cw01 := kept hb cw01
  replace ow0 := ow0.below hb
  replace hbel := hbel.trans (hb.mono hbel.size)
  clear hb
  have ha5 : Below v3.heap.size v3 (v3.alloc (.cells #[.int .i64 (setAR xBase xWidth xNumber).1, .slice g0A (setAR xBase xWidth xNumber).2.1.length g0C] 24)) := (Below.refl _ _).alloc (by simp <;> omega) _
  replace cw00 := kept ha5 cw00
  replace cw01 := kept ha5 cw01
  replace ow0 := ow0.below ha5
  replace og0 := og0.below ha5
  replace hbel := hbel.trans (ha5.mono hbel.size)
  clear ha5
  have cg00 : (v3.alloc (.cells #[.int .i64 (setAR xBase xWidth xNumber).1, .slice g0A (setAR xBase xWidth xNumber).2.1.length g0C] 24)).cell? ⟨v3.heap.size, 0, none⟩ = some (.int .i64 (setAR xBase xWidth xNumber).1) := by go_simp
  have cg01 : (v3.alloc (.cells #[.int .i64 (setAR xBase xWidth xNumber).1, .slice g0A (setAR xBase xWidth xNumber).2.1.length g0C] 24)).cell? ⟨v3.heap.size, 1, none⟩ = some (.slice g0A (setAR xBase xWidth xNumber).2.1.length g0C) := by go_simp
  have q6 : regEqB (setAR xBase xWidth xNumber).1 (setAR xBase xWidth xNumber).1 (setAR xBase xWidth xNumber).2.1 (setAR xBase xWidth xNumber).2.1 = true := regEqB_self _ _
  go_wp2_with fail
  obtain ⟨v4, hu⟩ : ∃ u, u = (v3.alloc (.cells #[.int .i64 (setAR xBase xWidth xNumber).1, .slice g0A (setAR xBase xWidth xNumber).2.1.length g0C] 24)) := ⟨_, rfl⟩
  have s7 : Hid (v3.heap.size + 1 ≤ v4.heap.size) := Lib.hid (by rw [hu]; simp)
  rw [← hu] at cw00 cw01 cg00 cg01 ow0 og0 hbel ⊢
  clear hu
  refine (eqRegister_any (setAR xBase xWidth xNumber).1 (setAR xBase xWidth xNumber).1 g0A w0A g0C w0C (setAR xBase xWidth xNumber).2.1 (setAR xBase xWidth xNumber).2.1 v4 og0.rd ow0.rd).mono ?_
  rintro e v5 ⟨rfl, hb⟩
  have s8 : Hid (v4.heap.size ≤ v5.heap.size) := Lib.hid hb.size
  replace cw00 := kept hb cw00
  replace cw01 := kept hb cw01
  replace cg00 := kept hb cg00
  replace cg01 := kept hb cg01
  replace ow0 := ow0.below hb
  replace og0 := og0.below hb
  replace hbel := hbel.trans (hb.mono hbel.size)
  clear hb
  go_wp2_with fail
  refine (markRegister_any _ _ _ (setAR xBase xWidth xNumber).1 g0A g0C 1 (setAR xBase xWidth xNumber).2.1 v5 og0 (by have := ow0.len; have := og0.len; omega) (by have := ow0.len; have := og0.len; omega)).mono ?_
  rintro e v6 ⟨rfl, om, ht⟩
  have s9 : Hid (v5.heap.size ≤ v6.heap.size) := Lib.hid ht.size
  clear og0
  have og0 := om
  clear om
  replace cw00 := keptT ht cw00 (by have := s1.out; have := s3.out; have := s4.out; have := s7.out; have := s8.out; have := s9.out; omega)
  replace cw01 := keptT ht cw01 (by have := s1.out; have := s3.out; have := s4.out; have := s7.out; have := s8.out; have := s9.out; omega)
  replace cg00 := keptT ht cg00 (by have := s1.out; have := s3.out; have := s4.out; have := s7.out; have := s8.out; have := s9.out; omega)
  replace cg01 := keptT ht cg01 (by have := s1.out; have := s3.out; have := s4.out; have := s7.out; have := s8.out; have := s9.out; omega)
  replace ow0 := ow0.touch ht (by have := s1.out; have := s3.out; have := s4.out; have := s7.out; have := s8.out; have := s9.out; omega)
  replace hbel := hbel.trans (ht.below (by have := s1.out; have := s3.out; have := s4.out; have := s7.out; have := s8.out; have := s9.out; omega) hbel.size)
  clear ht
  go_wp2_with fail
  refine (heldRegister_any (setAR xBase xWidth xNumber).1 g0A g0C 1 (setAR xBase xWidth xNumber).2.1.length v6 og0.rd (by have := ow0.len; have := og0.len; omega) (by have := ow0.len; have := og0.len; omega)).mono ?_
  rintro e v7 ⟨rfl, hb⟩
  have s10 : Hid (v6.heap.size ≤ v7.heap.size) := Lib.hid hb.size
  replace cw00 := kept hb cw00
  replace cw01 := kept hb cw01
  replace cg00 := kept hb cg00
  replace cg01 := kept hb cg01
  replace ow0 := ow0.below hb
  replace og0 := og0.below hb
  replace hbel := hbel.trans (hb.mono hbel.size)
  clear hb
  go_wp2_with fail
  refine (implSetAccumulator xBase xWidth xNumber v7 bxBase bxWidth bxNumber (door_below hD hbel)).mono ?_
  rintro e v8 ⟨h0A, h0C, rfl, oh0, hb⟩
  have s11 : Hid (v7.heap.size ≤ v8.heap.size) := Lib.hid hb.size
  replace cw00 := kept hb cw00
  replace cw01 := kept hb cw01
  replace cg00 := kept hb cg00
  replace cg01 := kept hb cg01
  replace ow0 := ow0.below hb
  replace og0 := og0.below hb
  replace hbel := hbel.trans (hb.mono hbel.size)
  clear hb
  have ha12 : Below v8.heap.size v8 (v8.alloc (.cells #[.int .i64 (setAR xBase xWidth xNumber).1, .slice h0A (setAR xBase xWidth xNumber).2.1.length h0C] 24)) := (Below.refl _ _).alloc (by simp <;> omega) _
  replace cw00 := kept ha12 cw00
  replace cw01 := kept ha12 cw01
  replace cg00 := kept ha12 cg00
  replace cg01 := kept ha12 cg01
  replace ow0 := ow0.below ha12
  replace og0 := og0.below ha12
  replace oh0 := oh0.below ha12
  replace hbel := hbel.trans (ha12.mono hbel.size)
  clear ha12
  have ch00 : (v8.alloc (.cells #[.int .i64 (setAR xBase xWidth xNumber).1, .slice h0A (setAR xBase xWidth xNumber).2.1.length h0C] 24)).cell? ⟨v8.heap.size, 0, none⟩ = some (.int .i64 (setAR xBase xWidth xNumber).1) := by go_simp
  have ch01 : (v8.alloc (.cells #[.int .i64 (setAR xBase xWidth xNumber).1, .slice h0A (setAR xBase xWidth xNumber).2.1.length h0C] 24)).cell? ⟨v8.heap.size, 1, none⟩ = some (.slice h0A (setAR xBase xWidth xNumber).2.1.length h0C) := by go_simp
  have q13 : regEqB (setAR xBase xWidth xNumber).1 (setAR xBase xWidth xNumber).1 (setAR xBase xWidth xNumber).2.1 (setAR xBase xWidth xNumber).2.1 = true := regEqB_self _ _
  go_wp2_with fail
  obtain ⟨v9, hu⟩ : ∃ u, u = (v8.alloc (.cells #[.int .i64 (setAR xBase xWidth xNumber).1, .slice h0A (setAR xBase xWidth xNumber).2.1.length h0C] 24)) := ⟨_, rfl⟩
  have s14 : Hid (v8.heap.size + 1 ≤ v9.heap.size) := Lib.hid (by rw [hu]; simp)
  rw [← hu] at cw00 cw01 cg00 cg01 ch00 ch01 ow0 og0 oh0 hbel ⊢
  clear hu
  refine (eqRegister_any (setAR xBase xWidth xNumber).1 (setAR xBase xWidth xNumber).1 h0A w0A h0C w0C (setAR xBase xWidth xNumber).2.1 (setAR xBase xWidth xNumber).2.1 v9 oh0.rd ow0.rd).mono ?_
  rintro e v10 ⟨rfl, hb⟩
  have s15 : Hid (v9.heap.size ≤ v10.heap.size) := Lib.hid hb.size
  replace cw00 := kept hb cw00
  replace cw01 := kept hb cw01
  replace cg00 := kept hb cg00
  replace cg01 := kept hb cg01
  replace ch00 := kept hb ch00
  replace ch01 := kept hb ch01
  replace ow0 := ow0.below hb
  replace og0 := og0.below hb
  replace oh0 := oh0.below hb
  replace hbel := hbel.trans (hb.mono hbel.size)
  clear hb
  go_wp2_with fail
  refine (heldRegister_any (setAR xBase xWidth xNumber).1 g0A g0C 1 (setAR xBase xWidth xNumber).2.1.length v10 og0.rd (by have := ow0.len; have := og0.len; have := oh0.len; omega) (by have := ow0.len; have := og0.len; have := oh0.len; omega)).mono ?_
  rintro e v11 ⟨rfl, hb⟩
  have s16 : Hid (v10.heap.size ≤ v11.heap.size) := Lib.hid hb.size
  replace cw00 := kept hb cw00
  replace cw01 := kept hb cw01
  replace cg00 := kept hb cg00
  replace cg01 := kept hb cg01
  replace ch00 := kept hb ch00
  replace ch01 := kept hb ch01
  replace ow0 := ow0.below hb
  replace og0 := og0.below hb
  replace oh0 := oh0.below hb
  replace hbel := hbel.trans (hb.mono hbel.size)
  clear hb
  go_wp2
  go_ret
  exact ⟨rfl, hbel⟩

/-- The door's own heap meets the condition: closed facts. -/
theorem door_met (os : Os) (args : Array Value) : laidMetH Tryd.prog Rows.fnExactSetAccumulatorRow.laid ((World.doorLaid Tryd.prog 400 os).forCall (fun _ _ => 0) ⟨#[], args, []⟩).memory :=
  laidMetH_of_parts3 (fuel := 8) (laidMet_of_run' 8 (by kernel_rfl) (by kernel_rfl)) (by kernel_rfl) (by kernel_rfl)

set_option maxRecDepth 100000 in
theorem lifted (os : Os) (started : os.Started) (H : Type) (enc : TypeId × Value → H) :
    ReturnsInHanded {} Tryd.checked os 3 .any (fun w args => (Rows.fnExactSetAccumulatorSpec.pre enc Tryd.prog Tryd.f3 [] false w args ∧ laidMetH Tryd.prog Rows.fnExactSetAccumulatorRow.laid w) ∧ sizedMet enc Tryd.prog Tryd.f3 (OpenSpec.ofChange Rows.fnExactSetAccumulatorSpec) false w args)
      (Rows.fnExactSetAccumulatorSpec.post enc Tryd.prog Tryd.f3 false true false false) := by
  refine returnsInHanded_of_change_and (C := Tryd.checked) (X := fun w _ => laidMetH Tryd.prog Rows.fnExactSetAccumulatorRow.laid w) (fun _ _ _ hh h => h.of_heap hh) own_knob started (by kernel_rfl) Tryd.func3
    (ChangeSpec.witness_shaped (enc := enc) (C := Tryd.checked) (os := os) (X := fun w _ => laidMetH Tryd.prog Rows.fnExactSetAccumulatorRow.laid w) false (World.doorLaid Tryd.prog 400 os) #[.int .i64 0, .int .i64 0, .int .i64 0] 8 rfl (World.shaped_of_RefB (by kernel_rfl) (by kernel_rfl)) (by kernel_rfl) (by kernel_rfl) (by kernel_rfl) (door_met os _)) ?_
  intro W base args ds gs before hval0 hW _ _ hL _
  have hval : ∀ (j : Nat) t v, Tryd.f3.params[j]? = some t → args[j]? = some v → Value.okWide Tryd.prog W .any base t v := hval0
  have hW' := hW
  obtain ⟨p, q, hA0, hV0, rfl, hfz, hnd⟩ := hW
  have hA : DataW.TrodAll enc Tryd.prog W 0 (fun _ => true) true Tryd.f3.params.toList args.toList ds p := hA0
  have hV : DataW.TrodVars enc Tryd.prog W (fun _ => true) ["loop.example/g00930/impl.errBell"] gs q := hV0
  rw [Tryd.params3] at hA hval
  obtain ⟨v0, vs0, d0, ds0, p0, q0, hargs, rfl, rfl, h0, r0⟩ := trodAll_cons hA
  obtain ⟨v1, vs1, d1, ds1, p1, q1, rfl, rfl, rfl, h1, r1⟩ := trodAll_cons r0
  obtain ⟨v2, vs2, d2, ds2, p2, q2, rfl, rfl, rfl, h2, r2⟩ := trodAll_cons r1
  obtain ⟨rfl, rfl, rfl⟩ := trodAll_nil r2
  obtain rfl : args = #[v0, v1, v2] := by cases args; simp_all
  obtain ⟨xBase, rfl, rfl, rfl, bxBase⟩ := open_int Tryd.underlying2 (hval 0 2 v0 rfl rfl) h0
  obtain ⟨xWidth, rfl, rfl, rfl, bxWidth⟩ := open_int Tryd.underlying2 (hval 1 2 v1 rfl rfl) h1
  obtain ⟨xNumber, rfl, rfl, rfl, bxNumber⟩ := open_int Tryd.underlying2 (hval 2 2 v2 rfl rfl) h2
  have hD := of_laid hL
  clear hA0 hval0
  obtain ⟨gd, rfl⟩ : ∃ gd, gs = [gd] := by
    obtain ⟨_, _, _, _, d, _, h, _⟩ := trodVars_one hV
    exact ⟨d, h⟩
  refine (law_walk xBase xWidth xNumber W bxBase bxWidth bxNumber hD).mono fun e W' ⟨he, bel⟩ => ?_
  subst he
  obtain ⟨q', hq'⟩ := var_stays gVar tVar (by kernel_rfl) (of_decide_eq_true (by kernel_rfl)) hV bel
  exact ⟨_, rfl, _, _, _, [], _, q', hW', trodAll_mk1 (shut_bool Tryd.underlying4 _), (trodAll_cons_mk (shut_int Tryd.underlying2 bxBase) (trodAll_cons_mk (shut_int Tryd.underlying2 bxWidth) (trodAll_cons_mk (shut_int Tryd.underlying2 bxNumber) trodAll_mk0))), hq', bel.frame _, fun h => by cases h⟩

theorem over : Rows.FnExactSetAccumulatorSaid :=
  OpenClaim.holds_of_wide 3 Tryd.f3 rfl rfl rfl rfl rfl rfl rfl ⟨rfl, rfl, rfl, rfl, rfl⟩ rfl rfl rfl rfl rfl (by kernel_rfl) Tryd.func3 (by kernel_rfl)
    (of_decide_eq_true (by kernel_rfl)) (by unfold Func.isWrapper; first | (rw [if_pos (by decide +kernel)]; kernel_rfl) | (rw [if_neg (by decide +kernel)]; exact ⟨rfl, rfl⟩))
    (fun os started H enc _ => lifted os started H enc)

/-- The statement: the tied card. -/
theorem proved : Rows.FnExactSetAccumulatorCardSaid :=
  Claim7.holds_tied_plain_at .later [] [.sentinel] true (true, "5decdcb239c0cb7ade1a9b4d3e61e8baefdaa9861a8d6b55850b5da5e95f7769") true
    over (fun _ h => by cases h) (by kernel_rfl) (fun _ h => by cases h) fnExactSetAccumulator_row_tie rfl ⟨rfl, rfl⟩ (by kernel_rfl) rfl
    (fun f fn hf hfn => by
      obtain rfl : f = 3 := Option.some.inj ((show Tryd.prog.funcNamed "loop.example/g00930/laws.FnExactSetAccumulator" = some 3 by kernel_rfl).symm.trans hf) |>.symm
      obtain rfl : fn = Tryd.f3 := (Option.some.inj (Tryd.func3.symm.trans hfn)).symm
      exact ⟨by kernel_rfl, fun j t ht => by
        rw [Tryd.params3] at ht
        have hm : t ∈ [2, 2, 2] := by simpa using Array.mem_of_getElem? ht
        have hall : ([2, 2, 2].all fun u => !Tryd.prog.wantsStandIn u) = true := by kernel_rfl
        exact (show Tryd.prog.wantsStandIn t = false by simpa using List.all_eq_true.1 hall t hm)⟩)
    (by kernel_rfl)
end Go.Proofs.YtiogbpnnnpodkaaDoor.lawSetAccumulator
