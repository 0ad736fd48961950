/-
  laws.FnExactReadFault returns true at every input (no condition, but the texts of the library's tables, which the card ties), and leaves its arguments as they were.
-/
import Derived.Test.YtgfopieojpjddaaDoorLeverFaultS
import Derived.Test.YtgfopieojpjddaaDoorFrameI
import Derived.Test.YtgfopieojpjddaaDoorFrameL
import Derived.Test.YtgfopieojpjddaaDoorRfI
import Derived.Test.YtgfopieojpjddaaDoorRfS
import Derived.Test.YtgfopieojpjddaaDoorDoorFrame
import Derived.Test.YtgfopieojpjddaaDoorShapeD
import Derived.Test.YtgfopieojpjddaaDoorFacts
import Derived.Test.YtgfopieojpjddaaDoorRows
namespace Go.Proofs.YtgfopieojpjddaaDoor.lawReadFault
open Go.ChangeShapes Go.WideShapes Go.ChangeAt Go.WideElems Go.RowKit Go.Joins
open Go.ChangeMaps (open_string shut_string)
theorem gVar : Tryd.prog.globalNamed "loop.example/g00930/impl.faultWords" = some 1 := by kernel_rfl
theorem tVar : (Tryd.prog.globals[1]?).map (·.type) = some 107 := by kernel_rfl

theorem rowErr (u : TypeId) (h : Tryd.prog.typeName? 3 u = some "*errors.errorString") : u = 202 :=
  typeName_ptr_named (nm := "errors.errorString") (by rw [show "*" ++ "errors.errorString" = "*errors.errorString" by decide]; kernel_rfl) (by kernel_rfl) (by decide) u (by rw [show "*" ++ "errors.errorString" = "*errors.errorString" by decide]; exact h)
def Door (w : World) : Prop := RfDoor w
theorem door_below {w w' : World} (h : Door w) (hb : Below w.heap.size w w') : Door w' := rfDoor_below h hb
theorem of_laid {W : World} (h : laidMetH Tryd.prog Rows.fnExactReadFaultRow.laid W) (hSh : W.ShapedOpen Tryd.prog) : Door W := by
  rw [MakeChecks.laidMetH_plain _ _ _ (by kernel_rfl)] at h
  have h2 := h.tail.tail
  refine ⟨?_, ?_, cell_of_shapedOpen_int (P := Tryd.prog) (g := 5) (t := 3) (zero := #[.int .i64 0]) hSh (of_decide_eq_true (by kernel_rfl)) (by kernel_rfl) rfl (by kernel_rfl) (by kernel_rfl) Tryd.underlying3⟩
  refine ⟨Lib.tabIs_of_head (g := 6) (t := 206) (e := 159) (n := 20) (by kernel_rfl) (by kernel_rfl) Tryd.underlying206 Tryd.underlying159 (by kernel_rfl) (by kernel_rfl)
    (show laidMet Tryd.prog (("internal/strconv.uint64pow10", Lib.tabData .u64 Lib.pow10Tab) :: _) W from h2), ?_, ?_⟩
  · obtain ⟨a, t, hv, _⟩ := laid_sentinel h2.tail.tail (g := 3) (ti := 95) (tp := 202) (te := 204) (ts := 9) (by kernel_rfl) (by kernel_rfl) Tryd.underlying95 rowErr Tryd.underlying202 Tryd.underlying204 rfl rfl Tryd.underlying9 (by kernel_rfl) (by kernel_rfl)
    exact ⟨_, by simpa using World.var?_cell (g := 3) (by kernel_rfl) hv 0, _, _, rfl⟩
  · obtain ⟨a, t, hv, _⟩ := laid_sentinel h2.tail (g := 4) (ti := 95) (tp := 202) (te := 204) (ts := 9) (by kernel_rfl) (by kernel_rfl) Tryd.underlying95 rowErr Tryd.underlying202 Tryd.underlying204 rfl rfl Tryd.underlying9 (by kernel_rfl) (by kernel_rfl)
    exact ⟨_, by simpa using World.var?_cell (g := 4) (by kernel_rfl) hv 0, _, _, rfl⟩
  · obtain ⟨ps, ⟨g0, t0, cs0, f0, p0, q0, hg0, ht0, hv0, hd0, _⟩, _, _⟩ := h2.tail.tail.tail
    obtain rfl := Option.some.inj (gVar.symm.trans hg0)
    obtain rfl := Option.some.inj (tVar.symm.trans ht0)
    have at_ : ∀ (i : Nat) (b : List UInt8), i < 4 → (match (Rows.laid_loop_example_g00930_impl_faultWords : DataW Unit) with | .agg ds => ds[i]? | _ => none) = some (.lit (.string b)) → W.cell? ⟨1, i, none⟩ = some (.string ⟨b.toArray⟩) := by
      intro i b hi hb
      have := strs_of Tryd.underlying107 Tryd.underlying9 (by kernel_rfl) (show DataW.trod _ Tryd.prog W 0 _ _ f0 107 cs0.toList = some (.agg _, p0) from hd0) hi hb
      rw [World.var?_cell hg0 hv0 i]
      simpa using this
    exact ⟨at_ 0 _ (by omega) rfl, at_ 1 _ (by omega) rfl, at_ 2 _ (by omega) rfl, at_ 3 _ (by omega) rfl⟩

set_option maxRecDepth 100000 in
set_option maxHeartbeats 4000000 in
theorem law_walk (xS : ByteArray) (w : World) (lxS : xS.size ≤ 9223372036854775807) (hD : Door w) :
    Calls Tryd.prog 9 #[.string xS] w fun e w' => e = .returned (.bool true) ∧ Below w.heap.size w w' := by
  rcases Nat.lt_or_ge 1048576 xS.size with kxS | fxS
  · go_enter Tryd.func9, Tryd.ntmps9
    go_wp2
    go_ret
    exact ⟨rfl, Below.refl _ _⟩
  have hbel : Below w.heap.size w w := Below.refl _ _
  go_enter Tryd.func9, Tryd.ntmps9
  go_wp2_with fail
  refine (specReadFault xS w fxS).mono ?_
  rintro e v1 ⟨rfl, hb⟩
  have s1 : Hid (w.heap.size ≤ v1.heap.size) := Lib.hid hb.size
  replace hbel := hbel.trans (hb.mono hbel.size)
  clear hb
  have ha2 : Below v1.heap.size v1 (v1.alloc (.cells #[.int .i64 (rfR xS).1.1, .int .i64 (rfR xS).1.2] 53)) := (Below.refl _ _).alloc (by simp <;> omega) _
  replace hbel := hbel.trans (ha2.mono hbel.size)
  clear ha2
  have cw00 : (v1.alloc (.cells #[.int .i64 (rfR xS).1.1, .int .i64 (rfR xS).1.2] 53)).cell? ⟨v1.heap.size, 0, none⟩ = some (.int .i64 (rfR xS).1.1) := by go_simp
  have cw01 : (v1.alloc (.cells #[.int .i64 (rfR xS).1.1, .int .i64 (rfR xS).1.2] 53)).cell? ⟨v1.heap.size, 1, none⟩ = some (.int .i64 (rfR xS).1.2) := by go_simp
  go_wp2_with fail
  obtain ⟨v2, hu⟩ : ∃ u, u = (v1.alloc (.cells #[.int .i64 (rfR xS).1.1, .int .i64 (rfR xS).1.2] 53)) := ⟨_, rfl⟩
  have s3 : Hid (v1.heap.size + 1 ≤ v2.heap.size) := Lib.hid (by rw [hu]; simp)
  rw [← hu] at cw00 cw01 hbel ⊢
  clear hu
  refine (implReadFault xS v2 fxS (door_below hD hbel)).mono ?_
  rintro e v3 ⟨rfl, hb⟩
  have s4 : Hid (v2.heap.size ≤ v3.heap.size) := Lib.hid hb.size
  replace cw00 := kept hb cw00
  replace cw01 := kept hb cw01
  replace hbel := hbel.trans (hb.mono hbel.size)
  clear hb
  have ha5 : Below v3.heap.size v3 (v3.alloc (.cells #[.int .i64 (rfR xS).1.1, .int .i64 (rfR xS).1.2] 53)) := (Below.refl _ _).alloc (by simp <;> omega) _
  replace cw00 := kept ha5 cw00
  replace cw01 := kept ha5 cw01
  replace hbel := hbel.trans (ha5.mono hbel.size)
  clear ha5
  have cg00 : (v3.alloc (.cells #[.int .i64 (rfR xS).1.1, .int .i64 (rfR xS).1.2] 53)).cell? ⟨v3.heap.size, 0, none⟩ = some (.int .i64 (rfR xS).1.1) := by go_simp
  have cg01 : (v3.alloc (.cells #[.int .i64 (rfR xS).1.1, .int .i64 (rfR xS).1.2] 53)).cell? ⟨v3.heap.size, 1, none⟩ = some (.int .i64 (rfR xS).1.2) := by go_simp
  have q6 : decide ((rfR xS).1 = (rfR xS).1) = true := decide_eq_true rfl
  go_wp2_with fail
  obtain ⟨v4, hu⟩ : ∃ u, u = (v3.alloc (.cells #[.int .i64 (rfR xS).1.1, .int .i64 (rfR xS).1.2] 53)) := ⟨_, rfl⟩
  have s7 : Hid (v3.heap.size + 1 ≤ v4.heap.size) := Lib.hid (by rw [hu]; simp)
  rw [← hu] at cw00 cw01 cg00 cg01 hbel ⊢
  clear hu
  refine (eqLeverFault_any (rfR xS).1 (rfR xS).1 v4).mono ?_
  rintro e v5 ⟨rfl, hb⟩
  have s8 : Hid (v4.heap.size ≤ v5.heap.size) := Lib.hid hb.size
  replace cw00 := kept hb cw00
  replace cw01 := kept hb cw01
  replace cg00 := kept hb cg00
  replace cg01 := kept hb cg01
  replace hbel := hbel.trans (hb.mono hbel.size)
  clear hb
  go_wp2
  go_ret
  exact ⟨rfl, hbel⟩

/-- The door's own heap meets the condition: closed facts. -/
theorem door_met (os : Os) (args : Array Value) : laidMetH Tryd.prog Rows.fnExactReadFaultRow.laid ((World.doorLaid Tryd.prog 400 os).forCall (fun _ _ => 0) ⟨#[], args, []⟩).memory :=
  laidMetH_of_parts3 (fuel := 8) (laidMet_of_run' 8 (by kernel_rfl) (by kernel_rfl)) (by kernel_rfl) (by kernel_rfl)

set_option maxRecDepth 100000 in
theorem lifted (os : Os) (started : os.Started) (H : Type) (enc : TypeId × Value → H) :
    ReturnsInHanded {} Tryd.checked os 9 .any (fun w args => (Rows.fnExactReadFaultSpec.pre enc Tryd.prog Tryd.f9 [] false w args ∧ laidMetH Tryd.prog Rows.fnExactReadFaultRow.laid w) ∧ sizedMet enc Tryd.prog Tryd.f9 (OpenSpec.ofChange Rows.fnExactReadFaultSpec) false w args)
      (Rows.fnExactReadFaultSpec.post enc Tryd.prog Tryd.f9 false true false false) := by
  refine handed_laid_shaped (C := Tryd.checked) (laid := Rows.fnExactReadFaultRow.laid) own_knob started (by kernel_rfl) Tryd.func9
    (ChangeSpec.witness_shaped (enc := enc) (C := Tryd.checked) (os := os) (X := fun w _ => laidMetH Tryd.prog Rows.fnExactReadFaultRow.laid w) false (World.doorLaid Tryd.prog 400 os) #[.string ByteArray.empty] 8 rfl (World.shaped_of_RefB (by kernel_rfl) (by kernel_rfl)) (by kernel_rfl) (by kernel_rfl) (by kernel_rfl) (door_met os _)) ?_
  intro W base args ds gs before hval0 hW hL hSh
  have hval : ∀ (j : Nat) t v, Tryd.f9.params[j]? = some t → args[j]? = some v → Value.okWide Tryd.prog W .any base t v := hval0
  have hW' := hW
  obtain ⟨p, q, hA0, hV0, rfl, hfz, hnd⟩ := hW
  have hA : DataW.TrodAll enc Tryd.prog W 0 (fun _ => true) true Tryd.f9.params.toList args.toList ds p := hA0
  have hV : DataW.TrodVars enc Tryd.prog W (fun _ => true) ["loop.example/g00930/impl.faultWords"] gs q := hV0
  rw [Tryd.params9] at hA hval
  obtain ⟨v0, vs0, d0, ds0, p0, q0, hargs, rfl, rfl, h0, r0⟩ := trodAll_cons hA
  obtain ⟨rfl, rfl, rfl⟩ := trodAll_nil r0
  obtain rfl : args = #[v0] := by cases args; simp_all
  obtain ⟨xS, rfl, rfl, rfl, lxS⟩ := open_string Tryd.underlying9 (hval 0 9 v0 rfl rfl) h0
  have hD := of_laid hL hSh
  clear hA0 hval0
  obtain ⟨gd, rfl⟩ : ∃ gd, gs = [gd] := by
    obtain ⟨_, _, _, _, d, _, h, _⟩ := trodVars_one hV
    exact ⟨d, h⟩
  refine (law_walk xS W lxS hD).mono fun e W' ⟨he, bel⟩ => ?_
  subst he
  obtain ⟨q', hq'⟩ := var_stays gVar tVar (by kernel_rfl) (of_decide_eq_true (by kernel_rfl)) hV bel
  exact ⟨_, rfl, _, _, _, [], _, q', hW', trodAll_mk1 (shut_bool Tryd.underlying4 _), (trodAll_cons_mk (shut_string Tryd.underlying9 lxS) trodAll_mk0), hq', bel.frame _, fun h => by cases h⟩

set_option maxHeartbeats 20000000 in
theorem closed : joinedFacts Tryd.prog 9 Tryd.f9 Rows.fnExactReadFaultSpec Rows.fnExactReadFaultRow = true := by
  simp only [joinedFacts, Bool.and_eq_true]
  refine ⟨⟨⟨⟨⟨⟨⟨⟨⟨⟨⟨⟨⟨⟨⟨⟨⟨⟨⟨⟨⟨⟨⟨⟨⟨⟨⟨⟨⟨⟨⟨?_, laid_out⟩, fact_maps⟩, ?_⟩, ?_⟩, ?_⟩, fact_stops⟩, ?_⟩, fact_knobs⟩, ?_⟩, ?_⟩, ?_⟩, ?_⟩, ?_⟩, ?_⟩, ?_⟩, ?_⟩, ?_⟩, ?_⟩, ?_⟩, ?_⟩, ?_⟩, fact_plain⟩, ?_⟩, fact_heard⟩, fact_enter⟩, fact_lift⟩, ?_⟩, ?_⟩, ?_⟩, ?_⟩, ?_⟩
  all_goals (as_aux_lemma => kernel_rfl)

theorem over : Rows.FnExactReadFaultSaid :=
  OpenClaim.holds_of_wide 9 Tryd.f9 rfl rfl rfl rfl rfl rfl rfl ⟨rfl, rfl, rfl, rfl, rfl⟩ rfl rfl rfl rfl rfl (by as_aux_lemma => kernel_rfl) Tryd.func9 closed
    (of_decide_eq_true (by as_aux_lemma => kernel_rfl)) (by unfold Func.isWrapper; first | (rw [if_pos (by decide +kernel)]; kernel_rfl) | (rw [if_neg (by decide +kernel)]; exact ⟨rfl, rfl⟩))
    (fun os started H enc _ => lifted os started H enc)

set_option maxHeartbeats 20000000 in
/-- The statement: the tied card. -/
theorem proved : Rows.FnExactReadFaultCardSaid :=
  Claim7.holds_tied_plain_at .later [] [.data, .data, .data, .sentinel, .sentinel, .data] true (true, "6075a7d7f41d0bf6fa5891e1ddca2dba93e09eafc9bda3e018996d44eb929edf") true
    over (fun _ h => by cases h) (by as_aux_lemma => kernel_rfl) (fun _ h => by cases h) fnExactReadFault_row_tie rfl ⟨rfl, rfl⟩ (by as_aux_lemma => kernel_rfl) rfl
    (fun f fn hf hfn => by
      obtain rfl : f = 9 := Option.some.inj ((show Tryd.prog.funcNamed "loop.example/g00930/laws.FnExactReadFault" = some 9 by as_aux_lemma => kernel_rfl).symm.trans hf) |>.symm
      obtain rfl : fn = Tryd.f9 := (Option.some.inj (Tryd.func9.symm.trans hfn)).symm
      exact ⟨(by as_aux_lemma => kernel_rfl), fun j t ht => by
        rw [Tryd.params9] at ht
        have hm : t ∈ [9] := by simpa using Array.mem_of_getElem? ht
        have hall : ([9].all fun u => !Tryd.prog.wantsStandIn u) = true := by as_aux_lemma => kernel_rfl
        exact (show Tryd.prog.wantsStandIn t = false by simpa using List.all_eq_true.1 hall t hm)⟩)
    (by as_aux_lemma => kernel_rfl)
end Go.Proofs.YtgfopieojpjddaaDoor.lawReadFault
