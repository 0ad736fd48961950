/-
  laws.FnExactAccumulatorText returns true at every input (no condition, but the texts of the library's tables, which the card ties), and leaves its arguments as they were.
-/
import Derived.Test.YtiogbpnnnpodkaaDoorReg
import Derived.Test.YtiogbpnnnpodkaaDoorBox
import Derived.Test.YtiogbpnnnpodkaaDoorFrame
import Derived.Test.YtiogbpnnnpodkaaDoorAtxI
import Derived.Test.YtiogbpnnnpodkaaDoorDoorFrame
import Derived.Deep.RegionHeld3
import Derived.Test.YtiogbpnnnpodkaaDoorFacts
import Derived.Test.YtiogbpnnnpodkaaDoorRows
namespace Go.Proofs.YtiogbpnnnpodkaaDoor.lawAccumulatorText
open Go.ChangeShapes Go.WideShapes Go.ChangeAt Go.WideElems Go.RowKit Go.Joins
open Go.ChangeMaps (open_string shut_string)

theorem rowErr (u : TypeId) (h : Tryd.prog.typeName? 3 u = some "*errors.errorString") : u = 204 :=
  typeName_ptr_named (nm := "errors.errorString") (by rw [show "*" ++ "errors.errorString" = "*errors.errorString" by decide]; kernel_rfl) (by kernel_rfl) (by decide) u (by rw [show "*" ++ "errors.errorString" = "*errors.errorString" by decide]; exact h)
theorem gVar : Tryd.prog.globalNamed "loop.example/g00930/impl.errBell" = some 0 := by kernel_rfl
theorem tVar : (Tryd.prog.globals[0]?).map (·.type) = some 85 := by kernel_rfl
def Door (w : World) : Prop := PowTab w ∧ BellD w
theorem door_below {w w' : World} (h : Door w) (hb : Below w.heap.size w w') : Door w' := ⟨powTab_below h.1 hb, h.2.below hb⟩
theorem of_laid {W : World} (h : laidMetH Tryd.prog Rows.fnExactAccumulatorTextRow.laid W) : Door W := by
  rw [MakeChecks.laidMetH_plain _ _ _ (by kernel_rfl)] at h
  refine ⟨Lib.tabIs_of_head (g := 3) (t := 189) (e := 135) (n := 20) (by kernel_rfl) (by kernel_rfl) Tryd.underlying189 Tryd.underlying135 (by kernel_rfl) (by kernel_rfl)
    (show laidMet Tryd.prog (("internal/strconv.uint64pow10", Lib.tabData .u64 Lib.pow10Tab) :: _) W from h.tail.tail), ?_⟩
  obtain ⟨a, t, hv, _⟩ := laid_sentinel h.tail.tail.tail (g := 0) (ti := 85) (tp := 204) (te := 206) (ts := 9) (by kernel_rfl) (by kernel_rfl) Tryd.underlying85 rowErr Tryd.underlying204 Tryd.underlying206 rfl rfl Tryd.underlying9 (by kernel_rfl) (by kernel_rfl)
  exact ⟨_, by simpa [BellAt, bellV] using World.var?_cell (g := 0) (by kernel_rfl) hv 0⟩

set_option maxRecDepth 100000 in
set_option maxHeartbeats 4000000 in
theorem law_walk (xRB : Int) (xRA : Option Addr) (xRC : Nat) (xRZ : List Int) (w : World) (hxR : Raw w xRA xRZ) (bxR : I64 xRB) (hD : Door w) :
    Calls Tryd.prog 10 #[.agg #[.int .i64 xRB, .slice xRA xRZ.length xRC]] w fun e w' => e = .returned (.bool true) ∧ Below w.heap.size w w' := by
  have hbel : Below w.heap.size w (w.alloc (.cells #[.int .i64 xRB, .slice xRA xRZ.length xRC] 30)) := (Below.refl _ _).alloc (by simp <;> omega) _
  have cxR0 : (w.alloc (.cells #[.int .i64 xRB, .slice xRA xRZ.length xRC] 30)).cell? ⟨w.heap.size, 0, none⟩ = some (.int .i64 xRB) := by go_simp
  have cxR1 : (w.alloc (.cells #[.int .i64 xRB, .slice xRA xRZ.length xRC] 30)).cell? ⟨w.heap.size, 1, none⟩ = some (.slice xRA xRZ.length xRC) := by go_simp
  go_enter Tryd.func10, Tryd.ntmps10
  go_wp2_with fail
  obtain ⟨v1, hu⟩ : ∃ u, u = (w.alloc (.cells #[.int .i64 xRB, .slice xRA xRZ.length xRC] 30)) := ⟨_, rfl⟩
  have s1 : Hid (w.heap.size + 1 ≤ v1.heap.size) := Lib.hid (by rw [hu]; simp)
  rw [← hu] at cxR0 cxR1 hbel ⊢
  clear hu
  rcases Int.lt_or_le (leftOf xRZ.length 1048576) 0 with k1 | k1
  · refine (szRegister_any xRB xRA xRZ.length xRC 1048576 v1 hxR.len (by omega) (by omega)).mono ?_
    rintro e v2 ⟨rfl, hb⟩
    go_wp2
    go_ret
    exact ⟨rfl, hbel.trans (hb.mono hbel.size)⟩
  have m1 := leftOf_le xRZ.length 1048576 (by omega)
  refine (szRegister_any xRB xRA xRZ.length xRC 1048576 v1 hxR.len (by omega) (by omega)).mono ?_
  rintro e v2 ⟨rfl, hb⟩
  have s2 : Hid (v1.heap.size ≤ v2.heap.size) := Lib.hid hb.size
  replace cxR0 := kept hb cxR0
  replace cxR1 := kept hb cxR1
  replace hbel := hbel.trans (hb.mono hbel.size)
  clear hb
  have zxR := hxR.wf
  replace hxR := hxR.rd (by have := leftOf_len k1; omega)
  go_wp2_with fail
  refine (toRegister_any xRB xRA xRC xRZ v2 (hxR.below hbel)).mono ?_
  rintro e v3 ⟨t3A, t3C, rfl, ot3, hb⟩
  have s4 : Hid (v2.heap.size ≤ v3.heap.size) := Lib.hid hb.size
  replace cxR0 := kept hb cxR0
  replace cxR1 := kept hb cxR1
  replace hbel := hbel.trans (hb.mono hbel.size)
  clear hb
  go_wp2_with fail
  refine (specAccumulatorText xRB t3A t3C xRZ v3 ot3.rd zxR bxR).mono ?_
  rintro e v4 ⟨rfl, hb⟩
  have s5 : Hid (v3.heap.size ≤ v4.heap.size) := Lib.hid hb.size
  replace cxR0 := kept hb cxR0
  replace cxR1 := kept hb cxR1
  replace ot3 := ot3.below hb
  replace hbel := hbel.trans (hb.mono hbel.size)
  clear hb
  clear ot3
  go_wp2_with fail
  refine (toRegister_any xRB xRA xRC xRZ v4 (hxR.below hbel)).mono ?_
  rintro e v5 ⟨t6A, t6C, rfl, ot6, hb⟩
  have s7 : Hid (v4.heap.size ≤ v5.heap.size) := Lib.hid hb.size
  replace cxR0 := kept hb cxR0
  replace cxR1 := kept hb cxR1
  replace hbel := hbel.trans (hb.mono hbel.size)
  clear hb
  have ha8 : Below v5.heap.size v5 (v5.alloc (.cells #[.int .i64 xRB, .slice t6A xRZ.length t6C] 24)) := (Below.refl _ _).alloc (by simp <;> omega) _
  replace cxR0 := kept ha8 cxR0
  replace cxR1 := kept ha8 cxR1
  replace ot6 := ot6.below ha8
  replace hbel := hbel.trans (ha8.mono hbel.size)
  clear ha8
  have cx00 : (v5.alloc (.cells #[.int .i64 xRB, .slice t6A xRZ.length t6C] 24)).cell? ⟨v5.heap.size, 0, none⟩ = some (.int .i64 xRB) := by go_simp
  have cx01 : (v5.alloc (.cells #[.int .i64 xRB, .slice t6A xRZ.length t6C] 24)).cell? ⟨v5.heap.size, 1, none⟩ = some (.slice t6A xRZ.length t6C) := by go_simp
  go_wp2_with fail
  obtain ⟨v6, hu⟩ : ∃ u, u = (v5.alloc (.cells #[.int .i64 xRB, .slice t6A xRZ.length t6C] 24)) := ⟨_, rfl⟩
  have s9 : Hid (v5.heap.size + 1 ≤ v6.heap.size) := Lib.hid (by rw [hu]; simp)
  rw [← hu] at cxR0 cxR1 cx00 cx01 ot6 hbel ⊢
  clear hu
  refine (implAccumulatorText xRB t6A t6C xRZ v6 ot6.rd zxR bxR (door_below hD hbel)).mono ?_
  rintro e v7 ⟨rfl, hb⟩
  have s10 : Hid (v6.heap.size ≤ v7.heap.size) := Lib.hid hb.size
  replace cxR0 := kept hb cxR0
  replace cxR1 := kept hb cxR1
  replace cx00 := kept hb cx00
  replace cx01 := kept hb cx01
  replace ot6 := ot6.below hb
  replace hbel := hbel.trans (hb.mono hbel.size)
  clear hb
  have q11 : regEqB xRB xRB xRZ xRZ = true := regEqB_self _ _
  go_wp2_with fail
  have rcxR0 := kept_all cxR0
  have rcxR1 := kept_all cxR1
  have rcx00 := kept_all cx00
  have rcx01 := kept_all cx01
  go_region_held3 (fun w' => Below v7.heap.size v7 w') (first | exact hk | exact (Below.refl _ _).drew | exact hk.alloc hk.size _ | exact (hk.alloc hk.size _).setCell hk.size _)
    (first | (go_at_call 21; have qB := ‹Below v7.heap.size v7 _›; ((with_reducible refine (toRegister_any xRB xRA xRC xRZ _ (hxR.below (hbel.trans (qB.mono hbel.size)))).mono ?_)); rintro e v9 ⟨t12A, t12C, rfl, ot12, hb⟩; have hk := qB.trans (hb.mono qB.size)) | (go_at_call 16; have qB := ‹Below v7.heap.size v7 _›; refine (eqRegister_any xRB xRB t6A t12A t6C t12C xRZ xRZ _ (ot6.below qB).rd (by first | exact ot12.rd | exact (ot12.alloc _).rd)).mono ?_; rintro e v8 ⟨rfl, hb⟩; have hk := qB.trans (hb.mono qB.size)))
  have hb : Below v7.heap.size v7 v8 := by assumption
  clear rcxR0 rcxR1 rcx00 rcx01
  clear ot12
  have s13 : Hid (v7.heap.size ≤ v8.heap.size) := Lib.hid hb.size
  replace cxR0 := kept hb cxR0
  replace cxR1 := kept hb cxR1
  replace cx00 := kept hb cx00
  replace cx01 := kept hb cx01
  replace ot6 := ot6.below hb
  replace hbel := hbel.trans (hb.mono hbel.size)
  clear hb
  go_wp2
  go_ret
  exact ⟨rfl, hbel⟩

/-- The door's own heap meets the condition: closed facts. -/
theorem door_met (os : Os) (args : Array Value) : laidMetH Tryd.prog Rows.fnExactAccumulatorTextRow.laid ((World.doorLaid Tryd.prog 400 os).forCall (fun _ _ => 0) ⟨#[], args, []⟩).memory :=
  laidMetH_of_parts3 (fuel := 8) (laidMet_of_run' 8 (by kernel_rfl) (by kernel_rfl)) (by kernel_rfl) (by kernel_rfl)

set_option maxRecDepth 100000 in
theorem lifted (os : Os) (started : os.Started) (H : Type) (enc : TypeId × Value → H) :
    ReturnsInHanded {} Tryd.checked os 10 .any (fun w args => (Rows.fnExactAccumulatorTextSpec.pre enc Tryd.prog Tryd.f10 [] false w args ∧ laidMetH Tryd.prog Rows.fnExactAccumulatorTextRow.laid w) ∧ sizedMet enc Tryd.prog Tryd.f10 (OpenSpec.ofChange Rows.fnExactAccumulatorTextSpec) false w args)
      (Rows.fnExactAccumulatorTextSpec.post enc Tryd.prog Tryd.f10 false true false false) := by
  refine returnsInHanded_of_change_and (C := Tryd.checked) (X := fun w _ => laidMetH Tryd.prog Rows.fnExactAccumulatorTextRow.laid w) (fun _ _ _ hh h => h.of_heap hh) own_knob started (by kernel_rfl) Tryd.func10
    (ChangeSpec.witness_shaped (enc := enc) (C := Tryd.checked) (os := os) (X := fun w _ => laidMetH Tryd.prog Rows.fnExactAccumulatorTextRow.laid w) false (World.doorLaid Tryd.prog 400 os) #[.agg #[.int .i64 0, .slice none 0 0]] 8 rfl (World.shaped_of_RefB (by kernel_rfl) (by kernel_rfl)) (by kernel_rfl) (by kernel_rfl) (by kernel_rfl) (door_met os _)) ?_
  intro W base args ds gs before hval0 hW _ _ hL _
  have hval : ∀ (j : Nat) t v, Tryd.f10.params[j]? = some t → args[j]? = some v → Value.okWide Tryd.prog W .any base t v := hval0
  have hW' := hW
  obtain ⟨p, q, hA0, hV0, rfl, hfz, hnd⟩ := hW
  have hA : DataW.TrodAll enc Tryd.prog W 0 (fun _ => true) true Tryd.f10.params.toList args.toList ds p := hA0
  have hV : DataW.TrodVars enc Tryd.prog W (fun _ => true) ["loop.example/g00930/impl.errBell"] gs q := hV0
  rw [Tryd.params10] at hA hval
  obtain ⟨v0, vs0, d0, ds0, p0, q0, hargs, rfl, rfl, h0, r0⟩ := trodAll_cons hA
  obtain ⟨rfl, rfl, rfl⟩ := trodAll_nil r0
  obtain rfl : args = #[v0] := by cases args; simp_all
  have k0 := h0
  have lt0 : ∀ x ∈ p0, x.block < W.heap.size := by obtain ⟨m, hm⟩ := k0; exact DataW.trod_lt m _ _ _ hm
  obtain ⟨xRB, xRA, xRC, xRZ, rfl, hxR, bxR⟩ := open_Register (hval 0 30 v0 rfl rfl) h0
  have hD := of_laid hL
  clear hA0 hval0
  obtain ⟨gd, rfl⟩ : ∃ gd, gs = [gd] := by
    obtain ⟨_, _, _, _, d, _, h, _⟩ := trodVars_one hV
    exact ⟨d, h⟩
  refine (law_walk xRB xRA xRC xRZ W hxR bxR hD).mono fun e W' ⟨he, bel⟩ => ?_
  subst he
  obtain ⟨q', hq'⟩ := var_stays gVar tVar (by kernel_rfl) (of_decide_eq_true (by kernel_rfl)) hV bel
  exact ⟨_, rfl, _, _, _, [], _, q', hW', trodAll_mk1 (shut_bool Tryd.underlying4 _), (trodAll_cons_mk (Below.trod laid_out (by kernel_rfl) (of_decide_eq_true (by kernel_rfl)) k0 bel lt0) trodAll_mk0), hq', bel.frame _, fun h => by cases h⟩

theorem over : Rows.FnExactAccumulatorTextSaid :=
  OpenClaim.holds_of_wide 10 Tryd.f10 rfl rfl rfl rfl rfl rfl rfl ⟨rfl, rfl, rfl, rfl, rfl⟩ rfl rfl rfl rfl rfl (by kernel_rfl) Tryd.func10 (by kernel_rfl)
    (of_decide_eq_true (by kernel_rfl)) (by unfold Func.isWrapper; first | (rw [if_pos (by decide +kernel)]; kernel_rfl) | (rw [if_neg (by decide +kernel)]; exact ⟨rfl, rfl⟩))
    (fun os started H enc _ => lifted os started H enc)

/-- The statement: the tied card. -/
theorem proved : Rows.FnExactAccumulatorTextCardSaid :=
  Claim7.holds_tied_plain_at .later [] [.data, .data, .data, .sentinel] true (true, "5decdcb239c0cb7ade1a9b4d3e61e8baefdaa9861a8d6b55850b5da5e95f7769") true
    over (fun _ h => by cases h) (by kernel_rfl) (fun _ h => by cases h) fnExactAccumulatorText_row_tie rfl ⟨rfl, rfl⟩ (by kernel_rfl) rfl
    (fun f fn hf hfn => by
      obtain rfl : f = 10 := Option.some.inj ((show Tryd.prog.funcNamed "loop.example/g00930/laws.FnExactAccumulatorText" = some 10 by kernel_rfl).symm.trans hf) |>.symm
      obtain rfl : fn = Tryd.f10 := (Option.some.inj (Tryd.func10.symm.trans hfn)).symm
      exact ⟨by kernel_rfl, fun j t ht => by
        rw [Tryd.params10] at ht
        have hm : t ∈ [30] := by simpa using Array.mem_of_getElem? ht
        have hall : ([30].all fun u => !Tryd.prog.wantsStandIn u) = true := by kernel_rfl
        exact (show Tryd.prog.wantsStandIn t = false by simpa using List.all_eq_true.1 hall t hm)⟩)
    (by kernel_rfl)
end Go.Proofs.YtiogbpnnnpodkaaDoor.lawAccumulatorText
