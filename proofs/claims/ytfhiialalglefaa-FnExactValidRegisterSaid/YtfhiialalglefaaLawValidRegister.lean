/-
  laws.FnExactValidRegister returns true at every input (no condition), and leaves its arguments as they were.
-/
import Derived.Test.YtfhiialalglefaaReg
import Derived.Test.YtfhiialalglefaaFrame
import Derived.Test.YtfhiialalglefaaOkI
import Derived.Deep.RegionHeld3
import Derived.Test.YtfhiialalglefaaRows
namespace Go.Proofs.Ytfhiialalglefaa.lawValidRegister
open Go.ChangeShapes Go.WideShapes Go.ChangeAt Go.RowKit Go.Joins
open Go.ChangeMaps (open_string shut_string)

set_option maxRecDepth 100000 in
set_option maxHeartbeats 4000000 in
theorem law_walk (xRB : Int) (xRA : Option Addr) (xRC : Nat) (xRZ : List Int) (w : World) (hxR : Raw w xRA xRZ) (bxR : I64 xRB) :
    Calls Try.prog 6 #[.agg #[.int .i64 xRB, .slice xRA xRZ.length xRC]] w fun e w' => e = .returned (.bool true) ∧ Below w.heap.size w w' := by
  have hbel : Below w.heap.size w (w.alloc (.cells #[.int .i64 xRB, .slice xRA xRZ.length xRC] 40)) := (Below.refl _ _).alloc (by simp) _
  have cxR0 : (w.alloc (.cells #[.int .i64 xRB, .slice xRA xRZ.length xRC] 40)).cell? ⟨w.heap.size, 0, none⟩ = some (.int .i64 xRB) := by go_simp
  have cxR1 : (w.alloc (.cells #[.int .i64 xRB, .slice xRA xRZ.length xRC] 40)).cell? ⟨w.heap.size, 1, none⟩ = some (.slice xRA xRZ.length xRC) := by go_simp
  go_enter Try.func6, Try.ntmps6
  go_wp2_with fail
  obtain ⟨v1, hu⟩ : ∃ u, u = (w.alloc (.cells #[.int .i64 xRB, .slice xRA xRZ.length xRC] 40)) := ⟨_, rfl⟩
  have s1 : Hid (w.heap.size + 1 ≤ v1.heap.size) := Lib.hid (by rw [hu]; simp)
  rw [← hu] at cxR0 cxR1 hbel ⊢
  clear hu
  rcases Int.lt_or_le (leftOf xRZ.length 1048576) 0 with k1 | k1
  · refine (szRegister_any xRB xRA xRZ.length xRC 1048576 v1 hxR.len (by omega) (by omega)).mono ?_
    rintro e v2 ⟨rfl, hb⟩
    go_wp2
    go_ret
    exact ⟨rfl, hbel.trans (hb.mono hbel.size)⟩
  have m1 := leftOf_le xRZ.length 1048576 (by omega)
  refine (szRegister_any xRB xRA xRZ.length xRC 1048576 v1 hxR.len (by omega) (by omega)).mono ?_
  rintro e v2 ⟨rfl, hb⟩
  have s2 : Hid (v1.heap.size ≤ v2.heap.size) := Lib.hid hb.size
  replace cxR0 := kept hb cxR0
  replace cxR1 := kept hb cxR1
  replace hbel := hbel.trans (hb.mono hbel.size)
  clear hb
  have zxR := hxR.wf
  replace hxR := hxR.rd (by have := leftOf_len k1; omega)
  go_wp2_with fail
  refine (toRegister_any xRB xRA xRC xRZ v2 (hxR.below hbel)).mono ?_
  rintro e v3 ⟨t3A, t3C, rfl, ot3, hb⟩
  have s4 : Hid (v2.heap.size ≤ v3.heap.size) := Lib.hid hb.size
  replace cxR0 := kept hb cxR0
  replace cxR1 := kept hb cxR1
  replace hbel := hbel.trans (hb.mono hbel.size)
  clear hb
  go_wp2_with fail
  refine (specValidRegister xRB t3A t3C xRZ v3 ot3.rd zxR bxR).mono ?_
  rintro e v4 ⟨rfl, hb⟩
  have s5 : Hid (v3.heap.size ≤ v4.heap.size) := Lib.hid hb.size
  replace cxR0 := kept hb cxR0
  replace cxR1 := kept hb cxR1
  replace ot3 := ot3.below hb
  replace hbel := hbel.trans (hb.mono hbel.size)
  clear hb
  clear ot3
  go_wp2_with fail
  refine (toRegister_any xRB xRA xRC xRZ v4 (hxR.below hbel)).mono ?_
  rintro e v5 ⟨t6A, t6C, rfl, ot6, hb⟩
  have s7 : Hid (v4.heap.size ≤ v5.heap.size) := Lib.hid hb.size
  replace cxR0 := kept hb cxR0
  replace cxR1 := kept hb cxR1
  replace hbel := hbel.trans (hb.mono hbel.size)
  clear hb
  have ha8 : Below v5.heap.size v5 (v5.alloc (.cells #[.int .i64 xRB, .slice t6A xRZ.length t6C] 26)) := (Below.refl _ _).alloc (by simp) _
  replace cxR0 := kept ha8 cxR0
  replace cxR1 := kept ha8 cxR1
  replace ot6 := ot6.below ha8
  replace hbel := hbel.trans (ha8.mono hbel.size)
  clear ha8
  have cx00 : (v5.alloc (.cells #[.int .i64 xRB, .slice t6A xRZ.length t6C] 26)).cell? ⟨v5.heap.size, 0, none⟩ = some (.int .i64 xRB) := by go_simp
  have cx01 : (v5.alloc (.cells #[.int .i64 xRB, .slice t6A xRZ.length t6C] 26)).cell? ⟨v5.heap.size, 1, none⟩ = some (.slice t6A xRZ.length t6C) := by go_simp
  go_wp2_with fail
  obtain ⟨v6, hu⟩ : ∃ u, u = (v5.alloc (.cells #[.int .i64 xRB, .slice t6A xRZ.length t6C] 26)) := ⟨_, rfl⟩
  have s9 : Hid (v5.heap.size + 1 ≤ v6.heap.size) := Lib.hid (by rw [hu]; simp)
  rw [← hu] at cxR0 cxR1 cx00 cx01 ot6 hbel ⊢
  clear hu
  refine (implValidRegister xRB t6A t6C xRZ v6 ot6.rd zxR bxR).mono ?_
  rintro e v7 ⟨rfl, hb⟩
  have s10 : Hid (v6.heap.size ≤ v7.heap.size) := Lib.hid hb.size
  replace cxR0 := kept hb cxR0
  replace cxR1 := kept hb cxR1
  replace cx00 := kept hb cx00
  replace cx01 := kept hb cx01
  replace ot6 := ot6.below hb
  replace hbel := hbel.trans (hb.mono hbel.size)
  clear hb
  have q11 : regEqB xRB xRB xRZ xRZ = true := regEqB_self _ _
  go_wp2_with fail
  have rcxR0 := kept_all cxR0
  have rcxR1 := kept_all cxR1
  have rcx00 := kept_all cx00
  have rcx01 := kept_all cx01
  go_region_held3 (fun w' => Below v7.heap.size v7 w') (first | exact hk | exact (Below.refl _ _).drew | exact hk.alloc hk.size _ | exact (hk.alloc hk.size _).setCell hk.size _)
    (first | (go_at_call 30; have qB := ‹Below v7.heap.size v7 _›; ((with_reducible refine (toRegister_any xRB xRA xRC xRZ _ (hxR.below (hbel.trans (qB.mono hbel.size)))).mono ?_)); rintro e v9 ⟨t12A, t12C, rfl, ot12, hb⟩; have hk := qB.trans (hb.mono qB.size)) | (go_at_call 32; have qB := ‹Below v7.heap.size v7 _›; refine (eqRegister_any xRB xRB t6A t12A t6C t12C xRZ xRZ _ (ot6.below qB).rd ot12.rd).mono ?_; rintro e v8 ⟨rfl, hb⟩; have hk := qB.trans (hb.mono qB.size)))
  have hb : Below v7.heap.size v7 v8 := by assumption
  clear rcxR0 rcxR1 rcx00 rcx01
  clear ot12
  have s13 : Hid (v7.heap.size ≤ v8.heap.size) := Lib.hid hb.size
  replace cxR0 := kept hb cxR0
  replace cxR1 := kept hb cxR1
  replace cx00 := kept hb cx00
  replace cx01 := kept hb cx01
  replace ot6 := ot6.below hb
  replace hbel := hbel.trans (hb.mono hbel.size)
  clear hb
  go_wp2
  go_ret
  exact ⟨rfl, hbel⟩

set_option maxRecDepth 100000 in
theorem lifted (os : Os) (started : os.Started) (H : Type) (enc : TypeId × Value → H) :
    ReturnsInHanded {} Try.checked os 6 .any (Rows.fnExactValidRegisterSpec.pre6 enc Try.prog Try.f6 Rows.fnExactValidRegisterRow.domain false) (Rows.fnExactValidRegisterSpec.post enc Try.prog Try.f6 false true false false) := by
  refine returnsInHanded_of_change (C := Try.checked) own_knob started (by kernel_rfl) Try.func6
    (ChangeSpec.witness6 (enc := enc) (C := Try.checked) false ⟨#[], #[.agg #[.int .i64 0, .slice none 0 0]], []⟩ 8 (by kernel_rfl) (by kernel_rfl) (by kernel_rfl) (by kernel_rfl)) ?_
  intro W base args ds gs before hval0 hW hcnd _
  have hval : ∀ (j : Nat) t v, Try.f6.params[j]? = some t → args[j]? = some v → Value.okWide Try.prog W .any base t v := hval0
  have hW' := hW
  obtain ⟨p, q, hA0, hV, rfl, hfz, hnd⟩ := hW
  have hA : DataW.TrodAll enc Try.prog W 0 (fun _ => true) true Try.f6.params.toList args.toList ds p := hA0
  rw [Try.params6] at hA hval
  obtain ⟨v0, vs0, d0, ds0, p0, q0, hargs, rfl, rfl, h0, r0⟩ := trodAll_cons hA
  obtain ⟨rfl, rfl, rfl⟩ := trodAll_nil r0
  obtain rfl : args = #[v0] := by cases args; simp_all
  obtain ⟨rfl, rfl⟩ := trodVars_none hV
  have k0 := h0
  have lt0 : ∀ x ∈ p0, x.block < W.heap.size := by obtain ⟨m, hm⟩ := k0; exact DataW.trod_lt m _ _ _ hm
  obtain ⟨xRB, xRA, xRC, xRZ, rfl, hxR, bxR⟩ := open_Register (hval 0 40 v0 rfl rfl) h0
  clear hA0 hval0
  refine (law_walk xRB xRA xRC xRZ W hxR bxR).mono fun e W' ⟨he, bel⟩ => ?_
  subst he
  exact ⟨_, rfl, _, _, _, [], _, [], hW', trodAll_mk1 (shut_bool Try.underlying4 _), (trodAll_cons_mk (Below.trod laid_out (by kernel_rfl) (of_decide_eq_true (by kernel_rfl)) k0 bel lt0) trodAll_mk0), rfl, bel.frame _, fun h => by cases h⟩

theorem over : Rows.fnExactValidRegisterRow.holds Try.pinned (OpenSpec.ofChange Rows.fnExactValidRegisterSpec) :=
  OpenClaim.holds_of_wide 6 Try.f6 rfl rfl rfl rfl rfl rfl rfl ⟨rfl, rfl, rfl, rfl, rfl⟩ rfl rfl rfl rfl rfl (by kernel_rfl) Try.func6 (by kernel_rfl)
    (of_decide_eq_true (by kernel_rfl)) (by unfold Func.isWrapper; rw [if_neg (by decide +kernel)]; exact ⟨rfl, rfl⟩)
    (fun os started H enc _ => lifted os started H enc)

/-- The statement. -/
theorem proved : Rows.FnExactValidRegisterSaid := over
end Go.Proofs.Ytfhiialalglefaa.lawValidRegister
