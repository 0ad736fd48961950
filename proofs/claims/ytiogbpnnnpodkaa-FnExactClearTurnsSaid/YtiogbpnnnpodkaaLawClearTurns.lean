/-
  laws.FnExactClearTurns returns true at every input (no condition), and leaves its arguments as they were.
-/
import Derived.Test.YtiogbpnnnpodkaaReg
import Derived.Test.YtiogbpnnnpodkaaBox
import Derived.Test.YtiogbpnnnpodkaaFrame
import Derived.Test.YtiogbpnnnpodkaaClrI
import Derived.Deep.RegionHeld3
import Derived.Test.YtiogbpnnnpodkaaFacts
import Derived.Test.YtiogbpnnnpodkaaRows
namespace Go.Proofs.Ytiogbpnnnpodkaa.lawClearTurns
open Go.ChangeShapes Go.WideShapes Go.ChangeAt Go.WideElems Go.RowKit Go.Joins
open Go.ChangeMaps (open_string shut_string)

set_option maxRecDepth 100000 in
set_option maxHeartbeats 4000000 in
theorem law_walk (xRB : Int) (xRA : Option Addr) (xRC : Nat) (xRZ : List Int) (w : World) (hxR : Raw w xRA xRZ) (bxR : I64 xRB) :
    Calls Try.prog 4 #[.agg #[.int .i64 xRB, .slice xRA xRZ.length xRC]] w fun e w' => e = .returned (.bool true) ∧ Below w.heap.size w w' := by
  have hbel : Below w.heap.size w (w.alloc (.cells #[.int .i64 xRB, .slice xRA xRZ.length xRC] 27)) := (Below.refl _ _).alloc (by simp <;> omega) _
  have cxR0 : (w.alloc (.cells #[.int .i64 xRB, .slice xRA xRZ.length xRC] 27)).cell? ⟨w.heap.size, 0, none⟩ = some (.int .i64 xRB) := by go_simp
  have cxR1 : (w.alloc (.cells #[.int .i64 xRB, .slice xRA xRZ.length xRC] 27)).cell? ⟨w.heap.size, 1, none⟩ = some (.slice xRA xRZ.length xRC) := by go_simp
  go_enter Try.func4, Try.ntmps4
  go_wp2_with fail
  obtain ⟨v1, hu⟩ : ∃ u, u = (w.alloc (.cells #[.int .i64 xRB, .slice xRA xRZ.length xRC] 27)) := ⟨_, rfl⟩
  have s1 : Hid (w.heap.size + 1 ≤ v1.heap.size) := Lib.hid (by rw [hu]; simp)
  rw [← hu] at cxR0 cxR1 hbel ⊢
  clear hu
  rcases Int.lt_or_le (leftOf xRZ.length 1048576) 0 with k1 | k1
  · refine (szRegister_any xRB xRA xRZ.length xRC 1048576 v1 hxR.len (by omega) (by omega)).mono ?_
    rintro e v2 ⟨rfl, hb⟩
    go_wp2
    go_ret
    exact ⟨rfl, hbel.trans (hb.mono hbel.size)⟩
  have m1 := leftOf_le xRZ.length 1048576 (by omega)
  refine (szRegister_any xRB xRA xRZ.length xRC 1048576 v1 hxR.len (by omega) (by omega)).mono ?_
  rintro e v2 ⟨rfl, hb⟩
  have s2 : Hid (v1.heap.size ≤ v2.heap.size) := Lib.hid hb.size
  replace cxR0 := kept hb cxR0
  replace cxR1 := kept hb cxR1
  replace hbel := hbel.trans (hb.mono hbel.size)
  clear hb
  have zxR := hxR.wf
  replace hxR := hxR.rd (by have := leftOf_len k1; omega)
  go_wp2_with fail
  refine (toRegister_any xRB xRA xRC xRZ v2 (hxR.below hbel)).mono ?_
  rintro e v3 ⟨t3A, t3C, rfl, ot3, hb⟩
  have s4 : Hid (v2.heap.size ≤ v3.heap.size) := Lib.hid hb.size
  replace cxR0 := kept hb cxR0
  replace cxR1 := kept hb cxR1
  replace hbel := hbel.trans (hb.mono hbel.size)
  clear hb
  go_wp2_with fail
  refine (specClearTurns xRB t3A t3C xRZ v3 ot3.rd zxR bxR).mono ?_
  rintro e v4 ⟨w0A, w0C, rfl, ow0, hb⟩
  have s5 : Hid (v3.heap.size ≤ v4.heap.size) := Lib.hid hb.size
  replace cxR0 := kept hb cxR0
  replace cxR1 := kept hb cxR1
  replace ot3 := ot3.below hb
  replace hbel := hbel.trans (hb.mono hbel.size)
  clear hb
  clear ot3
  go_wp2_with fail
  refine (toRegister_any xRB xRA xRC xRZ v4 (hxR.below hbel)).mono ?_
  rintro e v5 ⟨t6A, t6C, rfl, ot6, hb⟩
  have s7 : Hid (v4.heap.size ≤ v5.heap.size) := Lib.hid hb.size
  replace cxR0 := kept hb cxR0
  replace cxR1 := kept hb cxR1
  replace ow0 := ow0.below hb
  replace hbel := hbel.trans (hb.mono hbel.size)
  clear hb
  have ha8 : Below v5.heap.size v5 (v5.alloc (.cells #[.int .i64 xRB, .slice t6A xRZ.length t6C] 31)) := (Below.refl _ _).alloc (by simp <;> omega) _
  replace cxR0 := kept ha8 cxR0
  replace cxR1 := kept ha8 cxR1
  replace ow0 := ow0.below ha8
  replace ot6 := ot6.below ha8
  replace hbel := hbel.trans (ha8.mono hbel.size)
  clear ha8
  have cx00 : (v5.alloc (.cells #[.int .i64 xRB, .slice t6A xRZ.length t6C] 31)).cell? ⟨v5.heap.size, 0, none⟩ = some (.int .i64 xRB) := by go_simp
  have cx01 : (v5.alloc (.cells #[.int .i64 xRB, .slice t6A xRZ.length t6C] 31)).cell? ⟨v5.heap.size, 1, none⟩ = some (.slice t6A xRZ.length t6C) := by go_simp
  go_wp2_with fail
  obtain ⟨v6, hu⟩ : ∃ u, u = (v5.alloc (.cells #[.int .i64 xRB, .slice t6A xRZ.length t6C] 31)) := ⟨_, rfl⟩
  have s9 : Hid (v5.heap.size + 1 ≤ v6.heap.size) := Lib.hid (by rw [hu]; simp)
  rw [← hu] at cxR0 cxR1 cx00 cx01 ow0 ot6 hbel ⊢
  clear hu
  refine (implClearTurns xRB t6A t6C xRZ v6 ot6.rd zxR bxR).mono ?_
  rintro e v7 ⟨g0A, g0C, rfl, og0, hb⟩
  have s10 : Hid (v6.heap.size ≤ v7.heap.size) := Lib.hid hb.size
  replace cxR0 := kept hb cxR0
  replace cxR1 := kept hb cxR1
  replace cx00 := kept hb cx00
  replace cx01 := kept hb cx01
  replace ow0 := ow0.below hb
  replace ot6 := ot6.below hb
  replace hbel := hbel.trans (hb.mono hbel.size)
  clear hb
  have q11 : decide ((clrR xRB xRZ).1 = (clrR xRB xRZ).1) = true := decide_eq_true rfl
  go_wp2_with fail
  refine (eqInt64S_any g0A w0A g0C w0C (clrR xRB xRZ).1 (clrR xRB xRZ).1 v7 og0.rd ow0.rd).mono ?_
  rintro e v8 ⟨rfl, n, hn⟩
  have hb : Below v7.heap.size v7 v8 := by rw [hn]; exact bel_drewN (Below.refl _ _) n
  clear hn
  have s12 : Hid (v7.heap.size ≤ v8.heap.size) := Lib.hid hb.size
  replace cxR0 := kept hb cxR0
  replace cxR1 := kept hb cxR1
  replace cx00 := kept hb cx00
  replace cx01 := kept hb cx01
  replace ow0 := ow0.below hb
  replace ot6 := ot6.below hb
  replace og0 := og0.below hb
  replace hbel := hbel.trans (hb.mono hbel.size)
  clear hb
  have q13 : regEqB xRB xRB xRZ xRZ = true := regEqB_self _ _
  go_wp2_with fail
  have rcxR0 := kept_all cxR0
  have rcxR1 := kept_all cxR1
  have rcx00 := kept_all cx00
  have rcx01 := kept_all cx01
  go_region_held3 (fun w' => Below v8.heap.size v8 w') (first | exact hk | exact (Below.refl _ _).drew | exact hk.alloc hk.size _ | exact (hk.alloc hk.size _).setCell hk.size _)
    (first | (go_at_call 11; have qB := ‹Below v8.heap.size v8 _›; ((with_reducible refine (toRegister_any xRB xRA xRC xRZ _ (hxR.below (hbel.trans (qB.mono hbel.size)))).mono ?_)); rintro e v10 ⟨t14A, t14C, rfl, ot14, hb⟩; have hk := qB.trans (hb.mono qB.size)) | (go_at_call 14; have qB := ‹Below v8.heap.size v8 _›; refine (eqRegister_any xRB xRB t6A t14A t6C t14C xRZ xRZ _ (ot6.below qB).rd (by first | exact ot14.rd | exact (ot14.alloc _).rd)).mono ?_; rintro e v9 ⟨rfl, hb⟩; have hk := qB.trans (hb.mono qB.size)))
  have hb : Below v8.heap.size v8 v9 := by assumption
  clear rcxR0 rcxR1 rcx00 rcx01
  clear ot14
  have s15 : Hid (v8.heap.size ≤ v9.heap.size) := Lib.hid hb.size
  replace cxR0 := kept hb cxR0
  replace cxR1 := kept hb cxR1
  replace cx00 := kept hb cx00
  replace cx01 := kept hb cx01
  replace ow0 := ow0.below hb
  replace ot6 := ot6.below hb
  replace og0 := og0.below hb
  replace hbel := hbel.trans (hb.mono hbel.size)
  clear hb
  go_wp2_with fail
  refine (markRegister_any _ _ _ xRB t6A t6C 1 xRZ v9 ot6 (by have := ow0.len; have := ot6.len; have := og0.len; have := hxR.len; omega) (by have := ow0.len; have := ot6.len; have := og0.len; have := hxR.len; omega)).mono ?_
  rintro e v11 ⟨rfl, om, ht⟩
  have s16 : Hid (v9.heap.size ≤ v11.heap.size) := Lib.hid ht.size
  clear ot6
  have ot6 := om
  clear om
  replace cxR0 := keptT ht cxR0 (by have := s1.out; have := s2.out; have := s4.out; have := s5.out; have := s7.out; have := s9.out; have := s10.out; have := s12.out; have := s15.out; have := s16.out; omega)
  replace cxR1 := keptT ht cxR1 (by have := s1.out; have := s2.out; have := s4.out; have := s5.out; have := s7.out; have := s9.out; have := s10.out; have := s12.out; have := s15.out; have := s16.out; omega)
  replace cx00 := keptT ht cx00 (by have := s1.out; have := s2.out; have := s4.out; have := s5.out; have := s7.out; have := s9.out; have := s10.out; have := s12.out; have := s15.out; have := s16.out; omega)
  replace cx01 := keptT ht cx01 (by have := s1.out; have := s2.out; have := s4.out; have := s5.out; have := s7.out; have := s9.out; have := s10.out; have := s12.out; have := s15.out; have := s16.out; omega)
  replace ow0 := ow0.touch ht (by have := s1.out; have := s2.out; have := s4.out; have := s5.out; have := s7.out; have := s9.out; have := s10.out; have := s12.out; have := s15.out; have := s16.out; omega)
  replace og0 := og0.touch ht (by have := s1.out; have := s2.out; have := s4.out; have := s5.out; have := s7.out; have := s9.out; have := s10.out; have := s12.out; have := s15.out; have := s16.out; omega)
  replace hbel := hbel.trans (ht.below (by have := s1.out; have := s2.out; have := s4.out; have := s5.out; have := s7.out; have := s9.out; have := s10.out; have := s12.out; have := s15.out; have := s16.out; omega) hbel.size)
  clear ht
  have q17 : decide ((clrR xRB xRZ).1 = (clrR xRB xRZ).1) = true := decide_eq_true rfl
  go_wp2_with fail
  refine (eqInt64S_any g0A w0A g0C w0C (clrR xRB xRZ).1 (clrR xRB xRZ).1 v11 og0.rd ow0.rd).mono ?_
  rintro e v12 ⟨rfl, n, hn⟩
  have hb : Below v11.heap.size v11 v12 := by rw [hn]; exact bel_drewN (Below.refl _ _) n
  clear hn
  have s18 : Hid (v11.heap.size ≤ v12.heap.size) := Lib.hid hb.size
  replace cxR0 := kept hb cxR0
  replace cxR1 := kept hb cxR1
  replace cx00 := kept hb cx00
  replace cx01 := kept hb cx01
  replace ow0 := ow0.below hb
  replace ot6 := ot6.below hb
  replace og0 := og0.below hb
  replace hbel := hbel.trans (hb.mono hbel.size)
  clear hb
  go_wp2_with fail
  refine (markInt64S_any _ _ _ g0A g0C 1 (clrR xRB xRZ).1 v12 og0 (by have := ow0.len; have := ot6.len; have := og0.len; have := hxR.len; omega) (by have := ow0.len; have := ot6.len; have := og0.len; have := hxR.len; omega)).mono ?_
  rintro e v13 ⟨rfl, om, ht⟩
  have s19 : Hid (v12.heap.size ≤ v13.heap.size) := Lib.hid ht.size
  clear og0
  have og0 := om
  clear om
  replace cxR0 := keptT ht cxR0 (by have := s1.out; have := s2.out; have := s4.out; have := s5.out; have := s7.out; have := s9.out; have := s10.out; have := s12.out; have := s15.out; have := s16.out; have := s18.out; have := s19.out; omega)
  replace cxR1 := keptT ht cxR1 (by have := s1.out; have := s2.out; have := s4.out; have := s5.out; have := s7.out; have := s9.out; have := s10.out; have := s12.out; have := s15.out; have := s16.out; have := s18.out; have := s19.out; omega)
  replace cx00 := keptT ht cx00 (by have := s1.out; have := s2.out; have := s4.out; have := s5.out; have := s7.out; have := s9.out; have := s10.out; have := s12.out; have := s15.out; have := s16.out; have := s18.out; have := s19.out; omega)
  replace cx01 := keptT ht cx01 (by have := s1.out; have := s2.out; have := s4.out; have := s5.out; have := s7.out; have := s9.out; have := s10.out; have := s12.out; have := s15.out; have := s16.out; have := s18.out; have := s19.out; omega)
  replace ow0 := ow0.touch ht (by have := s1.out; have := s2.out; have := s4.out; have := s5.out; have := s7.out; have := s9.out; have := s10.out; have := s12.out; have := s15.out; have := s16.out; have := s18.out; have := s19.out; omega)
  replace ot6 := ot6.touch ht (by have := s1.out; have := s2.out; have := s4.out; have := s5.out; have := s7.out; have := s9.out; have := s10.out; have := s12.out; have := s15.out; have := s16.out; have := s18.out; have := s19.out; omega)
  replace hbel := hbel.trans (ht.below (by have := s1.out; have := s2.out; have := s4.out; have := s5.out; have := s7.out; have := s9.out; have := s10.out; have := s12.out; have := s15.out; have := s16.out; have := s18.out; have := s19.out; omega) hbel.size)
  clear ht
  go_wp2_with fail
  refine (heldInt64S_any g0A g0C 1 (clrR xRB xRZ).1.length v13 og0.rd (by have := ow0.len; have := ot6.len; have := og0.len; have := hxR.len; omega) (by have := ow0.len; have := ot6.len; have := og0.len; have := hxR.len; omega)).mono ?_
  rintro e v14 ⟨rfl, hw⟩
  have hb : Below v13.heap.size v13 v14 := by rw [hw]; exact Below.refl _ _
  clear hw
  have s20 : Hid (v13.heap.size ≤ v14.heap.size) := Lib.hid hb.size
  replace cxR0 := kept hb cxR0
  replace cxR1 := kept hb cxR1
  replace cx00 := kept hb cx00
  replace cx01 := kept hb cx01
  replace ow0 := ow0.below hb
  replace ot6 := ot6.below hb
  replace og0 := og0.below hb
  replace hbel := hbel.trans (hb.mono hbel.size)
  clear hb
  go_wp2_with fail
  refine (toRegister_any xRB xRA xRC xRZ v14 (hxR.below hbel)).mono ?_
  rintro e v15 ⟨t21A, t21C, rfl, ot21, hb⟩
  have s22 : Hid (v14.heap.size ≤ v15.heap.size) := Lib.hid hb.size
  replace cxR0 := kept hb cxR0
  replace cxR1 := kept hb cxR1
  replace cx00 := kept hb cx00
  replace cx01 := kept hb cx01
  replace ow0 := ow0.below hb
  replace ot6 := ot6.below hb
  replace og0 := og0.below hb
  replace hbel := hbel.trans (hb.mono hbel.size)
  clear hb
  go_wp2_with fail
  refine (implClearTurns xRB t21A t21C xRZ v15 ot21.rd zxR bxR).mono ?_
  rintro e v16 ⟨h0A, h0C, rfl, oh0, hb⟩
  have s23 : Hid (v15.heap.size ≤ v16.heap.size) := Lib.hid hb.size
  replace cxR0 := kept hb cxR0
  replace cxR1 := kept hb cxR1
  replace cx00 := kept hb cx00
  replace cx01 := kept hb cx01
  replace ow0 := ow0.below hb
  replace ot6 := ot6.below hb
  replace og0 := og0.below hb
  replace ot21 := ot21.below hb
  replace hbel := hbel.trans (hb.mono hbel.size)
  clear hb
  clear ot21
  have q24 : decide ((clrR xRB xRZ).1 = (clrR xRB xRZ).1) = true := decide_eq_true rfl
  go_wp2_with fail
  refine (eqInt64S_any h0A w0A h0C w0C (clrR xRB xRZ).1 (clrR xRB xRZ).1 v16 oh0.rd ow0.rd).mono ?_
  rintro e v17 ⟨rfl, n, hn⟩
  have hb : Below v16.heap.size v16 v17 := by rw [hn]; exact bel_drewN (Below.refl _ _) n
  clear hn
  have s25 : Hid (v16.heap.size ≤ v17.heap.size) := Lib.hid hb.size
  replace cxR0 := kept hb cxR0
  replace cxR1 := kept hb cxR1
  replace cx00 := kept hb cx00
  replace cx01 := kept hb cx01
  replace ow0 := ow0.below hb
  replace ot6 := ot6.below hb
  replace og0 := og0.below hb
  replace oh0 := oh0.below hb
  replace hbel := hbel.trans (hb.mono hbel.size)
  clear hb
  go_wp2_with fail
  refine (heldInt64S_any g0A g0C 1 (clrR xRB xRZ).1.length v17 og0.rd (by have := ow0.len; have := ot6.len; have := og0.len; have := oh0.len; have := hxR.len; omega) (by have := ow0.len; have := ot6.len; have := og0.len; have := oh0.len; have := hxR.len; omega)).mono ?_
  rintro e v18 ⟨rfl, hw⟩
  have hb : Below v17.heap.size v17 v18 := by rw [hw]; exact Below.refl _ _
  clear hw
  have s26 : Hid (v17.heap.size ≤ v18.heap.size) := Lib.hid hb.size
  replace cxR0 := kept hb cxR0
  replace cxR1 := kept hb cxR1
  replace cx00 := kept hb cx00
  replace cx01 := kept hb cx01
  replace ow0 := ow0.below hb
  replace ot6 := ot6.below hb
  replace og0 := og0.below hb
  replace oh0 := oh0.below hb
  replace hbel := hbel.trans (hb.mono hbel.size)
  clear hb
  go_wp2
  go_ret
  exact ⟨rfl, hbel⟩

set_option maxRecDepth 100000 in
theorem lifted (os : Os) (started : os.Started) (H : Type) (enc : TypeId × Value → H) :
    ReturnsInHanded {} Try.checked os 4 .any (Rows.fnExactClearTurnsSpec.pre6 enc Try.prog Try.f4 Rows.fnExactClearTurnsRow.domain false) (Rows.fnExactClearTurnsSpec.post enc Try.prog Try.f4 false true false false) := by
  refine returnsInHanded_of_change (C := Try.checked) own_knob started (by kernel_rfl) Try.func4
    (ChangeSpec.witness6 (enc := enc) (C := Try.checked) false ⟨#[], #[.agg #[.int .i64 0, .slice none 0 0]], []⟩ 8 (by kernel_rfl) (by kernel_rfl) (by kernel_rfl) (by kernel_rfl)) ?_
  intro W base args ds gs before hval0 hW hcnd _
  have hval : ∀ (j : Nat) t v, Try.f4.params[j]? = some t → args[j]? = some v → Value.okWide Try.prog W .any base t v := hval0
  have hW' := hW
  obtain ⟨p, q, hA0, hV, rfl, hfz, hnd⟩ := hW
  have hA : DataW.TrodAll enc Try.prog W 0 (fun _ => true) true Try.f4.params.toList args.toList ds p := hA0
  rw [Try.params4] at hA hval
  obtain ⟨v0, vs0, d0, ds0, p0, q0, hargs, rfl, rfl, h0, r0⟩ := trodAll_cons hA
  obtain ⟨rfl, rfl, rfl⟩ := trodAll_nil r0
  obtain rfl : args = #[v0] := by cases args; simp_all
  obtain ⟨rfl, rfl⟩ := trodVars_none hV
  have k0 := h0
  have lt0 : ∀ x ∈ p0, x.block < W.heap.size := by obtain ⟨m, hm⟩ := k0; exact DataW.trod_lt m _ _ _ hm
  obtain ⟨xRB, xRA, xRC, xRZ, rfl, hxR, bxR⟩ := open_Register (hval 0 27 v0 rfl rfl) h0
  clear hA0 hval0
  refine (law_walk xRB xRA xRC xRZ W hxR bxR).mono fun e W' ⟨he, bel⟩ => ?_
  subst he
  exact ⟨_, rfl, _, _, _, [], _, [], hW', trodAll_mk1 (shut_bool Try.underlying4 _), (trodAll_cons_mk (Below.trod laid_out (by kernel_rfl) (of_decide_eq_true (by kernel_rfl)) k0 bel lt0) trodAll_mk0), rfl, bel.frame _, fun h => by cases h⟩

set_option maxHeartbeats 20000000 in
theorem closed : joinedFacts Try.prog 4 Try.f4 Rows.fnExactClearTurnsSpec Rows.fnExactClearTurnsRow = true := by
  simp only [joinedFacts, Bool.and_eq_true]
  refine ⟨⟨⟨⟨⟨⟨⟨⟨⟨⟨⟨⟨⟨⟨⟨⟨⟨⟨⟨⟨⟨⟨⟨⟨⟨⟨⟨⟨⟨⟨⟨?_, laid_out⟩, fact_maps⟩, ?_⟩, ?_⟩, ?_⟩, fact_stops⟩, ?_⟩, fact_knobs⟩, ?_⟩, ?_⟩, ?_⟩, ?_⟩, ?_⟩, ?_⟩, ?_⟩, ?_⟩, ?_⟩, ?_⟩, ?_⟩, ?_⟩, ?_⟩, fact_plain⟩, ?_⟩, fact_heard⟩, fact_enter⟩, fact_lift⟩, ?_⟩, ?_⟩, ?_⟩, ?_⟩, ?_⟩
  all_goals (as_aux_lemma => kernel_rfl)

theorem over : Rows.fnExactClearTurnsRow.holds Try.pinned (OpenSpec.ofChange Rows.fnExactClearTurnsSpec) :=
  OpenClaim.holds_of_wide 4 Try.f4 rfl rfl rfl rfl rfl rfl rfl ⟨rfl, rfl, rfl, rfl, rfl⟩ rfl rfl rfl rfl rfl (by as_aux_lemma => kernel_rfl) Try.func4 closed
    (of_decide_eq_true (by as_aux_lemma => kernel_rfl)) (by unfold Func.isWrapper; rw [if_neg (by decide +kernel)]; exact ⟨rfl, rfl⟩)
    (fun os started H enc _ => lifted os started H enc)

/-- The statement. -/
theorem proved : Rows.FnExactClearTurnsSaid := over
end Go.Proofs.Ytiogbpnnnpodkaa.lawClearTurns
