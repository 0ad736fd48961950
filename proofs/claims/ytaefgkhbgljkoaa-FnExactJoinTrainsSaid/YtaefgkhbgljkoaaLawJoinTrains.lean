/-
  laws.FnExactJoinTrains returns true at every input (no condition), and leaves its arguments as they were.
-/
import Derived.Test.YtaefgkhbgljkoaaGearPairS
import Derived.Test.YtaefgkhbgljkoaaFrameG
import Derived.Test.YtaefgkhbgljkoaaJoinI
import Derived.Test.YtaefgkhbgljkoaaTrainT
import Derived.Test.YtaefgkhbgljkoaaFacts
import Derived.Test.YtaefgkhbgljkoaaRows
namespace Go.Proofs.Ytaefgkhbgljkoaa.lawJoinTrains
open Go.ChangeShapes Go.WideShapes Go.ChangeAt Go.WideElems Go.RowKit Go.Joins
open Go.ChangeMaps (open_string shut_string)

set_option maxRecDepth 100000 in
set_option maxHeartbeats 4000000 in
theorem law_walk (xAA : Option Addr) (xAC : Nat) (xAZ : List (Int × Int)) (xBA : Option Addr) (xBC : Nat) (xBZ : List (Int × Int)) (w : World) (hxA : RawF pairF (fun x => I64 x.1 ∧ I64 x.2) w xAA xAZ) (hxB : RawF pairF (fun x => I64 x.1 ∧ I64 x.2) w xBA xBZ) :
    Calls Try.prog 10 #[.slice xAA xAZ.length xAC, .slice xBA xBZ.length xBC] w fun e w' => e = .returned (.bool true) ∧ Below w.heap.size w w' := by
  have hbel : Below w.heap.size w w := Below.refl _ _
  go_enter Try.func10, Try.ntmps10
  go_wp2_with fail
  rcases Int.lt_or_le (leftOf xAZ.length 1048576) 0 with k1 | k1
  · refine (szGearPairS_any xAA xAZ.length xAC 1048576 w hxA.len (by omega) (by omega)).mono ?_
    rintro e v1 ⟨rfl, hb⟩
    subst hb
    go_wp2
    go_ret
    exact ⟨rfl, hbel⟩
  have m1 := leftOf_le xAZ.length 1048576 (by omega)
  refine (szGearPairS_any xAA xAZ.length xAC 1048576 w hxA.len (by omega) (by omega)).mono ?_
  rintro e v1 ⟨rfl, hb⟩
  replace hb : Below w.heap.size w v1 := by rw [← hb]; exact Below.refl _ _
  have s1 : Hid (w.heap.size ≤ v1.heap.size) := Lib.hid hb.size
  replace hbel := hbel.trans (hb.mono hbel.size)
  clear hb
  have zxA : All2 xAZ := hxA.wf
  replace hxA := hxA.rd (by have := leftOf_len k1; omega)
  go_wp2_with fail
  rcases Int.lt_or_le (leftOf xBZ.length (leftOf xAZ.length 1048576)) 0 with k2 | k2
  · refine (szGearPairS_any xBA xBZ.length xBC (leftOf xAZ.length 1048576) v1 hxB.len (by omega) (by omega)).mono ?_
    rintro e v2 ⟨rfl, hb⟩
    subst hb
    go_wp2
    go_ret
    exact ⟨rfl, hbel⟩
  have m2 := leftOf_le xBZ.length (leftOf xAZ.length 1048576) (by omega)
  refine (szGearPairS_any xBA xBZ.length xBC (leftOf xAZ.length 1048576) v1 hxB.len (by omega) (by omega)).mono ?_
  rintro e v2 ⟨rfl, hb⟩
  replace hb : Below v1.heap.size v1 v2 := by rw [← hb]; exact Below.refl _ _
  have s2 : Hid (v1.heap.size ≤ v2.heap.size) := Lib.hid hb.size
  replace hbel := hbel.trans (hb.mono hbel.size)
  clear hb
  have zxB : All2 xBZ := hxB.wf
  replace hxB := hxB.rd (by have := leftOf_len k2; omega)
  go_wp2_with fail
  refine (toGearPairS_any xAA xAC xAZ v2 (hxA.below hbel)).mono ?_
  rintro e v3 ⟨t3A, t3C, rfl, ot3, hb⟩
  have s4 : Hid (v2.heap.size ≤ v3.heap.size) := Lib.hid hb.size
  replace hbel := hbel.trans (hb.mono hbel.size)
  clear hb
  go_wp2_with fail
  refine (toGearPairS_any xBA xBC xBZ v3 (hxB.below hbel)).mono ?_
  rintro e v4 ⟨t5A, t5C, rfl, ot5, hb⟩
  have s6 : Hid (v3.heap.size ≤ v4.heap.size) := Lib.hid hb.size
  replace ot3 := ot3.below hb
  replace hbel := hbel.trans (hb.mono hbel.size)
  clear hb
  go_wp2_with fail
  refine (specJoinTrains t3A t3C xAZ t5A t5C xBZ v4 ot3.rd zxA ot5.rd zxB).mono ?_
  rintro e v5 ⟨w0A, w0C, rfl, ow0, hb⟩
  have s7 : Hid (v4.heap.size ≤ v5.heap.size) := Lib.hid hb.size
  replace ot3 := ot3.below hb
  replace ot5 := ot5.below hb
  replace hbel := hbel.trans (hb.mono hbel.size)
  clear hb
  clear ot3
  clear ot5
  go_wp2_with fail
  refine (toGearPairS_any xAA xAC xAZ v5 (hxA.below hbel)).mono ?_
  rintro e v6 ⟨t8A, t8C, rfl, ot8, hb⟩
  have s9 : Hid (v5.heap.size ≤ v6.heap.size) := Lib.hid hb.size
  replace ow0 := ow0.below hb
  replace hbel := hbel.trans (hb.mono hbel.size)
  clear hb
  go_wp2_with fail
  refine (toGearPairS_any xBA xBC xBZ v6 (hxB.below hbel)).mono ?_
  rintro e v7 ⟨t10A, t10C, rfl, ot10, hb⟩
  have s11 : Hid (v6.heap.size ≤ v7.heap.size) := Lib.hid hb.size
  replace ow0 := ow0.below hb
  replace ot8 := ot8.below hb
  replace hbel := hbel.trans (hb.mono hbel.size)
  clear hb
  go_wp2_with fail
  refine (implJoinTrains t8A t8C xAZ t10A t10C xBZ v7 ot8.rd zxA ot10.rd zxB).mono ?_
  rintro e v8 ⟨g0A, g0C, rfl, og0, hb⟩
  have s12 : Hid (v7.heap.size ≤ v8.heap.size) := Lib.hid hb.size
  replace ow0 := ow0.below hb
  replace ot8 := ot8.below hb
  replace ot10 := ot10.below hb
  replace hbel := hbel.trans (hb.mono hbel.size)
  clear hb
  have q13 : decide ((joinR xAZ xBZ).1 = (joinR xAZ xBZ).1) = true := decide_eq_true rfl
  go_wp2_with fail
  refine (eqGearPairS_any g0A w0A g0C w0C (joinR xAZ xBZ).1 (joinR xAZ xBZ).1 v8 og0.rd ow0.rd).mono ?_
  rintro e v9 ⟨rfl, hb⟩
  have s14 : Hid (v8.heap.size ≤ v9.heap.size) := Lib.hid hb.size
  replace ow0 := ow0.below hb
  replace ot8 := ot8.below hb
  replace ot10 := ot10.below hb
  replace og0 := og0.below hb
  replace hbel := hbel.trans (hb.mono hbel.size)
  clear hb
  have q15 : decide (xAZ = xAZ) = true := decide_eq_true rfl
  go_wp2_with fail
  refine (toGearPairS_any xAA xAC xAZ v9 (hxA.below hbel)).mono ?_
  rintro e v10 ⟨t16A, t16C, rfl, ot16, hb⟩
  have s17 : Hid (v9.heap.size ≤ v10.heap.size) := Lib.hid hb.size
  replace ow0 := ow0.below hb
  replace ot8 := ot8.below hb
  replace ot10 := ot10.below hb
  replace og0 := og0.below hb
  replace hbel := hbel.trans (hb.mono hbel.size)
  clear hb
  go_wp2_with fail
  refine (eqGearPairS_any t8A t16A t8C t16C xAZ xAZ v10 ot8.rd ot16.rd).mono ?_
  rintro e v11 ⟨rfl, hb⟩
  have s18 : Hid (v10.heap.size ≤ v11.heap.size) := Lib.hid hb.size
  replace ow0 := ow0.below hb
  replace ot8 := ot8.below hb
  replace ot10 := ot10.below hb
  replace og0 := og0.below hb
  replace ot16 := ot16.below hb
  replace hbel := hbel.trans (hb.mono hbel.size)
  clear hb
  clear ot16
  have q19 : decide (xBZ = xBZ) = true := decide_eq_true rfl
  go_wp2_with fail
  refine (toGearPairS_any xBA xBC xBZ v11 (hxB.below hbel)).mono ?_
  rintro e v12 ⟨t20A, t20C, rfl, ot20, hb⟩
  have s21 : Hid (v11.heap.size ≤ v12.heap.size) := Lib.hid hb.size
  replace ow0 := ow0.below hb
  replace ot8 := ot8.below hb
  replace ot10 := ot10.below hb
  replace og0 := og0.below hb
  replace hbel := hbel.trans (hb.mono hbel.size)
  clear hb
  go_wp2_with fail
  refine (eqGearPairS_any t10A t20A t10C t20C xBZ xBZ v12 ot10.rd ot20.rd).mono ?_
  rintro e v13 ⟨rfl, hb⟩
  have s22 : Hid (v12.heap.size ≤ v13.heap.size) := Lib.hid hb.size
  replace ow0 := ow0.below hb
  replace ot8 := ot8.below hb
  replace ot10 := ot10.below hb
  replace og0 := og0.below hb
  replace ot20 := ot20.below hb
  replace hbel := hbel.trans (hb.mono hbel.size)
  clear hb
  clear ot20
  go_wp2_with fail
  refine (markGearPairS_any _ _ _ t8A t8C 1 xAZ v13 ot8 (by have := ow0.len; have := ot8.len; have := ot10.len; have := og0.len; have := hxA.len; have := hxB.len; omega) (by have := ow0.len; have := ot8.len; have := ot10.len; have := og0.len; have := hxA.len; have := hxB.len; omega)).mono ?_
  rintro e v14 ⟨rfl, om, ht⟩
  have s23 : Hid (v13.heap.size ≤ v14.heap.size) := Lib.hid ht.size
  clear ot8
  have ot8 := om
  clear om
  replace ow0 := ow0.touch ht (by have := s1.out; have := s2.out; have := s4.out; have := s6.out; have := s7.out; have := s9.out; have := s11.out; have := s12.out; have := s14.out; have := s17.out; have := s18.out; have := s21.out; have := s22.out; have := s23.out; omega)
  replace ot10 := ot10.touch ht (by have := s1.out; have := s2.out; have := s4.out; have := s6.out; have := s7.out; have := s9.out; have := s11.out; have := s12.out; have := s14.out; have := s17.out; have := s18.out; have := s21.out; have := s22.out; have := s23.out; omega)
  replace og0 := og0.touch ht (by have := s1.out; have := s2.out; have := s4.out; have := s6.out; have := s7.out; have := s9.out; have := s11.out; have := s12.out; have := s14.out; have := s17.out; have := s18.out; have := s21.out; have := s22.out; have := s23.out; omega)
  replace hbel := hbel.trans (ht.below (by have := s1.out; have := s2.out; have := s4.out; have := s6.out; have := s7.out; have := s9.out; have := s11.out; have := s12.out; have := s14.out; have := s17.out; have := s18.out; have := s21.out; have := s22.out; have := s23.out; omega) hbel.size)
  clear ht
  go_wp2_with fail
  refine (markGearPairS_any _ _ _ t10A t10C (1 + 2 * (xAZ.length : Int)) xBZ v14 ot10 (by have := ow0.len; have := ot8.len; have := ot10.len; have := og0.len; have := hxA.len; have := hxB.len; omega) (by have := ow0.len; have := ot8.len; have := ot10.len; have := og0.len; have := hxA.len; have := hxB.len; omega)).mono ?_
  rintro e v15 ⟨rfl, om, ht⟩
  have s24 : Hid (v14.heap.size ≤ v15.heap.size) := Lib.hid ht.size
  clear ot10
  have ot10 := om
  clear om
  replace ow0 := ow0.touch ht (by have := s1.out; have := s2.out; have := s4.out; have := s6.out; have := s7.out; have := s9.out; have := s11.out; have := s12.out; have := s14.out; have := s17.out; have := s18.out; have := s21.out; have := s22.out; have := s23.out; have := s24.out; omega)
  replace ot8 := ot8.touch ht (by have := s1.out; have := s2.out; have := s4.out; have := s6.out; have := s7.out; have := s9.out; have := s11.out; have := s12.out; have := s14.out; have := s17.out; have := s18.out; have := s21.out; have := s22.out; have := s23.out; have := s24.out; omega)
  replace og0 := og0.touch ht (by have := s1.out; have := s2.out; have := s4.out; have := s6.out; have := s7.out; have := s9.out; have := s11.out; have := s12.out; have := s14.out; have := s17.out; have := s18.out; have := s21.out; have := s22.out; have := s23.out; have := s24.out; omega)
  replace hbel := hbel.trans (ht.below (by have := s1.out; have := s2.out; have := s4.out; have := s6.out; have := s7.out; have := s9.out; have := s11.out; have := s12.out; have := s14.out; have := s17.out; have := s18.out; have := s21.out; have := s22.out; have := s23.out; have := s24.out; omega) hbel.size)
  clear ht
  have q25 : decide ((joinR xAZ xBZ).1 = (joinR xAZ xBZ).1) = true := decide_eq_true rfl
  go_wp2_with fail
  refine (eqGearPairS_any g0A w0A g0C w0C (joinR xAZ xBZ).1 (joinR xAZ xBZ).1 v15 og0.rd ow0.rd).mono ?_
  rintro e v16 ⟨rfl, hb⟩
  have s26 : Hid (v15.heap.size ≤ v16.heap.size) := Lib.hid hb.size
  replace ow0 := ow0.below hb
  replace ot8 := ot8.below hb
  replace ot10 := ot10.below hb
  replace og0 := og0.below hb
  replace hbel := hbel.trans (hb.mono hbel.size)
  clear hb
  go_wp2_with fail
  refine (markGearPairS_any _ _ _ g0A g0C 1 (joinR xAZ xBZ).1 v16 og0 (by have := ow0.len; have := ot8.len; have := ot10.len; have := og0.len; have := hxA.len; have := hxB.len; omega) (by have := ow0.len; have := ot8.len; have := ot10.len; have := og0.len; have := hxA.len; have := hxB.len; omega)).mono ?_
  rintro e v17 ⟨rfl, om, ht⟩
  have s27 : Hid (v16.heap.size ≤ v17.heap.size) := Lib.hid ht.size
  clear og0
  have og0 := om
  clear om
  replace ow0 := ow0.touch ht (by have := s1.out; have := s2.out; have := s4.out; have := s6.out; have := s7.out; have := s9.out; have := s11.out; have := s12.out; have := s14.out; have := s17.out; have := s18.out; have := s21.out; have := s22.out; have := s23.out; have := s24.out; have := s26.out; have := s27.out; omega)
  replace ot8 := ot8.touch ht (by have := s1.out; have := s2.out; have := s4.out; have := s6.out; have := s7.out; have := s9.out; have := s11.out; have := s12.out; have := s14.out; have := s17.out; have := s18.out; have := s21.out; have := s22.out; have := s23.out; have := s24.out; have := s26.out; have := s27.out; omega)
  replace ot10 := ot10.touch ht (by have := s1.out; have := s2.out; have := s4.out; have := s6.out; have := s7.out; have := s9.out; have := s11.out; have := s12.out; have := s14.out; have := s17.out; have := s18.out; have := s21.out; have := s22.out; have := s23.out; have := s24.out; have := s26.out; have := s27.out; omega)
  replace hbel := hbel.trans (ht.below (by have := s1.out; have := s2.out; have := s4.out; have := s6.out; have := s7.out; have := s9.out; have := s11.out; have := s12.out; have := s14.out; have := s17.out; have := s18.out; have := s21.out; have := s22.out; have := s23.out; have := s24.out; have := s26.out; have := s27.out; omega) hbel.size)
  clear ht
  go_wp2_with fail
  refine (heldGearPairS_any g0A g0C 1 (joinR xAZ xBZ).1.length v17 og0.rd (by have := ow0.len; have := ot8.len; have := ot10.len; have := og0.len; have := hxA.len; have := hxB.len; omega) (by have := ow0.len; have := ot8.len; have := ot10.len; have := og0.len; have := hxA.len; have := hxB.len; omega)).mono ?_
  rintro e v18 ⟨rfl, hw⟩
  have hb : Below v17.heap.size v17 v18 := by rw [hw]; exact Below.refl _ _
  clear hw
  have s28 : Hid (v17.heap.size ≤ v18.heap.size) := Lib.hid hb.size
  replace ow0 := ow0.below hb
  replace ot8 := ot8.below hb
  replace ot10 := ot10.below hb
  replace og0 := og0.below hb
  replace hbel := hbel.trans (hb.mono hbel.size)
  clear hb
  go_wp2_with fail
  refine (toGearPairS_any xAA xAC xAZ v18 (hxA.below hbel)).mono ?_
  rintro e v19 ⟨t29A, t29C, rfl, ot29, hb⟩
  have s30 : Hid (v18.heap.size ≤ v19.heap.size) := Lib.hid hb.size
  replace ow0 := ow0.below hb
  replace ot8 := ot8.below hb
  replace ot10 := ot10.below hb
  replace og0 := og0.below hb
  replace hbel := hbel.trans (hb.mono hbel.size)
  clear hb
  go_wp2_with fail
  refine (toGearPairS_any xBA xBC xBZ v19 (hxB.below hbel)).mono ?_
  rintro e v20 ⟨t31A, t31C, rfl, ot31, hb⟩
  have s32 : Hid (v19.heap.size ≤ v20.heap.size) := Lib.hid hb.size
  replace ow0 := ow0.below hb
  replace ot8 := ot8.below hb
  replace ot10 := ot10.below hb
  replace og0 := og0.below hb
  replace ot29 := ot29.below hb
  replace hbel := hbel.trans (hb.mono hbel.size)
  clear hb
  go_wp2_with fail
  refine (implJoinTrains t29A t29C xAZ t31A t31C xBZ v20 ot29.rd zxA ot31.rd zxB).mono ?_
  rintro e v21 ⟨h0A, h0C, rfl, oh0, hb⟩
  have s33 : Hid (v20.heap.size ≤ v21.heap.size) := Lib.hid hb.size
  replace ow0 := ow0.below hb
  replace ot8 := ot8.below hb
  replace ot10 := ot10.below hb
  replace og0 := og0.below hb
  replace ot29 := ot29.below hb
  replace ot31 := ot31.below hb
  replace hbel := hbel.trans (hb.mono hbel.size)
  clear hb
  clear ot29
  clear ot31
  have q34 : decide ((joinR xAZ xBZ).1 = (joinR xAZ xBZ).1) = true := decide_eq_true rfl
  go_wp2_with fail
  refine (eqGearPairS_any h0A w0A h0C w0C (joinR xAZ xBZ).1 (joinR xAZ xBZ).1 v21 oh0.rd ow0.rd).mono ?_
  rintro e v22 ⟨rfl, hb⟩
  have s35 : Hid (v21.heap.size ≤ v22.heap.size) := Lib.hid hb.size
  replace ow0 := ow0.below hb
  replace ot8 := ot8.below hb
  replace ot10 := ot10.below hb
  replace og0 := og0.below hb
  replace oh0 := oh0.below hb
  replace hbel := hbel.trans (hb.mono hbel.size)
  clear hb
  go_wp2_with fail
  refine (heldGearPairS_any g0A g0C 1 (joinR xAZ xBZ).1.length v22 og0.rd (by have := ow0.len; have := ot8.len; have := ot10.len; have := og0.len; have := oh0.len; have := hxA.len; have := hxB.len; omega) (by have := ow0.len; have := ot8.len; have := ot10.len; have := og0.len; have := oh0.len; have := hxA.len; have := hxB.len; omega)).mono ?_
  rintro e v23 ⟨rfl, hw⟩
  have hb : Below v22.heap.size v22 v23 := by rw [hw]; exact Below.refl _ _
  clear hw
  have s36 : Hid (v22.heap.size ≤ v23.heap.size) := Lib.hid hb.size
  replace ow0 := ow0.below hb
  replace ot8 := ot8.below hb
  replace ot10 := ot10.below hb
  replace og0 := og0.below hb
  replace oh0 := oh0.below hb
  replace hbel := hbel.trans (hb.mono hbel.size)
  clear hb
  go_wp2
  go_ret
  exact ⟨rfl, hbel⟩

set_option maxRecDepth 100000 in
theorem lifted (os : Os) (started : os.Started) (H : Type) (enc : TypeId × Value → H) :
    ReturnsInHanded {} Try.checked os 10 .any (Rows.fnExactJoinTrainsSpec.pre6 enc Try.prog Try.f10 Rows.fnExactJoinTrainsRow.domain false) (Rows.fnExactJoinTrainsSpec.post enc Try.prog Try.f10 false true false false) := by
  refine returnsInHanded_of_change (C := Try.checked) own_knob started (by kernel_rfl) Try.func10
    (ChangeSpec.witness6 (enc := enc) (C := Try.checked) false ⟨#[], #[.slice none 0 0, .slice none 0 0], []⟩ 8 (by kernel_rfl) (by kernel_rfl) (by kernel_rfl) (by kernel_rfl)) ?_
  intro W base args ds gs before hval0 hW hcnd _
  have hval : ∀ (j : Nat) t v, Try.f10.params[j]? = some t → args[j]? = some v → Value.okWide Try.prog W .any base t v := hval0
  have hW' := hW
  obtain ⟨p, q, hA0, hV, rfl, hfz, hnd⟩ := hW
  have hA : DataW.TrodAll enc Try.prog W 0 (fun _ => true) true Try.f10.params.toList args.toList ds p := hA0
  rw [Try.params10] at hA hval
  obtain ⟨v0, vs0, d0, ds0, p0, q0, hargs, rfl, rfl, h0, r0⟩ := trodAll_cons hA
  obtain ⟨v1, vs1, d1, ds1, p1, q1, rfl, rfl, rfl, h1, r1⟩ := trodAll_cons r0
  obtain ⟨rfl, rfl, rfl⟩ := trodAll_nil r1
  obtain rfl : args = #[v0, v1] := by cases args; simp_all
  obtain ⟨rfl, rfl⟩ := trodVars_none hV
  have k0 := h0
  have lt0 : ∀ x ∈ p0, x.block < W.heap.size := by obtain ⟨m, hm⟩ := k0; exact DataW.trod_lt m _ _ _ hm
  obtain ⟨xAA, xAC, xAZ, rfl, hxA⟩ := open_GearPairS (hval 0 50 v0 rfl rfl) h0
  have k1 := h1
  have lt1 : ∀ x ∈ p1, x.block < W.heap.size := by obtain ⟨m, hm⟩ := k1; exact DataW.trod_lt m _ _ _ hm
  obtain ⟨xBA, xBC, xBZ, rfl, hxB⟩ := open_GearPairS (hval 1 50 v1 rfl rfl) h1
  clear hA0 hval0
  refine (law_walk xAA xAC xAZ xBA xBC xBZ W hxA hxB).mono fun e W' ⟨he, bel⟩ => ?_
  subst he
  exact ⟨_, rfl, _, _, _, [], _, [], hW', trodAll_mk1 (shut_bool Try.underlying4 _), (trodAll_cons_mk (Below.trod laid_out (by kernel_rfl) (of_decide_eq_true (by kernel_rfl)) k0 bel lt0) (trodAll_cons_mk (Below.trod laid_out (by kernel_rfl) (of_decide_eq_true (by kernel_rfl)) k1 bel lt1) trodAll_mk0)), rfl, bel.frame _, fun h => by cases h⟩

set_option maxHeartbeats 20000000 in
theorem closed : joinedFacts Try.prog 10 Try.f10 Rows.fnExactJoinTrainsSpec Rows.fnExactJoinTrainsRow = true := by
  simp only [joinedFacts, Bool.and_eq_true]
  refine ⟨⟨⟨⟨⟨⟨⟨⟨⟨⟨⟨⟨⟨⟨⟨⟨⟨⟨⟨⟨⟨⟨⟨⟨⟨⟨⟨⟨⟨⟨⟨?_, laid_out⟩, fact_maps⟩, ?_⟩, ?_⟩, ?_⟩, fact_stops⟩, ?_⟩, fact_knobs⟩, ?_⟩, ?_⟩, ?_⟩, ?_⟩, ?_⟩, ?_⟩, ?_⟩, ?_⟩, ?_⟩, ?_⟩, ?_⟩, ?_⟩, ?_⟩, fact_plain⟩, ?_⟩, fact_heard⟩, fact_enter⟩, fact_lift⟩, ?_⟩, ?_⟩, ?_⟩, ?_⟩, ?_⟩
  all_goals (as_aux_lemma => kernel_rfl)

theorem over : Rows.fnExactJoinTrainsRow.holds Try.pinned (OpenSpec.ofChange Rows.fnExactJoinTrainsSpec) :=
  OpenClaim.holds_of_wide 10 Try.f10 rfl rfl rfl rfl rfl rfl rfl ⟨rfl, rfl, rfl, rfl, rfl⟩ rfl rfl rfl rfl rfl (by as_aux_lemma => kernel_rfl) Try.func10 closed
    (of_decide_eq_true (by as_aux_lemma => kernel_rfl)) (by unfold Func.isWrapper; rw [if_neg (by decide +kernel)]; exact ⟨rfl, rfl⟩)
    (fun os started H enc _ => lifted os started H enc)

/-- The statement. -/
theorem proved : Rows.FnExactJoinTrainsSaid := over
end Go.Proofs.Ytaefgkhbgljkoaa.lawJoinTrains
