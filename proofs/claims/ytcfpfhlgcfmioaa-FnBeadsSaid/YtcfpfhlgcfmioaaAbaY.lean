/-
  impl: plainRod, isPlainRod, IsPlain; valueCode.
-/
import Derived.Test.YtcfpfhlgcfmioaaAbaI
import Derived.Test.YtcfpfhlgcfmioaaAbaT
import Derived.RegionTactic
import Derived.Lib.SliceRun
namespace Go.Proofs.Ytcfpfhlgcfmioaa
open Go.RowKit Go.Shelf

set_option maxHeartbeats 400000 in
theorem shows_any (r : Int × Int) (W : Int) (w : World) (m0 : 0 ≤ r.1 * W) (m1 : r.1 * W ≤ 40) (r0 : 0 ≤ r.2) (r1 : r.2 ≤ 12) :
    Calls Try.prog 92 #[.agg #[.int .i64 r.1, .int .i64 r.2], .int .i64 W] w fun e w' => e = .returned (.int .i64 (showR W r)) ∧ Below w.heap.size w w' := by
  go_enter Try.func92, Try.ntmps92
  go_wp2
  go_ret
  exact ⟨ret_int rfl, (by repeat (first | exact Below.refl _ _ | refine Below.setCell ?_ (by first | omega | (simp <;> omega)) _ | refine Below.alloc ?_ (by first | omega | (simp <;> omega)) _ | refine Below.drew ?_))⟩

set_option maxHeartbeats 1000000 in
theorem plainRod_any (U L W : Int) (a : Option Addr) (n c : Nat) (d : Int) (w : World) (u0 : 0 ≤ U) (u1 : U ≤ 4) (w0 : 1 ≤ W) (w1 : W ≤ 10) (d0 : 0 ≤ d) (d1 : d ≤ 9) :
    Calls Try.prog 121 #[.agg #[.int .i64 U, .int .i64 L, .int .i64 W, .slice a n c], .int .i64 d] w fun e w' => e = .returned (.agg #[.int .i64 (digP U W d).1, .int .i64 (digP U W d).2]) ∧ Below w.heap.size w w' := by
  have q0 : 0 ≤ d / W := Int.ediv_nonneg d0 (by omega)
  have q1 : d / W ≤ 9 := Int.le_trans (Int.ediv_le_self W d0) d1
  have hb0 : ¬ W = 0 := by omega
  have e1 : d.tdiv W = d / W := Int.tdiv_eq_ediv_of_nonneg d0
  have e2 : IntKind.i64.wrap (d / W) = d / W := IntWalk.i64_in _ (by omega)
  by_cases hm : U ≤ d / W
  · have HD := Lib.hid (show digP U W d = (U, d - U * W) by simp only [digP, Int.min_eq_left hm])
    obtain ⟨mw0, mw1⟩ := mul_bd u0 u1 w0 w1
    go_enter Try.func121, Try.ntmps121
    go_wp2
    go_quiet (fail)
    clear e1 e2
    go_wp2
    have hb9 : Below w.heap.size w ((w.alloc (.cells #[.int .i64 U, .int .i64 L, .int .i64 W, .slice a n c] 26)).alloc (.cells #[.int .i64 0, .int .i64 0] 102)) := (by repeat (first | exact Below.refl _ _ | refine Below.setCell ?_ (by first | omega | (simp <;> omega)) _ | refine Below.alloc ?_ (by first | omega | (simp <;> omega)) _ | refine Below.drew ?_))
    exact bodyPost_ret (v := .agg #[.int .i64 U, .int .i64 (d - U * W)]) (by simp [results, Try.results121, go_sem]) rfl ⟨by rw [HD.out], (by repeat (first | exact bel_drewN hb9 _ | refine Below.setCell ?_ (by first | omega | (simp <;> omega)) _ | refine Below.alloc ?_ (by first | omega | (simp <;> omega)) _ | refine Below.drew ?_))⟩
  · have HD := Lib.hid (show digP U W d = (d / W, d - d / W * W) by simp only [digP, Int.min_eq_right (by omega : d / W ≤ U)])
    obtain ⟨m, hm'⟩ : ∃ m, m = d / W := ⟨_, rfl⟩
    have m0 : 0 ≤ m := by omega
    have m1 : m ≤ 4 := by omega
    obtain ⟨mw0, mw1⟩ := mul_bd m0 m1 w0 w1
    have HM := Lib.hid hm'
    have hmin : d / W = m := hm'.symm
    have hm2 : ¬ U ≤ m := by omega
    clear hm'
    go_enter Try.func121, Try.ntmps121
    go_wp2
    go_quiet (fail)
    try rw [hmin]
    clear e1 e2 hmin
    go_wp2
    have hb9 : Below w.heap.size w ((w.alloc (.cells #[.int .i64 U, .int .i64 L, .int .i64 W, .slice a n c] 26)).alloc (.cells #[.int .i64 0, .int .i64 0] 102)) := (by repeat (first | exact Below.refl _ _ | refine Below.setCell ?_ (by first | omega | (simp <;> omega)) _ | refine Below.alloc ?_ (by first | omega | (simp <;> omega)) _ | refine Below.drew ?_))
    exact bodyPost_ret (v := .agg #[.int .i64 m, .int .i64 (d - m * W)]) (by simp [results, Try.results121, go_sem]) rfl ⟨by rw [HD.out, HM.out], (by repeat (first | exact bel_drewN hb9 _ | refine Below.setCell ?_ (by first | omega | (simp <;> omega)) _ | refine Below.alloc ?_ (by first | omega | (simp <;> omega)) _ | refine Below.drew ?_))⟩

set_option maxHeartbeats 1000000 in
theorem isPlainRod_any (U L W : Int) (a : Option Addr) (n c : Nat) (r : Int × Int) (w : World) (u0 : 0 ≤ U) (u1 : U ≤ 4) (l1 : L ≤ 12) (w0 : 1 ≤ W) (w1 : W ≤ 10) (hr : rodB U L r = true) :
    Calls Try.prog 94 #[.agg #[.int .i64 U, .int .i64 L, .int .i64 W, .slice a n c], .agg #[.int .i64 r.1, .int .i64 r.2]] w fun e w' => e = .returned (.bool (plainRodB U W r)) ∧ Below w.heap.size w w' := by
  obtain ⟨m0, m1, s0, s1⟩ := show_bd u1 l1 w0 w1 hr
  obtain ⟨g1, g2, g3, g4⟩ := rodB_true hr
  have g5 : r.2 ≤ 12 := by omega
  obtain ⟨u, hu⟩ : ∃ u, u = (w.alloc (.cells #[.int .i64 U, .int .i64 L, .int .i64 W, .slice a n c] 26)).alloc (.cells #[.int .i64 r.1, .int .i64 r.2] 102) := ⟨_, rfl⟩
  have hbel : Below w.heap.size w u := by rw [hu]; exact (by repeat (first | exact Below.refl _ _ | refine Below.setCell ?_ (by first | omega | (simp <;> omega)) _ | refine Below.alloc ?_ (by first | omega | (simp <;> omega)) _ | refine Below.drew ?_))
  have bx : Bx u w.heap.size 26 #[.int .i64 U, .int .i64 L, .int .i64 W, .slice a n c] := by rw [hu]; exact (Bx.new _ _ _).alloc _
  have br : Bx u (w.heap.size + 1) 102 #[.int .i64 r.1, .int .i64 r.2] := by rw [hu]; simpa using Bx.new (w.alloc (.cells #[.int .i64 U, .int .i64 L, .int .i64 W, .slice a n c] 26)) #[.int .i64 r.1, .int .i64 r.2] 102
  have HU := Lib.hid hu
  clear hu hr
  by_cases h9 : showR W r ≤ 9
  · have d9 : decide (showR W r ≤ 9) = true := decide_eq_true h9
    have HP := Lib.hid (show plainRodB U W r = decide (r = digP U W (showR W r)) by simp [plainRodB, h9])
    have hcase : (r = digP U W (showR W r)) ∨ (¬ r = digP U W (showR W r)) := Classical.em _
    rcases hcase with he | he
    · have HE := Lib.hid (decide_eq_true he)
      have e1 : (r.1 == (digP U W (showR W r)).1) = true := by rw [← he]; simp
      have e2 : (r.2 == (digP U W (showR W r)).2) = true := by rw [← he]; simp
      clear he
      go_enter Try.func94, Try.ntmps94
      go_wp2_with fail
      rw [← HU.out]
      refine (shows_any r W u m0 m1 g3 g5).mono ?_
      rintro e v ⟨rfl, hb1⟩
      replace bx := bx.below hb1
      replace br := br.below hb1
      have k0 := kept_after (p := ⟨w.heap.size, 0, none⟩) (v := .int .i64 U) (bx.at_ 0 rfl)
      have k1 := kept_after (p := ⟨w.heap.size, 1, none⟩) (v := .int .i64 L) (bx.at_ 1 rfl)
      have k2 := kept_after (p := ⟨w.heap.size, 2, none⟩) (v := .int .i64 W) (bx.at_ 2 rfl)
      have k3 := kept_after (p := ⟨w.heap.size, 3, none⟩) (v := .slice a n c) (bx.at_ 3 rfl)
      have j0 := kept_after (p := ⟨w.heap.size + 1, 0, none⟩) (v := .int .i64 r.1) (br.at_ 0 rfl)
      have j1 := kept_after (p := ⟨w.heap.size + 1, 1, none⟩) (v := .int .i64 r.2) (br.at_ 1 rfl)
      go_wp2
      refine wp_region_after (by kernel_rfl) (by kernel_rfl) ?_
      repeat (go_big_quiet_step ((go_at_call 121; exact calls_after (plainRod_any U L W a n c _ _ u0 u1 w0 w1 s0 h9))))
      refine wpQuiet_nil ?_
      intro u2
      go_wp2
      go_ret
      exact ⟨ret_bool (by rw [HP.out, HE.out]), hbel.trans ((hb1.trans (u2.ok.mono hb1.size)).mono hbel.size)⟩
    · have HE := Lib.hid (decide_eq_false he)
      rcases pair_ne he with h1 | ⟨h1, h2⟩
      · have e1 : (r.1 == (digP U W (showR W r)).1) = false := by simp [h1]
        clear he h1
        go_enter Try.func94, Try.ntmps94
        go_wp2_with fail
        rw [← HU.out]
        refine (shows_any r W u m0 m1 g3 g5).mono ?_
        rintro e v ⟨rfl, hb1⟩
        replace bx := bx.below hb1
        replace br := br.below hb1
        have k0 := kept_after (p := ⟨w.heap.size, 0, none⟩) (v := .int .i64 U) (bx.at_ 0 rfl)
        have k1 := kept_after (p := ⟨w.heap.size, 1, none⟩) (v := .int .i64 L) (bx.at_ 1 rfl)
        have k2 := kept_after (p := ⟨w.heap.size, 2, none⟩) (v := .int .i64 W) (bx.at_ 2 rfl)
        have k3 := kept_after (p := ⟨w.heap.size, 3, none⟩) (v := .slice a n c) (bx.at_ 3 rfl)
        have j0 := kept_after (p := ⟨w.heap.size + 1, 0, none⟩) (v := .int .i64 r.1) (br.at_ 0 rfl)
        have j1 := kept_after (p := ⟨w.heap.size + 1, 1, none⟩) (v := .int .i64 r.2) (br.at_ 1 rfl)
        go_wp2
        refine wp_region_after (by kernel_rfl) (by kernel_rfl) ?_
        repeat (go_big_quiet_step ((go_at_call 121; exact calls_after (plainRod_any U L W a n c _ _ u0 u1 w0 w1 s0 h9))))
        refine wpQuiet_nil ?_
        intro u2
        go_wp2
        go_ret
        exact ⟨ret_bool (by rw [HP.out, HE.out]), hbel.trans ((hb1.trans (u2.ok.mono hb1.size)).mono hbel.size)⟩
      · have e1 : (r.1 == (digP U W (showR W r)).1) = true := by simp [h1]
        have e2 : (r.2 == (digP U W (showR W r)).2) = false := by simp [h2]
        clear he h1 h2
        go_enter Try.func94, Try.ntmps94
        go_wp2_with fail
        rw [← HU.out]
        refine (shows_any r W u m0 m1 g3 g5).mono ?_
        rintro e v ⟨rfl, hb1⟩
        replace bx := bx.below hb1
        replace br := br.below hb1
        have k0 := kept_after (p := ⟨w.heap.size, 0, none⟩) (v := .int .i64 U) (bx.at_ 0 rfl)
        have k1 := kept_after (p := ⟨w.heap.size, 1, none⟩) (v := .int .i64 L) (bx.at_ 1 rfl)
        have k2 := kept_after (p := ⟨w.heap.size, 2, none⟩) (v := .int .i64 W) (bx.at_ 2 rfl)
        have k3 := kept_after (p := ⟨w.heap.size, 3, none⟩) (v := .slice a n c) (bx.at_ 3 rfl)
        have j0 := kept_after (p := ⟨w.heap.size + 1, 0, none⟩) (v := .int .i64 r.1) (br.at_ 0 rfl)
        have j1 := kept_after (p := ⟨w.heap.size + 1, 1, none⟩) (v := .int .i64 r.2) (br.at_ 1 rfl)
        go_wp2
        refine wp_region_after (by kernel_rfl) (by kernel_rfl) ?_
        repeat (go_big_quiet_step ((go_at_call 121; exact calls_after (plainRod_any U L W a n c _ _ u0 u1 w0 w1 s0 h9))))
        refine wpQuiet_nil ?_
        intro u2
        go_wp2
        go_ret
        exact ⟨ret_bool (by rw [HP.out, HE.out]), hbel.trans ((hb1.trans (u2.ok.mono hb1.size)).mono hbel.size)⟩
  · have d9 : decide (showR W r ≤ 9) = false := decide_eq_false h9
    have HP := Lib.hid (show plainRodB U W r = false by simp only [plainRodB, d9, Bool.false_and])
    clear h9
    go_enter Try.func94, Try.ntmps94
    go_wp2_with fail
    rw [← HU.out]
    refine (shows_any r W u m0 m1 g3 g5).mono ?_
    rintro e v ⟨rfl, hb1⟩
    go_wp2
    refine wp_region_after (by kernel_rfl) (by kernel_rfl) ?_
    repeat (go_big_quiet_step (fail))
    refine wpQuiet_nil ?_
    intro u2
    go_wp2
    go_ret
    exact ⟨ret_bool HP.out.symm, hbel.trans ((hb1.trans (u2.ok.mono hb1.size)).mono hbel.size)⟩

set_option maxHeartbeats 1000000 in
theorem implIsPlain (U L W : Int) (a : Option Addr) (c : Nat) (rs : List (Int × Int)) (w : World) (ha : RdF pairF w a rs) (bU : I64 U) (bL : I64 L) (bW : I64 W) (z : All2 rs) :
    Calls Try.prog 30 #[.agg #[.int .i64 U, .int .i64 L, .int .i64 W, .slice a rs.length c]] w fun e w' => e = .returned (.bool (plainB U L W rs)) ∧ Below w.heap.size w w' := by
  have hbel : Below w.heap.size w (w.alloc (.cells #[.int .i64 U, .int .i64 L, .int .i64 W, .slice a rs.length c] 26)) := (by repeat (first | exact Below.refl _ _ | refine Below.setCell ?_ (by first | omega | (simp <;> omega)) _ | refine Below.alloc ?_ (by first | omega | (simp <;> omega)) _ | refine Below.drew ?_))
  have HV := Lib.hid (implValidAbacus U L W a c rs _ (ha.below hbel) bU bL bW z)
  cases h : abaB U L W rs with
  | false =>
    have HR := Lib.hid (plainB_bad h)
    rw [h] at HV
    clear h
    go_enter Try.func30, Try.ntmps30
    go_wp2_with fail
    refine HV.out.mono ?_
    rintro e w1 ⟨rfl, hb1⟩
    go_wp2
    go_ret
    exact ⟨ret_bool HR.out.symm, hbel.trans (hb1.mono hbel.size)⟩
  | true =>
    have HR := Lib.hid (plainB_of h)
    have HA := Lib.hid (aba_of h)
    rw [h] at HV
    clear h
    go_enter Try.func30, Try.ntmps30
    go_wp2_with fail
    refine HV.out.mono ?_
    rintro e w1 ⟨rfl, hb1⟩
    obtain ⟨hc, hf⟩ := bcell hb1
    have hz : w.heap.size < w1.heap.size := by have := hb1.size; simp at this; omega
    have hbel1 := hbel.trans (hb1.mono hbel.size)
    go_wp2_with fail
    refine (everyRod_any 94 _ (plainRodB U W) a c rs w1 (ha.below hbel1) (enters_of Try.func94 (by kernel_rfl) rfl) (fun r w' hr _ => isPlainRod_any U L W a rs.length c r w' HA.out.u0 HA.out.u1 HA.out.l1 HA.out.w0 HA.out.w1 (rodsB_true HA.out.rods r hr))).mono ?_
    rintro e w2 ⟨rfl, hb2⟩
    go_wp2
    go_ret
    exact ⟨ret_bool (by rw [HR.out, Bool.eq_iff_iff, List.all_eq_true, decide_eq_true_eq]), hbel1.trans (hb2.mono hbel1.size)⟩

/-- The error of an abacus and a value. -/
def vcC (U L W : Int) (rs : List (Int × Int)) (v : Int) : Int := if abaB U L W rs = true then (if 0 ≤ v ∧ v ≤ 1000000000000 then 0 else 2) else 1
set_option maxHeartbeats 1000000 in
theorem valueCode_any (U L W : Int) (a : Option Addr) (c : Nat) (rs : List (Int × Int)) (v : Int) (w : World) (ha : RdF pairF w a rs) (bU : I64 U) (bL : I64 L) (bW : I64 W) (z : All2 rs) :
    Calls Try.prog 69 #[.agg #[.int .i64 U, .int .i64 L, .int .i64 W, .slice a rs.length c], .int .i64 v] w fun e w' => e = .returned (.int .i64 (vcC U L W rs v)) ∧ Below w.heap.size w w' := by
  have hbel : Below w.heap.size w (w.alloc (.cells #[.int .i64 U, .int .i64 L, .int .i64 W, .slice a rs.length c] 26)) := (by repeat (first | exact Below.refl _ _ | refine Below.setCell ?_ (by first | omega | (simp <;> omega)) _ | refine Below.alloc ?_ (by first | omega | (simp <;> omega)) _ | refine Below.drew ?_))
  have HV := Lib.hid (implValidAbacus U L W a c rs _ (ha.below hbel) bU bL bW z)
  cases h : abaB U L W rs with
  | false =>
    have HR := Lib.hid (show vcC U L W rs v = 1 by simp [vcC, h])
    rw [h] at HV
    clear h
    go_enter Try.func69, Try.ntmps69
    go_wp2_with fail
    refine HV.out.mono ?_
    rintro e w1 ⟨rfl, hb1⟩
    go_wp2
    go_ret
    exact ⟨ret_int HR.out.symm, hbel.trans (hb1.mono hbel.size)⟩
  | true =>
    rw [h] at HV
    by_cases hv : 0 ≤ v ∧ v ≤ 1000000000000
    · have HR := Lib.hid (show vcC U L W rs v = 0 by rw [vcC, if_pos h, if_pos hv])
      obtain ⟨v0, v1⟩ := hv
      clear h
      go_enter Try.func69, Try.ntmps69
      go_wp2_with fail
      refine HV.out.mono ?_
      rintro e w1 ⟨rfl, hb1⟩
      go_wp2
      go_ret
      exact ⟨ret_int HR.out.symm, hbel.trans (hb1.mono hbel.size)⟩
    · have HR := Lib.hid (show vcC U L W rs v = 2 by rw [vcC, if_pos h, if_neg hv])
      have hv' : v < 0 ∨ (0 ≤ v ∧ 1000000000000 < v) := by omega
      clear h hv
      rcases hv' with h1 | ⟨h1, h2⟩
      all_goals
        go_enter Try.func69, Try.ntmps69
        go_wp2_with fail
        refine HV.out.mono ?_
        rintro e w1 ⟨rfl, hb1⟩
        go_wp2
        go_ret
        exact ⟨ret_int HR.out.symm, hbel.trans (hb1.mono hbel.size)⟩

set_option maxHeartbeats 400000 in
theorem withRods_any (U L W : Int) (a : Option Addr) (n c : Nat) (A : Option Addr) (m C : Nat) (w : World) :
    Calls Try.prog 70 #[.agg #[.int .i64 U, .int .i64 L, .int .i64 W, .slice a n c], .slice A m C] w fun e w' => e = .returned (.agg #[.int .i64 U, .int .i64 L, .int .i64 W, .slice A m C]) ∧ Below w.heap.size w w' := by
  go_enter Try.func70, Try.ntmps70
  go_wp2
  exact bodyPost_ret (v := .agg #[.int .i64 U, .int .i64 L, .int .i64 W, .slice A m C]) (by simp [results, Try.results70, go_sem]) rfl ⟨rfl, (by repeat (first | exact Below.refl _ _ | refine Below.setCell ?_ (by first | omega | (simp <;> omega)) _ | refine Below.alloc ?_ (by first | omega | (simp <;> omega)) _ | refine Below.drew ?_))⟩

set_option maxHeartbeats 1000000 in
theorem cloneRods_any (a : Option Addr) (c : Nat) (rs : List (Int × Int)) (w : World) (ha : RdF pairF w a rs) (hne : 0 < rs.length) :
    Calls Try.prog 71 #[.slice a rs.length c] w fun e w' => ∃ A C, e = .returned (.slice A rs.length C) ∧ OwnF pairF 102 w' w.heap.size w'.heap.size (.slice A rs.length C) rs ∧ Below w.heap.size w w' := by
  have hx := ha.len
  obtain ⟨b, off, rfl, _⟩ := ha.cells (by rintro rfl; simp at hne)
  have hbel : Below w.heap.size w (w.alloc (.cells #[] 102)) := (Below.refl _ _).alloc (Nat.le_refl _) _
  have hrow : Row 102 2 (w.alloc (.cells #[] 102)) w.heap.size (w.heap.size + 1) (.slice (some ⟨w.heap.size, 0, none⟩) 0 0) 0 [] := by
    simpa using row_new 102 2 w #[] 0 (by simp) (by omega)
  have HN := Lib.hid (ha.below hbel).news
  have hnl := fun (w : World) => Lib.run_eql_slice_nil (P := Try.prog) w 24 102 (some ⟨b, off, none⟩) rs.length c 0 0 Try.underlying24
  go_enter Try.func71, Try.ntmps71
  go_wp2_with (at_builtin; refine wpList_appR rfl (.tmp 5) (.tmp 6) 24 102 rfl (.agg #[.int .i64 0, .int .i64 0]) 2 16 Try.underlying24 info_Rod rfl (by omega) (by omega) rfl hrow ⟨b, off, none⟩ rs.length c (flat pairF rs) rfl (flat_len rs) HN.out flat_mem (by omega) (by simp) ?_; intro A' C' w1 hrow1 ht)
  go_ret
  refine ⟨A', C', by simp, ⟨show Row 102 2 w1 w.heap.size w1.heap.size (.slice A' rs.length C') rs.length (flat pairF rs) by simpa using hrow1, hx⟩, hbel.trans (ht.below (Nat.le_refl _) (by simp))⟩
end Go.Proofs.Ytcfpfhlgcfmioaa
