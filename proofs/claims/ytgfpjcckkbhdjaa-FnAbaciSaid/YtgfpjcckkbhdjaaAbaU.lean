/-
  spec.SetAbacus, PlainAbacus, IsPlain.
-/
import Derived.Test.YtgfpjcckkbhdjaaAbaT
namespace Go.Proofs.Ytgfpjcckkbhdjaa
open Go.RowKit


set_option maxHeartbeats 2000000 in
theorem specSetAbacus (U L W : Int) (a : Option Addr) (c : Nat) (rs : List (Int × Int)) (v : Int) (w : World) (ha : RdF pairF w a rs) (_ : I64 U) (_ : I64 L) (_ : I64 W) (_ : All2 rs) (_ : I64 v) :
    Calls Try.prog 36 #[.agg #[.int .i64 U, .int .i64 L, .int .i64 W, .slice a rs.length c], .int .i64 v] w (AbaC (setR U L W rs v) w) := by
  obtain ⟨u, hu⟩ : ∃ u, u = (w.alloc (.cells #[.int .i64 U, .int .i64 L, .int .i64 W, .slice a rs.length c] 56)).alloc (.cells #[.int .i64 0, .int .i64 0, .int .i64 0, .slice none 0 0] 56) := ⟨_, rfl⟩
  have hbel : Below w.heap.size w u := by rw [hu]; exact (by repeat (first | exact Below.refl _ _ | refine Below.setCell ?_ (by first | omega | (simp <;> omega)) _ | refine Below.alloc ?_ (by first | omega | (simp <;> omega)) _ | refine Below.drew ?_))
  have at0 : AbaAt u w.heap.size U L W a rs.length c := by rw [hu]; exact .of_box ((Bx.new _ _ _).alloc _)
  have bx : Bx u (w.heap.size + 1) 56 #[.int .i64 0, .int .i64 0, .int .i64 0, .slice none 0 0] := by rw [hu]; simpa using Bx.new (w.alloc (.cells #[.int .i64 U, .int .i64 L, .int .i64 W, .slice a rs.length c] 56)) #[.int .i64 0, .int .i64 0, .int .i64 0, .slice none 0 0] 56
  replace ha := ha.below hbel
  have HU := Lib.hid hu
  clear hu
  cases h : abaB U L W rs with
  | false =>
    have HR := Lib.hid (setR_bad (v := v) h)
    have HO := Lib.hid (l03Ok_at w.heap.size U L W a c rs u h at0 ha)
    clear h
    go_enter Try.func36, Try.ntmps36
    go_wp2_with fail
    rw [← HU.out]
    refine HO.out.mono ?_
    rintro e w1 ⟨rfl, hb1⟩
    replace bx := bx.below hb1
    have r0 := bx.at_ 0 rfl
    have r1 := bx.at_ 1 rfl
    have r2 := bx.at_ 2 rfl
    have r3 := bx.at_ 3 rfl
    have f0 := bx.thaw 0
    have f1 := bx.thaw 1
    have f2 := bx.thaw 2
    have f3 := bx.thaw 3
    have hb := hbel.trans (hb1.mono hbel.size)
    go_wp2
    exact bodyPost_ret (v := .tuple #[.agg #[.int .i64 0, .int .i64 0, .int .i64 0, .slice none 0 0], .int .i64 1]) (by simp [results, Try.results36, go_sem, r0, r1, r2, r3]) rfl
      (abaC_err HR.out rfl (by repeat (first | exact hb | refine Below.setCell ?_ (by first | omega | (simp <;> omega)) _ | refine Below.alloc ?_ (by first | omega | (simp <;> omega)) _ | refine Below.drew ?_)))
  | true =>
    have HO := Lib.hid (l03Ok_at w.heap.size U L W a c rs u h at0 ha)
    by_cases hv : 0 ≤ v ∧ v ≤ 1000000000000
    · have iv := inB_yes hv.1 hv.2
      have HA := Lib.hid (aba_of h)
      cases hl : (leftR 10 rs.length v == 0) with
      | true =>
        have HR := Lib.hid (setR_ok h hv (by simpa using hl))
        have HL := Lib.hid hl
        clear h hl
        go_enter Try.func36, Try.ntmps36
        go_wp2_with fail
        rw [← HU.out]
        refine HO.out.mono ?_
        rintro e w1 ⟨rfl, hb1⟩
        go_wp2_with fail
        refine (l00In_any _ _ _ _).mono ?_
        rintro e w2 ⟨rfl, hq⟩
        subst w2
        go_wp2_with fail
        refine (l03Set_any w.heap.size U L W a c rs v w1 (at0.below hb1) (ha.below hb1) HA.out hv.1 hv.2).mono ?_
        rintro e w2 ⟨A, C, rfl, ow, hb2⟩
        rw [HL.out]
        have hb := hbel.trans ((hb1.trans (hb2.mono hb1.size)).mono hbel.size)
        replace bx := (bx.below hb1).below hb2
        have r0 := bx.at_ 0 rfl
        have r1 := bx.at_ 1 rfl
        have r2 := bx.at_ 2 rfl
        have r3 := bx.at_ 3 rfl
        have f0 := bx.thaw 0
        have f1 := bx.thaw 1
        have f2 := bx.thaw 2
        have f3 := bx.thaw 3
        have hz := bx.lt
        have hz1 := hb1.size
        have hzu : w.heap.size + 1 < u.heap.size := by rw [HU.out]; simp
        go_wp2
        exact bodyPost_ret (v := .tuple #[.agg #[.int .i64 U, .int .i64 L, .int .i64 W, .slice A rs.length C], .int .i64 0]) (by simp [results, Try.results36, go_sem, r0, r1, r2, r3, hz]) rfl
          (abaC_ok HR.out (setP_len _ _ _ _) rfl (lo := w1.heap.size) (hi := w2.heap.size) (by repeat (first | exact ow | refine OwnF.alloc ?_ _ | refine OwnF.setCell ?_ (.inl (by simp <;> omega)) _ | refine OwnF.drew ?_)) (by omega) (by simp) (by repeat (first | exact hb | refine Below.setCell ?_ (by first | omega | (simp <;> omega)) _ | refine Below.alloc ?_ (by first | omega | (simp <;> omega)) _ | refine Below.drew ?_)))
      | false =>
        have HR := Lib.hid (setR_full h hv (by simpa using hl))
        have HL := Lib.hid hl
        clear h hl
        go_enter Try.func36, Try.ntmps36
        go_wp2_with fail
        rw [← HU.out]
        refine HO.out.mono ?_
        rintro e w1 ⟨rfl, hb1⟩
        go_wp2_with fail
        refine (l00In_any _ _ _ _).mono ?_
        rintro e w2 ⟨rfl, hq⟩
        subst w2
        go_wp2_with fail
        refine (l03Set_any w.heap.size U L W a c rs v w1 (at0.below hb1) (ha.below hb1) HA.out hv.1 hv.2).mono ?_
        rintro e w2 ⟨A, C, rfl, ow, hb2⟩
        rw [HL.out]
        have hb := hbel.trans ((hb1.trans (hb2.mono hb1.size)).mono hbel.size)
        replace bx := (bx.below hb1).below hb2
        have r0 := bx.at_ 0 rfl
        have r1 := bx.at_ 1 rfl
        have r2 := bx.at_ 2 rfl
        have r3 := bx.at_ 3 rfl
        have f0 := bx.thaw 0
        have f1 := bx.thaw 1
        have f2 := bx.thaw 2
        have f3 := bx.thaw 3
        have hz := bx.lt
        go_wp2
        exact bodyPost_ret (v := .tuple #[.agg #[.int .i64 0, .int .i64 0, .int .i64 0, .slice none 0 0], .int .i64 5]) (by simp [results, Try.results36, go_sem, r0, r1, r2, r3, hz]) rfl
          (abaC_err HR.out rfl (by repeat (first | exact hb | refine Below.setCell ?_ (by first | omega | (simp <;> omega)) _ | refine Below.alloc ?_ (by first | omega | (simp <;> omega)) _ | refine Below.drew ?_)))
    · have iv : inB v 0 1000000000000 = false := inB_no (by omega)
      have HR := Lib.hid (setR_range h hv)
      clear h hv
      go_enter Try.func36, Try.ntmps36
      go_wp2_with fail
      rw [← HU.out]
      refine HO.out.mono ?_
      rintro e w1 ⟨rfl, hb1⟩
      go_wp2_with fail
      refine (l00In_any _ _ _ _).mono ?_
      rintro e w2 ⟨rfl, hq⟩
      subst w2
      replace bx := bx.below hb1
      have r0 := bx.at_ 0 rfl
      have r1 := bx.at_ 1 rfl
      have r2 := bx.at_ 2 rfl
      have r3 := bx.at_ 3 rfl
      have f0 := bx.thaw 0
      have f1 := bx.thaw 1
      have f2 := bx.thaw 2
      have f3 := bx.thaw 3
      have hb := hbel.trans (hb1.mono hbel.size)
      go_wp2
      exact bodyPost_ret (v := .tuple #[.agg #[.int .i64 0, .int .i64 0, .int .i64 0, .slice none 0 0], .int .i64 2]) (by simp [results, Try.results36, go_sem, r0, r1, r2, r3]) rfl
        (abaC_err HR.out rfl (by repeat (first | exact hb | refine Below.setCell ?_ (by first | omega | (simp <;> omega)) _ | refine Below.alloc ?_ (by first | omega | (simp <;> omega)) _ | refine Below.drew ?_)))

set_option maxHeartbeats 2000000 in
theorem specPlainAbacus (U L W : Int) (a : Option Addr) (c : Nat) (rs : List (Int × Int)) (w : World) (ha : RdF pairF w a rs) (_ : I64 U) (_ : I64 L) (_ : I64 W) (_ : All2 rs) :
    Calls Try.prog 39 #[.agg #[.int .i64 U, .int .i64 L, .int .i64 W, .slice a rs.length c]] w (AbaC (plnR U L W rs) w) := by
  obtain ⟨u, hu⟩ : ∃ u, u = (w.alloc (.cells #[.int .i64 U, .int .i64 L, .int .i64 W, .slice a rs.length c] 56)).alloc (.cells #[.int .i64 0, .int .i64 0, .int .i64 0, .slice none 0 0] 56) := ⟨_, rfl⟩
  have hbel : Below w.heap.size w u := by rw [hu]; exact (by repeat (first | exact Below.refl _ _ | refine Below.setCell ?_ (by first | omega | (simp <;> omega)) _ | refine Below.alloc ?_ (by first | omega | (simp <;> omega)) _ | refine Below.drew ?_))
  have at0 : AbaAt u w.heap.size U L W a rs.length c := by rw [hu]; exact .of_box ((Bx.new _ _ _).alloc _)
  have bx : Bx u (w.heap.size + 1) 56 #[.int .i64 0, .int .i64 0, .int .i64 0, .slice none 0 0] := by rw [hu]; simpa using Bx.new (w.alloc (.cells #[.int .i64 U, .int .i64 L, .int .i64 W, .slice a rs.length c] 56)) #[.int .i64 0, .int .i64 0, .int .i64 0, .slice none 0 0] 56
  replace ha := ha.below hbel
  have HU := Lib.hid hu
  clear hu
  cases h : abaB U L W rs with
  | false =>
    have HR := Lib.hid (show plnR U L W rs = (0, 0, 0, [], 1) from setR_bad h)
    have HO := Lib.hid (l03Ok_at w.heap.size U L W a c rs u h at0 ha)
    clear h
    go_enter Try.func39, Try.ntmps39
    go_wp2_with fail
    rw [← HU.out]
    refine HO.out.mono ?_
    rintro e w1 ⟨rfl, hb1⟩
    replace bx := bx.below hb1
    have r0 := bx.at_ 0 rfl
    have r1 := bx.at_ 1 rfl
    have r2 := bx.at_ 2 rfl
    have r3 := bx.at_ 3 rfl
    have f0 := bx.thaw 0
    have f1 := bx.thaw 1
    have f2 := bx.thaw 2
    have f3 := bx.thaw 3
    have hb := hbel.trans (hb1.mono hbel.size)
    go_wp2
    exact bodyPost_ret (v := .tuple #[.agg #[.int .i64 0, .int .i64 0, .int .i64 0, .slice none 0 0], .int .i64 1]) (by simp [results, Try.results39, go_sem, r0, r1, r2, r3]) rfl
      (abaC_err HR.out rfl (by repeat (first | exact hb | refine Below.setCell ?_ (by first | omega | (simp <;> omega)) _ | refine Below.alloc ?_ (by first | omega | (simp <;> omega)) _ | refine Below.drew ?_)))
  | true =>
    have HO := Lib.hid (l03Ok_at w.heap.size U L W a c rs u h at0 ha)
    have HA := Lib.hid (aba_of h)
    have hv : 0 ≤ abaV W rs ∧ abaV W rs ≤ 1000000000000 := by have := HA.out.v; omega
    cases hl : (leftR 10 rs.length (abaV W rs) == 0) with
    | true =>
      have HR := Lib.hid (show plnR U L W rs = _ from setR_ok h hv (by simpa using hl))
      have HL := Lib.hid hl
      clear h hl
      go_enter Try.func39, Try.ntmps39
      go_wp2_with fail
      rw [← HU.out]
      refine HO.out.mono ?_
      rintro e w1 ⟨rfl, hb1⟩
      go_wp2_with fail
      refine (l03Value_any w.heap.size U L W a c rs w1 (at0.below hb1) (ha.below hb1) HA.out).mono ?_
      rintro e w2 ⟨rfl, n, hq⟩
      have hbq : Below w1.heap.size w1 w2 := by rw [hq]; exact bel_drewN (Below.refl _ _) n
      clear hq
      replace hb1 := hb1.trans (hbq.mono hb1.size)
      go_wp2_with fail
      refine (l03Set_any w.heap.size U L W a c rs (abaV W rs) w2 (at0.below hb1) (ha.below hb1) HA.out hv.1 hv.2).mono ?_
      rintro e w3 ⟨A, C, rfl, ow, hb2⟩
      rw [HL.out]
      have hb := hbel.trans ((hb1.trans (hb2.mono hb1.size)).mono hbel.size)
      replace bx := (bx.below hb1).below hb2
      have r0 := bx.at_ 0 rfl
      have r1 := bx.at_ 1 rfl
      have r2 := bx.at_ 2 rfl
      have r3 := bx.at_ 3 rfl
      have f0 := bx.thaw 0
      have f1 := bx.thaw 1
      have f2 := bx.thaw 2
      have f3 := bx.thaw 3
      have hz := bx.lt
      have hz1 := hb1.size
      have hzu : w.heap.size + 1 < u.heap.size := by rw [HU.out]; simp
      go_wp2
      exact bodyPost_ret (v := .tuple #[.agg #[.int .i64 U, .int .i64 L, .int .i64 W, .slice A rs.length C], .int .i64 0]) (by simp [results, Try.results39, go_sem, r0, r1, r2, r3, hz]) rfl
        (abaC_ok HR.out (setP_len _ _ _ _) rfl (lo := w2.heap.size) (hi := w3.heap.size) (by repeat (first | exact ow | refine OwnF.alloc ?_ _ | refine OwnF.setCell ?_ (.inl (by simp <;> omega)) _ | refine OwnF.drew ?_)) (by omega) (by simp) (by repeat (first | exact hb | refine Below.setCell ?_ (by first | omega | (simp <;> omega)) _ | refine Below.alloc ?_ (by first | omega | (simp <;> omega)) _ | refine Below.drew ?_)))
    | false =>
      have HR := Lib.hid (show plnR U L W rs = _ from setR_full h hv (by simpa using hl))
      have HL := Lib.hid hl
      clear h hl
      go_enter Try.func39, Try.ntmps39
      go_wp2_with fail
      rw [← HU.out]
      refine HO.out.mono ?_
      rintro e w1 ⟨rfl, hb1⟩
      go_wp2_with fail
      refine (l03Value_any w.heap.size U L W a c rs w1 (at0.below hb1) (ha.below hb1) HA.out).mono ?_
      rintro e w2 ⟨rfl, n, hq⟩
      have hbq : Below w1.heap.size w1 w2 := by rw [hq]; exact bel_drewN (Below.refl _ _) n
      clear hq
      replace hb1 := hb1.trans (hbq.mono hb1.size)
      go_wp2_with fail
      refine (l03Set_any w.heap.size U L W a c rs (abaV W rs) w2 (at0.below hb1) (ha.below hb1) HA.out hv.1 hv.2).mono ?_
      rintro e w3 ⟨A, C, rfl, ow, hb2⟩
      rw [HL.out]
      have hb := hbel.trans ((hb1.trans (hb2.mono hb1.size)).mono hbel.size)
      replace bx := (bx.below hb1).below hb2
      have r0 := bx.at_ 0 rfl
      have r1 := bx.at_ 1 rfl
      have r2 := bx.at_ 2 rfl
      have r3 := bx.at_ 3 rfl
      have f0 := bx.thaw 0
      have f1 := bx.thaw 1
      have f2 := bx.thaw 2
      have f3 := bx.thaw 3
      have hz := bx.lt
      go_wp2
      exact bodyPost_ret (v := .tuple #[.agg #[.int .i64 0, .int .i64 0, .int .i64 0, .slice none 0 0], .int .i64 5]) (by simp [results, Try.results39, go_sem, r0, r1, r2, r3, hz]) rfl
        (abaC_err HR.out rfl (by repeat (first | exact hb | refine Below.setCell ?_ (by first | omega | (simp <;> omega)) _ | refine Below.alloc ?_ (by first | omega | (simp <;> omega)) _ | refine Below.drew ?_)))

set_option maxHeartbeats 2000000 in
theorem specIsPlain (U L W : Int) (a : Option Addr) (c : Nat) (rs : List (Int × Int)) (w : World) (ha : RdF pairF w a rs) (_ : I64 U) (_ : I64 L) (_ : I64 W) (_ : All2 rs) :
    Calls Try.prog 53 #[.agg #[.int .i64 U, .int .i64 L, .int .i64 W, .slice a rs.length c]] w fun e w' => e = .returned (.bool (plainB U L W rs)) ∧ Below w.heap.size w w' := by
  have hbel : Below w.heap.size w (w.alloc (.cells #[.int .i64 U, .int .i64 L, .int .i64 W, .slice a rs.length c] 56)) := (by repeat (first | exact Below.refl _ _ | refine Below.setCell ?_ (by first | omega | (simp <;> omega)) _ | refine Below.alloc ?_ (by first | omega | (simp <;> omega)) _ | refine Below.drew ?_))
  have at0 : AbaAt (w.alloc (.cells #[.int .i64 U, .int .i64 L, .int .i64 W, .slice a rs.length c] 56)) w.heap.size U L W a rs.length c := .of_box (Bx.new _ _ _)
  replace ha := ha.below hbel
  cases h : abaB U L W rs with
  | false =>
    have HR := Lib.hid (plainB_bad h)
    have HO := Lib.hid (l03Ok_at w.heap.size U L W a c rs _ h at0 ha)
    clear h
    go_enter Try.func53, Try.ntmps53
    go_wp2_with fail
    refine HO.out.mono ?_
    rintro e w1 ⟨rfl, hb1⟩
    go_wp2
    go_ret
    exact ⟨ret_bool HR.out.symm, hbel.trans (hb1.mono hbel.size)⟩
  | true =>
    have HO := Lib.hid (l03Ok_at w.heap.size U L W a c rs _ h at0 ha)
    have HA := Lib.hid (aba_of h)
    have hv : 0 ≤ abaV W rs ∧ abaV W rs ≤ 1000000000000 := by have := HA.out.v; omega
    cases hl : (leftR 10 rs.length (abaV W rs) == 0) with
    | false =>
      have HR := Lib.hid (show plainB U L W rs = false by simp only [beq_eq_false_iff_ne, ne_eq] at hl; simp [plainB, hl])
      have HL := Lib.hid hl
      clear h hl
      go_enter Try.func53, Try.ntmps53
      go_wp2_with fail
      refine HO.out.mono ?_
      rintro e w1 ⟨rfl, hb1⟩
      go_wp2_with fail
      refine (l03Value_any w.heap.size U L W a c rs w1 (at0.below hb1) (ha.below hb1) HA.out).mono ?_
      rintro e w2 ⟨rfl, n, hq⟩
      have hbq : Below w1.heap.size w1 w2 := by rw [hq]; exact bel_drewN (Below.refl _ _) n
      clear hq
      replace hb1 := hb1.trans (hbq.mono hb1.size)
      go_wp2_with fail
      refine (l03Set_any w.heap.size U L W a c rs (abaV W rs) w2 (at0.below hb1) (ha.below hb1) HA.out hv.1 hv.2).mono ?_
      rintro e w3 ⟨A, C, rfl, ow, hb2⟩
      rw [HL.out]
      go_wp2
      go_ret
      exact ⟨ret_bool HR.out.symm, (hbel.trans ((hb1.trans (hb2.mono hb1.size)).mono hbel.size)).alloc (by have := hbel.size; have := hb1.size; have := hb2.size; omega) _⟩
    | true =>
      have HR := Lib.hid (show plainB U L W rs = abaEqB U L W U L W (setP U W rs.length (abaV W rs)) rs by simp only [beq_iff_eq] at hl; simp [plainB, abaEqB, h, hl])
      have HL := Lib.hid hl
      clear h hl
      go_enter Try.func53, Try.ntmps53
      go_wp2_with fail
      refine HO.out.mono ?_
      rintro e w1 ⟨rfl, hb1⟩
      go_wp2_with fail
      refine (l03Value_any w.heap.size U L W a c rs w1 (at0.below hb1) (ha.below hb1) HA.out).mono ?_
      rintro e w2 ⟨rfl, n, hq⟩
      have hbq : Below w1.heap.size w1 w2 := by rw [hq]; exact bel_drewN (Below.refl _ _) n
      clear hq
      replace hb1 := hb1.trans (hbq.mono hb1.size)
      go_wp2_with fail
      refine (l03Set_any w.heap.size U L W a c rs (abaV W rs) w2 (at0.below hb1) (ha.below hb1) HA.out hv.1 hv.2).mono ?_
      rintro e w3 ⟨A, C, rfl, ow, hb2⟩
      rw [HL.out]
      have hb3 := hb1.trans (hb2.mono hb1.size)
      have hb := hbel.trans (hb3.mono hbel.size)
      have hba : Below w3.heap.size w3 (w3.alloc (.cells #[.int .i64 U, .int .i64 L, .int .i64 W, .slice A rs.length C] 56)) := (Below.refl _ _).alloc (Nat.le_refl _) _
      have at1 : AbaAt (w3.alloc (.cells #[.int .i64 U, .int .i64 L, .int .i64 W, .slice A rs.length C] 56)) w3.heap.size U L W A rs.length C := .of_box (Bx.new _ _ _)
      have hsm := l03Same_any w3.heap.size w.heap.size U L W A C (setP U W rs.length (abaV W rs)) U L W a c rs (w3.alloc (.cells #[.int .i64 U, .int .i64 L, .int .i64 W, .slice A rs.length C] 56)) (by rw [setP_len]; exact at1) ((at0.below hb3).below hba) (ow.rd.below hba) ((ha.below hb3).below hba)
      have HSM := Lib.hid hsm
      clear hsm
      go_wp2_with fail
      refine HSM.out.mono ?_
      rintro e w4 ⟨rfl, m, rfl⟩
      go_wp2
      go_ret
      exact ⟨ret_bool HR.out.symm, bel_drewN (hb.alloc (by have := hb.size; omega) _) m⟩
end Go.Proofs.Ytgfpjcckkbhdjaa
