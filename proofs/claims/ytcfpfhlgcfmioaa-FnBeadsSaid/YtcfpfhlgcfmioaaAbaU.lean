/-
  spec.SetAbacus, PlainAbacus, IsPlain.
-/
import Derived.Test.YtcfpfhlgcfmioaaAbaT
namespace Go.Proofs.Ytcfpfhlgcfmioaa
open Go.RowKit


set_option maxHeartbeats 2000000 in
theorem specIsPlain (U L W : Int) (a : Option Addr) (c : Nat) (rs : List (Int × Int)) (w : World) (ha : RdF pairF w a rs) (_ : I64 U) (_ : I64 L) (_ : I64 W) (_ : All2 rs) :
    Calls Try.prog 77 #[.agg #[.int .i64 U, .int .i64 L, .int .i64 W, .slice a rs.length c]] w fun e w' => e = .returned (.bool (plainB U L W rs)) ∧ Below w.heap.size w w' := by
  have hbel : Below w.heap.size w (w.alloc (.cells #[.int .i64 U, .int .i64 L, .int .i64 W, .slice a rs.length c] 26)) := (by repeat (first | exact Below.refl _ _ | refine Below.setCell ?_ (by first | omega | (simp <;> omega)) _ | refine Below.alloc ?_ (by first | omega | (simp <;> omega)) _ | refine Below.drew ?_))
  have at0 : AbaAt (w.alloc (.cells #[.int .i64 U, .int .i64 L, .int .i64 W, .slice a rs.length c] 26)) w.heap.size U L W a rs.length c := .of_box (Bx.new _ _ _)
  replace ha := ha.below hbel
  cases h : abaB U L W rs with
  | false =>
    have HR := Lib.hid (plainB_bad h)
    have HO := Lib.hid (l03Ok_at w.heap.size U L W a c rs _ h at0 ha)
    clear h
    go_enter Try.func77, Try.ntmps77
    go_wp2_with fail
    refine HO.out.mono ?_
    rintro e w1 ⟨rfl, hb1⟩
    go_wp2
    go_ret
    exact ⟨ret_bool HR.out.symm, hbel.trans (hb1.mono hbel.size)⟩
  | true =>
    have HO := Lib.hid (l03Ok_at w.heap.size U L W a c rs _ h at0 ha)
    have HA := Lib.hid (aba_of h)
    have hv : 0 ≤ abaV W rs ∧ abaV W rs ≤ 1000000000000 := by have := HA.out.v; omega
    cases hl : (leftR 10 rs.length (abaV W rs) == 0) with
    | false =>
      have HR := Lib.hid (show plainB U L W rs = false by simp only [beq_eq_false_iff_ne, ne_eq] at hl; simp [plainB, hl])
      have HL := Lib.hid hl
      clear h hl
      go_enter Try.func77, Try.ntmps77
      go_wp2_with fail
      refine HO.out.mono ?_
      rintro e w1 ⟨rfl, hb1⟩
      go_wp2_with fail
      refine (l03Value_any w.heap.size U L W a c rs w1 (at0.below hb1) (ha.below hb1) HA.out).mono ?_
      rintro e w2 ⟨rfl, n, hq⟩
      have hbq : Below w1.heap.size w1 w2 := by rw [hq]; exact bel_drewN (Below.refl _ _) n
      clear hq
      replace hb1 := hb1.trans (hbq.mono hb1.size)
      go_wp2_with fail
      refine (l03Set_any w.heap.size U L W a c rs (abaV W rs) w2 (at0.below hb1) (ha.below hb1) HA.out hv.1 hv.2).mono ?_
      rintro e w3 ⟨A, C, rfl, ow, hb2⟩
      rw [HL.out]
      go_wp2
      go_ret
      exact ⟨ret_bool HR.out.symm, (hbel.trans ((hb1.trans (hb2.mono hb1.size)).mono hbel.size)).alloc (by have := hbel.size; have := hb1.size; have := hb2.size; omega) _⟩
    | true =>
      have HR := Lib.hid (show plainB U L W rs = abaEqB U L W U L W (setP U W rs.length (abaV W rs)) rs by simp only [beq_iff_eq] at hl; simp [plainB, abaEqB, h, hl])
      have HL := Lib.hid hl
      clear h hl
      go_enter Try.func77, Try.ntmps77
      go_wp2_with fail
      refine HO.out.mono ?_
      rintro e w1 ⟨rfl, hb1⟩
      go_wp2_with fail
      refine (l03Value_any w.heap.size U L W a c rs w1 (at0.below hb1) (ha.below hb1) HA.out).mono ?_
      rintro e w2 ⟨rfl, n, hq⟩
      have hbq : Below w1.heap.size w1 w2 := by rw [hq]; exact bel_drewN (Below.refl _ _) n
      clear hq
      replace hb1 := hb1.trans (hbq.mono hb1.size)
      go_wp2_with fail
      refine (l03Set_any w.heap.size U L W a c rs (abaV W rs) w2 (at0.below hb1) (ha.below hb1) HA.out hv.1 hv.2).mono ?_
      rintro e w3 ⟨A, C, rfl, ow, hb2⟩
      rw [HL.out]
      have hb3 := hb1.trans (hb2.mono hb1.size)
      have hb := hbel.trans (hb3.mono hbel.size)
      have hba : Below w3.heap.size w3 (w3.alloc (.cells #[.int .i64 U, .int .i64 L, .int .i64 W, .slice A rs.length C] 26)) := (Below.refl _ _).alloc (Nat.le_refl _) _
      have at1 : AbaAt (w3.alloc (.cells #[.int .i64 U, .int .i64 L, .int .i64 W, .slice A rs.length C] 26)) w3.heap.size U L W A rs.length C := .of_box (Bx.new _ _ _)
      have hsm := l03Same_any w3.heap.size w.heap.size U L W A C (setP U W rs.length (abaV W rs)) U L W a c rs (w3.alloc (.cells #[.int .i64 U, .int .i64 L, .int .i64 W, .slice A rs.length C] 26)) (by rw [setP_len]; exact at1) ((at0.below hb3).below hba) (ow.rd.below hba) ((ha.below hb3).below hba)
      have HSM := Lib.hid hsm
      clear hsm
      go_wp2_with fail
      refine HSM.out.mono ?_
      rintro e w4 ⟨rfl, m, rfl⟩
      go_wp2
      go_ret
      exact ⟨ret_bool HR.out.symm, bel_drewN (hb.alloc (by have := hb.size; omega) _) m⟩
end Go.Proofs.Ytcfpfhlgcfmioaa
