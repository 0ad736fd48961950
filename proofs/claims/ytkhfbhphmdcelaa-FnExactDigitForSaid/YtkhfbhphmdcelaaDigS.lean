/-
  spec.DigitFor.
-/
import Derived.Test.YtkhfbhphmdcelaaDrumT
import Derived.Test.YtkhfbhphmdcelaaSameI
namespace Go.Proofs.Ytkhfbhphmdcelaa
open Go.RowKit

theorem tms_eqlenS (K B T F : Int) (n : Nat) : (tms K B T F (n : Int)).length = n := by rw [tms_len]; omega
set_option maxHeartbeats 2000000 in
theorem specDigitFor (K B T F : Int) (a : Option Addr) (c : Nat) (ts : List Int) (w : World) (_ : I64 K ∧ I64 B ∧ I64 T ∧ I64 F) (ha : Rd w a ts) (_ : All64 ts) :
    Calls Try.prog 71 #[.agg #[.int .i64 K, .int .i64 B, .int .i64 T, .int .i64 F], .slice a ts.length c] w fun e w' => e = .returned (.tuple #[.int .i64 (dgR K B T F ts).1, .int .i64 (dgR K B T F ts).2]) ∧ Below w.heap.size w w' := by
  have hx := ha.len
  obtain ⟨u, hu⟩ : ∃ u, u = w.alloc (.cells #[.int .i64 K, .int .i64 B, .int .i64 T, .int .i64 F] 57) := ⟨_, rfl⟩
  have bx : Bx u w.heap.size 57 #[.int .i64 K, .int .i64 B, .int .i64 T, .int .i64 F] := by rw [hu]; exact Bx.new _ _ _
  have hbel : Below w.heap.size w u := by rw [hu]; exact (by repeat (first | exact Below.refl _ _ | refine Below.setCell ?_ (by first | omega | (simp <;> omega)) _ | refine Below.alloc ?_ (by first | omega | (simp <;> omega)) _ | refine Below.drew ?_))
  have HU := Lib.hid hu
  clear hu
  have c0 := bx.at_ 0 rfl
  have c1 := bx.at_ 1 rfl
  have c2 := bx.at_ 2 rfl
  have c3 := bx.at_ 3 rfl
  have hr := ha.below hbel
  clear ha

  have hat := DrumAt.of_box bx
  have HV := Lib.hid (l05Ok_any _ K B T F u hat)
  cases hb : drumB K B T F with
  | false =>
    have HR := Lib.hid (show dgR K B T F ts = (0, 1) by simp [dgR, hb])
    rw [hb] at HV
    clear hb
    go_enter Try.func71, Try.ntmps71
    go_wp2_with fail
    rw [← HU.out]
    refine HV.out.mono ?_
    rintro e w1 ⟨rfl, k, hw⟩
    replace bx : Bx w1 w.heap.size 57 #[.int .i64 K, .int .i64 B, .int .i64 T, .int .i64 F] := by rw [hw]; exact bx.drewN k
    replace hat := DrumAt.of_box bx
    replace hbel : Below w.heap.size w w1 := by rw [hw]; exact bel_drewN hbel k
    replace hr : Rd w1 a ts := by rw [hw]; exact hr.drewN k
    clear c0 c1 c2 c3 hw
    have c0 := bx.at_ 0 rfl
    have c1 := bx.at_ 1 rfl
    have c2 := bx.at_ 2 rfl
    have c3 := bx.at_ 3 rfl
    go_wp2
    go_ret2
    exact ⟨ret_two HR.out, hbel⟩
  | true =>
    have hD := drm_of hb
    have hB2 := hD.b2
    rw [hb] at HV
    by_cases hlt : (ts.length : Int) < B
    · have HT := Lib.hid (fun v (hv : DrumAt v w.heap.size K B T F) => l05Times_any w.heap.size K B T F ts.length v hv hD (by omega) hlt)
      clear hD
      by_cases he : tms K B T F (ts.length : Int) = ts
      · have HR := Lib.hid (show dgR K B T F ts = ((ts.length : Int), 0) by rw [dgR, if_pos hb, if_pos ⟨hlt, he⟩])
        have HE := Lib.hid (show decide (tms K B T F (ts.length : Int) = ts) = true from decide_eq_true he)
        clear hb he
        go_enter Try.func71, Try.ntmps71
        go_wp2_with fail
        rw [← HU.out]
        refine HV.out.mono ?_
        rintro e w1 ⟨rfl, k, hw⟩
        replace bx : Bx w1 w.heap.size 57 #[.int .i64 K, .int .i64 B, .int .i64 T, .int .i64 F] := by rw [hw]; exact bx.drewN k
        replace hat := DrumAt.of_box bx
        replace hbel : Below w.heap.size w w1 := by rw [hw]; exact bel_drewN hbel k
        replace hr : Rd w1 a ts := by rw [hw]; exact hr.drewN k
        clear c0 c1 c2 c3 hw
        have c0 := bx.at_ 0 rfl
        have c1 := bx.at_ 1 rfl
        have c2 := bx.at_ 2 rfl
        have c3 := bx.at_ 3 rfl
        go_wp2_with fail
        refine (HT.out _ hat).mono ?_
        rintro e w2 ⟨A, C, rfl, own, hb2⟩
        replace hr := hr.below hb2
        replace hbel := hbel.trans (hb2.mono hbel.size)
        rw [show ((ts.length : Int)).toNat = ts.length by omega] at own ⊢
        have HQ := l00Same_any A a C c (tms K B T F ts.length) ts w2 own.rd hr
        rw [tms_eqlenS] at HQ
        clear c0 c1 c2 c3 own hb2
        have HQ' := Lib.hid HQ
        clear HQ
        go_wp2_with fail
        refine HQ'.out.mono ?_
        rw [HE.out]
        rintro e w3 ⟨rfl, q, rfl⟩
        go_wp2
        go_ret2
        exact ⟨ret_two HR.out, bel_drewN hbel q⟩
      · have HR := Lib.hid (show dgR K B T F ts = (0, 3) by rw [dgR, if_pos hb, if_neg (fun x => he x.2)])
        have HE := Lib.hid (show decide (tms K B T F (ts.length : Int) = ts) = false from decide_eq_false he)
        clear hb he
        go_enter Try.func71, Try.ntmps71
        go_wp2_with fail
        rw [← HU.out]
        refine HV.out.mono ?_
        rintro e w1 ⟨rfl, k, hw⟩
        replace bx : Bx w1 w.heap.size 57 #[.int .i64 K, .int .i64 B, .int .i64 T, .int .i64 F] := by rw [hw]; exact bx.drewN k
        replace hat := DrumAt.of_box bx
        replace hbel : Below w.heap.size w w1 := by rw [hw]; exact bel_drewN hbel k
        replace hr : Rd w1 a ts := by rw [hw]; exact hr.drewN k
        clear c0 c1 c2 c3 hw
        have c0 := bx.at_ 0 rfl
        have c1 := bx.at_ 1 rfl
        have c2 := bx.at_ 2 rfl
        have c3 := bx.at_ 3 rfl
        go_wp2_with fail
        refine (HT.out _ hat).mono ?_
        rintro e w2 ⟨A, C, rfl, own, hb2⟩
        replace hr := hr.below hb2
        replace hbel := hbel.trans (hb2.mono hbel.size)
        rw [show ((ts.length : Int)).toNat = ts.length by omega] at own ⊢
        have HQ := l00Same_any A a C c (tms K B T F ts.length) ts w2 own.rd hr
        rw [tms_eqlenS] at HQ
        clear c0 c1 c2 c3 own hb2
        have HQ' := Lib.hid HQ
        clear HQ
        go_wp2_with fail
        refine HQ'.out.mono ?_
        rw [HE.out]
        rintro e w3 ⟨rfl, q, rfl⟩
        go_wp2
        go_ret2
        exact ⟨ret_two HR.out, bel_drewN hbel q⟩
    · have HR := Lib.hid (show dgR K B T F ts = (0, 3) by rw [dgR, if_pos hb, if_neg (fun x => hlt x.1)])
      clear hb hD
      go_enter Try.func71, Try.ntmps71
      go_wp2_with fail
      rw [← HU.out]
      refine HV.out.mono ?_
      rintro e w1 ⟨rfl, k, hw⟩
      replace bx : Bx w1 w.heap.size 57 #[.int .i64 K, .int .i64 B, .int .i64 T, .int .i64 F] := by rw [hw]; exact bx.drewN k
      replace hat := DrumAt.of_box bx
      replace hbel : Below w.heap.size w w1 := by rw [hw]; exact bel_drewN hbel k
      replace hr : Rd w1 a ts := by rw [hw]; exact hr.drewN k
      clear c0 c1 c2 c3 hw
      have c0 := bx.at_ 0 rfl
      have c1 := bx.at_ 1 rfl
      have c2 := bx.at_ 2 rfl
      have c3 := bx.at_ 3 rfl
      go_wp2
      go_ret2
      exact ⟨ret_two HR.out, hbel⟩
end Go.Proofs.Ytkhfbhphmdcelaa
