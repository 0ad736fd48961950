/-
  impl.DigitFor.
-/
import Derived.Test.YtkhfbhphmdcelaaDrumK
import Derived.Test.YtkhfbhphmdcelaaSliEq
import Derived.Test.YtkhfbhphmdcelaaPairS
namespace Go.Proofs.Ytkhfbhphmdcelaa
open Go.RowKit

theorem tms_eqlenI (K B T F : Int) (n : Nat) : (tms K B T F (n : Int)).length = n := by rw [tms_len]; omega
set_option maxHeartbeats 2000000 in
theorem implDigitFor (K B T F : Int) (a : Option Addr) (c : Nat) (ts : List Int) (w : World) (z : I64 K ∧ I64 B ∧ I64 T ∧ I64 F) (ha : Rd w a ts) (_ : All64 ts) :
    Calls Try.prog 73 #[.agg #[.int .i64 K, .int .i64 B, .int .i64 T, .int .i64 F], .slice a ts.length c] w fun e w' => e = .returned (.tuple #[.int .i64 (dgR K B T F ts).1, .int .i64 (dgR K B T F ts).2]) ∧ Below w.heap.size w w' := by
  have hx := ha.len
  obtain ⟨u, hu⟩ : ∃ u, u = w.alloc (.cells #[.int .i64 K, .int .i64 B, .int .i64 T, .int .i64 F] 57) := ⟨_, rfl⟩
  have bx : Bx u w.heap.size 57 #[.int .i64 K, .int .i64 B, .int .i64 T, .int .i64 F] := by rw [hu]; exact Bx.new _ _ _
  have hbel : Below w.heap.size w u := by rw [hu]; exact (by repeat (first | exact Below.refl _ _ | refine Below.setCell ?_ (by first | omega | (simp <;> omega)) _ | refine Below.alloc ?_ (by first | omega | (simp <;> omega)) _ | refine Below.drew ?_))
  have HU := Lib.hid hu
  clear hu
  have c0 := bx.at_ 0 rfl
  have c1 := bx.at_ 1 rfl
  have c2 := bx.at_ 2 rfl
  have c3 := bx.at_ 3 rfl
  have hr := ha.below hbel
  clear ha

  have HV := Lib.hid (fun v => implValidDrum K B T F v z)
  clear z
  cases hb : drumB K B T F with
  | false =>
    have HR := Lib.hid (show dgR K B T F ts = (0, 1) by simp [dgR, hb])
    rw [hb] at HV
    clear hb
    go_enter Try.func73, Try.ntmps73
    go_wp2_with fail
    rw [← HU.out]
    refine (HV.out _).mono ?_
    rintro e w1 ⟨rfl, hb1⟩
    replace hr := hr.below hb1
    replace bx := bx.below hb1
    replace hbel := hbel.trans (hb1.mono hbel.size)
    clear c0 c1 c2 c3 hb1
    have c0 := bx.at_ 0 rfl
    have c1 := bx.at_ 1 rfl
    have c2 := bx.at_ 2 rfl
    have c3 := bx.at_ 3 rfl
    go_wp2
    go_ret2
    exact ⟨ret_two HR.out, hbel⟩
  | true =>
    have hD := drm_of hb
    have hB2 := hD.b2
    rw [hb] at HV
    by_cases hlt : (ts.length : Int) < B
    · have HT := Lib.hid (fun v => stepTimes_any K B T F ts.length v hD (by omega) hlt)
      clear hD
      by_cases he : tms K B T F (ts.length : Int) = ts
      · have HR := Lib.hid (show dgR K B T F ts = ((ts.length : Int), 0) by rw [dgR, if_pos hb, if_pos ⟨hlt, he⟩])
        have HE := Lib.hid (show decide (tms K B T F (ts.length : Int) = ts) = true from decide_eq_true he)
        clear hb he
        go_enter Try.func73, Try.ntmps73
        go_wp2_with fail
        rw [← HU.out]
        refine (HV.out _).mono ?_
        rintro e w1 ⟨rfl, hb1⟩
        replace hr := hr.below hb1
        replace bx := bx.below hb1
        replace hbel := hbel.trans (hb1.mono hbel.size)
        clear c0 c1 c2 c3 hb1
        have c0 := bx.at_ 0 rfl
        have c1 := bx.at_ 1 rfl
        have c2 := bx.at_ 2 rfl
        have c3 := bx.at_ 3 rfl
        go_wp2_with fail
        refine (HT.out _).mono ?_
        rintro e w2 ⟨A, C, rfl, own, hb2⟩
        replace hr := hr.below hb2
        replace hbel := hbel.trans (hb2.mono hbel.size)
        rw [show ((ts.length : Int)).toNat = ts.length by omega] at own ⊢
        have HQ := slicesEqual_any A a C c (tms K B T F ts.length) ts w2 own.rd hr
        rw [tms_eqlenI] at HQ
        clear c0 c1 c2 c3 own hb2
        have HQ' := Lib.hid HQ
        clear HQ
        go_wp2_with fail
        refine HQ'.out.mono ?_
        rw [HE.out]
        rintro e w3 ⟨rfl, q, rfl⟩
        go_wp2
        go_ret2
        exact ⟨ret_two HR.out, bel_drewN hbel q⟩
      · have HR := Lib.hid (show dgR K B T F ts = (0, 3) by rw [dgR, if_pos hb, if_neg (fun x => he x.2)])
        have HE := Lib.hid (show decide (tms K B T F (ts.length : Int) = ts) = false from decide_eq_false he)
        clear hb he
        go_enter Try.func73, Try.ntmps73
        go_wp2_with fail
        rw [← HU.out]
        refine (HV.out _).mono ?_
        rintro e w1 ⟨rfl, hb1⟩
        replace hr := hr.below hb1
        replace bx := bx.below hb1
        replace hbel := hbel.trans (hb1.mono hbel.size)
        clear c0 c1 c2 c3 hb1
        have c0 := bx.at_ 0 rfl
        have c1 := bx.at_ 1 rfl
        have c2 := bx.at_ 2 rfl
        have c3 := bx.at_ 3 rfl
        go_wp2_with fail
        refine (HT.out _).mono ?_
        rintro e w2 ⟨A, C, rfl, own, hb2⟩
        replace hr := hr.below hb2
        replace hbel := hbel.trans (hb2.mono hbel.size)
        rw [show ((ts.length : Int)).toNat = ts.length by omega] at own ⊢
        have HQ := slicesEqual_any A a C c (tms K B T F ts.length) ts w2 own.rd hr
        rw [tms_eqlenI] at HQ
        clear c0 c1 c2 c3 own hb2
        have HQ' := Lib.hid HQ
        clear HQ
        go_wp2_with fail
        refine HQ'.out.mono ?_
        rw [HE.out]
        rintro e w3 ⟨rfl, q, rfl⟩
        go_wp2
        go_ret2
        exact ⟨ret_two HR.out, bel_drewN hbel q⟩
    · have HR := Lib.hid (show dgR K B T F ts = (0, 3) by rw [dgR, if_pos hb, if_neg (fun x => hlt x.1)])
      clear hb hD
      go_enter Try.func73, Try.ntmps73
      go_wp2_with fail
      rw [← HU.out]
      refine (HV.out _).mono ?_
      rintro e w1 ⟨rfl, hb1⟩
      replace hr := hr.below hb1
      replace bx := bx.below hb1
      replace hbel := hbel.trans (hb1.mono hbel.size)
      clear c0 c1 c2 c3 hb1
      have c0 := bx.at_ 0 rfl
      have c1 := bx.at_ 1 rfl
      have c2 := bx.at_ 2 rfl
      have c3 := bx.at_ 3 rfl
      go_wp2
      go_ret2
      exact ⟨ret_two HR.out, hbel⟩
end Go.Proofs.Ytkhfbhphmdcelaa
