/-
  spec.l02Two: whether two registers may be used together.
-/
import Derived.Test.YtgfopieojpjddaaDoorOkS
import Derived.Test.YtgfopieojpjddaaDoorAr
namespace Go.Proofs.YtgfopieojpjddaaDoor
open Go.RowKit

theorem l02Ok_at {v : Bool} (p : Nat) (b : Int) (a : Option Addr) (c : Nat) (zs : List Int) (w : World) (n : Nat) (hv : okB b zs = v) (ha : Rd w a zs) (hp0 : w.cell? ⟨p, 0, none⟩ = some (.int .i64 b)) (hp1 : w.cell? ⟨p, 1, none⟩ = some (.slice a zs.length c)) :
    Calls Tryd.prog 76 #[.pointer (some ⟨p, 0, none⟩)] (w.drewN n) fun e w' => e = .returned (.bool v) ∧ ∃ m, w' = w.drewN m := by
  subst hv
  exact (l02Ok_any p b a c zs (w.drewN n) (ha.drewN n) hp0 hp1).mono fun e w' ⟨h1, m, h2⟩ => ⟨h1, n + m, by rw [h2, drewN_drewN]⟩
theorem l02Ok_at0 {v : Bool} (p : Nat) (b : Int) (a : Option Addr) (c : Nat) (zs : List Int) (w : World) (hv : okB b zs = v) (ha : Rd w a zs) (hp0 : w.cell? ⟨p, 0, none⟩ = some (.int .i64 b)) (hp1 : w.cell? ⟨p, 1, none⟩ = some (.slice a zs.length c)) :
    Calls Tryd.prog 76 #[.pointer (some ⟨p, 0, none⟩)] w fun e w' => e = .returned (.bool v) ∧ ∃ m, w' = w.drewN m := by
  subst hv; exact l02Ok_any p b a c zs w ha hp0 hp1

set_option maxHeartbeats 1000000 in
theorem l02Two_any (p q : Nat) (B D : Int) (a b : Option Addr) (c d : Nat) (xs ys : List Int) (w : World) (ha : Rd w a xs) (hb : Rd w b ys)
    (hp0 : w.cell? ⟨p, 0, none⟩ = some (.int .i64 B)) (hp1 : w.cell? ⟨p, 1, none⟩ = some (.slice a xs.length c)) (hq0 : w.cell? ⟨q, 0, none⟩ = some (.int .i64 D)) (hq1 : w.cell? ⟨q, 1, none⟩ = some (.slice b ys.length d)) :
    Calls Tryd.prog 105 #[.pointer (some ⟨p, 0, none⟩), .pointer (some ⟨q, 0, none⟩)] w fun e w' => e = .returned (.int .i64 (twoE B xs D ys)) ∧ ∃ n, w' = w.drewN n := by
  cases h1 : okB B xs with
  | false =>
    have HT := Lib.hid (show twoE B xs D ys = 1 by simp [twoE, h1])
    have H1 := Lib.hid h1
    clear h1
    go_enter Tryd.func105, Tryd.ntmps105
    go_wp2_with (go_at_call 76; refine (l02Ok_at0 p B a c xs w H1.out ha hp0 hp1).mono ?_; rintro e w1 ⟨rfl, n, rfl⟩)
    go_ret
    exact ⟨ret_int HT.out.symm, _, rfl⟩
  | true =>
    have H1 := Lib.hid h1
    cases h2 : okB D ys with
    | false =>
      have HT := Lib.hid (show twoE B xs D ys = 1 by simp [twoE, h2])
      have H2 := Lib.hid h2
      clear h1 h2
      go_enter Tryd.func105, Tryd.ntmps105
      go_wp2_with fail
      refine (l02Ok_at0 p B a c xs w H1.out ha hp0 hp1).mono ?_
      rintro e w1 ⟨rfl, n, rfl⟩
      go_wp2_with fail
      refine (l02Ok_at q D b d ys w n H2.out hb hq0 hq1).mono ?_
      rintro e w1 ⟨rfl, n', rfl⟩
      go_wp2
      go_ret
      exact ⟨ret_int HT.out.symm, _, rfl⟩
    | true =>
      have H2 := Lib.hid h2
      have HT := Lib.hid (show twoE B xs D ys = if B = D ∧ xs.length = ys.length then 0 else 6 by simp [twoE, h1, h2])
      by_cases h3 : B = D ∧ xs.length = ys.length
      · rw [if_pos h3] at HT
        have t1 : (B != D) = false := by simp [h3.1]
        have t2 : ((xs.length : Int) != (ys.length : Int)) = false := by simp [h3.2]
        clear h1 h2 h3
        go_enter Tryd.func105, Tryd.ntmps105
        go_wp2_with fail
        refine (l02Ok_at0 p B a c xs w H1.out ha hp0 hp1).mono ?_
        rintro e w1 ⟨rfl, n, rfl⟩
        go_wp2_with fail
        refine (l02Ok_at q D b d ys w n H2.out hb hq0 hq1).mono ?_
        rintro e w1 ⟨rfl, n', rfl⟩
        go_wp2
        go_quiet (fail)
        go_wp2
        go_ret
        exact ⟨ret_int HT.out.symm, _, drewN_drewN _ _ _⟩
      · rw [if_neg h3] at HT
        by_cases h4 : B = D
        · have t1 : (B != D) = false := by simp [h4]
          have t2 : ((xs.length : Int) != (ys.length : Int)) = true := by simp; omega
          clear h1 h2 h3 h4
          go_enter Tryd.func105, Tryd.ntmps105
          go_wp2_with fail
          refine (l02Ok_at0 p B a c xs w H1.out ha hp0 hp1).mono ?_
          rintro e w1 ⟨rfl, n, rfl⟩
          go_wp2_with fail
          refine (l02Ok_at q D b d ys w n H2.out hb hq0 hq1).mono ?_
          rintro e w1 ⟨rfl, n', rfl⟩
          go_wp2
          go_quiet (fail)
          go_wp2
          go_ret
          exact ⟨ret_int HT.out.symm, _, drewN_drewN _ _ _⟩
        · have t1 : (B != D) = true := by simp [h4]
          clear h1 h2 h3 h4
          go_enter Tryd.func105, Tryd.ntmps105
          go_wp2_with fail
          refine (l02Ok_at0 p B a c xs w H1.out ha hp0 hp1).mono ?_
          rintro e w1 ⟨rfl, n, rfl⟩
          go_wp2_with fail
          refine (l02Ok_at q D b d ys w n H2.out hb hq0 hq1).mono ?_
          rintro e w1 ⟨rfl, n', rfl⟩
          go_wp2
          go_quiet (fail)
          go_wp2
          go_ret
          exact ⟨ret_int HT.out.symm, _, drewN_drewN _ _ _⟩
end Go.Proofs.YtgfopieojpjddaaDoor
