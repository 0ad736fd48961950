/-
  AccumulateNumber: the program's.
-/
import Derived.Test.YtiogbpnnnpodkaaDoorAllI
import Derived.Test.YtiogbpnnnpodkaaDoorAcnM
namespace Go.Proofs.YtiogbpnnnpodkaaDoor
open Go.RowKit

set_option maxRecDepth 100000 in
set_option maxHeartbeats 4000000 in
theorem implAccumulateNumber (xB : Int) (xA : Option Addr) (xC : Nat) (xZ : List Int) (n : Int) (w : World) (ha : Rd w xA xZ) (z : All64 xZ) (b : I64 xB) (_ : I64 n) (hD : BellD w) :
    Calls Tryd.prog 26 #[.agg #[.int .i64 xB, .slice xA xZ.length xC], .int .i64 n] w (RegBC (acnR xB xZ n) w) := by
  have R := Tryd.results26
  have hbel : Below w.heap.size w w := Below.refl _ _
  obtain ⟨a, hl⟩ := hD
  have HE := Lib.hid (accR_one xB xZ n)
  go_enter Tryd.func26, Tryd.ntmps26
  go_wp2_with fail
  obtain ⟨p, hp⟩ : ∃ g, g = w.heap.size := ⟨_, rfl⟩
  have hk_p : w.heap.size ≤ p := Nat.le_of_eq hp.symm
  obtain ⟨u, hu⟩ : ∃ V, V = (w.alloc (.cells #[.int .i64 xB, .slice xA xZ.length xC] 24)).alloc (.cells #[.int .i64 0, .slice none 0 0] 24) := ⟨_, rfl⟩
  have b_p : Bx u p 24 #[.int .i64 xB, .slice xA xZ.length xC] := by rw [hu, hp]; exact (Bx.new _ _ _).alloc _
  have b_p1 : Bx u (p + 1) 24 #[.int .i64 0, .slice none 0 0] := by rw [hu, hp]; simpa using Bx.new (w.alloc (.cells #[.int .i64 xB, .slice xA xZ.length xC] 24)) #[.int .i64 0, .slice none 0 0] 24
  have hb : Below w.heap.size w u := by rw [hu]; exact ((Below.refl _ _).alloc (Nat.le_refl _) _).alloc (by simp) _
  have hz_p := Lib.hid (show u.heap.size = p + 1 + 1 by rw [hu, hp]; simp)
  rw [← hp, ← hu]
  clear hu hp
  replace ha := ha.below hb
  replace hl := hl.below hb
  replace hbel := hbel.trans (hb.mono hbel.size)
  clear hb
  go_upto_region 1 with fail
  obtain ⟨u1, hu1⟩ : ∃ u1, u1 = u.alloc (.cells #[.int .i64 n] 2) := ⟨_, rfl⟩
  obtain ⟨c, hc⟩ : ∃ c, c = p + 1 + 1 := ⟨_, rfl⟩
  have hr : u1.cell? ⟨c, 0, none⟩ = some (.int .i64 n) := by rw [hu1, hc, ← hz_p.out]; exact (Bx.new u #[.int .i64 n] 2).at_ 0 rfl
  have hb : Below u.heap.size u u1 := by rw [hu1]; exact (Below.refl _ _).alloc (Nat.le_refl _) _
  have c0 := b_p.at_ 0 rfl
  have c1 := b_p.at_ 1 rfl
  have HU := Lib.hid hu1
  have HC := Lib.hid hc
  clear hu1 hc
  go_wp2_with fail
  first | rw [← HU.out, ← HC.out] | (rw [← HU.out, hz_p.out, ← HC.out])
  clear c0 c1
  replace ha := ha.below hb
  replace hl := hl.below hb
  replace b_p := b_p.below hb
  replace b_p1 := b_p1.below hb
  replace hbel := hbel.trans (hb.mono hbel.size)
  clear hb
  refine (accAll_any a xB xA xC xZ (some ⟨c, 0, none⟩) 1 [n] u1 ha z b (rd_at1 hr) hl).mono ?_
  rintro e v ⟨A, C, D, E, m, rfl, ow, _, hm1, hm2, hb⟩
  obtain ⟨e1, e2, e3, e4, e5⟩ := HE.out
  have hpu : p + 1 < u1.heap.size := b_p1.lt
  have hbs1 := hbel.size
  rw [e1, e2, e4]
  rw [e2] at ow
  obtain ⟨len, hlen⟩ : ∃ len, len = (accR xB xZ [n]).2.2.1.length := ⟨_, rfl⟩
  rw [← hlen] at e3 e5 ⊢
  have HE3 := Lib.hid e3
  obtain ⟨X1, hX1⟩ : ∃ X, X = (acnR xB xZ n).1 := ⟨_, rfl⟩
  obtain ⟨X2, hX2⟩ : ∃ X, X = (acnR xB xZ n).2.1 := ⟨_, rfl⟩
  obtain ⟨X4, hX4⟩ : ∃ X, X = (acnR xB xZ n).2.2.2 := ⟨_, rfl⟩
  rw [← hX1, ← hX2, ← hX4]
  rw [← hX2] at ow
  have HX := Lib.hid (And.intro hX1 (And.intro hX2 hX4))
  clear HE e1 e2 e3 e4 hlen hX1 hX2 hX4 hr
  replace b_p := b_p.below hb
  replace b_p1 := b_p1.below hb
  replace hbel := hbel.trans (hb.mono hbel.size)
  clear hb
  go_upto_region 2 with fail
  obtain ⟨q, hq⟩ : ∃ g, g = v.heap.size := ⟨_, rfl⟩
  have hk_q : v.heap.size ≤ q := Nat.le_of_eq hq.symm
  obtain ⟨v2, hv2⟩ : ∃ V, V = v.alloc (.cells #[.int .i64 X1, .slice A X2.length C] 24) := ⟨_, rfl⟩
  have b_q : Bx v2 q 24 #[.int .i64 X1, .slice A X2.length C] := by rw [hv2, hq]; exact Bx.new _ _ _
  have hb : Below v.heap.size v v2 := by rw [hv2]; exact (Below.refl _ _).alloc (Nat.le_refl _) _
  rw [← hq, ← hv2]
  clear hv2 hq
  replace b_p := b_p.below hb
  replace b_p1 := b_p1.below hb
  replace ow := ow.below hb
  replace hbel := hbel.trans (hb.mono hbel.size)
  clear hb
  have r0 := b_p1.at_ 0 rfl
  have r1 := b_p1.at_ 1 rfl
  have f0 := b_p1.thaw 0
  have f1 := b_p1.thaw 1
  have d0 := b_q.at_ 0 rfl
  have d1 := b_q.at_ 1 rfl
  have hs := b_p1.lt
  have hbs := hbel.size
  have hd : decide ((0 : Int) < (len : Int)) = decide (0 < len) := decide_eq_decide.2 (by omega)
  have hv2 := hk_q
  have hsq := b_q.lt
  by_cases hlp : 0 < len
  · have h3 := Lib.hid (show (acnR xB xZ n).2.2.1 = true by rw [← HE3.out]; exact decide_eq_true hlp)
    have hlp' : (0 : Int) < (len : Int) := by omega
    clear hd
    go_wp2
    exact bodyPost_ret (v := .tuple #[.agg #[.int .i64 X1, .slice A X2.length C], .bool true, .int .i64 X4]) (by simp [results, go_sem, r0, r1]) rfl
      ⟨A, C, by rw [h3.out, ← HX.out.1, ← HX.out.2.1, ← HX.out.2.2], by rw [← HX.out.2.1]; exact ((ow.setCell (p := ⟨p + 1, 0, none⟩) (.inl (by simp; omega)) _).setCell (p := ⟨p + 1, 1, none⟩) (.inl (by simp; omega)) _).wide (by omega) (by simp; omega), (by repeat (first | with_reducible exact hbel | with_reducible refine Below.setCell ?_ (by first | omega | (simp <;> omega)) _ | with_reducible refine Below.alloc ?_ (by first | omega | (simp <;> omega)) _ | with_reducible refine Below.drew ?_))⟩
  · have h3 := Lib.hid (show (acnR xB xZ n).2.2.1 = false by rw [← HE3.out]; exact decide_eq_false hlp)
    have hlp' : ¬ (0 : Int) < (len : Int) := by omega
    clear hd
    go_wp2
    exact bodyPost_ret (v := .tuple #[.agg #[.int .i64 X1, .slice A X2.length C], .bool false, .int .i64 X4]) (by simp [results, go_sem, r0, r1]) rfl
      ⟨A, C, by rw [h3.out, ← HX.out.1, ← HX.out.2.1, ← HX.out.2.2], by rw [← HX.out.2.1]; exact ((ow.setCell (p := ⟨p + 1, 0, none⟩) (.inl (by simp; omega)) _).setCell (p := ⟨p + 1, 1, none⟩) (.inl (by simp; omega)) _).wide (by omega) (by simp; omega), (by repeat (first | with_reducible exact hbel | with_reducible refine Below.setCell ?_ (by first | omega | (simp <;> omega)) _ | with_reducible refine Below.alloc ?_ (by first | omega | (simp <;> omega)) _ | with_reducible refine Below.drew ?_))⟩
end Go.Proofs.YtiogbpnnnpodkaaDoor
