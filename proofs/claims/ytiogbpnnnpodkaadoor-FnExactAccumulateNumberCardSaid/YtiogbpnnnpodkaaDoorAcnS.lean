/-
  spec.AccumulateNumber.
-/
import Derived.Test.YtiogbpnnnpodkaaDoorAddA
import Derived.Test.YtiogbpnnnpodkaaDoorAcnM
namespace Go.Proofs.YtiogbpnnnpodkaaDoor
open Go.RowKit

set_option maxRecDepth 100000 in
set_option maxHeartbeats 4000000 in
theorem specAccumulateNumber (xB : Int) (xA : Option Addr) (xC : Nat) (xZ : List Int) (n : Int) (w : World) (ha : Rd w xA xZ) (_ : All64 xZ) (_ : I64 xB) (_ : I64 n) :
    Calls Tryd.prog 25 #[.agg #[.int .i64 xB, .slice xA xZ.length xC], .int .i64 n] w (RegBC (acnR xB xZ n) w) := by
  have R := Tryd.results25
  have hbel : Below w.heap.size w w := Below.refl _ _
  cases h : accB xB xZ with
  | false =>
    have HR := Lib.hid (show acnR xB xZ n = (0, [], false, 1) by simp [acnR, h])
    have H := Lib.hid h
    clear h
    go_enter Tryd.func25, Tryd.ntmps25
    go_wp2_with fail
    obtain ⟨p, hp⟩ : ∃ g, g = w.heap.size := ⟨_, rfl⟩
    have hk_p : w.heap.size ≤ p := Nat.le_of_eq hp.symm
    obtain ⟨u, hu⟩ : ∃ V, V = (w.alloc (.cells #[.int .i64 xB, .slice xA xZ.length xC] 24)).alloc (.cells #[.int .i64 0, .slice none 0 0] 24) := ⟨_, rfl⟩
    have b_p : Bx u p 24 #[.int .i64 xB, .slice xA xZ.length xC] := by rw [hu, hp]; exact (Bx.new _ _ _).alloc _
    have b_p1 : Bx u (p + 1) 24 #[.int .i64 0, .slice none 0 0] := by rw [hu, hp]; simpa using Bx.new (w.alloc (.cells #[.int .i64 xB, .slice xA xZ.length xC] 24)) #[.int .i64 0, .slice none 0 0] 24
    have hb : Below w.heap.size w u := by rw [hu]; exact ((Below.refl _ _).alloc (Nat.le_refl _) _).alloc (by simp) _
    rw [← hp, ← hu]
    clear hu hp
    replace ha := ha.below hb
    replace hbel := hbel.trans (hb.mono hbel.size)
    clear hb
    refine (l09Ok_at p xB xA xC xZ u H.out ha (b_p.at_ 0 rfl) (b_p.at_ 1 rfl)).mono ?_
    rintro e v ⟨rfl, hb⟩
    replace ha := ha.below hb
    replace b_p := b_p.below hb
    replace b_p1 := b_p1.below hb
    replace hbel := hbel.trans (hb.mono hbel.size)
    clear hb
    have r0 := b_p1.at_ 0 rfl
    have r1 := b_p1.at_ 1 rfl
    have f0 := b_p1.thaw 0
    have f1 := b_p1.thaw 1
    have hs := b_p1.lt
    have hbs := hbel.size
    go_wp2
    exact bodyPost_ret (v := .tuple #[.agg #[.int .i64 0, .slice none 0 0], .bool false, .int .i64 1]) (by simp [results, go_sem, r0, r1]) rfl
      (regBC_err HR.out rfl (by repeat (first | with_reducible exact hbel | with_reducible refine Below.setCell ?_ (by first | omega | (simp <;> omega)) _ | with_reducible refine Below.alloc ?_ (by first | omega | (simp <;> omega)) _ | with_reducible refine Below.drew ?_)))
  | true =>
    have H := Lib.hid h
    cases hm : inB n (-1000000000000) 1000000000000 with
    | false =>
      have HR := Lib.hid (show acnR xB xZ n = (0, [], false, 2) by simp [acnR, h, hm])
      have HI := Lib.hid (fun w => l09Most_at (v := false) n w hm)
      clear h hm
      go_enter Tryd.func25, Tryd.ntmps25
      go_wp2_with fail
      obtain ⟨p, hp⟩ : ∃ g, g = w.heap.size := ⟨_, rfl⟩
      have hk_p : w.heap.size ≤ p := Nat.le_of_eq hp.symm
      obtain ⟨u, hu⟩ : ∃ V, V = (w.alloc (.cells #[.int .i64 xB, .slice xA xZ.length xC] 24)).alloc (.cells #[.int .i64 0, .slice none 0 0] 24) := ⟨_, rfl⟩
      have b_p : Bx u p 24 #[.int .i64 xB, .slice xA xZ.length xC] := by rw [hu, hp]; exact (Bx.new _ _ _).alloc _
      have b_p1 : Bx u (p + 1) 24 #[.int .i64 0, .slice none 0 0] := by rw [hu, hp]; simpa using Bx.new (w.alloc (.cells #[.int .i64 xB, .slice xA xZ.length xC] 24)) #[.int .i64 0, .slice none 0 0] 24
      have hb : Below w.heap.size w u := by rw [hu]; exact ((Below.refl _ _).alloc (Nat.le_refl _) _).alloc (by simp) _
      rw [← hp, ← hu]
      clear hu hp
      replace ha := ha.below hb
      replace hbel := hbel.trans (hb.mono hbel.size)
      clear hb
      refine (l09Ok_at p xB xA xC xZ u H.out ha (b_p.at_ 0 rfl) (b_p.at_ 1 rfl)).mono ?_
      rintro e v ⟨rfl, hb⟩
      replace ha := ha.below hb
      replace b_p := b_p.below hb
      replace b_p1 := b_p1.below hb
      replace hbel := hbel.trans (hb.mono hbel.size)
      clear hb
      go_wp2_with fail
      refine (HI.out v).mono ?_
      rintro e v2 ⟨rfl, hw⟩
      subst v2
      have r0 := b_p1.at_ 0 rfl
      have r1 := b_p1.at_ 1 rfl
      have f0 := b_p1.thaw 0
      have f1 := b_p1.thaw 1
      have hs := b_p1.lt
      have hbs := hbel.size
      go_wp2
      exact bodyPost_ret (v := .tuple #[.agg #[.int .i64 0, .slice none 0 0], .bool false, .int .i64 2]) (by simp [results, go_sem, r0, r1]) rfl
        (regBC_err HR.out rfl (by repeat (first | with_reducible exact hbel | with_reducible refine Below.setCell ?_ (by first | omega | (simp <;> omega)) _ | with_reducible refine Below.alloc ?_ (by first | omega | (simp <;> omega)) _ | with_reducible refine Below.drew ?_)))
    | true =>
      have HR := Lib.hid (show acnR xB xZ n = (xB, setA xB xZ.length (numA xB xZ + n), !inA (cntA xB xZ.length) (numA xB xZ + n), 0) by simp [acnR, h, hm])
      have HI := Lib.hid (fun w => l09Most_at (v := true) n w hm)
      obtain ⟨n1, n2⟩ := inB_true hm
      obtain ⟨t, ht⟩ : ∃ t, t = !inA (cntA xB xZ.length) (numA xB xZ + n) := ⟨_, rfl⟩
      rw [← ht] at HR
      have HT := Lib.hid ht.symm
      clear h hm ht
      go_enter Tryd.func25, Tryd.ntmps25
      go_wp2_with fail
      obtain ⟨p, hp⟩ : ∃ g, g = w.heap.size := ⟨_, rfl⟩
      have hk_p : w.heap.size ≤ p := Nat.le_of_eq hp.symm
      obtain ⟨u, hu⟩ : ∃ V, V = (w.alloc (.cells #[.int .i64 xB, .slice xA xZ.length xC] 24)).alloc (.cells #[.int .i64 0, .slice none 0 0] 24) := ⟨_, rfl⟩
      have b_p : Bx u p 24 #[.int .i64 xB, .slice xA xZ.length xC] := by rw [hu, hp]; exact (Bx.new _ _ _).alloc _
      have b_p1 : Bx u (p + 1) 24 #[.int .i64 0, .slice none 0 0] := by rw [hu, hp]; simpa using Bx.new (w.alloc (.cells #[.int .i64 xB, .slice xA xZ.length xC] 24)) #[.int .i64 0, .slice none 0 0] 24
      have hb : Below w.heap.size w u := by rw [hu]; exact ((Below.refl _ _).alloc (Nat.le_refl _) _).alloc (by simp) _
      rw [← hp, ← hu]
      clear hu hp
      replace ha := ha.below hb
      replace hbel := hbel.trans (hb.mono hbel.size)
      clear hb
      refine (l09Ok_at p xB xA xC xZ u H.out ha (b_p.at_ 0 rfl) (b_p.at_ 1 rfl)).mono ?_
      rintro e v ⟨rfl, hb⟩
      replace ha := ha.below hb
      replace b_p := b_p.below hb
      replace b_p1 := b_p1.below hb
      replace hbel := hbel.trans (hb.mono hbel.size)
      clear hb
      go_wp2_with fail
      refine (HI.out v).mono ?_
      rintro e v2 ⟨rfl, hw⟩
      subst v2
      go_wp2_with fail
      refine (l09Add_any p xB xA xC xZ n v H.out ha (b_p.at_ 0 rfl) (b_p.at_ 1 rfl) n1 n2).mono ?_
      rintro e v3 ⟨A, C, rfl, ow, hb⟩
      rw [HT.out]
      have hpv : p + 1 < v.heap.size := b_p1.lt
      have hv3 := hb.size
      have hvs0 := hbel.size
      replace ha := ha.below hb
      replace b_p := b_p.below hb
      replace b_p1 := b_p1.below hb
      replace hbel := hbel.trans (hb.mono hbel.size)
      clear hb
      go_upto_region 6 with fail
      obtain ⟨q, hq⟩ : ∃ g, g = v3.heap.size := ⟨_, rfl⟩
      have hk_q : v3.heap.size ≤ q := Nat.le_of_eq hq.symm
      obtain ⟨v4, hv4⟩ : ∃ V, V = v3.alloc (.cells #[.int .i64 xB, .slice A (setA xB xZ.length (numA xB xZ + n)).length C] 24) := ⟨_, rfl⟩
      have b_q : Bx v4 q 24 #[.int .i64 xB, .slice A (setA xB xZ.length (numA xB xZ + n)).length C] := by rw [hv4, hq]; exact Bx.new _ _ _
      have hb : Below v3.heap.size v3 v4 := by rw [hv4]; exact (Below.refl _ _).alloc (Nat.le_refl _) _
      rw [← hq, ← hv4]
      clear hv4 hq
      replace ha := ha.below hb
      replace b_p := b_p.below hb
      replace b_p1 := b_p1.below hb
      replace ow := ow.below hb
      replace hbel := hbel.trans (hb.mono hbel.size)
      clear hb
      have d0 := b_q.at_ 0 rfl
      have d1 := b_q.at_ 1 rfl
      have hq4 := b_q.lt
      have hkq := hk_q
      have r0 := b_p1.at_ 0 rfl
      have r1 := b_p1.at_ 1 rfl
      have f0 := b_p1.thaw 0
      have f1 := b_p1.thaw 1
      have hs := b_p1.lt
      have hbs := hbel.size
      go_wp2
      exact bodyPost_ret (v := .tuple #[.agg #[.int .i64 xB, .slice A (setA xB xZ.length (numA xB xZ + n)).length C], .bool t, .int .i64 0]) (by simp [results, go_sem, r0, r1]) rfl
        (regBC_ok HR.out rfl ((ow.setCell (p := ⟨p + 1, 0, none⟩) (.inl (by simp; omega)) _).setCell (p := ⟨p + 1, 1, none⟩) (.inl (by simp; omega)) _) (by omega) (by simp; omega) (by repeat (first | with_reducible exact hbel | with_reducible refine Below.setCell ?_ (by first | omega | (simp <;> omega)) _ | with_reducible refine Below.alloc ?_ (by first | omega | (simp <;> omega)) _ | with_reducible refine Below.drew ?_)))
end Go.Proofs.YtiogbpnnnpodkaaDoor
