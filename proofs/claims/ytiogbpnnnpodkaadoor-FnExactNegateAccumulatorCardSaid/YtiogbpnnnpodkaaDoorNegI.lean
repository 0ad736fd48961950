/-
  impl.NegateAccumulator, WidenAccumulator.
-/
import Derived.Test.YtiogbpnnnpodkaaDoorSetI
import Derived.Test.YtiogbpnnnpodkaaDoorWithin
namespace Go.Proofs.YtiogbpnnnpodkaaDoor
open Go.RowKit

set_option maxRecDepth 100000 in
set_option maxHeartbeats 4000000 in
theorem implNegateAccumulator (xB : Int) (xA : Option Addr) (xC : Nat) (xZ : List Int) (w : World) (ha : Rd w xA xZ) (z : All64 xZ) (b : I64 xB) (hD : BellD w) :
    Calls Tryd.prog 24 #[.agg #[.int .i64 xB, .slice xA xZ.length xC]] w (RegC (negR xB xZ) w) := by
  have R := Tryd.results24
  have hbel : Below w.heap.size w w := Below.refl _ _
  cases h : accB xB xZ with
  | false =>
    have HR := Lib.hid (show negR xB xZ = (0, [], 1) by simp [negR, h])
    have HN := Lib.hid (show numR xB xZ = (0, 1) by simp [numR, h])
    go_enter Tryd.func24, Tryd.ntmps24
    go_wp2_with fail
    obtain ⟨p, hp⟩ : ∃ g, g = w.heap.size := ⟨_, rfl⟩
    have hk_p : w.heap.size ≤ p := Nat.le_of_eq hp.symm
    obtain ⟨u, hu⟩ : ∃ V, V = (w.alloc (.cells #[.int .i64 xB, .slice xA xZ.length xC] 24)).alloc (.cells #[.int .i64 0, .slice none 0 0] 24) := ⟨_, rfl⟩
    have b_p : Bx u p 24 #[.int .i64 xB, .slice xA xZ.length xC] := by rw [hu, hp]; exact (Bx.new _ _ _).alloc _
    have b_p1 : Bx u (p + 1) 24 #[.int .i64 0, .slice none 0 0] := by rw [hu, hp]; simpa using Bx.new (w.alloc (.cells #[.int .i64 xB, .slice xA xZ.length xC] 24)) #[.int .i64 0, .slice none 0 0] 24
    have hb : Below w.heap.size w u := by rw [hu]; exact ((Below.refl _ _).alloc (Nat.le_refl _) _).alloc (by simp) _
    rw [← hp, ← hu]
    clear hu hp
    replace ha := ha.below hb
    replace hD := hD.below hb
    replace hbel := hbel.trans (hb.mono hbel.size)
    clear hb
    refine (implNumberOf xB xA xC xZ u ha z b hD).mono ?_
    rintro e v ⟨rfl, hb⟩
    rw [HN.out]
    replace ha := ha.below hb
    replace hD := hD.below hb
    replace b_p := b_p.below hb
    replace b_p1 := b_p1.below hb
    replace hbel := hbel.trans (hb.mono hbel.size)
    clear hb
    have r0 := b_p1.at_ 0 rfl
    have r1 := b_p1.at_ 1 rfl
    have f0 := b_p1.thaw 0
    have f1 := b_p1.thaw 1
    have hs := b_p1.lt
    have hbs := hbel.size
    clear h
    go_wp2
    exact bodyPost_ret (v := .tuple #[.agg #[.int .i64 0, .slice none 0 0], .int .i64 1]) (by simp [results, go_sem, r0, r1]) rfl
      (regC_err HR.out rfl (by repeat (first | with_reducible exact hbel | with_reducible refine Below.setCell ?_ (by first | omega | (simp <;> omega)) _ | with_reducible refine Below.alloc ?_ (by first | omega | (simp <;> omega)) _ | with_reducible refine Below.drew ?_)))
  | true =>
    have hf := accB_full h
    have hc := cntA_bd hf
    have hi := numA_in h
    have HR := Lib.hid (show negR xB xZ = setAR xB xZ.length (-(numA xB xZ)) by simp [negR, h])
    have HN := Lib.hid (show numR xB xZ = (numA xB xZ, 0) by simp [numR, h])
    have hlen := (okB_spec (accB_spec h).1).2.2.2.1
    obtain ⟨y, hy⟩ : ∃ y, y = numA xB xZ := ⟨_, rfl⟩
    rw [← hy] at HR HN hi
    have hy1 : -1000000000001 ≤ y ∧ y ≤ 1000000000001 := by omega
    have hw1 : IntKind.i64.wrap (-y) = -y := IntWalk.i64_in _ (by omega)
    have hw2 : wrap64 (-y) = -y := by unfold wrap64; omega
    clear hy hi hc hf h
    go_enter Tryd.func24, Tryd.ntmps24
    go_wp2_with fail
    obtain ⟨p, hp⟩ : ∃ g, g = w.heap.size := ⟨_, rfl⟩
    have hk_p : w.heap.size ≤ p := Nat.le_of_eq hp.symm
    obtain ⟨u, hu⟩ : ∃ V, V = (w.alloc (.cells #[.int .i64 xB, .slice xA xZ.length xC] 24)).alloc (.cells #[.int .i64 0, .slice none 0 0] 24) := ⟨_, rfl⟩
    have b_p : Bx u p 24 #[.int .i64 xB, .slice xA xZ.length xC] := by rw [hu, hp]; exact (Bx.new _ _ _).alloc _
    have b_p1 : Bx u (p + 1) 24 #[.int .i64 0, .slice none 0 0] := by rw [hu, hp]; simpa using Bx.new (w.alloc (.cells #[.int .i64 xB, .slice xA xZ.length xC] 24)) #[.int .i64 0, .slice none 0 0] 24
    have hb : Below w.heap.size w u := by rw [hu]; exact ((Below.refl _ _).alloc (Nat.le_refl _) _).alloc (by simp) _
    rw [← hp, ← hu]
    clear hu hp
    replace ha := ha.below hb
    replace hD := hD.below hb
    replace hbel := hbel.trans (hb.mono hbel.size)
    clear hb
    refine (implNumberOf xB xA xC xZ u ha z b hD).mono ?_
    rintro e v ⟨rfl, hb⟩
    rw [HN.out]
    replace ha := ha.below hb
    replace hD := hD.below hb
    replace b_p := b_p.below hb
    replace b_p1 := b_p1.below hb
    replace hbel := hbel.trans (hb.mono hbel.size)
    clear hb
    have c0 := b_p.at_ 0 rfl
    have c1 := b_p.at_ 1 rfl
    go_wp2_with fail
    refine (implSetAccumulator xB xZ.length (-y) v b (i64_of (by omega) (by omega)) (i64_of (by omega) (by omega)) hD).mono ?_
    rintro e v2 ⟨A, C, rfl, own, hb⟩
    rw [← HR.out] at own ⊢
    clear c0 c1
    have hpl : p + 1 < v.heap.size := b_p1.lt
    have hvs := hb.size
    replace ha := ha.below hb
    replace hD := hD.below hb
    replace b_p := b_p.below hb
    replace b_p1 := b_p1.below hb
    replace hbel := hbel.trans (hb.mono hbel.size)
    clear hb
    have r0 := b_p1.at_ 0 rfl
    have r1 := b_p1.at_ 1 rfl
    have f0 := b_p1.thaw 0
    have f1 := b_p1.thaw 1
    have hs := b_p1.lt
    have hbs := hbel.size
    go_wp2
    exact bodyPost_ret (v := .tuple #[.agg #[.int .i64 (negR xB xZ).1, .slice A (negR xB xZ).2.1.length C], .int .i64 (negR xB xZ).2.2]) (by simp [results, go_sem, r0, r1]) rfl
      ⟨A, C, rfl, ((own.setCell (p := ⟨p + 1, 0, none⟩) (.inl hpl) _).setCell (p := ⟨p + 1, 1, none⟩) (.inl hpl) _).wide (by have := hk_p; omega) (by simp), (by repeat (first | with_reducible exact hbel | with_reducible refine Below.setCell ?_ (by first | omega | (simp <;> omega)) _ | with_reducible refine Below.alloc ?_ (by first | omega | (simp <;> omega)) _ | with_reducible refine Below.drew ?_))⟩
end Go.Proofs.YtiogbpnnnpodkaaDoor
