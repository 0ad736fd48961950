/-
  spec.SetAccumulator, NegateAccumulator, WidenAccumulator.
-/
import Derived.Test.YtiogbpnnnpodkaaDoorAccO
import Derived.Test.YtiogbpnnnpodkaaDoorRegC
namespace Go.Proofs.YtiogbpnnnpodkaaDoor
open Go.RowKit

theorem l09Size_at {v : Bool} (B n : Int) (w : World) (h : fullB B n = v) :
    Calls Tryd.prog 65 #[.int .i64 B, .int .i64 n] w fun e w' => e = .returned (.bool v) ∧ w' = w := h ▸ l09Size_any B n w

set_option maxRecDepth 100000 in
set_option maxHeartbeats 4000000 in
theorem specSetAccumulator (B n x : Int) (w : World) (_ : I64 B) (_ : I64 n) (_ : I64 x) :
    Calls Tryd.prog 14 #[.int .i64 B, .int .i64 n, .int .i64 x] w (RegC (setAR B n x) w) := by
  have R := Tryd.results14
  have hbel : Below w.heap.size w w := Below.refl _ _
  cases hf : fullB B n with
  | false =>
    have HR := Lib.hid (show setAR B n x = (0, [], 2) by simp [setAR, hf])
    go_enter Tryd.func14, Tryd.ntmps14
    go_wp2_with fail
    obtain ⟨p, hp⟩ : ∃ g, g = w.heap.size := ⟨_, rfl⟩
    have hk_p : w.heap.size ≤ p := Nat.le_of_eq hp.symm
    obtain ⟨u, hu⟩ : ∃ V, V = w.alloc (.cells #[.int .i64 0, .slice none 0 0] 24) := ⟨_, rfl⟩
    have b_p : Bx u p 24 #[.int .i64 0, .slice none 0 0] := by rw [hu, hp]; exact Bx.new _ _ _
    have hb : Below w.heap.size w u := by rw [hu]; exact (Below.refl _ _).alloc (Nat.le_refl _) _
    rw [← hp, ← hu]
    clear hu hp
    replace hbel := hbel.trans (hb.mono hbel.size)
    clear hb
    refine (l09Size_at B n u hf).mono ?_
    rintro e v ⟨rfl, hw⟩
    subst v
    have r0 := b_p.at_ 0 rfl
    have r1 := b_p.at_ 1 rfl
    have f0 := b_p.thaw 0
    have f1 := b_p.thaw 1
    have hs := b_p.lt
    have hbs := hbel.size
    clear hf
    go_wp2
    exact bodyPost_ret (v := .tuple #[.agg #[.int .i64 0, .slice none 0 0], .int .i64 2]) (by simp [results, go_sem, r0, r1]) rfl
      (regC_err HR.out rfl (by repeat (first | with_reducible exact hbel | with_reducible refine Below.setCell ?_ (by first | omega | (simp <;> omega)) _ | with_reducible refine Below.alloc ?_ (by first | omega | (simp <;> omega)) _ | with_reducible refine Below.drew ?_)))
  | true =>
    cases hi : inA (cntA B n) x with
    | false =>
      have HR := Lib.hid (show setAR B n x = (0, [], 5) by simp [setAR, hf, hi])
      go_enter Tryd.func14, Tryd.ntmps14
      go_wp2_with fail
      obtain ⟨p, hp⟩ : ∃ g, g = w.heap.size := ⟨_, rfl⟩
      have hk_p : w.heap.size ≤ p := Nat.le_of_eq hp.symm
      obtain ⟨u, hu⟩ : ∃ V, V = w.alloc (.cells #[.int .i64 0, .slice none 0 0] 24) := ⟨_, rfl⟩
      have b_p : Bx u p 24 #[.int .i64 0, .slice none 0 0] := by rw [hu, hp]; exact Bx.new _ _ _
      have hb : Below w.heap.size w u := by rw [hu]; exact (Below.refl _ _).alloc (Nat.le_refl _) _
      rw [← hp, ← hu]
      clear hu hp
      replace hbel := hbel.trans (hb.mono hbel.size)
      clear hb
      refine (l09Size_at B n u hf).mono ?_
      rintro e v ⟨rfl, hw⟩
      subst v
      go_wp2_with fail
      refine (l09In_at B n x u hf hi).mono ?_
      rintro e v ⟨rfl, hw⟩
      subst v
      have r0 := b_p.at_ 0 rfl
      have r1 := b_p.at_ 1 rfl
      have f0 := b_p.thaw 0
      have f1 := b_p.thaw 1
      have hs := b_p.lt
      have hbs := hbel.size
      clear hf hi
      go_wp2
      exact bodyPost_ret (v := .tuple #[.agg #[.int .i64 0, .slice none 0 0], .int .i64 5]) (by simp [results, go_sem, r0, r1]) rfl
        (regC_err HR.out rfl (by repeat (first | with_reducible exact hbel | with_reducible refine Below.setCell ?_ (by first | omega | (simp <;> omega)) _ | with_reducible refine Below.alloc ?_ (by first | omega | (simp <;> omega)) _ | with_reducible refine Below.drew ?_)))
    | true =>
      have HR := Lib.hid (show setAR B n x = (B, setA B n x, 0) by simp [setAR, hf, hi])
      go_enter Tryd.func14, Tryd.ntmps14
      go_wp2_with fail
      obtain ⟨p, hp⟩ : ∃ g, g = w.heap.size := ⟨_, rfl⟩
      have hk_p : w.heap.size ≤ p := Nat.le_of_eq hp.symm
      obtain ⟨u, hu⟩ : ∃ V, V = w.alloc (.cells #[.int .i64 0, .slice none 0 0] 24) := ⟨_, rfl⟩
      have b_p : Bx u p 24 #[.int .i64 0, .slice none 0 0] := by rw [hu, hp]; exact Bx.new _ _ _
      have hb : Below w.heap.size w u := by rw [hu]; exact (Below.refl _ _).alloc (Nat.le_refl _) _
      rw [← hp, ← hu]
      clear hu hp
      replace hbel := hbel.trans (hb.mono hbel.size)
      clear hb
      refine (l09Size_at B n u hf).mono ?_
      rintro e v ⟨rfl, hw⟩
      subst v
      go_wp2_with fail
      refine (l09In_at B n x u hf hi).mono ?_
      rintro e v ⟨rfl, hw⟩
      subst v
      go_wp2_with fail
      refine (l09Set_any B n x u hf).mono ?_
      rintro e v3 ⟨A, C, rfl, own, hb⟩
      have hpl : p < u.heap.size := b_p.lt
      have hvs := hb.size
      replace b_p := b_p.below hb
      replace hbel := hbel.trans (hb.mono hbel.size)
      clear hb
      have r0 := b_p.at_ 0 rfl
      have r1 := b_p.at_ 1 rfl
      have f0 := b_p.thaw 0
      have f1 := b_p.thaw 1
      have hs := b_p.lt
      have hbs := hbel.size
      clear hf hi
      go_wp2
      exact bodyPost_ret (v := .tuple #[.agg #[.int .i64 B, .slice A (setA B n x).length C], .int .i64 0]) (by simp [results, go_sem, r0, r1]) rfl
        (regC_ok HR.out rfl ((own.setCell (p := ⟨p, 0, none⟩) (.inl hpl) _).setCell (p := ⟨p, 1, none⟩) (.inl hpl) _) (by have := hk_p; omega) (by simp) (by repeat (first | with_reducible exact hbel | with_reducible refine Below.setCell ?_ (by first | omega | (simp <;> omega)) _ | with_reducible refine Below.alloc ?_ (by first | omega | (simp <;> omega)) _ | with_reducible refine Below.drew ?_)))
end Go.Proofs.YtiogbpnnnpodkaaDoor
