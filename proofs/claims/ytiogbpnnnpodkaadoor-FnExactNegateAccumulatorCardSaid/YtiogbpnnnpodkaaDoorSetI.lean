/-
  impl.SetAccumulator.
-/
import Derived.Test.YtiogbpnnnpodkaaDoorRgsI
import Derived.Test.YtiogbpnnnpodkaaDoorIsI
import Derived.Test.YtiogbpnnnpodkaaDoorRegC
namespace Go.Proofs.YtiogbpnnnpodkaaDoor
open Go.RowKit

set_option maxRecDepth 100000 in
set_option maxHeartbeats 4000000 in
theorem setAcc_any (a : Addr) (B n x : Int) (w : World) (_ : I64 B) (_ : I64 n) (bx : I64 x) (hl : BellAt w a) :
    Calls Tryd.prog 15 #[.int .i64 B, .int .i64 n, .int .i64 x] w (RegC (setAR B n x) w) := by
  have R := Tryd.results15
  have hbel : Below w.heap.size w w := Below.refl _ _
  cases hf : fullB B n with
  | false =>
    have HR := Lib.hid (show setAR B n x = (0, [], 2) by simp [setAR, hf])
    go_enter Tryd.func15, Tryd.ntmps15
    go_wp2_with fail
    obtain ⟨p, hp⟩ : ∃ g, g = w.heap.size := ⟨_, rfl⟩
    have hk_p : w.heap.size ≤ p := Nat.le_of_eq hp.symm
    obtain ⟨u, hu⟩ : ∃ V, V = w.alloc (.cells #[.int .i64 0, .slice none 0 0] 24) := ⟨_, rfl⟩
    have b_p : Bx u p 24 #[.int .i64 0, .slice none 0 0] := by rw [hu, hp]; exact Bx.new _ _ _
    have hb : Below w.heap.size w u := by rw [hu]; exact (Below.refl _ _).alloc (Nat.le_refl _) _
    rw [← hp, ← hu]
    clear hu hp
    replace hbel := hbel.trans (hb.mono hbel.size)
    clear hb
    refine (circle_no B n u hf).mono ?_
    rintro e v ⟨rfl, hb⟩
    replace b_p := b_p.below hb
    replace hbel := hbel.trans (hb.mono hbel.size)
    clear hb
    go_upto_region 2 with fail
    obtain ⟨q, hq⟩ : ∃ g, g = v.heap.size := ⟨_, rfl⟩
    have hk_q : v.heap.size ≤ q := Nat.le_of_eq hq.symm
    obtain ⟨u2, hu2⟩ : ∃ V, V = v.alloc (.cells #[.int .i64 0, .int .i64 0, .int .i64 0] 81) := ⟨_, rfl⟩
    have b_q : Bx u2 q 81 #[.int .i64 0, .int .i64 0, .int .i64 0] := by rw [hu2, hq]; exact Bx.new _ _ _
    have hb : Below v.heap.size v u2 := by rw [hu2]; exact (Below.refl _ _).alloc (Nat.le_refl _) _
    rw [← hq, ← hu2]
    clear hu2 hq
    replace b_p := b_p.below hb
    replace hbel := hbel.trans (hb.mono hbel.size)
    clear hb
    have r0 := b_p.at_ 0 rfl
    have r1 := b_p.at_ 1 rfl
    have f0 := b_p.thaw 0
    have f1 := b_p.thaw 1
    have hs := b_p.lt
    have hbs := hbel.size
    go_wp2
    exact bodyPost_ret (v := .tuple #[.agg #[.int .i64 0, .slice none 0 0], .int .i64 2]) (by simp [results, go_sem, r0, r1]) rfl
      (regC_err HR.out rfl (by repeat (first | with_reducible exact hbel | with_reducible refine Below.setCell ?_ (by first | omega | (simp <;> omega)) _ | with_reducible refine Below.alloc ?_ (by first | omega | (simp <;> omega)) _ | with_reducible refine Below.drew ?_)))
  | true =>
    have hc := cntA_bd hf
    cases hi : inA (cntA B n) x with
    | false =>
      have HR := Lib.hid (show setAR B n x = (0, [], 5) by simp [setAR, hf, hi])
      go_enter Tryd.func15, Tryd.ntmps15
      go_wp2_with fail
      obtain ⟨p, hp⟩ : ∃ g, g = w.heap.size := ⟨_, rfl⟩
      have hk_p : w.heap.size ≤ p := Nat.le_of_eq hp.symm
      obtain ⟨u, hu⟩ : ∃ V, V = w.alloc (.cells #[.int .i64 0, .slice none 0 0] 24) := ⟨_, rfl⟩
      have b_p : Bx u p 24 #[.int .i64 0, .slice none 0 0] := by rw [hu, hp]; exact Bx.new _ _ _
      have hb : Below w.heap.size w u := by rw [hu]; exact (Below.refl _ _).alloc (Nat.le_refl _) _
      rw [← hp, ← hu]
      clear hu hp
      replace hl := hl.below hb
      replace hbel := hbel.trans (hb.mono hbel.size)
      clear hb
      refine (circle_ok B n u hf).mono ?_
      rintro e v ⟨rfl, hb⟩
      replace hl := hl.below hb
      replace b_p := b_p.below hb
      replace hbel := hbel.trans (hb.mono hbel.size)
      clear hb
      go_upto_region 2 with fail
      obtain ⟨q, hq⟩ : ∃ g, g = v.heap.size := ⟨_, rfl⟩
      have hk_q : v.heap.size ≤ q := Nat.le_of_eq hq.symm
      obtain ⟨u2, hu2⟩ : ∃ V, V = v.alloc (.cells #[.int .i64 B, .int .i64 n, .int .i64 (cntA B n)] 81) := ⟨_, rfl⟩
      have b_q : Bx u2 q 81 #[.int .i64 B, .int .i64 n, .int .i64 (cntA B n)] := by rw [hu2, hq]; exact Bx.new _ _ _
      have hb : Below v.heap.size v u2 := by rw [hu2]; exact (Below.refl _ _).alloc (Nat.le_refl _) _
      rw [← hq, ← hu2]
      clear hu2 hq
      replace hl := hl.below hb
      replace b_p := b_p.below hb
      replace hbel := hbel.trans (hb.mono hbel.size)
      clear hb
      have c0 := b_q.at_ 0 rfl
      have c1 := b_q.at_ 1 rfl
      have c2 := b_q.at_ 2 rfl
      go_wp2_with fail
      refine (shown_out B n (cntA B n) x a u2 (by omega) (by omega) bx hi hl).mono ?_
      rintro e v2 ⟨rfl, hb⟩
      clear c0 c1 c2
      replace hl := hl.below hb
      replace b_p := b_p.below hb
      replace b_q := b_q.below hb
      replace hbel := hbel.trans (hb.mono hbel.size)
      clear hb
      have g0 : v2.cell? ⟨0, 0, none⟩ = some (bellV a) := hl
      go_wp2_with fail
      refine (is_same a _).mono ?_
      rintro e v3 ⟨rfl, hw⟩
      subst v3
      have r0 := b_p.at_ 0 rfl
      have r1 := b_p.at_ 1 rfl
      have f0 := b_p.thaw 0
      have f1 := b_p.thaw 1
      have hs := b_p.lt
      have hbs := hbel.size
      clear g0 hf hi hc
      go_wp2
      exact bodyPost_ret (v := .tuple #[.agg #[.int .i64 0, .slice none 0 0], .int .i64 5]) (by simp [results, go_sem, r0, r1]) rfl
        (regC_err HR.out rfl (by repeat (first | with_reducible exact hbel | with_reducible refine Below.setCell ?_ (by first | omega | (simp <;> omega)) _ | with_reducible refine Below.alloc ?_ (by first | omega | (simp <;> omega)) _ | with_reducible refine Below.drew ?_)))
    | true =>
      have HR := Lib.hid (show setAR B n x = (B, setA B n x, 0) by simp [setAR, hf, hi])
      go_enter Tryd.func15, Tryd.ntmps15
      go_wp2_with fail
      obtain ⟨p, hp⟩ : ∃ g, g = w.heap.size := ⟨_, rfl⟩
      have hk_p : w.heap.size ≤ p := Nat.le_of_eq hp.symm
      obtain ⟨u, hu⟩ : ∃ V, V = w.alloc (.cells #[.int .i64 0, .slice none 0 0] 24) := ⟨_, rfl⟩
      have b_p : Bx u p 24 #[.int .i64 0, .slice none 0 0] := by rw [hu, hp]; exact Bx.new _ _ _
      have hb : Below w.heap.size w u := by rw [hu]; exact (Below.refl _ _).alloc (Nat.le_refl _) _
      rw [← hp, ← hu]
      clear hu hp
      replace hl := hl.below hb
      replace hbel := hbel.trans (hb.mono hbel.size)
      clear hb
      refine (circle_ok B n u hf).mono ?_
      rintro e v ⟨rfl, hb⟩
      replace hl := hl.below hb
      replace b_p := b_p.below hb
      replace hbel := hbel.trans (hb.mono hbel.size)
      clear hb
      go_upto_region 2 with fail
      obtain ⟨q, hq⟩ : ∃ g, g = v.heap.size := ⟨_, rfl⟩
      have hk_q : v.heap.size ≤ q := Nat.le_of_eq hq.symm
      obtain ⟨u2, hu2⟩ : ∃ V, V = v.alloc (.cells #[.int .i64 B, .int .i64 n, .int .i64 (cntA B n)] 81) := ⟨_, rfl⟩
      have b_q : Bx u2 q 81 #[.int .i64 B, .int .i64 n, .int .i64 (cntA B n)] := by rw [hu2, hq]; exact Bx.new _ _ _
      have hb : Below v.heap.size v u2 := by rw [hu2]; exact (Below.refl _ _).alloc (Nat.le_refl _) _
      rw [← hq, ← hu2]
      clear hu2 hq
      replace hl := hl.below hb
      replace b_p := b_p.below hb
      replace hbel := hbel.trans (hb.mono hbel.size)
      clear hb
      have c0 := b_q.at_ 0 rfl
      have c1 := b_q.at_ 1 rfl
      have c2 := b_q.at_ 2 rfl
      go_wp2_with fail
      refine (shown_in B n (cntA B n) x u2 (by omega) (by omega) bx hi).mono ?_
      rintro e v2 ⟨rfl, hb⟩
      clear c0 c1 c2
      replace hl := hl.below hb
      replace b_p := b_p.below hb
      replace b_q := b_q.below hb
      replace hbel := hbel.trans (hb.mono hbel.size)
      clear hb
      have g0 : v2.cell? ⟨0, 0, none⟩ = some (bellV a) := hl
      go_wp2_with fail
      refine (is_nil a _).mono ?_
      rintro e v3 ⟨rfl, hw⟩
      subst v3
      have c0 := b_q.at_ 0 rfl
      have c1 := b_q.at_ 1 rfl
      have c2 := b_q.at_ 2 rfl
      clear g0 hc
      go_wp2_with fail
      refine (register_any B n x v2 hf).mono ?_
      rintro e v3 ⟨A, C, rfl, own, hb⟩
      clear c0 c1 c2
      have hpl : p < v2.heap.size := b_p.lt
      have hvs := hb.size
      replace hl := hl.below hb
      replace b_p := b_p.below hb
      replace b_q := b_q.below hb
      replace hbel := hbel.trans (hb.mono hbel.size)
      clear hb
      have r0 := b_p.at_ 0 rfl
      have r1 := b_p.at_ 1 rfl
      have f0 := b_p.thaw 0
      have f1 := b_p.thaw 1
      have hs := b_p.lt
      have hbs := hbel.size
      clear hf hi
      go_wp2
      exact bodyPost_ret (v := .tuple #[.agg #[.int .i64 B, .slice A (setA B n x).length C], .int .i64 0]) (by simp [results, go_sem, r0, r1]) rfl
        (regC_ok HR.out rfl ((own.setCell (p := ⟨p, 0, none⟩) (.inl hpl) _).setCell (p := ⟨p, 1, none⟩) (.inl hpl) _) (by have := hk_p; omega) (by simp) (by repeat (first | with_reducible exact hbel | with_reducible refine Below.setCell ?_ (by first | omega | (simp <;> omega)) _ | with_reducible refine Below.alloc ?_ (by first | omega | (simp <;> omega)) _ | with_reducible refine Below.drew ?_)))
theorem implSetAccumulator (B n x : Int) (w : World) (b1 : I64 B) (b2 : I64 n) (b3 : I64 x) (hD : BellD w) :
    Calls Tryd.prog 15 #[.int .i64 B, .int .i64 n, .int .i64 x] w (RegC (setAR B n x) w) :=
  hD.elim fun a hl => setAcc_any a B n x w b1 b2 b3 hl
end Go.Proofs.YtiogbpnnnpodkaaDoor
