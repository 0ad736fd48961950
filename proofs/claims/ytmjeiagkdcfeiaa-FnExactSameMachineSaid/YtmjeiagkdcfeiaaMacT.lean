/-
  laws.toMachine, szMachine, eqMachine, markMachine, heldMachine.
-/
import Derived.Test.YtmjeiagkdcfeiaaOwn3
import Derived.Test.YtmjeiagkdcfeiaaReg
import Derived.Deep.Cut
namespace Go.Proofs.Ytmjeiagkdcfeiaa
open Go.RowKit

set_option maxHeartbeats 2000000 in
set_option maxRecDepth 100000 in
theorem toMachine_any (m : Mac) (A1 : Option Addr) (C1 : Nat) (A2 : Option Addr) (C2 : Nat) (A3 : Option Addr) (C3 : Nat) (w : World) (h : Rd3 w A1 m.z1 A2 m.z2 A3 m.z3) :
    Calls Try.prog 8 #[.agg #[.int .i64 m.b1, .slice A1 m.z1.length C1, .int .i64 m.b2, .slice A2 m.z2.length C2, .int .i64 m.b3, .slice A3 m.z3.length C3, .int .i64 m.p]] w fun e w' => ∃ D1 E1 D2 E2 D3 E3, e = .returned (.agg #[.int .i64 m.b1, .slice D1 m.z1.length E1, .int .i64 m.b2, .slice D2 m.z2.length E2, .int .i64 m.b3, .slice D3 m.z3.length E3, .int .i64 m.p]) ∧
      Own3 2 w' w.heap.size w'.heap.size (.slice D1 m.z1.length E1) m.z1 (.slice D2 m.z2.length E2) m.z2 (.slice D3 m.z3.length E3) m.z3 ∧ Below w.heap.size w w' := by
  obtain ⟨u, hu⟩ : ∃ u, u = ((w.alloc (.cells #[.int .i64 m.b1, .slice A1 m.z1.length C1, .int .i64 m.b2, .slice A2 m.z2.length C2, .int .i64 m.b3, .slice A3 m.z3.length C3, .int .i64 m.p] 26)).alloc (.cells #[.int .i64 0, .slice none 0 0, .int .i64 0, .slice none 0 0, .int .i64 0, .slice none 0 0, .int .i64 0] 31)).alloc (.cells #[.int .i64 0, .slice none 0 0, .int .i64 0, .slice none 0 0, .int .i64 0, .slice none 0 0, .int .i64 0] 31) := ⟨_, rfl⟩
  have hb0 : Below w.heap.size w u := by rw [hu]; exact (by repeat (first | exact Below.refl _ _ | refine Below.setCell ?_ (by first | omega | (simp <;> omega)) _ | refine Below.alloc ?_ (by first | omega | (simp <;> omega)) _ | refine Below.drew ?_))
  have HU := Lib.hid hu
  have b0 : Bx u w.heap.size 26 #[.int .i64 m.b1, .slice A1 m.z1.length C1, .int .i64 m.b2, .slice A2 m.z2.length C2, .int .i64 m.b3, .slice A3 m.z3.length C3, .int .i64 m.p] := by rw [hu]; exact ((Bx.new _ _ _).alloc _).alloc _
  have b1 : Bx u (w.heap.size + 1) 31 #[.int .i64 0, .slice none 0 0, .int .i64 0, .slice none 0 0, .int .i64 0, .slice none 0 0, .int .i64 0] := by
    rw [hu]; simpa using (Bx.new (w.alloc (.cells #[.int .i64 m.b1, .slice A1 m.z1.length C1, .int .i64 m.b2, .slice A2 m.z2.length C2, .int .i64 m.b3, .slice A3 m.z3.length C3, .int .i64 m.p] 26)) #[.int .i64 0, .slice none 0 0, .int .i64 0, .slice none 0 0, .int .i64 0, .slice none 0 0, .int .i64 0] 31).alloc (.cells #[.int .i64 0, .slice none 0 0, .int .i64 0, .slice none 0 0, .int .i64 0, .slice none 0 0, .int .i64 0] 31)
  have b2 : Bx u (w.heap.size + 1 + 1) 31 #[.int .i64 0, .slice none 0 0, .int .i64 0, .slice none 0 0, .int .i64 0, .slice none 0 0, .int .i64 0] := by
    rw [hu]; simpa using Bx.new ((w.alloc (.cells #[.int .i64 m.b1, .slice A1 m.z1.length C1, .int .i64 m.b2, .slice A2 m.z2.length C2, .int .i64 m.b3, .slice A3 m.z3.length C3, .int .i64 m.p] 26)).alloc (.cells #[.int .i64 0, .slice none 0 0, .int .i64 0, .slice none 0 0, .int .i64 0, .slice none 0 0, .int .i64 0] 31)) #[.int .i64 0, .slice none 0 0, .int .i64 0, .slice none 0 0, .int .i64 0, .slice none 0 0, .int .i64 0] 31
  have hz : u.heap.size = w.heap.size + 1 + 1 + 1 := by rw [hu]; simp
  have hx1 := h.x.below hb0
  have hy1 := h.y
  have hz1 := h.z
  clear hu h
  go_enter Try.func8, Try.ntmps8
  go_wp2_with fail
  rw [← HU.out]
  refine (toRegister_any m.b1 A1 C1 m.z1 u hx1).mono ?_
  rintro e w1 ⟨D1, E1, rfl, o1, hb1⟩
  replace b0 := b0.below hb1
  replace b1 := b1.below hb1
  replace b2 := b2.below hb1
  have hs1 := hb1.size
  have hbw := hb0.trans (hb1.mono hb0.size)
  clear hb1 hx1
  have e0 := b0.at_ 2 rfl
  have e1 := b0.at_ 3 rfl
  have g0 := b2.at_ 0 rfl
  have g1 := b2.at_ 1 rfl
  have g0f := b2.thaw 0
  have g1f := b2.thaw 1
  go_wp2_with fail
  obtain ⟨V, hV⟩ : ∃ V, V = (w1.setCell ⟨w.heap.size + 1 + 1, 0, none⟩ (.int .i64 m.b1)).setCell ⟨w.heap.size + 1 + 1, 1, none⟩ (.slice D1 m.z1.length E1) := ⟨_, rfl⟩
  rw [← hV]
  have p1 : Own 2 V u.heap.size w1.heap.size (.slice D1 m.z1.length E1) m.z1 := by rw [hV]; exact (o1.setCell (.inl (by simp; omega)) _).setCell (.inl (by simp; omega)) _
  have c0 : Bx V w.heap.size 26 #[.int .i64 m.b1, .slice A1 m.z1.length C1, .int .i64 m.b2, .slice A2 m.z2.length C2, .int .i64 m.b3, .slice A3 m.z3.length C3, .int .i64 m.p] := by rw [hV]; exact (b0.far (by simp <;> omega) _).far (by simp <;> omega) _
  have c1 : Bx V (w.heap.size + 1) 31 #[.int .i64 0, .slice none 0 0, .int .i64 0, .slice none 0 0, .int .i64 0, .slice none 0 0, .int .i64 0] := by rw [hV]; exact (b1.far (by simp) _).far (by simp) _
  have c2 : Bx V (w.heap.size + 1 + 1) 31 #[.int .i64 m.b1, .slice D1 m.z1.length E1, .int .i64 0, .slice none 0 0, .int .i64 0, .slice none 0 0, .int .i64 0] := by rw [hV]; exact (b2.set_ 0 _).set_ 1 _
  have hbV : Below w.heap.size w V := by rw [hV]; exact (by repeat (first | with_reducible exact hbw | with_reducible refine Below.setCell ?_ (by first | omega | (simp <;> omega)) _ | with_reducible refine Below.alloc ?_ (by first | omega | (simp <;> omega)) _ | with_reducible refine Below.drew ?_))
  have hzV : V.heap.size = w1.heap.size := by rw [hV]; simp
  clear hV o1 b0 b1 b2 e0 e1 g0 g1 g0f g1f hbw
  refine (toRegister_any m.b2 A2 C2 m.z2 V (hy1.below hbV)).mono ?_
  rintro e w2 ⟨D2, E2, rfl, o2, hb2⟩
  replace p1 := p1.below hb2
  replace c0 := c0.below hb2
  replace c1 := c1.below hb2
  replace c2 := c2.below hb2
  have hs2 := hb2.size
  have hbw := hbV.trans (hb2.mono hbV.size)
  clear hb2 hbV
  have e0 := c0.at_ 4 rfl
  have e1 := c0.at_ 5 rfl
  have g0 := c2.at_ 2 rfl
  have g1 := c2.at_ 3 rfl
  have g0f := c2.thaw 2
  have g1f := c2.thaw 3
  go_wp2_with fail
  obtain ⟨V2, hV⟩ : ∃ V2, V2 = (w2.setCell ⟨w.heap.size + 1 + 1, 2, none⟩ (.int .i64 m.b2)).setCell ⟨w.heap.size + 1 + 1, 3, none⟩ (.slice D2 m.z2.length E2) := ⟨_, rfl⟩
  rw [← hV]
  replace p1 : Own 2 V2 u.heap.size w1.heap.size (.slice D1 m.z1.length E1) m.z1 := by rw [hV]; exact (p1.setCell (.inl (by simp; omega)) _).setCell (.inl (by simp; omega)) _
  have p2 : Own 2 V2 V.heap.size w2.heap.size (.slice D2 m.z2.length E2) m.z2 := by rw [hV]; exact (o2.setCell (.inl (by simp; omega)) _).setCell (.inl (by simp; omega)) _
  have d0 : Bx V2 w.heap.size 26 #[.int .i64 m.b1, .slice A1 m.z1.length C1, .int .i64 m.b2, .slice A2 m.z2.length C2, .int .i64 m.b3, .slice A3 m.z3.length C3, .int .i64 m.p] := by rw [hV]; exact (c0.far (by simp <;> omega) _).far (by simp <;> omega) _
  have d1 : Bx V2 (w.heap.size + 1) 31 #[.int .i64 0, .slice none 0 0, .int .i64 0, .slice none 0 0, .int .i64 0, .slice none 0 0, .int .i64 0] := by rw [hV]; exact (c1.far (by simp) _).far (by simp) _
  have d2 : Bx V2 (w.heap.size + 1 + 1) 31 #[.int .i64 m.b1, .slice D1 m.z1.length E1, .int .i64 m.b2, .slice D2 m.z2.length E2, .int .i64 0, .slice none 0 0, .int .i64 0] := by rw [hV]; exact (c2.set_ 2 _).set_ 3 _
  have hbV : Below w.heap.size w V2 := by rw [hV]; exact (by repeat (first | with_reducible exact hbw | with_reducible refine Below.setCell ?_ (by first | omega | (simp <;> omega)) _ | with_reducible refine Below.alloc ?_ (by first | omega | (simp <;> omega)) _ | with_reducible refine Below.drew ?_))
  have hzV2 : V2.heap.size = w2.heap.size := by rw [hV]; simp
  clear hV o2 c0 c1 c2 e0 e1 g0 g1 g0f g1f hbw
  refine (toRegister_any m.b3 A3 C3 m.z3 V2 (hz1.below hbV)).mono ?_
  rintro e w3 ⟨D3, E3, rfl, o3, hb3⟩
  replace p1 := p1.below hb3
  replace p2 := p2.below hb3
  replace d0 := d0.below hb3
  replace d1 := d1.below hb3
  replace d2 := d2.below hb3
  have hs3 := hb3.size
  have hbw := hbV.trans (hb3.mono hbV.size)
  clear hb3 hbV
  have e0 := d0.at_ 6 rfl
  have g0 := d2.at_ 4 rfl
  have g1 := d2.at_ 5 rfl
  have g2 := d2.at_ 6 rfl
  have g0f := d2.thaw 4
  have g1f := d2.thaw 5
  have g2f := d2.thaw 6
  go_upto_region 5 with fail
  obtain ⟨V3, hV⟩ : ∃ V3, V3 = (w3.setCell ⟨w.heap.size + 1 + 1, 4, none⟩ (.int .i64 m.b3)).setCell ⟨w.heap.size + 1 + 1, 5, none⟩ (.slice D3 m.z3.length E3) := ⟨_, rfl⟩
  try rw [← hV]
  replace p1 : Own 2 V3 u.heap.size w1.heap.size (.slice D1 m.z1.length E1) m.z1 := by rw [hV]; exact (p1.setCell (.inl (by simp; omega)) _).setCell (.inl (by simp; omega)) _
  replace p2 : Own 2 V3 V.heap.size w2.heap.size (.slice D2 m.z2.length E2) m.z2 := by rw [hV]; exact (p2.setCell (.inl (by simp; omega)) _).setCell (.inl (by simp; omega)) _
  have p3 : Own 2 V3 V2.heap.size w3.heap.size (.slice D3 m.z3.length E3) m.z3 := by rw [hV]; exact (o3.setCell (.inl (by simp; omega)) _).setCell (.inl (by simp; omega)) _
  replace d0 : Bx V3 w.heap.size 26 #[.int .i64 m.b1, .slice A1 m.z1.length C1, .int .i64 m.b2, .slice A2 m.z2.length C2, .int .i64 m.b3, .slice A3 m.z3.length C3, .int .i64 m.p] := by rw [hV]; exact (d0.far (by simp <;> omega) _).far (by simp <;> omega) _
  replace d1 : Bx V3 (w.heap.size + 1) 31 #[.int .i64 0, .slice none 0 0, .int .i64 0, .slice none 0 0, .int .i64 0, .slice none 0 0, .int .i64 0] := by rw [hV]; exact (d1.far (by simp) _).far (by simp) _
  replace d2 : Bx V3 (w.heap.size + 1 + 1) 31 #[.int .i64 m.b1, .slice D1 m.z1.length E1, .int .i64 m.b2, .slice D2 m.z2.length E2, .int .i64 m.b3, .slice D3 m.z3.length E3, .int .i64 0] := by rw [hV]; exact (d2.set_ 4 _).set_ 5 _
  have hbV : Below w.heap.size w V3 := by rw [hV]; exact (by repeat (first | with_reducible exact hbw | with_reducible refine Below.setCell ?_ (by first | omega | (simp <;> omega)) _ | with_reducible refine Below.alloc ?_ (by first | omega | (simp <;> omega)) _ | with_reducible refine Below.drew ?_))
  have hzV3 : V3.heap.size = w3.heap.size := by rw [hV]; simp
  clear hV o3 e0 g0 g1 g2 g0f g1f g2f hbw
  have e0 := d0.at_ 6 rfl
  have g0 := d2.at_ 6 rfl
  have g0f := d2.thaw 6
  go_upto_region 6 with fail
  obtain ⟨V4, hV⟩ : ∃ V4, V4 = V3.setCell ⟨w.heap.size + 1 + 1, 6, none⟩ (.int .i64 m.p) := ⟨_, rfl⟩
  try rw [← hV]
  replace p1 : Own 2 V4 u.heap.size w1.heap.size (.slice D1 m.z1.length E1) m.z1 := by rw [hV]; exact p1.setCell (.inl (by simp; omega)) _
  replace p2 : Own 2 V4 V.heap.size w2.heap.size (.slice D2 m.z2.length E2) m.z2 := by rw [hV]; exact p2.setCell (.inl (by simp; omega)) _
  replace p3 : Own 2 V4 V2.heap.size w3.heap.size (.slice D3 m.z3.length E3) m.z3 := by rw [hV]; exact p3.setCell (.inl (by simp; omega)) _
  replace d1 : Bx V4 (w.heap.size + 1) 31 #[.int .i64 0, .slice none 0 0, .int .i64 0, .slice none 0 0, .int .i64 0, .slice none 0 0, .int .i64 0] := by rw [hV]; exact d1.far (by simp) _
  replace d2 : Bx V4 (w.heap.size + 1 + 1) 31 #[.int .i64 m.b1, .slice D1 m.z1.length E1, .int .i64 m.b2, .slice D2 m.z2.length E2, .int .i64 m.b3, .slice D3 m.z3.length E3, .int .i64 m.p] := by rw [hV]; exact d2.set_ 6 _
  replace hbV : Below w.heap.size w V4 := by rw [hV]; exact (by repeat (first | with_reducible exact hbV | with_reducible refine Below.setCell ?_ (by first | omega | (simp <;> omega)) _ | with_reducible refine Below.alloc ?_ (by first | omega | (simp <;> omega)) _ | with_reducible refine Below.drew ?_))
  have hzV4 : V4.heap.size = V3.heap.size := by rw [hV]; simp
  clear hV e0 g0 g0f
  have k0 := d2.at_ 0 rfl
  have k1 := d2.at_ 1 rfl
  have k2 := d2.at_ 2 rfl
  have k3 := d2.at_ 3 rfl
  have k4 := d2.at_ 4 rfl
  have k5 := d2.at_ 5 rfl
  have k6 := d2.at_ 6 rfl
  have j0 := d1.at_ 0 rfl
  have j1 := d1.at_ 1 rfl
  have j2 := d1.at_ 2 rfl
  have j3 := d1.at_ 3 rfl
  have j4 := d1.at_ 4 rfl
  have j5 := d1.at_ 5 rfl
  have j6 := d1.at_ 6 rfl
  have f0 := d1.thaw 0
  have f1 := d1.thaw 1
  have f2 := d1.thaw 2
  have f3 := d1.thaw 3
  have f4 := d1.thaw 4
  have f5 := d1.thaw 5
  have f6 := d1.thaw 6
  have hl := d1.lt
  have z0 : u.heap.size ≤ w1.heap.size := by omega
  have q0 : w.heap.size + 1 < u.heap.size := by omega
  have q1 : w.heap.size + 1 < V.heap.size := by omega
  have q2 : w.heap.size + 1 < V2.heap.size := by omega
  have HQ := Lib.hid (show w.heap.size ≤ u.heap.size ∧ w.heap.size ≤ V.heap.size ∧ w.heap.size ≤ V2.heap.size ∧ w1.heap.size ≤ V4.heap.size ∧ w2.heap.size ≤ V4.heap.size ∧ w3.heap.size ≤ V4.heap.size ∧ w1.heap.size ≤ V.heap.size ∧ V.heap.size ≤ w2.heap.size ∧ w2.heap.size ≤ V2.heap.size by omega)
  clear hz hzV hzV2 hzV3 hzV4 hs1 hs2 hs3 z0
  have bz : Bx (((((((V4.setCell ⟨w.heap.size + 1, 0, none⟩ (.int .i64 m.b1)).setCell ⟨w.heap.size + 1, 1, none⟩ (.slice D1 m.z1.length E1)).setCell ⟨w.heap.size + 1, 2, none⟩ (.int .i64 m.b2)).setCell ⟨w.heap.size + 1, 3, none⟩ (.slice D2 m.z2.length E2)).setCell ⟨w.heap.size + 1, 4, none⟩ (.int .i64 m.b3)).setCell ⟨w.heap.size + 1, 5, none⟩ (.slice D3 m.z3.length E3)).setCell ⟨w.heap.size + 1, 6, none⟩ (.int .i64 m.p)) (w.heap.size + 1) 31 #[.int .i64 m.b1, .slice D1 m.z1.length E1, .int .i64 m.b2, .slice D2 m.z2.length E2, .int .i64 m.b3, .slice D3 m.z3.length E3, .int .i64 m.p] := bx_put7 d1
  have r0 := bz.at_ 0 rfl
  have r1 := bz.at_ 1 rfl
  have r2 := bz.at_ 2 rfl
  have r3 := bz.at_ 3 rfl
  have r4 := bz.at_ 4 rfl
  have r5 := bz.at_ 5 rfl
  have r6 := bz.at_ 6 rfl
  clear bz
  go_wp2
  exact bodyPost_ret (v := .agg #[.int .i64 m.b1, .slice D1 m.z1.length E1, .int .i64 m.b2, .slice D2 m.z2.length E2, .int .i64 m.b3, .slice D3 m.z3.length E3, .int .i64 m.p]) (by simp [results, Try.results8, go_sem, r0, r1, r2, r3, r4, r5, r6]) rfl
    ⟨D1, E1, D2, E2, D3, E3, rfl, ⟨u.heap.size, w1.heap.size, V.heap.size, w2.heap.size, V2.heap.size, w3.heap.size, (((((((p1.setCell (p := ⟨w.heap.size + 1, 0, none⟩) (.inl (by assumption)) _).setCell (p := ⟨w.heap.size + 1, 1, none⟩) (.inl (by assumption)) _).setCell (p := ⟨w.heap.size + 1, 2, none⟩) (.inl (by assumption)) _).setCell (p := ⟨w.heap.size + 1, 3, none⟩) (.inl (by assumption)) _).setCell (p := ⟨w.heap.size + 1, 4, none⟩) (.inl (by assumption)) _).setCell (p := ⟨w.heap.size + 1, 5, none⟩) (.inl (by assumption)) _).setCell (p := ⟨w.heap.size + 1, 6, none⟩) (.inl (by assumption)) _), (((((((p2.setCell (p := ⟨w.heap.size + 1, 0, none⟩) (.inl (by assumption)) _).setCell (p := ⟨w.heap.size + 1, 1, none⟩) (.inl (by assumption)) _).setCell (p := ⟨w.heap.size + 1, 2, none⟩) (.inl (by assumption)) _).setCell (p := ⟨w.heap.size + 1, 3, none⟩) (.inl (by assumption)) _).setCell (p := ⟨w.heap.size + 1, 4, none⟩) (.inl (by assumption)) _).setCell (p := ⟨w.heap.size + 1, 5, none⟩) (.inl (by assumption)) _).setCell (p := ⟨w.heap.size + 1, 6, none⟩) (.inl (by assumption)) _), (((((((p3.setCell (p := ⟨w.heap.size + 1, 0, none⟩) (.inl (by assumption)) _).setCell (p := ⟨w.heap.size + 1, 1, none⟩) (.inl (by assumption)) _).setCell (p := ⟨w.heap.size + 1, 2, none⟩) (.inl (by assumption)) _).setCell (p := ⟨w.heap.size + 1, 3, none⟩) (.inl (by assumption)) _).setCell (p := ⟨w.heap.size + 1, 4, none⟩) (.inl (by assumption)) _).setCell (p := ⟨w.heap.size + 1, 5, none⟩) (.inl (by assumption)) _).setCell (p := ⟨w.heap.size + 1, 6, none⟩) (.inl (by assumption)) _), by have := HQ.out; simp; omega⟩, (by repeat (first | with_reducible exact hbV | with_reducible refine Below.setCell ?_ (by first | omega | (simp <;> omega)) _ | with_reducible refine Below.alloc ?_ (by first | omega | (simp <;> omega)) _ | with_reducible refine Below.drew ?_))⟩

set_option maxHeartbeats 1000000 in
theorem szMachine_any (b1 : Int) (a1 : Option Addr) (n1 c1 : Nat) (b2 : Int) (a2 : Option Addr) (n2 c2 : Nat) (b3 : Int) (a3 : Option Addr) (n3 c3 : Nat) (p left : Int) (w : World) (hn : n1 ≤ 9223372036854775807 ∧ n2 ≤ 9223372036854775807 ∧ n3 ≤ 9223372036854775807) (hl : 0 ≤ left) (hl' : left ≤ 1048576) :
    Calls Try.prog 6 #[.agg #[.int .i64 b1, .slice a1 n1 c1, .int .i64 b2, .slice a2 n2 c2, .int .i64 b3, .slice a3 n3 c3, .int .i64 p], .int .i64 left] w fun e w' => e = .returned (.int .i64 (leftOf (n1 + n2 + n3) left)) ∧ Below w.heap.size w w' := by
  obtain ⟨u, hu⟩ : ∃ u, u = w.alloc (.cells #[.int .i64 b1, .slice a1 n1 c1, .int .i64 b2, .slice a2 n2 c2, .int .i64 b3, .slice a3 n3 c3, .int .i64 p] 26) := ⟨_, rfl⟩
  have bx : Bx u w.heap.size 26 #[.int .i64 b1, .slice a1 n1 c1, .int .i64 b2, .slice a2 n2 c2, .int .i64 b3, .slice a3 n3 c3, .int .i64 p] := by rw [hu]; exact Bx.new _ _ _
  have hbel : Below w.heap.size w u := by rw [hu]; exact (by repeat (first | exact Below.refl _ _ | refine Below.setCell ?_ (by first | omega | (simp <;> omega)) _ | refine Below.alloc ?_ (by first | omega | (simp <;> omega)) _ | refine Below.drew ?_))
  have HU := Lib.hid hu
  clear hu
  rcases Int.lt_or_le (left - (n1 : Int)) 0 with h | h
  · have HN := Lib.hid (szRegister_any b1 a1 n1 c1 left u hn.1 hl hl')
    rw [show leftOf n1 left = -1 by rw [leftOf, if_pos h]] at HN
    have HE := Lib.hid (show leftOf (n1 + n2 + n3) left = -1 by rw [leftOf, if_pos (by omega)])
    go_enter Try.func6, Try.ntmps6
    go_wp2_with fail
    rw [← HU.out]
    refine HN.out.mono ?_
    rintro e w1 ⟨rfl, hb⟩
    go_wp2
    go_ret
    exact ⟨ret_int HE.out.symm, hbel.trans (hb.mono hbel.size)⟩
  · have HN := Lib.hid (szRegister_any b1 a1 n1 c1 left u hn.1 hl hl')
    rw [show leftOf n1 left = left - n1 by rw [leftOf, if_neg (by omega)]] at HN
    rcases Int.lt_or_le (left - (n1 : Int) - (n2 : Int)) 0 with h2 | h2
    · have HM := Lib.hid (fun v => szRegister_any b2 a2 n2 c2 (left - n1) v hn.2.1 h (by omega))
      rw [show leftOf n2 (left - n1) = -1 by rw [leftOf, if_pos h2]] at HM
      have HE := Lib.hid (show leftOf (n1 + n2 + n3) left = -1 by rw [leftOf, if_pos (by omega)])
      go_enter Try.func6, Try.ntmps6
      go_wp2_with fail
      rw [← HU.out]
      refine HN.out.mono ?_
      rintro e w1 ⟨rfl, hb⟩
      replace bx := bx.below hb
      replace hbel := hbel.trans (hb.mono hbel.size)
      clear hb
      have c2 := bx.at_ 2 rfl
      have c3 := bx.at_ 3 rfl
      go_wp2_with fail
      refine (HM.out w1).mono ?_
      rintro e w2 ⟨rfl, hb⟩
      go_wp2
      go_ret
      exact ⟨ret_int HE.out.symm, hbel.trans (hb.mono hbel.size)⟩
    · have HM := Lib.hid (fun v => szRegister_any b2 a2 n2 c2 (left - n1) v hn.2.1 h (by omega))
      rw [show leftOf n2 (left - n1) = left - n1 - n2 by rw [leftOf, if_neg (by omega)]] at HM
      have HK := Lib.hid (fun v => szRegister_any b3 a3 n3 c3 (left - n1 - n2) v hn.2.2 h2 (by omega))
      have HE := Lib.hid (show leftOf n3 (left - n1 - n2) = leftOf (n1 + n2 + n3) left by unfold leftOf; split <;> split <;> omega)
      rw [HE.out] at HK
      rcases Int.lt_or_le (leftOf (n1 + n2 + n3) left) 0 with h3 | h3
      all_goals
        have HF := Lib.hid (show leftOf (n1 + n2 + n3) left < 0 → leftOf (n1 + n2 + n3) left = -1 by unfold leftOf; split <;> omega)
        go_enter Try.func6, Try.ntmps6
        go_wp2_with fail
        rw [← HU.out]
        refine HN.out.mono ?_
        rintro e w1 ⟨rfl, hb⟩
        replace bx := bx.below hb
        replace hbel := hbel.trans (hb.mono hbel.size)
        clear hb
        have c2 := bx.at_ 2 rfl
        have c3 := bx.at_ 3 rfl
        go_wp2_with fail
        refine (HM.out w1).mono ?_
        rintro e w2 ⟨rfl, hb⟩
        replace bx := bx.below hb
        replace hbel := hbel.trans (hb.mono hbel.size)
        clear hb c2 c3
        have c4 := bx.at_ 4 rfl
        have c5 := bx.at_ 5 rfl
        go_wp2_with fail
        refine (HK.out w2).mono ?_
        rintro e w3 ⟨rfl, hb⟩
        go_wp2
        go_ret
        exact ⟨ret_int (by first | exact rfl | exact (HF.out h3).symm), hbel.trans (hb.mono hbel.size)⟩

set_option maxHeartbeats 2000000 in
theorem eqMachine_any (m n : Mac) (A1 : Option Addr) (C1 : Nat) (A2 : Option Addr) (C2 : Nat) (A3 : Option Addr) (C3 : Nat) (D1 : Option Addr) (E1 : Nat) (D2 : Option Addr) (E2 : Nat) (D3 : Option Addr) (E3 : Nat) (w : World) (h : Rd3 w A1 m.z1 A2 m.z2 A3 m.z3) (k : Rd3 w D1 n.z1 D2 n.z2 D3 n.z3) :
    Calls Try.prog 10 #[.agg #[.int .i64 m.b1, .slice A1 m.z1.length C1, .int .i64 m.b2, .slice A2 m.z2.length C2, .int .i64 m.b3, .slice A3 m.z3.length C3, .int .i64 m.p], .agg #[.int .i64 n.b1, .slice D1 n.z1.length E1, .int .i64 n.b2, .slice D2 n.z2.length E2, .int .i64 n.b3, .slice D3 n.z3.length E3, .int .i64 n.p]] w fun e w' => e = .returned (.bool (macEqB m n)) ∧ Below w.heap.size w w' := by
  obtain ⟨u, hu⟩ : ∃ u, u = (w.alloc (.cells #[.int .i64 m.b1, .slice A1 m.z1.length C1, .int .i64 m.b2, .slice A2 m.z2.length C2, .int .i64 m.b3, .slice A3 m.z3.length C3, .int .i64 m.p] 31)).alloc (.cells #[.int .i64 n.b1, .slice D1 n.z1.length E1, .int .i64 n.b2, .slice D2 n.z2.length E2, .int .i64 n.b3, .slice D3 n.z3.length E3, .int .i64 n.p] 31) := ⟨_, rfl⟩
  have bx : Bx u w.heap.size 31 #[.int .i64 m.b1, .slice A1 m.z1.length C1, .int .i64 m.b2, .slice A2 m.z2.length C2, .int .i64 m.b3, .slice A3 m.z3.length C3, .int .i64 m.p] := by rw [hu]; exact (Bx.new _ _ _).alloc _
  have by_ : Bx u (w.heap.size + 1) 31 #[.int .i64 n.b1, .slice D1 n.z1.length E1, .int .i64 n.b2, .slice D2 n.z2.length E2, .int .i64 n.b3, .slice D3 n.z3.length E3, .int .i64 n.p] := by rw [hu]; simpa using Bx.new (w.alloc (.cells #[.int .i64 m.b1, .slice A1 m.z1.length C1, .int .i64 m.b2, .slice A2 m.z2.length C2, .int .i64 m.b3, .slice A3 m.z3.length C3, .int .i64 m.p] 31)) #[.int .i64 n.b1, .slice D1 n.z1.length E1, .int .i64 n.b2, .slice D2 n.z2.length E2, .int .i64 n.b3, .slice D3 n.z3.length E3, .int .i64 n.p] 31
  have hbel : Below w.heap.size w u := by rw [hu]; exact (by repeat (first | exact Below.refl _ _ | refine Below.setCell ?_ (by first | omega | (simp <;> omega)) _ | refine Below.alloc ?_ (by first | omega | (simp <;> omega)) _ | refine Below.drew ?_))
  replace h := h.below hbel
  replace k := k.below hbel
  have H1 := Lib.hid (eqRegister_any m.b1 n.b1 A1 D1 C1 E1 m.z1 n.z1 u h.x k.x)
  have H2 := Lib.hid (fun (v : World) (hb : Below u.heap.size u v) => eqRegister_any m.b2 n.b2 A2 D2 C2 E2 m.z2 n.z2 v (h.y.below hb) (k.y.below hb))
  have H3 := Lib.hid (fun (v : World) (hb : Below u.heap.size u v) => eqRegister_any m.b3 n.b3 A3 D3 C3 E3 m.z3 n.z3 v (h.z.below hb) (k.z.below hb))
  have HE := Lib.hid (show macEqB m n = (regEqB m.b1 n.b1 m.z1 n.z1 && (regEqB m.b2 n.b2 m.z2 n.z2 && (regEqB m.b3 n.b3 m.z3 n.z3 && decide (m.p = n.p)))) from rfl)
  have HU := Lib.hid hu
  clear hu h k
  cases q1 : regEqB m.b1 n.b1 m.z1 n.z1 with
  | false =>
    rw [q1] at H1 HE
    go_enter Try.func10, Try.ntmps10
    go_wp2_with fail
    rw [← HU.out]
    refine H1.out.mono ?_
    rintro e w1 ⟨rfl, hb⟩
    go_wp2
    go_ret
    exact ⟨ret_bool (by rw [HE.out]; rfl), hbel.trans (hb.mono hbel.size)⟩
  | true =>
    rw [q1] at H1 HE
    cases q2 : regEqB m.b2 n.b2 m.z2 n.z2 with
    | false =>
      rw [q2] at H2 HE
      go_enter Try.func10, Try.ntmps10
      go_wp2_with fail
      rw [← HU.out]
      refine H1.out.mono ?_
      rintro e w1 ⟨rfl, hb⟩
      have c0 := (bx.below hb).at_ 2 rfl
      have c1 := (bx.below hb).at_ 3 rfl
      have d0 := (by_.below hb).at_ 2 rfl
      have d1 := (by_.below hb).at_ 3 rfl
      go_wp2_with fail
      refine (H2.out w1 hb).mono ?_
      rintro e w2 ⟨rfl, hb2⟩
      go_wp2
      go_ret
      exact ⟨ret_bool (by rw [HE.out]; rfl), hbel.trans ((hb.trans (hb2.mono hb.size)).mono hbel.size)⟩
    | true =>
      rw [q2] at H2 HE
      cases q3 : regEqB m.b3 n.b3 m.z3 n.z3 with
      | false =>
        rw [q3] at H3 HE
        go_enter Try.func10, Try.ntmps10
        go_wp2_with fail
        rw [← HU.out]
        refine H1.out.mono ?_
        rintro e w1 ⟨rfl, hb⟩
        have c0 := (bx.below hb).at_ 2 rfl
        have c1 := (bx.below hb).at_ 3 rfl
        have d0 := (by_.below hb).at_ 2 rfl
        have d1 := (by_.below hb).at_ 3 rfl
        go_wp2_with fail
        refine (H2.out w1 hb).mono ?_
        rintro e w2 ⟨rfl, hb2⟩
        replace hb := hb.trans (hb2.mono hb.size)
        clear hb2 c0 c1 d0 d1
        have c0 := (bx.below hb).at_ 4 rfl
        have c1 := (bx.below hb).at_ 5 rfl
        have d0 := (by_.below hb).at_ 4 rfl
        have d1 := (by_.below hb).at_ 5 rfl
        go_wp2_with fail
        refine (H3.out w2 hb).mono ?_
        rintro e w3 ⟨rfl, hb2⟩
        go_wp2
        go_ret
        exact ⟨ret_bool (by rw [HE.out]; rfl), hbel.trans ((hb.trans (hb2.mono hb.size)).mono hbel.size)⟩
      | true =>
        rw [q3] at H3 HE
        cases q4 : decide (m.p = n.p)
        all_goals
          have hbe : (m.p != n.p) = !(decide (m.p = n.p)) := rfl
          rw [q4] at HE hbe
          simp only [Bool.not_true, Bool.not_false] at hbe
          clear q1 q2 q3 q4
          go_enter Try.func10, Try.ntmps10
          go_wp2_with fail
          rw [← HU.out]
          refine H1.out.mono ?_
          rintro e w1 ⟨rfl, hb⟩
          have c0 := (bx.below hb).at_ 2 rfl
          have c1 := (bx.below hb).at_ 3 rfl
          have d0 := (by_.below hb).at_ 2 rfl
          have d1 := (by_.below hb).at_ 3 rfl
          go_wp2_with fail
          refine (H2.out w1 hb).mono ?_
          rintro e w2 ⟨rfl, hb2⟩
          replace hb := hb.trans (hb2.mono hb.size)
          clear hb2 c0 c1 d0 d1
          have c0 := (bx.below hb).at_ 4 rfl
          have c1 := (bx.below hb).at_ 5 rfl
          have d0 := (by_.below hb).at_ 4 rfl
          have d1 := (by_.below hb).at_ 5 rfl
          go_wp2_with fail
          refine (H3.out w2 hb).mono ?_
          rintro e w3 ⟨rfl, hb2⟩
          replace hb := hb.trans (hb2.mono hb.size)
          clear hb2 c0 c1 d0 d1
          have c0 := (bx.below hb).at_ 6 rfl
          have d0 := (by_.below hb).at_ 6 rfl
          go_wp2
          go_ret
          exact ⟨ret_bool (by rw [HE.out]; rfl), hbel.trans (hb.mono hbel.size)⟩

end Go.Proofs.Ytmjeiagkdcfeiaa
