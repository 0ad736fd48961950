/-
  Several texts in one: MnwI, MnwS, McpI, McpS, MsvI, MsdI, MsvS.
-/
import Derived.Test.YtlahobdopmdfmaaDoorMacLow
import Derived.Test.YtlahobdopmdfmaaDoorNewReg
import Derived.Test.YtlahobdopmdfmaaDoorWid3
import Derived.Test.YtlahobdopmdfmaaDoorCloneI
import Derived.Test.YtlahobdopmdfmaaDoorBox
import Derived.Test.YtlahobdopmdfmaaDoorWithin
import Derived.Deep.Cut
import Derived.Deep.RegionHeld3

/- MnwI -/
namespace Go.Proofs.YtlahobdopmdfmaaDoor
open Go.RowKit

theorem implNewReg_at (b n v : Int) (w : World) (h1 : I64 b) (h2 : I64 n) (h3 : I64 v) : Calls Tryd.prog 136 #[.int .i64 b, .int .i64 n, .int .i64 v] w fun e w' => ∃ A C,
    e = .returned (.tuple #[.agg #[.int .i64 (nrR b n v).1, .slice A (nrR b n v).2.1.length C], .int .i64 (nrR b n v).2.2]) ∧ Own 2 w' w.heap.size w'.heap.size (.slice A (nrR b n v).2.1.length C) (nrR b n v).2.1 ∧ Below w.heap.size w w' := implNewRegister b n v w h1 h2 h3

set_option maxHeartbeats 4000000 in
set_option maxRecDepth 100000 in
theorem implNewMachine (b s r c : Int) (w : World) (hb : I64 b) (hs : I64 s) (hr : I64 r) (hc : I64 c) (hD : BellD w) :
    Calls Tryd.prog 59 #[.int .i64 b, .int .i64 s, .int .i64 r, .int .i64 c] w (MacC (nmR b s r c) w) := by
  have R := Tryd.results59
  have i0 : I64 0 := by unfold I64; decide
  obtain ⟨B1, Z1, k1, e1⟩ : ∃ B1 Z1 k1, nrR b s 0 = (B1, Z1, k1) := ⟨_, _, _, rfl⟩
  obtain ⟨B2, Z2, k2, e2⟩ : ∃ B1 Z1 k1, nrR b r 0 = (B1, Z1, k1) := ⟨_, _, _, rfl⟩
  obtain ⟨B3, Z3, k3, e3⟩ : ∃ B1 Z1 k1, nrR b c 0 = (B1, Z1, k1) := ⟨_, _, _, rfl⟩
  have HN1 := Lib.hid (fun v => implNewReg_at b s 0 v hb hs i0)
  have HN2 := Lib.hid (fun v => implNewReg_at b r 0 v hb hr i0)
  have HN3 := Lib.hid (fun v => implNewReg_at b c 0 v hb hc i0)
  rw [e1] at HN1
  rw [e2] at HN2
  rw [e3] at HN3
  have HM := Lib.hid (show rawM b s r c = ⟨B1, Z1, B2, Z2, B3, Z3, 0⟩ by rw [rawM, e1, e2, e3])
  have HW := Lib.hid (show (All64 Z1 ∧ All64 Z2 ∧ All64 Z3) ∧ (I64 B1 ∧ I64 B2 ∧ I64 B3 ∧ I64 0) from
    have q1 := nrR_wf (n := s) hb
    have q2 := nrR_wf (n := r) hb
    have q3 := nrR_wf (n := c) hb
    ⟨⟨by rw [e1] at q1; exact q1.2, by rw [e2] at q2; exact q2.2, by rw [e3] at q3; exact q3.2⟩, by rw [e1] at q1; exact q1.1, by rw [e2] at q2; exact q2.1, by rw [e3] at q3; exact q3.1, i0⟩)
  clear e1 e2 e3
  obtain ⟨m, hm⟩ : ∃ m : Mac, m = ⟨B1, Z1, B2, Z2, B3, Z3, 0⟩ := ⟨_, rfl⟩
  rw [← hm] at HM
  obtain ⟨g, hg⟩ : ∃ g, g = w.heap.size := ⟨_, rfl⟩
  obtain ⟨u, hu⟩ : ∃ u, u = (w.alloc (.cells #[.int .i64 0, .slice none 0 0, .int .i64 0, .slice none 0 0, .int .i64 0, .slice none 0 0, .int .i64 0] 28)).alloc (.cells #[.int .i64 0, .slice none 0 0, .int .i64 0, .slice none 0 0, .int .i64 0, .slice none 0 0, .int .i64 0] 28) := ⟨_, rfl⟩
  have hbel : Below w.heap.size w u := by rw [hu]; exact (by repeat (first | exact Below.refl _ _ | refine Below.setCell ?_ (by first | omega | (simp <;> omega)) _ | refine Below.alloc ?_ (by first | omega | (simp <;> omega)) _ | refine Below.drew ?_))
  have br : Bx u g 28 #[.int .i64 0, .slice none 0 0, .int .i64 0, .slice none 0 0, .int .i64 0, .slice none 0 0, .int .i64 0] := by rw [hu, hg]; exact (Bx.new _ _ _).alloc _
  have bm : Bx u (g + 1) 28 #[.int .i64 0, .slice none 0 0, .int .i64 0, .slice none 0 0, .int .i64 0, .slice none 0 0, .int .i64 0] := by rw [hu, hg]; simpa using Bx.new (w.alloc (.cells #[.int .i64 0, .slice none 0 0, .int .i64 0, .slice none 0 0, .int .i64 0, .slice none 0 0, .int .i64 0] 28)) #[.int .i64 0, .slice none 0 0, .int .i64 0, .slice none 0 0, .int .i64 0, .slice none 0 0, .int .i64 0] 28
  have hgu : g + 1 < u.heap.size := bm.lt
  have HG := Lib.hid hg
  have HU := Lib.hid hu
  clear hu
  go_enter Tryd.func59, Tryd.ntmps59
  go_wp2_with fail
  rw [← HU.out, ← hg]
  clear hg
  refine (HN1.out u).mono ?_
  rintro e w1 ⟨A1, C1, rfl, own1, hb1⟩
  replace br := br.below hb1
  replace bm := bm.below hb1
  have hz1 := hb1.size
  replace hbel := hbel.trans (hb1.mono hbel.size)
  clear hb1
  have c0 := bm.at_ 0 rfl
  have c1 := bm.at_ 1 rfl
  have f0 := bm.thaw 0
  have f1 := bm.thaw 1
  go_wp2_with fail
  obtain ⟨V1, hV⟩ : ∃ V, V = (w1.setCell ⟨g + 1, 0, none⟩ (.int .i64 B1)).setCell ⟨g + 1, 1, none⟩ (.slice A1 Z1.length C1) := ⟨_, rfl⟩
  try rw [← hV]
  replace own1 : Own 2 V1 u.heap.size w1.heap.size (.slice A1 Z1.length C1) Z1 := by rw [hV]; exact (own1.setCell (.inl (by simp; omega)) _).setCell (.inl (by simp; omega)) _
  replace br : Bx V1 g 28 #[.int .i64 0, .slice none 0 0, .int .i64 0, .slice none 0 0, .int .i64 0, .slice none 0 0, .int .i64 0] := by rw [hV]; exact (br.far (by simp) _).far (by simp) _
  replace bm : Bx V1 (g + 1) 28 #[.int .i64 B1, .slice A1 Z1.length C1, .int .i64 0, .slice none 0 0, .int .i64 0, .slice none 0 0, .int .i64 0] := by rw [hV]; exact (bm.set_ 0 _).set_ 1 _
  replace hbel : Below w.heap.size w V1 := by rw [hV]; have := HG.out; exact (by repeat (first | with_reducible exact hbel | with_reducible refine Below.setCell ?_ (by first | omega | (simp <;> omega)) _ | with_reducible refine Below.alloc ?_ (by first | omega | (simp <;> omega)) _ | with_reducible refine Below.drew ?_))
  have hy1 : V1.heap.size = w1.heap.size := by rw [hV]; simp
  clear hV c0 c1 f0 f1
  refine (HN2.out V1).mono ?_
  rintro e w2 ⟨A2, C2, rfl, own2, hb2⟩
  replace own1 := own1.below hb2
  replace br := br.below hb2
  replace bm := bm.below hb2
  have hz2 := hb2.size
  replace hbel := hbel.trans (hb2.mono hbel.size)
  clear hb2
  have c0 := bm.at_ 2 rfl
  have c1 := bm.at_ 3 rfl
  have f0 := bm.thaw 2
  have f1 := bm.thaw 3
  go_wp2_with fail
  obtain ⟨V2, hV⟩ : ∃ V, V = (w2.setCell ⟨g + 1, 2, none⟩ (.int .i64 B2)).setCell ⟨g + 1, 3, none⟩ (.slice A2 Z2.length C2) := ⟨_, rfl⟩
  try rw [← hV]
  replace own1 : Own 2 V2 u.heap.size w1.heap.size (.slice A1 Z1.length C1) Z1 := by rw [hV]; exact (own1.setCell (.inl (by simp; omega)) _).setCell (.inl (by simp; omega)) _
  replace own2 : Own 2 V2 V1.heap.size w2.heap.size (.slice A2 Z2.length C2) Z2 := by rw [hV]; exact (own2.setCell (.inl (by simp; omega)) _).setCell (.inl (by simp; omega)) _
  replace br : Bx V2 g 28 #[.int .i64 0, .slice none 0 0, .int .i64 0, .slice none 0 0, .int .i64 0, .slice none 0 0, .int .i64 0] := by rw [hV]; exact (br.far (by simp) _).far (by simp) _
  replace bm : Bx V2 (g + 1) 28 #[.int .i64 B1, .slice A1 Z1.length C1, .int .i64 B2, .slice A2 Z2.length C2, .int .i64 0, .slice none 0 0, .int .i64 0] := by rw [hV]; exact (bm.set_ 2 _).set_ 3 _
  replace hbel : Below w.heap.size w V2 := by rw [hV]; have := HG.out; exact (by repeat (first | with_reducible exact hbel | with_reducible refine Below.setCell ?_ (by first | omega | (simp <;> omega)) _ | with_reducible refine Below.alloc ?_ (by first | omega | (simp <;> omega)) _ | with_reducible refine Below.drew ?_))
  have hy2 : V2.heap.size = w2.heap.size := by rw [hV]; simp
  clear hV c0 c1 f0 f1
  refine (HN3.out V2).mono ?_
  rintro e w3 ⟨A3, C3, rfl, own3, hb3⟩
  replace own1 := own1.below hb3
  replace own2 := own2.below hb3
  replace br := br.below hb3
  replace bm := bm.below hb3
  have hz3 := hb3.size
  replace hbel := hbel.trans (hb3.mono hbel.size)
  clear hb3
  have c0 := bm.at_ 4 rfl
  have c1 := bm.at_ 5 rfl
  have f0 := bm.thaw 4
  have f1 := bm.thaw 5
  go_upto_region 5 with fail
  obtain ⟨V3, hV⟩ : ∃ V, V = (w3.setCell ⟨g + 1, 4, none⟩ (.int .i64 B3)).setCell ⟨g + 1, 5, none⟩ (.slice A3 Z3.length C3) := ⟨_, rfl⟩
  try rw [← hV]
  replace own1 : Own 2 V3 u.heap.size w1.heap.size (.slice A1 Z1.length C1) Z1 := by rw [hV]; exact (own1.setCell (.inl (by simp; omega)) _).setCell (.inl (by simp; omega)) _
  replace own2 : Own 2 V3 V1.heap.size w2.heap.size (.slice A2 Z2.length C2) Z2 := by rw [hV]; exact (own2.setCell (.inl (by simp; omega)) _).setCell (.inl (by simp; omega)) _
  replace own3 : Own 2 V3 V2.heap.size w3.heap.size (.slice A3 Z3.length C3) Z3 := by rw [hV]; exact (own3.setCell (.inl (by simp; omega)) _).setCell (.inl (by simp; omega)) _
  replace br : Bx V3 g 28 #[.int .i64 0, .slice none 0 0, .int .i64 0, .slice none 0 0, .int .i64 0, .slice none 0 0, .int .i64 0] := by rw [hV]; exact (br.far (by simp) _).far (by simp) _
  replace bm : Bx V3 (g + 1) 28 #[.int .i64 B1, .slice A1 Z1.length C1, .int .i64 B2, .slice A2 Z2.length C2, .int .i64 B3, .slice A3 Z3.length C3, .int .i64 0] := by rw [hV]; exact (bm.set_ 4 _).set_ 5 _
  replace hbel : Below w.heap.size w V3 := by rw [hV]; have := HG.out; exact (by repeat (first | with_reducible exact hbel | with_reducible refine Below.setCell ?_ (by first | omega | (simp <;> omega)) _ | with_reducible refine Below.alloc ?_ (by first | omega | (simp <;> omega)) _ | with_reducible refine Below.drew ?_))
  have hy3 : V3.heap.size = w3.heap.size := by rw [hV]; simp
  clear hV c0 c1 f0 f1
  have HO : Hid (Own3 2 V3 u.heap.size w3.heap.size (.slice A1 m.z1.length C1) m.z1 (.slice A2 m.z2.length C2) m.z2 (.slice A3 m.z3.length C3) m.z3) := Lib.hid (by
    subst hm
    exact ⟨_, _, _, _, _, _, own1, own2, own3, by omega⟩)
  have bm2 : Bx V3 (g + 1) 28 #[.int .i64 m.b1, .slice A1 m.z1.length C1, .int .i64 m.b2, .slice A2 m.z2.length C2, .int .i64 m.b3, .slice A3 m.z3.length C3, .int .i64 m.p] := by subst hm; exact bm
  have hW2 := HW.out
  rw [show Z1 = m.z1 by rw [hm], show Z2 = m.z2 by rw [hm], show Z3 = m.z3 by rw [hm], show B1 = m.b1 by rw [hm], show B2 = m.b2 by rw [hm], show B3 = m.b3 by rw [hm]] at hW2
  have HV := Lib.hid (implValidMachine m A1 C1 A2 C2 A3 C3 V3 HO.out.rd hW2.1 ⟨hW2.2.1, hW2.2.2.1, hW2.2.2.2.1, by rw [hm]; exact i0⟩ (hD.below hbel))
  have HS := Lib.hid (show w.heap.size ≤ u.heap.size ∧ w3.heap.size ≤ V3.heap.size ∧ g < u.heap.size ∧ g + 1 < u.heap.size by have := HG.out; omega)
  clear own1 own2 own3 bm hW2 hm HW hz1 hz2 hz3 hy1 hy2 hy3 hD
  have c0 := bm2.at_ 0 rfl
  have c1 := bm2.at_ 1 rfl
  have c2 := bm2.at_ 2 rfl
  have c3 := bm2.at_ 3 rfl
  have c4 := bm2.at_ 4 rfl
  have c5 := bm2.at_ 5 rfl
  have c6 := bm2.at_ 6 rfl
  cases hv : macB m with
  | false =>
    have HR := Lib.hid (show nmR b s r c = (mac0, 2) by rw [nmR, HM.out, hv]; rfl)
    rw [hv] at HV
    clear hv
    go_wp2_with fail
    refine HV.out.mono ?_
    rintro e w4 ⟨rfl, hb⟩
    replace br := br.below hb
    replace hbel := hbel.trans (hb.mono hbel.size)
    clear hb c0 c1 c2 c3 c4 c5 c6
    have r0 := br.at_ 0 rfl
    have r1 := br.at_ 1 rfl
    have r2 := br.at_ 2 rfl
    have r3 := br.at_ 3 rfl
    have r4 := br.at_ 4 rfl
    have r5 := br.at_ 5 rfl
    have r6 := br.at_ 6 rfl
    have f0 := br.thaw 0
    have f1 := br.thaw 1
    have f2 := br.thaw 2
    have f3 := br.thaw 3
    have f4 := br.thaw 4
    have f5 := br.thaw 5
    have f6 := br.thaw 6
    have hl := br.lt
    go_wp2
    exact bodyPost_ret (v := .tuple #[.agg #[.int .i64 0, .slice none 0 0, .int .i64 0, .slice none 0 0, .int .i64 0, .slice none 0 0, .int .i64 0], .int .i64 2]) (by simp [results, go_sem, r0, r1, r2, r3, r4, r5, r6]) rfl (macC_err HR.out rfl (by have := HG.out; exact (by repeat (first | with_reducible exact hbel | with_reducible refine Below.setCell ?_ (by first | omega | (simp <;> omega)) _ | with_reducible refine Below.alloc ?_ (by first | omega | (simp <;> omega)) _ | with_reducible refine Below.drew ?_))))
  | true =>
    have HR := Lib.hid (show nmR b s r c = (m, 0) by rw [nmR, HM.out, hv]; rfl)
    rw [hv] at HV
    clear hv
    go_wp2_with fail
    refine HV.out.mono ?_
    rintro e w4 ⟨rfl, hb⟩
    replace br := br.below hb
    replace bm2 := bm2.below hb
    replace hbel := hbel.trans (hb.mono hbel.size)
    have HO2 := Lib.hid (HO.out.below hb)
    have HZ := Lib.hid hb.size
    clear hb c0 c1 c2 c3 c4 c5 c6
    have c0 := bm2.at_ 0 rfl
    have c1 := bm2.at_ 1 rfl
    have c2 := bm2.at_ 2 rfl
    have c3 := bm2.at_ 3 rfl
    have c4 := bm2.at_ 4 rfl
    have c5 := bm2.at_ 5 rfl
    have c6 := bm2.at_ 6 rfl
    have j0 := br.at_ 0 rfl
    have j1 := br.at_ 1 rfl
    have j2 := br.at_ 2 rfl
    have j3 := br.at_ 3 rfl
    have j4 := br.at_ 4 rfl
    have j5 := br.at_ 5 rfl
    have j6 := br.at_ 6 rfl
    have f0 := br.thaw 0
    have f1 := br.thaw 1
    have f2 := br.thaw 2
    have f3 := br.thaw 3
    have f4 := br.thaw 4
    have f5 := br.thaw 5
    have f6 := br.thaw 6
    have hl := br.lt
    have bz : Bx (((((((w4.setCell ⟨g, 0, none⟩ (.int .i64 m.b1)).setCell ⟨g, 1, none⟩ (.slice A1 m.z1.length C1)).setCell ⟨g, 2, none⟩ (.int .i64 m.b2)).setCell ⟨g, 3, none⟩ (.slice A2 m.z2.length C2)).setCell ⟨g, 4, none⟩ (.int .i64 m.b3)).setCell ⟨g, 5, none⟩ (.slice A3 m.z3.length C3)).setCell ⟨g, 6, none⟩ (.int .i64 m.p)) (g) 28 #[.int .i64 m.b1, .slice A1 m.z1.length C1, .int .i64 m.b2, .slice A2 m.z2.length C2, .int .i64 m.b3, .slice A3 m.z3.length C3, .int .i64 m.p] := bx_put7 br
    have r0 := bz.at_ 0 rfl
    have r1 := bz.at_ 1 rfl
    have r2 := bz.at_ 2 rfl
    have r3 := bz.at_ 3 rfl
    have r4 := bz.at_ 4 rfl
    have r5 := bz.at_ 5 rfl
    have r6 := bz.at_ 6 rfl
    clear bz
    go_wp2
    exact bodyPost_ret (v := .tuple #[.agg #[.int .i64 m.b1, .slice A1 m.z1.length C1, .int .i64 m.b2, .slice A2 m.z2.length C2, .int .i64 m.b3, .slice A3 m.z3.length C3, .int .i64 m.p], .int .i64 0]) (by simp [results, go_sem, r0, r1, r2, r3, r4, r5, r6]) rfl
      (macC_ok HR.out rfl (((((((HO2.out.setCell (p := ⟨g, 0, none⟩) (.inl HS.out.2.2.1) _).setCell (p := ⟨g, 1, none⟩) (.inl HS.out.2.2.1) _).setCell (p := ⟨g, 2, none⟩) (.inl HS.out.2.2.1) _).setCell (p := ⟨g, 3, none⟩) (.inl HS.out.2.2.1) _).setCell (p := ⟨g, 4, none⟩) (.inl HS.out.2.2.1) _).setCell (p := ⟨g, 5, none⟩) (.inl HS.out.2.2.1) _).setCell (p := ⟨g, 6, none⟩) (.inl HS.out.2.2.1) _) HS.out.1 (by have := HS.out; have := HZ.out; simp; omega) (by have := HG.out; exact (by repeat (first | with_reducible exact hbel | with_reducible refine Below.setCell ?_ (by first | omega | (simp <;> omega)) _ | with_reducible refine Below.alloc ?_ (by first | omega | (simp <;> omega)) _ | with_reducible refine Below.drew ?_))))
end Go.Proofs.YtlahobdopmdfmaaDoor

/- MnwS -/
namespace Go.Proofs.YtlahobdopmdfmaaDoor
open Go.RowKit

/-- A machine of its own. -/
def MacV (m : Mac) (w : World) (e : Ending) (w' : World) : Prop := ∃ (A1 : Option Addr) (C1 : Nat) (A2 : Option Addr) (C2 : Nat) (A3 : Option Addr) (C3 : Nat),
  e = .returned (.agg #[.int .i64 m.b1, .slice A1 m.z1.length C1, .int .i64 m.b2, .slice A2 m.z2.length C2, .int .i64 m.b3, .slice A3 m.z3.length C3, .int .i64 m.p]) ∧ Own3 2 w' w.heap.size w'.heap.size (.slice A1 m.z1.length C1) m.z1 (.slice A2 m.z2.length C2) m.z2 (.slice A3 m.z3.length C3) m.z3 ∧ Below w.heap.size w w'

theorem inB_dec {z lo hi : Int} : inB z lo hi = decide (lo ≤ z ∧ z ≤ hi) := by
  cases h : inB z lo hi with
  | true => exact (decide_eq_true (inB_true h)).symm
  | false => exact (decide_eq_false (by have := inB_false h; omega)).symm
theorem specl02New_at (b : Int) (n : Nat) (w : World) (hb1 : 2 ≤ b) (hb2 : b ≤ 16) (hn : n ≤ 16) :
    Calls Tryd.prog 129 #[.int .i64 b, .int .i64 n, .int .i64 0] w fun e w' => ∃ A C,
      e = .returned (.tuple #[.agg #[.int .i64 b, .slice A (digsR b n 0).length C], .int .i64 (leftR b n 0)]) ∧ Own 2 w' w.heap.size w'.heap.size (.slice A (digsR b n 0).length C) (digsR b n 0) ∧ Below w.heap.size w w' := by
  have := specl02New_any b 0 n w hb1 hb2 hn (by omega) (by omega)
  rw [digsR_len]
  exact this

set_option maxHeartbeats 4000000 in
set_option maxRecDepth 100000 in
theorem l10New_any (b : Int) (n1 n2 n3 : Nat) (w : World) (b0 : 2 ≤ b) (b1 : b ≤ 16) (h1 : n1 ≤ 16) (h2 : n2 ≤ 16) (h3 : n3 ≤ 16) :
    Calls Tryd.prog 135 #[.int .i64 b, .int .i64 n1, .int .i64 n2, .int .i64 n3] w (MacV ⟨b, digsR b n1 0, b, digsR b n2 0, b, digsR b n3 0, 0⟩ w) := by
  have R := Tryd.results135
  have HN1 := Lib.hid (fun v => specl02New_at b n1 v b0 b1 h1)
  have HN2 := Lib.hid (fun v => specl02New_at b n2 v b0 b1 h2)
  have HN3 := Lib.hid (fun v => specl02New_at b n3 v b0 b1 h3)
  obtain ⟨Z1, hZ1⟩ : ∃ Z, Z = digsR b n1 0 := ⟨_, rfl⟩
  obtain ⟨Z2, hZ2⟩ : ∃ Z, Z = digsR b n2 0 := ⟨_, rfl⟩
  obtain ⟨Z3, hZ3⟩ : ∃ Z, Z = digsR b n3 0 := ⟨_, rfl⟩
  rw [← hZ1] at HN1 ⊢
  rw [← hZ2] at HN2 ⊢
  rw [← hZ3] at HN3 ⊢
  obtain ⟨g, hg⟩ : ∃ g, g = w.heap.size := ⟨_, rfl⟩
  obtain ⟨u, hu⟩ : ∃ u, u = w.alloc (.cells #[.int .i64 0, .slice none 0 0, .int .i64 0, .slice none 0 0, .int .i64 0, .slice none 0 0, .int .i64 0] 28) := ⟨_, rfl⟩
  have hbel : Below w.heap.size w u := by rw [hu]; exact (by repeat (first | exact Below.refl _ _ | refine Below.setCell ?_ (by first | omega | (simp <;> omega)) _ | refine Below.alloc ?_ (by first | omega | (simp <;> omega)) _ | refine Below.drew ?_))
  have br : Bx u g 28 #[.int .i64 0, .slice none 0 0, .int .i64 0, .slice none 0 0, .int .i64 0, .slice none 0 0, .int .i64 0] := by rw [hu, hg]; exact Bx.new _ _ _
  have hgu : g < u.heap.size := br.lt
  have HG := Lib.hid hg
  have HU := Lib.hid hu
  clear hu hZ1 hZ2 hZ3 b0 b1 h1 h2 h3
  go_enter Tryd.func135, Tryd.ntmps135
  go_wp2_with fail
  rw [← HU.out, ← hg]
  clear hg
  refine (HN1.out u).mono ?_
  rintro e w1 ⟨A1, C1, rfl, own1, hb⟩
  replace br := br.below hb
  have hz1 := hb.size
  replace hbel := hbel.trans (hb.mono hbel.size)
  clear hb
  go_wp2_with fail
  obtain ⟨g1, hg1⟩ : ∃ g, g = w1.heap.size := ⟨_, rfl⟩
  obtain ⟨V1, hV⟩ : ∃ V, V = w1.alloc (.cells #[.int .i64 b, .slice A1 Z1.length C1] 26) := ⟨_, rfl⟩
  try rw [← hg1, ← hV]
  have bx1 : Bx V1 g1 26 #[.int .i64 b, .slice A1 Z1.length C1] := by rw [hV, hg1]; exact Bx.new _ _ _
  have hb : Below w1.heap.size w1 V1 := by rw [hV]; exact (Below.refl _ _).alloc (Nat.le_refl _) _
  have hy1 := hb.size
  have hx1 : g1 < V1.heap.size := bx1.lt
  replace own1 := own1.below hb
  replace br := br.below hb
  replace hbel := hbel.trans (hb.mono hbel.size)
  clear hb hV hg1
  refine (HN2.out V1).mono ?_
  rintro e w2 ⟨A2, C2, rfl, own2, hb⟩
  replace own1 := own1.below hb
  replace bx1 := bx1.below hb
  replace br := br.below hb
  have hz2 := hb.size
  replace hbel := hbel.trans (hb.mono hbel.size)
  clear hb
  go_wp2_with fail
  obtain ⟨g2, hg2⟩ : ∃ g, g = w2.heap.size := ⟨_, rfl⟩
  obtain ⟨V2, hV⟩ : ∃ V, V = w2.alloc (.cells #[.int .i64 b, .slice A2 Z2.length C2] 26) := ⟨_, rfl⟩
  try rw [← hg2, ← hV]
  have bx2 : Bx V2 g2 26 #[.int .i64 b, .slice A2 Z2.length C2] := by rw [hV, hg2]; exact Bx.new _ _ _
  have hb : Below w2.heap.size w2 V2 := by rw [hV]; exact (Below.refl _ _).alloc (Nat.le_refl _) _
  have hy2 := hb.size
  have hx2 : g2 < V2.heap.size := bx2.lt
  replace own1 := own1.below hb
  replace own2 := own2.below hb
  replace bx1 := bx1.below hb
  replace br := br.below hb
  replace hbel := hbel.trans (hb.mono hbel.size)
  clear hb hV hg2
  refine (HN3.out V2).mono ?_
  rintro e w3 ⟨A3, C3, rfl, own3, hb⟩
  replace own1 := own1.below hb
  replace bx1 := bx1.below hb
  replace own2 := own2.below hb
  replace bx2 := bx2.below hb
  replace br := br.below hb
  have hz3 := hb.size
  replace hbel := hbel.trans (hb.mono hbel.size)
  clear hb
  go_upto_region 4 with fail
  obtain ⟨g3, hg3⟩ : ∃ g, g = w3.heap.size := ⟨_, rfl⟩
  obtain ⟨V3, hV⟩ : ∃ V, V = w3.alloc (.cells #[.int .i64 b, .slice A3 Z3.length C3] 26) := ⟨_, rfl⟩
  try rw [← hg3, ← hV]
  have bx3 : Bx V3 g3 26 #[.int .i64 b, .slice A3 Z3.length C3] := by rw [hV, hg3]; exact Bx.new _ _ _
  have hb : Below w3.heap.size w3 V3 := by rw [hV]; exact (Below.refl _ _).alloc (Nat.le_refl _) _
  have hy3 := hb.size
  have hx3 : g3 < V3.heap.size := bx3.lt
  replace own1 := own1.below hb
  replace own2 := own2.below hb
  replace own3 := own3.below hb
  replace bx1 := bx1.below hb
  replace bx2 := bx2.below hb
  replace br := br.below hb
  replace hbel := hbel.trans (hb.mono hbel.size)
  clear hb hV hg3
  have HO : Hid (Own3 2 V3 u.heap.size w3.heap.size (.slice A1 Z1.length C1) Z1 (.slice A2 Z2.length C2) Z2 (.slice A3 Z3.length C3) Z3) := Lib.hid ⟨_, _, _, _, _, _, own1, own2, own3, by omega⟩
  have HS := Lib.hid (show w.heap.size ≤ u.heap.size ∧ w3.heap.size ≤ V3.heap.size ∧ g < u.heap.size by have := HG.out; omega)
  have d0 := bx1.at_ 0 rfl
  have d1 := bx1.at_ 1 rfl
  have d2 := bx2.at_ 0 rfl
  have d3 := bx2.at_ 1 rfl
  have d4 := bx3.at_ 0 rfl
  have d5 := bx3.at_ 1 rfl
  clear own1 own2 own3 bx1 bx2 bx3 hz1 hz2 hz3 hy1 hy2 hy3 hx1 hx2 hx3
  have j0 := br.at_ 0 rfl
  have j1 := br.at_ 1 rfl
  have j2 := br.at_ 2 rfl
  have j3 := br.at_ 3 rfl
  have j4 := br.at_ 4 rfl
  have j5 := br.at_ 5 rfl
  have j6 := br.at_ 6 rfl
  have f0 := br.thaw 0
  have f1 := br.thaw 1
  have f2 := br.thaw 2
  have f3 := br.thaw 3
  have f4 := br.thaw 4
  have f5 := br.thaw 5
  have f6 := br.thaw 6
  have hl := br.lt
  have bz : Bx (((((((V3.setCell ⟨g, 0, none⟩ (.int .i64 b)).setCell ⟨g, 1, none⟩ (.slice A1 Z1.length C1)).setCell ⟨g, 2, none⟩ (.int .i64 b)).setCell ⟨g, 3, none⟩ (.slice A2 Z2.length C2)).setCell ⟨g, 4, none⟩ (.int .i64 b)).setCell ⟨g, 5, none⟩ (.slice A3 Z3.length C3)).setCell ⟨g, 6, none⟩ (.int .i64 0)) (g) 28 #[.int .i64 b, .slice A1 Z1.length C1, .int .i64 b, .slice A2 Z2.length C2, .int .i64 b, .slice A3 Z3.length C3, .int .i64 0] := bx_put7 br
  have r0 := bz.at_ 0 rfl
  have r1 := bz.at_ 1 rfl
  have r2 := bz.at_ 2 rfl
  have r3 := bz.at_ 3 rfl
  have r4 := bz.at_ 4 rfl
  have r5 := bz.at_ 5 rfl
  have r6 := bz.at_ 6 rfl
  clear bz
  go_wp2
  exact bodyPost_ret (v := .agg #[.int .i64 b, .slice A1 Z1.length C1, .int .i64 b, .slice A2 Z2.length C2, .int .i64 b, .slice A3 Z3.length C3, .int .i64 0]) (by simp [results, go_sem, r0, r1, r2, r3, r4, r5, r6]) rfl
    ⟨A1, C1, A2, C2, A3, C3, rfl, (show Own3 2 _ u.heap.size w3.heap.size (.slice A1 Z1.length C1) Z1 (.slice A2 Z2.length C2) Z2 (.slice A3 Z3.length C3) Z3 from (((((((HO.out.setCell (p := ⟨g, 0, none⟩) (.inl HS.out.2.2) _).setCell (p := ⟨g, 1, none⟩) (.inl HS.out.2.2) _).setCell (p := ⟨g, 2, none⟩) (.inl HS.out.2.2) _).setCell (p := ⟨g, 3, none⟩) (.inl HS.out.2.2) _).setCell (p := ⟨g, 4, none⟩) (.inl HS.out.2.2) _).setCell (p := ⟨g, 5, none⟩) (.inl HS.out.2.2) _).setCell (p := ⟨g, 6, none⟩) (.inl HS.out.2.2) _)).wide HS.out.1 (by have := HS.out; simp; omega), by have := HG.out; exact (by repeat (first | with_reducible exact hbel | with_reducible refine Below.setCell ?_ (by first | omega | (simp <;> omega)) _ | with_reducible refine Below.alloc ?_ (by first | omega | (simp <;> omega)) _ | with_reducible refine Below.drew ?_))⟩

set_option maxHeartbeats 4000000 in
set_option maxRecDepth 100000 in
theorem specNewMachine (b s r c : Int) (w : World) (_ : I64 b) (_ : I64 s) (_ : I64 r) (_ : I64 c) :
    Calls Tryd.prog 58 #[.int .i64 b, .int .i64 s, .int .i64 r, .int .i64 c] w (MacC (nmR b s r c) w) := by
  have R := Tryd.results58
  obtain ⟨q0, h0⟩ : ∃ q, baseB b = q := ⟨_, rfl⟩
  obtain ⟨q1, h1⟩ : ∃ q, inB s 1 16 = q := ⟨_, rfl⟩
  obtain ⟨q2, h2⟩ : ∃ q, inB r 1 16 = q := ⟨_, rfl⟩
  obtain ⟨q3, h3⟩ : ∃ q, inB c 1 16 = q := ⟨_, rfl⟩
  have H0 := Lib.hid (fun v => l02Base_any b v)
  have H1 := Lib.hid (fun v => l07Size_at s v h1)
  have H2 := Lib.hid (fun v => l07Size_at r v h2)
  have H3 := Lib.hid (fun v => l07Size_at c v h3)
  rw [h0] at H0
  have HB := Lib.hid (show nmB b s r c = (q0 && (q1 && (q2 && q3))) by
    subst h0 h1 h2 h3
    unfold nmB baseB
    rw [inB_dec, inB_dec, inB_dec, Bool.eq_iff_iff]
    simp only [decide_eq_true_eq, Bool.and_eq_true]
    omega)
  obtain ⟨g, hg⟩ : ∃ g, g = w.heap.size := ⟨_, rfl⟩
  obtain ⟨u, hu⟩ : ∃ u, u = w.alloc (.cells #[.int .i64 0, .slice none 0 0, .int .i64 0, .slice none 0 0, .int .i64 0, .slice none 0 0, .int .i64 0] 28) := ⟨_, rfl⟩
  have hbel : Below w.heap.size w u := by rw [hu]; exact (by repeat (first | exact Below.refl _ _ | refine Below.setCell ?_ (by first | omega | (simp <;> omega)) _ | refine Below.alloc ?_ (by first | omega | (simp <;> omega)) _ | refine Below.drew ?_))
  have br : Bx u g 28 #[.int .i64 0, .slice none 0 0, .int .i64 0, .slice none 0 0, .int .i64 0, .slice none 0 0, .int .i64 0] := by rw [hu, hg]; exact Bx.new _ _ _
  have hgu : g < u.heap.size := br.lt
  have HG := Lib.hid hg
  have HU := Lib.hid hu
  clear hu hg h1 h2 h3
  cases hq : (q0 && (q1 && (q2 && q3))) with
  | false =>
    have HR := Lib.hid (show nmR b s r c = (mac0, 2) by rw [nmR, rawM_bad (by rw [HB.out, hq])]; rfl)
    clear HB h0
    cases q0
    rotate_left
    cases q1
    rotate_left
    cases q2
    rotate_left
    cases q3
    rotate_left
    · cases hq
    all_goals
      clear hq
      go_enter Tryd.func58, Tryd.ntmps58
      go_wp2_with fail
      rw [← HU.out, ← HG.out]
      have r0 := br.at_ 0 rfl
      have r1 := br.at_ 1 rfl
      have r2 := br.at_ 2 rfl
      have r3 := br.at_ 3 rfl
      have r4 := br.at_ 4 rfl
      have r5 := br.at_ 5 rfl
      have r6 := br.at_ 6 rfl
      have f0 := br.thaw 0
      have f1 := br.thaw 1
      have f2 := br.thaw 2
      have f3 := br.thaw 3
      have f4 := br.thaw 4
      have f5 := br.thaw 5
      have f6 := br.thaw 6
      have hl := br.lt
      go_wp2_with (first | (go_at_call 133; with_reducible refine (H0.out _).mono ?_; rintro e w1 ⟨rfl, hw⟩; subst w1) | (go_at_call 134; first | (with_reducible refine (H1.out _).mono ?_; rintro e w1 ⟨rfl, hw⟩; subst w1) | (with_reducible refine (H2.out _).mono ?_; rintro e w1 ⟨rfl, hw⟩; subst w1) | (with_reducible refine (H3.out _).mono ?_; rintro e w1 ⟨rfl, hw⟩; subst w1)))
      exact bodyPost_ret (v := .tuple #[.agg #[.int .i64 0, .slice none 0 0, .int .i64 0, .slice none 0 0, .int .i64 0, .slice none 0 0, .int .i64 0], .int .i64 2]) (by simp [results, go_sem, r0, r1, r2, r3, r4, r5, r6]) rfl (macC_err HR.out rfl (by have := HG.out; exact (by repeat (first | with_reducible exact hbel | with_reducible refine Below.setCell ?_ (by first | omega | (simp <;> omega)) _ | with_reducible refine Below.alloc ?_ (by first | omega | (simp <;> omega)) _ | with_reducible refine Below.drew ?_))))
  | true =>
    obtain ⟨rfl, rfl, rfl, rfl⟩ : q0 = true ∧ q1 = true ∧ q2 = true ∧ q3 = true := by revert hq; cases q0 <;> cases q1 <;> cases q2 <;> cases q3 <;> simp
    have hB : nmB b s r c = true := HB.out
    have HRw := Lib.hid (rawM_good hB)
    simp only [nmB, decide_eq_true_eq] at hB
    obtain ⟨b0, b1, s0, s1, r0, r1, c0, c1⟩ := hB
    obtain ⟨n1, rfl⟩ := Int.eq_ofNat_of_zero_le (show 0 ≤ s by omega)
    obtain ⟨n2, rfl⟩ := Int.eq_ofNat_of_zero_le (show 0 ≤ r by omega)
    obtain ⟨n3, rfl⟩ := Int.eq_ofNat_of_zero_le (show 0 ≤ c by omega)
    have HN := Lib.hid (fun v => l10New_any b n1 n2 n3 v b0 b1 (by omega) (by omega) (by omega))
    simp only [Int.toNat_natCast] at HRw
    rw [← HRw.out] at HN
    obtain ⟨m, hm⟩ : ∃ m, m = rawM b n1 n2 n3 := ⟨_, rfl⟩
    rw [← hm] at HN
    have HM := Lib.hid hm
    clear hm hq h0 HB HRw b0 b1 s0 s1 r0 r1 c0 c1
    cases hv : macB m
    all_goals
      go_enter Tryd.func58, Tryd.ntmps58
      go_wp2_with fail
      rw [← HU.out, ← HG.out]
      go_wp2_with (first | (go_at_call 133; with_reducible refine (H0.out _).mono ?_; rintro e w1 ⟨rfl, hw⟩; subst w1) | (go_at_call 134; first | (with_reducible refine (H1.out _).mono ?_; rintro e w1 ⟨rfl, hw⟩; subst w1) | (with_reducible refine (H2.out _).mono ?_; rintro e w1 ⟨rfl, hw⟩; subst w1) | (with_reducible refine (H3.out _).mono ?_; rintro e w1 ⟨rfl, hw⟩; subst w1)))
      refine (HN.out u).mono ?_
      rintro e w1 ⟨A1, C1, A2, C2, A3, C3, rfl, own, hb⟩
      have hz1 := hb.size
      replace br := br.below hb
      replace hbel := hbel.trans (hb.mono hbel.size)
      clear hb
      go_upto_region 4 with fail
      obtain ⟨q, hq⟩ : ∃ q, q = w1.heap.size := ⟨_, rfl⟩
      obtain ⟨V, hV⟩ : ∃ V, V = w1.alloc (.cells #[.int .i64 m.b1, .slice A1 m.z1.length C1, .int .i64 m.b2, .slice A2 m.z2.length C2, .int .i64 m.b3, .slice A3 m.z3.length C3, .int .i64 m.p] 28) := ⟨_, rfl⟩
      try rw [← hq, ← hV]
      have bq : Bx V q 28 #[.int .i64 m.b1, .slice A1 m.z1.length C1, .int .i64 m.b2, .slice A2 m.z2.length C2, .int .i64 m.b3, .slice A3 m.z3.length C3, .int .i64 m.p] := by rw [hV, hq]; exact Bx.new _ _ _
      have hb : Below w1.heap.size w1 V := by rw [hV]; exact (Below.refl _ _).alloc (Nat.le_refl _) _
      have hz2 := hb.size
      replace br := br.below hb
      replace own := own.below hb
      replace hbel := hbel.trans (hb.mono hbel.size)
      clear hb hV hq
      have HK := Lib.hid (l10Ok_any q m A1 C1 A2 C2 A3 C3 V own.rd bq)
      have HO := Lib.hid own
      rw [hv] at HK
      clear own
      go_wp2_with fail
      refine HK.out.mono ?_
      rintro e w2 ⟨rfl, hb⟩
      have hz3 := hb.size
      replace br := br.below hb
      replace bq := bq.below hb
      replace hbel := hbel.trans (hb.mono hbel.size)
      replace HO := Lib.hid (HO.out.below hb)
      have HS := Lib.hid (show w.heap.size ≤ u.heap.size ∧ w1.heap.size ≤ w2.heap.size ∧ g < u.heap.size by have := HG.out; omega)
      clear hb hz1 hz2 hz3 hgu
      first
      | (have HR := Lib.hid (show nmR b n1 n2 n3 = (mac0, 2) by rw [nmR, ← HM.out, if_neg (by rw [hv]; simp)])
         clear hv
         have r0 := br.at_ 0 rfl
         have r1 := br.at_ 1 rfl
         have r2 := br.at_ 2 rfl
         have r3 := br.at_ 3 rfl
         have r4 := br.at_ 4 rfl
         have r5 := br.at_ 5 rfl
         have r6 := br.at_ 6 rfl
         have f0 := br.thaw 0
         have f1 := br.thaw 1
         have f2 := br.thaw 2
         have f3 := br.thaw 3
         have f4 := br.thaw 4
         have f5 := br.thaw 5
         have f6 := br.thaw 6
         have hl := br.lt
         go_wp2
         exact bodyPost_ret (v := .tuple #[.agg #[.int .i64 0, .slice none 0 0, .int .i64 0, .slice none 0 0, .int .i64 0, .slice none 0 0, .int .i64 0], .int .i64 2]) (by simp [results, go_sem, r0, r1, r2, r3, r4, r5, r6]) rfl (macC_err HR.out rfl (by have := HG.out; exact (by repeat (first | with_reducible exact hbel | with_reducible refine Below.setCell ?_ (by first | omega | (simp <;> omega)) _ | with_reducible refine Below.alloc ?_ (by first | omega | (simp <;> omega)) _ | with_reducible refine Below.drew ?_)))))
      | (have HR := Lib.hid (show nmR b n1 n2 n3 = (m, 0) by rw [nmR, ← HM.out, if_pos hv])
         clear hv
         have c0 := bq.at_ 0 rfl
         have c1 := bq.at_ 1 rfl
         have c2 := bq.at_ 2 rfl
         have c3 := bq.at_ 3 rfl
         have c4 := bq.at_ 4 rfl
         have c5 := bq.at_ 5 rfl
         have c6 := bq.at_ 6 rfl
         have j0 := br.at_ 0 rfl
         have j1 := br.at_ 1 rfl
         have j2 := br.at_ 2 rfl
         have j3 := br.at_ 3 rfl
         have j4 := br.at_ 4 rfl
         have j5 := br.at_ 5 rfl
         have j6 := br.at_ 6 rfl
         have f0 := br.thaw 0
         have f1 := br.thaw 1
         have f2 := br.thaw 2
         have f3 := br.thaw 3
         have f4 := br.thaw 4
         have f5 := br.thaw 5
         have f6 := br.thaw 6
         have hl := br.lt
         have bz : Bx (((((((w2.setCell ⟨g, 0, none⟩ (.int .i64 m.b1)).setCell ⟨g, 1, none⟩ (.slice A1 m.z1.length C1)).setCell ⟨g, 2, none⟩ (.int .i64 m.b2)).setCell ⟨g, 3, none⟩ (.slice A2 m.z2.length C2)).setCell ⟨g, 4, none⟩ (.int .i64 m.b3)).setCell ⟨g, 5, none⟩ (.slice A3 m.z3.length C3)).setCell ⟨g, 6, none⟩ (.int .i64 m.p)) (g) 28 #[.int .i64 m.b1, .slice A1 m.z1.length C1, .int .i64 m.b2, .slice A2 m.z2.length C2, .int .i64 m.b3, .slice A3 m.z3.length C3, .int .i64 m.p] := bx_put7 br
         have r0 := bz.at_ 0 rfl
         have r1 := bz.at_ 1 rfl
         have r2 := bz.at_ 2 rfl
         have r3 := bz.at_ 3 rfl
         have r4 := bz.at_ 4 rfl
         have r5 := bz.at_ 5 rfl
         have r6 := bz.at_ 6 rfl
         clear bz
         go_wp2
         exact bodyPost_ret (v := .tuple #[.agg #[.int .i64 m.b1, .slice A1 m.z1.length C1, .int .i64 m.b2, .slice A2 m.z2.length C2, .int .i64 m.b3, .slice A3 m.z3.length C3, .int .i64 m.p], .int .i64 0]) (by simp [results, go_sem, r0, r1, r2, r3, r4, r5, r6]) rfl
           (macC_ok HR.out rfl (((((((HO.out.setCell (p := ⟨g, 0, none⟩) (.inl HS.out.2.2) _).setCell (p := ⟨g, 1, none⟩) (.inl HS.out.2.2) _).setCell (p := ⟨g, 2, none⟩) (.inl HS.out.2.2) _).setCell (p := ⟨g, 3, none⟩) (.inl HS.out.2.2) _).setCell (p := ⟨g, 4, none⟩) (.inl HS.out.2.2) _).setCell (p := ⟨g, 5, none⟩) (.inl HS.out.2.2) _).setCell (p := ⟨g, 6, none⟩) (.inl HS.out.2.2) _) HS.out.1 (by have := HS.out; simp; omega) (by have := HG.out; exact (by repeat (first | with_reducible exact hbel | with_reducible refine Below.setCell ?_ (by first | omega | (simp <;> omega)) _ | with_reducible refine Below.alloc ?_ (by first | omega | (simp <;> omega)) _ | with_reducible refine Below.drew ?_)))))
end Go.Proofs.YtlahobdopmdfmaaDoor

/- McpI -/
namespace Go.Proofs.YtlahobdopmdfmaaDoor
open Go.RowKit

/-- A machine of its own. -/
def MacVI (m : Mac) (w : World) (e : Ending) (w' : World) : Prop := ∃ (A1 : Option Addr) (C1 : Nat) (A2 : Option Addr) (C2 : Nat) (A3 : Option Addr) (C3 : Nat),
  e = .returned (.agg #[.int .i64 m.b1, .slice A1 m.z1.length C1, .int .i64 m.b2, .slice A2 m.z2.length C2, .int .i64 m.b3, .slice A3 m.z3.length C3, .int .i64 m.p]) ∧ Own3 2 w' w.heap.size w'.heap.size (.slice A1 m.z1.length C1) m.z1 (.slice A2 m.z2.length C2) m.z2 (.slice A3 m.z3.length C3) m.z3 ∧ Below w.heap.size w w'

set_option maxRecDepth 100000 in
set_option maxHeartbeats 4000000 in
theorem copied_any (m : Mac) (A1 : Option Addr) (C1 : Nat) (A2 : Option Addr) (C2 : Nat) (A3 : Option Addr) (C3 : Nat) (w : World) (h : Rd3 w A1 m.z1 A2 m.z2 A3 m.z3) (n1 : 0 < m.z1.length) (n2 : 0 < m.z2.length) (n3 : 0 < m.z3.length) :
    Calls Tryd.prog 140 #[.agg #[.int .i64 m.b1, .slice A1 m.z1.length C1, .int .i64 m.b2, .slice A2 m.z2.length C2, .int .i64 m.b3, .slice A3 m.z3.length C3, .int .i64 m.p]] w (MacVI m w) := by
  have R := Tryd.results140
  obtain ⟨g, hg⟩ : ∃ g, g = w.heap.size := ⟨_, rfl⟩
  obtain ⟨u, hu⟩ : ∃ u, u = (w.alloc (.cells #[.int .i64 m.b1, .slice A1 m.z1.length C1, .int .i64 m.b2, .slice A2 m.z2.length C2, .int .i64 m.b3, .slice A3 m.z3.length C3, .int .i64 m.p] 28)).alloc (.cells #[.int .i64 0, .slice none 0 0, .int .i64 0, .slice none 0 0, .int .i64 0, .slice none 0 0, .int .i64 0] 28) := ⟨_, rfl⟩
  have hbel : Below w.heap.size w u := by rw [hu]; exact (by repeat (first | exact Below.refl _ _ | refine Below.setCell ?_ (by first | omega | (simp <;> omega)) _ | refine Below.alloc ?_ (by first | omega | (simp <;> omega)) _ | refine Below.drew ?_))
  have bm : Bx u g 28 #[.int .i64 m.b1, .slice A1 m.z1.length C1, .int .i64 m.b2, .slice A2 m.z2.length C2, .int .i64 m.b3, .slice A3 m.z3.length C3, .int .i64 m.p] := by rw [hu, hg]; exact (Bx.new _ _ _).alloc _
  have br : Bx u (g + 1) 28 #[.int .i64 0, .slice none 0 0, .int .i64 0, .slice none 0 0, .int .i64 0, .slice none 0 0, .int .i64 0] := by rw [hu, hg]; simpa using Bx.new (w.alloc (.cells #[.int .i64 m.b1, .slice A1 m.z1.length C1, .int .i64 m.b2, .slice A2 m.z2.length C2, .int .i64 m.b3, .slice A3 m.z3.length C3, .int .i64 m.p] 28)) #[.int .i64 0, .slice none 0 0, .int .i64 0, .slice none 0 0, .int .i64 0, .slice none 0 0, .int .i64 0] 28
  have hgu : g + 1 < u.heap.size := br.lt
  have HC1 := Lib.hid (fun (v : World) (hb : Below w.heap.size w v) => clone_any A1 C1 m.z1 v (h.x.below hb) n1)
  have HC2 := Lib.hid (fun (v : World) (hb : Below w.heap.size w v) => clone_any A2 C2 m.z2 v (h.y.below hb) n2)
  have HC3 := Lib.hid (fun (v : World) (hb : Below w.heap.size w v) => clone_any A3 C3 m.z3 v (h.z.below hb) n3)
  have HG := Lib.hid hg
  have HU := Lib.hid hu
  clear hu h n1 n2 n3
  go_enter Tryd.func140, Tryd.ntmps140
  go_wp2_with fail
  rw [← HU.out, ← hg]
  clear hg
  refine (HC1.out u hbel).mono ?_
  rintro e w1 ⟨D1, E1, rfl, own1, hb1⟩
  replace br := br.below hb1
  replace bm := bm.below hb1
  have hz1 := hb1.size
  replace hbel := hbel.trans (hb1.mono hbel.size)
  clear hb1
  have c1 := bm.at_ 1 rfl
  have f1 := bm.thaw 1
  have c2 := bm.at_ 3 rfl
  go_wp2_with fail
  obtain ⟨V1, hV⟩ : ∃ V, V = w1.setCell ⟨g, 1, none⟩ (.slice D1 m.z1.length E1) := ⟨_, rfl⟩
  try rw [← hV]
  replace own1 : Own 2 V1 u.heap.size w1.heap.size (.slice D1 m.z1.length E1) m.z1 := by rw [hV]; exact own1.setCell (.inl (by simp; omega)) _
  replace br : Bx V1 (g + 1) 28 #[.int .i64 0, .slice none 0 0, .int .i64 0, .slice none 0 0, .int .i64 0, .slice none 0 0, .int .i64 0] := by rw [hV]; exact br.far (by simp) _
  replace bm : Bx V1 g 28 #[.int .i64 m.b1, .slice D1 m.z1.length E1, .int .i64 m.b2, .slice A2 m.z2.length C2, .int .i64 m.b3, .slice A3 m.z3.length C3, .int .i64 m.p] := by rw [hV]; exact bm.set_ 1 _
  replace hbel : Below w.heap.size w V1 := by rw [hV]; have := HG.out; exact (by repeat (first | with_reducible exact hbel | with_reducible refine Below.setCell ?_ (by first | omega | (simp <;> omega)) _ | with_reducible refine Below.alloc ?_ (by first | omega | (simp <;> omega)) _ | with_reducible refine Below.drew ?_))
  have hy1 : V1.heap.size = w1.heap.size := by rw [hV]; simp
  clear hV c1 f1 c2
  refine (HC2.out V1 hbel).mono ?_
  rintro e w2 ⟨D2, E2, rfl, own2, hb2⟩
  replace own1 := own1.below hb2
  replace br := br.below hb2
  replace bm := bm.below hb2
  have hz2 := hb2.size
  replace hbel := hbel.trans (hb2.mono hbel.size)
  clear hb2
  have c1 := bm.at_ 3 rfl
  have f1 := bm.thaw 3
  have c2 := bm.at_ 5 rfl
  go_wp2_with fail
  obtain ⟨V2, hV⟩ : ∃ V, V = w2.setCell ⟨g, 3, none⟩ (.slice D2 m.z2.length E2) := ⟨_, rfl⟩
  try rw [← hV]
  replace own1 : Own 2 V2 u.heap.size w1.heap.size (.slice D1 m.z1.length E1) m.z1 := by rw [hV]; exact own1.setCell (.inl (by simp; omega)) _
  replace own2 : Own 2 V2 V1.heap.size w2.heap.size (.slice D2 m.z2.length E2) m.z2 := by rw [hV]; exact own2.setCell (.inl (by simp; omega)) _
  replace br : Bx V2 (g + 1) 28 #[.int .i64 0, .slice none 0 0, .int .i64 0, .slice none 0 0, .int .i64 0, .slice none 0 0, .int .i64 0] := by rw [hV]; exact br.far (by simp) _
  replace bm : Bx V2 g 28 #[.int .i64 m.b1, .slice D1 m.z1.length E1, .int .i64 m.b2, .slice D2 m.z2.length E2, .int .i64 m.b3, .slice A3 m.z3.length C3, .int .i64 m.p] := by rw [hV]; exact bm.set_ 3 _
  replace hbel : Below w.heap.size w V2 := by rw [hV]; have := HG.out; exact (by repeat (first | with_reducible exact hbel | with_reducible refine Below.setCell ?_ (by first | omega | (simp <;> omega)) _ | with_reducible refine Below.alloc ?_ (by first | omega | (simp <;> omega)) _ | with_reducible refine Below.drew ?_))
  have hy2 : V2.heap.size = w2.heap.size := by rw [hV]; simp
  clear hV c1 f1 c2
  refine (HC3.out V2 hbel).mono ?_
  rintro e w3 ⟨D3, E3, rfl, own3, hb3⟩
  replace own1 := own1.below hb3
  replace own2 := own2.below hb3
  replace br := br.below hb3
  replace bm := bm.below hb3
  have hz3 := hb3.size
  replace hbel := hbel.trans (hb3.mono hbel.size)
  clear hb3
  have c1 := bm.at_ 5 rfl
  have f1 := bm.thaw 5
  go_upto_region 4 with fail
  obtain ⟨V3, hV⟩ : ∃ V, V = w3.setCell ⟨g, 5, none⟩ (.slice D3 m.z3.length E3) := ⟨_, rfl⟩
  try rw [← hV]
  replace own1 : Own 2 V3 u.heap.size w1.heap.size (.slice D1 m.z1.length E1) m.z1 := by rw [hV]; exact own1.setCell (.inl (by simp; omega)) _
  replace own2 : Own 2 V3 V1.heap.size w2.heap.size (.slice D2 m.z2.length E2) m.z2 := by rw [hV]; exact own2.setCell (.inl (by simp; omega)) _
  replace own3 : Own 2 V3 V2.heap.size w3.heap.size (.slice D3 m.z3.length E3) m.z3 := by rw [hV]; exact own3.setCell (.inl (by simp; omega)) _
  replace br : Bx V3 (g + 1) 28 #[.int .i64 0, .slice none 0 0, .int .i64 0, .slice none 0 0, .int .i64 0, .slice none 0 0, .int .i64 0] := by rw [hV]; exact br.far (by simp) _
  replace bm : Bx V3 g 28 #[.int .i64 m.b1, .slice D1 m.z1.length E1, .int .i64 m.b2, .slice D2 m.z2.length E2, .int .i64 m.b3, .slice D3 m.z3.length E3, .int .i64 m.p] := by rw [hV]; exact bm.set_ 5 _
  replace hbel : Below w.heap.size w V3 := by rw [hV]; have := HG.out; exact (by repeat (first | with_reducible exact hbel | with_reducible refine Below.setCell ?_ (by first | omega | (simp <;> omega)) _ | with_reducible refine Below.alloc ?_ (by first | omega | (simp <;> omega)) _ | with_reducible refine Below.drew ?_))
  have hy3 : V3.heap.size = w3.heap.size := by rw [hV]; simp
  clear hV c1 f1
  have HO : Hid (Own3 2 V3 u.heap.size w3.heap.size (.slice D1 m.z1.length E1) m.z1 (.slice D2 m.z2.length E2) m.z2 (.slice D3 m.z3.length E3) m.z3) := Lib.hid ⟨_, _, _, _, _, _, own1, own2, own3, by omega⟩
  have HS := Lib.hid (show w.heap.size ≤ u.heap.size ∧ w3.heap.size ≤ V3.heap.size ∧ g + 1 < u.heap.size by have := HG.out; omega)
  clear own1 own2 own3 hz1 hz2 hz3 hy1 hy2 hy3 HC1 HC2 HC3
  have c0 := bm.at_ 0 rfl
  have c1 := bm.at_ 1 rfl
  have c2 := bm.at_ 2 rfl
  have c3 := bm.at_ 3 rfl
  have c4 := bm.at_ 4 rfl
  have c5 := bm.at_ 5 rfl
  have c6 := bm.at_ 6 rfl
  have j0 := br.at_ 0 rfl
  have j1 := br.at_ 1 rfl
  have j2 := br.at_ 2 rfl
  have j3 := br.at_ 3 rfl
  have j4 := br.at_ 4 rfl
  have j5 := br.at_ 5 rfl
  have j6 := br.at_ 6 rfl
  have f0 := br.thaw 0
  have f1 := br.thaw 1
  have f2 := br.thaw 2
  have f3 := br.thaw 3
  have f4 := br.thaw 4
  have f5 := br.thaw 5
  have f6 := br.thaw 6
  have hl := br.lt
  have bz : Bx (((((((V3.setCell ⟨g + 1, 0, none⟩ (.int .i64 m.b1)).setCell ⟨g + 1, 1, none⟩ (.slice D1 m.z1.length E1)).setCell ⟨g + 1, 2, none⟩ (.int .i64 m.b2)).setCell ⟨g + 1, 3, none⟩ (.slice D2 m.z2.length E2)).setCell ⟨g + 1, 4, none⟩ (.int .i64 m.b3)).setCell ⟨g + 1, 5, none⟩ (.slice D3 m.z3.length E3)).setCell ⟨g + 1, 6, none⟩ (.int .i64 m.p)) (g + 1) 28 #[.int .i64 m.b1, .slice D1 m.z1.length E1, .int .i64 m.b2, .slice D2 m.z2.length E2, .int .i64 m.b3, .slice D3 m.z3.length E3, .int .i64 m.p] := bx_put7 br
  have r0 := bz.at_ 0 rfl
  have r1 := bz.at_ 1 rfl
  have r2 := bz.at_ 2 rfl
  have r3 := bz.at_ 3 rfl
  have r4 := bz.at_ 4 rfl
  have r5 := bz.at_ 5 rfl
  have r6 := bz.at_ 6 rfl
  clear bz
  go_wp2
  exact bodyPost_ret (v := .agg #[.int .i64 m.b1, .slice D1 m.z1.length E1, .int .i64 m.b2, .slice D2 m.z2.length E2, .int .i64 m.b3, .slice D3 m.z3.length E3, .int .i64 m.p]) (by simp [results, go_sem, r0, r1, r2, r3, r4, r5, r6]) rfl
    ⟨D1, E1, D2, E2, D3, E3, rfl, (show Own3 2 _ u.heap.size w3.heap.size (.slice D1 m.z1.length E1) m.z1 (.slice D2 m.z2.length E2) m.z2 (.slice D3 m.z3.length E3) m.z3 from (((((((HO.out.setCell (p := ⟨g + 1, 0, none⟩) (.inl HS.out.2.2) _).setCell (p := ⟨g + 1, 1, none⟩) (.inl HS.out.2.2) _).setCell (p := ⟨g + 1, 2, none⟩) (.inl HS.out.2.2) _).setCell (p := ⟨g + 1, 3, none⟩) (.inl HS.out.2.2) _).setCell (p := ⟨g + 1, 4, none⟩) (.inl HS.out.2.2) _).setCell (p := ⟨g + 1, 5, none⟩) (.inl HS.out.2.2) _).setCell (p := ⟨g + 1, 6, none⟩) (.inl HS.out.2.2) _)).wide HS.out.1 (by have := HS.out; simp; omega), by have := HG.out; exact (by repeat (first | with_reducible exact hbel | with_reducible refine Below.setCell ?_ (by first | omega | (simp <;> omega)) _ | with_reducible refine Below.alloc ?_ (by first | omega | (simp <;> omega)) _ | with_reducible refine Below.drew ?_))⟩
end Go.Proofs.YtlahobdopmdfmaaDoor

/- McpS -/
namespace Go.Proofs.YtlahobdopmdfmaaDoor
open Go.RowKit

set_option maxRecDepth 100000 in
set_option maxHeartbeats 4000000 in
theorem l02OwnO_any (p o : Nat) (B : Int) (A : Option Addr) (C : Nat) (zs : List Int) (w : World) (ha : Rd w A zs) (hne : 0 < zs.length) (h0 : w.cell? ⟨p, o, none⟩ = some (.int .i64 B)) (h1 : w.cell? ⟨p, o + 1, none⟩ = some (.slice A zs.length C)) :
    Calls Tryd.prog 126 #[.pointer (some ⟨p, o, none⟩)] w fun e w' => ∃ D E, e = .returned (.agg #[.int .i64 B, .slice D zs.length E]) ∧ Own 2 w' w.heap.size w'.heap.size (.slice D zs.length E) zs ∧ Below w.heap.size w w' := by
  obtain ⟨r, hr⟩ : ∃ r, r = w.heap.size := ⟨_, rfl⟩
  obtain ⟨u, hu⟩ : ∃ u, u = w.alloc (.cells #[.int .i64 0, .slice none 0 0] 26) := ⟨_, rfl⟩
  have b0 : Bx u r 26 #[.int .i64 0, .slice none 0 0] := by rw [hu, hr]; exact Bx.new _ _ _
  have hbel : Below w.heap.size w u := by rw [hu]; exact (by repeat (first | exact Below.refl _ _ | refine Below.setCell ?_ (by first | omega | (simp <;> omega)) _ | refine Below.alloc ?_ (by first | omega | (simp <;> omega)) _ | refine Below.drew ?_))
  have hlr := b0.lt
  replace ha := ha.below hbel
  have k0 : ∀ w', Below u.heap.size u w' → w'.cell? ⟨p, o, none⟩ = some (.int .i64 B) := kept_all (kept hbel h0)
  have k1 : ∀ w', Below u.heap.size u w' → w'.cell? ⟨p, o + 1, none⟩ = some (.slice A zs.length C) := kept_all (kept hbel h1)
  rw [← hr] at hbel
  have HU := Lib.hid hu
  have HR := Lib.hid hr
  clear hu hr h0 h1
  go_enter Tryd.func126, Tryd.ntmps126
  go_upto_region 1 with fail
  rw [← HU.out, ← HR.out]
  refine wp_region_marked (fun w' => Below u.heap.size u w') 10 (by kernel_rfl) ?_
  have hS : Below u.heap.size u u.drew := (Below.refl _ _).drew
  refine wpAnyM_take (i := 0) (v := ?_) rfl (by kernel_rfl) (by kernel_rfl) (by kernel_rfl) (by kernel_rfl) (by kernel_rfl) (fun _ _ _ h => h) hS (.inl ⟨by rfl, ?_⟩) ?_
  rotate_left 1
  · intro w' hS'; go_simp; try with_reducible rfl
  simp only [Act.put, List.setIfInBounds_toArray]
  refine wpAnyM_take (i := 1) (v := ?_) rfl (by kernel_rfl) (by kernel_rfl) (by kernel_rfl) (by kernel_rfl) (by kernel_rfl) (fun _ _ _ h => h) hS (.inl ⟨by rfl, ?_⟩) ?_
  rotate_left 1
  · intro w' hS'; go_simp; try with_reducible rfl
  simp only [Act.put]
  refine wpAnyM_take (i := 2) (v := ?_) rfl (by kernel_rfl) (by kernel_rfl) (by kernel_rfl) (by kernel_rfl) (by kernel_rfl) (fun _ _ _ h => h) hS (.inl ⟨by rfl, ?_⟩) ?_
  rotate_left 1
  · intro w' hS'; go_simp; try with_reducible rfl
  simp only [Act.put]
  refine wpAnyM_take (i := 3) (v := ?_) rfl (by kernel_rfl) (by kernel_rfl) (by kernel_rfl) (by kernel_rfl) (by kernel_rfl) (fun _ _ _ h => h) hS (.inl ⟨by rfl, ?_⟩) ?_
  rotate_left 1
  · intro w' hS'; go_simp; try with_reducible rfl
  simp only [Act.put]
  refine wpAnyM_take (i := 4) (v := ?_) rfl (by kernel_rfl) (by kernel_rfl) (by kernel_rfl) (by kernel_rfl) (by kernel_rfl) (fun _ _ _ h => h) hS (.inl ⟨by rfl, ?_⟩) ?_
  rotate_left 1
  · intro w' hS'; go_simp; try with_reducible rfl
  simp only [Act.put]
  refine wpAnyM_take (i := 5) (v := ?_) rfl (by kernel_rfl) (by kernel_rfl) (by kernel_rfl) (by kernel_rfl) (by kernel_rfl) (fun _ _ _ h => h) hS (.inl ⟨by rfl, ?_⟩) ?_
  rotate_left 1
  · intro w' hS'; go_simp; try with_reducible rfl
  simp only [Act.put]
  refine wpAnyM_take (i := 6) (v := ?_) rfl (by kernel_rfl) (by kernel_rfl) (by kernel_rfl) (by kernel_rfl) (by kernel_rfl) (fun _ _ _ h => h) hS (.inl ⟨by rfl, ?_⟩) ?_
  rotate_left 1
  · intro w' hS'; go_simp; try with_reducible rfl
  simp only [Act.put]
  refine wpAnyM_take (i := 7) (v := ?_) rfl (by kernel_rfl) (by kernel_rfl) (by kernel_rfl) (by kernel_rfl) (by kernel_rfl) (fun _ _ _ h => h) hS (.inl ⟨by rfl, ?_⟩) ?_
  rotate_left 1
  · intro w' hS'; go_simp; try with_reducible rfl
  simp only [Act.put]
  clear k0 k1
  refine wpAnyM_one (i := 8) (by kernel_rfl) rfl (by rfl) (fun K hK => ?_)
  go_simp
  refine (l00Own_any A C zs u.drew ⟨ha.len, ha.cells⟩ hne).mono ?_
  rintro e w1 ⟨D, E, rfl, ow, hb⟩
  have hS1 : Below u.heap.size u w1 := hS.trans hb
  have hs1 := hS1.size
  replace ow : Own 2 w1 u.heap.size w1.heap.size (.slice D zs.length E) zs := ow
  replace b0 := b0.below hS1
  refine hK _ _ (.inr hS1) ?_
  try simp only [Act.put, List.setIfInBounds_toArray]
  clear hK K
  refine wpAnyM_one (i := 9) (by kernel_rfl) rfl (by rfl) (fun K hK => ?_)
  go_simp
  refine hK _ _ (.inr hS1) ?_
  try simp only [Act.put, List.setIfInBounds_toArray]
  clear hK K
  have c0 := b0.at_ 0 rfl
  have c1 := b0.at_ 1 rfl
  have f0 := b0.thaw 0
  have f1 := b0.thaw 1
  refine wpAnyM_one (i := 10) (by kernel_rfl) rfl (by rfl) (fun K hK => ?_)
  go_simp
  obtain ⟨w8, hw8⟩ : ∃ v, v = (w1.setCell ⟨r, 0, none⟩ (.int .i64 B)).setCell ⟨r, 1, none⟩ (.slice D zs.length E) := ⟨_, rfl⟩
  rw [← hw8]
  have b9 : Bx w8 r 26 #[.int .i64 B, .slice D zs.length E] := by rw [hw8]; exact (b0.set_ 0 _).set_ 1 _
  have t9 : Touch r (r + 1) w1 w8 := by rw [hw8]; exact ((Touch.refl _ _ _).setCell (by simp) (by simp) _).setCell (by simp) (by simp) _
  have hs9 := t9.size
  have ow9 := ow.touch t9 (.inr (by omega))
  have hb9 : Below r w w8 := (hbel.trans (hS1.mono (by omega))).trans (t9.below (by omega) (by omega))
  clear hw8 c0 c1 f0 f1
  refine hK _ _ (.inl rfl) ?_
  try simp only [Act.put, List.setIfInBounds_toArray]
  clear hK K
  refine wpAnyM_done (by kernel_rfl) ?_ _
  have c0 := b9.at_ 0 rfl
  have c1 := b9.at_ 1 rfl
  go_wp2_with fail
  refine bodyPost_ret (v := .agg #[.int .i64 B, .slice D zs.length E]) (by simp [results, Tryd.results126, go_sem, c0, c1]) rfl ?_
  have hr := HR.out
  exact ⟨D, E, rfl, ow9.wide (by omega) (by omega), by rw [← hr]; exact hb9⟩


set_option maxRecDepth 100000 in
set_option maxHeartbeats 4000000 in
theorem l10Own_any (p : Nat) (m : Mac) (A1 : Option Addr) (C1 : Nat) (A2 : Option Addr) (C2 : Nat) (A3 : Option Addr) (C3 : Nat) (w : World) (h : Rd3 w A1 m.z1 A2 m.z2 A3 m.z3) (n1 : 0 < m.z1.length) (n2 : 0 < m.z2.length) (n3 : 0 < m.z3.length) (bp : Bx w p 28 #[.int .i64 m.b1, .slice A1 m.z1.length C1, .int .i64 m.b2, .slice A2 m.z2.length C2, .int .i64 m.b3, .slice A3 m.z3.length C3, .int .i64 m.p]) :
    Calls Tryd.prog 90 #[.pointer (some ⟨p, 0, none⟩)] w (MacV m w) := by
  have R := Tryd.results90
  obtain ⟨r, hr⟩ : ∃ r, r = w.heap.size := ⟨_, rfl⟩
  obtain ⟨u, hu⟩ : ∃ u, u = w.alloc (.cells #[.int .i64 0, .slice none 0 0, .int .i64 0, .slice none 0 0, .int .i64 0, .slice none 0 0, .int .i64 0] 28) := ⟨_, rfl⟩
  have b0 : Bx u r 28 #[.int .i64 0, .slice none 0 0, .int .i64 0, .slice none 0 0, .int .i64 0, .slice none 0 0, .int .i64 0] := by rw [hu, hr]; exact Bx.new _ _ _
  have hbel : Below w.heap.size w u := by rw [hu]; exact (by repeat (first | exact Below.refl _ _ | refine Below.setCell ?_ (by first | omega | (simp <;> omega)) _ | refine Below.alloc ?_ (by first | omega | (simp <;> omega)) _ | refine Below.drew ?_))
  have hlr := b0.lt
  have hb0 := hbel.size
  replace h := h.below hbel
  replace bp := bp.below hbel
  have H1 : Hid (∀ v, Below u.heap.size u v → Calls Tryd.prog 126 #[.pointer (some ⟨p, 0, none⟩)] v fun e w' => ∃ D E, e = .returned (.agg #[.int .i64 m.b1, .slice D m.z1.length E]) ∧ Own 2 w' v.heap.size w'.heap.size (.slice D m.z1.length E) m.z1 ∧ Below v.heap.size v w') :=
    Lib.hid fun v hb => l02OwnO_any p 0 m.b1 A1 C1 m.z1 v (h.x.below hb) n1 ((bp.below hb).at_ 0 rfl) ((bp.below hb).at_ 1 rfl)
  have H2 : Hid (∀ v, Below u.heap.size u v → Calls Tryd.prog 126 #[.pointer (some ⟨p, 2, none⟩)] v fun e w' => ∃ D E, e = .returned (.agg #[.int .i64 m.b2, .slice D m.z2.length E]) ∧ Own 2 w' v.heap.size w'.heap.size (.slice D m.z2.length E) m.z2 ∧ Below v.heap.size v w') :=
    Lib.hid fun v hb => l02OwnO_any p 2 m.b2 A2 C2 m.z2 v (h.y.below hb) n2 ((bp.below hb).at_ 2 rfl) ((bp.below hb).at_ 3 rfl)
  have H3 : Hid (∀ v, Below u.heap.size u v → Calls Tryd.prog 126 #[.pointer (some ⟨p, 4, none⟩)] v fun e w' => ∃ D E, e = .returned (.agg #[.int .i64 m.b3, .slice D m.z3.length E]) ∧ Own 2 w' v.heap.size w'.heap.size (.slice D m.z3.length E) m.z3 ∧ Below v.heap.size v w') :=
    Lib.hid fun v hb => l02OwnO_any p 4 m.b3 A3 C3 m.z3 v (h.z.below hb) n3 ((bp.below hb).at_ 4 rfl) ((bp.below hb).at_ 5 rfl)
  have k6 := kept_all (bp.at_ 6 rfl)
  rw [← hr] at hbel
  have HU := Lib.hid hu
  have HR := Lib.hid hr
  clear hu hr h bp n1 n2 n3
  go_enter Tryd.func90, Tryd.ntmps90
  go_upto_region 1 with fail
  rw [← HU.out, ← HR.out]
  refine wp_region_marked (fun w' => Below u.heap.size u w') 17 (by kernel_rfl) ?_
  have hS : Below u.heap.size u u.drew := (Below.refl _ _).drew
  refine wpAnyM_take (i := 0) (v := ?_) rfl (by kernel_rfl) (by kernel_rfl) (by kernel_rfl) (by kernel_rfl) (by kernel_rfl) (fun _ _ _ h => h) hS (.inl ⟨by rfl, ?_⟩) ?_
  rotate_left 1
  · intro w' hS'; go_simp; try with_reducible rfl
  simp only [Act.put, List.setIfInBounds_toArray]
  refine wpAnyM_take (i := 1) (v := ?_) rfl (by kernel_rfl) (by kernel_rfl) (by kernel_rfl) (by kernel_rfl) (by kernel_rfl) (fun _ _ _ h => h) hS (.inl ⟨by rfl, ?_⟩) ?_
  rotate_left 1
  · intro w' hS'; go_simp; try with_reducible rfl
  simp only [Act.put]
  refine wpAnyM_take (i := 2) (v := ?_) rfl (by kernel_rfl) (by kernel_rfl) (by kernel_rfl) (by kernel_rfl) (by kernel_rfl) (fun _ _ _ h => h) hS (.inl ⟨by rfl, ?_⟩) ?_
  rotate_left 1
  · intro w' hS'; go_simp; try with_reducible rfl
  simp only [Act.put]
  refine wpAnyM_take (i := 4) (v := ?_) rfl (by kernel_rfl) (by kernel_rfl) (by kernel_rfl) (by kernel_rfl) (by kernel_rfl) (fun _ _ _ h => h) hS (.inl ⟨by rfl, ?_⟩) ?_
  rotate_left 1
  · intro w' hS'; go_simp; try with_reducible rfl
  simp only [Act.put]
  refine wpAnyM_take (i := 5) (v := ?_) rfl (by kernel_rfl) (by kernel_rfl) (by kernel_rfl) (by kernel_rfl) (by kernel_rfl) (fun _ _ _ h => h) hS (.inl ⟨by rfl, ?_⟩) ?_
  rotate_left 1
  · intro w' hS'; go_simp; try with_reducible rfl
  simp only [Act.put]
  refine wpAnyM_take (i := 6) (v := ?_) rfl (by kernel_rfl) (by kernel_rfl) (by kernel_rfl) (by kernel_rfl) (by kernel_rfl) (fun _ _ _ h => h) hS (.inl ⟨by rfl, ?_⟩) ?_
  rotate_left 1
  · intro w' hS'; go_simp; try with_reducible rfl
  simp only [Act.put]
  refine wpAnyM_take (i := 8) (v := ?_) rfl (by kernel_rfl) (by kernel_rfl) (by kernel_rfl) (by kernel_rfl) (by kernel_rfl) (fun _ _ _ h => h) hS (.inl ⟨by rfl, ?_⟩) ?_
  rotate_left 1
  · intro w' hS'; go_simp; try with_reducible rfl
  simp only [Act.put]
  refine wpAnyM_take (i := 9) (v := ?_) rfl (by kernel_rfl) (by kernel_rfl) (by kernel_rfl) (by kernel_rfl) (by kernel_rfl) (fun _ _ _ h => h) hS (.inl ⟨by rfl, ?_⟩) ?_
  rotate_left 1
  · intro w' hS'; go_simp; try with_reducible rfl
  simp only [Act.put]
  refine wpAnyM_take (i := 10) (v := ?_) rfl (by kernel_rfl) (by kernel_rfl) (by kernel_rfl) (by kernel_rfl) (by kernel_rfl) (fun _ _ _ h => h) hS (.inl ⟨by rfl, ?_⟩) ?_
  rotate_left 1
  · intro w' hS'; go_simp; try with_reducible rfl
  simp only [Act.put]
  refine wpAnyM_take (i := 12) (v := ?_) rfl (by kernel_rfl) (by kernel_rfl) (by kernel_rfl) (by kernel_rfl) (by kernel_rfl) (fun _ _ _ h => h) hS (.inl ⟨by rfl, ?_⟩) ?_
  rotate_left 1
  · intro w' hS'; go_simp; try with_reducible rfl
  simp only [Act.put]
  refine wpAnyM_take (i := 13) (v := ?_) rfl (by kernel_rfl) (by kernel_rfl) (by kernel_rfl) (by kernel_rfl) (by kernel_rfl) (fun _ _ _ h => h) hS (.inl ⟨by rfl, ?_⟩) ?_
  rotate_left 1
  · intro w' hS'; go_simp; try with_reducible rfl
  simp only [Act.put]
  refine wpAnyM_take (i := 14) (v := ?_) rfl (by kernel_rfl) (by kernel_rfl) (by kernel_rfl) (by kernel_rfl) (by kernel_rfl) (fun _ _ _ h => h) hS (.inl ⟨by rfl, ?_⟩) ?_
  rotate_left 1
  · intro w' hS'; go_simp; try with_reducible rfl
  simp only [Act.put]
  refine wpAnyM_take (i := 15) (v := ?_) rfl (by kernel_rfl) (by kernel_rfl) (by kernel_rfl) (by kernel_rfl) (by kernel_rfl) (fun _ _ _ h => h) hS (.inl ⟨by rfl, ?_⟩) ?_
  rotate_left 1
  · intro w' hS'; go_simp; try with_reducible rfl
  simp only [Act.put]
  clear k6
  refine wpAnyM_one (i := 3) (by kernel_rfl) rfl (by rfl) (fun K hK => ?_)
  go_simp
  refine (H1.out u.drew hS).mono ?_
  rintro e w1 ⟨D1, E1, rfl, o1, hb⟩
  replace o1 : Own 2 w1 u.heap.size w1.heap.size (.slice D1 m.z1.length E1) m.z1 := o1
  have hS1 : Below u.heap.size u w1 := hS.trans (hb.mono hS.size)
  have hq1 : u.heap.size ≤ w1.heap.size := hb.size
  clear hb
  refine hK _ _ (.inr hS1) ?_
  try simp only [Act.put, List.setIfInBounds_toArray]
  clear hK K
  refine wpAnyM_one (i := 7) (by kernel_rfl) rfl (by rfl) (fun K hK => ?_)
  go_simp
  refine (H2.out w1 hS1).mono ?_
  rintro e w2 ⟨D2, E2, rfl, o2, hb⟩
  replace o1 := o1.below hb
  have hS2 : Below u.heap.size u w2 := hS1.trans (hb.mono hS1.size)
  have hq2 : w1.heap.size ≤ w2.heap.size := hb.size
  clear hb
  refine hK _ _ (.inr hS2) ?_
  try simp only [Act.put, List.setIfInBounds_toArray]
  clear hK K
  refine wpAnyM_one (i := 11) (by kernel_rfl) rfl (by rfl) (fun K hK => ?_)
  go_simp
  refine (H3.out w2 hS2).mono ?_
  rintro e w3 ⟨D3, E3, rfl, o3, hb⟩
  replace o1 := o1.below hb
  replace o2 := o2.below hb
  have hS3 : Below u.heap.size u w3 := hS2.trans (hb.mono hS2.size)
  have hq3 : w2.heap.size ≤ w3.heap.size := hb.size
  clear hb
  refine hK _ _ (.inr hS3) ?_
  try simp only [Act.put, List.setIfInBounds_toArray]
  clear hK K
  replace b0 := b0.below hS3
  refine wpAnyM_one (i := 16) (by kernel_rfl) rfl (by rfl) (fun K hK => ?_)
  go_simp
  refine hK _ _ (.inr hS3) ?_
  try simp only [Act.put, List.setIfInBounds_toArray]
  clear hK K
  have j0 := b0.at_ 0 rfl
  have j1 := b0.at_ 1 rfl
  have j2 := b0.at_ 2 rfl
  have j3 := b0.at_ 3 rfl
  have j4 := b0.at_ 4 rfl
  have j5 := b0.at_ 5 rfl
  have j6 := b0.at_ 6 rfl
  have f0 := b0.thaw 0
  have f1 := b0.thaw 1
  have f2 := b0.thaw 2
  have f3 := b0.thaw 3
  have f4 := b0.thaw 4
  have f5 := b0.thaw 5
  have f6 := b0.thaw 6
  have hl := b0.lt
  refine wpAnyM_one (i := 17) (by kernel_rfl) rfl (by rfl) (fun K hK => ?_)
  go_simp
  obtain ⟨w8, hw8⟩ : ∃ v, v = (((((((w3.setCell ⟨r, 0, none⟩ (.int .i64 m.b1)).setCell ⟨r, 1, none⟩ (.slice D1 m.z1.length E1)).setCell ⟨r, 2, none⟩ (.int .i64 m.b2)).setCell ⟨r, 3, none⟩ (.slice D2 m.z2.length E2)).setCell ⟨r, 4, none⟩ (.int .i64 m.b3)).setCell ⟨r, 5, none⟩ (.slice D3 m.z3.length E3)).setCell ⟨r, 6, none⟩ (.int .i64 m.p)) := ⟨_, rfl⟩
  rw [← hw8]
  have b9 : Bx w8 r 28 #[.int .i64 m.b1, .slice D1 m.z1.length E1, .int .i64 m.b2, .slice D2 m.z2.length E2, .int .i64 m.b3, .slice D3 m.z3.length E3, .int .i64 m.p] := by rw [hw8]; exact bx_put7 b0
  have t9 : Touch r (r + 1) w3 w8 := by rw [hw8]; exact touch_put7 _ _
  have hs9 := t9.size
  have o19 := o1.touch t9 (.inr (by omega))
  have o29 := o2.touch t9 (.inr (by omega))
  have o39 := o3.touch t9 (.inr (by omega))
  have hb9 : Below r w w8 := (hbel.trans (hS3.mono (by omega))).trans (t9.below (by omega) (by omega))
  clear hw8 j0 j1 j2 j3 j4 j5 j6 f0 f1 f2 f3 f4 f5 f6 hl
  refine hK _ _ (.inl rfl) ?_
  try simp only [Act.put, List.setIfInBounds_toArray]
  clear hK K
  refine wpAnyM_done (by kernel_rfl) ?_ _
  have c0 := b9.at_ 0 rfl
  have c1 := b9.at_ 1 rfl
  have c2 := b9.at_ 2 rfl
  have c3 := b9.at_ 3 rfl
  have c4 := b9.at_ 4 rfl
  have c5 := b9.at_ 5 rfl
  have c6 := b9.at_ 6 rfl
  go_wp2_with fail
  refine bodyPost_ret (v := .agg #[.int .i64 m.b1, .slice D1 m.z1.length E1, .int .i64 m.b2, .slice D2 m.z2.length E2, .int .i64 m.b3, .slice D3 m.z3.length E3, .int .i64 m.p]) (by simp [results, go_sem, c0, c1, c2, c3, c4, c5, c6]) rfl ?_
  have hr := HR.out
  exact ⟨D1, E1, D2, E2, D3, E3, rfl, ⟨_, _, _, _, _, _, o19, o29, o39, by omega⟩, by rw [← hr]; exact hb9⟩
end Go.Proofs.YtlahobdopmdfmaaDoor

/- MsvI -/
namespace Go.Proofs.YtlahobdopmdfmaaDoor
open Go.RowKit

/-- A setting that has the value. -/
theorem nrR_in {b v : Int} {n : Nat} (b0 : 2 ≤ b) (b1 : b ≤ 16) (n0 : 1 ≤ n) (n1 : n ≤ 16) (hf : b ^ n - 1 ≤ 1000000000000) (h : 0 ≤ v ∧ v ≤ b ^ n - 1) : nrR b n v = (b, digsR b n v, 0) :=
  nrR_ok ⟨b0, b1, n0, n1, h.1, by omega⟩ (by rw [leftR_none (by omega) h.1 (by omega)]; omega)
theorem nrR_out {b v : Int} {n : Nat} (b0 : 2 ≤ b) (b1 : b ≤ 16) (n0 : 1 ≤ n) (n1 : n ≤ 16) (h : ¬ (0 ≤ v ∧ v ≤ b ^ n - 1)) : ∃ k, nrR b n v = (0, [], k) ∧ k ≠ 0 := by
  by_cases hv : 0 ≤ v ∧ v ≤ 1000000000000
  · refine ⟨5, nrR_full ⟨b0, b1, n0, n1, hv.1, hv.2⟩ ?_, by omega⟩
    have hp := pow_pos' (show 1 ≤ b by omega) n
    rw [leftR_div (by omega)]
    have := (Int.le_ediv_iff_mul_le (a := 1) (b := v) (show 0 < b ^ n by omega)).2 (by omega)
    omega
  · exact ⟨2, nrR_bad (by omega), by omega⟩

/-- The machine with another setting. -/
def svM (m : Mac) (v : Int) : Mac := ⟨m.b1, digsR m.b1 m.z1.length v, m.b2, m.z2, m.b3, m.z3, m.p⟩

set_option maxRecDepth 100000 in
set_option maxHeartbeats 8000000 in
theorem implSetValue (m : Mac) (A1 : Option Addr) (C1 : Nat) (A2 : Option Addr) (C2 : Nat) (A3 : Option Addr) (C3 : Nat) (x : Int) (w : World) (h : Rd3 w A1 m.z1 A2 m.z2 A3 m.z3) (z : All64 m.z1 ∧ All64 m.z2 ∧ All64 m.z3) (y : I64 m.b1 ∧ I64 m.b2 ∧ I64 m.b3 ∧ I64 m.p) (bx : I64 x) (hD : BellD w) :
    Calls Tryd.prog 67 #[.agg #[.int .i64 m.b1, .slice A1 m.z1.length C1, .int .i64 m.b2, .slice A2 m.z2.length C2, .int .i64 m.b3, .slice A3 m.z3.length C3, .int .i64 m.p], .int .i64 x] w (MacC (svR m x) w) := by
  have R := Tryd.results67
  have hlen := h.len
  obtain ⟨g, hg⟩ : ∃ g, g = w.heap.size := ⟨_, rfl⟩
  obtain ⟨u, hu⟩ : ∃ u, u = (w.alloc (.cells #[.int .i64 m.b1, .slice A1 m.z1.length C1, .int .i64 m.b2, .slice A2 m.z2.length C2, .int .i64 m.b3, .slice A3 m.z3.length C3, .int .i64 m.p] 28)).alloc (.cells #[.int .i64 0, .slice none 0 0, .int .i64 0, .slice none 0 0, .int .i64 0, .slice none 0 0, .int .i64 0] 28) := ⟨_, rfl⟩
  have hbel : Below w.heap.size w u := by rw [hu]; exact (by repeat (first | exact Below.refl _ _ | refine Below.setCell ?_ (by first | omega | (simp <;> omega)) _ | refine Below.alloc ?_ (by first | omega | (simp <;> omega)) _ | refine Below.drew ?_))
  have bm : Bx u g 28 #[.int .i64 m.b1, .slice A1 m.z1.length C1, .int .i64 m.b2, .slice A2 m.z2.length C2, .int .i64 m.b3, .slice A3 m.z3.length C3, .int .i64 m.p] := by rw [hu, hg]; exact (Bx.new _ _ _).alloc _
  have br : Bx u (g + 1) 28 #[.int .i64 0, .slice none 0 0, .int .i64 0, .slice none 0 0, .int .i64 0, .slice none 0 0, .int .i64 0] := by rw [hu, hg]; simpa using Bx.new (w.alloc (.cells #[.int .i64 m.b1, .slice A1 m.z1.length C1, .int .i64 m.b2, .slice A2 m.z2.length C2, .int .i64 m.b3, .slice A3 m.z3.length C3, .int .i64 m.p] 28)) #[.int .i64 0, .slice none 0 0, .int .i64 0, .slice none 0 0, .int .i64 0, .slice none 0 0, .int .i64 0] 28
  have hgu : g + 1 < u.heap.size := br.lt
  have HV := Lib.hid (implValidMachine m A1 C1 A2 C2 A3 C3 u (h.below hbel) z y (hD.below hbel))
  have HB := Lib.hid (fun v => mBase_any m A1 C1 A2 C2 A3 C3 v)
  have HG := Lib.hid hg
  have HU := Lib.hid hu
  clear hu z hD
  cases hm : macB m with
  | false =>
    have HR := Lib.hid (show svR m x = (mac0, 1) by simp [svR, hm])
    rw [hm] at HV
    clear hm h
    go_enter Tryd.func67, Tryd.ntmps67
    go_wp2_with fail
    rw [← HU.out, ← hg]
    clear hg
    refine HV.out.mono ?_
    rintro e w1 ⟨rfl, hb⟩
    replace br := br.below hb
    replace hbel := hbel.trans (hb.mono hbel.size)
    clear hb bm
    have r0 := br.at_ 0 rfl
    have r1 := br.at_ 1 rfl
    have r2 := br.at_ 2 rfl
    have r3 := br.at_ 3 rfl
    have r4 := br.at_ 4 rfl
    have r5 := br.at_ 5 rfl
    have r6 := br.at_ 6 rfl
    have f0 := br.thaw 0
    have f1 := br.thaw 1
    have f2 := br.thaw 2
    have f3 := br.thaw 3
    have f4 := br.thaw 4
    have f5 := br.thaw 5
    have f6 := br.thaw 6
    have hl := br.lt
    go_wp2
    exact bodyPost_ret (v := .tuple #[.agg #[.int .i64 0, .slice none 0 0, .int .i64 0, .slice none 0 0, .int .i64 0, .slice none 0 0, .int .i64 0], .int .i64 1]) (by simp [results, go_sem, r0, r1, r2, r3, r4, r5, r6]) rfl (macC_err HR.out rfl (by have := HG.out; exact (by repeat (first | with_reducible exact hbel | with_reducible refine Below.setCell ?_ (by first | omega | (simp <;> omega)) _ | with_reducible refine Below.alloc ?_ (by first | omega | (simp <;> omega)) _ | with_reducible refine Below.drew ?_))))
  | true =>
    have hF := macB_spec hm
    obtain ⟨e2, e3, b0, b1, n0, n12, n2, n3, n4, p0, p1, p2, d1, d2, d3⟩ := macB_facts hm
    have hpw : m.b1 ^ m.z1.length - 1 ≤ 1000000000000 := by
      have := pow_mono' b0 n12
      have := hF.2.2.2.2.2.1
      omega
    have HC := Lib.hid (fun (v : World) (hb : Below w.heap.size w v) => copied_any m A1 C1 A2 C2 A3 C3 v (h.below hb) (by omega) (by omega) (by omega))
    have HN := Lib.hid (fun v => implNewReg_at m.b1 m.z1.length x v y.1 (i64_of (by omega) (by omega)) bx)
    have HX : Hid ((nrR m.b1 m.z1.length x = (m.b1, digsR m.b1 m.z1.length x, 0) ∧ svR m x = (svM m x, 0)) ∨ ∃ k, nrR m.b1 m.z1.length x = (0, [], k) ∧ k ≠ 0 ∧ svR m x = (mac0, 2)) := Lib.hid (by
      by_cases hr : 0 ≤ x ∧ x ≤ m.b1 ^ m.z1.length - 1
      · exact .inl ⟨nrR_in b0 b1 n0 (by omega) hpw hr, by rw [svR, if_pos hm, if_pos hr]; rfl⟩
      · obtain ⟨k, h1, h2⟩ := nrR_out b0 b1 n0 (by omega) hr
        exact .inr ⟨k, h1, h2, by rw [svR, if_pos hm, if_neg hr]⟩)
    rw [hm] at HV
    clear hm hF e2 e3 b0 b1 n0 n12 n2 n3 n4 p0 p1 p2 d1 d2 d3 hpw h bx y
    obtain ⟨N, hN⟩ : ∃ N, nrR m.b1 m.z1.length x = N := ⟨_, rfl⟩
    rw [hN] at HN HX
    clear hN
    go_enter Tryd.func67, Tryd.ntmps67
    go_wp2_with fail
    rw [← HU.out, ← hg]
    clear hg
    refine HV.out.mono ?_
    rintro e w1 ⟨rfl, hb⟩
    have hz1 := hb.size
    replace bm := bm.below hb
    replace br := br.below hb
    replace hbel := hbel.trans (hb.mono hbel.size)
    clear hb
    go_upto_region 3 with fail
    go_cut [6, 7] from 8 (fun sl6 sl7 wx => BoxReg w1 N.1 N.2.1 sl6 wx ∧ sl7 = .int .i64 N.2.2)
    case first =>
      have k0 := kept_all (bm.at_ 0 rfl)
      have k1 := kept_all (bm.at_ 1 rfl)
      have k2 := kept_all (bm.at_ 2 rfl)
      have k3 := kept_all (bm.at_ 3 rfl)
      have k4 := kept_all (bm.at_ 4 rfl)
      have k5 := kept_all (bm.at_ 5 rfl)
      have k6 := kept_all (bm.at_ 6 rfl)
      clear bm br
      go_region_held3 (fun w' => Below w1.heap.size w1 w') (first | exact hk | exact (Below.refl _ _).drew | exact hk.alloc hk.size _ | exact (Below.refl _ _).drew.alloc (Nat.le_refl _) _ | exact (hk.alloc hk.size _).setCell hk.size _ | exact (hk.setCell bg.out _).setCell bg.out _)
        (first
        | (go_at_call 138; have qB := ‹Below w1.heap.size w1 _›; ((with_reducible refine (HB.out ((w1.alloc (.cells #[.int .i64 0, .slice none 0 0] 26)).drew)).mono ?_)); rintro e w2 ⟨rfl, hb⟩; have bz := ((Bx.new w1 #[.int .i64 0, .slice none 0 0] 26).drew).below hb; have bg : Hid (w1.heap.size ≤ w1.drew.heap.size) := Lib.hid (Nat.le_refl _); have hk := qB.trans (hb.mono qB.size))
        | (go_at_call 138; have qB := ‹Below w1.heap.size w1 _›; ((with_reducible refine (HB.out w1.drew).mono ?_)); rintro e w2 ⟨rfl, hb⟩; have hk := qB.trans (hb.mono qB.size))
        | (go_at_call 136; have qB := ‹Below w1.heap.size w1 _›; ((with_reducible refine (HN.out (w2.alloc (.cells #[.int .i64 0, .slice none 0 0] 26))).mono ?_)); rintro e w3 ⟨A, C, rfl, own, hb⟩; have bz := (Bx.new w2 #[.int .i64 0, .slice none 0 0] 26); have bg : Hid (w1.heap.size ≤ w2.heap.size) := Lib.hid (‹Below w1.heap.size w1 w2›).size; have bh := Lib.hid bz.lt; replace bz := bz.below hb; have bz0 := bz.at_ 0 rfl; have bf0 := bz.thaw 0; have bz1 := bz.at_ 1 rfl; have bf1 := bz.thaw 1; have hkU := qB; have hbU := hb; have hk := qB.trans (hb.mono qB.size))
        | (go_at_call 136; have qB := ‹Below w1.heap.size w1 _›; ((with_reducible refine (HN.out w2).mono ?_)); rintro e w3 ⟨A, C, rfl, own, hb⟩; (try (have bh := Lib.hid bz.lt; replace bz := bz.below hb; have bz0 := bz.at_ 0 rfl; have bf0 := bz.thaw 0; have bz1 := bz.at_ 1 rfl; have bf1 := bz.thaw 1)); have hkU := qB; have hbU := hb; have hk := qB.trans (hb.mono qB.size)))
      all_goals (go_wp2_with fail; go_meet; case rel => first | with_reducible exact ⟨boxReg_after hkU hbU own, rfl⟩ | with_reducible exact ⟨boxReg_before hkU hbU own bz bg bh, rfl⟩ | exact ⟨boxReg_after hkU hbU own, rfl⟩ | exact ⟨boxReg_before hkU hbU own bz bg bh, rfl⟩)
    case rest =>
    obtain ⟨⟨q, A, C, lo, hi, rfl, cq0, cq1, own, s1, s2, s3, s4, s5, hb⟩, rfl⟩ := hcut
    obtain ⟨w2, rfl⟩ : ∃ u, u = wc := ⟨_, rfl⟩
    have hz2 := hb.size
    replace bm := bm.below hb
    replace br := br.below hb
    replace hbel := hbel.trans (hb.mono hbel.size)
    clear hb
    rcases HX.out with ⟨hN, HR⟩ | ⟨k, hN, hk, HR⟩
    · rw [hN] at cq0 cq1 own ⊢
      dsimp only at cq0 cq1 own ⊢
      clear hN HX HN HV
      obtain ⟨Z, hZ⟩ : ∃ Z, Z = digsR m.b1 m.z1.length x := ⟨_, rfl⟩
      have HM := Lib.hid (show svM m x = ⟨m.b1, Z, m.b2, m.z2, m.b3, m.z3, m.p⟩ by rw [hZ]; rfl)
      rw [← hZ] at cq1 own
      clear hZ
      have c0 := bm.at_ 0 rfl
      have c1 := bm.at_ 1 rfl
      have c2 := bm.at_ 2 rfl
      have c3 := bm.at_ 3 rfl
      have c4 := bm.at_ 4 rfl
      have c5 := bm.at_ 5 rfl
      have c6 := bm.at_ 6 rfl
      go_wp2_with fail
      refine (HC.out w2 hbel).mono ?_
      rintro e w3 ⟨D1, E1, D2, E2, D3, E3, rfl, own3, hb⟩
      have hz3 := hb.size
      replace br := br.below hb
      replace own := own.below hb
      replace cq0 := kept hb cq0
      replace cq1 := kept hb cq1
      replace hbel := hbel.trans (hb.mono hbel.size)
      have hqz : q < w2.heap.size := s4.out
      clear hb c0 c1 c2 c3 c4 c5 c6 bm HC
      go_upto_region 7 with fail
      obtain ⟨c, hc⟩ : ∃ c, c = w3.heap.size := ⟨_, rfl⟩
      obtain ⟨V, hV⟩ : ∃ V, V = w3.alloc (.cells #[.int .i64 m.b1, .slice D1 m.z1.length E1, .int .i64 m.b2, .slice D2 m.z2.length E2, .int .i64 m.b3, .slice D3 m.z3.length E3, .int .i64 m.p] 28) := ⟨_, rfl⟩
      try rw [← hc, ← hV]
      have bc : Bx V c 28 #[.int .i64 m.b1, .slice D1 m.z1.length E1, .int .i64 m.b2, .slice D2 m.z2.length E2, .int .i64 m.b3, .slice D3 m.z3.length E3, .int .i64 m.p] := by rw [hV, hc]; exact Bx.new _ _ _
      have hb : Below w3.heap.size w3 V := by rw [hV]; exact (Below.refl _ _).alloc (Nat.le_refl _) _
      have hz4 := hb.size
      have hcl := bc.lt
      have hc3 : w3.heap.size ≤ c := by omega
      replace br := br.below hb
      replace own := own.below hb
      replace own3 := own3.below hb
      replace cq0 := kept hb cq0
      replace cq1 := kept hb cq1
      replace hbel := hbel.trans (hb.mono hbel.size)
      clear hb hV hc
      obtain ⟨l1, h1, l2, h2, l3, h3, o1, o2, o3, s⟩ := own3.ex
      have x0 := bc.at_ 0 rfl
      have x1 := bc.at_ 1 rfl
      have y0 := bc.thaw 0
      have y1 := bc.thaw 1
      go_upto_region 8 with fail
      obtain ⟨V2, hV⟩ : ∃ V2, V2 = (V.setCell ⟨c, 0, none⟩ (.int .i64 m.b1)).setCell ⟨c, 1, none⟩ (.slice A Z.length C) := ⟨_, rfl⟩
      try rw [← hV]
      have hg0 := HG.out
      have s1o := s1.out
      have s2o := s2.out
      have s3o := s3.out
      have s5o := s5.out
      have a1 : hi ≤ c := by omega
      have a2 : h2 ≤ c := by omega
      have a3 : h3 ≤ c := by omega
      have o1v : Own 2 V2 lo hi (.slice A Z.length C) Z := by rw [hV]; exact (own.setCell (.inr (by simp; omega)) _).setCell (.inr (by simp; omega)) _
      have o2v : Own 2 V2 l2 h2 (.slice D2 m.z2.length E2) m.z2 := by rw [hV]; exact (o2.setCell (.inr (by simp; omega)) _).setCell (.inr (by simp; omega)) _
      have o3v : Own 2 V2 l3 h3 (.slice D3 m.z3.length E3) m.z3 := by rw [hV]; exact (o3.setCell (.inr (by simp; omega)) _).setCell (.inr (by simp; omega)) _
      have bcv : Bx V2 c 28 #[.int .i64 m.b1, .slice A Z.length C, .int .i64 m.b2, .slice D2 m.z2.length E2, .int .i64 m.b3, .slice D3 m.z3.length E3, .int .i64 m.p] := by rw [hV]; exact (bc.set_ 0 _).set_ 1 _
      have brv : Bx V2 (g + 1) 28 #[.int .i64 0, .slice none 0 0, .int .i64 0, .slice none 0 0, .int .i64 0, .slice none 0 0, .int .i64 0] := by rw [hV]; exact (br.far (by simp; omega) _).far (by simp; omega) _
      have hbv : Below w.heap.size w V2 := by rw [hV]; exact (by repeat (first | with_reducible exact hbel | with_reducible refine Below.setCell ?_ (by first | omega | (simp <;> omega)) _ | with_reducible refine Below.alloc ?_ (by first | omega | (simp <;> omega)) _ | with_reducible refine Below.drew ?_))
      have hzv : V2.heap.size = V.heap.size := by rw [hV]; simp
      have HO : Hid (Own3 2 V2 (g + 2) V2.heap.size (.slice A Z.length C) Z (.slice D2 m.z2.length E2) m.z2 (.slice D3 m.z3.length E3) m.z3) := Lib.hid ⟨_, _, _, _, _, _, o1v, o2v, o3v, by omega⟩
      have HS := Lib.hid (show w.heap.size ≤ g + 2 by omega)
      clear hV own own3 o1 o2 o3 o1v o2v o3v bc br hbel x0 x1 y0 y1 cq0 cq1 s a1 a2 a3 s1o s2o s3o s5o hz1 hz2 hz3 hz4 hzv hg0 hcl hc3 hqz hgu
      have c0 := bcv.at_ 0 rfl
      have c1 := bcv.at_ 1 rfl
      have c2 := bcv.at_ 2 rfl
      have c3 := bcv.at_ 3 rfl
      have c4 := bcv.at_ 4 rfl
      have c5 := bcv.at_ 5 rfl
      have c6 := bcv.at_ 6 rfl
      have j0 := brv.at_ 0 rfl
      have j1 := brv.at_ 1 rfl
      have j2 := brv.at_ 2 rfl
      have j3 := brv.at_ 3 rfl
      have j4 := brv.at_ 4 rfl
      have j5 := brv.at_ 5 rfl
      have j6 := brv.at_ 6 rfl
      have f0 := brv.thaw 0
      have f1 := brv.thaw 1
      have f2 := brv.thaw 2
      have f3 := brv.thaw 3
      have f4 := brv.thaw 4
      have f5 := brv.thaw 5
      have f6 := brv.thaw 6
      have hl := brv.lt
      have bz : Bx (((((((V2.setCell ⟨g + 1, 0, none⟩ (.int .i64 m.b1)).setCell ⟨g + 1, 1, none⟩ (.slice A Z.length C)).setCell ⟨g + 1, 2, none⟩ (.int .i64 m.b2)).setCell ⟨g + 1, 3, none⟩ (.slice D2 m.z2.length E2)).setCell ⟨g + 1, 4, none⟩ (.int .i64 m.b3)).setCell ⟨g + 1, 5, none⟩ (.slice D3 m.z3.length E3)).setCell ⟨g + 1, 6, none⟩ (.int .i64 m.p)) (g + 1) 28 #[.int .i64 m.b1, .slice A Z.length C, .int .i64 m.b2, .slice D2 m.z2.length E2, .int .i64 m.b3, .slice D3 m.z3.length E3, .int .i64 m.p] := bx_put7 brv
      have r0 := bz.at_ 0 rfl
      have r1 := bz.at_ 1 rfl
      have r2 := bz.at_ 2 rfl
      have r3 := bz.at_ 3 rfl
      have r4 := bz.at_ 4 rfl
      have r5 := bz.at_ 5 rfl
      have r6 := bz.at_ 6 rfl
      clear bz
      go_wp2
      exact bodyPost_ret (v := .tuple #[.agg #[.int .i64 m.b1, .slice A Z.length C, .int .i64 m.b2, .slice D2 m.z2.length E2, .int .i64 m.b3, .slice D3 m.z3.length E3, .int .i64 m.p], .int .i64 0]) (by simp [results, go_sem, r0, r1, r2, r3, r4, r5, r6]) rfl
        (macC_ok (A1 := A) (C1 := C) (A2 := D2) (C2 := E2) (A3 := D3) (C3 := E3) (lo := g + 2) (hi := V2.heap.size) (HR.trans (by rw [HM.out])) rfl (((((((HO.out.setCell (p := ⟨g + 1, 0, none⟩) (.inl (by simp)) _).setCell (p := ⟨g + 1, 1, none⟩) (.inl (by simp)) _).setCell (p := ⟨g + 1, 2, none⟩) (.inl (by simp)) _).setCell (p := ⟨g + 1, 3, none⟩) (.inl (by simp)) _).setCell (p := ⟨g + 1, 4, none⟩) (.inl (by simp)) _).setCell (p := ⟨g + 1, 5, none⟩) (.inl (by simp)) _).setCell (p := ⟨g + 1, 6, none⟩) (.inl (by simp)) _) HS.out (by simp) (by have := HG.out; exact (by repeat (first | with_reducible exact hbv | with_reducible refine Below.setCell ?_ (by first | omega | (simp <;> omega)) _ | with_reducible refine Below.alloc ?_ (by first | omega | (simp <;> omega)) _ | with_reducible refine Below.drew ?_))))
    · have hkb : (k != 0) = true := by simp [hk]
      rw [hN] at cq0 cq1 own ⊢
      dsimp only at cq0 cq1 own ⊢
      clear hN HX HN HV HC own hk bm
      have r0 := br.at_ 0 rfl
      have r1 := br.at_ 1 rfl
      have r2 := br.at_ 2 rfl
      have r3 := br.at_ 3 rfl
      have r4 := br.at_ 4 rfl
      have r5 := br.at_ 5 rfl
      have r6 := br.at_ 6 rfl
      have f0 := br.thaw 0
      have f1 := br.thaw 1
      have f2 := br.thaw 2
      have f3 := br.thaw 3
      have f4 := br.thaw 4
      have f5 := br.thaw 5
      have f6 := br.thaw 6
      have hl := br.lt
      go_wp2
      exact bodyPost_ret (v := .tuple #[.agg #[.int .i64 0, .slice none 0 0, .int .i64 0, .slice none 0 0, .int .i64 0, .slice none 0 0, .int .i64 0], .int .i64 2]) (by simp [results, go_sem, r0, r1, r2, r3, r4, r5, r6]) rfl (macC_err HR rfl (by have := HG.out; exact (by repeat (first | with_reducible exact hbel | with_reducible refine Below.setCell ?_ (by first | omega | (simp <;> omega)) _ | with_reducible refine Below.alloc ?_ (by first | omega | (simp <;> omega)) _ | with_reducible refine Below.drew ?_))))
end Go.Proofs.YtlahobdopmdfmaaDoor

/- MsdI -/
namespace Go.Proofs.YtlahobdopmdfmaaDoor
open Go.RowKit

theorem own_first {t : TypeId} {w : World} {lo hi n c : Nat} {A : Option Addr} {zs : List Int} (h : Own t w lo hi (.slice A n c) zs) (hn : 0 < zs.length) : ∃ p, A = some ⟨p, 0, none⟩ ∧ lo ≤ p ∧ p < hi := by
  rcases h.row.2 with ⟨_, h0⟩ | ⟨g, cap, cur, hv, _⟩
  · omega
  · injection hv with hA
    subst hA
    have := h.lo_le (k := g) rfl
    exact ⟨g, rfl, this.1, this.2.1⟩

/-- The machine with another digit of the setting. -/
def sdM (m : Mac) (k d : Int) : Mac := ⟨m.b1, m.z1.set k.toNat d, m.b2, m.z2, m.b3, m.z3, m.p⟩

set_option maxRecDepth 100000 in
set_option maxHeartbeats 8000000 in
theorem implSetDigit (m : Mac) (A1 : Option Addr) (C1 : Nat) (A2 : Option Addr) (C2 : Nat) (A3 : Option Addr) (C3 : Nat) (k d : Int) (w : World) (h : Rd3 w A1 m.z1 A2 m.z2 A3 m.z3) (z : All64 m.z1 ∧ All64 m.z2 ∧ All64 m.z3) (y : I64 m.b1 ∧ I64 m.b2 ∧ I64 m.b3 ∧ I64 m.p) (_ : I64 k) (_ : I64 d) (hD : BellD w) :
    Calls Tryd.prog 69 #[.agg #[.int .i64 m.b1, .slice A1 m.z1.length C1, .int .i64 m.b2, .slice A2 m.z2.length C2, .int .i64 m.b3, .slice A3 m.z3.length C3, .int .i64 m.p], .int .i64 k, .int .i64 d] w (MacC (sdR m k d) w) := by
  have R := Tryd.results69
  have hlen := h.len
  obtain ⟨g, hg⟩ : ∃ g, g = w.heap.size := ⟨_, rfl⟩
  obtain ⟨u, hu⟩ : ∃ u, u = (w.alloc (.cells #[.int .i64 m.b1, .slice A1 m.z1.length C1, .int .i64 m.b2, .slice A2 m.z2.length C2, .int .i64 m.b3, .slice A3 m.z3.length C3, .int .i64 m.p] 28)).alloc (.cells #[.int .i64 0, .slice none 0 0, .int .i64 0, .slice none 0 0, .int .i64 0, .slice none 0 0, .int .i64 0] 28) := ⟨_, rfl⟩
  have hbel : Below w.heap.size w u := by rw [hu]; exact (by repeat (first | exact Below.refl _ _ | refine Below.setCell ?_ (by first | omega | (simp <;> omega)) _ | refine Below.alloc ?_ (by first | omega | (simp <;> omega)) _ | refine Below.drew ?_))
  have bm : Bx u g 28 #[.int .i64 m.b1, .slice A1 m.z1.length C1, .int .i64 m.b2, .slice A2 m.z2.length C2, .int .i64 m.b3, .slice A3 m.z3.length C3, .int .i64 m.p] := by rw [hu, hg]; exact (Bx.new _ _ _).alloc _
  have br : Bx u (g + 1) 28 #[.int .i64 0, .slice none 0 0, .int .i64 0, .slice none 0 0, .int .i64 0, .slice none 0 0, .int .i64 0] := by rw [hu, hg]; simpa using Bx.new (w.alloc (.cells #[.int .i64 m.b1, .slice A1 m.z1.length C1, .int .i64 m.b2, .slice A2 m.z2.length C2, .int .i64 m.b3, .slice A3 m.z3.length C3, .int .i64 m.p] 28)) #[.int .i64 0, .slice none 0 0, .int .i64 0, .slice none 0 0, .int .i64 0, .slice none 0 0, .int .i64 0] 28
  have hgu : g + 1 < u.heap.size := br.lt
  have HV := Lib.hid (implValidMachine m A1 C1 A2 C2 A3 C3 u (h.below hbel) z y (hD.below hbel))
  have HB := Lib.hid (fun v => mBase_any m A1 C1 A2 C2 A3 C3 v)
  have HG := Lib.hid hg
  have HU := Lib.hid hu
  clear hu z hD y
  cases hm : macB m with
  | false =>
    have HR := Lib.hid (show sdR m k d = (mac0, 1) by simp [sdR, hm])
    rw [hm] at HV
    clear hm h
    go_enter Tryd.func69, Tryd.ntmps69
    go_wp2_with fail
    rw [← HU.out, ← hg]
    clear hg
    refine HV.out.mono ?_
    rintro e w1 ⟨rfl, hb⟩
    replace br := br.below hb
    replace hbel := hbel.trans (hb.mono hbel.size)
    clear hb bm
    have r0 := br.at_ 0 rfl
    have r1 := br.at_ 1 rfl
    have r2 := br.at_ 2 rfl
    have r3 := br.at_ 3 rfl
    have r4 := br.at_ 4 rfl
    have r5 := br.at_ 5 rfl
    have r6 := br.at_ 6 rfl
    have f0 := br.thaw 0
    have f1 := br.thaw 1
    have f2 := br.thaw 2
    have f3 := br.thaw 3
    have f4 := br.thaw 4
    have f5 := br.thaw 5
    have f6 := br.thaw 6
    have hl := br.lt
    go_wp2
    exact bodyPost_ret (v := .tuple #[.agg #[.int .i64 0, .slice none 0 0, .int .i64 0, .slice none 0 0, .int .i64 0, .slice none 0 0, .int .i64 0], .int .i64 1]) (by simp [results, go_sem, r0, r1, r2, r3, r4, r5, r6]) rfl (macC_err HR.out rfl (by have := HG.out; exact (by repeat (first | with_reducible exact hbel | with_reducible refine Below.setCell ?_ (by first | omega | (simp <;> omega)) _ | with_reducible refine Below.alloc ?_ (by first | omega | (simp <;> omega)) _ | with_reducible refine Below.drew ?_))))
  | true =>
    obtain ⟨e2, e3, b0, b1, n0, n12, n2, n3, n4, p0, p1, p2, d1, d2, d3⟩ := macB_facts hm
    have HC := Lib.hid (fun (v : World) (hb : Below w.heap.size w v) => copied_any m A1 C1 A2 C2 A3 C3 v (h.below hb) (by omega) (by omega) (by omega))
    have w1 : IntKind.i64.wrap ((m.z1.length : Int) - 1) = (m.z1.length : Int) - 1 := IntWalk.i64_in _ (by omega)
    have w2 : IntKind.i64.wrap (m.b1 - 1) = m.b1 - 1 := IntWalk.i64_in _ (by omega)
    obtain ⟨q1, hq1⟩ : ∃ q, inB k 0 ((m.z1.length : Int) - 1) = q := ⟨_, rfl⟩
    obtain ⟨q2, hq2⟩ : ∃ q, inB d 0 (m.b1 - 1) = q := ⟨_, rfl⟩
    have HR : Hid (sdR m k d = if (q1 && q2) = true then (sdM m k d, 0) else (mac0, 2)) := Lib.hid (by
      rw [sdR, if_pos hm, ← hq1, ← hq2, inB_eq, inB_eq]
      simp only [Bool.and_eq_true, decide_eq_true_eq]
      rfl)
    rw [hm] at HV
    clear hm e2 e3 n12 n2 n3 n4 p0 p1 p2 d1 d2 d3 h
    cases q1 with
    | false =>
      replace HR := Lib.hid (HR.out.trans (if_neg (by simp)))
      go_enter Tryd.func69, Tryd.ntmps69
      go_wp2_with fail
      rw [← HU.out, ← hg]
      clear hg
      refine HV.out.mono ?_
      rintro e w3 ⟨rfl, hb⟩
      replace bm := bm.below hb
      replace br := br.below hb
      replace hbel := hbel.trans (hb.mono hbel.size)
      have hz := hbel.size
      clear hb
      have c1 := bm.at_ 1 rfl
      go_wp2_with fail
      refine (within1_at 0 ((m.z1.length : Int) - 1) k _ w3.heap.size 1 (cell_new1 _ _ _)).mono ?_
      rintro e w4 ⟨rfl, hw⟩
      subst w4
      rw [hq1]
      replace br := br.alloc (.cells #[.int .i64 k] 2)
      replace hbel := hbel.alloc hz (.cells #[.int .i64 k] 2)
      obtain ⟨w5, hw5⟩ : ∃ v, v = w3.alloc (.cells #[.int .i64 k] 2) := ⟨_, rfl⟩
      rw [← hw5] at br hbel ⊢
      clear hw5 hq1 hq2 bm c1
      have r0 := br.at_ 0 rfl
      have r1 := br.at_ 1 rfl
      have r2 := br.at_ 2 rfl
      have r3 := br.at_ 3 rfl
      have r4 := br.at_ 4 rfl
      have r5 := br.at_ 5 rfl
      have r6 := br.at_ 6 rfl
      have f0 := br.thaw 0
      have f1 := br.thaw 1
      have f2 := br.thaw 2
      have f3 := br.thaw 3
      have f4 := br.thaw 4
      have f5 := br.thaw 5
      have f6 := br.thaw 6
      have hl := br.lt
      go_wp2
      exact bodyPost_ret (v := .tuple #[.agg #[.int .i64 0, .slice none 0 0, .int .i64 0, .slice none 0 0, .int .i64 0, .slice none 0 0, .int .i64 0], .int .i64 2]) (by simp [results, go_sem, r0, r1, r2, r3, r4, r5, r6]) rfl (macC_err HR.out rfl (by have := HG.out; exact (by repeat (first | with_reducible exact hbel | with_reducible refine Below.setCell ?_ (by first | omega | (simp <;> omega)) _ | with_reducible refine Below.alloc ?_ (by first | omega | (simp <;> omega)) _ | with_reducible refine Below.drew ?_))))
    | true =>
      cases q2 with
      | false =>
        replace HR := Lib.hid (HR.out.trans (if_neg (by simp)))
        go_enter Tryd.func69, Tryd.ntmps69
        go_wp2_with fail
        rw [← HU.out, ← hg]
        clear hg
        refine HV.out.mono ?_
        rintro e w3 ⟨rfl, hb⟩
        have hbb := Lib.hid (show g + 1 < w3.heap.size by have := hb.size; omega)
        replace bm := bm.below hb
        replace br := br.below hb
        replace hbel := hbel.trans (hb.mono hbel.size)
        have hz := hbel.size
        clear hb
        have c1 := bm.at_ 1 rfl
        go_wp2_with fail
        refine (within1_at 0 ((m.z1.length : Int) - 1) _ _ w3.heap.size 1 (cell_new1 _ _ _)).mono ?_
        rintro e w4 ⟨rfl, hw⟩
        subst w4
        rw [hq1]
        clear c1
        obtain ⟨w5, hw5⟩ : ∃ v, v = w3.alloc (.cells #[.int .i64 k] 2) := ⟨_, rfl⟩
        have hb : Below w3.heap.size w3 w5 := by rw [hw5]; exact (Below.refl _ _).alloc (Nat.le_refl _) _
        replace hbb := Lib.hid (show g + 1 < w5.heap.size by have := hb.size; have := hbb.out; omega)
        rw [← hw5]
        replace bm := bm.below hb
        replace br := br.below hb
        replace hbel := hbel.trans (hb.mono hbel.size)
        clear hw5 hb hq1
        have c0 := bm.at_ 0 rfl
        have c1 := bm.at_ 1 rfl
        have c2 := bm.at_ 2 rfl
        have c3 := bm.at_ 3 rfl
        have c4 := bm.at_ 4 rfl
        have c5 := bm.at_ 5 rfl
        have c6 := bm.at_ 6 rfl
        go_wp2_with fail
        refine (HB.out w5).mono ?_
        rintro e w6 ⟨rfl, hb⟩
        replace hbb := Lib.hid (show g + 1 < w6.heap.size by have := hb.size; have := hbb.out; omega)
        replace bm := bm.below hb
        replace br := br.below hb
        replace hbel := hbel.trans (hb.mono hbel.size)
        have hz2 := hbel.size
        clear hb c0 c1 c2 c3 c4 c5 c6
        go_wp2_with fail
        refine (within1_at 0 (m.b1 - 1) d _ w6.heap.size 1 (cell_new1 _ _ _)).mono ?_
        rintro e w7 ⟨rfl, hw⟩
        subst w7
        rw [hq2]
        obtain ⟨w8, hw8⟩ : ∃ v, v = w6.alloc (.cells #[.int .i64 d] 2) := ⟨_, rfl⟩
        have hb : Below w6.heap.size w6 w8 := by rw [hw8]; exact (Below.refl _ _).alloc (Nat.le_refl _) _
        replace hbb := Lib.hid (show g + 1 < w8.heap.size by have := hb.size; have := hbb.out; omega)
        rw [← hw8]
        replace bm := bm.below hb
        replace br := br.below hb
        replace hbel := hbel.trans (hb.mono hbel.size)
        clear hw8 hb hq2
        have r0 := br.at_ 0 rfl
        have r1 := br.at_ 1 rfl
        have r2 := br.at_ 2 rfl
        have r3 := br.at_ 3 rfl
        have r4 := br.at_ 4 rfl
        have r5 := br.at_ 5 rfl
        have r6 := br.at_ 6 rfl
        have f0 := br.thaw 0
        have f1 := br.thaw 1
        have f2 := br.thaw 2
        have f3 := br.thaw 3
        have f4 := br.thaw 4
        have f5 := br.thaw 5
        have f6 := br.thaw 6
        have hl := br.lt
        go_wp2
        exact bodyPost_ret (v := .tuple #[.agg #[.int .i64 0, .slice none 0 0, .int .i64 0, .slice none 0 0, .int .i64 0, .slice none 0 0, .int .i64 0], .int .i64 2]) (by simp [results, go_sem, r0, r1, r2, r3, r4, r5, r6]) rfl (macC_err HR.out rfl (by have := HG.out; exact (by repeat (first | with_reducible exact hbel | with_reducible refine Below.setCell ?_ (by first | omega | (simp <;> omega)) _ | with_reducible refine Below.alloc ?_ (by first | omega | (simp <;> omega)) _ | with_reducible refine Below.drew ?_))))
      | true =>
        replace HR := Lib.hid (HR.out.trans (if_pos rfl))
        obtain ⟨k0, k1⟩ := inB_true hq1
        obtain ⟨j, rfl⟩ := Int.eq_ofNat_of_zero_le k0
        have hj : j < m.z1.length := by omega
        go_enter Tryd.func69, Tryd.ntmps69
        go_wp2_with fail
        rw [← HU.out, ← hg]
        clear hg
        refine HV.out.mono ?_
        rintro e w3 ⟨rfl, hb⟩
        have hbb := Lib.hid (show g + 1 < w3.heap.size by have := hb.size; omega)
        replace bm := bm.below hb
        replace br := br.below hb
        replace hbel := hbel.trans (hb.mono hbel.size)
        have hz := hbel.size
        clear hb
        have c1 := bm.at_ 1 rfl
        go_wp2_with fail
        refine (within1_at 0 ((m.z1.length : Int) - 1) _ _ w3.heap.size 1 (cell_new1 _ _ _)).mono ?_
        rintro e w4 ⟨rfl, hw⟩
        subst w4
        rw [hq1]
        clear c1
        obtain ⟨w5, hw5⟩ : ∃ v, v = w3.alloc (.cells #[.int .i64 j] 2) := ⟨_, rfl⟩
        have hb : Below w3.heap.size w3 w5 := by rw [hw5]; exact (Below.refl _ _).alloc (Nat.le_refl _) _
        replace hbb := Lib.hid (show g + 1 < w5.heap.size by have := hb.size; have := hbb.out; omega)
        rw [← hw5]
        replace bm := bm.below hb
        replace br := br.below hb
        replace hbel := hbel.trans (hb.mono hbel.size)
        clear hw5 hb hq1
        have c0 := bm.at_ 0 rfl
        have c1 := bm.at_ 1 rfl
        have c2 := bm.at_ 2 rfl
        have c3 := bm.at_ 3 rfl
        have c4 := bm.at_ 4 rfl
        have c5 := bm.at_ 5 rfl
        have c6 := bm.at_ 6 rfl
        go_wp2_with fail
        refine (HB.out w5).mono ?_
        rintro e w6 ⟨rfl, hb⟩
        replace hbb := Lib.hid (show g + 1 < w6.heap.size by have := hb.size; have := hbb.out; omega)
        replace bm := bm.below hb
        replace br := br.below hb
        replace hbel := hbel.trans (hb.mono hbel.size)
        have hz2 := hbel.size
        clear hb c0 c1 c2 c3 c4 c5 c6
        go_wp2_with fail
        refine (within1_at 0 (m.b1 - 1) d _ w6.heap.size 1 (cell_new1 _ _ _)).mono ?_
        rintro e w7 ⟨rfl, hw⟩
        subst w7
        rw [hq2]
        obtain ⟨w8, hw8⟩ : ∃ v, v = w6.alloc (.cells #[.int .i64 d] 2) := ⟨_, rfl⟩
        have hb : Below w6.heap.size w6 w8 := by rw [hw8]; exact (Below.refl _ _).alloc (Nat.le_refl _) _
        replace hbb := Lib.hid (show g + 1 < w8.heap.size by have := hb.size; have := hbb.out; omega)
        rw [← hw8]
        replace bm := bm.below hb
        replace br := br.below hb
        replace hbel := hbel.trans (hb.mono hbel.size)
        clear hw8 hb hq2
        have c0 := bm.at_ 0 rfl
        have c1 := bm.at_ 1 rfl
        have c2 := bm.at_ 2 rfl
        have c3 := bm.at_ 3 rfl
        have c4 := bm.at_ 4 rfl
        have c5 := bm.at_ 5 rfl
        have c6 := bm.at_ 6 rfl
        have hz5 := hbel.size
        go_wp2_with fail
        refine (HC.out w8 hbel).mono ?_
        rintro e w9 ⟨D1, E1, D2, E2, D3, E3, rfl, own3, hb⟩
        have hz6 := hb.size
        replace br := br.below hb
        have hg8 : g + 1 < w8.heap.size := by have := hbb.out; omega
        replace hbel := hbel.trans (hb.mono hbel.size)
        clear hb c0 c1 c2 c3 c4 c5 c6 bm HC
        go_upto_region 6 with fail
        obtain ⟨c, hc⟩ : ∃ c, c = w9.heap.size := ⟨_, rfl⟩
        obtain ⟨V, hV⟩ : ∃ V, V = w9.alloc (.cells #[.int .i64 m.b1, .slice D1 m.z1.length E1, .int .i64 m.b2, .slice D2 m.z2.length E2, .int .i64 m.b3, .slice D3 m.z3.length E3, .int .i64 m.p] 28) := ⟨_, rfl⟩
        try rw [← hc, ← hV]
        have bc : Bx V c 28 #[.int .i64 m.b1, .slice D1 m.z1.length E1, .int .i64 m.b2, .slice D2 m.z2.length E2, .int .i64 m.b3, .slice D3 m.z3.length E3, .int .i64 m.p] := by rw [hV, hc]; exact Bx.new _ _ _
        have hb : Below w9.heap.size w9 V := by rw [hV]; exact (Below.refl _ _).alloc (Nat.le_refl _) _
        have hz7 := hb.size
        have hc3 : w9.heap.size ≤ c := by omega
        replace br := br.below hb
        replace own3 := own3.below hb
        replace hbel := hbel.trans (hb.mono hbel.size)
        clear hb hV hc
        obtain ⟨l1, h1, l2, h2, l3, h3, o1, o2, o3, s⟩ := own3.ex
        obtain ⟨P, rfl, hP1, hP2⟩ := own_first o1 (by omega)
        have x1 := bc.at_ 1 rfl
        have t1 := o1.thaw j
        have t2 := o1.get hj
        go_upto_region 7 with fail
        obtain ⟨V2, hV⟩ : ∃ V2, V2 = V.setCell ⟨P, j, none⟩ (.int .i64 d) := ⟨_, rfl⟩
        try rw [← hV]
        have o1v : Own 2 V2 l1 h1 (.slice (some ⟨P, 0, none⟩) m.z1.length E1) (m.z1.set j d) := by rw [hV]; exact o1.put j d
        have o2v : Own 2 V2 l2 h2 (.slice D2 m.z2.length E2) m.z2 := by rw [hV]; exact o2.setCell (by simp; omega) _
        have o3v : Own 2 V2 l3 h3 (.slice D3 m.z3.length E3) m.z3 := by rw [hV]; exact o3.setCell (by simp; omega) _
        have bcv : Bx V2 c 28 #[.int .i64 m.b1, .slice (some ⟨P, 0, none⟩) m.z1.length E1, .int .i64 m.b2, .slice D2 m.z2.length E2, .int .i64 m.b3, .slice D3 m.z3.length E3, .int .i64 m.p] := by rw [hV]; exact bc.far (by simp; omega) _
        have brv : Bx V2 (g + 1) 28 #[.int .i64 0, .slice none 0 0, .int .i64 0, .slice none 0 0, .int .i64 0, .slice none 0 0, .int .i64 0] := by rw [hV]; exact br.far (by simp; omega) _
        have hg0 := HG.out
        have hbv : Below w.heap.size w V2 := by rw [hV]; exact hbel.setCell (by simp; omega) _
        have hzv : V2.heap.size = V.heap.size := by rw [hV]; simp
        have HO : Hid (Own3 2 V2 (g + 2) V2.heap.size (.slice (some ⟨P, 0, none⟩) m.z1.length E1) (m.z1.set j d) (.slice D2 m.z2.length E2) m.z2 (.slice D3 m.z3.length E3) m.z3) := Lib.hid ⟨_, _, _, _, _, _, o1v, o2v, o3v, by omega⟩
        have HS := Lib.hid (show w.heap.size ≤ g + 2 by omega)
        have HM := Lib.hid (show sdM m j d = ⟨m.b1, m.z1.set j d, m.b2, m.z2, m.b3, m.z3, m.p⟩ from rfl)
        have HL := Lib.hid (show (m.z1.set j d).length = m.z1.length by simp)
        clear hV own3 o1 o2 o3 o1v o2v o3v bc br hbel x1 t1 t2 s hz hz2 hz5 hz6 hz7 hzv hg0 hc3 hgu hP1 hP2 hg8 hj k0 k1 n0 b0 b1
        have c0 := bcv.at_ 0 rfl
        have c1 := bcv.at_ 1 rfl
        have c2 := bcv.at_ 2 rfl
        have c3 := bcv.at_ 3 rfl
        have c4 := bcv.at_ 4 rfl
        have c5 := bcv.at_ 5 rfl
        have c6 := bcv.at_ 6 rfl
        have j0 := brv.at_ 0 rfl
        have j1 := brv.at_ 1 rfl
        have j2 := brv.at_ 2 rfl
        have j3 := brv.at_ 3 rfl
        have j4 := brv.at_ 4 rfl
        have j5 := brv.at_ 5 rfl
        have j6 := brv.at_ 6 rfl
        have f0 := brv.thaw 0
        have f1 := brv.thaw 1
        have f2 := brv.thaw 2
        have f3 := brv.thaw 3
        have f4 := brv.thaw 4
        have f5 := brv.thaw 5
        have f6 := brv.thaw 6
        have hl := brv.lt
        have bz : Bx (((((((V2.setCell ⟨g + 1, 0, none⟩ (.int .i64 m.b1)).setCell ⟨g + 1, 1, none⟩ (.slice (some ⟨P, 0, none⟩) m.z1.length E1)).setCell ⟨g + 1, 2, none⟩ (.int .i64 m.b2)).setCell ⟨g + 1, 3, none⟩ (.slice D2 m.z2.length E2)).setCell ⟨g + 1, 4, none⟩ (.int .i64 m.b3)).setCell ⟨g + 1, 5, none⟩ (.slice D3 m.z3.length E3)).setCell ⟨g + 1, 6, none⟩ (.int .i64 m.p)) (g + 1) 28 #[.int .i64 m.b1, .slice (some ⟨P, 0, none⟩) m.z1.length E1, .int .i64 m.b2, .slice D2 m.z2.length E2, .int .i64 m.b3, .slice D3 m.z3.length E3, .int .i64 m.p] := bx_put7 brv
        have r0 := bz.at_ 0 rfl
        have r1 := bz.at_ 1 rfl
        have r2 := bz.at_ 2 rfl
        have r3 := bz.at_ 3 rfl
        have r4 := bz.at_ 4 rfl
        have r5 := bz.at_ 5 rfl
        have r6 := bz.at_ 6 rfl
        clear bz
        go_wp2
        exact bodyPost_ret (v := .tuple #[.agg #[.int .i64 m.b1, .slice (some ⟨P, 0, none⟩) m.z1.length E1, .int .i64 m.b2, .slice D2 m.z2.length E2, .int .i64 m.b3, .slice D3 m.z3.length E3, .int .i64 m.p], .int .i64 0]) (by simp [results, go_sem, r0, r1, r2, r3, r4, r5, r6]) rfl
          (macC_ok (A1 := some ⟨P, 0, none⟩) (C1 := E1) (A2 := D2) (C2 := E2) (A3 := D3) (C3 := E3) (lo := g + 2) (hi := V2.heap.size) (HR.out.trans (by rw [HM.out])) (by rw [HL.out]) (by rw [HL.out]; exact (((((((HO.out.setCell (p := ⟨g + 1, 0, none⟩) (.inl (by simp)) _).setCell (p := ⟨g + 1, 1, none⟩) (.inl (by simp)) _).setCell (p := ⟨g + 1, 2, none⟩) (.inl (by simp)) _).setCell (p := ⟨g + 1, 3, none⟩) (.inl (by simp)) _).setCell (p := ⟨g + 1, 4, none⟩) (.inl (by simp)) _).setCell (p := ⟨g + 1, 5, none⟩) (.inl (by simp)) _).setCell (p := ⟨g + 1, 6, none⟩) (.inl (by simp)) _)) HS.out (by simp) (by have := HG.out; exact (by repeat (first | with_reducible exact hbv | with_reducible refine Below.setCell ?_ (by first | omega | (simp <;> omega)) _ | with_reducible refine Below.alloc ?_ (by first | omega | (simp <;> omega)) _ | with_reducible refine Below.drew ?_))))
end Go.Proofs.YtlahobdopmdfmaaDoor

/- MsvS -/
namespace Go.Proofs.YtlahobdopmdfmaaDoor
open Go.RowKit

theorem own_firstS {t : TypeId} {w : World} {lo hi n c : Nat} {A : Option Addr} {zs : List Int} (h : Own t w lo hi (.slice A n c) zs) (hn : 0 < zs.length) : ∃ p, A = some ⟨p, 0, none⟩ ∧ lo ≤ p ∧ p < hi := by
  rcases h.row.2 with ⟨_, h0⟩ | ⟨g, cap, cur, hv, _⟩
  · omega
  · injection hv with hA
    subst hA
    have := h.lo_le (k := g) rfl
    exact ⟨g, rfl, this.1, this.2.1⟩

set_option maxRecDepth 100000 in
set_option maxHeartbeats 8000000 in
theorem specSetValue (m : Mac) (A1 : Option Addr) (C1 : Nat) (A2 : Option Addr) (C2 : Nat) (A3 : Option Addr) (C3 : Nat) (x : Int) (w : World) (h : Rd3 w A1 m.z1 A2 m.z2 A3 m.z3) (_ : All64 m.z1 ∧ All64 m.z2 ∧ All64 m.z3) (_ : I64 m.b1 ∧ I64 m.b2 ∧ I64 m.b3 ∧ I64 m.p) (_ : I64 x) :
    Calls Tryd.prog 66 #[.agg #[.int .i64 m.b1, .slice A1 m.z1.length C1, .int .i64 m.b2, .slice A2 m.z2.length C2, .int .i64 m.b3, .slice A3 m.z3.length C3, .int .i64 m.p], .int .i64 x] w (MacC (svR m x) w) := by
  have R := Tryd.results66
  have hlen := h.len
  obtain ⟨g, hg⟩ : ∃ g, g = w.heap.size := ⟨_, rfl⟩
  obtain ⟨u, hu⟩ : ∃ u, u = (w.alloc (.cells #[.int .i64 m.b1, .slice A1 m.z1.length C1, .int .i64 m.b2, .slice A2 m.z2.length C2, .int .i64 m.b3, .slice A3 m.z3.length C3, .int .i64 m.p] 28)).alloc (.cells #[.int .i64 0, .slice none 0 0, .int .i64 0, .slice none 0 0, .int .i64 0, .slice none 0 0, .int .i64 0] 28) := ⟨_, rfl⟩
  have hbel : Below w.heap.size w u := by rw [hu]; exact (by repeat (first | exact Below.refl _ _ | refine Below.setCell ?_ (by first | omega | (simp <;> omega)) _ | refine Below.alloc ?_ (by first | omega | (simp <;> omega)) _ | refine Below.drew ?_))
  have bm : Bx u g 28 #[.int .i64 m.b1, .slice A1 m.z1.length C1, .int .i64 m.b2, .slice A2 m.z2.length C2, .int .i64 m.b3, .slice A3 m.z3.length C3, .int .i64 m.p] := by rw [hu, hg]; exact (Bx.new _ _ _).alloc _
  have br : Bx u (g + 1) 28 #[.int .i64 0, .slice none 0 0, .int .i64 0, .slice none 0 0, .int .i64 0, .slice none 0 0, .int .i64 0] := by rw [hu, hg]; simpa using Bx.new (w.alloc (.cells #[.int .i64 m.b1, .slice A1 m.z1.length C1, .int .i64 m.b2, .slice A2 m.z2.length C2, .int .i64 m.b3, .slice A3 m.z3.length C3, .int .i64 m.p] 28)) #[.int .i64 0, .slice none 0 0, .int .i64 0, .slice none 0 0, .int .i64 0, .slice none 0 0, .int .i64 0] 28
  have hgu : g + 1 < u.heap.size := br.lt
  have HV := Lib.hid (l10Ok_any g m A1 C1 A2 C2 A3 C3 u (h.below hbel) bm)
  have HG := Lib.hid hg
  have HU := Lib.hid hu
  clear hu
  cases hm : macB m with
  | false =>
    have HR := Lib.hid (show svR m x = (mac0, 1) by simp [svR, hm])
    rw [hm] at HV
    clear hm h
    go_enter Tryd.func66, Tryd.ntmps66
    go_wp2_with fail
    rw [← HU.out, ← hg]
    clear hg
    refine HV.out.mono ?_
    rintro e w1 ⟨rfl, hb⟩
    replace br := br.below hb
    replace hbel := hbel.trans (hb.mono hbel.size)
    clear hb bm
    have r0 := br.at_ 0 rfl
    have r1 := br.at_ 1 rfl
    have r2 := br.at_ 2 rfl
    have r3 := br.at_ 3 rfl
    have r4 := br.at_ 4 rfl
    have r5 := br.at_ 5 rfl
    have r6 := br.at_ 6 rfl
    have f0 := br.thaw 0
    have f1 := br.thaw 1
    have f2 := br.thaw 2
    have f3 := br.thaw 3
    have f4 := br.thaw 4
    have f5 := br.thaw 5
    have f6 := br.thaw 6
    have hl := br.lt
    go_wp2
    exact bodyPost_ret (v := .tuple #[.agg #[.int .i64 0, .slice none 0 0, .int .i64 0, .slice none 0 0, .int .i64 0, .slice none 0 0, .int .i64 0], .int .i64 1]) (by simp [results, go_sem, r0, r1, r2, r3, r4, r5, r6]) rfl (macC_err HR.out rfl (by have := HG.out; exact (by repeat (first | with_reducible exact hbel | with_reducible refine Below.setCell ?_ (by first | omega | (simp <;> omega)) _ | with_reducible refine Below.alloc ?_ (by first | omega | (simp <;> omega)) _ | with_reducible refine Below.drew ?_))))
  | true =>
    have hF := macB_spec hm
    obtain ⟨e2, e3, b0, b1, n0, n12, n2, n3, n4, p0, p1, p2, d1, d2, d3⟩ := macB_facts hm
    have hpw : m.b1 ^ m.z1.length - 1 ≤ 1000000000000 := by
      have := pow_mono' b0 n12
      have := hF.2.2.2.2.2.1
      omega
    have hpp := pow_pos' (show 1 ≤ m.b1 by omega) m.z1.length
    have HC := Lib.hid (fun (v : World) (hb : Below w.heap.size w v) (bp : Bx v g 28 #[.int .i64 m.b1, .slice A1 m.z1.length C1, .int .i64 m.b2, .slice A2 m.z2.length C2, .int .i64 m.b3, .slice A3 m.z3.length C3, .int .i64 m.p]) => l10Own_any g m A1 C1 A2 C2 A3 C3 v (h.below hb) (by omega) (by omega) (by omega) bp)
    have HP := Lib.hid (fun v => l10Power_any m.b1 m.z1.length v (by omega) b1 (by omega))
    rw [capW_full hpw] at HP
    have HR : Hid (svR m x = if inB x 0 (m.b1 ^ m.z1.length - 1) = true then (⟨m.b1, digsR m.b1 m.z1.length x, m.b2, m.z2, m.b3, m.z3, m.p⟩, 0) else (mac0, 2)) := Lib.hid (by
      rw [svR, if_pos hm, inB_dec]
      simp only [decide_eq_true_eq])
    have HN : Hid (inB x 0 (m.b1 ^ m.z1.length - 1) = true → ∀ v, Calls Tryd.prog 129 #[.int .i64 m.b1, .int .i64 m.z1.length, .int .i64 x] v fun e w' => ∃ A C,
        e = .returned (.tuple #[.agg #[.int .i64 m.b1, .slice A m.z1.length C], .int .i64 (leftR m.b1 m.z1.length x)]) ∧ Own 2 w' v.heap.size w'.heap.size (.slice A m.z1.length C) (digsR m.b1 m.z1.length x) ∧ Below v.heap.size v w') :=
      Lib.hid fun hi v => by
        have := inB_true hi
        exact specl02New_any m.b1 x m.z1.length v b0 b1 (by omega) this.1 (by omega)
    have HL := Lib.hid (digsR_len m.b1 m.z1.length x)
    obtain ⟨Z, hZ⟩ : ∃ Z, Z = digsR m.b1 m.z1.length x := ⟨_, rfl⟩
    rw [← hZ] at HR HN HL
    rw [hm] at HV
    clear hm hF e2 e3 n0 n12 n2 n3 n4 p0 p1 p2 d1 d2 d3 h hZ b0 b1
    obtain ⟨q, hq⟩ : ∃ q, q = m.b1 ^ m.z1.length := ⟨_, rfl⟩
    rw [← hq] at HP HR HN hpw hpp
    have w1 : IntKind.i64.wrap (q - 1) = q - 1 := IntWalk.i64_in _ (by omega)
    clear hq
    have HI := Lib.hid (fun v => l00In_any x 0 (q - 1) v)
    cases hx : inB x 0 (q - 1)
    all_goals
      rw [hx] at HI HR HN
      go_enter Tryd.func66, Tryd.ntmps66
      go_wp2_with fail
      rw [← HU.out, ← hg]
      clear hg
      refine HV.out.mono ?_
      rintro e w1 ⟨rfl, hb⟩
      have hz1 := hb.size
      replace bm := bm.below hb
      replace br := br.below hb
      replace hbel := hbel.trans (hb.mono hbel.size)
      clear hb
      have c0 := bm.at_ 0 rfl
      have c1 := bm.at_ 1 rfl
      go_wp2_with fail
      refine (HP.out w1).mono ?_
      rintro e w2 ⟨rfl, hw⟩
      subst w2
      go_wp2_with fail
      refine (HI.out w1).mono ?_
      rintro e w2 ⟨rfl, hw⟩
      subst w2
    · replace HR := Lib.hid (HR.out.trans (if_neg (by simp)))
      clear HN HI HP HV HC c0 c1 hx bm
      have r0 := br.at_ 0 rfl
      have r1 := br.at_ 1 rfl
      have r2 := br.at_ 2 rfl
      have r3 := br.at_ 3 rfl
      have r4 := br.at_ 4 rfl
      have r5 := br.at_ 5 rfl
      have r6 := br.at_ 6 rfl
      have f0 := br.thaw 0
      have f1 := br.thaw 1
      have f2 := br.thaw 2
      have f3 := br.thaw 3
      have f4 := br.thaw 4
      have f5 := br.thaw 5
      have f6 := br.thaw 6
      have hl := br.lt
      go_wp2
      exact bodyPost_ret (v := .tuple #[.agg #[.int .i64 0, .slice none 0 0, .int .i64 0, .slice none 0 0, .int .i64 0, .slice none 0 0, .int .i64 0], .int .i64 2]) (by simp [results, go_sem, r0, r1, r2, r3, r4, r5, r6]) rfl (macC_err HR.out rfl (by have := HG.out; exact (by repeat (first | with_reducible exact hbel | with_reducible refine Below.setCell ?_ (by first | omega | (simp <;> omega)) _ | with_reducible refine Below.alloc ?_ (by first | omega | (simp <;> omega)) _ | with_reducible refine Below.drew ?_))))
    · replace HR := Lib.hid (HR.out.trans (if_pos (by simp)))
      replace HN := Lib.hid (HN.out (by simp))
      clear HI HP HV hx
      go_wp2_with fail
      refine (HC.out w1 hbel bm).mono ?_
      rintro e w3 ⟨D1, E1, D2, E2, D3, E3, rfl, own3, hb⟩
      have hz3 := hb.size
      replace br := br.below hb
      replace bm := bm.below hb
      replace hbel := hbel.trans (hb.mono hbel.size)
      clear hb HC c0 c1
      have c0 := bm.at_ 0 rfl
      have c1 := bm.at_ 1 rfl
      go_upto_region 7 with fail
      obtain ⟨c, hc⟩ : ∃ c, c = w3.heap.size := ⟨_, rfl⟩
      obtain ⟨V, hV⟩ : ∃ V, V = w3.alloc (.cells #[.int .i64 m.b1, .slice D1 m.z1.length E1, .int .i64 m.b2, .slice D2 m.z2.length E2, .int .i64 m.b3, .slice D3 m.z3.length E3, .int .i64 m.p] 28) := ⟨_, rfl⟩
      try rw [← hc, ← hV]
      have bc : Bx V c 28 #[.int .i64 m.b1, .slice D1 m.z1.length E1, .int .i64 m.b2, .slice D2 m.z2.length E2, .int .i64 m.b3, .slice D3 m.z3.length E3, .int .i64 m.p] := by rw [hV, hc]; exact Bx.new _ _ _
      have hb : Below w3.heap.size w3 V := by rw [hV]; exact (Below.refl _ _).alloc (Nat.le_refl _) _
      have hz4 := hb.size
      have hcl := bc.lt
      have hc3 : w3.heap.size ≤ c := by omega
      replace br := br.below hb
      replace own3 := own3.below hb
      replace c0 := kept hb c0
      replace c1 := kept hb c1
      replace hbel := hbel.trans (hb.mono hbel.size)
      clear hb hV hc bm
      go_wp2_with fail
      refine (HN.out V).mono ?_
      rintro e w4 ⟨A, C, rfl, own, hb⟩
      have hz5 := hb.size
      replace br := br.below hb
      replace bc := bc.below hb
      replace own3 := own3.below hb
      replace hbel := hbel.trans (hb.mono hbel.size)
      clear hb c0 c1
      go_upto_region 8 with fail
      obtain ⟨d, hd⟩ : ∃ d, d = w4.heap.size := ⟨_, rfl⟩
      obtain ⟨V4, hV⟩ : ∃ V4, V4 = w4.alloc (.cells #[.int .i64 m.b1, .slice A m.z1.length C] 26) := ⟨_, rfl⟩
      try rw [← hd, ← hV]
      have bd : Bx V4 d 26 #[.int .i64 m.b1, .slice A m.z1.length C] := by rw [hV, hd]; exact Bx.new _ _ _
      have hb : Below w4.heap.size w4 V4 := by rw [hV]; exact (Below.refl _ _).alloc (Nat.le_refl _) _
      have hz6 := hb.size
      replace br := br.below hb
      replace bc := bc.below hb
      replace own3 := own3.below hb
      replace own := own.below hb
      replace hbel := hbel.trans (hb.mono hbel.size)
      clear hb hV hd
      obtain ⟨l1, h1, l2, h2, l3, h3, o1, o2, o3, s⟩ := own3.ex
      have x0 := bc.at_ 0 rfl
      have x1 := bc.at_ 1 rfl
      have y0 := bc.thaw 0
      have y1 := bc.thaw 1
      have c0 := bd.at_ 0 rfl
      have c1 := bd.at_ 1 rfl
      go_upto_region 9 with fail
      obtain ⟨V2, hV⟩ : ∃ V2, V2 = (V4.setCell ⟨c, 0, none⟩ (.int .i64 m.b1)).setCell ⟨c, 1, none⟩ (.slice A m.z1.length C) := ⟨_, rfl⟩
      try rw [← hV]
      have hg0 := HG.out
      have a2 : h2 ≤ c := by omega
      have a3 : h3 ≤ c := by omega
      have o1v : Own 2 V2 V.heap.size w4.heap.size (.slice A m.z1.length C) Z := by rw [hV]; exact (own.setCell (.inl (by simp; omega)) _).setCell (.inl (by simp; omega)) _
      have o2v : Own 2 V2 l2 h2 (.slice D2 m.z2.length E2) m.z2 := by rw [hV]; exact (o2.setCell (.inr (by simp; omega)) _).setCell (.inr (by simp; omega)) _
      have o3v : Own 2 V2 l3 h3 (.slice D3 m.z3.length E3) m.z3 := by rw [hV]; exact (o3.setCell (.inr (by simp; omega)) _).setCell (.inr (by simp; omega)) _
      have bcv : Bx V2 c 28 #[.int .i64 m.b1, .slice A m.z1.length C, .int .i64 m.b2, .slice D2 m.z2.length E2, .int .i64 m.b3, .slice D3 m.z3.length E3, .int .i64 m.p] := by rw [hV]; exact (bc.set_ 0 _).set_ 1 _
      have brv : Bx V2 (g + 1) 28 #[.int .i64 0, .slice none 0 0, .int .i64 0, .slice none 0 0, .int .i64 0, .slice none 0 0, .int .i64 0] := by rw [hV]; exact (br.far (by simp; omega) _).far (by simp; omega) _
      have hbv : Below w.heap.size w V2 := by rw [hV]; exact (by repeat (first | with_reducible exact hbel | with_reducible refine Below.setCell ?_ (by first | omega | (simp <;> omega)) _ | with_reducible refine Below.alloc ?_ (by first | omega | (simp <;> omega)) _ | with_reducible refine Below.drew ?_))
      have hzv : V2.heap.size = V4.heap.size := by rw [hV]; simp
      have HO : Hid (Own3 2 V2 (g + 2) V2.heap.size (.slice A m.z1.length C) Z (.slice D2 m.z2.length E2) m.z2 (.slice D3 m.z3.length E3) m.z3) := Lib.hid ⟨_, _, _, _, _, _, o1v, o2v, o3v, by omega⟩
      have HS := Lib.hid (show w.heap.size ≤ g + 2 by omega)
      clear hV own own3 o1 o2 o3 o1v o2v o3v bc br bd hbel x0 x1 y0 y1 c0 c1 s a2 a3 hz1 hz3 hz4 hz5 hz6 hzv hg0 hcl hc3 hgu
      have c0 := bcv.at_ 0 rfl
      have c1 := bcv.at_ 1 rfl
      have c2 := bcv.at_ 2 rfl
      have c3 := bcv.at_ 3 rfl
      have c4 := bcv.at_ 4 rfl
      have c5 := bcv.at_ 5 rfl
      have c6 := bcv.at_ 6 rfl
      have j0 := brv.at_ 0 rfl
      have j1 := brv.at_ 1 rfl
      have j2 := brv.at_ 2 rfl
      have j3 := brv.at_ 3 rfl
      have j4 := brv.at_ 4 rfl
      have j5 := brv.at_ 5 rfl
      have j6 := brv.at_ 6 rfl
      have f0 := brv.thaw 0
      have f1 := brv.thaw 1
      have f2 := brv.thaw 2
      have f3 := brv.thaw 3
      have f4 := brv.thaw 4
      have f5 := brv.thaw 5
      have f6 := brv.thaw 6
      have hl := brv.lt
      have bz : Bx (((((((V2.setCell ⟨g + 1, 0, none⟩ (.int .i64 m.b1)).setCell ⟨g + 1, 1, none⟩ (.slice A m.z1.length C)).setCell ⟨g + 1, 2, none⟩ (.int .i64 m.b2)).setCell ⟨g + 1, 3, none⟩ (.slice D2 m.z2.length E2)).setCell ⟨g + 1, 4, none⟩ (.int .i64 m.b3)).setCell ⟨g + 1, 5, none⟩ (.slice D3 m.z3.length E3)).setCell ⟨g + 1, 6, none⟩ (.int .i64 m.p)) (g + 1) 28 #[.int .i64 m.b1, .slice A m.z1.length C, .int .i64 m.b2, .slice D2 m.z2.length E2, .int .i64 m.b3, .slice D3 m.z3.length E3, .int .i64 m.p] := bx_put7 brv
      have r0 := bz.at_ 0 rfl
      have r1 := bz.at_ 1 rfl
      have r2 := bz.at_ 2 rfl
      have r3 := bz.at_ 3 rfl
      have r4 := bz.at_ 4 rfl
      have r5 := bz.at_ 5 rfl
      have r6 := bz.at_ 6 rfl
      clear bz
      go_wp2
      exact bodyPost_ret (v := .tuple #[.agg #[.int .i64 m.b1, .slice A m.z1.length C, .int .i64 m.b2, .slice D2 m.z2.length E2, .int .i64 m.b3, .slice D3 m.z3.length E3, .int .i64 m.p], .int .i64 0]) (by simp [results, go_sem, r0, r1, r2, r3, r4, r5, r6]) rfl
        (macC_ok (A1 := A) (C1 := C) (A2 := D2) (C2 := E2) (A3 := D3) (C3 := E3) (lo := g + 2) (hi := V2.heap.size) HR.out (by rw [HL.out]) (by rw [HL.out]; exact (((((((HO.out.setCell (p := ⟨g + 1, 0, none⟩) (.inl (by simp)) _).setCell (p := ⟨g + 1, 1, none⟩) (.inl (by simp)) _).setCell (p := ⟨g + 1, 2, none⟩) (.inl (by simp)) _).setCell (p := ⟨g + 1, 3, none⟩) (.inl (by simp)) _).setCell (p := ⟨g + 1, 4, none⟩) (.inl (by simp)) _).setCell (p := ⟨g + 1, 5, none⟩) (.inl (by simp)) _).setCell (p := ⟨g + 1, 6, none⟩) (.inl (by simp)) _)) HS.out (by simp) (by have := HG.out; exact (by repeat (first | with_reducible exact hbv | with_reducible refine Below.setCell ?_ (by first | omega | (simp <;> omega)) _ | with_reducible refine Below.alloc ?_ (by first | omega | (simp <;> omega)) _ | with_reducible refine Below.drew ?_))))

set_option maxRecDepth 100000 in
set_option maxHeartbeats 8000000 in
theorem specSetDigit (m : Mac) (A1 : Option Addr) (C1 : Nat) (A2 : Option Addr) (C2 : Nat) (A3 : Option Addr) (C3 : Nat) (k d : Int) (w : World) (h : Rd3 w A1 m.z1 A2 m.z2 A3 m.z3) (_ : All64 m.z1 ∧ All64 m.z2 ∧ All64 m.z3) (_ : I64 m.b1 ∧ I64 m.b2 ∧ I64 m.b3 ∧ I64 m.p) (_ : I64 k) (_ : I64 d) :
    Calls Tryd.prog 68 #[.agg #[.int .i64 m.b1, .slice A1 m.z1.length C1, .int .i64 m.b2, .slice A2 m.z2.length C2, .int .i64 m.b3, .slice A3 m.z3.length C3, .int .i64 m.p], .int .i64 k, .int .i64 d] w (MacC (sdR m k d) w) := by
  have R := Tryd.results68
  have hlen := h.len
  obtain ⟨g, hg⟩ : ∃ g, g = w.heap.size := ⟨_, rfl⟩
  obtain ⟨u, hu⟩ : ∃ u, u = (w.alloc (.cells #[.int .i64 m.b1, .slice A1 m.z1.length C1, .int .i64 m.b2, .slice A2 m.z2.length C2, .int .i64 m.b3, .slice A3 m.z3.length C3, .int .i64 m.p] 28)).alloc (.cells #[.int .i64 0, .slice none 0 0, .int .i64 0, .slice none 0 0, .int .i64 0, .slice none 0 0, .int .i64 0] 28) := ⟨_, rfl⟩
  have hbel : Below w.heap.size w u := by rw [hu]; exact (by repeat (first | exact Below.refl _ _ | refine Below.setCell ?_ (by first | omega | (simp <;> omega)) _ | refine Below.alloc ?_ (by first | omega | (simp <;> omega)) _ | refine Below.drew ?_))
  have bm : Bx u g 28 #[.int .i64 m.b1, .slice A1 m.z1.length C1, .int .i64 m.b2, .slice A2 m.z2.length C2, .int .i64 m.b3, .slice A3 m.z3.length C3, .int .i64 m.p] := by rw [hu, hg]; exact (Bx.new _ _ _).alloc _
  have br : Bx u (g + 1) 28 #[.int .i64 0, .slice none 0 0, .int .i64 0, .slice none 0 0, .int .i64 0, .slice none 0 0, .int .i64 0] := by rw [hu, hg]; simpa using Bx.new (w.alloc (.cells #[.int .i64 m.b1, .slice A1 m.z1.length C1, .int .i64 m.b2, .slice A2 m.z2.length C2, .int .i64 m.b3, .slice A3 m.z3.length C3, .int .i64 m.p] 28)) #[.int .i64 0, .slice none 0 0, .int .i64 0, .slice none 0 0, .int .i64 0, .slice none 0 0, .int .i64 0] 28
  have hgu : g + 1 < u.heap.size := br.lt
  have HV := Lib.hid (l10Ok_any g m A1 C1 A2 C2 A3 C3 u (h.below hbel) bm)
  have HG := Lib.hid hg
  have HU := Lib.hid hu
  clear hu
  cases hm : macB m with
  | false =>
    have HR := Lib.hid (show sdR m k d = (mac0, 1) by simp [sdR, hm])
    rw [hm] at HV
    clear hm h
    go_enter Tryd.func68, Tryd.ntmps68
    go_wp2_with fail
    rw [← HU.out, ← hg]
    clear hg
    refine HV.out.mono ?_
    rintro e w1 ⟨rfl, hb⟩
    replace br := br.below hb
    replace hbel := hbel.trans (hb.mono hbel.size)
    clear hb bm
    have r0 := br.at_ 0 rfl
    have r1 := br.at_ 1 rfl
    have r2 := br.at_ 2 rfl
    have r3 := br.at_ 3 rfl
    have r4 := br.at_ 4 rfl
    have r5 := br.at_ 5 rfl
    have r6 := br.at_ 6 rfl
    have f0 := br.thaw 0
    have f1 := br.thaw 1
    have f2 := br.thaw 2
    have f3 := br.thaw 3
    have f4 := br.thaw 4
    have f5 := br.thaw 5
    have f6 := br.thaw 6
    have hl := br.lt
    go_wp2
    exact bodyPost_ret (v := .tuple #[.agg #[.int .i64 0, .slice none 0 0, .int .i64 0, .slice none 0 0, .int .i64 0, .slice none 0 0, .int .i64 0], .int .i64 1]) (by simp [results, go_sem, r0, r1, r2, r3, r4, r5, r6]) rfl (macC_err HR.out rfl (by have := HG.out; exact (by repeat (first | with_reducible exact hbel | with_reducible refine Below.setCell ?_ (by first | omega | (simp <;> omega)) _ | with_reducible refine Below.alloc ?_ (by first | omega | (simp <;> omega)) _ | with_reducible refine Below.drew ?_))))
  | true =>
    obtain ⟨e2, e3, b0, b1, n0, n12, n2, n3, n4, p0, p1, p2, d1, d2, d3⟩ := macB_facts hm
    have HC := Lib.hid (fun (v : World) (hb : Below w.heap.size w v) (bp : Bx v g 28 #[.int .i64 m.b1, .slice A1 m.z1.length C1, .int .i64 m.b2, .slice A2 m.z2.length C2, .int .i64 m.b3, .slice A3 m.z3.length C3, .int .i64 m.p]) => l10Own_any g m A1 C1 A2 C2 A3 C3 v (h.below hb) (by omega) (by omega) (by omega) bp)
    have w1 : IntKind.i64.wrap ((m.z1.length : Int) - 1) = (m.z1.length : Int) - 1 := IntWalk.i64_in _ (by omega)
    have w2 : IntKind.i64.wrap (m.b1 - 1) = m.b1 - 1 := IntWalk.i64_in _ (by omega)
    obtain ⟨q1, hq1⟩ : ∃ q, inB k 0 ((m.z1.length : Int) - 1) = q := ⟨_, rfl⟩
    obtain ⟨q2, hq2⟩ : ∃ q, inB d 0 (m.b1 - 1) = q := ⟨_, rfl⟩
    have HR : Hid (sdR m k d = if (q1 && q2) = true then (⟨m.b1, m.z1.set k.toNat d, m.b2, m.z2, m.b3, m.z3, m.p⟩, 0) else (mac0, 2)) := Lib.hid (by
      rw [sdR, if_pos hm, ← hq1, ← hq2, inB_dec, inB_dec]
      simp only [Bool.and_eq_true, decide_eq_true_eq])
    have H1 := Lib.hid (fun v => l00In_any k 0 ((m.z1.length : Int) - 1) v)
    have H2 := Lib.hid (fun v => l00In_any d 0 (m.b1 - 1) v)
    rw [hm] at HV
    rw [hq1] at H1
    rw [hq2] at H2
    clear hm e2 e3 n12 n2 n3 n4 p0 p1 p2 d1 d2 d3 h
    cases hq : (q1 && q2) with
    | false =>
      rw [hq] at HR
      replace HR := Lib.hid (HR.out.trans (if_neg (by simp)))
      clear hq1 hq2 HC n0 b0 b1
      cases q1
      rotate_left
      cases q2
      rotate_left
      · cases hq
      all_goals
        clear hq
        go_enter Tryd.func68, Tryd.ntmps68
        go_wp2_with fail
        rw [← HU.out, ← hg]
        clear hg
        refine HV.out.mono ?_
        rintro e w3 ⟨rfl, hb⟩
        replace bm := bm.below hb
        replace br := br.below hb
        replace hbel := hbel.trans (hb.mono hbel.size)
        clear hb
        have c0 := bm.at_ 0 rfl
        have c1 := bm.at_ 1 rfl
        have r0 := br.at_ 0 rfl
        have r1 := br.at_ 1 rfl
        have r2 := br.at_ 2 rfl
        have r3 := br.at_ 3 rfl
        have r4 := br.at_ 4 rfl
        have r5 := br.at_ 5 rfl
        have r6 := br.at_ 6 rfl
        have f0 := br.thaw 0
        have f1 := br.thaw 1
        have f2 := br.thaw 2
        have f3 := br.thaw 3
        have f4 := br.thaw 4
        have f5 := br.thaw 5
        have f6 := br.thaw 6
        have hl := br.lt
        go_wp2_with (go_at_call 118; first | (with_reducible refine (H1.out _).mono ?_; rintro e w4 ⟨rfl, hw⟩; subst w4) | (with_reducible refine (H2.out _).mono ?_; rintro e w4 ⟨rfl, hw⟩; subst w4))
        exact bodyPost_ret (v := .tuple #[.agg #[.int .i64 0, .slice none 0 0, .int .i64 0, .slice none 0 0, .int .i64 0, .slice none 0 0, .int .i64 0], .int .i64 2]) (by simp [results, go_sem, r0, r1, r2, r3, r4, r5, r6]) rfl (macC_err HR.out rfl (by have := HG.out; exact (by repeat (first | with_reducible exact hbel | with_reducible refine Below.setCell ?_ (by first | omega | (simp <;> omega)) _ | with_reducible refine Below.alloc ?_ (by first | omega | (simp <;> omega)) _ | with_reducible refine Below.drew ?_))))
    | true =>
      rw [hq] at HR
      replace HR := Lib.hid (HR.out.trans (if_pos (by simp)))
      obtain ⟨rfl, rfl⟩ : q1 = true ∧ q2 = true := by revert hq; cases q1 <;> cases q2 <;> simp
      obtain ⟨k0, k1⟩ := inB_true hq1
      obtain ⟨j, rfl⟩ := Int.eq_ofNat_of_zero_le k0
      have hj : j < m.z1.length := by omega
      clear hq hq1 hq2 k0 k1
      rw [Int.toNat_natCast] at HR
      go_enter Tryd.func68, Tryd.ntmps68
      go_wp2_with fail
      rw [← HU.out, ← hg]
      clear hg
      refine HV.out.mono ?_
      rintro e w3 ⟨rfl, hb⟩
      have hz1 := hb.size
      replace bm := bm.below hb
      replace br := br.below hb
      replace hbel := hbel.trans (hb.mono hbel.size)
      clear hb
      have c0 := bm.at_ 0 rfl
      have c1 := bm.at_ 1 rfl
      go_wp2_with (go_at_call 118; first | (with_reducible refine (H1.out _).mono ?_; rintro e w4 ⟨rfl, hw⟩; subst w4) | (with_reducible refine (H2.out _).mono ?_; rintro e w4 ⟨rfl, hw⟩; subst w4))
      refine (HC.out w3 hbel bm).mono ?_
      rintro e w9 ⟨D1, E1, D2, E2, D3, E3, rfl, own3, hb⟩
      have hz6 := hb.size
      replace br := br.below hb
      replace hbel := hbel.trans (hb.mono hbel.size)
      clear hb c0 c1 bm HC
      go_upto_region 6 with fail
      obtain ⟨c, hc⟩ : ∃ c, c = w9.heap.size := ⟨_, rfl⟩
      obtain ⟨V, hV⟩ : ∃ V, V = w9.alloc (.cells #[.int .i64 m.b1, .slice D1 m.z1.length E1, .int .i64 m.b2, .slice D2 m.z2.length E2, .int .i64 m.b3, .slice D3 m.z3.length E3, .int .i64 m.p] 28) := ⟨_, rfl⟩
      try rw [← hc, ← hV]
      have bc : Bx V c 28 #[.int .i64 m.b1, .slice D1 m.z1.length E1, .int .i64 m.b2, .slice D2 m.z2.length E2, .int .i64 m.b3, .slice D3 m.z3.length E3, .int .i64 m.p] := by rw [hV, hc]; exact Bx.new _ _ _
      have hb : Below w9.heap.size w9 V := by rw [hV]; exact (Below.refl _ _).alloc (Nat.le_refl _) _
      have hz7 := hb.size
      have hc3 : w9.heap.size ≤ c := by omega
      replace br := br.below hb
      replace own3 := own3.below hb
      replace hbel := hbel.trans (hb.mono hbel.size)
      clear hb hV hc
      obtain ⟨l1, h1, l2, h2, l3, h3, o1, o2, o3, s⟩ := own3.ex
      obtain ⟨P, rfl, hP1, hP2⟩ := own_firstS o1 (by omega)
      have x1 := bc.at_ 1 rfl
      have t1 := o1.thaw j
      have t2 := o1.get hj
      go_upto_region 7 with fail
      obtain ⟨V2, hV⟩ : ∃ V2, V2 = V.setCell ⟨P, j, none⟩ (.int .i64 d) := ⟨_, rfl⟩
      try rw [← hV]
      have o1v : Own 2 V2 l1 h1 (.slice (some ⟨P, 0, none⟩) m.z1.length E1) (m.z1.set j d) := by rw [hV]; exact o1.put j d
      have o2v : Own 2 V2 l2 h2 (.slice D2 m.z2.length E2) m.z2 := by rw [hV]; exact o2.setCell (by simp; omega) _
      have o3v : Own 2 V2 l3 h3 (.slice D3 m.z3.length E3) m.z3 := by rw [hV]; exact o3.setCell (by simp; omega) _
      have bcv : Bx V2 c 28 #[.int .i64 m.b1, .slice (some ⟨P, 0, none⟩) m.z1.length E1, .int .i64 m.b2, .slice D2 m.z2.length E2, .int .i64 m.b3, .slice D3 m.z3.length E3, .int .i64 m.p] := by rw [hV]; exact bc.far (by simp; omega) _
      have brv : Bx V2 (g + 1) 28 #[.int .i64 0, .slice none 0 0, .int .i64 0, .slice none 0 0, .int .i64 0, .slice none 0 0, .int .i64 0] := by rw [hV]; exact br.far (by simp; omega) _
      have hg0 := HG.out
      have hbv : Below w.heap.size w V2 := by rw [hV]; exact hbel.setCell (by simp; omega) _
      have hzv : V2.heap.size = V.heap.size := by rw [hV]; simp
      have HO : Hid (Own3 2 V2 (g + 2) V2.heap.size (.slice (some ⟨P, 0, none⟩) m.z1.length E1) (m.z1.set j d) (.slice D2 m.z2.length E2) m.z2 (.slice D3 m.z3.length E3) m.z3) := Lib.hid ⟨_, _, _, _, _, _, o1v, o2v, o3v, by omega⟩
      have HS := Lib.hid (show w.heap.size ≤ g + 2 by omega)
      have HL := Lib.hid (show (m.z1.set j d).length = m.z1.length by simp)
      clear hV own3 o1 o2 o3 o1v o2v o3v bc br hbel x1 t1 t2 s hz1 hz6 hz7 hzv hg0 hc3 hgu hP1 hP2 hj n0 b0 b1 H1 H2 HV w1 w2
      have c0 := bcv.at_ 0 rfl
      have c1 := bcv.at_ 1 rfl
      have c2 := bcv.at_ 2 rfl
      have c3 := bcv.at_ 3 rfl
      have c4 := bcv.at_ 4 rfl
      have c5 := bcv.at_ 5 rfl
      have c6 := bcv.at_ 6 rfl
      have j0 := brv.at_ 0 rfl
      have j1 := brv.at_ 1 rfl
      have j2 := brv.at_ 2 rfl
      have j3 := brv.at_ 3 rfl
      have j4 := brv.at_ 4 rfl
      have j5 := brv.at_ 5 rfl
      have j6 := brv.at_ 6 rfl
      have f0 := brv.thaw 0
      have f1 := brv.thaw 1
      have f2 := brv.thaw 2
      have f3 := brv.thaw 3
      have f4 := brv.thaw 4
      have f5 := brv.thaw 5
      have f6 := brv.thaw 6
      have hl := brv.lt
      have bz : Bx (((((((V2.setCell ⟨g + 1, 0, none⟩ (.int .i64 m.b1)).setCell ⟨g + 1, 1, none⟩ (.slice (some ⟨P, 0, none⟩) m.z1.length E1)).setCell ⟨g + 1, 2, none⟩ (.int .i64 m.b2)).setCell ⟨g + 1, 3, none⟩ (.slice D2 m.z2.length E2)).setCell ⟨g + 1, 4, none⟩ (.int .i64 m.b3)).setCell ⟨g + 1, 5, none⟩ (.slice D3 m.z3.length E3)).setCell ⟨g + 1, 6, none⟩ (.int .i64 m.p)) (g + 1) 28 #[.int .i64 m.b1, .slice (some ⟨P, 0, none⟩) m.z1.length E1, .int .i64 m.b2, .slice D2 m.z2.length E2, .int .i64 m.b3, .slice D3 m.z3.length E3, .int .i64 m.p] := bx_put7 brv
      have r0 := bz.at_ 0 rfl
      have r1 := bz.at_ 1 rfl
      have r2 := bz.at_ 2 rfl
      have r3 := bz.at_ 3 rfl
      have r4 := bz.at_ 4 rfl
      have r5 := bz.at_ 5 rfl
      have r6 := bz.at_ 6 rfl
      clear bz
      go_wp2
      exact bodyPost_ret (v := .tuple #[.agg #[.int .i64 m.b1, .slice (some ⟨P, 0, none⟩) m.z1.length E1, .int .i64 m.b2, .slice D2 m.z2.length E2, .int .i64 m.b3, .slice D3 m.z3.length E3, .int .i64 m.p], .int .i64 0]) (by simp [results, go_sem, r0, r1, r2, r3, r4, r5, r6]) rfl
        (macC_ok (A1 := some ⟨P, 0, none⟩) (C1 := E1) (A2 := D2) (C2 := E2) (A3 := D3) (C3 := E3) (lo := g + 2) (hi := V2.heap.size) HR.out (by rw [HL.out]) (by rw [HL.out]; exact (((((((HO.out.setCell (p := ⟨g + 1, 0, none⟩) (.inl (by simp)) _).setCell (p := ⟨g + 1, 1, none⟩) (.inl (by simp)) _).setCell (p := ⟨g + 1, 2, none⟩) (.inl (by simp)) _).setCell (p := ⟨g + 1, 3, none⟩) (.inl (by simp)) _).setCell (p := ⟨g + 1, 4, none⟩) (.inl (by simp)) _).setCell (p := ⟨g + 1, 5, none⟩) (.inl (by simp)) _).setCell (p := ⟨g + 1, 6, none⟩) (.inl (by simp)) _)) HS.out (by simp) (by have := HG.out; exact (by repeat (first | with_reducible exact hbv | with_reducible refine Below.setCell ?_ (by first | omega | (simp <;> omega)) _ | with_reducible refine Below.alloc ?_ (by first | omega | (simp <;> omega)) _ | with_reducible refine Below.drew ?_))))
end Go.Proofs.YtlahobdopmdfmaaDoor
