/-
  spec.MoveChain.
-/
import Derived.Test.YtaefgkhbgljkoaaChainT
import Derived.Test.YtaefgkhbgljkoaaMoveChI
namespace Go.Proofs.Ytaefgkhbgljkoaa
open Go.RowKit

section
variable {t t' : TypeId} {w : World} {lo hi g n c B : Nat} {A : Option Addr} {zs : List Int} {cs : Array Value}
/-- A row that is not empty begins a block, and is the only one in it. -/
theorem Own.narrow (h : Own t w lo hi (.slice A n c) zs) (hne : 0 < zs.length) : ∃ g, A = some ⟨g, 0, none⟩ ∧ lo ≤ g ∧ g < hi ∧ Own t w g (g + 1) (.slice A n c) zs := by
  have hr := h.row.2
  rcases hr with ⟨_, h0⟩ | ⟨g, cap, cur, hv, hg, r⟩
  · omega
  · injection hv with ha hn hc
    subst ha
    have hlt := h.top g rfl
    refine ⟨g, rfl, hg, hlt, ⟨⟨h.row.1, .inr ⟨g, cap, cur, by rw [hn, hc], Nat.le_refl _, r⟩⟩, fun k hk => ?_, h.len⟩⟩
    simp [Value.ownBlock] at hk; omega
/-- It is no box of another type. -/
theorem Own.not_box (h : Own t w lo hi (.slice (some ⟨g, 0, none⟩) n c) zs) (hb : Bx w B t' cs) (ht : t ≠ t') : g ≠ B := by
  rintro rfl
  rcases h.row.2 with ⟨hv, _⟩ | ⟨g', cap, cur, hv, hg, hh, _⟩
  · cases hv
  · injection hv with ha _ _
    injection ha with ha
    injection ha with ha
    subst ha
    unfold Bx at hb
    rw [hb] at hh
    injection hh with hh
    injection hh with _ hh _
    exact ht hh.symm
end

set_option maxHeartbeats 4000000 in
theorem specMoveChain (a : Option Addr) (c : Nat) (p : List Int) (b : Option Addr) (d : Nat) (q : List Int) (t : Int) (w : World) (h : Rd2 w a p b q) (_ : All64 p ∧ All64 q) (_ : I64 t) :
    Calls Try.prog 52 #[.agg #[.slice a p.length c, .slice b q.length d], .int .i64 t] w (ChaC (mvR p q t) w) := by
  have hx := h.len
  obtain ⟨u, hu⟩ : ∃ u, u = (w.alloc (.cells #[.slice a p.length c, .slice b q.length d] 41)).alloc (.cells #[.slice none 0 0, .slice none 0 0] 41) := ⟨_, rfl⟩
  have bx : Bx u w.heap.size 41 #[.slice a p.length c, .slice b q.length d] := by rw [hu]; exact (Bx.new _ _ _).alloc _
  have br : Bx u (w.heap.size + 1) 41 #[.slice none 0 0, .slice none 0 0] := by
    rw [hu]; simpa using Bx.new (w.alloc (.cells #[.slice a p.length c, .slice b q.length d] 41)) #[.slice none 0 0, .slice none 0 0] 41
  have hbel : Below w.heap.size w u := by rw [hu]; exact (by repeat (first | exact Below.refl _ _ | refine Below.setCell ?_ (by first | omega | (simp <;> omega)) _ | refine Below.alloc ?_ (by first | omega | (simp <;> omega)) _ | refine Below.drew ?_))
  have HU := Lib.hid hu
  clear hu
  cases hc : chainB p q with
  | false =>
    have HR := Lib.hid (mvR_bad (to := t) hc)
    have HV := Lib.hid (l04Chain_at w.heap.size a c p b d q u hc (h.below hbel) (bx.at_ 0 rfl) (bx.at_ 1 rfl))
    clear hc
    go_enter Try.func52, Try.ntmps52
    go_wp2_with fail
    rw [← HU.out]
    refine HV.out.mono ?_
    rintro e w1 ⟨rfl, hb1⟩
    replace br := br.below hb1
    replace hbel := hbel.trans (hb1.mono hbel.size)
    have hz1 := br.lt
    have c0 := br.at_ 0 rfl
    have c1 := br.at_ 1 rfl
    have f0 := br.thaw 0
    have f1 := br.thaw 1
    have bz := (br.set_ 0 (.slice none 0 0)).set_ 1 (.slice none 0 0)
    have r0 := bz.at_ 0 rfl
    have r1 := bz.at_ 1 rfl
    go_wp2
    exact bodyPost_ret (v := .tuple #[.agg #[.slice none 0 0, .slice none 0 0], .int .i64 1]) (by simp [results, Try.results52, go_sem, r0, r1]) rfl (chaC_err HR.out rfl (by repeat (first | exact hbel | refine Below.setCell ?_ (by first | omega | (simp <;> omega)) _ | refine Below.alloc ?_ (by first | omega | (simp <;> omega)) _ | refine Below.drew ?_)))
  | true =>
    have hC := chain_of hc
    have HV := Lib.hid (l04Chain_at w.heap.size a c p b d q u hc (h.below hbel) (bx.at_ 0 rfl) (bx.at_ 1 rfl))
    cases ht : inB t (-1000000) 1000000 with
    | false =>
      have HR := Lib.hid (mvR_range hc ht)
      have HI := Lib.hid (l04Place_any t)
      rw [ht] at HI
      clear hc ht hC
      go_enter Try.func52, Try.ntmps52
      go_wp2_with fail
      rw [← HU.out]
      refine HV.out.mono ?_
      rintro e w1 ⟨rfl, hb1⟩
      replace br := br.below hb1
      replace hbel := hbel.trans (hb1.mono hbel.size)
      go_wp2_with fail
      refine (HI.out w1).mono ?_
      rintro e w2 ⟨rfl, hw⟩
      subst w2
      have hz1 := br.lt
      have c0 := br.at_ 0 rfl
      have c1 := br.at_ 1 rfl
      have f0 := br.thaw 0
      have f1 := br.thaw 1
      have bz := (br.set_ 0 (.slice none 0 0)).set_ 1 (.slice none 0 0)
      have r0 := bz.at_ 0 rfl
      have r1 := bz.at_ 1 rfl
      go_wp2
      exact bodyPost_ret (v := .tuple #[.agg #[.slice none 0 0, .slice none 0 0], .int .i64 2]) (by simp [results, Try.results52, go_sem, r0, r1]) rfl (chaC_err HR.out rfl (by repeat (first | exact hbel | refine Below.setCell ?_ (by first | omega | (simp <;> omega)) _ | refine Below.alloc ?_ (by first | omega | (simp <;> omega)) _ | refine Below.drew ?_)))
    | true =>
      have HR := Lib.hid (mvR_ok hc ht)
      have HI := Lib.hid (l04Place_any t)
      rw [ht] at HI
      have HC := Lib.hid hC
      have HB := Lib.hid (inB_true ht)
      have hn0 : 0 < p.length := by have := hC.n0; omega
      clear hc ht hC
      go_enter Try.func52, Try.ntmps52
      go_wp2_with fail
      rw [← HU.out]
      refine HV.out.mono ?_
      rintro e w1 ⟨rfl, hb1⟩
      replace br := br.below hb1
      replace bx := bx.below hb1
      replace hbel := hbel.trans (hb1.mono hbel.size)
      go_wp2_with fail
      refine (HI.out w1).mono ?_
      rintro e w2' ⟨rfl, hw⟩
      subst w2'
      have hzr := br.lt
      have e0 := bx.at_ 0 rfl
      go_wp2_with fail
      refine (l00Own_any a c p w1 (h.p.below hbel) hn0).mono ?_
      rintro e w2 ⟨A1, C1, rfl, own1, hb2⟩
      replace br := br.below hb2
      replace bx := bx.below hb2
      have hsz1 := hbel.size
      replace hbel := hbel.trans (hb2.mono hbel.size)
      have hz0 := bx.lt
      have hz1 := br.lt
      have hsz2 := hb2.size
      have e0 := bx.at_ 0 rfl
      clear hb1 hb2
      go_wp2
      obtain ⟨u3, hu3⟩ : ∃ v, v = (w2.alloc (.cells #[.int .i64 t] 2)).alloc (.cells #[.slice A1 p.length C1, .slice (some ⟨w2.heap.size, 0, none⟩) 1 1] 41) := ⟨_, rfl⟩
      rw [← hu3]
      have hbu : Below w2.heap.size w2 u3 := by rw [hu3]; exact (by repeat (first | exact Below.refl _ _ | refine Below.setCell ?_ (by first | omega | (simp <;> omega)) _ | refine Below.alloc ?_ (by first | omega | (simp <;> omega)) _ | refine Below.drew ?_))
      have bo : Bx u3 (w2.heap.size + 1) 41 #[.slice A1 p.length C1, .slice (some ⟨w2.heap.size, 0, none⟩) 1 1] := by
        rw [hu3]; simpa using Bx.new (w2.alloc (.cells #[.int .i64 t] 2)) #[.slice A1 p.length C1, .slice (some ⟨w2.heap.size, 0, none⟩) 1 1] 41
      have op : Own 2 u3 w2.heap.size (w2.heap.size + 1) (.slice (some ⟨w2.heap.size, 0, none⟩) 1 1) [t] := by
        rw [hu3]
        have := (row_new 2 1 w2 #[.int .i64 t] 1 (by simp) (by omega)).alloc (.cells #[.slice A1 p.length C1, .slice (some ⟨w2.heap.size, 0, none⟩) 1 1] 41)
        exact own_of_row (zs := [t]) (by simpa using this) rfl (by simp)
      replace own1 := own1.below hbu
      replace bx := bx.below hbu
      replace br := br.below hbu
      have hsu := hbu.size
      have hsz3 := hbel.size
      replace hbel := hbel.trans (hbu.mono hsz3)
      obtain ⟨B, hB⟩ : ∃ B, B = w2.heap.size + 1 := ⟨_, rfl⟩
      rw [← hB] at bo ⊢
      have hBw : w.heap.size + 1 < B := by omega
      have hB2 : w2.heap.size < B := by omega
      clear hu3 hbu hB
      go_loopw [1, 7, 8] (fun x i _ wr => ∃ (k : Nat) (g n : Nat) (E : Nat), k ≤ p.length ∧ i = .int .i64 k ∧ x = .int .i64 (mvF p q t k) ∧ Bx wr B 41 #[.slice A1 p.length C1, .slice (some ⟨g, 0, none⟩) n E] ∧ n = k + 1 ∧
        Own 2 wr g (g + 1) (.slice (some ⟨g, 0, none⟩) n E) (tab (mvF p q t) (k + 1)) ∧ w2.heap.size ≤ g ∧ Own 2 wr w1.heap.size w2.heap.size (.slice A1 p.length C1) p ∧ Bx wr w.heap.size 41 #[.slice a p.length c, .slice b q.length d] ∧ Bx wr (w.heap.size + 1) 41 #[.slice none 0 0, .slice none 0 0] ∧ Below w.heap.size w wr) (fun _ i _ _ => p.length - (intOf i).toNat)
      case atStart => exact ⟨0, w2.heap.size, 1, 1, Nat.zero_le _, rfl, rfl, bo, rfl, op, Nat.le_refl _, own1, bx, br, hbel⟩
      case round =>
        clear bo op own1 bx br hbel e0
        obtain ⟨k, g, n, E, hk, rfl, rfl, bo, rfl, op, hg, own1, bx, br, hbel⟩ := hrel
        by_cases hlt : k < p.length
        · have hq1 : k + 1 < q.length := by have := HC.out.ln; omega
          obtain ⟨b1, o1, rfl, hc1⟩ := (h.p.below hbel).at_ hlt
          obtain ⟨b2, o2, rfl, hc2⟩ := (h.q.below hbel).at_ hq1
          have cx0 := bx.at_ 0 rfl
          have cx1 := bx.at_ 1 rfl
          have m0 := mvF_bd HC.out HB.out.1 HB.out.2 k (by omega)
          have m1 := HC.out.play k hlt
          have n1 := HC.out.n1
          obtain ⟨X, hX⟩ : ∃ X, X = mvF p q t k := ⟨_, rfl⟩
          rw [← hX] at m0 ⊢
          have hw1 : IntKind.i64.wrap (X - nth p k) = X - nth p k := IntWalk.i64_in _ (by omega)
          have hw2 : IntKind.i64.wrap (X + nth p k) = X + nth p k := IntWalk.i64_in _ (by omega)
          obtain ⟨Y, hY⟩ : ∃ Y, Y = mvF p q t (k + 1) := ⟨_, rfl⟩
          have hYY : Y = min (max (nth q (k + 1)) (X - nth p k)) (X + nth p k) := by rw [hX, hY]; rfl
          have HY := Lib.hid (show tab (mvF p q t) (k + 1 + 1) = tab (mvF p q t) (k + 1) ++ [Y] by rw [tab_succ, hY])
          have HYY := Lib.hid hY
          have HM := Lib.hid hYY
          clear hX hY m0 hYY
          go_upto_region 9 with fail
          go_quiet ((go_at_call 89; exact Calls.quiet_of_same (l00Max_any _ _ _)))
          obtain ⟨wn, hwn⟩ : ∃ v, v = wr.drewN nq := ⟨_, rfl⟩
          rw [← hwn]
          have hbn : Below wr.heap.size wr wn := by rw [hwn]; exact bel_drewN (Below.refl _ _) _
          replace op := op.below hbn
          replace own1 := own1.below hbn
          replace bo := bo.below hbn
          replace br := br.below hbn
          replace bx := bx.below hbn
          replace hbel := hbel.trans (hbn.mono hbel.size)
          have hszn := hbel.size
          replace cx0 := kept hbn cx0
          replace cx1 := kept hbn cx1
          replace hc1 := kept hbn hc1
          replace hc2 := kept hbn hc2
          have bo1 := bo.at_ 1 rfl
          have hBl := bo.lt
          have hgl := op.lo_le (k := g) rfl
          have hgB : g ≠ B := op.not_box bo (by decide)
          clear hwn hbn
          go_wp2_with (first | (go_at_call 90; refine (l00Min_any _ _ _).mono ?_; rintro e w4 ⟨rfl, hw⟩; subst w4; rw [← HM.out]) | (at_builtin; go_must (refine wpList_appI rfl (.tmp 53) (.tmp 55) 39 2 rfl Try.underlying39 info_int64 rfl (op.alloc _) (tab_len _ _) ⟨wn.heap.size, 0, none⟩ 1 Y rfl (cell_new1 wn _ _) (by omega) (by simp <;> omega) ?_); intro A' C' w5 own5 ht5; have bo5 := (bo.alloc (.cells #[.int .i64 Y] 2)).touch ht5 (by omega); have c5 := bo5.at_ 1 rfl; have f5 := bo5.thaw 1))
          go_roundw
          case rel =>
            have hwz := ht5.size
            have hw5 : wn.heap.size + 1 ≤ w5.heap.size := by simpa using hwz
            obtain ⟨g', rfl, hg1, hg2, nar⟩ := own5.narrow (by rw [List.length_append, tab_len]; simp)
            have hne : g' ≠ B := nar.not_box bo5 (by decide)
            have hb5 : Below w.heap.size w w5 := hbel.trans (((Below.refl wn.heap.size wn).alloc (Nat.le_refl _) _ |>.mono hszn).trans (ht5.below (by omega) (by simp; omega)))
            have o1 := ((own1.alloc (.cells #[.int .i64 Y] 2)).touch ht5 (by omega)).setCell (p := ⟨B, 1, none⟩) (.inr (by simp; omega)) (.slice (some ⟨g', 0, none⟩) (k + 1 + 1) C')
            have x1 := ((bx.alloc (.cells #[.int .i64 Y] 2)).touch ht5 (by omega)).far (p := ⟨B, 1, none⟩) (by simp; omega) (.slice (some ⟨g', 0, none⟩) (k + 1 + 1) C')
            have r1 := ((br.alloc (.cells #[.int .i64 Y] 2)).touch ht5 (by omega)).far (p := ⟨B, 1, none⟩) (by simp; omega) (.slice (some ⟨g', 0, none⟩) (k + 1 + 1) C')
            have p1 := nar.setCell (p := ⟨B, 1, none⟩) (by simp; omega) (.slice (some ⟨g', 0, none⟩) (k + 1 + 1) C')
            rw [← HY.out] at p1
            exact ⟨k + 1, g', k + 1 + 1, C', by omega, by go_num, by rw [← HYY.out], bo5.set_ 1 _, rfl, p1, by omega, o1, x1, r1, hb5.setCell (by simp; omega) _⟩
          case measure => (simp [intOf]) <;> omega
        · obtain rfl : k = p.length := by omega
          have cx0 := bx.at_ 0 rfl
          have d0 := bo.at_ 0 rfl
          have d1 := bo.at_ 1 rfl
          have c0 := br.at_ 0 rfl
          have c1 := br.at_ 1 rfl
          have f0 := br.thaw 0
          have f1 := br.thaw 1
          have hz5 := br.lt
          have hszw := hbel.size
          have hgl := op.lo_le (k := g) rfl
          have bz := (br.set_ 0 (.slice A1 p.length C1)).set_ 1 (.slice (some ⟨g, 0, none⟩) (p.length + 1) E)
          have r0 := bz.at_ 0 rfl
          have r1 := bz.at_ 1 rfl
          go_wp2
          refine bodyPost_ret (v := .tuple #[.agg #[.slice A1 p.length C1, .slice (some ⟨g, 0, none⟩) (p.length + 1) E], .int .i64 0]) (by simp [results, Try.results52, go_sem, r0, r1]) rfl ?_
          refine ⟨A1, C1, some ⟨g, 0, none⟩, E, by rw [HR.out]; simp [mvL, tab_len], ?_, (by repeat (first | exact hbel | refine Below.setCell ?_ (by first | omega | (simp <;> omega)) _ | refine Below.alloc ?_ (by first | omega | (simp <;> omega)) _ | refine Below.drew ?_))⟩
          rw [HR.out]
          refine ⟨w1.heap.size, w2.heap.size, g, g + 1, (own1.setCell (.inl (by simp; omega)) _).setCell (.inl (by simp; omega)) _, ?_, by omega, by simp; omega, by omega, by simp; omega, by omega⟩
          have := (op.setCell (p := ⟨w.heap.size + 1, 0, none⟩) (.inl (by simp; omega)) (.slice A1 p.length C1)).setCell (p := ⟨w.heap.size + 1, 1, none⟩) (.inl (by simp; omega)) (.slice (some ⟨g, 0, none⟩) (p.length + 1) E)
          simpa [mvL, tab_len] using this
end Go.Proofs.Ytaefgkhbgljkoaa
