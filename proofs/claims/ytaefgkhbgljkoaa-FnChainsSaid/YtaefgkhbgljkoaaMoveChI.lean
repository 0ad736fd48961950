/-
  impl.MoveChain.
-/
import Derived.Test.YtaefgkhbgljkoaaChainJ
import Derived.Test.YtaefgkhbgljkoaaCloneI
namespace Go.Proofs.Ytaefgkhbgljkoaa
open Go.RowKit

/-- A chain of its own and a code. -/
def ChaC (R : List Int × List Int × Int) (w : World) (e : Ending) (w' : World) : Prop := ∃ A C D E,
  e = .returned (.tuple #[.agg #[.slice A R.1.length C, .slice D R.2.1.length E], .int .i64 R.2.2]) ∧ Own2 2 w' w.heap.size w'.heap.size (.slice A R.1.length C) R.1 (.slice D R.2.1.length E) R.2.1 ∧ Below w.heap.size w w'
theorem chaC_err {R : List Int × List Int × Int} {c : Int} {w w' : World} {e : Ending} (h : R = ([], [], c)) (he : e = .returned (.tuple #[.agg #[.slice none 0 0, .slice none 0 0], .int .i64 c])) (hb : Below w.heap.size w w') : ChaC R w e w' := by
  subst h
  exact ⟨none, 0, none, 0, he, own2_nil _ _ hb.size, hb⟩
theorem mvF_step (pl ps : List Int) (to : Int) (k : Nat) : min (max (nth ps (k + 1)) (mvF pl ps to k - nth pl k)) (mvF pl ps to k + nth pl k) = mvF pl ps to (k + 1) := rfl
theorem mvL_first (pl ps : List Int) (to : Int) : tab (mvF pl ps to) 1 = [to] := rfl

set_option maxHeartbeats 4000000 in
theorem implMoveChain (a : Option Addr) (c : Nat) (p : List Int) (b : Option Addr) (d : Nat) (q : List Int) (t : Int) (w : World) (h : Rd2 w a p b q) (hz : All64 p ∧ All64 q) (_ : I64 t) :
    Calls Try.prog 29 #[.agg #[.slice a p.length c, .slice b q.length d], .int .i64 t] w (ChaC (mvR p q t) w) := by
  have hx := h.len
  obtain ⟨u, hu⟩ : ∃ u, u = (w.alloc (.cells #[.slice a p.length c, .slice b q.length d] 41)).alloc (.cells #[.slice none 0 0, .slice none 0 0] 41) := ⟨_, rfl⟩
  have bx : Bx u w.heap.size 41 #[.slice a p.length c, .slice b q.length d] := by rw [hu]; exact (Bx.new _ _ _).alloc _
  have br : Bx u (w.heap.size + 1) 41 #[.slice none 0 0, .slice none 0 0] := by
    rw [hu]; simpa using Bx.new (w.alloc (.cells #[.slice a p.length c, .slice b q.length d] 41)) #[.slice none 0 0, .slice none 0 0] 41
  have hbel : Below w.heap.size w u := by rw [hu]; exact (by repeat (first | exact Below.refl _ _ | refine Below.setCell ?_ (by first | omega | (simp <;> omega)) _ | refine Below.alloc ?_ (by first | omega | (simp <;> omega)) _ | refine Below.drew ?_))
  have HU := Lib.hid hu
  clear hu
  have HV := Lib.hid (implValidChain a c p b d q u (h.below hbel) hz)
  cases hc : chainB p q with
  | false =>
    have HR := Lib.hid (mvR_bad (to := t) hc)
    rw [hc] at HV
    clear hc
    go_enter Try.func29, Try.ntmps29
    go_wp2_with fail
    rw [← HU.out]
    refine HV.out.mono ?_
    rintro e w1 ⟨rfl, hb1⟩
    replace br := br.below hb1
    replace hbel := hbel.trans (hb1.mono hbel.size)
    have hz1 := br.lt
    have c0 := br.at_ 0 rfl
    have c1 := br.at_ 1 rfl
    have f0 := br.thaw 0
    have f1 := br.thaw 1
    have bz := (br.set_ 0 (.slice none 0 0)).set_ 1 (.slice none 0 0)
    have r0 := bz.at_ 0 rfl
    have r1 := bz.at_ 1 rfl
    go_wp2
    exact bodyPost_ret (v := .tuple #[.agg #[.slice none 0 0, .slice none 0 0], .int .i64 1]) (by simp [results, Try.results29, go_sem, r0, r1]) rfl (chaC_err HR.out rfl (by repeat (first | exact hbel | refine Below.setCell ?_ (by first | omega | (simp <;> omega)) _ | refine Below.alloc ?_ (by first | omega | (simp <;> omega)) _ | refine Below.drew ?_)))
  | true =>
    have hC := chain_of hc
    rw [hc] at HV
    cases ht : inB t (-1000000) 1000000 with
    | false =>
      have HR := Lib.hid (mvR_range hc ht)
      have HI := Lib.hid (isPlace_any t)
      rw [ht] at HI
      clear hc ht hC
      go_enter Try.func29, Try.ntmps29
      go_wp2_with fail
      rw [← HU.out]
      refine HV.out.mono ?_
      rintro e w1 ⟨rfl, hb1⟩
      replace br := br.below hb1
      replace hbel := hbel.trans (hb1.mono hbel.size)
      go_wp2_with fail
      refine (HI.out w1).mono ?_
      rintro e w2 ⟨rfl, hb2⟩
      replace br := br.below hb2
      replace hbel := hbel.trans (hb2.mono hbel.size)
      have hz1 := br.lt
      have c0 := br.at_ 0 rfl
      have c1 := br.at_ 1 rfl
      have f0 := br.thaw 0
      have f1 := br.thaw 1
      have bz := (br.set_ 0 (.slice none 0 0)).set_ 1 (.slice none 0 0)
      have r0 := bz.at_ 0 rfl
      have r1 := bz.at_ 1 rfl
      go_wp2
      exact bodyPost_ret (v := .tuple #[.agg #[.slice none 0 0, .slice none 0 0], .int .i64 2]) (by simp [results, Try.results29, go_sem, r0, r1]) rfl (chaC_err HR.out rfl (by repeat (first | exact hbel | refine Below.setCell ?_ (by first | omega | (simp <;> omega)) _ | refine Below.alloc ?_ (by first | omega | (simp <;> omega)) _ | refine Below.drew ?_)))
    | true =>
      have HR := Lib.hid (mvR_ok hc ht)
      have HI := Lib.hid (isPlace_any t)
      rw [ht] at HI
      have HC := Lib.hid hC
      have HB := Lib.hid (inB_true ht)
      clear hc ht hC
      go_enter Try.func29, Try.ntmps29
      go_wp2_with fail
      rw [← HU.out]
      refine HV.out.mono ?_
      rintro e w1 ⟨rfl, hb1⟩
      replace br := br.below hb1
      replace bx := bx.below hb1
      replace hbel := hbel.trans (hb1.mono hbel.size)
      go_wp2_with fail
      refine (HI.out w1).mono ?_
      rintro e w2 ⟨rfl, hb2⟩
      replace br := br.below hb2
      replace bx := bx.below hb2
      replace hbel := hbel.trans (hb2.mono hbel.size)
      have hz2 := br.lt
      have e0 := bx.at_ 0 rfl
      clear hb1 hb2
      have hz0 := bx.lt
      have hsz2 := hbel.size
      go_wp2
      go_loopw [6, 7, 8, 9, 10, 24] (fun s _ _ _ _ i wr => ∃ (k : Nat) (A : Option Addr) (C : Nat), k ≤ p.length ∧ i = .int .i64 k ∧ s = .slice A (k + 1) C ∧ Own 2 wr w2.heap.size wr.heap.size (.slice A (k + 1) C) (tab (mvF p q t) (k + 1)) ∧ Below w2.heap.size w2 wr) (fun _ _ _ _ _ i _ => p.length - (intOf i).toNat)
      case atStart =>
        refine ⟨0, _, _, Nat.zero_le _, rfl, rfl, ?_, (by repeat (first | exact Below.refl _ _ | refine Below.setCell ?_ (by first | omega | (simp <;> omega)) _ | refine Below.alloc ?_ (by first | omega | (simp <;> omega)) _ | refine Below.drew ?_))⟩
        rw [mvL_first]
        have := row_new 2 1 w2 #[.int .i64 t] 1 (by simp) (by omega)
        exact own_of_row (zs := [t]) (by simpa using this) rfl (by simp)
      case round =>
        obtain ⟨k, A, C, hk, rfl, rfl, own, hb⟩ := hrel
        have hsz := hb.size
        by_cases hlt : k < p.length
        · have hq1 : k + 1 < q.length := by have := HC.out.ln; omega
          have hbel2 := hbel.trans (hb.mono hsz2)
          obtain ⟨b1, o1, rfl, hc1⟩ := (h.p.below hbel2).at_ hlt
          obtain ⟨b2, o2, rfl, hc2⟩ := (h.q.below hbel2).at_ hq1
          have cx0 := (bx.below hb).at_ 0 rfl
          have cx1 := (bx.below hb).at_ 1 rfl
          obtain ⟨b3, o3, rfl, hc3⟩ := own.rd.at_ (k := k) (by rw [tab_len]; omega)
          rw [tab_nth (by omega)] at hc3
          have m0 := mvF_bd HC.out HB.out.1 HB.out.2 k (by omega)
          have m1 := HC.out.play k hlt
          have n1 := HC.out.n1
          obtain ⟨X, hX⟩ : ∃ X, X = mvF p q t k := ⟨_, rfl⟩
          rw [← hX] at hc3 m0
          have hw1 : IntKind.i64.wrap (X - nth p k) = X - nth p k := IntWalk.i64_in _ (by omega)
          have hw2 : IntKind.i64.wrap (X + nth p k) = X + nth p k := IntWalk.i64_in _ (by omega)
          obtain ⟨Y, hY⟩ : ∃ Y, Y = mvF p q t (k + 1) := ⟨_, rfl⟩
          have hYY : Y = min (max (nth q (k + 1)) (X - nth p k)) (X + nth p k) := by rw [hX, hY]; rfl
          have HY := Lib.hid (show tab (mvF p q t) (k + 1 + 1) = tab (mvF p q t) (k + 1) ++ [Y] by rw [tab_succ, hY])
          clear hX hY m0
          go_wp2_with fail
          go_quiet (fail)
          obtain ⟨wn, hwn⟩ : ∃ v, v = wr.drewN nq := ⟨_, rfl⟩
          rw [← hwn]
          have hbn : Below wr.heap.size wr wn := by rw [hwn]; exact bel_drewN (Below.refl _ _) _
          have own2 : Own 2 wn w2.heap.size wr.heap.size (.slice (some ⟨b3, o3, none⟩) (k + 1) C) (tab (mvF p q t) (k + 1)) := own.below hbn
          have hbel3 := hb.trans (hbn.mono hsz)
          have hsz3 := hbel3.size
          have hszn := hbn.size
          replace cx0 := kept hbn cx0
          replace cx1 := kept hbn cx1
          replace hc1 := kept hbn hc1
          replace hc2 := kept hbn hc2
          clear hwn hc3
          obtain ⟨M, hM⟩ : ∃ M, M = max (nth q (k + 1)) (X - nth p k) := ⟨_, rfl⟩
          rw [← hM] at hYY
          have m1 : (if nth q (k + 1) < X - nth p k then X - nth p k else nth q (k + 1)) = M := by rw [hM]; omega
          have m2 : (if X + nth p k < M then X + nth p k else M) = Y := by rw [hYY]; omega
          have m3 : (if M < X + nth p k then M else X + nth p k) = Y := by rw [hYY]; omega
          clear hM hYY
          go_wp2_with (at_builtin; go_must (refine wpList_appI rfl (.tmp 41) (.tmp 52) 39 2 rfl Try.underlying39 info_int64 rfl (own2.alloc _) (tab_len _ _) ⟨wn.heap.size, 0, none⟩ 1 Y rfl (cell_new1 wn _ _) (by omega) (by simp <;> omega) ?_); intro A' C' w5 own5 ht5)
          have hb5 : Below w2.heap.size wn w5 := ((Below.refl _ _).alloc (by omega) _).trans (ht5.below (Nat.le_refl _) (by simp <;> omega))
          rw [← HY.out] at own5
          go_roundw
          case rel => exact ⟨k + 1, A', C', by omega, by go_num, rfl, own5, hbel3.trans hb5⟩
          case measure => (simp [intOf]) <;> omega
        · obtain rfl : k = p.length := by omega
          have hbel2 := hbel.trans (hb.mono hsz2)
          have hp := h.p.below hbel2
          have bx2 := bx.below hb
          have br2 := br.below hb
          have cx0 := bx2.at_ 0 rfl
          have hn0 : 0 < p.length := by have := HC.out.n0; omega
          have hsz3 := hbel2.size
          have hz3 := br2.lt
          go_wp2_with fail
          refine (clone_any a c p wr hp hn0).mono ?_
          rintro e w5 ⟨A', C', rfl, own5, hb5⟩
          have own6 := own.below hb5
          have br3 := br2.below hb5
          have hbel4 := hbel2.trans (hb5.mono hbel2.size)
          have hz4 := br3.lt
          have hs5 := hb5.size
          have c0 := br3.at_ 0 rfl
          have c1 := br3.at_ 1 rfl
          have f0 := br3.thaw 0
          have f1 := br3.thaw 1
          have bz := (br3.set_ 0 (.slice A' p.length C')).set_ 1 (.slice A (p.length + 1) C)
          have r0 := bz.at_ 0 rfl
          have r1 := bz.at_ 1 rfl
          go_wp2
          refine bodyPost_ret (v := .tuple #[.agg #[.slice A' p.length C', .slice A (p.length + 1) C], .int .i64 0]) (by simp [results, Try.results29, go_sem, r0, r1]) rfl ?_
          refine ⟨A', C', A, C, by rw [HR.out]; simp [mvL, tab_len], ?_, (by repeat (first | exact hbel4 | refine Below.setCell ?_ (by first | omega | (simp <;> omega)) _ | refine Below.alloc ?_ (by first | omega | (simp <;> omega)) _ | refine Below.drew ?_))⟩
          rw [HR.out]
          refine ⟨wr.heap.size, w5.heap.size, w2.heap.size, wr.heap.size, (own5.setCell (.inl (by simp; omega)) _).setCell (.inl (by simp; omega)) _, ?_, by omega, by simp, by omega, by simp; omega, by omega⟩
          have := (own6.setCell (p := ⟨w.heap.size + 1, 0, none⟩) (.inl (by simp; omega)) (.slice A' p.length C')).setCell (p := ⟨w.heap.size + 1, 1, none⟩) (.inl (by simp; omega)) (.slice A (p.length + 1) C)
          simpa [mvL, tab_len] using this
end Go.Proofs.Ytaefgkhbgljkoaa
