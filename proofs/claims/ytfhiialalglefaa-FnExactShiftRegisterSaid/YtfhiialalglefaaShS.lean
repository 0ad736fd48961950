/-
  spec.ShiftRegister.
-/
import Derived.Test.YtfhiialalglefaaRegC
namespace Go.Proofs.Ytfhiialalglefaa
open Go.RowKit

theorem shD_in {xs : List Int} {m : Int} {k j : Nat} (h : (k : Int) - m = j) (hj : j < xs.length) : shD xs m k = nth xs j := by
  unfold shD; rw [h, if_pos (by omega)]; rfl
theorem shD_out {xs : List Int} {m : Int} {k : Nat} (h : (k : Int) - m < 0 ∨ (xs.length : Int) - 1 < (k : Int) - m) : shD xs m k = 0 := by
  unfold shD; rw [if_neg (by omega)]

set_option maxRecDepth 100000 in
set_option maxHeartbeats 2000000 in
theorem specShiftRegister (xB : Int) (xA : Option Addr) (xC : Nat) (xZ : List Int) (m : Int) (w : World) (ha : Rd w xA xZ) (_ : All64 xZ) (_ : I64 xB) (_ : I64 m) :
    Calls Try.prog 51 #[.agg #[.int .i64 xB, .slice xA xZ.length xC], .int .i64 m] w (RegC (shR xB xZ m) w) := by
  go_enter Try.func51, Try.ntmps51
  go_wp2_with fail
  obtain ⟨u, hu⟩ : ∃ u, u = (w.alloc (.cells #[.int .i64 xB, .slice xA xZ.length xC] 26)).alloc (.cells #[.int .i64 0, .slice none 0 0] 26) := ⟨_, rfl⟩
  rw [← hu]
  have hbel : Below w.heap.size w u := by rw [hu]; exact (by repeat (first | exact Below.refl _ _ | refine Below.setCell ?_ (by simp <;> omega) _ | refine Below.alloc ?_ (by simp <;> omega) _ | refine Below.drew ?_))
  have ax : Bx u w.heap.size 26 #[.int .i64 xB, .slice xA xZ.length xC] := by rw [hu]; exact (Bx.new _ _ _).alloc _
  have bx : Bx u (w.heap.size + 1) 26 #[.int .i64 0, .slice none 0 0] := by rw [hu]; simpa using Bx.new (w.alloc (.cells #[.int .i64 xB, .slice xA xZ.length xC] 26)) #[.int .i64 0, .slice none 0 0] 26
  clear hu
  replace ha := ha.below hbel
  have hlen := ha.len
  cases h : okB xB xZ with
  | false =>
    have c0 := ax.at_ 0 rfl
    have c1 := ax.at_ 1 rfl
    have r0 := bx.at_ 0 rfl
    have r1 := bx.at_ 1 rfl
    have f0 := bx.thaw 0
    have f1 := bx.thaw 1
    have hus := bx.lt
    have HR := Lib.hid (show shR xB xZ m = (0, [], 1) by simp [shR, h])
    refine (l02Ok_at0 w.heap.size xB xA xC xZ u h ha c0 c1).mono ?_
    rintro e w1 ⟨rfl, n, rfl⟩
    clear h
    go_wp2
    exact bodyPost_ret (v := .tuple #[.agg #[.int .i64 0, .slice none 0 0], .int .i64 1]) (by simp [results, Try.results51, go_sem, r0, r1]) rfl
      (regC_err HR.out rfl (by repeat (first | exact bel_drewN hbel n | refine Below.setCell ?_ (by simp <;> omega) _ | refine Below.alloc ?_ (by simp <;> omega) _ | refine Below.drew ?_)))
  | true =>
    have HO := Lib.hid (okB_spec h)
    have HR := Lib.hid (show shR xB xZ m = if -16 ≤ m ∧ m ≤ 16 then finR xB (tab (shD xZ m) xZ.length) else (0, [], 2) by simp [shR, h])
    refine (l02Ok_at0 w.heap.size xB xA xC xZ u h ha (ax.at_ 0 rfl) (ax.at_ 1 rfl)).mono ?_
    rintro e w1 ⟨rfl, n, rfl⟩
    obtain ⟨v, hv⟩ : ∃ v, v = u.drewN n := ⟨_, rfl⟩
    rw [← hv]
    have hb1 : Below u.heap.size u v := by rw [hv]; exact bel_drewN (Below.refl _ _) n
    replace ax := ax.below hb1
    replace bx := bx.below hb1
    replace ha := ha.below hb1
    replace hbel := hbel.trans (hb1.mono hbel.size)
    clear h hv hb1 u
    have hvs := bx.lt
    have c0 := ax.at_ 0 rfl
    have c1 := ax.at_ 1 rfl
    by_cases hm : -16 ≤ m ∧ m ≤ 16
    · rw [if_pos hm] at HR
      obtain ⟨hm1, hm2⟩ := hm
      go_wp2_with (go_at_call 80; refine (l00In_true _ _ _ _ hm1 hm2).mono ?_; rintro e w1 ⟨rfl, hq⟩; subst w1)
      go_loopw [7] (fun i wr => ∃ (k : Nat) (A : Option Addr) (C : Nat), k ≤ xZ.length ∧ i = .int .i64 k ∧ Bx wr v.heap.size 26 #[.int .i64 xB, .slice A k C] ∧
        Own 2 wr (v.heap.size + 1) wr.heap.size (.slice A k C) (tab (shD xZ m) k) ∧ Below v.heap.size v wr) (fun i _ => xZ.length - (intOf i).toNat)
      case atStart => exact ⟨0, none, 0, Nat.zero_le _, rfl, Bx.new _ _ _, own_nil _ _ _ _, (Below.refl _ _).alloc (Nat.le_refl _) _⟩
      case round =>
        obtain ⟨k, A, C, hk, rfl, dx, hown, hb2⟩ := hrel
        have e0 := kept hb2 c0
        have e1 := kept hb2 c1
        have hsz := dx.lt
        have b1 := dx.at_ 1 rfl
        by_cases hlt : k < xZ.length
        · have hl16 := HO.out.2.2.2.1
          by_cases hin : 0 ≤ (k : Int) - m ∧ (k : Int) - m ≤ (xZ.length : Int) - 1
          · obtain ⟨j, hj⟩ := Int.eq_ofNat_of_zero_le hin.1
            have hjl : j < xZ.length := by omega
            obtain ⟨p1, o1, rfl, hc1⟩ := ha.at_ hjl
            have g2 := kept hb2 hc1
            have hw1 : IntKind.i64.wrap ((k : Int) - m) = (j : Int) := by rw [IntWalk.i64_in _ (by omega)]; exact hj
            have hw2 : IntKind.i64.wrap ((xZ.length : Int) - 1) = (xZ.length : Int) - 1 := IntWalk.i64_in _ (by omega)
            have hd : decide ((j : Int) ≤ (xZ.length : Int) - 1) = true := decide_eq_true (by omega)
            have HD := Lib.hid (shD_in hj hjl)
            clear hin hj
            go_wp2_with (first | (go_at_call 80; refine (l00In_true _ _ _ _ (by omega) (by omega)).mono ?_; rintro e w2 ⟨rfl, hq⟩; subst w2) | (at_builtin; go_must (refine wpList_appI rfl (.tmp 42) (.tmp 44) 24 2 rfl Try.underlying24 info_int64 rfl (hown.alloc _) (tab_len _ _) ⟨wr.heap.size, 0, none⟩ 1 (nth xZ j) rfl (cell_new1 wr _ _) (by omega) (by simp; omega) ?_); intro A' C' w1 hown1 ht1; have hS : Below (v.heap.size + 1) wr w1 := ((Below.refl _ _).alloc (by omega) _).trans (ht1.below (Nat.le_refl _) (by simp <;> omega)); have dx1 := dx.lo hS (by omega); have dc1 := dx1.at_ 1 rfl; have df1 := dx1.thaw 1))
            rw [← HD.out, ← tab_succ] at hown1
            go_roundw
            case rel => exact ⟨k + 1, A', C', by omega, by go_num, by simpa using dx1.set_ 1 (.slice A' (k + 1) C'), (hown1.setCell (p := ⟨v.heap.size, 1, none⟩) (.inl (by simp)) _).wide (Nat.le_refl _) (by simp), (hb2.trans (hS.mono (Nat.le_succ _))).setCell (p := ⟨v.heap.size, 1, none⟩) (by simp) _⟩
            case measure => (simp [intOf]) <;> omega
          · have hin' : (k : Int) - m < 0 ∨ (0 ≤ (k : Int) - m ∧ (xZ.length : Int) - 1 < (k : Int) - m) := by omega
            have HD := Lib.hid (shD_out (show (k : Int) - m < 0 ∨ (xZ.length : Int) - 1 < (k : Int) - m by omega))
            have hw1 : IntKind.i64.wrap ((k : Int) - m) = (k : Int) - m := IntWalk.i64_in _ (by omega)
            have hw2 : IntKind.i64.wrap ((xZ.length : Int) - 1) = (xZ.length : Int) - 1 := IntWalk.i64_in _ (by omega)
            have HIN := Lib.hid (show (k : Int) - m < 0 ∨ (xZ.length : Int) - 1 < (k : Int) - m by omega)
            clear hin hin'
            go_wp2_with (first | (go_at_call 80; refine (l00In_false _ _ _ _ HIN.out).mono ?_; rintro e w2 ⟨rfl, hq⟩; subst w2) | (at_builtin; go_must (refine wpList_appI rfl (.tmp 42) (.tmp 44) 24 2 rfl Try.underlying24 info_int64 rfl (hown.alloc _) (tab_len _ _) ⟨wr.heap.size, 0, none⟩ 1 0 rfl (cell_new1 wr _ _) (by omega) (by simp; omega) ?_); intro A' C' w1 hown1 ht1; have hS : Below (v.heap.size + 1) wr w1 := ((Below.refl _ _).alloc (by omega) _).trans (ht1.below (Nat.le_refl _) (by simp <;> omega)); have dx1 := dx.lo hS (by omega); have dc1 := dx1.at_ 1 rfl; have df1 := dx1.thaw 1))
            rw [← HD.out, ← tab_succ] at hown1
            go_roundw
            case rel => exact ⟨k + 1, A', C', by omega, by go_num, by simpa using dx1.set_ 1 (.slice A' (k + 1) C'), (hown1.setCell (p := ⟨v.heap.size, 1, none⟩) (.inl (by simp)) _).wide (Nat.le_refl _) (by simp), (hb2.trans (hS.mono (Nat.le_succ _))).setCell (p := ⟨v.heap.size, 1, none⟩) (by simp) _⟩
            case measure => (simp [intOf]) <;> omega
        · obtain rfl : k = xZ.length := by omega
          replace bx := bx.below hb2
          have r0 := bx.at_ 0 rfl
          have r1 := bx.at_ 1 rfl
          have f0 := bx.thaw 0
          have f1 := bx.thaw 1
          have o0 := dx.at_ 0 rfl
          have o1 := dx.at_ 1 rfl
          replace hbel := hbel.trans (hb2.mono hbel.size)
          replace hown : Own 2 wr (v.heap.size + 1) wr.heap.size (.slice A (tab (shD xZ m) xZ.length).length C) (tab (shD xZ m) xZ.length) := by rw [tab_len]; exact hown
          rw [show (#[Value.int .i64 xB, .slice A xZ.length C] : Array Value)[1] = .slice A (tab (shD xZ m) xZ.length).length C by rw [tab_len]; rfl] at o1
          clear b1
          cases hk : okB xB (tab (shD xZ m) xZ.length) with
          | true =>
            have HF := Lib.hid (HR.out.trans (show finR xB (tab (shD xZ m) xZ.length) = (xB, tab (shD xZ m) xZ.length, 0) by simp [finR, hk]))
            go_wp2_with fail
            refine (l02Ok_at0 v.heap.size xB A C (tab (shD xZ m) xZ.length) wr hk hown.rd o0 o1).mono ?_
            rintro e w2 ⟨rfl, n', rfl⟩
            clear hk
            go_wp2
            exact bodyPost_ret (v := .tuple #[.agg #[.int .i64 xB, .slice A (tab (shD xZ m) xZ.length).length C], .int .i64 0]) (by simp [results, Try.results51, go_sem, r0, r1]) rfl
              (regC_ok HF.out rfl (lo := v.heap.size + 1) (hi := wr.heap.size) (((hown.drewN n').setCell (p := ⟨w.heap.size + 1, 0, none⟩) (.inl (by simp; omega)) _).setCell (p := ⟨w.heap.size + 1, 1, none⟩) (.inl (by simp; omega)) _) (by omega) (by simp) (by repeat (first | exact bel_drewN hbel n' | refine Below.setCell ?_ (by simp <;> omega) _ | refine Below.alloc ?_ (by simp <;> omega) _ | refine Below.drew ?_)))
          | false =>
            have HF := Lib.hid (HR.out.trans (show finR xB (tab (shD xZ m) xZ.length) = (0, [], 5) by simp [finR, hk]))
            go_wp2_with fail
            refine (l02Ok_at0 v.heap.size xB A C (tab (shD xZ m) xZ.length) wr hk hown.rd o0 o1).mono ?_
            rintro e w2 ⟨rfl, n', rfl⟩
            clear hk
            go_wp2
            exact bodyPost_ret (v := .tuple #[.agg #[.int .i64 0, .slice none 0 0], .int .i64 5]) (by simp [results, Try.results51, go_sem, r0, r1]) rfl
              (regC_err HF.out rfl (by repeat (first | exact bel_drewN hbel n' | refine Below.setCell ?_ (by simp <;> omega) _ | refine Below.alloc ?_ (by simp <;> omega) _ | refine Below.drew ?_)))
    · rw [if_neg hm] at HR
      have r0 := bx.at_ 0 rfl
      have r1 := bx.at_ 1 rfl
      have f0 := bx.thaw 0
      have f1 := bx.thaw 1
      have hm' : m < -16 ∨ 16 < m := by omega
      clear hm
      go_wp2_with (go_at_call 80; refine (l00In_false _ _ _ _ hm').mono ?_; rintro e w1 ⟨rfl, hq⟩; subst w1)
      exact bodyPost_ret (v := .tuple #[.agg #[.int .i64 0, .slice none 0 0], .int .i64 2]) (by simp [results, Try.results51, go_sem, r0, r1]) rfl
        (regC_err HR.out rfl (by repeat (first | exact hbel | refine Below.setCell ?_ (by simp <;> omega) _ | refine Below.alloc ?_ (by simp <;> omega) _ | refine Below.drew ?_)))
end Go.Proofs.Ytfhiialalglefaa
