/-
  The model's drums: codes, times, steps up to a time.
-/
import Derived.Test.YtcfpfhlgcfmioaaDoorDrumI
import Derived.Test.YtcfpfhlgcfmioaaDoorApp
import Derived.Test.YtcfpfhlgcfmioaaDoorToI
import Derived.Test.YtcfpfhlgcfmioaaDoorPairS
import Derived.Test.YtcfpfhlgcfmioaaDoorRow
namespace Go.Proofs.YtcfpfhlgcfmioaaDoor
open Go.RowKit

theorem own_lit0 (e : TypeId) (w : World) : Own e (w.alloc (.cells #[] e)) w.heap.size (w.heap.size + 1) (.slice (some ⟨w.heap.size, 0, none⟩) 0 0) [] :=
  own_of_row (zs := []) (by simpa using row_new e 1 w #[] 0 (by simp) (by omega)) rfl (by simp)

set_option maxHeartbeats 1000000 in
theorem l05Code_any (p : Nat) (K B T F d : Int) (w : World) (h : DrumAt w p K B T F) : Calls Tryd.prog 37 #[.pointer (some ⟨p, 0, none⟩), .int .i64 d] w fun e w' => e = .returned (.int .i64 (codeR K B T F d)) ∧ ∃ k, w' = w.drewN k := by
  have HV := Lib.hid (l05Ok_any p K B T F w h)
  obtain ⟨c0, c1, c2, c3⟩ := h
  cases hb : drumB K B T F with
  | false =>
    have HR := Lib.hid (codeR_bad (d := d) hb)
    rw [hb] at HV
    clear hb
    go_enter Tryd.func37, Tryd.ntmps37
    go_wp2_with fail
    refine HV.out.mono ?_
    rintro e w1 ⟨rfl, k, rfl⟩
    go_wp2
    go_ret
    exact ⟨ret_int HR.out.symm, _, rfl⟩
  | true =>
    have hB1 := (drm_of hb).b1
    have hB2 := (drm_of hb).b2
    rw [hb] at HV
    cases hd : inB d 0 (B - 1) with
    | false =>
      have HR := Lib.hid (codeR_range (d := d) hb (by have := inB_false hd; omega))
      clear hb
      go_enter Tryd.func37, Tryd.ntmps37
      go_wp2_with fail
      refine HV.out.mono ?_
      rintro e w1 ⟨rfl, k, rfl⟩
      go_wp2_with (go_at_call 38; refine (l00In_any _ _ _ _).mono ?_; rintro e w2 ⟨rfl, hq⟩; subst w2)
      go_ret
      exact ⟨ret_int HR.out.symm, _, rfl⟩
    | true =>
      have HR := Lib.hid (codeR_ok (d := d) hb (inB_true hd))
      clear hb
      go_enter Tryd.func37, Tryd.ntmps37
      go_wp2_with fail
      refine HV.out.mono ?_
      rintro e w1 ⟨rfl, k, rfl⟩
      go_wp2_with (go_at_call 38; refine (l00In_any _ _ _ _).mono ?_; rintro e w2 ⟨rfl, hq⟩; subst w2)
      go_ret
      exact ⟨ret_int HR.out.symm, _, rfl⟩

set_option maxHeartbeats 2000000 in
theorem l05Time_any (p : Nat) (K B T F d k : Int) (w : World) (h : DrumAt w p K B T F) (hD : Drm K B T F) (h1 : 0 ≤ d) (h2 : d < B) (k1 : 0 ≤ k) (k2 : k < d) :
    Calls Tryd.prog 50 #[.pointer (some ⟨p, 0, none⟩), .int .i64 d, .int .i64 k] w fun e w' => e = .returned (.int .i64 (tm K B T F d k)) ∧ ∃ n, w' = w.drewN n := by
  obtain ⟨c0, c1, c2, c3⟩ := h
  have a1 := hD.k1; have a2 := hD.k2; have b1 := hD.b1; have b2 := hD.b2; have t1 := hD.t1; have t2 := hD.t2
  obtain ⟨f1, f2⟩ := hD.fb
  clear hD
  obtain rfl | rfl | rfl : K = 1 ∨ K = 2 ∨ K = 3 := by omega
  · have v1 : IntKind.i64.wrap (F + B) = F + B := IntWalk.i64_in _ (by omega)
    have v2 : IntKind.i64.wrap (F + B - 1) = F + B - 1 := IntWalk.i64_in _ (by omega)
    have v3 : IntKind.i64.wrap (F + B - 1 - d) = F + B - 1 - d := IntWalk.i64_in _ (by omega)
    have v4 : IntKind.i64.wrap (F + B - 1 - d + k) = F + B - 1 - d + k := IntWalk.i64_in _ (by omega)
    have HR := Lib.hid (show tm 1 B T F d k = F + B - 1 - d + k by rw [tm1]; omega)
    go_enter Tryd.func50, Tryd.ntmps50
    go_wp2
    go_quiet (fail)
    go_wp2
    go_ret
    exact ⟨ret_int HR.out.symm, _, rfl⟩
  · have HR := Lib.hid (tm2 B T F d k)
    go_enter Tryd.func50, Tryd.ntmps50
    go_wp2
    go_ret
    exact ⟨ret_int HR.out.symm, 0, rfl⟩
  · obtain ⟨m0, m1, m2, m3⟩ := rack_bd (T := T) (d := d) (k := k) (by omega) t2 k1 k2 (by omega)
    obtain ⟨q, hq⟩ : ∃ q, q = (k + 1) * T := ⟨_, rfl⟩
    have hw1 : IntKind.i64.wrap ((k + 1) * T) = q := by rw [← hq]; exact IntWalk.i64_in _ (by omega)
    have hw1' : wrap64 ((k + 1) * T) = q := by rw [← hq]; unfold wrap64; omega
    have hd0 : ¬ (d = 0) := by omega
    have q0 : 0 ≤ q + d - 1 := by omega
    have q1 : q + d - 1 ≤ 1000 := by omega
    have q2 : 0 ≤ q ∧ q ≤ 960 := by omega
    have qd : (q + d - 1).tdiv d = (q + d - 1) / d := Int.tdiv_eq_ediv_of_nonneg (by omega)
    have e2 : tm 3 B T F d k = (q + d - 1) / d := by rw [hq]; rfl
    have hz : wrap64 ((q + d - 1) / d) = (q + d - 1) / d := by
      have z0 := Int.ediv_nonneg q0 h1
      have z1 := Int.ediv_le_self d q0
      unfold wrap64; omega
    have HE := Lib.hid (show wrap64 ((q + d - 1) / d) = tm 3 B T F d k by rw [hz, e2])
    clear hz hq m0 m1 m2 m3 e2
    go_enter Tryd.func50, Tryd.ntmps50
    go_wp2
    go_ret
    exact ⟨ret_int HE.out, 0, rfl⟩

set_option maxHeartbeats 2000000 in
theorem l05Times_any (p : Nat) (K B T F d : Int) (w : World) (h : DrumAt w p K B T F) (hD : Drm K B T F) (h1 : 0 ≤ d) (h2 : d < B) :
    Calls Tryd.prog 41 #[.pointer (some ⟨p, 0, none⟩), .int .i64 d] w fun e w' => ∃ A C, e = .returned (.slice A d.toNat C) ∧ Own 2 w' w.heap.size w'.heap.size (.slice A d.toNat C) (tms K B T F d) ∧ Below w.heap.size w w' := by
  obtain ⟨n, rfl⟩ := Int.eq_ofNat_of_zero_le h1
  have hn16 : n < 16 := by have := hD.b2; omega
  have HM := Lib.hid (fun (k : Nat) (v : World) (hv : DrumAt v p K B T F) (hk : k < n) => l05Time_any p K B T F n k v hv hD h1 h2 (by omega) (by omega))
  clear hD
  go_enter Tryd.func41, Tryd.ntmps41
  go_wp2
  go_loopw [5, 6] (fun l i wr => ∃ (k : Nat) (A : Option Addr) (C : Nat), k ≤ n ∧ i = .int .i64 k ∧ l = .slice A k C ∧ Own 2 wr w.heap.size wr.heap.size (.slice A k C) (tmsN K B T F n k) ∧ Below w.heap.size w wr) (fun _ i _ => n - (intOf i).toNat)
  case atStart => exact ⟨0, _, _, Nat.zero_le _, rfl, rfl, by simpa [tmsN] using own_lit0 2 w, (Below.refl _ _).alloc (Nat.le_refl _) _⟩
  case round =>
    obtain ⟨k, A, C, hk, rfl, rfl, own, hbel⟩ := hrel
    by_cases hlt : k < n
    · go_wp2_with fail
      refine (HM.out k _ (h.below hbel) hlt).mono ?_
      rintro e w1 ⟨rfl, m, rfl⟩
      go_wp2_with (at_builtin; go_must (refine wpList_appI rfl (.tmp 13) (.tmp 18) 35 2 rfl Tryd.underlying35 info_int64 rfl ((own.drewN m).alloc _) (tmsN_len _ _ _ _ _ _) ⟨wr.heap.size, 0, none⟩ 1 (tm K B T F n k) rfl (cell_new1 (wr.drewN m) _ _) (by omega) (by simp; exact Nat.le_succ_of_le hbel.size) ?_); intro A' C' w5 own5 ht5)
      rw [← tmsN_succ] at own5
      go_roundw
      case rel => exact ⟨k + 1, A', C', by omega, by go_num, rfl, own5, ((bel_drewN hbel m).alloc (by simpa using hbel.size) _).trans (ht5.below (Nat.le_refl _) (by simp; have := hbel.size; omega))⟩
      case measure => (simp [intOf]) <;> omega
    · obtain rfl : k = n := by omega
      go_wp2
      go_ret
      exact ⟨A, C, rfl, own, hbel⟩

set_option maxHeartbeats 2000000 in
theorem l05By_any (p : Nat) (K B T F d t : Int) (w : World) (h : DrumAt w p K B T F) (hD : Drm K B T F) (h1 : 0 ≤ d) (h2 : d < B) (t1 : 0 ≤ t) (t2 : t ≤ 100000) :
    Calls Tryd.prog 39 #[.pointer (some ⟨p, 0, none⟩), .int .i64 d, .int .i64 t] w fun e w' => e = .returned (.int .i64 (byR K B T F d t)) ∧ ∃ n, w' = w.drewN n := by
  obtain ⟨n, rfl⟩ := Int.eq_ofNat_of_zero_le h1
  have hT1 : 2 ≤ T := by have := hD.b1; have := hD.t1; omega
  have hT2 := hD.t2
  have hn16 : n < 16 := by have := hD.b2; omega
  obtain ⟨q0, q1, q2, q3, q4, q5⟩ := by_quo hD h1 h2 t1 t2
  obtain ⟨x, hx⟩ : ∃ x, x = t / T * (n : Int) := ⟨_, rfl⟩
  have HB := Lib.hid (show byR K B T F n t = x + leC (t % T) (tms K B T F n) by rw [byR, hx])
  rw [← hx] at q2 q3
  have hw1 : IntKind.i64.wrap (t / T * (n : Int)) = x := by rw [← hx]; exact IntWalk.i64_in _ (by omega)
  have hw2 : wrap64 (t / T * (n : Int)) = x := by rw [← hx]; unfold wrap64; omega
  have hT0 : ¬ T = 0 := by omega
  have hmod : t.tmod T = t % T := Int.tmod_eq_emod_of_nonneg t1
  have HM := Lib.hid (fun (k : Nat) (v : World) (hv : DrumAt v p K B T F) (hk : k < n) => l05Time_any p K B T F n k v hv hD h1 h2 (by omega) (by omega))
  have H0 := Lib.hid h
  obtain ⟨c0, c1, c2, c3⟩ := h
  clear hx hD c0 c1 c3
  go_enter Tryd.func39, Tryd.ntmps39
  go_wp2
  clear hw1 hw2
  go_loopw [7, 8] (fun c i wr => ∃ k m : Nat, k ≤ n ∧ i = .int .i64 k ∧ c = .int .i64 (x + leC (t % T) (tmsN K B T F n k)) ∧ Hid (wr = w.drewN m)) (fun _ i _ => n - (intOf i).toNat)
  case atStart => exact ⟨0, 0, Nat.zero_le _, rfl, by show _ = Value.int .i64 (x + 0); rw [Int.add_zero], Lib.hid rfl⟩
  case round =>
    obtain ⟨k, m, hk, rfl, rfl, HW⟩ := hrel
    have hc := leC_bd (t % T) (tmsN K B T F n k)
    rw [tmsN_len] at hc
    replace c2 : wr.cell? ⟨p, 2, none⟩ = some (.int .i64 T) := by rw [HW.out]; exact c2
    by_cases hlt : k < n
    · have HC := Lib.hid (fun q => HM.out k (wr.drewN q) (by rw [HW.out]; exact (H0.out.drewN m).drewN q) hlt)
      by_cases hle : tm K B T F n k ≤ t % T
      · have HS := Lib.hid (leC_yes (tmsN K B T F n k) hle)
        go_wp2
        go_quiet ((go_at_call 50; exact Calls.quiet_of (HC.out _)))
        go_wp2
        go_roundw
        case rel => exact ⟨k + 1, _, by omega, by go_num, by rw [tmsN_succ, HS.out]; first | go_num | (congr 1; omega), Lib.hid (by rw [HW.out, drewN_drewN])⟩
        case measure => (simp [intOf]) <;> omega
      · have HS := Lib.hid (leC_not (tmsN K B T F n k) hle)
        go_wp2
        go_quiet ((go_at_call 50; exact Calls.quiet_of (HC.out _)))
        go_wp2
        go_roundw
        case rel => exact ⟨k + 1, _, by omega, by go_num, by rw [tmsN_succ, HS.out], Lib.hid (by rw [HW.out, drewN_drewN])⟩
        case measure => (simp [intOf]) <;> omega
    · obtain rfl : k = n := by omega
      go_wp2
      go_ret
      exact ⟨ret_int (by rw [HB.out]; rfl), m, HW.out⟩
end Go.Proofs.YtcfpfhlgcfmioaaDoor
