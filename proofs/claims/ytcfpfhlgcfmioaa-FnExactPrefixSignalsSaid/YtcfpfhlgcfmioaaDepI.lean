/-
  DepthAhead, BestGroup: the program's and the model's.
-/
import Derived.Test.YtcfpfhlgcfmioaaSigM
import Derived.Lib.MinMax
namespace Go.Proofs.Ytcfpfhlgcfmioaa
open Go.RowKit

set_option maxHeartbeats 1000000 in
theorem isWidth_any (n : Int) (w : World) : Calls Try.prog 107 #[.int .i64 n] w fun e w' => e = .returned (.bool (inB n 1 16)) ∧ w' = w := by
  cases h : inB n 1 16 with
  | true =>
    obtain ⟨h1, h2⟩ := inB_true h
    have d1 : decide (n ≥ 1) = true := decide_eq_true h1
    have d2 : decide (n ≤ 16) = true := decide_eq_true h2
    clear h
    go_enter Try.func107, Try.ntmps107
    go_wp2
    go_ret
    exact ⟨rfl, rfl⟩
  | false =>
    have hh := inB_false h
    clear h
    rcases Int.lt_or_le n 1 with h1 | h1
    · have d1 : decide (n ≥ 1) = false := decide_eq_false (by omega)
      have h1' : ¬ 1 ≤ n := by omega
      clear hh h1
      go_enter Try.func107, Try.ntmps107
      go_wp2
      go_ret
      exact ⟨rfl, rfl⟩
    · have d1 : decide (n ≥ 1) = true := decide_eq_true h1
      have d2 : decide (n ≤ 16) = false := decide_eq_false (by omega)
      have h2 : ¬ n ≤ 16 := by omega
      clear hh
      go_enter Try.func107, Try.ntmps107
      go_wp2
      go_ret
      exact ⟨rfl, rfl⟩
theorem isWidth_at {b : Bool} (n : Int) (w : World) (h : inB n 1 16 = b) : Calls Try.prog 107 #[.int .i64 n] w fun e w' => e = .returned (.bool b) ∧ w' = w := by
  subst h; exact isWidth_any n w

theorem l07Size_any (n : Int) (w : World) : Calls Try.prog 105 #[.int .i64 n] w fun e w' => e = .returned (.bool (inB n 1 16)) ∧ w' = w := by
  go_enter Try.func105, Try.ntmps105
  go_wp2_with (go_at_call 76; refine (l00In_any n 1 16 _).mono ?_; rintro e w1 ⟨rfl, hq⟩; subst w1)
  go_ret
  exact ⟨rfl, rfl⟩
theorem l07Size_at {b : Bool} (n : Int) (w : World) (h : inB n 1 16 = b) : Calls Try.prog 105 #[.int .i64 n] w fun e w' => e = .returned (.bool b) ∧ w' = w := by
  subst h; exact l07Size_any n w

/-- What a division yields. -/
theorem dep_name {w s : Int} (h1 : 1 ≤ w) (h2 : w ≤ 16) (h3 : 1 ≤ s) (h4 : s ≤ 16) : ∃ q m : Int, (w + s - 1).tdiv s = q ∧ min w s = m ∧ dep w s = 2 * m + q - 1 ∧ 0 ≤ q ∧ q ≤ 31 ∧ 1 ≤ m ∧ m ≤ 16 := by
  have := dep_bd h1 h2 h3 h4
  exact ⟨_, _, by rw [Int.tdiv_eq_ediv_of_nonneg (by omega)], rfl, rfl, this.1, this.2, by omega, by omega⟩

set_option maxHeartbeats 1000000 in
theorem l07Depth_any (n s : Int) (w : World) (h1 : 1 ≤ n) (h2 : n ≤ 16) (h3 : 1 ≤ s) (h4 : s ≤ 16) : Calls Try.prog 114 #[.int .i64 n, .int .i64 s] w fun e w' => e = .returned (.int .i64 (dep n s)) ∧ w' = w := by
  obtain ⟨q, m, hq, hm, hd, q1, q2, m1, m2⟩ := dep_name h1 h2 h3 h4
  have hd := Lib.hid hd
  have hn : ¬ s = 0 := by omega
  have hqw : wrap64 q = q := IntWalk.wrap64_in _ ⟨by omega, by omega⟩
  go_enter Try.func114, Try.ntmps114
  go_wp2_with (go_at_call 146; refine (l00Min_any n s _).mono ?_; rintro e w1 ⟨rfl, hq⟩; subst w1; rw [hm])
  go_ret
  exact ⟨ret_int (by rw [hd.out]), rfl⟩
theorem l07Depth_at {d : Int} (n s : Int) (w : World) (h1 : 1 ≤ n) (h2 : n ≤ 16) (h3 : 1 ≤ s) (h4 : s ≤ 16) (h : dep n s = d) : Calls Try.prog 114 #[.int .i64 n, .int .i64 s] w fun e w' => e = .returned (.int .i64 d) ∧ w' = w := by
  subst h; exact l07Depth_any n s w h1 h2 h3 h4

theorem depR_ok {w s : Int} (h1 : inB w 1 16 = true) (h2 : inB s 1 16 = true) : depR w s = (dep w s, 0) := by simp [depR, h1, h2]
theorem depR_bad1 {w s : Int} (h1 : inB w 1 16 = false) : depR w s = (0, 2) := by simp [depR, h1]
theorem depR_bad2 {w s : Int} (h2 : inB s 1 16 = false) : depR w s = (0, 2) := by simp [depR, h2]

set_option maxHeartbeats 1000000 in
theorem specDepthAhead (n s : Int) (w : World) (_ : I64 n) (_ : I64 s) : Calls Try.prog 60 #[.int .i64 n, .int .i64 s] w fun e w' => e = .returned (.tuple #[.int .i64 (depR n s).1, .int .i64 (depR n s).2]) ∧ Below w.heap.size w w' := by
  have HA := fun b h v => Lib.hid (l07Size_at (b := b) n v h)
  have HB := fun b h v => Lib.hid (l07Size_at (b := b) s v h)
  cases h1 : inB n 1 16 with
  | false =>
    have HR := Lib.hid (depR_bad1 (s := s) h1)
    replace HA := HA _ h1
    clear h1 HB
    go_enter Try.func60, Try.ntmps60
    go_wp2_with (go_at_call 105; refine (HA _).out.mono ?_; rintro e w1 ⟨rfl, hq⟩; subst w1)
    exact bodyPost_ret (v := .tuple #[.int .i64 0, .int .i64 2]) (by simp [results, Try.results60, go_sem]) rfl ⟨by rw [HR.out], Below.refl _ _⟩
  | true =>
    cases h2 : inB s 1 16 with
    | false =>
      have HR := Lib.hid (depR_bad2 (w := n) h2)
      replace HA := HA _ h1
      replace HB := HB _ h2
      clear h1 h2
      go_enter Try.func60, Try.ntmps60
      go_wp2_with fail
      refine (HA _).out.mono ?_
      rintro e w1 ⟨rfl, hq⟩
      subst w1
      go_wp2_with fail
      refine (HB _).out.mono ?_
      rintro e w1 ⟨rfl, hq⟩
      subst w1
      go_wp2
      exact bodyPost_ret (v := .tuple #[.int .i64 0, .int .i64 2]) (by simp [results, Try.results60, go_sem]) rfl ⟨by rw [HR.out], Below.refl _ _⟩
    | true =>
      have HR := Lib.hid (depR_ok h1 h2)
      replace HA := HA _ h1
      replace HB := HB _ h2
      obtain ⟨n1, n2⟩ := inB_true h1
      obtain ⟨s1, s2⟩ := inB_true h2
      clear h1 h2
      go_enter Try.func60, Try.ntmps60
      go_wp2_with fail
      refine (HA _).out.mono ?_
      rintro e w1 ⟨rfl, hq⟩
      subst w1
      go_wp2_with fail
      refine (HB _).out.mono ?_
      rintro e w1 ⟨rfl, hq⟩
      subst w1
      go_wp2_with (go_at_call 114; refine (l07Depth_any n s _ n1 n2 s1 s2).mono ?_; rintro e w1 ⟨rfl, hq⟩; subst w1)
      exact bodyPost_ret (v := .tuple #[.int .i64 (dep n s), .int .i64 0]) (by simp [results, Try.results60, go_sem]) rfl ⟨by rw [HR.out], Below.refl _ _⟩

set_option maxHeartbeats 1000000 in
theorem implDepthAhead (n s : Int) (w : World) (_ : I64 n) (_ : I64 s) : Calls Try.prog 61 #[.int .i64 n, .int .i64 s] w fun e w' => e = .returned (.tuple #[.int .i64 (depR n s).1, .int .i64 (depR n s).2]) ∧ Below w.heap.size w w' := by
  have HA := fun b h v => Lib.hid (isWidth_at (b := b) n v h)
  have HB := fun b h v => Lib.hid (isWidth_at (b := b) s v h)
  cases h1 : inB n 1 16 with
  | false =>
    have HR := Lib.hid (depR_bad1 (s := s) h1)
    replace HA := HA _ h1
    clear h1 HB
    go_enter Try.func61, Try.ntmps61
    go_wp2_with (go_at_call 107; refine (HA _).out.mono ?_; rintro e w1 ⟨rfl, hq⟩; subst w1)
    exact bodyPost_ret (v := .tuple #[.int .i64 0, .int .i64 2]) (by simp [results, Try.results61, go_sem]) rfl ⟨by rw [HR.out], Below.refl _ _⟩
  | true =>
    cases h2 : inB s 1 16 with
    | false =>
      have HR := Lib.hid (depR_bad2 (w := n) h2)
      replace HA := HA _ h1
      replace HB := HB _ h2
      clear h1 h2
      go_enter Try.func61, Try.ntmps61
      go_wp2_with fail
      refine (HA _).out.mono ?_
      rintro e w1 ⟨rfl, hq⟩
      subst w1
      go_wp2_with fail
      refine (HB _).out.mono ?_
      rintro e w1 ⟨rfl, hq⟩
      subst w1
      go_wp2
      exact bodyPost_ret (v := .tuple #[.int .i64 0, .int .i64 2]) (by simp [results, Try.results61, go_sem]) rfl ⟨by rw [HR.out], Below.refl _ _⟩
    | true =>
      have HR := Lib.hid (depR_ok h1 h2)
      replace HA := HA _ h1
      replace HB := HB _ h2
      obtain ⟨n1, n2⟩ := inB_true h1
      obtain ⟨s1, s2⟩ := inB_true h2
      obtain ⟨q, m, hq, hm, hd, q1, q2, m1, m2⟩ := dep_name n1 n2 s1 s2
      have hd := Lib.hid hd
      have hn : ¬ s = 0 := by omega
      have hm' : min s n = m := by omega
      have hqw : wrap64 q = q := IntWalk.wrap64_in _ ⟨by omega, by omega⟩
      clear h1 h2
      go_enter Try.func61, Try.ntmps61
      go_wp2_with fail
      refine (HA _).out.mono ?_
      rintro e w1 ⟨rfl, hq⟩
      subst w1
      go_wp2_with fail
      refine (HB _).out.mono ?_
      rintro e w1 ⟨rfl, hq⟩
      subst w1
      go_wp2
      refine bodyPost_ret (v := .tuple #[.int .i64 (m + q - 1 + m), .int .i64 0]) (by simp [results, Try.results61, go_sem]) rfl ⟨by rw [HR.out]; simp only; rw [hd.out, show m + q - 1 + m = 2 * m + q - 1 by omega], Below.refl _ _⟩
theorem implDepth_at {d : Int} (n s : Int) (w : World) (h1 : 1 ≤ n) (h2 : n ≤ 16) (h3 : 1 ≤ s) (h4 : s ≤ 16) (h : dep n s = d) : Calls Try.prog 61 #[.int .i64 n, .int .i64 s] w fun e w' => e = .returned (.tuple #[.int .i64 d, .int .i64 0]) ∧ Below w.heap.size w w' := by
  have := implDepthAhead n s w (i64_of (by omega) (by omega)) (i64_of (by omega) (by omega))
  rwa [depR_ok (inB_yes h1 h2) (inB_yes h3 h4), h] at this
theorem implDepth_bad (n s : Int) (w : World) (hn : I64 n) (hs : I64 s) (h : inB n 1 16 = false) : Calls Try.prog 61 #[.int .i64 n, .int .i64 s] w fun e w' => e = .returned (.tuple #[.int .i64 0, .int .i64 2]) ∧ Below w.heap.size w w' := by
  have := implDepthAhead n s w hn hs
  rwa [depR_bad1 h] at this

theorem bgR_ok {n : Int} (h : inB n 1 16 = true) : bgR n = (bst n 16, dep n (bst n 16), 0) := by simp [bgR, h]
theorem bgR_bad {n : Int} (h : inB n 1 16 = false) : bgR n = (0, 0, 2) := by simp [bgR, h]
theorem dep_lo {n s : Int} (h1 : 1 ≤ n) (h2 : n ≤ 16) (h3 : 1 ≤ s) (h4 : s ≤ 16) : 0 ≤ dep n s ∧ dep n s ≤ 100 := by
  obtain ⟨q, m, _, _, hd, _⟩ := dep_name h1 h2 h3 h4
  omega

set_option maxHeartbeats 4000000 in
theorem specBestGroup (n : Int) (w : World) (_ : I64 n) : Calls Try.prog 62 #[.int .i64 n] w fun e w' => e = .returned (.tuple #[.int .i64 (bgR n).1, .int .i64 (bgR n).2.1, .int .i64 (bgR n).2.2]) ∧ Below w.heap.size w w' := by
  have HA := fun b h v => Lib.hid (l07Size_at (b := b) n v h)
  cases h1 : inB n 1 16 with
  | false =>
    have HR := Lib.hid (bgR_bad h1)
    replace HA := HA _ h1
    clear h1
    go_enter Try.func62, Try.ntmps62
    go_wp2_with (go_at_call 105; refine (HA _).out.mono ?_; rintro e w1 ⟨rfl, hq⟩; subst w1)
    exact bodyPost_ret (v := .tuple #[.int .i64 0, .int .i64 0, .int .i64 2]) (by simp [results, Try.results62, go_sem]) rfl ⟨by rw [HR.out], Below.refl _ _⟩
  | true =>
    have HR := Lib.hid (bgR_ok h1)
    replace HA := HA _ h1
    obtain ⟨n1, n2⟩ := inB_true h1
    clear h1
    go_enter Try.func62, Try.ntmps62
    go_wp2_with (go_at_call 105; refine (HA _).out.mono ?_; rintro e w1 ⟨rfl, hq⟩; subst w1)
    go_loop [5, 6] (fun b i => ∃ k : Nat, 1 ≤ k ∧ k ≤ 16 ∧ i = .int .i64 ((k : Int) + 1) ∧ b = .int .i64 (bst n k)) (fun _ i => 17 - (intOf i).toNat)
    case atStart => exact ⟨1, by omega, by omega, rfl, rfl⟩
    case round =>
      obtain ⟨k, k1, k2, hi, hb⟩ := hrel
      subst hi hb
      by_cases hlt : k < 16
      · have hbb := bst_bd n k
        have hst := bst_step (w := n) (s := k) k1
        obtain ⟨b, hb⟩ : ∃ b, b = bst n k := ⟨_, rfl⟩
        rw [← hb] at hbb hst ⊢
        have b1 := hbb.1
        have b2 := hbb.2 (by omega)
        have HB := Lib.hid hb
        have hl' : ((k : Int) + 1 ≤ 16) := by omega
        have hl2 : ¬ ((16 : Int) < (k : Int) + 1) := by omega
        clear hb hbb
        obtain ⟨d1, hd1⟩ : ∃ d, dep n ((k : Int) + 1) = d := ⟨_, rfl⟩
        obtain ⟨d2, hd2⟩ : ∃ d, dep n b = d := ⟨_, rfl⟩
        rw [hd1, hd2] at hst
        have C1 := fun v => Lib.hid (l07Depth_at n ((k : Int) + 1) v n1 n2 (by omega) (by omega) hd1)
        have C2 := fun v => Lib.hid (l07Depth_at n b v n1 n2 b1 b2 hd2)
        clear hd1 hd2
        by_cases hc : d1 < d2
        · rw [if_pos hc] at hst
          have HS := Lib.hid hst
          clear hst
          go_wp2_with fail
          refine (C1 _).out.mono ?_
          rintro e w1 ⟨rfl, hq⟩
          subst w1
          go_wp2_with fail
          refine (C2 _).out.mono ?_
          rintro e w1 ⟨rfl, hq⟩
          subst w1
          go_wp2
          go_round
          case rel => exact ⟨k + 1, by omega, by omega, by go_num, by rw [HS.out]⟩
          case measure => (simp [intOf]) <;> omega
        · rw [if_neg hc] at hst
          have HS := Lib.hid hst
          clear hst
          go_wp2_with fail
          refine (C1 _).out.mono ?_
          rintro e w1 ⟨rfl, hq⟩
          subst w1
          go_wp2_with fail
          refine (C2 _).out.mono ?_
          rintro e w1 ⟨rfl, hq⟩
          subst w1
          go_wp2
          go_round
          case rel => exact ⟨k + 1, by omega, by omega, by go_num, by rw [HS.out]⟩
          case measure => (simp [intOf]) <;> omega
      · obtain rfl : k = 16 := by omega
        have hbb := bst_bd n 16
        obtain ⟨b, hb⟩ : ∃ b, b = bst n 16 := ⟨_, rfl⟩
        rw [← hb] at hbb HR ⊢
        have b1 := hbb.1
        have b2 := hbb.2 (by omega)
        clear hb hbb
        go_wp2_with (go_at_call 114; refine (l07Depth_any n b _ n1 n2 b1 b2).mono ?_; rintro e w1 ⟨rfl, hq⟩; subst w1)
        exact bodyPost_ret (v := .tuple #[.int .i64 b, .int .i64 (dep n b), .int .i64 0]) (by simp [results, Try.results62, go_sem]) rfl ⟨by rw [HR.out], Below.refl _ _⟩

set_option maxHeartbeats 4000000 in
theorem implBestGroup (n : Int) (w : World) (hn : I64 n) : Calls Try.prog 63 #[.int .i64 n] w fun e w' => e = .returned (.tuple #[.int .i64 (bgR n).1, .int .i64 (bgR n).2.1, .int .i64 (bgR n).2.2]) ∧ Below w.heap.size w w' := by
  cases h1 : inB n 1 16 with
  | false =>
    have HR := Lib.hid (bgR_bad h1)
    have HA := fun v => Lib.hid (implDepth_bad n 1 v hn (i64_of (by omega) (by omega)) h1)
    clear h1
    go_enter Try.func63, Try.ntmps63
    go_wp2_with (go_at_call 61; refine (HA _).out.mono ?_; rintro e w1 ⟨rfl, hb⟩)
    exact bodyPost_ret (v := .tuple #[.int .i64 0, .int .i64 0, .int .i64 2]) (by simp [results, Try.results63, go_sem]) rfl ⟨by rw [HR.out], hb⟩
  | true =>
    obtain ⟨n1, n2⟩ := inB_true h1
    have HR := Lib.hid (show bgR n = (bst n n.toNat, dep n (bst n n.toNat), 0) by rw [bgR_ok h1, bst_wide n1 n2])
    clear h1
    go_enter Try.func63, Try.ntmps63
    go_wp2_with (go_at_call 61; refine (implDepth_at n 1 _ n1 n2 (by omega) (by omega) rfl).mono ?_; rintro e w1 ⟨rfl, hb⟩)
    go_loopw [5, 6, 8] (fun b l i wr => ∃ k : Nat, 1 ≤ k ∧ (k : Int) ≤ n ∧ i = .int .i64 ((k : Int) + 1) ∧ b = .int .i64 (bst n k) ∧ l = .int .i64 (dep n (bst n k)) ∧ Below w.heap.size w wr) (fun _ _ i _ => (n + 1 - intOf i).toNat)
    case atStart => exact ⟨1, by omega, by omega, rfl, rfl, rfl, hb⟩
    case round =>
      obtain ⟨k, k1, k2, hi, hb', hl', hbel⟩ := hrel
      subst hi hb' hl'
      clear hb
      have hbb := bst_bd n k
      have hst := bst_step (w := n) (s := k) k1
      by_cases hlt : (k : Int) < n
      · obtain ⟨b, hb⟩ : ∃ b, b = bst n k := ⟨_, rfl⟩
        rw [← hb] at hbb hst ⊢
        have b1 := hbb.1
        have b2 := hbb.2 (by omega)
        have HB := Lib.hid hb
        have hl' : ((k : Int) + 1 ≤ n) := by omega
        clear hb hbb
        obtain ⟨d1, hd1⟩ : ∃ d, dep n ((k : Int) + 1) = d := ⟨_, rfl⟩
        obtain ⟨d2, hd2⟩ : ∃ d, dep n b = d := ⟨_, rfl⟩
        rw [hd1, hd2] at hst
        rw [hd2]
        have HD1 := Lib.hid hd1
        have HD2 := Lib.hid hd2
        have C1 := fun v => Lib.hid (implDepth_at n ((k : Int) + 1) v n1 n2 (by omega) (by omega) hd1)
        clear hd1 hd2
        by_cases hc : d1 < d2
        · rw [if_pos hc] at hst
          have HS := Lib.hid hst
          clear hst
          go_wp2_with fail
          refine (C1 _).out.mono ?_
          rintro e w2 ⟨rfl, hb2⟩
          go_wp2
          go_roundw
          case rel => exact ⟨k + 1, by omega, by omega, by go_num, by rw [HS.out], by rw [HS.out, HD1.out], hbel.trans (hb2.mono hbel.size)⟩
          case measure => (simp [intOf]) <;> omega
        · rw [if_neg hc] at hst
          have HS := Lib.hid hst
          clear hst
          go_wp2_with fail
          refine (C1 _).out.mono ?_
          rintro e w2 ⟨rfl, hb2⟩
          go_wp2
          go_roundw
          case rel => exact ⟨k + 1, by omega, by omega, by go_num, by rw [HS.out], by rw [HS.out, HD2.out], hbel.trans (hb2.mono hbel.size)⟩
          case measure => (simp [intOf]) <;> omega
      · have hk : n.toNat = k := by omega
        rw [hk] at HR
        have hl' : ¬ ((k : Int) + 1 ≤ n) := by omega
        have hl2 : n < (k : Int) + 1 := by omega
        clear hst hbb
        obtain ⟨b, hb⟩ : ∃ b, b = bst n k := ⟨_, rfl⟩
        obtain ⟨d, hd⟩ : ∃ d, d = dep n b := ⟨_, rfl⟩
        rw [← hb, ← hd] at HR ⊢
        clear hb hd
        go_wp2
        exact bodyPost_ret (v := .tuple #[.int .i64 b, .int .i64 d, .int .i64 0]) (by simp [results, Try.results63, go_sem]) rfl ⟨by rw [HR.out], hbel⟩
end Go.Proofs.Ytcfpfhlgcfmioaa
