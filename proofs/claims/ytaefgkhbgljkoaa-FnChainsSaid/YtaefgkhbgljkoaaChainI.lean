/-
  impl.ValidChain.
-/
import Derived.Test.YtaefgkhbgljkoaaOwn2
import Derived.Test.YtaefgkhbgljkoaaWithin
namespace Go.Proofs.Ytaefgkhbgljkoaa
open Go.RowKit

theorem absoluteG_any (n : Int) (w : World) (h1 : -9000000000000000000 ≤ n) (h2 : n ≤ 9000000000000000000) : Calls Try.prog 100 #[.int .i64 n] w fun e w' => e = .returned (.int .i64 (max n (-n))) ∧ w' = w := by
  by_cases h : n < -n
  · have H := Lib.hid (show max n (-n) = -n by omega)
    go_enter Try.func100, Try.ntmps100
    go_wp2
    go_ret
    exact ⟨ret_int H.out.symm, rfl⟩
  · have H := Lib.hid (show max n (-n) = n by omega)
    go_enter Try.func100, Try.ntmps100
    go_wp2
    go_ret
    exact ⟨ret_int H.out.symm, rfl⟩

theorem joinedAt_true {pl ps : List Int} {k : Nat} (h : joinedAt pl ps k = true) : max (nth ps (k + 1) - nth ps k) (-(nth ps (k + 1) - nth ps k)) ≤ nth pl k := by simp [joinedAt] at h; omega
theorem joinedAt_false {pl ps : List Int} {k : Nat} (h : joinedAt pl ps k = false) : nth pl k < max (nth ps (k + 1) - nth ps k) (-(nth ps (k + 1) - nth ps k)) := by simp [joinedAt] at h; omega

set_option maxHeartbeats 2000000 in
theorem areJoined_any (a : Option Addr) (c : Nat) (p : List Int) (b : Option Addr) (d : Nat) (q : List Int) (w : World) (h : Rd2 w a p b q) (hl : q.length = p.length + 1) (hq : rangeB (-1000000) 1000000 q = true) :
    Calls Try.prog 84 #[.agg #[.slice a p.length c, .slice b q.length d]] w fun e w' => e = .returned (.bool (joinedTo p q p.length)) ∧ Below w.heap.size w w' := by
  have hx := h.len
  obtain ⟨u, hu⟩ : ∃ u, u = w.alloc (.cells #[.slice a p.length c, .slice b q.length d] 41) := ⟨_, rfl⟩
  have bx : Bx u w.heap.size 41 #[.slice a p.length c, .slice b q.length d] := by rw [hu]; exact Bx.new _ _ _
  have hbel : Below w.heap.size w u := by rw [hu]; exact (by repeat (first | exact Below.refl _ _ | refine Below.setCell ?_ (by first | omega | (simp <;> omega)) _ | refine Below.alloc ?_ (by first | omega | (simp <;> omega)) _ | refine Below.drew ?_))
  have hr := h.below hbel
  have HQ := Lib.hid hq
  have HL := Lib.hid hl
  have HU := Lib.hid hu
  clear hu hq hl
  go_enter Try.func84, Try.ntmps84
  go_wp2
  rw [← HU.out]
  go_loopw [3, 4, 8] (fun _ _ i wr => ∃ k m : Nat, k ≤ p.length ∧ i = .int .i64 k ∧ Hid (wr = u.drewN m) ∧ Hid (∀ j, j < k → joinedAt p q j = true)) (fun _ _ i _ => p.length - (intOf i).toNat)
  case atStart => exact ⟨0, 0, Nat.zero_le _, rfl, Lib.hid rfl, Lib.hid (fun j hj => absurd hj (Nat.not_lt_zero j))⟩
  case round =>
    obtain ⟨k, m, hk, rfl, HW, HT⟩ := hrel
    have hb : Below u.heap.size u wr := by rw [HW.out]; exact bel_drewN (Below.refl _ _) m
    by_cases hlt : k < p.length
    · obtain ⟨b1, o1, rfl, hc1⟩ := (hr.p.below hb).at_ hlt
      have hq1 : k < q.length := by have := HL.out; omega
      have hq2 : k + 1 < q.length := by have := HL.out; omega
      obtain ⟨b2, o2, rfl, hc2⟩ := (hr.q.below hb).at_ hq1
      obtain ⟨b2', o2', e2, hc3⟩ := (hr.q.below hb).at_ hq2
      injection e2 with e2
      injection e2 with e3 e4 _
      subst e3 e4
      have c1 := (bx.below hb).at_ 1 rfl
      have r1 := rangeB_at HQ.out hq1
      have r2 := rangeB_at HQ.out hq2
      have hw1 : IntKind.i64.wrap (nth q (k + 1) - nth q k) = nth q (k + 1) - nth q k := IntWalk.i64_in _ (by omega)
      have HA := Lib.hid (fun v => absoluteG_any (nth q (k + 1) - nth q k) v (by omega) (by omega))
      cases hj : joinedAt p q k with
      | true =>
        have HT' := Lib.hid (show ∀ j, j < k + 1 → joinedAt p q j = true from fun j hjk => by
          rcases Nat.lt_or_ge j k with h1 | h1
          · exact HT.out j h1
          · obtain rfl : j = k := by omega
            exact hj)
        have hle := joinedAt_true hj
        have hd : decide (max (nth q (k + 1) - nth q k) (-(nth q (k + 1) - nth q k)) > nth p k) = false := decide_eq_false (by omega)
        clear hj hle r1 r2
        go_wp2
        go_quiet ((go_at_call 100; exact Calls.quiet_of_same (HA.out _)))
        go_wp2
        go_roundw
        case rel => exact ⟨k + 1, _, by omega, by go_num, Lib.hid (by rw [HW.out, drewN_drewN]), HT'⟩
        case measure => (simp [intOf]) <;> omega
      | false =>
        have HF := Lib.hid (joinedTo_bad hlt hj)
        have hle := joinedAt_false hj
        clear hj r1 r2
        go_wp2
        go_quiet ((go_at_call 100; exact Calls.quiet_of_same (HA.out _)))
        go_wp2
        go_ret
        exact ⟨ret_bool HF.out.symm, hbel.trans ((bel_drewN hb _).mono hbel.size)⟩
    · obtain rfl : k = p.length := by omega
      have HF := Lib.hid (joinedTo_all.2 HT.out)
      go_wp2
      go_ret
      exact ⟨ret_bool HF.out.symm, hbel.trans (hb.mono hbel.size)⟩

set_option maxHeartbeats 4000000 in
theorem implValidChain (a : Option Addr) (c : Nat) (p : List Int) (b : Option Addr) (d : Nat) (q : List Int) (w : World) (h : Rd2 w a p b q) (_ : All64 p ∧ All64 q) :
    Calls Try.prog 49 #[.agg #[.slice a p.length c, .slice b q.length d]] w fun e w' => e = .returned (.bool (chainB p q)) ∧ Below w.heap.size w w' := by
  have hx := h.len
  obtain ⟨u, hu⟩ : ∃ u, u = w.alloc (.cells #[.slice a p.length c, .slice b q.length d] 41) := ⟨_, rfl⟩
  have bx : Bx u w.heap.size 41 #[.slice a p.length c, .slice b q.length d] := by rw [hu]; exact Bx.new _ _ _
  have hbel : Below w.heap.size w u := by rw [hu]; exact (by repeat (first | exact Below.refl _ _ | refine Below.setCell ?_ (by first | omega | (simp <;> omega)) _ | refine Below.alloc ?_ (by first | omega | (simp <;> omega)) _ | refine Below.drew ?_))
  have hr := h.below hbel
  have HU := Lib.hid hu
  clear hu
  have hsz := hbel.size
  have hlt := bx.lt
  have c0 : u.cell? ⟨w.heap.size, 0, none⟩ = some (.slice a p.length c) := bx.at_ 0 rfl
  have c1 : u.cell? ⟨w.heap.size, 1, none⟩ = some (.slice b q.length d) := bx.at_ 1 rfl
  have HP := Lib.hid (fun v hv => within_any 0 100 a c p v (hr.p.below hv))
  have HQ := Lib.hid (fun v hv => within_any (-1000000) 1000000 b d q v (hr.q.below hv))
  cases hn : inB (p.length : Int) 1 10 with
  | false =>
    have HF := Lib.hid (show chainB p q = false by
      rw [chainB, show linksB p q = false by rw [linksB, decide_eq_false]; have := inB_false hn; omega, Bool.false_and])
    have HN := Lib.hid hn
    clear hn
    go_enter Try.func49, Try.ntmps49
    go_wp2_with (go_at_call 76; refine (withinN1_at _ _ (p.length : Int) _ _ _ (by go_simp)).mono ?_; rintro e w1 ⟨rfl, hq⟩; subst w1; rw [HN.out, ← HU.out])
    go_ret
    exact ⟨ret_bool HF.out.symm, (by repeat (first | exact hbel | refine Below.setCell ?_ (by first | omega | (simp <;> omega)) _ | refine Below.alloc ?_ (by first | omega | (simp <;> omega)) _ | refine Below.drew ?_))⟩
  | true =>
    have HN := Lib.hid hn
    obtain ⟨n0, n1⟩ := inB_true hn
    clear hn
    have hw1 : IntKind.i64.wrap ((p.length : Int) + 1) = (p.length : Int) + 1 := IntWalk.i64_in _ (by omega)
    by_cases hl : q.length = p.length + 1
    · have HL := Lib.hid hl
      have hne : ((q.length : Int) != (p.length : Int) + 1) = false := by simp; omega
      have HK := Lib.hid (show linksB p q = true by rw [linksB, decide_eq_true]; omega)
      clear hl
      cases hp : rangeB 0 100 p with
      | false =>
        have HF := Lib.hid (show chainB p q = false by rw [chainB, hp, Bool.false_and, Bool.and_false])
        rw [hp] at HP
        clear hp
        go_enter Try.func49, Try.ntmps49
        go_wp2_with (first | (go_at_call 76; refine (withinN1_at _ _ (p.length : Int) _ _ _ (by go_simp)).mono ?_; rintro e w1 ⟨rfl, hq⟩; subst w1; rw [HN.out, ← HU.out]) | (go_at_call 67; refine (HP.out _ (by repeat (first | exact Below.refl _ _ | refine Below.setCell ?_ (by first | omega | (simp <;> omega)) _ | refine Below.alloc ?_ (by first | omega | (simp <;> omega)) _ | refine Below.drew ?_))).mono ?_; rintro e w2 ⟨rfl, hq⟩; subst w2))
        go_ret
        exact ⟨ret_bool HF.out.symm, (by repeat (first | exact hbel | refine Below.setCell ?_ (by first | omega | (simp <;> omega)) _ | refine Below.alloc ?_ (by first | omega | (simp <;> omega)) _ | refine Below.drew ?_))⟩
      | true =>
        rw [hp] at HP
        cases hq : rangeB (-1000000) 1000000 q with
        | false =>
          have HF := Lib.hid (show chainB p q = false by rw [chainB, hq, Bool.false_and, Bool.and_false, Bool.and_false])
          rw [hq] at HQ
          clear hp hq
          go_enter Try.func49, Try.ntmps49
          go_wp2_with (first | (go_at_call 76; refine (withinN1_at _ _ (p.length : Int) _ _ _ (by go_simp)).mono ?_; rintro e w1 ⟨rfl, hq⟩; subst w1; rw [HN.out, ← HU.out]) | (go_at_call 67; with_reducible refine (HP.out _ (by repeat (first | exact Below.refl _ _ | refine Below.setCell ?_ (by first | omega | (simp <;> omega)) _ | refine Below.alloc ?_ (by first | omega | (simp <;> omega)) _ | refine Below.drew ?_))).mono ?_; rintro e w2 ⟨rfl, hq⟩; subst w2) | (go_at_call 67; with_reducible refine (HQ.out _ (by repeat (first | exact Below.refl _ _ | refine Below.setCell ?_ (by first | omega | (simp <;> omega)) _ | refine Below.alloc ?_ (by first | omega | (simp <;> omega)) _ | refine Below.drew ?_))).mono ?_; rintro e w2 ⟨rfl, hq⟩; subst w2))
          go_ret
          exact ⟨ret_bool HF.out.symm, (by repeat (first | exact hbel | refine Below.setCell ?_ (by first | omega | (simp <;> omega)) _ | refine Below.alloc ?_ (by first | omega | (simp <;> omega)) _ | refine Below.drew ?_))⟩
        | true =>
          have HF := Lib.hid (show chainB p q = joinedTo p q p.length by rw [chainB, HK.out, hp, hq]; rfl)
          have HJ := Lib.hid (fun v (hv : Below u.heap.size u v) => areJoined_any a c p b d q v (hr.below hv) HL.out hq)
          rw [hq] at HQ
          clear hp hq
          go_enter Try.func49, Try.ntmps49
          go_wp2_with (first | (go_at_call 76; refine (withinN1_at _ _ (p.length : Int) _ _ _ (by go_simp)).mono ?_; rintro e w1 ⟨rfl, hq⟩; subst w1; rw [HN.out, ← HU.out]) | (go_at_call 67; with_reducible refine (HP.out _ (by repeat (first | exact Below.refl _ _ | refine Below.setCell ?_ (by first | omega | (simp <;> omega)) _ | refine Below.alloc ?_ (by first | omega | (simp <;> omega)) _ | refine Below.drew ?_))).mono ?_; rintro e w2 ⟨rfl, hq⟩; subst w2) | (go_at_call 67; with_reducible refine (HQ.out _ (by repeat (first | exact Below.refl _ _ | refine Below.setCell ?_ (by first | omega | (simp <;> omega)) _ | refine Below.alloc ?_ (by first | omega | (simp <;> omega)) _ | refine Below.drew ?_))).mono ?_; rintro e w2 ⟨rfl, hq⟩; subst w2) | (go_at_call 84; refine (HJ.out _ (by repeat (first | exact Below.refl _ _ | refine Below.setCell ?_ (by first | omega | (simp <;> omega)) _ | refine Below.alloc ?_ (by first | omega | (simp <;> omega)) _ | refine Below.drew ?_))).mono ?_; rintro e w3 ⟨rfl, hb3⟩; have hb4 : Below w.heap.size w w3 := hbel.trans ((Below.refl u.heap.size u).alloc (Nat.le_refl _) _ |>.trans (hb3.mono (by simp)) |>.mono hsz)))
          go_ret
          exact ⟨ret_bool HF.out.symm, hb4⟩
    · have hne : ((q.length : Int) != (p.length : Int) + 1) = true := by simp; omega
      have HF := Lib.hid (show chainB p q = false by
        rw [chainB, show linksB p q = false by rw [linksB, decide_eq_false]; omega, Bool.false_and])
      clear hl
      go_enter Try.func49, Try.ntmps49
      go_wp2_with (go_at_call 76; refine (withinN1_at _ _ (p.length : Int) _ _ _ (by go_simp)).mono ?_; rintro e w1 ⟨rfl, hq⟩; subst w1; rw [HN.out, ← HU.out])
      go_ret
      exact ⟨ret_bool HF.out.symm, (by repeat (first | exact hbel | refine Below.setCell ?_ (by first | omega | (simp <;> omega)) _ | refine Below.alloc ?_ (by first | omega | (simp <;> omega)) _ | refine Below.drew ?_))⟩

theorem implValidChain_at (a : Option Addr) (c : Nat) (p : List Int) (b : Option Addr) (d : Nat) (q : List Int) (w : World) {x : Bool} (hx : chainB p q = x) (h : Rd2 w a p b q) (hz : All64 p ∧ All64 q) :
    Calls Try.prog 49 #[.agg #[.slice a p.length c, .slice b q.length d]] w fun e w' => e = .returned (.bool x) ∧ Below w.heap.size w w' := by
  subst hx; exact implValidChain a c p b d q w h hz
end Go.Proofs.Ytaefgkhbgljkoaa
