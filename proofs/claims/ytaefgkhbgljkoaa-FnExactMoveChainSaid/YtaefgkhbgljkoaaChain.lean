/-
  laws.toChain, szChain, eqChain, markChain, heldChain.
-/
import Derived.Test.YtaefgkhbgljkoaaOwn2
import Derived.Test.YtaefgkhbgljkoaaEqI
import Derived.Test.YtaefgkhbgljkoaaToI
import Derived.Test.YtaefgkhbgljkoaaMarkI
import Derived.Test.YtaefgkhbgljkoaaGear
namespace Go.Proofs.Ytaefgkhbgljkoaa
open Go.RowKit

set_option maxHeartbeats 1000000 in
theorem toChain_any (a : Option Addr) (c : Nat) (p : List Int) (b : Option Addr) (d : Nat) (q : List Int) (w : World) (h : Rd2 w a p b q) :
    Calls Try.prog 48 #[.agg #[.slice a p.length c, .slice b q.length d]] w fun e w' => ∃ A C D E, e = .returned (.agg #[.slice A p.length C, .slice D q.length E]) ∧
      Own2 2 w' w.heap.size w'.heap.size (.slice A p.length C) p (.slice D q.length E) q ∧ Below w.heap.size w w' := by
  obtain ⟨u, hu⟩ : ∃ u, u = ((w.alloc (.cells #[.slice a p.length c, .slice b q.length d] 60)).alloc (.cells #[.slice none 0 0, .slice none 0 0] 41)).alloc (.cells #[.slice none 0 0, .slice none 0 0] 41) := ⟨_, rfl⟩
  have hb0 : Below w.heap.size w u := by rw [hu]; exact (by repeat (first | exact Below.refl _ _ | refine Below.setCell ?_ (by first | omega | (simp <;> omega)) _ | refine Below.alloc ?_ (by first | omega | (simp <;> omega)) _ | refine Below.drew ?_))
  have HU := Lib.hid hu
  have b0 : Bx u w.heap.size 60 #[.slice a p.length c, .slice b q.length d] := by rw [hu]; exact ((Bx.new _ _ _).alloc _).alloc _
  have b1 : Bx u (w.heap.size + 1) 41 #[.slice none 0 0, .slice none 0 0] := by
    rw [hu]; simpa using (Bx.new (w.alloc (.cells #[.slice a p.length c, .slice b q.length d] 60)) #[.slice none 0 0, .slice none 0 0] 41).alloc (.cells #[.slice none 0 0, .slice none 0 0] 41)
  have b2 : Bx u (w.heap.size + 1 + 1) 41 #[.slice none 0 0, .slice none 0 0] := by
    rw [hu]; simpa using Bx.new ((w.alloc (.cells #[.slice a p.length c, .slice b q.length d] 60)).alloc (.cells #[.slice none 0 0, .slice none 0 0] 41)) #[.slice none 0 0, .slice none 0 0] 41
  have hz : u.heap.size = w.heap.size + 1 + 1 + 1 := by rw [hu]; simp
  clear hu
  go_enter Try.func48, Try.ntmps48
  go_wp2_with fail
  rw [← HU.out]
  refine (toInt64S_any a c p u (h.p.below hb0)).mono ?_
  rintro e w1 ⟨A, C, rfl, o1, hb1⟩
  replace b0 := b0.below hb1
  replace b1 := b1.below hb1
  replace b2 := b2.below hb1
  have hs1 := hb1.size
  have hq := (h.q.below hb0).below hb1
  have hb2 := hb0.trans (hb1.mono hb0.size)
  have e1 := b0.at_ 1 rfl
  have g0 := b2.at_ 0 rfl
  have g0f := b2.thaw 0
  go_wp2_with fail
  obtain ⟨V, hV⟩ : ∃ V, V = w1.setCell ⟨w.heap.size + 1 + 1, 0, none⟩ (.slice A p.length C) := ⟨_, rfl⟩
  rw [← hV]
  have hbV : Below u.heap.size w1 V ∨ True := .inr trivial
  have o1V : Own 2 V u.heap.size w1.heap.size (.slice A p.length C) p := by rw [hV]; exact o1.setCell (.inl (by simp; omega)) _
  have b1V : Bx V (w.heap.size + 1) 41 #[.slice none 0 0, .slice none 0 0] := by rw [hV]; exact b1.far (by simp) _
  have b2V : Bx V (w.heap.size + 1 + 1) 41 #[.slice A p.length C, .slice none 0 0] := by rw [hV]; exact b2.set_ 0 _
  have hbW : Below w.heap.size w V := by rw [hV]; exact (by repeat (first | exact hb2 | refine Below.setCell ?_ (by first | omega | (simp <;> omega)) _ | refine Below.alloc ?_ (by first | omega | (simp <;> omega)) _ | refine Below.drew ?_))
  have hqV : Rd V b q := h.q.below hbW
  have hzV : V.heap.size = w1.heap.size := by rw [hV]; simp
  clear hV hbV
  refine (toInt64S_any b d q V hqV).mono ?_
  rintro e w2 ⟨D, E, rfl, o2, hb3⟩
  have o1W := o1V.below hb3
  have b1W := b1V.below hb3
  have b2W := b2V.below hb3
  have hs3 := hb3.size
  have hb4 := hbW.trans (hb3.mono hbW.size)
  have k0 := b2W.at_ 0 rfl
  have k1 := b2W.at_ 1 rfl
  have k1f := b2W.thaw 1
  have j0 := b1W.at_ 0 rfl
  have j1 := b1W.at_ 1 rfl
  have j0f := b1W.thaw 0
  have j1f := b1W.thaw 1
  have bz := ((b1W.far (p := ⟨w.heap.size + 1 + 1, 1, none⟩) (by simp) (.slice D q.length E)).set_ 0 (.slice A p.length C)).set_ 1 (.slice D q.length E)
  have r0 := bz.at_ 0 rfl
  have r1 := bz.at_ 1 rfl
  go_wp2
  exact bodyPost_ret (v := .agg #[.slice A p.length C, .slice D q.length E]) (by simp [results, Try.results48, go_sem, r0, r1]) rfl
    ⟨A, C, D, E, rfl, ⟨u.heap.size, w1.heap.size, V.heap.size, w2.heap.size, ((o1W.setCell (.inl (by simp; omega)) _).setCell (.inl (by simp; omega)) _).setCell (.inl (by simp; omega)) _, ((o2.setCell (.inl (by simp; omega)) _).setCell (.inl (by simp; omega)) _).setCell (.inl (by simp; omega)) _, by omega, by simp; omega, by omega, by simp, by omega⟩, (by repeat (first | exact hb4 | refine Below.setCell ?_ (by first | omega | (simp <;> omega)) _ | refine Below.alloc ?_ (by first | omega | (simp <;> omega)) _ | refine Below.drew ?_))⟩

set_option maxHeartbeats 400000 in
theorem szChain_any (a : Option Addr) (n c : Nat) (b : Option Addr) (m d : Nat) (left : Int) (w : World) (hn : n ≤ 9223372036854775807 ∧ m ≤ 9223372036854775807) (hl : 0 ≤ left) (hl' : left ≤ 1048576) :
    Calls Try.prog 47 #[.agg #[.slice a n c, .slice b m d], .int .i64 left] w fun e w' => e = .returned (.int .i64 (leftOf (n + m) left)) ∧ Below w.heap.size w w' := by
  have hbel : Below w.heap.size w (w.alloc (.cells #[.slice a n c, .slice b m d] 60)) := (by repeat (first | exact Below.refl _ _ | refine Below.setCell ?_ (by first | omega | (simp <;> omega)) _ | refine Below.alloc ?_ (by first | omega | (simp <;> omega)) _ | refine Below.drew ?_))
  rcases Int.lt_or_le (left - (n : Int)) 0 with h | h
  · have HN := Lib.hid (szInt64S_any a n c left (w.alloc (.cells #[.slice a n c, .slice b m d] 60)) hn.1 hl hl')
    rw [show leftOf n left = -1 by rw [leftOf, if_pos h]] at HN
    have HE := Lib.hid (show leftOf (n + m) left = -1 by rw [leftOf, if_pos (by omega)])
    go_enter Try.func47, Try.ntmps47
    go_wp2_with (go_at_call 82; with_reducible refine HN.out.mono ?_; rintro e w1 ⟨rfl, hq⟩; subst w1)
    go_ret
    exact ⟨ret_int HE.out.symm, hbel⟩
  · have HN := Lib.hid (szInt64S_any a n c left (w.alloc (.cells #[.slice a n c, .slice b m d] 60)) hn.1 hl hl')
    rw [show leftOf n left = left - n by rw [leftOf, if_neg (by omega)]] at HN
    have HM := Lib.hid (szInt64S_any b m d (left - n) (w.alloc (.cells #[.slice a n c, .slice b m d] 60)) hn.2 h (by omega))
    rcases Int.lt_or_le (left - (n : Int) - (m : Int)) 0 with h2 | h2
    · rw [show leftOf m (left - n) = -1 by rw [leftOf, if_pos h2]] at HM
      have HE := Lib.hid (show leftOf (n + m) left = -1 by rw [leftOf, if_pos (by omega)])
      go_enter Try.func47, Try.ntmps47
      go_wp2_with (go_at_call 82; first | (with_reducible refine HN.out.mono ?_; rintro e w1 ⟨rfl, hq⟩; subst w1) | (with_reducible refine HM.out.mono ?_; rintro e w1 ⟨rfl, hq⟩; subst w1))
      go_ret
      exact ⟨ret_int HE.out.symm, hbel⟩
    · rw [show leftOf m (left - n) = left - n - m by rw [leftOf, if_neg (by omega)]] at HM
      have HE := Lib.hid (show leftOf (n + m) left = left - n - m by rw [leftOf, if_neg (by omega)]; omega)
      go_enter Try.func47, Try.ntmps47
      go_wp2_with (go_at_call 82; first | (with_reducible refine HN.out.mono ?_; rintro e w1 ⟨rfl, hq⟩; subst w1) | (with_reducible refine HM.out.mono ?_; rintro e w1 ⟨rfl, hq⟩; subst w1))
      go_ret
      exact ⟨ret_int HE.out.symm, hbel⟩

set_option maxHeartbeats 1000000 in
theorem eqChain_any (a : Option Addr) (c : Nat) (b : Option Addr) (d : Nat) (a' : Option Addr) (c' : Nat) (b' : Option Addr) (d' : Nat) (p p' q q' : List Int) (w : World) (h : Rd2 w a p b q) (h' : Rd2 w a' p' b' q') :
    Calls Try.prog 50 #[.agg #[.slice a p.length c, .slice b q.length d], .agg #[.slice a' p'.length c', .slice b' q'.length d']] w fun e w' => e = .returned (.bool (chEqB p p' q q')) ∧ Below w.heap.size w w' := by
  have hbel : Below w.heap.size w ((w.alloc (.cells #[.slice a p.length c, .slice b q.length d] 41)).alloc (.cells #[.slice a' p'.length c', .slice b' q'.length d'] 41)) := (by repeat (first | exact Below.refl _ _ | refine Below.setCell ?_ (by first | omega | (simp <;> omega)) _ | refine Below.alloc ?_ (by first | omega | (simp <;> omega)) _ | refine Below.drew ?_))
  have HP := Lib.hid (eqInt64S_any a a' c c' p p' ((w.alloc (.cells #[.slice a p.length c, .slice b q.length d] 41)).alloc (.cells #[.slice a' p'.length c', .slice b' q'.length d'] 41)) (h.p.below hbel) (h'.p.below hbel))
  have HQ := Lib.hid (fun n => eqInt64S_any b b' d d' q q' (((w.alloc (.cells #[.slice a p.length c, .slice b q.length d] 41)).alloc (.cells #[.slice a' p'.length c', .slice b' q'.length d'] 41)).drewN n) ((h.q.below hbel).drewN n) ((h'.q.below hbel).drewN n))
  by_cases h1 : p = p'
  · rw [decide_eq_true h1] at HP
    by_cases h2 : q = q'
    · rw [decide_eq_true h2] at HQ
      have HE := Lib.hid (show chEqB p p' q q' = true by simp [chEqB, h1, h2])
      clear h1 h2
      go_enter Try.func50, Try.ntmps50
      go_wp2_with (go_at_call 85; first | (with_reducible refine HP.out.mono ?_; rintro e w1 ⟨rfl, n, rfl⟩) | (with_reducible refine (HQ.out _).mono ?_; rintro e w1 ⟨rfl, n2, rfl⟩; rw [drewN_drewN]))
      go_ret
      exact ⟨ret_bool HE.out.symm, bel_drewN hbel _⟩
    · rw [decide_eq_false h2] at HQ
      have HE := Lib.hid (show chEqB p p' q q' = false by simp [chEqB, h2])
      clear h1 h2
      go_enter Try.func50, Try.ntmps50
      go_wp2_with (go_at_call 85; first | (with_reducible refine HP.out.mono ?_; rintro e w1 ⟨rfl, n, rfl⟩) | (with_reducible refine (HQ.out _).mono ?_; rintro e w1 ⟨rfl, n2, rfl⟩; rw [drewN_drewN]))
      go_ret
      exact ⟨ret_bool HE.out.symm, bel_drewN hbel _⟩
  · rw [decide_eq_false h1] at HP
    have HE := Lib.hid (show chEqB p p' q q' = false by simp [chEqB, h1])
    clear h1
    go_enter Try.func50, Try.ntmps50
    go_wp2_with (go_at_call 85; refine HP.out.mono ?_; rintro e w1 ⟨rfl, n, rfl⟩)
    go_ret
    exact ⟨ret_bool HE.out.symm, bel_drewN hbel _⟩

set_option maxHeartbeats 400000 in
theorem markChain_any (t : TypeId) (lo hi : Nat) (A : Option Addr) (C : Nat) (D : Option Addr) (E : Nat) (k : Int) (p q : List Int) (w : World) (ho : Own2 t w lo hi (.slice A p.length C) p (.slice D q.length E) q) (h0 : 0 ≤ k) (h1 : k ≤ 900000000000) :
    Calls Try.prog 53 #[.agg #[.slice A p.length C, .slice D q.length E], .int .i64 k] w fun e w' => e = .returned (.int .i64 (k + ((p.length : Int) + (q.length : Int)))) ∧
      Own2 t w' lo hi (.slice A p.length C) (seqI k p.length) (.slice D q.length E) (seqI (k + p.length) q.length) ∧ Touch lo hi w w' := by
  obtain ⟨l1, u1, l2, u2, o1, o2, s1, s2, s3, s4, s5⟩ := ho.ex
  replace o1 := o1.tight
  replace o2 := o2.tight
  obtain ⟨v1, hv1⟩ : ∃ v, v = min u1 w.heap.size := ⟨_, rfl⟩
  obtain ⟨v2, hv2⟩ : ∃ v, v = min u2 w.heap.size := ⟨_, rfl⟩
  rw [← hv1] at o1
  rw [← hv2] at o2
  have s2' : v1 ≤ hi := by omega
  have s4' : v2 ≤ hi := by omega
  have s5' : v1 ≤ l2 ∨ v2 ≤ l1 := by omega
  have t1 : v1 ≤ w.heap.size := by omega
  have e1 := o1.len
  have e2 := o2.len
  clear hv1 hv2 s2 s4 s5
  obtain ⟨u, hu⟩ : ∃ u, u = w.alloc (.cells #[.slice A p.length C, .slice D q.length E] 41) := ⟨_, rfl⟩
  have bx : Bx u w.heap.size 41 #[.slice A p.length C, .slice D q.length E] := by rw [hu]; exact Bx.new _ _ _
  have p1 : Own t u l1 v1 (.slice A p.length C) p := by rw [hu]; exact o1.alloc _
  have p2 : Own t u l2 v2 (.slice D q.length E) q := by rw [hu]; exact o2.alloc _
  have ht0 : Touch lo hi w u := by rw [hu]; exact (Touch.refl _ _ _).alloc _
  have HU := Lib.hid hu
  clear hu
  go_enter Try.func53, Try.ntmps53
  go_wp2_with fail
  rw [← HU.out]
  refine (markInt64S_any t l1 v1 A C k p u p1 h0 (by omega)).mono ?_
  rintro e w1 ⟨rfl, p1', ht1⟩
  have ht2 : Touch lo hi w w1 := ht0.trans (ht1.widen s1 s2')
  have p2' := p2.touch ht1 (by omega)
  have c1 := (bx.touch ht1 (.inr t1)).at_ 1 rfl
  clear ht0 ht1 bx
  go_wp2_with fail
  refine (markInt64S_any t l2 v2 D E (k + (p.length : Int)) q w1 p2' (by omega) (by omega)).mono ?_
  rintro e w2 ⟨rfl, p2'', ht3⟩
  have p1'' := p1'.touch ht3 (by omega)
  have ht4 := ht2.trans (ht3.widen s3 s4')
  go_wp2
  go_ret
  exact ⟨ret_int (by omega), ⟨l1, v1, l2, v2, p1'', p2'', s1, s2', s3, s4', s5'⟩, ht4⟩

set_option maxHeartbeats 400000 in
theorem heldChain_any (A : Option Addr) (C : Nat) (D : Option Addr) (E : Nat) (k : Int) (n m : Nat) (w : World) (ha : Rd2 w A (seqI k n) D (seqI (k + n) m)) (h0 : 0 ≤ k) (h1 : k ≤ 900000000000) :
    Calls Try.prog 54 #[.agg #[.slice A n C, .slice D m E], .int .i64 k] w fun e w' => e = .returned (.int .i64 (k + ((n : Int) + (m : Int)))) ∧ Below w.heap.size w w' := by
  have hl := ha.len
  rw [seqI_len, seqI_len] at hl
  have hbel : Below w.heap.size w (w.alloc (.cells #[.slice A n C, .slice D m E] 41)) := (by repeat (first | exact Below.refl _ _ | refine Below.setCell ?_ (by first | omega | (simp <;> omega)) _ | refine Below.alloc ?_ (by first | omega | (simp <;> omega)) _ | refine Below.drew ?_))
  have HP := Lib.hid (heldInt64S_any A C k n _ (ha.p.below hbel) h0 (by omega))
  have HQ := Lib.hid (heldInt64S_any D E (k + n) m _ (ha.q.below hbel) (by omega) (by omega))
  go_enter Try.func54, Try.ntmps54
  go_wp2_with (go_at_call 92; first | (with_reducible refine HP.out.mono ?_; rintro e w1 ⟨rfl, hq⟩; subst w1) | (with_reducible refine HQ.out.mono ?_; rintro e w1 ⟨rfl, hq⟩; subst w1))
  go_ret
  exact ⟨ret_int (by omega), hbel⟩
end Go.Proofs.Ytaefgkhbgljkoaa
