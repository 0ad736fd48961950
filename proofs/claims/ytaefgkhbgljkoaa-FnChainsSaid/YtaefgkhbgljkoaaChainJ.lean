/-
  impl.TotalPlay, MoveNeeded.
-/
import Derived.Test.YtaefgkhbgljkoaaChainI
namespace Go.Proofs.Ytaefgkhbgljkoaa
open Go.RowKit

set_option maxHeartbeats 2000000 in
theorem implTotalPlay (a : Option Addr) (c : Nat) (p : List Int) (b : Option Addr) (d : Nat) (q : List Int) (w : World) (h : Rd2 w a p b q) (hz : All64 p ∧ All64 q) :
    Calls Try.prog 30 #[.agg #[.slice a p.length c, .slice b q.length d]] w fun e w' => e = .returned (.tuple #[.int .i64 (totR p q).1, .int .i64 (totR p q).2]) ∧ Below w.heap.size w w' := by
  have hx := h.len
  obtain ⟨u, hu⟩ : ∃ u, u = w.alloc (.cells #[.slice a p.length c, .slice b q.length d] 41) := ⟨_, rfl⟩
  have bx : Bx u w.heap.size 41 #[.slice a p.length c, .slice b q.length d] := by rw [hu]; exact Bx.new _ _ _
  have hbel : Below w.heap.size w u := by rw [hu]; exact (by repeat (first | exact Below.refl _ _ | refine Below.setCell ?_ (by first | omega | (simp <;> omega)) _ | refine Below.alloc ?_ (by first | omega | (simp <;> omega)) _ | refine Below.drew ?_))
  have HU := Lib.hid hu
  clear hu
  have HV := Lib.hid (implValidChain a c p b d q u (h.below hbel) hz)
  cases hc : chainB p q with
  | false =>
    have HR := Lib.hid (totR_bad hc)
    rw [hc] at HV
    clear hc
    go_enter Try.func30, Try.ntmps30
    go_wp2_with fail
    rw [← HU.out]
    refine HV.out.mono ?_
    rintro e w1 ⟨rfl, hb1⟩
    go_wp2
    exact bodyPost_ret (v := .tuple #[.int .i64 0, .int .i64 1]) (by simp [results, Try.results30, go_sem]) rfl ⟨ret_two HR.out, hbel.trans (hb1.mono hbel.size)⟩
  | true =>
    have HR := Lib.hid (totR_ok hc)
    have HC := Lib.hid (chain_of hc)
    rw [hc] at HV
    clear hc
    go_enter Try.func30, Try.ntmps30
    go_wp2_with fail
    rw [← HU.out]
    refine HV.out.mono ?_
    rintro e w1 ⟨rfl, hb1⟩
    replace bx := bx.below hb1
    replace hbel := hbel.trans (hb1.mono hbel.size)
    have e0 := bx.at_ 0 rfl
    have hp := h.p.below hbel
    clear hb1
    go_wp2
    go_loop [4, 6, 13] (fun s _ i => ∃ k : Nat, k ≤ p.length ∧ i = .int .i64 k ∧ s = .int .i64 (sumTo p k)) (fun _ _ i => p.length - (intOf i).toNat)
    case atStart => exact ⟨0, Nat.zero_le _, rfl, rfl⟩
    case round =>
      obtain ⟨k, hk, rfl, rfl⟩ := hrel
      by_cases hlt : k < p.length
      · obtain ⟨b1, o1, rfl, hc1⟩ := hp.at_ hlt
        have b1 := sumTo_bd HC.out k (by omega)
        have b2 := HC.out.play k hlt
        have b3 := HC.out.n1
        have hw1 : IntKind.i64.wrap (sumTo p k + nth p k) = sumTo p (k + 1) := IntWalk.i64_in _ (by omega)
        clear b1 b2 b3
        go_wp2
        go_round
        case rel => exact ⟨k + 1, by omega, by go_num, rfl⟩
        case measure => (simp [intOf]) <;> omega
      · obtain rfl : k = p.length := by omega
        go_wp2
        exact bodyPost_ret (v := .tuple #[.int .i64 (sumTo p p.length), .int .i64 0]) (by simp [results, Try.results30, go_sem]) rfl ⟨ret_two HR.out, hbel⟩

theorem isPlace_any (n : Int) (w : World) : Calls Try.prog 71 #[.int .i64 n] w fun e w' => e = .returned (.bool (inB n (-1000000) 1000000)) ∧ Below w.heap.size w w' := by
  go_enter Try.func71, Try.ntmps71
  go_wp2_with (go_at_call 67; refine (within1_at _ _ n _ _ _ (by go_simp)).mono ?_; rintro e w1 ⟨rfl, hq⟩; subst w1)
  go_ret
  exact ⟨rfl, (by repeat (first | exact Below.refl _ _ | refine Below.setCell ?_ (by first | omega | (simp <;> omega)) _ | refine Below.alloc ?_ (by first | omega | (simp <;> omega)) _ | refine Below.drew ?_))⟩

set_option maxHeartbeats 4000000 in
theorem implMoveNeeded (a : Option Addr) (c : Nat) (p : List Int) (b : Option Addr) (d : Nat) (q : List Int) (t : Int) (w : World) (h : Rd2 w a p b q) (hz : All64 p ∧ All64 q) (_ : I64 t) :
    Calls Try.prog 34 #[.agg #[.slice a p.length c, .slice b q.length d], .int .i64 t] w fun e w' => e = .returned (.tuple #[.int .i64 (needR p q t).1, .int .i64 (needR p q t).2]) ∧ Below w.heap.size w w' := by
  have hx := h.len
  obtain ⟨u, hu⟩ : ∃ u, u = w.alloc (.cells #[.slice a p.length c, .slice b q.length d] 41) := ⟨_, rfl⟩
  have bx : Bx u w.heap.size 41 #[.slice a p.length c, .slice b q.length d] := by rw [hu]; exact Bx.new _ _ _
  have hbel : Below w.heap.size w u := by rw [hu]; exact (by repeat (first | exact Below.refl _ _ | refine Below.setCell ?_ (by first | omega | (simp <;> omega)) _ | refine Below.alloc ?_ (by first | omega | (simp <;> omega)) _ | refine Below.drew ?_))
  have HU := Lib.hid hu
  clear hu
  have HV := Lib.hid (implTotalPlay a c p b d q u (h.below hbel) hz)
  cases hc : chainB p q with
  | false =>
    have HR := Lib.hid (needR_bad (g := t) hc)
    rw [totR_bad hc] at HV
    clear hc
    go_enter Try.func34, Try.ntmps34
    go_wp2_with fail
    rw [← HU.out]
    refine HV.out.mono ?_
    rintro e w1 ⟨rfl, hb1⟩
    go_wp2
    exact bodyPost_ret (v := .tuple #[.int .i64 0, .int .i64 1]) (by simp [results, Try.results34, go_sem]) rfl ⟨ret_two HR.out, hbel.trans (hb1.mono hbel.size)⟩
  | true =>
    have hC := chain_of hc
    rw [totR_ok hc] at HV
    cases ht : inB t (-1000000) 1000000 with
    | false =>
      have HR := Lib.hid (needR_range hc (.inl ht))
      have HI := Lib.hid (isPlace_any t)
      rw [ht] at HI
      clear hc ht hC
      go_enter Try.func34, Try.ntmps34
      go_wp2_with fail
      rw [← HU.out]
      refine HV.out.mono ?_
      rintro e w1 ⟨rfl, hb1⟩
      replace hbel := hbel.trans (hb1.mono hbel.size)
      go_wp2_with (go_at_call 71; refine (HI.out _).mono ?_; rintro e w2 ⟨rfl, hb2⟩)
      exact bodyPost_ret (v := .tuple #[.int .i64 0, .int .i64 2]) (by simp [results, Try.results34, go_sem]) rfl ⟨ret_two HR.out, hbel.trans (hb2.mono hbel.size)⟩
    | true =>
      have HI := Lib.hid (isPlace_any t)
      rw [ht] at HI
      obtain ⟨t0, t1⟩ := inB_true ht
      have n0 := hC.n0
      have n1 := hC.n1
      have hl := hC.ln
      have hq0 : 0 < q.length := by omega
      have hq1 : p.length < q.length := by omega
      have q0 := hC.place 0 hq0
      have q1 := hC.place p.length hq1
      have sb := sumTo_bd hC p.length (Nat.le_refl _)
      obtain ⟨S, hS⟩ : ∃ S, S = sumTo p p.length := ⟨_, rfl⟩
      rw [← hS] at sb HV
      have s0 : 0 ≤ S := sb.1
      have s1 : S ≤ 1000 := by omega
      obtain ⟨x0, hx0⟩ : ∃ x, x = nth q 0 := ⟨_, rfl⟩
      obtain ⟨x1, hx1⟩ : ∃ x, x = nth q p.length := ⟨_, rfl⟩
      have hneed : needTo p q t = if x1 < t then t + S else if t < x1 then t - S else x0 := by rw [hx0, hx1, hS]; rfl
      rw [← hx0] at q0
      rw [← hx1] at q1
      have hw1 : IntKind.i64.wrap (t + S) = t + S := IntWalk.i64_in _ (by omega)
      have hw2 : IntKind.i64.wrap (t - S) = t - S := IntWalk.i64_in _ (by omega)
      -- the place to which the first one goes
      obtain ⟨N, hN⟩ : ∃ N, N = needTo p q t := ⟨_, rfl⟩
      have HJ := Lib.hid (isPlace_any N)
      have HR := Lib.hid (show needR p q t = if inB N (-1000000) 1000000 = true then (N, 0) else (0, 2) by
        rw [hN]; split
        · exact needR_ok hc ht ‹_›
        · rename_i hne; exact needR_range hc (.inr (by simpa using hne)))
      rw [← hN] at hneed
      have HL := Lib.hid (And.intro hx0 (And.intro hx1 (And.intro hq0 hq1)))
      have hcase : (x1 < t ∧ N = t + S) ∨ ((¬ x1 < t ∧ t < x1) ∧ N = t - S) ∨ ((¬ x1 < t ∧ ¬ t < x1) ∧ N = x0) := by
        rw [hneed]
        by_cases c1 : x1 < t
        · exact .inl ⟨c1, by rw [if_pos c1]⟩
        · by_cases c2 : t < x1
          · exact .inr (.inl ⟨⟨c1, c2⟩, by rw [if_neg c1, if_pos c2]⟩)
          · exact .inr (.inr ⟨⟨c1, c2⟩, by rw [if_neg c1, if_neg c2]⟩)
      clear hc ht hC hS hneed hN hx0 hx1 sb n0 n1 hl hq0 hq1 q0 q1 t0 t1 s0 s1
      go_enter Try.func34, Try.ntmps34
      go_wp2_with fail
      rw [← HU.out]
      refine HV.out.mono ?_
      rintro e w1 ⟨rfl, hb1⟩
      have bx1 := bx.below hb1
      replace hbel := hbel.trans (hb1.mono hbel.size)
      clear hb1
      go_wp2_with fail
      refine (HI.out w1).mono ?_
      rintro e w2 ⟨rfl, hb2⟩
      have bx2 := bx1.below hb2
      replace hbel := hbel.trans (hb2.mono hbel.size)
      clear hb2 bx1 bx
      have e0 := bx2.at_ 0 rfl
      have e1 := bx2.at_ 1 rfl
      have hq := h.q.below hbel
      obtain ⟨b1, o1, rfl, hc1⟩ := hq.at_ HL.out.2.2.1
      obtain ⟨b2, o2, e2, hc2⟩ := hq.at_ HL.out.2.2.2
      injection e2 with e2
      injection e2 with e3 e4 _
      subst e3 e4
      rw [← HL.out.1, Nat.add_zero] at hc1
      rw [← HL.out.2.1] at hc2
      have hq1 := HL.out.2.2.2
      have hq0 := HL.out.2.2.1
      clear bx2
      cases hj : inB N (-1000000) 1000000 with
      | false =>
        rw [hj] at HJ HR
        clear hj
        rcases hcase with ⟨k1, rfl⟩ | ⟨⟨k1, k2⟩, rfl⟩ | ⟨⟨k1, k2⟩, rfl⟩
        all_goals
          go_wp2_with (go_at_call 71; refine (HJ.out _).mono ?_; rintro e w3 ⟨rfl, hb3⟩)
          exact bodyPost_ret (v := .tuple #[.int .i64 0, .int .i64 2]) (by simp [results, Try.results34, go_sem]) rfl ⟨ret_two HR.out, hbel.trans (hb3.mono hbel.size)⟩
      | true =>
        rw [hj] at HJ HR
        clear hj
        rcases hcase with ⟨k1, rfl⟩ | ⟨⟨k1, k2⟩, rfl⟩ | ⟨⟨k1, k2⟩, rfl⟩
        · go_wp2_with (go_at_call 71; refine (HJ.out _).mono ?_; rintro e w3 ⟨rfl, hb3⟩)
          exact bodyPost_ret (v := .tuple #[.int .i64 (t + S), .int .i64 0]) (by simp [results, Try.results34, go_sem]) rfl ⟨ret_two HR.out, hbel.trans (hb3.mono hbel.size)⟩
        · go_wp2_with (go_at_call 71; refine (HJ.out _).mono ?_; rintro e w3 ⟨rfl, hb3⟩)
          exact bodyPost_ret (v := .tuple #[.int .i64 (t - S), .int .i64 0]) (by simp [results, Try.results34, go_sem]) rfl ⟨ret_two HR.out, hbel.trans (hb3.mono hbel.size)⟩
        · go_wp2_with (go_at_call 71; refine (HJ.out _).mono ?_; rintro e w3 ⟨rfl, hb3⟩)
          exact bodyPost_ret (v := .tuple #[.int .i64 N, .int .i64 0]) (by simp [results, Try.results34, go_sem]) rfl ⟨ret_two HR.out, hbel.trans (hb3.mono hbel.size)⟩
end Go.Proofs.Ytaefgkhbgljkoaa
