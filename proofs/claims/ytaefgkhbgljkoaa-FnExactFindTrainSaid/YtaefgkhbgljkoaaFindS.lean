/-
  spec.l04Fits, FindTrain.
-/
import Derived.Test.YtaefgkhbgljkoaaGcdS
import Derived.Test.YtaefgkhbgljkoaaFindI
import Derived.Deep.Cut
namespace Go.Proofs.Ytaefgkhbgljkoaa
open Go.RowKit

theorem fits_any (a b : Int) (w : World) (a0 : 0 ≤ a) (a1 : a ≤ 1000000) (b0 : 0 ≤ b) (b1 : b ≤ 1000000) : Calls Try.prog 81 #[.int .i64 a, .int .i64 b] w fun e w' => e = .returned (.bool (decide (a ≤ 60 ∧ b ≤ 60))) ∧ w' = w := by
  have v1 : IntKind.i64.wrap (2 * a) = 2 * a := IntWalk.i64_in _ (by omega)
  have v2 : IntKind.i64.wrap (2 * b) = 2 * b := IntWalk.i64_in _ (by omega)
  by_cases h1 : a ≤ 60
  · by_cases h2 : b ≤ 60
    · have HV := Lib.hid (show decide (a ≤ 60 ∧ b ≤ 60) = true from decide_eq_true ⟨h1, h2⟩)
      have d1 : decide (2 * a ≤ 120) = true := decide_eq_true (by omega)
      have d2 : decide (2 * b ≤ 120) = true := decide_eq_true (by omega)
      clear h1 h2
      go_enter Try.func81, Try.ntmps81
      go_wp2
      go_ret
      exact ⟨ret_bool HV.out.symm, rfl⟩
    · have HV := Lib.hid (show decide (a ≤ 60 ∧ b ≤ 60) = false from decide_eq_false (by omega))
      have d1 : decide (2 * a ≤ 120) = true := decide_eq_true (by omega)
      have d2 : decide (2 * b ≤ 120) = false := decide_eq_false (by omega)
      clear h1 h2
      go_enter Try.func81, Try.ntmps81
      go_wp2
      go_ret
      exact ⟨ret_bool HV.out.symm, rfl⟩
  · have HV := Lib.hid (show decide (a ≤ 60 ∧ b ≤ 60) = false from decide_eq_false (by omega))
    have d1 : decide (2 * a ≤ 120) = false := decide_eq_false (by omega)
    clear h1
    go_enter Try.func81, Try.ntmps81
    go_wp2
    go_ret
    exact ⟨ret_bool HV.out.symm, rfl⟩

/-- The outer loop. -/
def OutI (N D p : Nat) : Prop := fF D 60 1 = 0 ∨ fF N 60 1 = fF N (61 - p) p
/-- The inner loop. -/
def InI (N D p q : Nat) : Prop := ¬ (N % p = 0 ∧ N / p ≤ 60) ∨ fF D 60 1 = fF D (61 - q) q
theorem out_start (N D : Nat) : OutI N D 1 := .inr rfl
theorem in_start (N D p : Nat) : InI N D p 1 := .inr rfl
theorem fF_end {n p : Nat} (hn : 1 ≤ n) (h : n < p ∨ 60 < p) : fF n (61 - p) p = 0 := by
  rcases h with h | h
  · exact fF_past hn _ _ h
  · rw [show 61 - p = 0 by omega]; rfl
theorem out_end {N D p : Nat} (hN : 1 ≤ N) (h : OutI N D p) (hp : N < p ∨ 60 < p) : findC N D = ([], 3) := by
  refine findC_no ?_
  rintro ⟨h1, h2⟩
  rcases h with h | h
  · exact h2 h
  · exact h1 (h.trans (fF_end hN hp))
theorem out_step {N D p q : Nat} (hD : 1 ≤ D) (hp : p ≤ 60) (h : OutI N D p) (hi : InI N D p q) (hq : (D < q ∨ 60 < q) ∨ ¬ N % p = 0) : OutI N D (p + 1) := by
  rcases h with h | h
  · exact .inl h
  · by_cases hc : N % p = 0 ∧ N / p ≤ 60
    · rcases hi with hi | hi
      · exact absurd hc hi
      · rcases hq with hq | hq
        · exact .inl (hi.trans (fF_end hD hq))
        · exact absurd hc.1 hq
    · right
      rw [h, show 61 - p = (61 - (p + 1)) + 1 by omega, fF_miss hc]
theorem in_step {N D p q : Nat} (hq : q ≤ 60) (hi : InI N D p q) (h : ¬ ((D % q = 0 ∧ N / p ≤ 60) ∧ D / q ≤ 60)) : InI N D p (q + 1) := by
  rcases hi with hi | hi
  · exact .inl hi
  · by_cases hc : N / p ≤ 60
    · right
      rw [hi, show 61 - q = (61 - (q + 1)) + 1 by omega, fF_miss (by rintro ⟨h1, h2⟩; exact h ⟨⟨h1, hc⟩, h2⟩)]
    · exact .inl fun h => hc h.2
theorem in_hit {N D p q : Nat} (hp : p ≤ 60) (hq : q ≤ 60) (p1 : 1 ≤ p) (q1 : 1 ≤ q) (ho : OutI N D p) (hi : InI N D p q) (h0 : N % p = 0) (h : (D % q = 0 ∧ N / p ≤ 60) ∧ D / q ≤ 60) :
    findC N D = ([(2 * (p : Int), 2 * (q : Int)), (2 * ((N / p : Nat) : Int), 2 * ((D / q : Nat) : Int))], 0) := by
  have eq : fF D 60 1 = q := by
    rcases hi with hi | hi
    · exact absurd ⟨h0, h.1.2⟩ hi
    · rw [hi, show 61 - q = (61 - (q + 1)) + 1 by omega, fF_hit ⟨h.1.1, h.2⟩]
  have ep : fF N 60 1 = p := by
    rcases ho with ho | ho
    · omega
    · rw [ho, show 61 - p = (61 - (p + 1)) + 1 by omega, fF_hit ⟨h0, h.1.2⟩]
  rw [findC_yes (by rw [eq, ep]; omega), findL, eq, ep]

set_option maxHeartbeats 8000000 in
theorem specFindTrain (n d : Int) (w : World) (_ : I64 n) (_ : I64 d) :
    Calls Try.prog 46 #[.int .i64 n, .int .i64 d] w (PaC (findR n d) w) := by
  cases i1 : inB n 1 1000000 with
  | false =>
    have HR := Lib.hid (findR_bad (num := n) (den := d) (.inl i1))
    have HI := Lib.hid i1
    clear i1
    go_enter Try.func46, Try.ntmps46
    go_wp2_with (go_at_call 78; refine (l00In_any _ _ _ _).mono ?_; rintro e w1 ⟨rfl, hq⟩; subst w1; rw [HI.out])
    exact bodyPost_ret (v := .tuple #[.slice none 0 0, .int .i64 2]) (by simp [results, Try.results46, go_sem]) rfl (paC_err HR.out rfl (Below.refl _ _))
  | true =>
    cases i2 : inB d 1 1000000 with
    | false =>
      have HR := Lib.hid (findR_bad (num := n) (den := d) (.inr i2))
      have HI := Lib.hid i1
      have HJ := Lib.hid i2
      clear i1 i2
      go_enter Try.func46, Try.ntmps46
      go_wp2_with (go_at_call 78; refine (l00In_any _ _ _ _).mono ?_; rintro e w1 ⟨rfl, hq⟩; subst w1; first | rw [HI.out] | rw [HJ.out])
      exact bodyPost_ret (v := .tuple #[.slice none 0 0, .int .i64 2]) (by simp [results, Try.results46, go_sem]) rfl (paC_err HR.out rfl (Below.refl _ _))
    | true =>
      have HI := Lib.hid i1
      have HJ := Lib.hid i2
      have HF := Lib.hid (findR_ok i1 i2)
      obtain ⟨n1, n2⟩ := inB_true i1
      obtain ⟨d1, d2⟩ := inB_true i2
      obtain ⟨r1, r2, r3, r4⟩ := red_pos n1 n2 d1 d2
      obtain ⟨a, rfl⟩ : ∃ a : Nat, n = a := ⟨n.toNat, by omega⟩
      obtain ⟨b, rfl⟩ : ∃ b : Nat, d = b := ⟨d.toNat, by omega⟩
      have hn := red_num (n := (a : Int)) (d := b) (by omega)
      have hd := red_den (n := (a : Int)) (d := b) (by omega)
      rw [Int.natAbs_natCast] at hn hd
      rw [Int.toNat_natCast] at r1 r2 r3 r4 HF
      rw [r1] at hn
      have hg : 0 < Nat.gcd a b := Nat.gcd_pos_of_pos_left _ (by omega)
      have HG := Lib.hid (fun v => gcd_any a b v (by omega) (by omega))
      obtain ⟨g, hgg⟩ : ∃ g, g = Nat.gcd a b := ⟨_, rfl⟩
      obtain ⟨N, hN⟩ : ∃ N, N = (red (a : Int) b).num.natAbs := ⟨_, rfl⟩
      obtain ⟨D, hD⟩ : ∃ D, D = (red (a : Int) b).den := ⟨_, rfl⟩
      have hD1 : 1 ≤ D := by rw [hD]; exact den_pos _
      rw [← hN] at HF hn r2 r3
      rw [← hD] at HF hd r4
      rw [← hgg] at hn hd HG hg
      have e1 : ((a : Int)) / (g : Int) = (N : Int) := by rw [← hn, Int.tdiv_eq_ediv_of_nonneg (by omega)]
      have e2 : ((b : Int)) / (g : Int) = (D : Int) := by rw [← hd, Int.tdiv_eq_ediv_of_nonneg (by omega)]
      have hg0 : ¬ ((g : Int) = 0) := by omega
      have w1 : IntKind.i64.wrap (N : Int) = (N : Int) := IntWalk.i64_in _ (by omega)
      have w2 : IntKind.i64.wrap (D : Int) = (D : Int) := IntWalk.i64_in _ (by omega)
      clear i1 i2 r1 hgg hN hD n1 n2 d1 d2
      go_enter Try.func46, Try.ntmps46
      go_wp2_with (first | (go_at_call 78; refine (l00In_any _ _ _ _).mono ?_; rintro e w1 ⟨rfl, hq⟩; subst w1; first | rw [HI.out] | rw [HJ.out]) | (go_at_call 80; refine (HG.out _).mono ?_; rintro e w2 ⟨rfl, hq⟩; subst w2))
      go_loop [9] (fun x => ∃ p : Nat, x = .int .i64 p ∧ 1 ≤ p ∧ p ≤ 61 ∧ Hid (OutI N D p)) (fun x => 62 - (intOf x).toNat)
      case atStart => exact ⟨1, rfl, Nat.le_refl _, by omega, Lib.hid (out_start N D)⟩
      case round =>
        obtain ⟨p, rfl, p1, p2, HO⟩ := hrel
        clear e1 e2 hn hd hg0 w1 w2
        have v1 : IntKind.i64.wrap (2 * (p : Int)) = 2 * (p : Int) := IntWalk.i64_in _ (by omega)
        by_cases hp : p ≤ N ∧ p ≤ 60
        · obtain ⟨c1, hp60⟩ := hp
          have c2 : decide (2 * (p : Int) ≤ 120) = true := decide_eq_true (by omega)
          have c2' : 2 * (p : Int) ≤ 120 := by omega
          have hp0 : ¬ ((p : Int) = 0) := by omega
          go_wp2
          go_loop [10] (fun x => ∃ q : Nat, x = .int .i64 q ∧ 1 ≤ q ∧ q ≤ 61 ∧ Hid (InI N D p q)) (fun x => 62 - (intOf x).toNat)
          case atStart => exact ⟨1, rfl, Nat.le_refl _, by omega, Lib.hid (in_start N D p)⟩
          case round =>
            obtain ⟨q, rfl, q1, q2, HQ⟩ := hrel
            have v2 : IntKind.i64.wrap (2 * (q : Int)) = 2 * (q : Int) := IntWalk.i64_in _ (by omega)
            have v3 : IntKind.i64.wrap ((q : Int) + 1) = (q : Int) + 1 := IntWalk.i64_in _ (by omega)
            have v4 : IntKind.i64.wrap ((p : Int) + 1) = (p : Int) + 1 := IntWalk.i64_in _ (by omega)
            have hq0 : ¬ ((q : Int) = 0) := by omega
            obtain ⟨r, hr⟩ : ∃ r, r = N % p := ⟨_, rfl⟩
            have e1 : ((N : Int)).tmod (p : Int) = (r : Int) := by rw [Int.tmod_eq_emod_of_nonneg (by omega), hr]; rfl
            have e1' : ((N : Int)) % (p : Int) = (r : Int) := by rw [hr]; rfl
            have rb : r ≤ 60 := by have : N % p < p := Nat.mod_lt _ (by omega); omega
            have v5 : IntKind.i64.wrap (r : Int) = (r : Int) := IntWalk.i64_in _ (by omega)
            by_cases hc : q ≤ D ∧ q ≤ 60
            · obtain ⟨c3, hq60⟩ := hc
              have c4 : decide (2 * (q : Int) ≤ 120) = true := decide_eq_true (by omega)
              have c4' : 2 * (q : Int) ≤ 120 := by omega
              by_cases hr0 : r = 0
              · have c5 : ((r : Int) == 0) = true := by simp [hr0]
                have HR0 := Lib.hid (hr.symm.trans hr0)
                obtain ⟨t, ht⟩ : ∃ t, t = D % q := ⟨_, rfl⟩
                obtain ⟨x, hx⟩ : ∃ x, x = N / p := ⟨_, rfl⟩
                obtain ⟨y, hy⟩ : ∃ y, y = D / q := ⟨_, rfl⟩
                have f1 : ((D : Int)).tmod (q : Int) = (t : Int) := by rw [Int.tmod_eq_emod_of_nonneg (by omega), ht]; rfl
                have f1' : ((D : Int)) % (q : Int) = (t : Int) := by rw [ht]; rfl
                have f2 : ((N : Int)).tdiv (p : Int) = (x : Int) := by rw [Int.tdiv_eq_ediv_of_nonneg (by omega), hx]; rfl
                have f2' : ((N : Int)) / (p : Int) = (x : Int) := by rw [hx]; rfl
                have f3 : ((D : Int)).tdiv (q : Int) = (y : Int) := by rw [Int.tdiv_eq_ediv_of_nonneg (by omega), hy]; rfl
                have f3' : ((D : Int)) / (q : Int) = (y : Int) := by rw [hy]; rfl
                have tb : t ≤ 60 := by have : D % q < q := Nat.mod_lt _ (by omega); omega
                have xb : x ≤ 1000000 := by have := Nat.div_le_self N p; omega
                have yb : y ≤ 1000000 := by have := Nat.div_le_self D q; omega
                have v6 : IntKind.i64.wrap (t : Int) = (t : Int) := IntWalk.i64_in _ (by omega)
                have v7 : IntKind.i64.wrap (x : Int) = (x : Int) := IntWalk.i64_in _ (by omega)
                have v8 : IntKind.i64.wrap (y : Int) = (y : Int) := IntWalk.i64_in _ (by omega)
                have HFP := Lib.hid (fun v => fits_any (p : Int) (x : Int) v (by omega) (by omega) (by omega) (by omega))
                have HFQ := Lib.hid (fun v => fits_any (q : Int) (y : Int) v (by omega) (by omega) (by omega) (by omega))
                have HS := Lib.hid (fun h => in_step (N := N) (D := D) (p := p) hq60 HQ.out h)
                have HH := Lib.hid (fun h => in_hit hp60 hq60 p1 q1 HO.out HQ.out HR0.out h)
                rw [← ht, ← hx, ← hy] at HS HH
                have hcase : (¬ t = 0) ∨ (t = 0 ∧ ¬ x ≤ 60) ∨ ((t = 0 ∧ x ≤ 60) ∧ ¬ y ≤ 60) ∨ ((t = 0 ∧ x ≤ 60) ∧ y ≤ 60) := by omega
                clear hr ht hx hy hr0 rb
                rcases hcase with t0 | ⟨t0, x0⟩ | ⟨⟨t0, x0⟩, y0⟩ | ⟨⟨t0, x0⟩, y0⟩
                · have HS' := Lib.hid (HS.out (fun h => t0 h.1.1))
                  have c6 : ((t : Int) == 0) = false := by simp; omega
                  clear t0
                  go_wp2
                  go_round
                  case rel => exact ⟨q + 1, by go_num, by omega, by omega, HS'⟩
                  case measure => (simp [intOf]) <;> omega
                · have HS' := Lib.hid (HS.out (fun h => x0 h.1.2))
                  have c6 : ((t : Int) == 0) = true := by simp [t0]
                  rw [show decide ((p : Int) ≤ 60 ∧ (x : Int) ≤ 60) = false from decide_eq_false (by omega)] at HFP
                  clear t0 x0
                  go_wp2_with (go_at_call 81; with_reducible refine (HFP.out _).mono ?_; rintro e w3 ⟨rfl, hw⟩; subst w3)
                  go_round
                  case rel => exact ⟨q + 1, by go_num, by omega, by omega, HS'⟩
                  case measure => (simp [intOf]) <;> omega
                · have HS' := Lib.hid (HS.out (fun h => y0 h.2))
                  have c6 : ((t : Int) == 0) = true := by simp [t0]
                  rw [show decide ((p : Int) ≤ 60 ∧ (x : Int) ≤ 60) = true from decide_eq_true (by omega)] at HFP
                  rw [show decide ((q : Int) ≤ 60 ∧ (y : Int) ≤ 60) = false from decide_eq_false (by omega)] at HFQ
                  clear t0 x0 y0
                  go_wp2_with (go_at_call 81; first | (with_reducible refine (HFP.out _).mono ?_; rintro e w3 ⟨rfl, hw⟩; subst w3) | (with_reducible refine (HFQ.out _).mono ?_; rintro e w3 ⟨rfl, hw⟩; subst w3))
                  go_round
                  case rel => exact ⟨q + 1, by go_num, by omega, by omega, HS'⟩
                  case measure => (simp [intOf]) <;> omega
                · have HR := Lib.hid (HF.out.trans (HH.out ⟨⟨t0, x0⟩, y0⟩))
                  have c6 : ((t : Int) == 0) = true := by simp [t0]
                  rw [show decide ((p : Int) ≤ 60 ∧ (x : Int) ≤ 60) = true from decide_eq_true (by omega)] at HFP
                  rw [show decide ((q : Int) ≤ 60 ∧ (y : Int) ≤ 60) = true from decide_eq_true (by omega)] at HFQ
                  have v9 : IntKind.i64.wrap (2 * (x : Int)) = 2 * (x : Int) := IntWalk.i64_in _ (by omega)
                  have v10 : IntKind.i64.wrap (2 * (y : Int)) = 2 * (y : Int) := IntWalk.i64_in _ (by omega)
                  clear t0 x0 y0 HS HH
                  go_wp2_with (go_at_call 81; first | (with_reducible refine (HFP.out _).mono ?_; rintro e w3 ⟨rfl, hw⟩; subst w3) | (with_reducible refine (HFQ.out _).mono ?_; rintro e w3 ⟨rfl, hw⟩; subst w3))
                  go_region
                  go_wp2
                  exact bodyPost_ret (v := .tuple #[.slice (some ⟨w.heap.size, 0, none⟩) 2 2, .int .i64 0]) (by simp [results, Try.results46, go_sem]) rfl (paC_ok HR.out rfl rfl (own_two w (2 * (p : Int), 2 * (q : Int)) (2 * (x : Int), 2 * (y : Int)) 76).drew (Nat.le_refl _) (by simp) (by repeat (first | exact Below.refl _ _ | refine Below.setCell ?_ (by first | omega | (simp <;> omega)) _ | refine Below.alloc ?_ (by first | omega | (simp <;> omega)) _ | refine Below.drew ?_)))
              · have c5 : ((r : Int) == 0) = false := by simp; omega
                have HO' := Lib.hid (out_step hD1 hp60 HO.out HQ.out (.inr (by rw [← hr]; exact hr0)))
                clear hr hr0
                go_wp2
                go_round
                case rel => exact ⟨p + 1, by go_num, by omega, by omega, HO'⟩
                case measure => (simp [intOf]) <;> omega
            · have HO' := Lib.hid (out_step hD1 hp60 HO.out HQ.out (.inl (by omega)))
              have hc2 : ¬ q ≤ D ∨ (q ≤ D ∧ ¬ q ≤ 60) := by omega
              clear hc hr
              rcases hc2 with c0 | ⟨c0, c3⟩
              · go_wp2
                go_round
                case rel => exact ⟨p + 1, by go_num, by omega, by omega, HO'⟩
                case measure => (simp [intOf]) <;> omega
              · have c4 : decide (2 * (q : Int) ≤ 120) = false := decide_eq_false (by omega)
                have c4' : ¬ 2 * (q : Int) ≤ 120 := by omega
                go_wp2
                go_round
                case rel => exact ⟨p + 1, by go_num, by omega, by omega, HO'⟩
                case measure => (simp [intOf]) <;> omega
        · have HE := Lib.hid (HF.out.trans (out_end r2 HO.out (by omega)))
          have hc : ¬ p ≤ N ∨ (p ≤ N ∧ ¬ p ≤ 60) := by omega
          clear hp
          rcases hc with c0 | ⟨c0, c3⟩
          · go_wp2
            exact bodyPost_ret (v := .tuple #[.slice none 0 0, .int .i64 3]) (by simp [results, Try.results46, go_sem]) rfl (paC_err HE.out rfl (Below.refl _ _))
          · have c2 : decide (2 * (p : Int) ≤ 120) = false := decide_eq_false (by omega)
            have c2' : ¬ 2 * (p : Int) ≤ 120 := by omega
            go_wp2
            exact bodyPost_ret (v := .tuple #[.slice none 0 0, .int .i64 3]) (by simp [results, Try.results46, go_sem]) rfl (paC_err HE.out rfl (Below.refl _ _))
end Go.Proofs.Ytaefgkhbgljkoaa
