/-
  impl.twoFactors, FindTrain.
-/
import Derived.Test.YtaefgkhbgljkoaaRedI
import Derived.Test.YtaefgkhbgljkoaaWithin
import Derived.Test.YtaefgkhbgljkoaaGearPairS
namespace Go.Proofs.Ytaefgkhbgljkoaa
open Go.RowKit

/-- The first factor, the other one, and whether there are any. -/
def twoV (n p : Nat) : Value := .tuple #[.int .i64 (p : Int), .int .i64 ((if p = 0 then 0 else n / p : Nat) : Int), .bool (decide (p ≠ 0))]
theorem twoV_zero (n : Nat) : twoV n 0 = .tuple #[.int .i64 0, .int .i64 0, .bool false] := by simp [twoV]
theorem twoV_pos {n p : Nat} (h : p ≠ 0) : twoV n p = .tuple #[.int .i64 (p : Int), .int .i64 ((n / p : Nat) : Int), .bool true] := by simp [twoV, h]

set_option maxHeartbeats 1000000 in
theorem twoFactors_any : ∀ (k n p : Nat) (w : World), p + k = 61 → 1 ≤ p → n ≤ 1000000 →
    Calls Try.prog 69 #[.int .i64 (n : Int), .int .i64 (p : Int)] w fun e w' => e = .returned (twoV n (fF n k p)) ∧ ∃ m, w' = w.drewN m := by
  intro k
  induction k with
  | zero =>
    intro n p w hp h1 hn
    have hgt : (60 : Int) < p := by omega
    have HV := Lib.hid (twoV_zero n)
    go_enter Try.func69, Try.ntmps69
    go_wp2
    exact bodyPost_ret (v := .tuple #[.int .i64 0, .int .i64 0, .bool false]) (by simp [results, Try.results69, go_sem]) rfl ⟨by rw [fF, HV.out], 0, rfl⟩
  | succ k ih =>
    intro n p w hp h1 hn
    have hle : ¬ (60 : Int) < p := by omega
    have hp0 : ¬ ((p : Int) = 0) := by omega
    have e1 : ((n : Int)).tmod (p : Int) = ((n % p : Nat) : Int) := by rw [Int.tmod_eq_emod_of_nonneg (by omega)]; rfl
    have e1' : ((n : Int)) % (p : Int) = ((n % p : Nat) : Int) := rfl
    have hm : n % p < p := Nat.mod_lt _ (by omega)
    have hq : n / p ≤ n := Nat.div_le_self _ _
    obtain ⟨r, hr⟩ : ∃ r, r = n % p := ⟨_, rfl⟩
    obtain ⟨s, hs⟩ : ∃ s, s = n / p := ⟨_, rfl⟩
    have e2 : ((n : Int)).tdiv (p : Int) = (s : Int) := by rw [Int.tdiv_eq_ediv_of_nonneg (by omega), hs]; rfl
    have e2' : ((n : Int)) / (p : Int) = (s : Int) := by rw [hs]; rfl
    rw [← hr] at e1 e1' hm
    rw [← hs] at hq
    have w1 : IntKind.i64.wrap (r : Int) = (r : Int) := IntWalk.i64_in _ (by omega)
    have w2 : IntKind.i64.wrap (s : Int) = (s : Int) := IntWalk.i64_in _ (by omega)
    have w3 : IntKind.i64.wrap ((p : Int) + 1) = (p : Int) + 1 := IntWalk.i64_in _ (by omega)
    have IH := Lib.hid (fun v => ih n (p + 1) v (by omega) (by omega) hn)
    rw [show ((p + 1 : Nat) : Int) = (p : Int) + 1 from rfl] at IH
    by_cases hit : r = 0 ∧ s ≤ 60
    · have HV := Lib.hid (show twoV n (fF n (k + 1) p) = .tuple #[.int .i64 (p : Int), .int .i64 (s : Int), .bool true] by
        rw [fF_hit (by rw [← hr, ← hs]; exact hit), twoV_pos (by omega), hs])
      obtain ⟨h0, h60⟩ := hit
      have hr0 : ((r : Int) == 0) = true := by simp [h0]
      have hs0 : decide ((s : Int) ≤ 60) = true := decide_eq_true (by omega)
      clear ih hr hs h0 h60
      go_enter Try.func69, Try.ntmps69
      go_wp2_with fail
      go_quiet (fail)
      go_wp2
      exact bodyPost_ret (v := .tuple #[.int .i64 (p : Int), .int .i64 (s : Int), .bool true]) (by simp [results, Try.results69, go_sem]) rfl ⟨by rw [HV.out], _, rfl⟩
    · have HV := Lib.hid (show fF n (k + 1) p = fF n k (p + 1) from fF_miss (by rw [← hr, ← hs]; exact hit))
      obtain ⟨P, hP⟩ : ∃ P, P = fF n k (p + 1) := ⟨_, rfl⟩
      rw [← hP] at IH HV
      obtain ⟨S, hS⟩ : ∃ S : Int, S = ((if P = 0 then 0 else n / P : Nat) : Int) := ⟨_, rfl⟩
      obtain ⟨B, hB⟩ : ∃ B, B = decide (P ≠ 0) := ⟨_, rfl⟩
      have HT := Lib.hid (show twoV n P = .tuple #[.int .i64 (P : Int), .int .i64 S, .bool B] by rw [hS, hB]; rfl)
      rw [HT.out] at IH
      have hc : (¬ r = 0) ∨ (r = 0 ∧ ¬ s ≤ 60) := by omega
      clear ih hr hs hP hS hB hit
      rcases hc with h0 | ⟨h0, h60⟩
      · have hr0 : ((r : Int) == 0) = false := by simp; omega
        clear h0
        go_enter Try.func69, Try.ntmps69
        go_wp2_with (go_at_call 69; refine (IH.out _).mono ?_; rintro e w4 ⟨rfl, m4, rfl⟩)
        exact bodyPost_ret (v := .tuple #[.int .i64 (P : Int), .int .i64 S, .bool B]) (by simp [results, Try.results69, go_sem]) rfl ⟨by rw [HV.out, HT.out], _, rfl⟩
      · have hr0 : ((r : Int) == 0) = true := by simp [h0]
        have hs0 : decide ((s : Int) ≤ 60) = false := decide_eq_false (by omega)
        clear h0 h60
        go_enter Try.func69, Try.ntmps69
        go_wp2_with (go_at_call 69; refine (IH.out _).mono ?_; rintro e w4 ⟨rfl, m4, rfl⟩)
        exact bodyPost_ret (v := .tuple #[.int .i64 (P : Int), .int .i64 S, .bool B]) (by simp [results, Try.results69, go_sem]) rfl ⟨by rw [HV.out, HT.out], _, rfl⟩

theorem red_pos {n d : Int} (h1 : 1 ≤ n) (h2 : n ≤ 1000000) (h3 : 1 ≤ d) (h4 : d ≤ 1000000) : (red n d.toNat).num = ((red n d.toNat).num.natAbs : Int) ∧ 1 ≤ (red n d.toNat).num.natAbs ∧ (red n d.toNat).num.natAbs ≤ 1000000 ∧ (red n d.toNat).den ≤ 1000000 := by
  have hd : d.toNat ≠ 0 := by omega
  have a := red_num_le n d.toNat
  have b := red_den_le n hd
  have c : 0 < (red n d.toNat).num := by
    have hne : (red n d.toNat).num ≠ 0 := by
      intro h0
      have := Rat.num_eq_zero.1 h0
      rw [red, Rat.mkRat_eq_zero hd] at this
      omega
    have hnn : 0 ≤ (red n d.toNat).num := by
      rw [red, Rat.num_mkRat, if_neg hd]
      exact Int.ediv_nonneg (by omega) (by omega)
    omega
  omega
theorem twoFactors_at (n : Nat) (w : World) (hn : n ≤ 1000000) : Calls Try.prog 69 #[.int .i64 (n : Int), .int .i64 1] w fun e w' => e = .returned (twoV n (fF n 60 1)) ∧ Below w.heap.size w w' := by
  refine (twoFactors_any 60 n 1 w rfl (by omega) hn).mono ?_
  rintro e w1 ⟨rfl, m, rfl⟩
  exact ⟨rfl, bel_drewN (Below.refl _ _) _⟩
/-- Pairs of its own and a code. -/
def PaC (R : List (Int × Int) × Int) (w : World) (e : Ending) (w' : World) : Prop := ∃ A C,
  e = .returned (.tuple #[.slice A R.1.length C, .int .i64 R.2]) ∧ OwnF pairF 76 w' w.heap.size w'.heap.size (.slice A R.1.length C) R.1 ∧ Below w.heap.size w w'
theorem paC_err {R : List (Int × Int) × Int} {c : Int} {w w' : World} {e : Ending} (h : R = ([], c)) (he : e = .returned (.tuple #[.slice none 0 0, .int .i64 c])) (hb : Below w.heap.size w w') : PaC R w e w' := by
  subst h
  exact ⟨none, 0, he, ownF_nil _ _ _ _ _, hb⟩
theorem paC_ok {R : List (Int × Int) × Int} {c : Int} {xs : List (Int × Int)} {n : Nat} {w w' : World} {A : Option Addr} {C lo hi : Nat} {e : Ending} (h : R = (xs, c)) (hn : xs.length = n) (he : e = .returned (.tuple #[.slice A n C, .int .i64 c]))
    (ho : OwnF pairF 76 w' lo hi (.slice A n C) xs) (hl : w.heap.size ≤ lo) (hh : hi ≤ w'.heap.size) (hb : Below w.heap.size w w') : PaC R w e w' := by
  subst h hn
  exact ⟨A, C, he, ho.wide hl hh, hb⟩
/-- Two pairs laid into a slice of their own. -/
theorem own_two (w : World) (x y : Int × Int) (t : TypeId) : OwnF pairF t (w.alloc (.cells #[.int .i64 x.1, .int .i64 x.2, .int .i64 y.1, .int .i64 y.2] t)) w.heap.size (w.heap.size + 1) (.slice (some ⟨w.heap.size, 0, none⟩) 2 2) [x, y] :=
  ⟨row_new t 2 w #[.int .i64 x.1, .int .i64 x.2, .int .i64 y.1, .int .i64 y.2] 2 (by simp) (by omega), by simp⟩
theorem findC_no {n d : Nat} (h : ¬ (fF n 60 1 ≠ 0 ∧ fF d 60 1 ≠ 0)) : findC n d = ([], 3) := by rw [findC, if_neg h]
theorem findC_yes {n d : Nat} (h : fF n 60 1 ≠ 0 ∧ fF d 60 1 ≠ 0) : findC n d = (findL n d, 0) := by rw [findC, if_pos h]

set_option maxHeartbeats 4000000 in
theorem implFindTrain (n d : Int) (w : World) (_ : I64 n) (_ : I64 d) :
    Calls Try.prog 27 #[.int .i64 n, .int .i64 d] w (PaC (findR n d) w) := by
  cases hin : (inB n 1 1000000 && inB d 1 1000000) with
  | false =>
    have HR := Lib.hid (findR_bad (num := n) (den := d) (by cases h1 : inB n 1 1000000 <;> cases h2 : inB d 1 1000000 <;> simp_all))
    have HI := Lib.hid hin
    clear hin
    go_enter Try.func27, Try.ntmps27
    go_wp2_with (go_at_call 67; refine (within2_at _ _ n d _ _ _ (by go_simp) (by go_simp)).mono ?_; rintro e w1 ⟨rfl, hq⟩; subst w1; rw [HI.out])
    exact bodyPost_ret (v := .tuple #[.slice none 0 0, .int .i64 2]) (by simp [results, Try.results27, go_sem]) rfl (paC_err HR.out rfl (by repeat (first | exact Below.refl _ _ | refine Below.setCell ?_ (by first | omega | (simp <;> omega)) _ | refine Below.alloc ?_ (by first | omega | (simp <;> omega)) _ | refine Below.drew ?_)))
  | true =>
    have hin2 := hin
    rw [Bool.and_eq_true] at hin2
    have HI := Lib.hid hin
    obtain ⟨i1, i2⟩ := hin2
    have HF := Lib.hid (findR_ok i1 i2)
    obtain ⟨n1, n2⟩ := inB_true i1
    obtain ⟨d1, d2⟩ := inB_true i2
    obtain ⟨r1, r2, r3, r4⟩ := red_pos n1 n2 d1 d2
    have HD := Lib.hid (fun v => reduced_at n d v (by omega) (by omega) (by omega))
    rw [r1] at HD
    obtain ⟨N, hN⟩ : ∃ N, N = (red n d.toNat).num.natAbs := ⟨_, rfl⟩
    obtain ⟨D, hD⟩ : ∃ D, D = (red n d.toNat).den := ⟨_, rfl⟩
    rw [← hN, ← hD] at HD HF
    rw [← hN] at r2 r3
    rw [← hD] at r4
    have HP := Lib.hid (fun v => twoFactors_at N v r3)
    have HQ := Lib.hid (fun v => twoFactors_at D v r4)
    obtain ⟨P, hP⟩ : ∃ P, P = fF N 60 1 := ⟨_, rfl⟩
    obtain ⟨Q, hQ⟩ : ∃ Q, Q = fF D 60 1 := ⟨_, rfl⟩
    have lP := fF_le (n := N) 60 1
    have lQ := fF_le (n := D) 60 1
    have sP := fF_spec (n := N) 60 1
    have sQ := fF_spec (n := D) 60 1
    have cN := findC_no (n := N) (d := D)
    have cY := findC_yes (n := N) (d := D)
    simp only [findL] at cY
    rw [← hP] at HP lP sP
    rw [← hQ] at HQ lQ sQ
    rw [← hP, ← hQ] at cN cY
    clear i1 i2 r1 hN hD hP hQ hin n1 n2 d1 d2
    by_cases hp : P = 0
    · have HR := Lib.hid (HF.out.trans (cN (by rintro ⟨h, _⟩; exact h hp)))
      subst hp
      rw [twoV_zero] at HP
      by_cases hq : Q = 0
      · subst hq
        rw [twoV_zero] at HQ
        clear cN cY lP lQ sP sQ
        go_enter Try.func27, Try.ntmps27
        go_wp2_with (first | (go_at_call 67; refine (within2_at _ _ n d _ _ _ (by go_simp) (by go_simp)).mono ?_; rintro e w1 ⟨rfl, hq⟩; subst w1; rw [HI.out]) | (go_at_call 68; refine (HD.out _).mono ?_; rintro e w2 ⟨rfl, hb2⟩) | (go_at_call 69; with_reducible refine (HP.out _).mono ?_; rintro e w3 ⟨rfl, hb3⟩) | (go_at_call 69; with_reducible refine (HQ.out _).mono ?_; rintro e w4 ⟨rfl, hb4'⟩))
        have hb4 : Below w.heap.size w w4 := by
          have h2 : Below w.heap.size w w2 := ((Below.refl w.heap.size w).alloc (Nat.le_refl _) _).trans (hb2.mono (by simp))
          have h3 := h2.trans (hb3.mono h2.size)
          exact h3.trans (hb4'.mono h3.size)
        exact bodyPost_ret (v := .tuple #[.slice none 0 0, .int .i64 3]) (by simp [results, Try.results27, go_sem]) rfl (paC_err HR.out rfl hb4)
      · rw [twoV_pos hq] at HQ
        clear cN cY lP lQ sP sQ
        go_enter Try.func27, Try.ntmps27
        go_wp2_with (first | (go_at_call 67; refine (within2_at _ _ n d _ _ _ (by go_simp) (by go_simp)).mono ?_; rintro e w1 ⟨rfl, hq⟩; subst w1; rw [HI.out]) | (go_at_call 68; refine (HD.out _).mono ?_; rintro e w2 ⟨rfl, hb2⟩) | (go_at_call 69; with_reducible refine (HP.out _).mono ?_; rintro e w3 ⟨rfl, hb3⟩) | (go_at_call 69; with_reducible refine (HQ.out _).mono ?_; rintro e w4 ⟨rfl, hb4'⟩))
        have hb4 : Below w.heap.size w w4 := by
          have h2 : Below w.heap.size w w2 := ((Below.refl w.heap.size w).alloc (Nat.le_refl _) _).trans (hb2.mono (by simp))
          have h3 := h2.trans (hb3.mono h2.size)
          exact h3.trans (hb4'.mono h3.size)
        exact bodyPost_ret (v := .tuple #[.slice none 0 0, .int .i64 3]) (by simp [results, Try.results27, go_sem]) rfl (paC_err HR.out rfl hb4)
    · rw [twoV_pos hp] at HP
      by_cases hq : Q = 0
      · have HR := Lib.hid (HF.out.trans (cN (by rintro ⟨_, h⟩; exact h hq)))
        subst hq
        rw [twoV_zero] at HQ
        clear cN cY lP lQ sP sQ
        go_enter Try.func27, Try.ntmps27
        go_wp2_with (first | (go_at_call 67; refine (within2_at _ _ n d _ _ _ (by go_simp) (by go_simp)).mono ?_; rintro e w1 ⟨rfl, hq⟩; subst w1; rw [HI.out]) | (go_at_call 68; refine (HD.out _).mono ?_; rintro e w2 ⟨rfl, hb2⟩) | (go_at_call 69; with_reducible refine (HP.out _).mono ?_; rintro e w3 ⟨rfl, hb3⟩) | (go_at_call 69; with_reducible refine (HQ.out _).mono ?_; rintro e w4 ⟨rfl, hb4'⟩))
        have hb4 : Below w.heap.size w w4 := by
          have h2 : Below w.heap.size w w2 := ((Below.refl w.heap.size w).alloc (Nat.le_refl _) _).trans (hb2.mono (by simp))
          have h3 := h2.trans (hb3.mono h2.size)
          exact h3.trans (hb4'.mono h3.size)
        exact bodyPost_ret (v := .tuple #[.slice none 0 0, .int .i64 3]) (by simp [results, Try.results27, go_sem]) rfl (paC_err HR.out rfl hb4)
      · rw [twoV_pos hq] at HQ
        obtain ⟨_, p1, _⟩ := sP hp
        obtain ⟨_, q1, _⟩ := sQ hq
        obtain ⟨R, hR⟩ : ∃ R, R = N / P := ⟨_, rfl⟩
        obtain ⟨S, hS⟩ : ∃ S, S = D / Q := ⟨_, rfl⟩
        have HR := Lib.hid (HF.out.trans (cY ⟨hp, hq⟩))
        rw [← hR] at p1 HP HR
        rw [← hS] at q1 HQ HR
        have v1 : IntKind.i64.wrap (2 * (P : Int)) = 2 * (P : Int) := IntWalk.i64_in _ (by omega)
        have v2 : IntKind.i64.wrap (2 * (Q : Int)) = 2 * (Q : Int) := IntWalk.i64_in _ (by omega)
        have v3 : IntKind.i64.wrap (2 * (R : Int)) = 2 * (R : Int) := IntWalk.i64_in _ (by omega)
        have v4 : IntKind.i64.wrap (2 * (S : Int)) = 2 * (S : Int) := IntWalk.i64_in _ (by omega)
        clear cN cY lP lQ sP sQ hR hS p1 q1
        go_enter Try.func27, Try.ntmps27
        go_wp2_with (first | (go_at_call 67; refine (within2_at _ _ n d _ _ _ (by go_simp) (by go_simp)).mono ?_; rintro e w1 ⟨rfl, hq⟩; subst w1; rw [HI.out]) | (go_at_call 68; refine (HD.out _).mono ?_; rintro e w2 ⟨rfl, hb2⟩) | (go_at_call 69; with_reducible refine (HP.out _).mono ?_; rintro e w3 ⟨rfl, hb3⟩) | (go_at_call 69; with_reducible refine (HQ.out _).mono ?_; rintro e w4 ⟨rfl, hb4'⟩))
        have hb4 : Below w.heap.size w w4 := by
          have h2 : Below w.heap.size w w2 := ((Below.refl w.heap.size w).alloc (Nat.le_refl _) _).trans (hb2.mono (by simp))
          have h3 := h2.trans (hb3.mono h2.size)
          exact h3.trans (hb4'.mono h3.size)
        have hs4 := hb4.size
        exact bodyPost_ret (v := .tuple #[.slice (some ⟨w4.heap.size, 0, none⟩) 2 2, .int .i64 0]) (by simp [results, Try.results27, go_sem]) rfl (paC_ok HR.out rfl rfl (own_two w4 (2 * (P : Int), 2 * (Q : Int)) (2 * (R : Int), 2 * (S : Int)) 76) hs4 (by simp) (by repeat (first | exact hb4 | refine Below.setCell ?_ (by first | omega | (simp <;> omega)) _ | refine Below.alloc ?_ (by first | omega | (simp <;> omega)) _ | refine Below.drew ?_)))
end Go.Proofs.Ytaefgkhbgljkoaa
