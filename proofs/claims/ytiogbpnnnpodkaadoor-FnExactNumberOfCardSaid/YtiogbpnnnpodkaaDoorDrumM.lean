/-
  The maths of drums: times of steps, how many there are, teeth that are broken, the busiest time.
-/
import Derived.Test.YtiogbpnnnpodkaaDoorBase
namespace Go.Proofs.YtiogbpnnnpodkaaDoor

/-- A valid drum. -/
def drumB (K B T F : Int) : Bool := decide (1 ≤ K ∧ K ≤ 3 ∧ 2 ≤ B ∧ B ≤ 16 ∧ B ≤ T ∧ T ≤ 60 ∧ (K = 3 → F = 0) ∧ (K ≠ 3 → 1 ≤ F ∧ F ≤ T - B + 2))
structure Drm (K B T F : Int) : Prop where
  k1 : 1 ≤ K
  k2 : K ≤ 3
  b1 : 2 ≤ B
  b2 : B ≤ 16
  t1 : B ≤ T
  t2 : T ≤ 60
  f3 : K = 3 → F = 0
  f1 : K ≠ 3 → 1 ≤ F ∧ F ≤ T - B + 2
section
variable {K B T F : Int}
theorem drm_of (h : drumB K B T F = true) : Drm K B T F := by
  obtain ⟨a, b, c, d, e, f, g, i⟩ := of_decide_eq_true h
  exact ⟨a, b, c, d, e, f, g, i⟩
theorem drm_to (h : Drm K B T F) : drumB K B T F = true := decide_eq_true ⟨h.1, h.2, h.3, h.4, h.5, h.6, h.7, h.8⟩
theorem drm_no (h : ¬ Drm K B T F) : drumB K B T F = false := by
  cases e : drumB K B T F with
  | false => rfl
  | true => exact absurd (drm_of e) h
theorem Drm.fb (h : Drm K B T F) : 0 ≤ F ∧ F ≤ 60 := by
  have := h.f3
  have := h.f1
  have := h.t2
  have := h.b1
  omega
end

/-- The time of the step k for the digit d. -/
def tm (K B T F d k : Int) : Int := if K = 1 then F + (B - 1 - d + k) else if K = 2 then F + k else ((k + 1) * T + d - 1) / d
theorem tm1 (B T F d k : Int) : tm 1 B T F d k = F + (B - 1 - d + k) := if_pos rfl
theorem tm2 (B T F d k : Int) : tm 2 B T F d k = F + k := rfl
theorem tm3 (B T F d k : Int) : tm 3 B T F d k = ((k + 1) * T + d - 1) / d := rfl

/-- What the rack reckons with. -/
theorem rack_bd {T d k : Int} (hT : 0 ≤ T) (hT' : T ≤ 60) (h0 : 0 ≤ k) (h1 : k < d) (h2 : d < 16) :
    0 ≤ (k + 1) * T ∧ (k + 1) * T ≤ 960 ∧ T ≤ (k + 1) * T ∧ (k + 1) * T ≤ d * T := by
  have a : 1 * T ≤ (k + 1) * T := Int.mul_le_mul_of_nonneg_right (by omega) hT
  have b : (k + 1) * T ≤ d * T := Int.mul_le_mul_of_nonneg_right (by omega) hT
  have c : d * T ≤ 16 * T := Int.mul_le_mul_of_nonneg_right (by omega) hT
  omega

section
variable {K B T F d k : Int}
theorem tm_bd (h : Drm K B T F) (h0 : 0 ≤ k) (h1 : k < d) (h2 : d < B) : 1 ≤ tm K B T F d k ∧ tm K B T F d k ≤ T := by
  have a1 := h.k1; have a2 := h.k2; have a3 := h.b1; have a4 := h.b2; have a5 := h.t1; have a6 := h.t2; have a7 := h.f1
  obtain rfl | rfl | rfl : K = 1 ∨ K = 2 ∨ K = 3 := by omega
  · rw [tm1]; omega
  · rw [tm2]; omega
  · rw [tm3]
    obtain ⟨_, _, e1, e2⟩ := rack_bd (T := T) (d := d) (k := k) (by omega) a6 h0 h1 (by omega)
    have e3 : (T + 1) * d = d * T + d := by rw [Int.add_mul, Int.mul_comm T d, Int.one_mul]
    refine ⟨Int.le_ediv_of_mul_le (by omega) (by omega), ?_⟩
    have := Int.ediv_lt_of_lt_mul (a := (k + 1) * T + d - 1) (b := T + 1) (c := d) (by omega) (by omega)
    omega
theorem tm_mono (h : Drm K B T F) (h0 : 0 ≤ k) (h1 : k + 1 < d) (h2 : d < B) : tm K B T F d k < tm K B T F d (k + 1) := by
  have a1 := h.k1; have a2 := h.k2; have a4 := h.b2; have a5 := h.t1
  obtain rfl | rfl | rfl : K = 1 ∨ K = 2 ∨ K = 3 := by omega
  · rw [tm1, tm1]; omega
  · rw [tm2, tm2]; omega
  · rw [tm3, tm3]
    have e : (k + 1 + 1) * T = (k + 1) * T + T := by rw [Int.add_mul (k + 1) 1 T, Int.one_mul]
    have f := Int.ediv_mul_le ((k + 1) * T + d - 1) (show d ≠ 0 by omega)
    have g : ((k + 1) * T + d - 1) / d + 1 ≤ ((k + 1 + 1) * T + d - 1) / d :=
      Int.le_ediv_of_mul_le (by omega) (by rw [Int.add_mul, Int.one_mul, e]; omega)
    omega
end

/-- The times of the first n steps for the digit d. -/
def tmsN (K B T F d : Int) (n : Nat) : List Int := (List.range n).map fun k : Nat => tm K B T F d (k : Int)
/-- The times of all steps for the digit d. -/
def tms (K B T F d : Int) : List Int := tmsN K B T F d d.toNat
theorem tmsN_len (K B T F d : Int) (n : Nat) : (tmsN K B T F d n).length = n := by simp [tmsN]
theorem tms_len (K B T F d : Int) : (tms K B T F d).length = d.toNat := tmsN_len ..
theorem tmsN_succ (K B T F d : Int) (n : Nat) : tmsN K B T F d (n + 1) = tmsN K B T F d n ++ [tm K B T F d (n : Int)] := by simp [tmsN, List.range_succ]
theorem tmsN_at {K B T F d : Int} {n k : Nat} (h : k < n) : nth (tmsN K B T F d n) k = tm K B T F d (k : Int) := by
  rw [nth_get (by rw [tmsN_len]; exact h)]; simp [tmsN]
theorem tms_at {K B T F d : Int} {k : Nat} (h : k < d.toNat) : nth (tms K B T F d) k = tm K B T F d (k : Int) := tmsN_at h
theorem tms_take {K B T F d : Int} {k : Nat} (h : k ≤ d.toNat) : (tms K B T F d).take k = tmsN K B T F d k := by
  unfold tms tmsN
  rw [← List.map_take, List.take_range, Nat.min_eq_left h]
theorem tms_mem {K B T F d t : Int} (h : Drm K B T F) (h2 : d < B) (ht : t ∈ tms K B T F d) : 1 ≤ t ∧ t ≤ T := by
  unfold tms tmsN at ht
  obtain ⟨k, hk, rfl⟩ := List.mem_map.1 ht
  have := List.mem_range.1 hk
  exact tm_bd h (by omega) (by omega) h2
theorem tms_bd {K B T F d : Int} (h : Drm K B T F) (h2 : d < B) {k : Nat} (hk : k < d.toNat) : 1 ≤ nth (tms K B T F d) k ∧ nth (tms K B T F d) k ≤ T := by
  rw [tms_at hk]; exact tm_bd h (by omega) (by omega) h2

/-- How many numbers are at most r. -/
def leC (r : Int) (l : List Int) : Int := ((l.filter fun t => decide (t ≤ r)).length : Nat)
theorem leC_nil (r : Int) : leC r [] = 0 := rfl
theorem leC_yes {r x : Int} (l : List Int) (h : x ≤ r) : leC r (l ++ [x]) = leC r l + 1 := by simp [leC, List.filter_append, h]
theorem leC_not {r x : Int} (l : List Int) (h : ¬ x ≤ r) : leC r (l ++ [x]) = leC r l := by simp [leC, List.filter_append, h]
theorem leC_bd (r : Int) (l : List Int) : 0 ≤ leC r l ∧ leC r l ≤ (l.length : Int) := by
  have := List.length_filter_le (fun t => decide (t ≤ r)) l
  unfold leC; omega
theorem leC_mono {r s : Int} (h : r ≤ s) (l : List Int) : leC r l ≤ leC s l := by
  induction l with
  | nil => exact Int.le_refl _
  | cons x l ih =>
    unfold leC at ih ⊢
    simp only [List.filter_cons]
    by_cases hx : x ≤ r
    · have hs : x ≤ s := by omega
      simp only [hx, hs, decide_true, if_true, List.length_cons]; omega
    · by_cases hs : x ≤ s
      · simp only [hx, hs, decide_true, decide_false, if_true, List.length_cons, Bool.false_eq_true, if_false]; omega
      · simp only [hx, hs, decide_false, Bool.false_eq_true, if_false]; exact ih
theorem leC_none {r : Int} {l : List Int} (h : ∀ x ∈ l, ¬ x ≤ r) : leC r l = 0 := by
  unfold leC
  rw [List.filter_eq_nil_iff.2 (fun x hx => by simpa using h x hx)]
  rfl

/-- How many steps the wheel has made up to the time t. -/
def byR (K B T F d t : Int) : Int := t / T * d + leC (t % T) (tms K B T F d)
section
variable {K B T F d t : Int}
theorem by_quo (h : Drm K B T F) (h1 : 0 ≤ d) (h2 : d < B) (t1 : 0 ≤ t) (t2 : t ≤ 100000) : 0 ≤ t / T ∧ t / T ≤ 50000 ∧ 0 ≤ t / T * d ∧ t / T * d ≤ 800000 ∧ 0 ≤ t % T ∧ t % T < T := by
  have a1 := h.b1; have a2 := h.b2; have a3 := h.t1
  have q0 : 0 ≤ t / T := Int.ediv_nonneg t1 (by omega)
  have q1 : t / T ≤ 50000 := by
    have := Int.ediv_lt_of_lt_mul (a := t) (b := 50001) (c := T) (by omega) (by omega)
    omega
  have q2 : 0 * d ≤ t / T * d := Int.mul_le_mul_of_nonneg_right q0 h1
  have q3 : t / T * d ≤ 50000 * d := Int.mul_le_mul_of_nonneg_right q1 h1
  have q4 := Int.emod_nonneg t (show T ≠ 0 by omega)
  have q5 := Int.emod_lt_of_pos t (show 0 < T by omega)
  omega
theorem by_cnt (h1 : 0 ≤ d) (r : Int) : 0 ≤ leC r (tms K B T F d) ∧ leC r (tms K B T F d) ≤ d := by
  have := leC_bd r (tms K B T F d)
  rw [tms_len] at this
  omega
theorem by_bd (h : Drm K B T F) (h1 : 0 ≤ d) (h2 : d < B) (t1 : 0 ≤ t) (t2 : t ≤ 100000) : 0 ≤ byR K B T F d t ∧ byR K B T F d t ≤ 800016 := by
  have := by_quo h h1 h2 t1 t2
  have := by_cnt (K := K) (B := B) (T := T) (F := F) h1 (t % T)
  have := h.b2
  unfold byR; omega
theorem by_first (h : Drm K B T F) (h2 : d < B) : leC 0 (tms K B T F d) = 0 := leC_none fun _ hx => by have := tms_mem h h2 hx; omega
theorem by_zero (h : Drm K B T F) (h2 : d < B) : byR K B T F d 0 = 0 := by
  unfold byR
  rw [Int.zero_ediv, Int.zero_emod, by_first h h2, Int.zero_mul]; rfl
theorem by_turn (h : Drm K B T F) (h2 : d < B) : byR K B T F d T = d := by
  have a1 := h.b1; have a3 := h.t1
  unfold byR
  rw [Int.ediv_self (by omega), Int.emod_self, by_first h h2, Int.one_mul, Int.add_zero]
theorem by_mono (h : Drm K B T F) (h1 : 0 ≤ d) {s : Int} (hs : t ≤ s) : byR K B T F d t ≤ byR K B T F d s := by
  have a1 := h.b1; have a3 := h.t1
  have hT : 0 < T := by omega
  have e1 := Int.mul_ediv_add_emod t T
  have e2 := Int.mul_ediv_add_emod s T
  have q := Int.ediv_le_ediv hT hs
  unfold byR
  by_cases e : t / T = s / T
  · rw [← e] at e2
    have := leC_mono (r := t % T) (s := s % T) (by omega) (tms K B T F d)
    rw [e]
    omega
  · have c1 := by_cnt (K := K) (B := B) (T := T) (F := F) h1 (t % T)
    have c2 := by_cnt (K := K) (B := B) (T := T) (F := F) h1 (s % T)
    have m : (t / T + 1) * d ≤ s / T * d := Int.mul_le_mul_of_nonneg_right (by omega) h1
    rw [Int.add_mul, Int.one_mul] at m
    omega
end

/-- The error of a drum that is to be set to a digit. -/
def codeR (K B T F d : Int) : Int := if drumB K B T F = true then (if 0 ≤ d ∧ d ≤ B - 1 then 0 else 2) else 1
theorem codeR_bad {K B T F d : Int} (h : drumB K B T F = false) : codeR K B T F d = 1 := by simp [codeR, h]
theorem codeR_range {K B T F d : Int} (h : drumB K B T F = true) (h1 : ¬ (0 ≤ d ∧ d ≤ B - 1)) : codeR K B T F d = 2 := by rw [codeR, if_pos h, if_neg h1]
theorem codeR_ok {K B T F d : Int} (h : drumB K B T F = true) (h1 : 0 ≤ d ∧ d ≤ B - 1) : codeR K B T F d = 0 := by rw [codeR, if_pos h, if_pos h1]
theorem codeR_cases (K B T F d : Int) : codeR K B T F d = 0 ∨ codeR K B T F d = 1 ∨ codeR K B T F d = 2 := by unfold codeR; split <;> (try split) <;> simp
theorem codeR_of {K B T F d : Int} (h : codeR K B T F d = 0) : Drm K B T F ∧ 0 ≤ d ∧ d < B := by
  unfold codeR at h
  split at h
  · rename_i hb
    split at h
    · rename_i hd; exact ⟨drm_of hb, hd.1, by omega⟩
    · cases h
  · cases h

/-- StepTimes. -/
def stR (K B T F d : Int) : List Int × Int := if codeR K B T F d = 0 then (tms K B T F d, 0) else ([], codeR K B T F d)
/-- StepsBetween. -/
def btnR (K B T F d f t : Int) : Int × Int := if codeR K B T F d = 0 then (if (0 ≤ f ∧ f ≤ 100000) ∧ f ≤ t ∧ t ≤ 100000 then (byR K B T F d t - byR K B T F d f, 0) else (0, 2)) else (0, codeR K B T F d)
/-- StepsBy. -/
def sbyR (K B T F d t : Int) : Int × Int := if codeR K B T F d = 0 then (if 0 ≤ t ∧ t ≤ 100000 then (byR K B T F d t, 0) else (0, 2)) else (0, codeR K B T F d)
theorem sbyR_eq (K B T F d t : Int) : sbyR K B T F d t = btnR K B T F d 0 t := by
  unfold sbyR btnR
  by_cases h : codeR K B T F d = 0
  · obtain ⟨h0, _, h2⟩ := codeR_of h
    rw [if_pos h, if_pos h, by_zero h0 h2, Int.sub_zero]
    by_cases ht : 0 ≤ t ∧ t ≤ 100000
    · rw [if_pos ht, if_pos ⟨by omega, ht⟩]
    · rw [if_neg ht, if_neg (fun x => ht x.2)]
  · rw [if_neg h, if_neg h]
/-- DigitFor. -/
def dgR (K B T F : Int) (ts : List Int) : Int × Int := if drumB K B T F = true then (if (ts.length : Int) < B ∧ tms K B T F (ts.length : Int) = ts then ((ts.length : Int), 0) else (0, 3)) else (0, 1)

/-- The tooth that makes the step k for the digit d. -/
def tooth (K B d k : Int) : Int := if K = 1 then B - 1 - d + k else k
theorem tooth_bd {K B d k : Int} (h0 : 0 ≤ k) (h1 : k < d) (h2 : d < B) : 0 ≤ tooth K B d k ∧ tooth K B d k ≤ B - 2 := by unfold tooth; split <;> omega
/-- Is the bit t of n not set? -/
def bitNo (n : Int) (t : Nat) : Bool := (bits .and .i64 (n / 2 ^ t) 1 == 0)
theorem shr_zero {x : Int} {n : Nat} : x / 2 ^ n = 0 ↔ 0 ≤ x ∧ x < 2 ^ n := by
  have hp : (0 : Int) < 2 ^ n := Int.pow_pos (by omega)
  generalize (2 : Int) ^ n = p at hp ⊢
  have e := Int.mul_ediv_add_emod x p
  have m0 := Int.emod_nonneg x (show p ≠ 0 by omega)
  have m1 := Int.emod_lt_of_pos x hp
  constructor
  · intro h; rw [h, Int.mul_zero] at e; omega
  · intro h; exact Int.ediv_eq_zero_of_lt h.1 h.2
/-- How many of the first n steps are made. -/
def brN (K B d x : Int) (n : Nat) : Nat := ((List.range n).filter fun k : Nat => bitNo x (tooth K B d (k : Int)).toNat).length
theorem brN_zero (K B d x : Int) : brN K B d x 0 = 0 := rfl
theorem brN_yes {K B d x : Int} {n : Nat} (h : bitNo x (tooth K B d (n : Int)).toNat = true) : brN K B d x (n + 1) = brN K B d x n + 1 := by
  simp [brN, List.range_succ, List.filter_append, h]
theorem brN_not {K B d x : Int} {n : Nat} (h : bitNo x (tooth K B d (n : Int)).toNat = false) : brN K B d x (n + 1) = brN K B d x n := by
  simp [brN, List.range_succ, List.filter_append, h]
theorem brN_le (K B d x : Int) (n : Nat) : brN K B d x n ≤ n := by
  have := List.length_filter_le (fun k : Nat => bitNo x (tooth K B d (k : Int)).toNat) (List.range n)
  rw [List.length_range] at this
  exact this
/-- BrokenSteps. -/
def brR (K B T F d x : Int) : Int × Int :=
  if codeR K B T F d = 0 then (if 0 ≤ x ∧ x < 2 ^ (B - 1).toNat then (if K = 3 then (0, 6) else ((brN K B d x d.toNat : Int), 0)) else (0, 2)) else (0, codeR K B T F d)

/-- One more at the place t. -/
def bump (cs : List Int) (t : Int) : List Int := cs.set t.toNat (nth cs t.toNat + 1)
theorem bump_len (cs : List Int) (t : Int) : (bump cs t).length = cs.length := by simp [bump]
theorem bumps_len (ts : List Int) : ∀ cs : List Int, (ts.foldl bump cs).length = cs.length := by
  induction ts with
  | nil => intro cs; rfl
  | cons t ts ih => intro cs; rw [List.foldl_cons, ih, bump_len]
theorem bump_nth {cs : List Int} {t : Int} {j : Nat} (h : t.toNat < cs.length) : nth (bump cs t) j = if j = t.toNat then nth cs j + 1 else nth cs j := by
  unfold bump nth
  rw [List.getElem?_set]
  by_cases e : j = t.toNat
  · rw [if_pos e.symm, if_pos h, if_pos e, e]; rfl
  · rw [if_neg (fun x => e x.symm), if_neg e]
theorem bumps_nth {j : Nat} {T : Int} : ∀ (ts cs : List Int), (∀ t ∈ ts, 0 ≤ t ∧ t ≤ T) → T.toNat < cs.length → nth (ts.foldl bump cs) j = nth cs j + ((ts.filter fun t => decide (t.toNat = j)).length : Nat)
  | [], cs, _, _ => by simp
  | t :: ts, cs, h, hc => by
    have ht := h t (List.mem_cons_self ..)
    rw [List.foldl_cons, bumps_nth ts _ (fun x hx => h x (List.mem_cons_of_mem _ hx)) (by rw [bump_len]; exact hc), bump_nth (by omega), List.filter_cons]
    by_cases e : t.toNat = j
    · have e' : decide (t.toNat = j) = true := decide_eq_true e
      rw [if_pos e.symm, e', if_pos rfl, List.length_cons]; omega
    · have e' : decide (t.toNat = j) = false := decide_eq_false e
      rw [if_neg (fun x => e x.symm), e', if_neg (by simp)]

/-- All times for some digits, one digit after the other. -/
def allT (K B T F : Int) (ds : List Int) : List Int := ds.flatMap (tms K B T F)
theorem allT_nil (K B T F : Int) : allT K B T F [] = [] := rfl
theorem allT_snoc (K B T F : Int) (ds : List Int) (d : Int) : allT K B T F (ds ++ [d]) = allT K B T F ds ++ tms K B T F d := by simp [allT]
/-- How many wheels make a step at each time. -/
def cntT (_ _ T _ : Int) (ts : List Int) : List Int := ts.foldl bump (List.replicate (T.toNat + 1) 0)
theorem cntT_len (K B T F : Int) (ts : List Int) : (cntT K B T F ts).length = T.toNat + 1 := by rw [cntT, bumps_len, List.length_replicate]
theorem cntT_snoc (K B T F : Int) (ts : List Int) (t : Int) : cntT K B T F (ts ++ [t]) = bump (cntT K B T F ts) t := by simp [cntT]

/-- The first of the places 0 .. n with the greatest number. -/
def bestTo (cs : List Int) : Nat → Nat
  | 0 => 0
  | t + 1 => if nth cs (bestTo cs t) < nth cs (t + 1) then t + 1 else bestTo cs t
theorem bestTo_le (cs : List Int) : ∀ n, bestTo cs n ≤ n
  | 0 => Nat.le_refl _
  | n + 1 => by
    have := bestTo_le cs n
    rw [bestTo]; split <;> omega
theorem bestTo_max (cs : List Int) : ∀ n j, j ≤ n → nth cs j ≤ nth cs (bestTo cs n)
  | 0, j, h => by obtain rfl : j = 0 := by omega
                  exact Int.le_refl _
  | n + 1, j, h => by
    rw [bestTo]
    by_cases e : j = n + 1
    · subst e; split <;> omega
    · have := bestTo_max cs n j (by omega)
      split <;> omega
theorem bestTo_first (cs : List Int) : ∀ n j, j < bestTo cs n → nth cs j < nth cs (bestTo cs n)
  | 0, j, h => by rw [bestTo] at h; omega
  | n + 1, j, h => by
    rw [bestTo] at h ⊢
    by_cases e : nth cs (bestTo cs n) < nth cs (n + 1)
    · rw [if_pos e] at h ⊢
      have := bestTo_max cs n j (by omega)
      omega
    · rw [if_neg e] at h ⊢
      exact bestTo_first cs n j h
/-- The counts of a register's digits. -/
def cntR (K B T F : Int) (ds : List Int) : List Int := cntT K B T F (allT K B T F ds)
end Go.Proofs.YtiogbpnnnpodkaaDoor
