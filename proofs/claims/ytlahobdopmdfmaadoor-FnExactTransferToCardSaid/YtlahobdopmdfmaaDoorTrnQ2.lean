/-
  Several texts in one: Gear, Within, AllI, AcnM, AcnI, TrnM, TrnI, PowS, AccS, AccO, AddA, TrnS, TrnL, Box2, Node, OrdP.
-/
import Derived.Test.YtlahobdopmdfmaaDoorTrnQ1
import Derived.IntWalk
import Derived.Deep.Cut
import Derived.BigQuiet

/- Gear -/
namespace Go.Proofs.YtlahobdopmdfmaaDoor

/-- Are these the teeth of a pair? (a word that the walk does not open) -/
def teethB (x : Int × Int) : Bool := inB x.1 2 120 && inB x.2 2 120
theorem teethB_true {x : Int × Int} (h : teethB x = true) : (2 ≤ x.1 ∧ x.1 ≤ 120) ∧ (2 ≤ x.2 ∧ x.2 ≤ 120) := by
  simp only [teethB, Bool.and_eq_true] at h
  exact ⟨inB_true h.1, inB_true h.2⟩
theorem teethB_false {x : Int × Int} (h : teethB x = false) : (x.1 < 2 ∨ 120 < x.1) ∨ ((2 ≤ x.1 ∧ x.1 ≤ 120) ∧ (x.2 < 2 ∨ 120 < x.2)) := by
  cases h1 : inB x.1 2 120 with
  | false => exact .inl (inB_false h1)
  | true => rw [teethB, h1, Bool.true_and] at h; exact .inr ⟨inB_true h1, inB_false h⟩
/-- Are all of them pairs? -/
def pairsB (xs : List (Int × Int)) : Bool := xs.all teethB
theorem pairsB_true {xs : List (Int × Int)} : pairsB xs = true ↔ ∀ x ∈ xs, teethB x = true := by simp [pairsB]
theorem pairsB_bad {xs : List (Int × Int)} {k : Nat} (hk : k < xs.length) (h : teethB (elt pairF xs k) = false) : pairsB xs = false := by
  cases hp : pairsB xs with
  | false => rfl
  | true => rw [pairsB_true.1 hp _ (elt_mem hk)] at h; cases h
theorem pairsB_allT {xs : List (Int × Int)} (h : ∀ x ∈ xs.take xs.length, teethB x = true) : pairsB xs = true := by
  rw [List.take_of_length_le (Nat.le_refl _)] at h; exact pairsB_true.2 h
/-- Is their number that of a train? -/
def lenB (n : Nat) : Bool := decide (1 ≤ n ∧ n ≤ 6)
theorem lenB_true {n : Nat} (h : lenB n = true) : 1 ≤ n ∧ n ≤ 6 := by simpa [lenB] using h
theorem lenB_false {n : Nat} (h : lenB n = false) : n < 1 ∨ 6 < n := by simp [lenB] at h; omega
theorem lenB_in (n : Nat) : lenB n = inB (n : Int) 1 6 := by
  rw [lenB, inB, decide_eq_decide]; omega
/-- A train. -/
def trainB (xs : List (Int × Int)) : Bool := lenB xs.length && pairsB xs
structure TrainOf (xs : List (Int × Int)) : Prop where
  n0 : 1 ≤ xs.length
  n1 : xs.length ≤ 6
  all : ∀ x ∈ xs, teethB x = true
theorem train_of {xs : List (Int × Int)} (h : trainB xs = true) : TrainOf xs := by
  simp only [trainB, Bool.and_eq_true] at h
  exact ⟨(lenB_true h.1).1, (lenB_true h.1).2, pairsB_true.1 h.2⟩
theorem train_is {xs : List (Int × Int)} (h : TrainOf xs) : trainB xs = true := by
  simp only [trainB, Bool.and_eq_true]
  exact ⟨by simp [lenB, h.n0, h.n1], pairsB_true.2 h.all⟩
theorem TrainOf.at_ {xs : List (Int × Int)} (h : TrainOf xs) {k : Nat} (hk : k < xs.length) : (2 ≤ (elt pairF xs k).1 ∧ (elt pairF xs k).1 ≤ 120) ∧ (2 ≤ (elt pairF xs k).2 ∧ (elt pairF xs k).2 ≤ 120) := teethB_true (h.all _ (elt_mem hk))

/-- By what a pair multiplies the turns. -/
def fac (x : Int × Int) : Rat := mkRat (-x.1) x.2.toNat
/-- The ratio. -/
def ratQ (xs : List (Int × Int)) : Rat := xs.foldl (fun q x => q * fac x) 1
theorem ratQ_nil : ratQ [] = 1 := rfl
theorem ratQ_snoc (xs : List (Int × Int)) (x : Int × Int) : ratQ (xs ++ [x]) = ratQ xs * fac x := by simp [ratQ]
theorem ratQ_take {xs : List (Int × Int)} {k : Nat} (hk : k < xs.length) : ratQ (xs.take (k + 1)) = ratQ (xs.take k) * fac (elt pairF xs k) := by rw [takeE_succ (F := pairF) hk, ratQ_snoc]
/-- num / den in lowest terms. -/
def red (n : Int) (d : Nat) : Rat := mkRat n d
/-- What the two divisions give. -/
theorem red_num {n : Int} {d : Nat} (hd : d ≠ 0) : n.tdiv (Nat.gcd n.natAbs d) = (red n d).num := by
  rw [red, Rat.num_mkRat, if_neg hd, Nat.gcd_comm, Int.tdiv_eq_ediv_of_dvd]
  exact Int.ofNat_dvd_left.2 (Nat.gcd_dvd_right _ _)
theorem red_den {n : Int} {d : Nat} (hd : d ≠ 0) : (d : Int).tdiv (Nat.gcd n.natAbs d) = ((red n d).den : Int) := by
  rw [red, Rat.den_mkRat, if_neg hd, Nat.gcd_comm, Int.tdiv_eq_ediv_of_nonneg (by omega)]
  rfl
theorem red_mul (p q : Rat) : red (p.num * q.num) (p.den * q.den) = p * q := by rw [red, Rat.mul_def']
theorem red_fac (q : Rat) (x : Int × Int) : red (q.num * -x.1) (q.den * x.2.toNat) = q * fac x := by
  rw [red, fac, ← Rat.mkRat_mul_mkRat, Rat.mkRat_self]
theorem red_neg (q : Rat) (x : Int × Int) : red (-q.num * x.1) (q.den * x.2.toNat) = q * fac x := by
  rw [← red_fac]; congr 1; rw [Int.mul_neg, Int.neg_mul]
theorem abs_div_le (n : Int) (g : Nat) : (n / (g : Int)).natAbs ≤ n.natAbs := by
  rcases Nat.eq_zero_or_pos g with h | h
  · subst h; simp
  · rcases Int.le_total 0 n with h1 | h1
    · obtain ⟨k, rfl⟩ := Int.eq_ofNat_of_zero_le h1
      rw [← Int.natCast_ediv]; exact Nat.div_le_self _ _
    · have e := Int.ediv_mul_le n (b := (g : Int)) (by omega)
      have h2 : n / (g : Int) ≤ 0 := by
        rcases Int.lt_or_le 0 (n / (g : Int)) with h3 | h3
        · exfalso
          have : 0 < n / (g : Int) * g := Int.mul_pos h3 (by omega)
          omega
        · exact h3
      have h4 : n ≤ n / (g : Int) := by
        have := Int.le_ediv_of_mul_le (a := n) (b := n) (c := (g : Int)) (by omega) (by
          have : n * (g : Int) ≤ n * 1 := Int.mul_le_mul_of_nonpos_left h1 (by omega)
          omega)
        exact this
      omega
theorem num_le (p q : Rat) : (p * q).num.natAbs ≤ p.num.natAbs * q.num.natAbs := by
  rw [Rat.num_mul, ← Int.natAbs_mul]; exact abs_div_le _ _
theorem den_le (p q : Rat) : (p * q).den ≤ p.den * q.den := by rw [Rat.den_mul]; exact Nat.div_le_self _ _
theorem den_dvd (p q : Rat) : (p * q).den ∣ p.den * q.den := by
  rw [Rat.den_mul]; exact Nat.div_dvd_of_dvd (Nat.gcd_dvd_right _ _)
theorem red_num_le (n : Int) (d : Nat) : (red n d).num.natAbs ≤ n.natAbs := by
  rw [red, Rat.num_mkRat]; split
  · simp
  · exact abs_div_le _ _
theorem red_den_le (n : Int) {d : Nat} (hd : d ≠ 0) : (red n d).den ≤ d := by rw [red, Rat.den_mkRat, if_neg hd]; exact Nat.div_le_self _ _
theorem red_den_dvd (n : Int) {d : Nat} (hd : d ≠ 0) : (red n d).den ∣ d := by rw [red, Rat.den_mkRat, if_neg hd]; exact Nat.div_dvd_of_dvd (Nat.gcd_dvd_left _ _)
theorem fac_num_le {x : Int × Int} (h : teethB x = true) : (fac x).num.natAbs ≤ 120 := by
  have := teethB_true h
  have := red_num_le (-x.1) x.2.toNat
  rw [red] at this
  rw [fac]; omega
theorem fac_den_dvd {x : Int × Int} (h : teethB x = true) : (fac x).den ∣ x.2.toNat := by
  have := teethB_true h
  exact red_den_dvd (-x.1) (by omega)
theorem fac_den_le {x : Int × Int} (h : teethB x = true) : (fac x).den ≤ 120 := by
  have := teethB_true h
  have := Nat.le_of_dvd (by omega) (fac_den_dvd h)
  omega
/-- Bounds of a ratio of k pairs. -/
theorem ratQ_bd {xs : List (Int × Int)} (h : ∀ x ∈ xs, teethB x = true) : ∀ k, k ≤ xs.length → (ratQ (xs.take k)).num.natAbs ≤ 120 ^ k ∧ (ratQ (xs.take k)).den ≤ 120 ^ k
  | 0, _ => by simp [ratQ_nil]
  | k + 1, hk => by
    obtain ⟨h1, h2⟩ := ratQ_bd h k (by omega)
    have hk' : k < xs.length := by omega
    have ht := h _ (elt_mem (F := pairF) hk')
    rw [ratQ_take hk', Nat.pow_succ]
    exact ⟨Nat.le_trans (num_le _ _) (Nat.mul_le_mul h1 (fac_num_le ht)), Nat.le_trans (den_le _ _) (Nat.mul_le_mul h2 (fac_den_le ht))⟩
theorem pow_le {k : Nat} (h : k ≤ 6) : 120 ^ k ≤ 2985984000000 := by
  have := Nat.pow_le_pow_right (n := 120) (by omega) h
  have e : 120 ^ 6 = 2985984000000 := by decide
  omega
theorem ratQ_in {xs : List (Int × Int)} (h : ∀ x ∈ xs, teethB x = true) {k : Nat} (hk : k ≤ xs.length) (h6 : k ≤ 6) :
    (ratQ (xs.take k)).num.natAbs ≤ 2985984000000 ∧ (ratQ (xs.take k)).den ≤ 2985984000000 := by
  have := ratQ_bd h k hk
  have := pow_le h6
  omega
theorem ratQ_in' {xs : List (Int × Int)} (h : ∀ x ∈ xs, teethB x = true) {k : Nat} (hk : k ≤ xs.length) (h6 : k ≤ 5) :
    (ratQ (xs.take k)).num.natAbs ≤ 24883200000 ∧ (ratQ (xs.take k)).den ≤ 24883200000 := by
  have := ratQ_bd h k hk
  have := Nat.pow_le_pow_right (n := 120) (by omega) h6
  have e : 120 ^ 5 = 24883200000 := by decide
  omega
theorem den_pos (q : Rat) : 0 < q.den := Nat.pos_of_ne_zero q.den_nz

/-- The ratio, and the code. -/
def ratR (xs : List (Int × Int)) : (Int × Int) × Int := if trainB xs = true then (((ratQ xs).num, ((ratQ xs).den : Int)), 0) else ((0, 0), 1)
theorem ratR_bad {xs : List (Int × Int)} (h : trainB xs = false) : ratR xs = ((0, 0), 1) := by simp [ratR, h]
theorem ratR_ok {xs : List (Int × Int)} (h : trainB xs = true) : ratR xs = (((ratQ xs).num, ((ratQ xs).den : Int)), 0) := by simp [ratR, h]
/-- The ratio times turns, and the code. -/
def outR (xs : List (Int × Int)) (t : Int) : (Int × Int) × Int :=
  if trainB xs = true then (if inB t (-1000) 1000 = true then (((red ((ratQ xs).num * t) (ratQ xs).den).num, ((red ((ratQ xs).num * t) (ratQ xs).den).den : Int)), 0) else ((0, 0), 2)) else ((0, 0), 1)
theorem outR_bad {xs : List (Int × Int)} {t : Int} (h : trainB xs = false) : outR xs t = ((0, 0), 1) := by simp [outR, h]
theorem outR_range {xs : List (Int × Int)} {t : Int} (h : trainB xs = true) (ht : inB t (-1000) 1000 = false) : outR xs t = ((0, 0), 2) := by simp [outR, h, ht]
theorem outR_ok {xs : List (Int × Int)} {t : Int} (h : trainB xs = true) (ht : inB t (-1000) 1000 = true) : outR xs t = (((red ((ratQ xs).num * t) (ratQ xs).den).num, ((red ((ratQ xs).num * t) (ratQ xs).den).den : Int)), 0) := by simp [outR, h, ht]

/-- The least common multiple of the denominators of the first k ratios. -/
def lcmTo (xs : List (Int × Int)) : Nat → Nat
  | 0 => 1
  | k + 1 => Nat.lcm (lcmTo xs k) (ratQ (xs.take (k + 1))).den
def dprod (xs : List (Int × Int)) : Nat → Nat
  | 0 => 1
  | k + 1 => dprod xs k * (elt pairF xs k).2.toNat
theorem den_dprod {xs : List (Int × Int)} (h : ∀ x ∈ xs, teethB x = true) : ∀ k, k ≤ xs.length → (ratQ (xs.take k)).den ∣ dprod xs k
  | 0, _ => by simp [ratQ_nil, dprod]
  | k + 1, hk => by
    have hk' : k < xs.length := by omega
    rw [ratQ_take hk', dprod]
    exact Nat.dvd_trans (den_dvd _ _) (Nat.mul_dvd_mul (den_dprod h k (by omega)) (fac_den_dvd (h _ (elt_mem hk'))))
theorem lcm_dprod {xs : List (Int × Int)} (h : ∀ x ∈ xs, teethB x = true) : ∀ k, k ≤ xs.length → lcmTo xs k ∣ dprod xs k
  | 0, _ => by simp [lcmTo, dprod]
  | k + 1, hk => by
    rw [lcmTo]
    exact Nat.lcm_dvd (Nat.dvd_trans (lcm_dprod h k (by omega)) ⟨_, rfl⟩) (den_dprod h (k + 1) hk)
theorem dprod_bd {xs : List (Int × Int)} (h : ∀ x ∈ xs, teethB x = true) : ∀ k, k ≤ xs.length → 1 ≤ dprod xs k ∧ dprod xs k ≤ 120 ^ k
  | 0, _ => by simp [dprod]
  | k + 1, hk => by
    obtain ⟨h1, h2⟩ := dprod_bd h k (by omega)
    have := teethB_true (h _ (elt_mem (F := pairF) (show k < xs.length by omega)))
    rw [dprod, Nat.pow_succ]
    exact ⟨Nat.mul_pos h1 (by omega), Nat.mul_le_mul h2 (by omega)⟩
theorem lcmTo_bd {xs : List (Int × Int)} (h : ∀ x ∈ xs, teethB x = true) {k : Nat} (hk : k ≤ xs.length) (h6 : k ≤ 6) : 1 ≤ lcmTo xs k ∧ lcmTo xs k ≤ 2985984000000 := by
  obtain ⟨h1, h2⟩ := dprod_bd h k hk
  have hd := lcm_dprod h k hk
  have := Nat.le_of_dvd h1 hd
  have := pow_le h6
  exact ⟨Nat.pos_of_dvd_of_pos hd h1, by omega⟩
theorem lcm_step (a b : Nat) : a / Nat.gcd a b * b = Nat.lcm a b := by
  rw [Nat.lcm, Nat.mul_comm, ← Nat.mul_div_assoc _ (Nat.gcd_dvd_left a b), Nat.mul_comm]
def leastR (xs : List (Int × Int)) : Int × Int := if trainB xs = true then ((lcmTo xs xs.length : Int), 0) else (0, 1)
theorem leastR_bad {xs : List (Int × Int)} (h : trainB xs = false) : leastR xs = (0, 1) := by simp [leastR, h]
theorem leastR_ok {xs : List (Int × Int)} (h : trainB xs = true) : leastR xs = ((lcmTo xs xs.length : Int), 0) := by simp [leastR, h]

/-- The train that is driven from its end. -/
def swapP (x : Int × Int) : Int × Int := (x.2, x.1)
def backL (xs : List (Int × Int)) : List (Int × Int) := xs.reverse.map swapP
def backR' (xs : List (Int × Int)) : List (Int × Int) × Int := if trainB xs = true then (backL xs, 0) else ([], 1)
theorem backR'_bad {xs : List (Int × Int)} (h : trainB xs = false) : backR' xs = ([], 1) := by simp [backR', h]
theorem backR'_ok {xs : List (Int × Int)} (h : trainB xs = true) : backR' xs = (backL xs, 0) := by simp [backR', h]
/-- What has come when the pairs from j on have been turned. -/
def backTo (xs : List (Int × Int)) (j : Nat) : List (Int × Int) := (xs.drop j).reverse.map swapP
theorem backTo_all (xs : List (Int × Int)) : backTo xs 0 = backL xs := rfl
theorem backTo_len (xs : List (Int × Int)) : backTo xs xs.length = [] := by simp [backTo]
theorem backTo_step {xs : List (Int × Int)} {j : Nat} (hj : j < xs.length) : backTo xs j = backTo xs (j + 1) ++ [swapP (elt pairF xs j)] := by
  rw [backTo, dropE (F := pairF) hj]; simp [backTo]
theorem backTo_length (xs : List (Int × Int)) (j : Nat) : (backTo xs j).length = xs.length - j := by simp [backTo]
def joinR (xs ys : List (Int × Int)) : List (Int × Int) × Int :=
  if trainB xs = true ∧ trainB ys = true then (if xs.length + ys.length ≤ 6 then (xs ++ ys, 0) else ([], 5)) else ([], 1)
theorem joinR_bad {xs ys : List (Int × Int)} (h : trainB xs = false ∨ trainB ys = false) : joinR xs ys = ([], 1) := by
  rw [joinR, if_neg]; rintro ⟨h1, h2⟩; rcases h with h | h <;> simp_all
theorem joinR_full {xs ys : List (Int × Int)} (h1 : trainB xs = true) (h2 : trainB ys = true) (h : ¬ xs.length + ys.length ≤ 6) : joinR xs ys = ([], 5) := by rw [joinR, if_pos ⟨h1, h2⟩, if_neg h]
theorem joinR_ok {xs ys : List (Int × Int)} (h1 : trainB xs = true) (h2 : trainB ys = true) (h : xs.length + ys.length ≤ 6) : joinR xs ys = (xs ++ ys, 0) := by rw [joinR, if_pos ⟨h1, h2⟩, if_pos h]

/-- The first factor of n from p on, of k, that is as wanted; 0 for none. -/
def fF (n : Nat) : Nat → Nat → Nat
  | 0, _ => 0
  | k + 1, p => if n % p = 0 ∧ n / p ≤ 60 then p else fF n k (p + 1)
theorem fF_hit {n k p : Nat} (h : n % p = 0 ∧ n / p ≤ 60) : fF n (k + 1) p = p := by simp [fF, h]
theorem fF_miss {n k p : Nat} (h : ¬ (n % p = 0 ∧ n / p ≤ 60)) : fF n (k + 1) p = fF n k (p + 1) := by simp only [fF, if_neg h]
theorem fF_le {n : Nat} : ∀ k p, fF n k p < p + k ∨ fF n k p = 0
  | 0, _ => .inr rfl
  | k + 1, p => by
    unfold fF; split
    · exact .inl (by omega)
    · have := fF_le (n := n) k (p + 1); omega
theorem fF_past {n : Nat} (hn : 1 ≤ n) : ∀ k p, n < p → fF n k p = 0
  | 0, _, _ => rfl
  | k + 1, p, hp => by
    rw [fF_miss (by rw [Nat.mod_eq_of_lt hp]; omega)]
    exact fF_past hn k (p + 1) (by omega)
theorem fF_spec {n : Nat} : ∀ k p, fF n k p ≠ 0 → n % fF n k p = 0 ∧ n / fF n k p ≤ 60 ∧ p ≤ fF n k p
  | 0, _, h => absurd rfl h
  | k + 1, p, h => by
    by_cases hc : n % p = 0 ∧ n / p ≤ 60
    · rw [fF_hit hc]; exact ⟨hc.1, hc.2, Nat.le_refl _⟩
    · rw [fF_miss hc] at h ⊢
      have := fF_spec k (p + 1) h
      exact ⟨this.1, this.2.1, by omega⟩
def findL (n d : Nat) : List (Int × Int) := [(2 * (fF n 60 1 : Int), 2 * (fF d 60 1 : Int)), (2 * ((n / fF n 60 1 : Nat) : Int), 2 * ((d / fF d 60 1 : Nat) : Int))]
def findC (n d : Nat) : List (Int × Int) × Int := if fF n 60 1 ≠ 0 ∧ fF d 60 1 ≠ 0 then (findL n d, 0) else ([], 3)
def findR (num den : Int) : List (Int × Int) × Int :=
  if inB num 1 1000000 = true ∧ inB den 1 1000000 = true then findC (red num den.toNat).num.natAbs (red num den.toNat).den else ([], 2)
theorem findR_bad {num den : Int} (h : inB num 1 1000000 = false ∨ inB den 1 1000000 = false) : findR num den = ([], 2) := by
  rw [findR, if_neg]; rintro ⟨h1, h2⟩; rcases h with h | h <;> simp_all
theorem findR_ok {num den : Int} (h1 : inB num 1 1000000 = true) (h2 : inB den 1 1000000 = true) : findR num den = findC (red num den.toNat).num.natAbs (red num den.toNat).den := by rw [findR, if_pos ⟨h1, h2⟩]

/-- Does each place of a chain differ from the next one by at most the play? -/
def joinedAt (pl ps : List Int) (k : Nat) : Bool := decide (nth ps (k + 1) - nth ps k ≤ nth pl k ∧ nth ps k - nth ps (k + 1) ≤ nth pl k)
def joinedTo (pl ps : List Int) : Nat → Bool
  | 0 => true
  | k + 1 => joinedTo pl ps k && joinedAt pl ps k
theorem joinedTo_all {pl ps : List Int} : ∀ {n : Nat}, joinedTo pl ps n = true ↔ ∀ k, k < n → joinedAt pl ps k = true
  | 0 => by simp [joinedTo]
  | n + 1 => by
    rw [joinedTo, Bool.and_eq_true, joinedTo_all]
    constructor
    · rintro ⟨h1, h2⟩ k hk
      rcases Nat.lt_or_ge k n with h | h
      · exact h1 k h
      · obtain rfl : k = n := by omega
        exact h2
    · intro h; exact ⟨fun k hk => h k (by omega), h n (by omega)⟩
theorem joinedTo_bad {pl ps : List Int} {n k : Nat} (hk : k < n) (h : joinedAt pl ps k = false) : joinedTo pl ps n = false := by
  cases hj : joinedTo pl ps n with
  | false => rfl
  | true => rw [joinedTo_all.1 hj k hk] at h; cases h
/-- Are all numbers from lo to hi? -/
def rangeB (lo hi : Int) (zs : List Int) : Bool := zs.all fun z => inB z lo hi
theorem rangeB_true {lo hi : Int} {zs : List Int} : rangeB lo hi zs = true ↔ ∀ z ∈ zs, inB z lo hi = true := by simp [rangeB]
theorem nth_mem {zs : List Int} {k : Nat} (hk : k < zs.length) : nth zs k ∈ zs := by rw [nth_get hk]; exact List.getElem_mem _
theorem rangeB_bad {lo hi : Int} {zs : List Int} {k : Nat} (hk : k < zs.length) (h : inB (nth zs k) lo hi = false) : rangeB lo hi zs = false := by
  cases hp : rangeB lo hi zs with
  | false => rfl
  | true => rw [rangeB_true.1 hp _ (nth_mem hk)] at h; cases h
theorem rangeB_at {lo hi : Int} {zs : List Int} {k : Nat} (h : rangeB lo hi zs = true) (hk : k < zs.length) : lo ≤ nth zs k ∧ nth zs k ≤ hi := inB_true (rangeB_true.1 h _ (nth_mem hk))
theorem rangeB_allT {lo hi : Int} {zs : List Int} (h : ∀ z ∈ zs.take zs.length, inB z lo hi = true) : rangeB lo hi zs = true := by
  rw [List.take_of_length_le (Nat.le_refl _)] at h; exact rangeB_true.2 h
def linksB (pl ps : List Int) : Bool := decide ((1 ≤ pl.length ∧ pl.length ≤ 10) ∧ ps.length = pl.length + 1)
theorem linksB_true {pl ps : List Int} (h : linksB pl ps = true) : (1 ≤ pl.length ∧ pl.length ≤ 10) ∧ ps.length = pl.length + 1 := by simpa [linksB] using h
theorem linksB_false {pl ps : List Int} (h : linksB pl ps = false) : (pl.length < 1 ∨ 10 < pl.length) ∨ ((1 ≤ pl.length ∧ pl.length ≤ 10) ∧ ps.length ≠ pl.length + 1) := by simp [linksB] at h; omega
/-- A chain. -/
def chainB (pl ps : List Int) : Bool := linksB pl ps && (rangeB 0 100 pl && (rangeB (-1000000) 1000000 ps && joinedTo pl ps pl.length))
structure ChainOf (pl ps : List Int) : Prop where
  n0 : 1 ≤ pl.length
  n1 : pl.length ≤ 10
  ln : ps.length = pl.length + 1
  play : ∀ k, k < pl.length → 0 ≤ nth pl k ∧ nth pl k ≤ 100
  place : ∀ k, k < ps.length → -1000000 ≤ nth ps k ∧ nth ps k ≤ 1000000
  join : ∀ k, k < pl.length → nth ps (k + 1) - nth ps k ≤ nth pl k ∧ nth ps k - nth ps (k + 1) ≤ nth pl k
theorem chain_of {pl ps : List Int} (h : chainB pl ps = true) : ChainOf pl ps := by
  simp only [chainB, Bool.and_eq_true] at h
  obtain ⟨h1, h2, h3, h4⟩ := h
  have := linksB_true h1
  exact ⟨this.1.1, this.1.2, this.2, fun k hk => rangeB_at h2 hk, fun k hk => rangeB_at h3 hk, fun k hk => by simpa [joinedAt] using joinedTo_all.1 h4 k hk⟩
/-- Equal chains (a word that the walk does not open). -/
def chEqB (p p' q q' : List Int) : Bool := decide (p = p' ∧ q = q')
theorem chEqB_self (p q : List Int) : chEqB p p q q = true := by simp [chEqB]

/-- Where place k goes if the first one moves. -/
def mvF (pl ps : List Int) (to : Int) : Nat → Int
  | 0 => to
  | k + 1 => min (max (nth ps (k + 1)) (mvF pl ps to k - nth pl k)) (mvF pl ps to k + nth pl k)
theorem mvF_bd {pl ps : List Int} (h : ChainOf pl ps) {to : Int} (h0 : -1000000 ≤ to) (h1 : to ≤ 1000000) : ∀ k, k ≤ pl.length → -1001000 ≤ mvF pl ps to k ∧ mvF pl ps to k ≤ 1001000
  | 0, _ => by simp only [mvF]; omega
  | k + 1, hk => by
    have b := mvF_in h h0 h1 (k + 1) hk
    have := h.n1
    have : ((k + 1 : Nat) : Int) ≤ 10 := by omega
    omega
where mvF_in {pl ps : List Int} (h : ChainOf pl ps) {to : Int} (h0 : -1000000 ≤ to) (h1 : to ≤ 1000000) : ∀ k, k ≤ pl.length → -1000000 - 100 * (k : Int) ≤ mvF pl ps to k ∧ mvF pl ps to k ≤ 1000000 + 100 * (k : Int)
  | 0, _ => by simp only [mvF]; omega
  | k + 1, hk => by
    have b := mvF_in h h0 h1 k (by omega)
    have p := h.play k (by omega)
    have q := h.place (k + 1) (by have := h.ln; omega)
    simp only [mvF]; omega
def mvL (pl ps : List Int) (to : Int) : List Int := tab (mvF pl ps to) (pl.length + 1)
def mvR (pl ps : List Int) (to : Int) : List Int × List Int × Int :=
  if chainB pl ps = true then (if inB to (-1000000) 1000000 = true then (pl, mvL pl ps to, 0) else ([], [], 2)) else ([], [], 1)
theorem mvR_bad {pl ps : List Int} {to : Int} (h : chainB pl ps = false) : mvR pl ps to = ([], [], 1) := by simp [mvR, h]
theorem mvR_range {pl ps : List Int} {to : Int} (h : chainB pl ps = true) (ht : inB to (-1000000) 1000000 = false) : mvR pl ps to = ([], [], 2) := by simp [mvR, h, ht]
theorem mvR_ok {pl ps : List Int} {to : Int} (h : chainB pl ps = true) (ht : inB to (-1000000) 1000000 = true) : mvR pl ps to = (pl, mvL pl ps to, 0) := by simp [mvR, h, ht]
/-- The sum of the first k. -/
def sumTo (zs : List Int) : Nat → Int
  | 0 => 0
  | k + 1 => sumTo zs k + nth zs k
theorem sumTo_bd {pl ps : List Int} (h : ChainOf pl ps) : ∀ k, k ≤ pl.length → 0 ≤ sumTo pl k ∧ sumTo pl k ≤ 100 * (k : Int)
  | 0, _ => by simp [sumTo]
  | k + 1, hk => by
    have := sumTo_bd h k (by omega)
    have := h.play k (by omega)
    simp only [sumTo]; omega
def totR (pl ps : List Int) : Int × Int := if chainB pl ps = true then (sumTo pl pl.length, 0) else (0, 1)
theorem totR_bad {pl ps : List Int} (h : chainB pl ps = false) : totR pl ps = (0, 1) := by simp [totR, h]
theorem totR_ok {pl ps : List Int} (h : chainB pl ps = true) : totR pl ps = (sumTo pl pl.length, 0) := by simp [totR, h]
def needTo (pl ps : List Int) (g : Int) : Int := if nth ps pl.length < g then g + sumTo pl pl.length else if g < nth ps pl.length then g - sumTo pl pl.length else nth ps 0
def needR (pl ps : List Int) (g : Int) : Int × Int :=
  if chainB pl ps = true then (if inB g (-1000000) 1000000 = true ∧ inB (needTo pl ps g) (-1000000) 1000000 = true then (needTo pl ps g, 0) else (0, 2)) else (0, 1)
theorem needR_bad {pl ps : List Int} {g : Int} (h : chainB pl ps = false) : needR pl ps g = (0, 1) := by simp [needR, h]
theorem needR_range {pl ps : List Int} {g : Int} (h : chainB pl ps = true) (ht : inB g (-1000000) 1000000 = false ∨ inB (needTo pl ps g) (-1000000) 1000000 = false) : needR pl ps g = (0, 2) := by
  rw [needR, if_pos h, if_neg]; rintro ⟨h1, h2⟩; rcases ht with h | h <;> simp_all
theorem needR_ok {pl ps : List Int} {g : Int} (h : chainB pl ps = true) (h1 : inB g (-1000000) 1000000 = true) (h2 : inB (needTo pl ps g) (-1000000) 1000000 = true) : needR pl ps g = (needTo pl ps g, 0) := by
  rw [needR, if_pos h, if_pos ⟨h1, h2⟩]
theorem all_takeZ {zs : List Int} {p : Int → Prop} {k : Nat} (hk : k < zs.length) (h : ∀ d ∈ zs.take k, p d) (hn : p (nth zs k)) : ∀ d ∈ zs.take (k + 1), p d := by
  rw [List.take_succ_eq_append_getElem hk, ← nth_get hk]
  intro d hd
  rcases List.mem_append.1 hd with h1 | h1
  · exact h d h1
  · rw [List.mem_singleton] at h1; subst h1; exact hn
end Go.Proofs.YtlahobdopmdfmaaDoor

/- Within -/
namespace Go.Proofs.YtlahobdopmdfmaaDoor
open Go.RowKit

set_option maxHeartbeats 1000000 in
theorem within_any (lo hi : Int) (a : Option Addr) (c : Nat) (zs : List Int) (w : World) (ha : Rd w a zs) :
    Calls Tryd.prog 117 #[.int .i64 lo, .int .i64 hi, .slice a zs.length c] w fun e w' => e = .returned (.bool (rangeB lo hi zs)) ∧ w' = w := by
  have hx := ha.len
  go_enter Tryd.func117, Tryd.ntmps117
  go_wp2
  go_loop [8, 11] (fun _ i => ∃ k : Nat, k ≤ zs.length ∧ i = .int .i64 k ∧ Hid (∀ d ∈ zs.take k, inB d lo hi = true)) (fun _ i => zs.length - (intOf i).toNat)
  case atStart => exact ⟨0, Nat.zero_le _, rfl, Lib.hid (by simp)⟩
  case round =>
    obtain ⟨k, hk, rfl, HT⟩ := hrel
    by_cases hlt : k < zs.length
    · obtain ⟨p, off, rfl, hc⟩ := ha.at_ hlt
      cases hd : inB (nth zs k) lo hi with
      | true =>
        have HT' := Lib.hid (all_takeZ (p := fun d => inB d lo hi = true) hlt HT.out hd)
        obtain ⟨hd1, hd2⟩ := inB_true hd
        clear hd
        go_wp2
        go_round
        case rel => exact ⟨k + 1, by omega, by go_num, HT'⟩
        case measure => (simp [intOf]) <;> omega
      | false =>
        have HF := Lib.hid (rangeB_bad hlt hd)
        have hd' : nth zs k < lo ∨ (lo ≤ nth zs k ∧ hi < nth zs k) := by have := inB_false hd; omega
        clear hd
        rcases hd' with h1 | ⟨h1, h2⟩
        all_goals
          go_wp2
          go_ret
          exact ⟨ret_bool HF.out.symm, rfl⟩
    · obtain rfl : k = zs.length := by omega
      have HD := Lib.hid (rangeB_allT HT.out)
      go_wp2
      go_ret
      exact ⟨ret_bool HD.out.symm, rfl⟩

theorem within1 (lo hi z : Int) : rangeB lo hi [z] = inB z lo hi := by simp [rangeB]
theorem within2 (lo hi : Int) (x : Int × Int) : rangeB lo hi [x.1, x.2] = (inB x.1 lo hi && inB x.2 lo hi) := by simp [rangeB]
theorem rd_new1 (w : World) (z : Int) (t : TypeId) : Rd (w.alloc (.cells #[.int .i64 z] t)) (some ⟨w.heap.size, 0, none⟩) [z] :=
  ⟨by simp, fun _ => ⟨_, 0, rfl, fun i hi => by
    obtain rfl : i = 0 := by simp at hi; omega
    exact (Bx.new w #[.int .i64 z] t).at_ 0 rfl⟩⟩
theorem rd_new2 (w : World) (y z : Int) (t : TypeId) : Rd (w.alloc (.cells #[.int .i64 y, .int .i64 z] t)) (some ⟨w.heap.size, 0, none⟩) [y, z] :=
  ⟨by simp, fun _ => ⟨_, 0, rfl, fun i hi => by
    simp at hi
    obtain rfl | rfl : i = 0 ∨ i = 1 := by omega
    · exact (Bx.new w #[.int .i64 y, .int .i64 z] t).at_ 0 rfl
    · exact (Bx.new w #[.int .i64 y, .int .i64 z] t).at_ 1 rfl⟩⟩
theorem rd_at1 {w : World} {g : Nat} {z : Int} (h : w.cell? ⟨g, 0, none⟩ = some (.int .i64 z)) : Rd w (some ⟨g, 0, none⟩) [z] :=
  ⟨by simp, fun _ => ⟨_, 0, rfl, fun i hi => by
    obtain rfl : i = 0 := by simp at hi; omega
    exact h⟩⟩
theorem rd_at2 {w : World} {g : Nat} {y z : Int} (h0 : w.cell? ⟨g, 0, none⟩ = some (.int .i64 y)) (h1 : w.cell? ⟨g, 1, none⟩ = some (.int .i64 z)) : Rd w (some ⟨g, 0, none⟩) [y, z] :=
  ⟨by simp, fun _ => ⟨_, 0, rfl, fun i hi => by
    simp at hi
    obtain rfl | rfl : i = 0 ∨ i = 1 := by omega
    · exact h0
    · exact h1⟩⟩
/-- One number laid into a slice of its own, asked. -/
theorem within1_at (lo hi z : Int) (w : World) (g c : Nat) (h : w.cell? ⟨g, 0, none⟩ = some (.int .i64 z)) :
    Calls Tryd.prog 117 #[.int .i64 lo, .int .i64 hi, .slice (some ⟨g, 0, none⟩) 1 c] w fun e w' => e = .returned (.bool (inB z lo hi)) ∧ w' = w := by
  have := within_any lo hi _ c [z] _ (rd_at1 h)
  rwa [within1] at this
theorem within2_at (lo hi y z : Int) (w : World) (g c : Nat) (h0 : w.cell? ⟨g, 0, none⟩ = some (.int .i64 y)) (h1 : w.cell? ⟨g, 1, none⟩ = some (.int .i64 z)) :
    Calls Tryd.prog 117 #[.int .i64 lo, .int .i64 hi, .slice (some ⟨g, 0, none⟩) 2 c] w fun e w' => e = .returned (.bool (inB y lo hi && inB z lo hi)) ∧ w' = w := by
  have := within_any lo hi _ c [y, z] _ (rd_at2 h0 h1)
  rwa [show rangeB lo hi [y, z] = (inB y lo hi && inB z lo hi) by simp [rangeB]] at this
end Go.Proofs.YtlahobdopmdfmaaDoor

/- AllI -/
namespace Go.Proofs.YtlahobdopmdfmaaDoor
open Go.RowKit

/-- The closure. -/
def accF (c : Nat) : Value := .func (.func 168) #[] #[.pointer (some ⟨c, 0, none⟩), .pointer (some ⟨c + 1, 0, none⟩)]

set_option maxHeartbeats 1000000 in
theorem accumulating_any (B n N s : Int) (w : World) :
    Calls Tryd.prog 124 #[.agg #[.int .i64 B, .int .i64 n, .int .i64 N], .int .i64 s] w fun e w' => e = .returned (accF w.heap.size) ∧
      Bx w' w.heap.size 113 #[.int .i64 B, .int .i64 n, .int .i64 N] ∧ Bx w' (w.heap.size + 1) 2 #[.int .i64 s] ∧ Below w.heap.size w w' := by
  go_enter Tryd.func124, Tryd.ntmps124
  go_wp2
  go_ret
  refine ⟨rfl, (Bx.new _ _ _).alloc _, ?_, (by repeat (first | exact Below.refl _ _ | refine Below.setCell ?_ (by first | omega | (simp <;> omega)) _ | refine Below.alloc ?_ (by first | omega | (simp <;> omega)) _ | refine Below.drew ?_))⟩
  simpa using Bx.new (w.alloc (.cells #[.int .i64 B, .int .i64 n, .int .i64 N] 113)) #[.int .i64 s] 2

/-- What the closure tells of the bell. -/
def bellO (a : Addr) (i : Bool) : Value := match i with | true => .nilIface | false => bellV a

set_option maxHeartbeats 4000000 in
theorem accStep_any (a : Addr) (B n N s x : Int) (c : Nat) (w : World) (h1 : 1 ≤ N) (h2 : N ≤ 1000000000001) (hs1 : -1000000000001 ≤ s) (hs2 : s ≤ 1000000000001) (hx1 : -1000000000000 ≤ x) (hx2 : x ≤ 1000000000000) (hl : BellAt w a)
    (b1 : Bx w c 113 #[.int .i64 B, .int .i64 n, .int .i64 N]) (b2 : Bx w (c + 1) 2 #[.int .i64 s]) :
    Calls Tryd.prog 168 #[.int .i64 x, .pointer (some ⟨c, 0, none⟩), .pointer (some ⟨c + 1, 0, none⟩)] w fun e w' => e = .returned (.tuple #[.int .i64 (shn N (s + x)), bellO a (inA N (s + x))]) ∧
      Bx w' c 113 #[.int .i64 B, .int .i64 n, .int .i64 N] ∧ Bx w' (c + 1) 2 #[.int .i64 (shn N (s + x))] ∧ Touch (c + 1) (c + 2) w w' := by
  have R := Tryd.results168
  obtain ⟨y, hy⟩ : ∃ y, y = s + x := ⟨_, rfl⟩
  rw [← hy]
  have hw1 : IntKind.i64.wrap (s + x) = y := by rw [← hy]; exact IntWalk.i64_in _ (by omega)
  have hw2 : wrap64 (s + x) = y := by rw [← hy]; unfold wrap64; omega
  have hy64 : I64 y := i64_of (by omega) (by omega)
  have hcz := b2.lt
  clear hy
  have c0 := b1.at_ 0 rfl
  have c1 := b1.at_ 1 rfl
  have c2 := b1.at_ 2 rfl
  have d0 := b2.at_ 0 rfl
  cases hi : inA N y with
  | true =>
    have hsy := (shn_eq h1 y).2 hi
    rw [hsy]
    have HC := Lib.hid (shown_in B n N y w h1 h2 hy64 hi)
    clear hi hsy
    go_enter Tryd.func168, Tryd.ntmps168
    go_wp2_with fail
    refine HC.out.mono ?_
    rintro e w1 ⟨rfl, hb⟩
    replace b1 := b1.below hb
    replace b2 := b2.below hb
    have hsz := hb.size
    clear c0 c1 c2 d0 HC
    have d0 := b2.at_ 0 rfl
    have df := b2.thaw 0
    go_wp2
    exact bodyPost_ret (v := .tuple #[.int .i64 y, .nilIface]) (by simp [results, go_sem]) rfl
      ⟨rfl, b1.far (by simp) _, by simpa using b2.set_ 0 (.int .i64 y), Touch.setCell (Below.touch hb) (p := ⟨c + 1, 0, none⟩) (Nat.le_refl _) (by simp) _⟩
  | false =>
    have HC := Lib.hid (shown_out B n N y a w h1 h2 hy64 hi hl)
    clear hi
    obtain ⟨z, hz⟩ : ∃ z, z = shn N y := ⟨_, rfl⟩
    rw [← hz] at HC ⊢
    clear hz
    go_enter Tryd.func168, Tryd.ntmps168
    go_wp2_with fail
    refine HC.out.mono ?_
    rintro e w1 ⟨rfl, hb⟩
    replace b1 := b1.below hb
    replace b2 := b2.below hb
    have hsz := hb.size
    clear c0 c1 c2 d0 HC
    have d0 := b2.at_ 0 rfl
    have df := b2.thaw 0
    go_wp2
    exact bodyPost_ret (v := .tuple #[.int .i64 z, bellV a]) (by simp [results, go_sem]) rfl
      ⟨rfl, b1.far (by simp) _, by simpa using b2.set_ 0 (.int .i64 z), Touch.setCell (Below.touch hb) (p := ⟨c + 1, 0, none⟩) (Nat.le_refl _) (by simp) _⟩

theorem is_bell (a : Addr) (i : Bool) (w : World) :
    Calls Tryd.prog 107 #[bellO a i, bellV a] w fun e w' => e = .returned (.bool (!i)) ∧ w' = w := by
  cases i with
  | true => exact is_nil a w
  | false => exact is_same a w

theorem rangeB_most (l : List Int) : rangeB (-1000000000000) 1000000000000 l = mostB l := by
  unfold rangeB mostB
  rw [Bool.eq_iff_iff]
  simp [inB]
theorem numA_small' {B : Int} {zs : List Int} (h : accB B zs = true) : -1000000000001 ≤ numA B zs ∧ numA B zs ≤ 1000000000001 := by
  have h1 := numA_in h
  have h2 := cntA_bd (accB_full h)
  omega

set_option maxRecDepth 100000 in
set_option maxHeartbeats 8000000 in
theorem accAll_any (a : Addr) (xB : Int) (xA : Option Addr) (xC : Nat) (xZ : List Int) (lA : Option Addr) (lC : Nat) (lZ : List Int) (w : World) (ha : Rd w xA xZ) (z : All64 xZ) (b : I64 xB) (hlst : Rd w lA lZ) (hl : BellAt w a) :
    Calls Tryd.prog 44 #[.agg #[.int .i64 xB, .slice xA xZ.length xC], .slice lA lZ.length lC] w (RegLisC (accR xB xZ lZ) w) := by
  have R := Tryd.results44
  have hbel : Below w.heap.size w w := Below.refl _ _
  have hll := hlst.len
  have HL0 := Lib.hid hlst
  have HBA := Lib.hid hl
  cases h : accB xB xZ with
  | false =>
    have HR := Lib.hid (show accR xB xZ lZ = (0, [], [], 1) by simp [accR, h])
    have HO := Lib.hid (fun u (ha : Rd u xA xZ) => accOf_no xB xA xC xZ u ha z b h)
    clear h
    go_enter Tryd.func44, Tryd.ntmps44
    go_wp2_with fail
    obtain ⟨p, hp⟩ : ∃ g, g = w.heap.size := ⟨_, rfl⟩
    have hk_p : w.heap.size ≤ p := Nat.le_of_eq hp.symm
    obtain ⟨u, hu⟩ : ∃ V, V = (w.alloc (.cells #[.int .i64 xB, .slice xA xZ.length xC] 26)).alloc (.cells #[.int .i64 0, .slice none 0 0] 26) := ⟨_, rfl⟩
    have b_p : Bx u p 26 #[.int .i64 xB, .slice xA xZ.length xC] := by rw [hu, hp]; exact (Bx.new _ _ _).alloc _
    have b_p1 : Bx u (p + 1) 26 #[.int .i64 0, .slice none 0 0] := by rw [hu, hp]; simpa using Bx.new (w.alloc (.cells #[.int .i64 xB, .slice xA xZ.length xC] 26)) #[.int .i64 0, .slice none 0 0] 26
    have hb : Below w.heap.size w u := by rw [hu]; exact ((Below.refl _ _).alloc (Nat.le_refl _) _).alloc (by simp) _
    rw [← hp, ← hu]
    clear hu hp
    replace ha := ha.below hb
    replace hbel := hbel.trans (hb.mono hbel.size)
    clear hb
    refine (HO.out u ha).mono ?_
    rintro e v ⟨rfl, hb⟩
    replace ha := ha.below hb
    replace b_p := b_p.below hb
    replace b_p1 := b_p1.below hb
    replace hbel := hbel.trans (hb.mono hbel.size)
    clear hb
    go_upto_region 2 with fail
    obtain ⟨q, hq⟩ : ∃ g, g = v.heap.size := ⟨_, rfl⟩
    have hk_q : v.heap.size ≤ q := Nat.le_of_eq hq.symm
    obtain ⟨v2, hv2⟩ : ∃ V, V = v.alloc (.cells #[.int .i64 0, .int .i64 0, .int .i64 0] 113) := ⟨_, rfl⟩
    have b_q : Bx v2 q 113 #[.int .i64 0, .int .i64 0, .int .i64 0] := by rw [hv2, hq]; exact Bx.new _ _ _
    have hb : Below v.heap.size v v2 := by rw [hv2]; exact (Below.refl _ _).alloc (Nat.le_refl _) _
    rw [← hq, ← hv2]
    clear hv2 hq
    replace ha := ha.below hb
    replace b_p := b_p.below hb
    replace b_p1 := b_p1.below hb
    replace hbel := hbel.trans (hb.mono hbel.size)
    clear hb
    have r0 := b_p1.at_ 0 rfl
    have r1 := b_p1.at_ 1 rfl
    have f0 := b_p1.thaw 0
    have f1 := b_p1.thaw 1
    have hs := b_p1.lt
    have hbs := hbel.size
    go_wp2
    exact bodyPost_ret (v := .tuple #[.agg #[.int .i64 0, .slice none 0 0], .slice none 0 0, .int .i64 1]) (by simp [results, go_sem, r0, r1]) rfl
      (regLisC_err HR.out rfl (by repeat (first | with_reducible exact hbel | with_reducible refine Below.setCell ?_ (by first | omega | (simp <;> omega)) _ | with_reducible refine Below.alloc ?_ (by first | omega | (simp <;> omega)) _ | with_reducible refine Below.drew ?_)))
  | true =>
    have hlen := (okB_spec (accB_spec h).1).2.2.2.1
    have hlen0 := (okB_spec (accB_spec h).1).2.2.1
    have hF := accB_full h
    have HF := Lib.hid hF
    have hc := cntA_bd hF
    have hsm := numA_small' h
    have HO := Lib.hid (fun u (ha : Rd u xA xZ) (hl : BellAt u a) => accOf_ok a xB xA xC xZ u ha z b h hl)
    have HA := Lib.hid (fun k => runA_in (N := cntA xB xZ.length) (s := numA xB xZ) (by omega) (numA_in h) lZ k)
    have HG := Lib.hid (fun (u : World) (s : Int) => register_any xB xZ.length s u hF)
    cases hm : mostB lZ with
    | false =>
      have HR := Lib.hid (show accR xB xZ lZ = (0, [], [], 2) by simp [accR, h, hm])
      have HW := Lib.hid (fun (u : World) (hr : Rd u lA lZ) => within_any (-1000000000000) 1000000000000 lA lC lZ u hr)
      rw [rangeB_most, hm] at HW
      clear h hm hF
      go_enter Tryd.func44, Tryd.ntmps44
      go_wp2_with fail
      obtain ⟨p, hp⟩ : ∃ g, g = w.heap.size := ⟨_, rfl⟩
      have hk_p : w.heap.size ≤ p := Nat.le_of_eq hp.symm
      obtain ⟨u, hu⟩ : ∃ V, V = (w.alloc (.cells #[.int .i64 xB, .slice xA xZ.length xC] 26)).alloc (.cells #[.int .i64 0, .slice none 0 0] 26) := ⟨_, rfl⟩
      have b_p : Bx u p 26 #[.int .i64 xB, .slice xA xZ.length xC] := by rw [hu, hp]; exact (Bx.new _ _ _).alloc _
      have b_p1 : Bx u (p + 1) 26 #[.int .i64 0, .slice none 0 0] := by rw [hu, hp]; simpa using Bx.new (w.alloc (.cells #[.int .i64 xB, .slice xA xZ.length xC] 26)) #[.int .i64 0, .slice none 0 0] 26
      have hb : Below w.heap.size w u := by rw [hu]; exact ((Below.refl _ _).alloc (Nat.le_refl _) _).alloc (by simp) _
      rw [← hp, ← hu]
      clear hu hp
      replace ha := ha.below hb
      replace hlst := hlst.below hb
      replace hl := hl.below hb
      replace hbel := hbel.trans (hb.mono hbel.size)
      clear hb
      refine (HO.out u ha hl).mono ?_
      rintro e v ⟨rfl, hb⟩
      replace ha := ha.below hb
      replace hlst := hlst.below hb
      replace hl := hl.below hb
      replace b_p := b_p.below hb
      replace b_p1 := b_p1.below hb
      replace hbel := hbel.trans (hb.mono hbel.size)
      clear hb
      go_upto_region 2 with fail
      obtain ⟨q, hq⟩ : ∃ g, g = v.heap.size := ⟨_, rfl⟩
      have hk_q : v.heap.size ≤ q := Nat.le_of_eq hq.symm
      obtain ⟨v2, hv2⟩ : ∃ V, V = v.alloc (.cells #[.int .i64 xB, .int .i64 xZ.length, .int .i64 (cntA xB xZ.length)] 113) := ⟨_, rfl⟩
      have b_q : Bx v2 q 113 #[.int .i64 xB, .int .i64 xZ.length, .int .i64 (cntA xB xZ.length)] := by rw [hv2, hq]; exact Bx.new _ _ _
      have hb : Below v.heap.size v v2 := by rw [hv2]; exact (Below.refl _ _).alloc (Nat.le_refl _) _
      rw [← hq, ← hv2]
      clear hv2 hq
      replace ha := ha.below hb
      replace hlst := hlst.below hb
      replace hl := hl.below hb
      replace b_p := b_p.below hb
      replace b_p1 := b_p1.below hb
      replace hbel := hbel.trans (hb.mono hbel.size)
      clear hb
      go_wp2_with fail
      refine (HW.out v2 hlst).mono ?_
      rintro e v3 ⟨rfl, hw⟩
      subst v3
      have r0 := b_p1.at_ 0 rfl
      have r1 := b_p1.at_ 1 rfl
      have f0 := b_p1.thaw 0
      have f1 := b_p1.thaw 1
      have hs := b_p1.lt
      have hbs := hbel.size
      go_wp2
      exact bodyPost_ret (v := .tuple #[.agg #[.int .i64 0, .slice none 0 0], .slice none 0 0, .int .i64 2]) (by simp [results, go_sem, r0, r1]) rfl
        (regLisC_err HR.out rfl (by repeat (first | with_reducible exact hbel | with_reducible refine Below.setCell ?_ (by first | omega | (simp <;> omega)) _ | with_reducible refine Below.alloc ?_ (by first | omega | (simp <;> omega)) _ | with_reducible refine Below.drew ?_)))
    | true =>
      have HR := Lib.hid (show accR xB xZ lZ = (xB, setA xB xZ.length (runA (cntA xB xZ.length) (numA xB xZ) lZ lZ.length).1, (runA (cntA xB xZ.length) (numA xB xZ) lZ lZ.length).2, 0) by simp [accR, h, hm])
      have HW := Lib.hid (fun (u : World) (hr : Rd u lA lZ) => within_any (-1000000000000) 1000000000000 lA lC lZ u hr)
      rw [rangeB_most, hm] at HW
      have HM := Lib.hid (fun k hk => mostB_at hm (k := k) hk)
      obtain ⟨s0, hs0⟩ : ∃ s, s = numA xB xZ := ⟨_, rfl⟩
      obtain ⟨N, hN⟩ : ∃ N, N = cntA xB xZ.length := ⟨_, rfl⟩
      rw [← hs0, ← hN] at HA HR
      rw [← hs0] at hsm
      rw [← hN] at hc
      have HO' := HO.out
      rw [← hs0, ← hN] at HO'
      have HO2 := Lib.hid HO'
      have HG' := HG.out
      rw [← hN] at HG'
      have HG2 := Lib.hid HG'
      clear h hm hF hs0 hN HO HO' HG HG'
      go_enter Tryd.func44, Tryd.ntmps44
      go_wp2_with fail
      obtain ⟨p, hp⟩ : ∃ g, g = w.heap.size := ⟨_, rfl⟩
      have hk_p : w.heap.size ≤ p := Nat.le_of_eq hp.symm
      obtain ⟨u, hu⟩ : ∃ V, V = (w.alloc (.cells #[.int .i64 xB, .slice xA xZ.length xC] 26)).alloc (.cells #[.int .i64 0, .slice none 0 0] 26) := ⟨_, rfl⟩
      have b_p : Bx u p 26 #[.int .i64 xB, .slice xA xZ.length xC] := by rw [hu, hp]; exact (Bx.new _ _ _).alloc _
      have b_p1 : Bx u (p + 1) 26 #[.int .i64 0, .slice none 0 0] := by rw [hu, hp]; simpa using Bx.new (w.alloc (.cells #[.int .i64 xB, .slice xA xZ.length xC] 26)) #[.int .i64 0, .slice none 0 0] 26
      have hb : Below w.heap.size w u := by rw [hu]; exact ((Below.refl _ _).alloc (Nat.le_refl _) _).alloc (by simp) _
      rw [← hp, ← hu]
      clear hu hp
      replace ha := ha.below hb
      replace hlst := hlst.below hb
      replace hl := hl.below hb
      replace hbel := hbel.trans (hb.mono hbel.size)
      clear hb
      refine (HO2.out u ha hl).mono ?_
      rintro e v ⟨rfl, hb⟩
      replace ha := ha.below hb
      replace hlst := hlst.below hb
      replace hl := hl.below hb
      replace b_p := b_p.below hb
      replace b_p1 := b_p1.below hb
      replace hbel := hbel.trans (hb.mono hbel.size)
      clear hb
      have hpv : p + 1 < v.heap.size := b_p1.lt
      go_upto_region 2 with fail
      obtain ⟨q, hq⟩ : ∃ g, g = v.heap.size := ⟨_, rfl⟩
      have hk_q : v.heap.size ≤ q := Nat.le_of_eq hq.symm
      obtain ⟨v2, hv2⟩ : ∃ V, V = v.alloc (.cells #[.int .i64 xB, .int .i64 xZ.length, .int .i64 N] 113) := ⟨_, rfl⟩
      have b_q : Bx v2 q 113 #[.int .i64 xB, .int .i64 xZ.length, .int .i64 N] := by rw [hv2, hq]; exact Bx.new _ _ _
      have hb : Below v.heap.size v v2 := by rw [hv2]; exact (Below.refl _ _).alloc (Nat.le_refl _) _
      rw [← hq, ← hv2]
      clear hv2 hq
      replace ha := ha.below hb
      replace hlst := hlst.below hb
      replace hl := hl.below hb
      replace b_p := b_p.below hb
      replace b_p1 := b_p1.below hb
      replace hbel := hbel.trans (hb.mono hbel.size)
      clear hb
      go_wp2_with fail
      refine (HW.out v2 hlst).mono ?_
      rintro e v3 ⟨rfl, hw⟩
      subst v3
      have c0 := b_q.at_ 0 rfl
      have c1 := b_q.at_ 1 rfl
      have c2 := b_q.at_ 2 rfl
      go_wp2_with fail
      refine (accumulating_any xB xZ.length N s0 v2).mono ?_
      rintro e v3 ⟨rfl, bc, bs, hb⟩
      have hv2 : q < v2.heap.size := b_q.lt
      clear c0 c1 c2
      replace ha := ha.below hb
      replace hlst := hlst.below hb
      replace hl := hl.below hb
      replace b_p := b_p.below hb
      replace b_p1 := b_p1.below hb
      replace b_q := b_q.below hb
      replace hbel := hbel.trans (hb.mono hbel.size)
      clear hb
      obtain ⟨c, hcc⟩ : ∃ c, c = v2.heap.size := ⟨_, rfl⟩
      rw [← hcc] at bc bs ⊢
      simp only [accF]
      have hqc : q < c := by omega
      have hpc : p + 1 < q := by omega
      have hwp := hk_p
      have hc3 : c + 1 < v3.heap.size := bs.lt
      have HP := Lib.hid b_p1
      have HQ := Lib.hid b_q
      have HB3 := Lib.hid hbel
      obtain ⟨z3, hz3⟩ : ∃ z, z = v3.heap.size := ⟨_, rfl⟩
      have hz3' : c + 1 < z3 := by omega
      have hwz : w.heap.size ≤ p := hk_p
      clear hcc b_p1 b_q b_p hbel ha hlst
      go_wp2_with fail
      go_loopw [8, 10, 12, 13, 14, 15, 34] (fun s l _ _ _ _ i wr => ∃ (k : Nat) (D : Option Addr) (E : Nat), k ≤ lZ.length ∧ i = .int .i64 k ∧ s = .int .i64 (runA N s0 lZ k).1 ∧ l = .slice D (runA N s0 lZ k).2.length E ∧
        Bx wr c 113 #[.int .i64 xB, .int .i64 xZ.length, .int .i64 N] ∧ Bx wr (c + 1) 2 #[.int .i64 (runA N s0 lZ k).1] ∧
        Own 2 wr z3 wr.heap.size (.slice D (runA N s0 lZ k).2.length E) (runA N s0 lZ k).2 ∧ Below c v3 wr ∧ z3 ≤ wr.heap.size) (fun _ _ _ _ _ _ i _ => lZ.length - (intOf i).toNat)
      case atStart => exact ⟨0, none, 0, Nat.zero_le _, rfl, rfl, rfl, bc, bs, own_nil _ _ _ _, Below.refl _ _, by omega⟩
      case round =>
        obtain ⟨j, D, E, hj, rfl, rfl, rfl, bc, bs, owl, hbw, hzw⟩ := hrel
        have hwr : Below w.heap.size w wr := HB3.out.trans (hbw.mono (by omega))
        have hl1 := runA_len N s0 lZ j
        have hbell := HBA.out.below hwr
        by_cases hlt : j < lZ.length
        · obtain ⟨ab, off, rfl, hc0⟩ := HL0.out.at_ hlt
          have hcl := kept hwr hc0
          have hx := HM.out j hlt
          have hAj := HA.out j
          have HW2 := Lib.hid (accStep_any a xB xZ.length N (runA N s0 lZ j).1 (nth lZ j) c wr (by omega) (by omega) (by omega) (by omega) hx.1 hx.2 hbell bc bs)
          rw [← runA_one] at HW2
          clear hc0
          cases hv : inA N ((runA N s0 lZ j).1 + nth lZ j) with
          | true =>
            have HBL := Lib.hid (runA_none hv)
            rw [hv] at HW2
            clear hv
            go_wp2_with fail
            refine HW2.out.mono ?_
            rintro e w3 ⟨rfl, bc3, bs3, ht3⟩
            have hs3 := ht3.size
            replace owl := owl.touch ht3 (by omega)
            have hb3 : Below c wr w3 := ht3.below (by omega) (by omega)
            replace hbw := hbw.trans hb3
            have hbell3 : BellAt w3 a := HBA.out.below (HB3.out.trans (hbw.mono (by omega)))
            have g0 : w3.cell? ⟨0, 0, none⟩ = some (bellV a) := hbell3
            clear hbell3 hbell hb3 ht3 hcl HW2 bc bs
            go_wp2_with fail
            refine (is_bell a true w3).mono ?_
            rintro e w4 ⟨rfl, hw⟩
            subst w4
            clear g0
            go_wp2
            go_roundw
            case rel => exact ⟨j + 1, D, E, by omega, by go_num, rfl, by rw [HBL.out], bc3, bs3, by rw [HBL.out]; exact owl.wide (Nat.le_refl _) hs3, hbw, by omega⟩
            case measure => (simp [intOf]) <;> omega
          | false =>
            have HBL := Lib.hid (runA_bell hv)
            rw [hv] at HW2
            clear hv
            go_wp2_with fail
            refine HW2.out.mono ?_
            rintro e w3 ⟨rfl, bc3, bs3, ht3⟩
            have hs3 := ht3.size
            replace owl := owl.touch ht3 (by omega)
            have hb3 : Below c wr w3 := ht3.below (by omega) (by omega)
            replace hbw := hbw.trans hb3
            have hbell3 : BellAt w3 a := HBA.out.below (HB3.out.trans (hbw.mono (by omega)))
            have g0 : w3.cell? ⟨0, 0, none⟩ = some (bellV a) := hbell3
            clear hbell3 hbell hb3 ht3 hcl HW2 bc bs
            go_wp2_with fail
            refine (is_bell a false w3).mono ?_
            rintro e w4 ⟨rfl, hw⟩
            subst w4
            clear g0
            go_wp2_with (at_builtin; go_must (refine wpList_appI rfl (.tmp 48) (.tmp 50) 24 2 rfl Tryd.underlying24 info_int64 rfl (owl.alloc _) rfl ⟨w3.heap.size, 0, none⟩ 1 (j : Int) rfl (cell_new1 w3 _ _) (by omega) (by simp; omega) ?_); intro D' E' w6 ow6 ht6)
            have hs8 := ht6.size
            simp only [World.size_alloc] at hs8
            replace bc3 := (bc3.alloc _).touch ht6 (by omega)
            replace bs3 := (bs3.alloc _).touch ht6 (by omega)
            rw [← HBL.out] at ow6
            have HL9 := Lib.hid (congrArg List.length HBL.out)
            go_roundw
            case rel => exact ⟨j + 1, D', E', by omega, by go_num, rfl, by rw [HL9.out]; simp, bc3, bs3, by rw [HL9.out]; simpa using ow6, (hbw.alloc (by omega) _).trans (ht6.below (by omega) (by simp; omega)), by omega⟩
            case measure => (simp [intOf]) <;> omega
        · obtain rfl : j = lZ.length := by omega
          have bq : Bx wr q 113 #[.int .i64 xB, .int .i64 xZ.length, .int .i64 N] := HQ.out.lo hbw hqc
          have c0 := bq.at_ 0 rfl
          have c1 := bq.at_ 1 rfl
          have c2 := bq.at_ 2 rfl
          go_wp2_with fail
          refine (HG2.out wr (runA N s0 lZ lZ.length).1).mono ?_
          rintro e w5 ⟨A, C, rfl, ow, hb5⟩
          have hs5 := hb5.size
          have bp : Bx w5 (p + 1) 26 #[.int .i64 0, .slice none 0 0] := (HP.out.lo hbw (by omega)).below hb5
          replace owl := owl.below hb5
          replace hwr := hwr.trans (hb5.mono hwr.size)
          clear c0 c1 c2 hb5
          have r0 := bp.at_ 0 rfl
          have r1 := bp.at_ 1 rfl
          have f0 := bp.thaw 0
          have f1 := bp.thaw 1
          have hs := bp.lt
          have hbs := hwr.size
          go_wp2
          exact bodyPost_ret (v := .tuple #[.agg #[.int .i64 xB, .slice A (setA xB xZ.length (runA N s0 lZ lZ.length).1).length C], .slice D (runA N s0 lZ lZ.length).2.length E, .int .i64 0]) (by simp [results, go_sem, r0, r1]) rfl
            (regLisC_ok HR.out rfl rfl rfl ((ow.setCell (p := ⟨p + 1, 0, none⟩) (.inl (by simp; omega)) _).setCell (p := ⟨p + 1, 1, none⟩) (.inl (by simp; omega)) _)
              ((owl.setCell (p := ⟨p + 1, 0, none⟩) (.inl (by simp; omega)) _).setCell (p := ⟨p + 1, 1, none⟩) (.inl (by simp; omega)) _) (by omega) (Nat.le_refl _) (by omega) (by simp) (by simp; omega) (by repeat (first | with_reducible exact hwr | with_reducible refine Below.setCell ?_ (by first | omega | (simp <;> omega)) _ | with_reducible refine Below.alloc ?_ (by first | omega | (simp <;> omega)) _ | with_reducible refine Below.drew ?_)))

theorem implAccumulateAll (xB : Int) (xA : Option Addr) (xC : Nat) (xZ : List Int) (lA : Option Addr) (lC : Nat) (lZ : List Int) (w : World) (ha : Rd w xA xZ) (z : All64 xZ) (b : I64 xB) (hlst : Rd w lA lZ) (_ : All64 lZ) (hD : BellD w) :
    Calls Tryd.prog 44 #[.agg #[.int .i64 xB, .slice xA xZ.length xC], .slice lA lZ.length lC] w (RegLisC (accR xB xZ lZ) w) :=
  hD.elim fun a hl => accAll_any a xB xA xC xZ lA lC lZ w ha z b hlst hl
end Go.Proofs.YtlahobdopmdfmaaDoor

/- AcnM -/
namespace Go.Proofs.YtlahobdopmdfmaaDoor
open Go.RowKit

/-- AccumulateNumber. -/
def acnR (B : Int) (zs : List Int) (n : Int) : Int × List Int × Bool × Int :=
  if accB B zs = true then (if inB n (-1000000000000) 1000000000000 = true then (B, setA B zs.length (numA B zs + n), !inA (cntA B zs.length) (numA B zs + n), 0) else (0, [], false, 2)) else (0, [], false, 1)
theorem mostB_one (n : Int) : mostB [n] = inB n (-1000000000000) 1000000000000 := by
  unfold mostB inB
  rw [Bool.eq_iff_iff]
  simp
/-- The same by a list of one number. -/
theorem accR_one (B : Int) (zs : List Int) (n : Int) : (accR B zs [n]).1 = (acnR B zs n).1 ∧ (accR B zs [n]).2.1 = (acnR B zs n).2.1 ∧ (decide (0 < (accR B zs [n]).2.2.1.length) = (acnR B zs n).2.2.1) ∧ (accR B zs [n]).2.2.2 = (acnR B zs n).2.2.2 ∧ (accR B zs [n]).2.2.1.length ≤ 1 := by
  unfold accR acnR
  rw [mostB_one]
  cases h : accB B zs with
  | false => simp
  | true =>
    have hf := accB_full h
    cases hm : inB n (-1000000000000) 1000000000000 with
    | false => simp
    | true =>
      simp only [if_true, List.length_singleton, runA, nth, List.getElem?_cons_zero, Option.getD_some, List.nil_append]
      refine ⟨trivial, setA_shn hf _, ?_, trivial, ?_⟩
      · by_cases hq : inA (cntA B zs.length) (numA B zs + n) = true <;> simp [hq]
      · by_cases hq : inA (cntA B zs.length) (numA B zs + n) = true <;> simp [hq]
/-- A register of its own, a bool and a code. -/
def RegBC (R : Int × List Int × Bool × Int) (w : World) (e : Ending) (w' : World) : Prop := ∃ A C,
  e = .returned (.tuple #[.agg #[.int .i64 R.1, .slice A R.2.1.length C], .bool R.2.2.1, .int .i64 R.2.2.2]) ∧ Own 2 w' w.heap.size w'.heap.size (.slice A R.2.1.length C) R.2.1 ∧ Below w.heap.size w w'
theorem regBC_err {R : Int × List Int × Bool × Int} {c : Int} {w w' : World} {e : Ending} (h : R = (0, [], false, c)) (he : e = .returned (.tuple #[.agg #[.int .i64 0, .slice none 0 0], .bool false, .int .i64 c])) (hb : Below w.heap.size w w') : RegBC R w e w' := by
  subst h
  exact ⟨none, 0, he, own_nil _ _ _ _, hb⟩
theorem regBC_ok {R : Int × List Int × Bool × Int} {b : Int} {zs : List Int} {t : Bool} {w w' : World} {A : Option Addr} {C lo hi : Nat} {e : Ending} (h : R = (b, zs, t, 0)) (he : e = .returned (.tuple #[.agg #[.int .i64 b, .slice A zs.length C], .bool t, .int .i64 0]))
    (ho : Own 2 w' lo hi (.slice A zs.length C) zs) (hl : w.heap.size ≤ lo) (hh : hi ≤ w'.heap.size) (hb : Below w.heap.size w w') : RegBC R w e w' := by
  subst h
  exact ⟨A, C, he, ho.wide hl hh, hb⟩
end Go.Proofs.YtlahobdopmdfmaaDoor

/- AcnI -/
namespace Go.Proofs.YtlahobdopmdfmaaDoor
open Go.RowKit

set_option maxRecDepth 100000 in
set_option maxHeartbeats 4000000 in
theorem implAccumulateNumber (xB : Int) (xA : Option Addr) (xC : Nat) (xZ : List Int) (n : Int) (w : World) (ha : Rd w xA xZ) (z : All64 xZ) (b : I64 xB) (_ : I64 n) (hD : BellD w) :
    Calls Tryd.prog 47 #[.agg #[.int .i64 xB, .slice xA xZ.length xC], .int .i64 n] w (RegBC (acnR xB xZ n) w) := by
  have R := Tryd.results47
  have hbel : Below w.heap.size w w := Below.refl _ _
  obtain ⟨a, hl⟩ := hD
  have HE := Lib.hid (accR_one xB xZ n)
  go_enter Tryd.func47, Tryd.ntmps47
  go_wp2_with fail
  obtain ⟨p, hp⟩ : ∃ g, g = w.heap.size := ⟨_, rfl⟩
  have hk_p : w.heap.size ≤ p := Nat.le_of_eq hp.symm
  obtain ⟨u, hu⟩ : ∃ V, V = (w.alloc (.cells #[.int .i64 xB, .slice xA xZ.length xC] 26)).alloc (.cells #[.int .i64 0, .slice none 0 0] 26) := ⟨_, rfl⟩
  have b_p : Bx u p 26 #[.int .i64 xB, .slice xA xZ.length xC] := by rw [hu, hp]; exact (Bx.new _ _ _).alloc _
  have b_p1 : Bx u (p + 1) 26 #[.int .i64 0, .slice none 0 0] := by rw [hu, hp]; simpa using Bx.new (w.alloc (.cells #[.int .i64 xB, .slice xA xZ.length xC] 26)) #[.int .i64 0, .slice none 0 0] 26
  have hb : Below w.heap.size w u := by rw [hu]; exact ((Below.refl _ _).alloc (Nat.le_refl _) _).alloc (by simp) _
  have hz_p := Lib.hid (show u.heap.size = p + 1 + 1 by rw [hu, hp]; simp)
  rw [← hp, ← hu]
  clear hu hp
  replace ha := ha.below hb
  replace hl := hl.below hb
  replace hbel := hbel.trans (hb.mono hbel.size)
  clear hb
  go_upto_region 1 with fail
  obtain ⟨u1, hu1⟩ : ∃ u1, u1 = u.alloc (.cells #[.int .i64 n] 2) := ⟨_, rfl⟩
  obtain ⟨c, hc⟩ : ∃ c, c = p + 1 + 1 := ⟨_, rfl⟩
  have hr : u1.cell? ⟨c, 0, none⟩ = some (.int .i64 n) := by rw [hu1, hc, ← hz_p.out]; exact (Bx.new u #[.int .i64 n] 2).at_ 0 rfl
  have hb : Below u.heap.size u u1 := by rw [hu1]; exact (Below.refl _ _).alloc (Nat.le_refl _) _
  have c0 := b_p.at_ 0 rfl
  have c1 := b_p.at_ 1 rfl
  have HU := Lib.hid hu1
  have HC := Lib.hid hc
  clear hu1 hc
  go_wp2_with fail
  first | rw [← HU.out, ← HC.out] | (rw [← HU.out, hz_p.out, ← HC.out])
  clear c0 c1
  replace ha := ha.below hb
  replace hl := hl.below hb
  replace b_p := b_p.below hb
  replace b_p1 := b_p1.below hb
  replace hbel := hbel.trans (hb.mono hbel.size)
  clear hb
  refine (accAll_any a xB xA xC xZ (some ⟨c, 0, none⟩) 1 [n] u1 ha z b (rd_at1 hr) hl).mono ?_
  rintro e v ⟨A, C, D, E, m, rfl, ow, _, hm1, hm2, hb⟩
  obtain ⟨e1, e2, e3, e4, e5⟩ := HE.out
  have hpu : p + 1 < u1.heap.size := b_p1.lt
  have hbs1 := hbel.size
  rw [e1, e2, e4]
  rw [e2] at ow
  obtain ⟨len, hlen⟩ : ∃ len, len = (accR xB xZ [n]).2.2.1.length := ⟨_, rfl⟩
  rw [← hlen] at e3 e5 ⊢
  have HE3 := Lib.hid e3
  obtain ⟨X1, hX1⟩ : ∃ X, X = (acnR xB xZ n).1 := ⟨_, rfl⟩
  obtain ⟨X2, hX2⟩ : ∃ X, X = (acnR xB xZ n).2.1 := ⟨_, rfl⟩
  obtain ⟨X4, hX4⟩ : ∃ X, X = (acnR xB xZ n).2.2.2 := ⟨_, rfl⟩
  rw [← hX1, ← hX2, ← hX4]
  rw [← hX2] at ow
  have HX := Lib.hid (And.intro hX1 (And.intro hX2 hX4))
  clear HE e1 e2 e3 e4 hlen hX1 hX2 hX4 hr
  replace b_p := b_p.below hb
  replace b_p1 := b_p1.below hb
  replace hbel := hbel.trans (hb.mono hbel.size)
  clear hb
  go_upto_region 2 with fail
  obtain ⟨q, hq⟩ : ∃ g, g = v.heap.size := ⟨_, rfl⟩
  have hk_q : v.heap.size ≤ q := Nat.le_of_eq hq.symm
  obtain ⟨v2, hv2⟩ : ∃ V, V = v.alloc (.cells #[.int .i64 X1, .slice A X2.length C] 26) := ⟨_, rfl⟩
  have b_q : Bx v2 q 26 #[.int .i64 X1, .slice A X2.length C] := by rw [hv2, hq]; exact Bx.new _ _ _
  have hb : Below v.heap.size v v2 := by rw [hv2]; exact (Below.refl _ _).alloc (Nat.le_refl _) _
  rw [← hq, ← hv2]
  clear hv2 hq
  replace b_p := b_p.below hb
  replace b_p1 := b_p1.below hb
  replace ow := ow.below hb
  replace hbel := hbel.trans (hb.mono hbel.size)
  clear hb
  have r0 := b_p1.at_ 0 rfl
  have r1 := b_p1.at_ 1 rfl
  have f0 := b_p1.thaw 0
  have f1 := b_p1.thaw 1
  have d0 := b_q.at_ 0 rfl
  have d1 := b_q.at_ 1 rfl
  have hs := b_p1.lt
  have hbs := hbel.size
  have hd : decide ((0 : Int) < (len : Int)) = decide (0 < len) := decide_eq_decide.2 (by omega)
  have hv2 := hk_q
  have hsq := b_q.lt
  by_cases hlp : 0 < len
  · have h3 := Lib.hid (show (acnR xB xZ n).2.2.1 = true by rw [← HE3.out]; exact decide_eq_true hlp)
    have hlp' : (0 : Int) < (len : Int) := by omega
    clear hd
    go_wp2
    exact bodyPost_ret (v := .tuple #[.agg #[.int .i64 X1, .slice A X2.length C], .bool true, .int .i64 X4]) (by simp [results, go_sem, r0, r1]) rfl
      ⟨A, C, by rw [h3.out, ← HX.out.1, ← HX.out.2.1, ← HX.out.2.2], by rw [← HX.out.2.1]; exact ((ow.setCell (p := ⟨p + 1, 0, none⟩) (.inl (by simp; omega)) _).setCell (p := ⟨p + 1, 1, none⟩) (.inl (by simp; omega)) _).wide (by omega) (by simp; omega), (by repeat (first | with_reducible exact hbel | with_reducible refine Below.setCell ?_ (by first | omega | (simp <;> omega)) _ | with_reducible refine Below.alloc ?_ (by first | omega | (simp <;> omega)) _ | with_reducible refine Below.drew ?_))⟩
  · have h3 := Lib.hid (show (acnR xB xZ n).2.2.1 = false by rw [← HE3.out]; exact decide_eq_false hlp)
    have hlp' : ¬ (0 : Int) < (len : Int) := by omega
    clear hd
    go_wp2
    exact bodyPost_ret (v := .tuple #[.agg #[.int .i64 X1, .slice A X2.length C], .bool false, .int .i64 X4]) (by simp [results, go_sem, r0, r1]) rfl
      ⟨A, C, by rw [h3.out, ← HX.out.1, ← HX.out.2.1, ← HX.out.2.2], by rw [← HX.out.2.1]; exact ((ow.setCell (p := ⟨p + 1, 0, none⟩) (.inl (by simp; omega)) _).setCell (p := ⟨p + 1, 1, none⟩) (.inl (by simp; omega)) _).wide (by omega) (by simp; omega), (by repeat (first | with_reducible exact hbel | with_reducible refine Below.setCell ?_ (by first | omega | (simp <;> omega)) _ | with_reducible refine Below.alloc ?_ (by first | omega | (simp <;> omega)) _ | with_reducible refine Below.drew ?_))⟩
end Go.Proofs.YtlahobdopmdfmaaDoor

/- TrnM -/
namespace Go.Proofs.YtlahobdopmdfmaaDoor
open Go.RowKit

/-- TransferTo. -/
def trnR (B : Int) (xs : List Int) (D : Int) (ys : List Int) : Int × List Int × Int × List Int × Bool × Int :=
  if accB B xs = true ∧ accB D ys = true then (if B = D then (B, setA B xs.length 0, D, setA D ys.length (numA D ys + numA B xs), !inA (cntA D ys.length) (numA D ys + numA B xs), 0) else (0, [], 0, [], false, 6)) else (0, [], 0, [], false, 1)
theorem numA_most {B : Int} {zs : List Int} (h : accB B zs = true) : -1000000000000 ≤ numA B zs ∧ numA B zs ≤ 1000000000000 := by
  have h1 := numA_in h
  have h2 := cntA_bd (accB_full h)
  omega
theorem acnR_num {B D : Int} {xs ys : List Int} (h : accB B xs = true) (h2 : accB D ys = true) : acnR D ys (numA B xs) = (D, setA D ys.length (numA D ys + numA B xs), !inA (cntA D ys.length) (numA D ys + numA B xs), 0) := by
  have := numA_most h
  rw [acnR, if_pos h2, if_pos (inB_yes this.1 this.2)]
theorem setA_zero {B n : Int} (_ : fullB B n = true) : setA B n 0 = digsR B n.toNat 0 := by
  unfold setA
  rw [Int.zero_emod]
/-- Two registers of their own, a bool and a code: the first one first made. -/
def TrnC (R : Int × List Int × Int × List Int × Bool × Int) (w : World) (e : Ending) (w' : World) : Prop := ∃ (A : Option Addr) (C : Nat) (D : Option Addr) (E m : Nat),
  e = .returned (.tuple #[.agg #[.int .i64 R.1, .slice A R.2.1.length C], .agg #[.int .i64 R.2.2.1, .slice D R.2.2.2.1.length E], .bool R.2.2.2.2.1, .int .i64 R.2.2.2.2.2]) ∧
  Own 2 w' w.heap.size m (.slice A R.2.1.length C) R.2.1 ∧ Own 2 w' m w'.heap.size (.slice D R.2.2.2.1.length E) R.2.2.2.1 ∧ w.heap.size ≤ m ∧ m ≤ w'.heap.size ∧ Below w.heap.size w w'
/-- The second one first made. -/
def TrnG (R : Int × List Int × Int × List Int × Bool × Int) (w : World) (e : Ending) (w' : World) : Prop := ∃ (A : Option Addr) (C : Nat) (D : Option Addr) (E m : Nat),
  e = .returned (.tuple #[.agg #[.int .i64 R.1, .slice A R.2.1.length C], .agg #[.int .i64 R.2.2.1, .slice D R.2.2.2.1.length E], .bool R.2.2.2.2.1, .int .i64 R.2.2.2.2.2]) ∧
  Own 2 w' m w'.heap.size (.slice A R.2.1.length C) R.2.1 ∧ Own 2 w' w.heap.size m (.slice D R.2.2.2.1.length E) R.2.2.2.1 ∧ w.heap.size ≤ m ∧ m ≤ w'.heap.size ∧ Below w.heap.size w w'
theorem trnC_err {R : Int × List Int × Int × List Int × Bool × Int} {c : Int} {w w' : World} {e : Ending} (h : R = (0, [], 0, [], false, c)) (he : e = .returned (.tuple #[.agg #[.int .i64 0, .slice none 0 0], .agg #[.int .i64 0, .slice none 0 0], .bool false, .int .i64 c])) (hb : Below w.heap.size w w') : TrnC R w e w' := by
  subst h
  exact ⟨none, 0, none, 0, w.heap.size, he, own_nil _ _ _ _, own_nil _ _ _ _, Nat.le_refl _, hb.size, hb⟩
theorem trnG_err {R : Int × List Int × Int × List Int × Bool × Int} {c : Int} {w w' : World} {e : Ending} (h : R = (0, [], 0, [], false, c)) (he : e = .returned (.tuple #[.agg #[.int .i64 0, .slice none 0 0], .agg #[.int .i64 0, .slice none 0 0], .bool false, .int .i64 c])) (hb : Below w.heap.size w w') : TrnG R w e w' := by
  subst h
  exact ⟨none, 0, none, 0, w.heap.size, he, own_nil _ _ _ _, own_nil _ _ _ _, Nat.le_refl _, hb.size, hb⟩
theorem trnC_ok {R : Int × List Int × Int × List Int × Bool × Int} {b d : Int} {xs ys : List Int} {t : Bool} {w w' : World} {A D : Option Addr} {C E lo hi l2 h2 : Nat} {e : Ending} (h : R = (b, xs, d, ys, t, 0))
    (he : e = .returned (.tuple #[.agg #[.int .i64 b, .slice A xs.length C], .agg #[.int .i64 d, .slice D ys.length E], .bool t, .int .i64 0]))
    (ho : Own 2 w' lo hi (.slice A xs.length C) xs) (ho2 : Own 2 w' l2 h2 (.slice D ys.length E) ys) (a1 : w.heap.size ≤ lo) (a2 : hi ≤ l2) (a3 : w.heap.size ≤ l2) (a4 : h2 ≤ w'.heap.size) (a5 : l2 ≤ w'.heap.size) (hb : Below w.heap.size w w') : TrnC R w e w' := by
  subst h
  exact ⟨A, C, D, E, l2, he, ho.wide a1 a2, ho2.wide (Nat.le_refl _) a4, a3, a5, hb⟩
theorem trnG_ok {R : Int × List Int × Int × List Int × Bool × Int} {b d : Int} {xs ys : List Int} {t : Bool} {w w' : World} {A D : Option Addr} {C E lo hi l2 h2 : Nat} {e : Ending} (h : R = (b, xs, d, ys, t, 0))
    (he : e = .returned (.tuple #[.agg #[.int .i64 b, .slice A xs.length C], .agg #[.int .i64 d, .slice D ys.length E], .bool t, .int .i64 0]))
    (ho : Own 2 w' lo hi (.slice A xs.length C) xs) (ho2 : Own 2 w' l2 h2 (.slice D ys.length E) ys) (a1 : w.heap.size ≤ l2) (a2 : h2 ≤ lo) (a3 : w.heap.size ≤ lo) (a4 : hi ≤ w'.heap.size) (a5 : lo ≤ w'.heap.size) (hb : Below w.heap.size w w') : TrnG R w e w' := by
  subst h
  exact ⟨A, C, D, E, lo, he, ho.wide (Nat.le_refl _) a4, ho2.wide a1 a2, a3, a5, hb⟩
end Go.Proofs.YtlahobdopmdfmaaDoor

/- TrnI -/
namespace Go.Proofs.YtlahobdopmdfmaaDoor
open Go.RowKit

theorem accOf_ex (a : Addr) (xB : Int) (xA : Option Addr) (xC : Nat) (xZ : List Int) (t : Bool) (w : World) (ha : Rd w xA xZ) (z : All64 xZ) (b : I64 xB) (h : accB xB xZ = t) (hl : BellAt w a) :
    Calls Tryd.prog 123 #[.agg #[.int .i64 xB, .slice xA xZ.length xC]] w fun e w' => ∃ i1 i2 i3 i4 : Int, e = .returned (.tuple #[.agg #[.int .i64 i1, .int .i64 i2, .int .i64 i3], .int .i64 i4, .bool t]) ∧ Below w.heap.size w w' := by
  cases t with
  | false => exact (accOf_no xB xA xC xZ w ha z b h).mono fun _ _ hh => ⟨_, _, _, _, hh.1, hh.2⟩
  | true => exact (accOf_ok a xB xA xC xZ w ha z b h hl).mono fun _ _ hh => ⟨_, _, _, _, hh.1, hh.2⟩

set_option maxRecDepth 100000 in
set_option maxHeartbeats 8000000 in
theorem transfer_any (a : Addr) (xB : Int) (xA : Option Addr) (xC : Nat) (xZ : List Int) (yB : Int) (yA : Option Addr) (yC : Nat) (yZ : List Int) (w : World) (ha : Rd w xA xZ) (zx : All64 xZ) (bx : I64 xB) (hY : Rd w yA yZ) (zy : All64 yZ) (by_ : I64 yB) (hl : BellAt w a) :
    Calls Tryd.prog 50 #[.agg #[.int .i64 xB, .slice xA xZ.length xC], .agg #[.int .i64 yB, .slice yA yZ.length yC]] w (TrnG (trnR xB xZ yB yZ) w) := by
  have R := Tryd.results50
  have hbel : Below w.heap.size w w := Below.refl _ _
  cases hx : accB xB xZ with
  | false =>
    have HR := Lib.hid (show trnR xB xZ yB yZ = (0, [], 0, [], false, 1) by simp [trnR, hx])
    have HX := Lib.hid hx
    cases hy : accB yB yZ
    all_goals
      have HYB := Lib.hid hy
      clear hy
      go_enter Tryd.func50, Tryd.ntmps50
      go_upto_region 1 with fail
      obtain ⟨p, hp⟩ : ∃ g, g = w.heap.size := ⟨_, rfl⟩
      have hwp : w.heap.size ≤ p := Nat.le_of_eq hp.symm
      obtain ⟨u, hu⟩ : ∃ u, u = (((w.alloc (.cells #[.int .i64 xB, .slice xA xZ.length xC] 26)).alloc (.cells #[.int .i64 yB, .slice yA yZ.length yC] 26)).alloc (.cells #[.int .i64 0, .slice none 0 0] 26)).alloc (.cells #[.int .i64 0, .slice none 0 0] 26) := ⟨_, rfl⟩
      have b_x : Bx u p 26 #[.int .i64 xB, .slice xA xZ.length xC] := by rw [hu, hp]; exact (((Bx.new _ _ _).alloc _).alloc _).alloc _
      have b_y : Bx u (p + 1) 26 #[.int .i64 yB, .slice yA yZ.length yC] := by rw [hu, hp]; simpa using ((Bx.new (w.alloc (.cells #[.int .i64 xB, .slice xA xZ.length xC] 26)) #[.int .i64 yB, .slice yA yZ.length yC] 26).alloc _).alloc _
      have b_r : Bx u (p + 1 + 1) 26 #[.int .i64 0, .slice none 0 0] := by rw [hu, hp]; simpa using (Bx.new ((w.alloc (.cells #[.int .i64 xB, .slice xA xZ.length xC] 26)).alloc (.cells #[.int .i64 yB, .slice yA yZ.length yC] 26)) #[.int .i64 0, .slice none 0 0] 26).alloc _
      have b_s : Bx u (p + 1 + 1 + 1) 26 #[.int .i64 0, .slice none 0 0] := by rw [hu, hp]; simpa using Bx.new (((w.alloc (.cells #[.int .i64 xB, .slice xA xZ.length xC] 26)).alloc (.cells #[.int .i64 yB, .slice yA yZ.length yC] 26)).alloc (.cells #[.int .i64 0, .slice none 0 0] 26)) #[.int .i64 0, .slice none 0 0] 26
      have hb : Below w.heap.size w u := by rw [hu]; exact (by repeat (first | with_reducible exact Below.refl _ _ | with_reducible refine Below.setCell ?_ (by first | omega | (simp <;> omega)) _ | with_reducible refine Below.alloc ?_ (by first | omega | (simp <;> omega)) _ | with_reducible refine Below.drew ?_))
      rw [← hu, ← hp]
      clear hu hp
      replace ha := ha.below hb
      replace hY := hY.below hb
      replace hl := hl.below hb
      replace hbel := hbel.trans (hb.mono hbel.size)
      clear hb
      have c0 := b_x.at_ 0 rfl
      have c1 := b_x.at_ 1 rfl
      go_wp2_with fail
      refine (accOf_ex a xB xA xC xZ false u ha zx bx HX.out hl).mono ?_
      rintro e v ⟨i1, i2, i3, i4, rfl, hb⟩
      clear c0 c1
      replace ha := ha.below hb
      replace hY := hY.below hb
      replace hl := hl.below hb
      replace b_x := b_x.below hb
      replace b_y := b_y.below hb
      replace b_r := b_r.below hb
      replace b_s := b_s.below hb
      replace hbel := hbel.trans (hb.mono hbel.size)
      clear hb
      go_upto_region 2 with fail
      obtain ⟨q, hq⟩ : ∃ g, g = v.heap.size := ⟨_, rfl⟩
      have hk_q : v.heap.size ≤ q := Nat.le_of_eq hq.symm
      obtain ⟨v2, hv2⟩ : ∃ V, V = v.alloc (.cells #[.int .i64 i1, .int .i64 i2, .int .i64 i3] 113) := ⟨_, rfl⟩
      have b_q : Bx v2 q 113 #[.int .i64 i1, .int .i64 i2, .int .i64 i3] := by rw [hv2, hq]; exact Bx.new _ _ _
      have hb : Below v.heap.size v v2 := by rw [hv2]; exact (Below.refl _ _).alloc (Nat.le_refl _) _
      rw [← hq, ← hv2]
      clear hv2 hq
      replace ha := ha.below hb
      replace hY := hY.below hb
      replace hl := hl.below hb
      replace b_x := b_x.below hb
      replace b_y := b_y.below hb
      replace b_r := b_r.below hb
      replace b_s := b_s.below hb
      replace hbel := hbel.trans (hb.mono hbel.size)
      clear hb
      have d0 := b_y.at_ 0 rfl
      have d1 := b_y.at_ 1 rfl
      go_wp2_with fail
      refine (accOf_ex a yB yA yC yZ _ v2 hY zy by_ HYB.out hl).mono ?_
      rintro e v3 ⟨j1, j2, j3, j4, rfl, hb⟩
      clear d0 d1
      replace ha := ha.below hb
      replace hY := hY.below hb
      replace hl := hl.below hb
      replace b_x := b_x.below hb
      replace b_y := b_y.below hb
      replace b_r := b_r.below hb
      replace b_s := b_s.below hb
      replace b_q := b_q.below hb
      replace hbel := hbel.trans (hb.mono hbel.size)
      clear hb
      go_upto_region 3 with fail
      obtain ⟨k, hk⟩ : ∃ g, g = v3.heap.size := ⟨_, rfl⟩
      have hk_k : v3.heap.size ≤ k := Nat.le_of_eq hk.symm
      obtain ⟨v4, hv4⟩ : ∃ V, V = v3.alloc (.cells #[.int .i64 j1, .int .i64 j2, .int .i64 j3] 113) := ⟨_, rfl⟩
      have b_k : Bx v4 k 113 #[.int .i64 j1, .int .i64 j2, .int .i64 j3] := by rw [hv4, hk]; exact Bx.new _ _ _
      have hb : Below v3.heap.size v3 v4 := by rw [hv4]; exact (Below.refl _ _).alloc (Nat.le_refl _) _
      rw [← hk, ← hv4]
      clear hv4 hk
      replace ha := ha.below hb
      replace hY := hY.below hb
      replace hl := hl.below hb
      replace b_x := b_x.below hb
      replace b_y := b_y.below hb
      replace b_r := b_r.below hb
      replace b_s := b_s.below hb
      replace b_q := b_q.below hb
      replace hbel := hbel.trans (hb.mono hbel.size)
      clear hb
      have r0 := b_r.at_ 0 rfl
      have r1 := b_r.at_ 1 rfl
      have f0 := b_r.thaw 0
      have f1 := b_r.thaw 1
      have t0 := b_s.at_ 0 rfl
      have t1 := b_s.at_ 1 rfl
      have g0 := b_s.thaw 0
      have g1 := b_s.thaw 1
      have hs := b_r.lt
      have hs2 := b_s.lt
      have hbs := hbel.size
      go_wp2
      exact bodyPost_ret (v := .tuple #[.agg #[.int .i64 0, .slice none 0 0], .agg #[.int .i64 0, .slice none 0 0], .bool false, .int .i64 1]) (by simp [results, go_sem, r0, r1, t0, t1]) rfl
        (trnG_err HR.out rfl (by repeat (first | with_reducible exact hbel | with_reducible refine Below.setCell ?_ (by first | omega | (simp <;> omega)) _ | with_reducible refine Below.alloc ?_ (by first | omega | (simp <;> omega)) _ | with_reducible refine Below.drew ?_)))
  | true =>
    cases hy : accB yB yZ with
    | false =>
      have HR := Lib.hid (show trnR xB xZ yB yZ = (0, [], 0, [], false, 1) by simp [trnR, hy])
      have HX := Lib.hid hx
      have HYB := Lib.hid hy
      clear hx hy
      go_enter Tryd.func50, Tryd.ntmps50
      go_upto_region 1 with fail
      obtain ⟨p, hp⟩ : ∃ g, g = w.heap.size := ⟨_, rfl⟩
      have hwp : w.heap.size ≤ p := Nat.le_of_eq hp.symm
      obtain ⟨u, hu⟩ : ∃ u, u = (((w.alloc (.cells #[.int .i64 xB, .slice xA xZ.length xC] 26)).alloc (.cells #[.int .i64 yB, .slice yA yZ.length yC] 26)).alloc (.cells #[.int .i64 0, .slice none 0 0] 26)).alloc (.cells #[.int .i64 0, .slice none 0 0] 26) := ⟨_, rfl⟩
      have b_x : Bx u p 26 #[.int .i64 xB, .slice xA xZ.length xC] := by rw [hu, hp]; exact (((Bx.new _ _ _).alloc _).alloc _).alloc _
      have b_y : Bx u (p + 1) 26 #[.int .i64 yB, .slice yA yZ.length yC] := by rw [hu, hp]; simpa using ((Bx.new (w.alloc (.cells #[.int .i64 xB, .slice xA xZ.length xC] 26)) #[.int .i64 yB, .slice yA yZ.length yC] 26).alloc _).alloc _
      have b_r : Bx u (p + 1 + 1) 26 #[.int .i64 0, .slice none 0 0] := by rw [hu, hp]; simpa using (Bx.new ((w.alloc (.cells #[.int .i64 xB, .slice xA xZ.length xC] 26)).alloc (.cells #[.int .i64 yB, .slice yA yZ.length yC] 26)) #[.int .i64 0, .slice none 0 0] 26).alloc _
      have b_s : Bx u (p + 1 + 1 + 1) 26 #[.int .i64 0, .slice none 0 0] := by rw [hu, hp]; simpa using Bx.new (((w.alloc (.cells #[.int .i64 xB, .slice xA xZ.length xC] 26)).alloc (.cells #[.int .i64 yB, .slice yA yZ.length yC] 26)).alloc (.cells #[.int .i64 0, .slice none 0 0] 26)) #[.int .i64 0, .slice none 0 0] 26
      have hb : Below w.heap.size w u := by rw [hu]; exact (by repeat (first | with_reducible exact Below.refl _ _ | with_reducible refine Below.setCell ?_ (by first | omega | (simp <;> omega)) _ | with_reducible refine Below.alloc ?_ (by first | omega | (simp <;> omega)) _ | with_reducible refine Below.drew ?_))
      rw [← hu, ← hp]
      clear hu hp
      replace ha := ha.below hb
      replace hY := hY.below hb
      replace hl := hl.below hb
      replace hbel := hbel.trans (hb.mono hbel.size)
      clear hb
      have c0 := b_x.at_ 0 rfl
      have c1 := b_x.at_ 1 rfl
      go_wp2_with fail
      refine (accOf_ex a xB xA xC xZ true u ha zx bx HX.out hl).mono ?_
      rintro e v ⟨i1, i2, i3, i4, rfl, hb⟩
      clear c0 c1
      replace ha := ha.below hb
      replace hY := hY.below hb
      replace hl := hl.below hb
      replace b_x := b_x.below hb
      replace b_y := b_y.below hb
      replace b_r := b_r.below hb
      replace b_s := b_s.below hb
      replace hbel := hbel.trans (hb.mono hbel.size)
      clear hb
      go_upto_region 2 with fail
      obtain ⟨q, hq⟩ : ∃ g, g = v.heap.size := ⟨_, rfl⟩
      have hk_q : v.heap.size ≤ q := Nat.le_of_eq hq.symm
      obtain ⟨v2, hv2⟩ : ∃ V, V = v.alloc (.cells #[.int .i64 i1, .int .i64 i2, .int .i64 i3] 113) := ⟨_, rfl⟩
      have b_q : Bx v2 q 113 #[.int .i64 i1, .int .i64 i2, .int .i64 i3] := by rw [hv2, hq]; exact Bx.new _ _ _
      have hb : Below v.heap.size v v2 := by rw [hv2]; exact (Below.refl _ _).alloc (Nat.le_refl _) _
      rw [← hq, ← hv2]
      clear hv2 hq
      replace ha := ha.below hb
      replace hY := hY.below hb
      replace hl := hl.below hb
      replace b_x := b_x.below hb
      replace b_y := b_y.below hb
      replace b_r := b_r.below hb
      replace b_s := b_s.below hb
      replace hbel := hbel.trans (hb.mono hbel.size)
      clear hb
      have d0 := b_y.at_ 0 rfl
      have d1 := b_y.at_ 1 rfl
      go_wp2_with fail
      refine (accOf_ex a yB yA yC yZ false v2 hY zy by_ HYB.out hl).mono ?_
      rintro e v3 ⟨j1, j2, j3, j4, rfl, hb⟩
      clear d0 d1
      replace ha := ha.below hb
      replace hY := hY.below hb
      replace hl := hl.below hb
      replace b_x := b_x.below hb
      replace b_y := b_y.below hb
      replace b_r := b_r.below hb
      replace b_s := b_s.below hb
      replace b_q := b_q.below hb
      replace hbel := hbel.trans (hb.mono hbel.size)
      clear hb
      go_upto_region 3 with fail
      obtain ⟨k, hk⟩ : ∃ g, g = v3.heap.size := ⟨_, rfl⟩
      have hk_k : v3.heap.size ≤ k := Nat.le_of_eq hk.symm
      obtain ⟨v4, hv4⟩ : ∃ V, V = v3.alloc (.cells #[.int .i64 j1, .int .i64 j2, .int .i64 j3] 113) := ⟨_, rfl⟩
      have b_k : Bx v4 k 113 #[.int .i64 j1, .int .i64 j2, .int .i64 j3] := by rw [hv4, hk]; exact Bx.new _ _ _
      have hb : Below v3.heap.size v3 v4 := by rw [hv4]; exact (Below.refl _ _).alloc (Nat.le_refl _) _
      rw [← hk, ← hv4]
      clear hv4 hk
      replace ha := ha.below hb
      replace hY := hY.below hb
      replace hl := hl.below hb
      replace b_x := b_x.below hb
      replace b_y := b_y.below hb
      replace b_r := b_r.below hb
      replace b_s := b_s.below hb
      replace b_q := b_q.below hb
      replace hbel := hbel.trans (hb.mono hbel.size)
      clear hb
      have r0 := b_r.at_ 0 rfl
      have r1 := b_r.at_ 1 rfl
      have f0 := b_r.thaw 0
      have f1 := b_r.thaw 1
      have t0 := b_s.at_ 0 rfl
      have t1 := b_s.at_ 1 rfl
      have g0 := b_s.thaw 0
      have g1 := b_s.thaw 1
      have hs := b_r.lt
      have hs2 := b_s.lt
      have hbs := hbel.size
      go_wp2
      exact bodyPost_ret (v := .tuple #[.agg #[.int .i64 0, .slice none 0 0], .agg #[.int .i64 0, .slice none 0 0], .bool false, .int .i64 1]) (by simp [results, go_sem, r0, r1, t0, t1]) rfl
        (trnG_err HR.out rfl (by repeat (first | with_reducible exact hbel | with_reducible refine Below.setCell ?_ (by first | omega | (simp <;> omega)) _ | with_reducible refine Below.alloc ?_ (by first | omega | (simp <;> omega)) _ | with_reducible refine Below.drew ?_)))
    | true =>
      have HX := Lib.hid hx
      have HYB := Lib.hid hy
      by_cases hB : xB = yB
      · have HR := Lib.hid (show trnR xB xZ yB yZ = (xB, setA xB xZ.length 0, yB, setA yB yZ.length (numA yB yZ + numA xB xZ), !inA (cntA yB yZ.length) (numA yB yZ + numA xB xZ), 0) by rw [trnR, if_pos ⟨hx, hy⟩, if_pos hB])
        have HAC := Lib.hid (acnR_num hx hy)
        have hm := numA_most hx
        have HF := Lib.hid (accB_full hx)
        have hlx := (okB_spec (accB_spec hx).1)
        obtain ⟨x, hx9⟩ : ∃ x, x = numA xB xZ := ⟨_, rfl⟩
        rw [← hx9] at hm HR HAC
        have HX9 := Lib.hid hx9.symm
        obtain ⟨t, ht⟩ : ∃ t, t = !inA (cntA yB yZ.length) (numA yB yZ + x) := ⟨_, rfl⟩
        rw [← ht] at HR HAC
        subst hB
        have hx64 : I64 x := i64_of (by omega) (by omega)
        clear hx hy hlx hx9 ht
        go_enter Tryd.func50, Tryd.ntmps50
        go_upto_region 1 with fail
        obtain ⟨p, hp⟩ : ∃ g, g = w.heap.size := ⟨_, rfl⟩
        have hwp : w.heap.size ≤ p := Nat.le_of_eq hp.symm
        obtain ⟨u, hu⟩ : ∃ u, u = (((w.alloc (.cells #[.int .i64 xB, .slice xA xZ.length xC] 26)).alloc (.cells #[.int .i64 xB, .slice yA yZ.length yC] 26)).alloc (.cells #[.int .i64 0, .slice none 0 0] 26)).alloc (.cells #[.int .i64 0, .slice none 0 0] 26) := ⟨_, rfl⟩
        have b_x : Bx u p 26 #[.int .i64 xB, .slice xA xZ.length xC] := by rw [hu, hp]; exact (((Bx.new _ _ _).alloc _).alloc _).alloc _
        have b_y : Bx u (p + 1) 26 #[.int .i64 xB, .slice yA yZ.length yC] := by rw [hu, hp]; simpa using ((Bx.new (w.alloc (.cells #[.int .i64 xB, .slice xA xZ.length xC] 26)) #[.int .i64 xB, .slice yA yZ.length yC] 26).alloc _).alloc _
        have b_r : Bx u (p + 1 + 1) 26 #[.int .i64 0, .slice none 0 0] := by rw [hu, hp]; simpa using (Bx.new ((w.alloc (.cells #[.int .i64 xB, .slice xA xZ.length xC] 26)).alloc (.cells #[.int .i64 xB, .slice yA yZ.length yC] 26)) #[.int .i64 0, .slice none 0 0] 26).alloc _
        have b_s : Bx u (p + 1 + 1 + 1) 26 #[.int .i64 0, .slice none 0 0] := by rw [hu, hp]; simpa using Bx.new (((w.alloc (.cells #[.int .i64 xB, .slice xA xZ.length xC] 26)).alloc (.cells #[.int .i64 xB, .slice yA yZ.length yC] 26)).alloc (.cells #[.int .i64 0, .slice none 0 0] 26)) #[.int .i64 0, .slice none 0 0] 26
        have hb : Below w.heap.size w u := by rw [hu]; exact (by repeat (first | with_reducible exact Below.refl _ _ | with_reducible refine Below.setCell ?_ (by first | omega | (simp <;> omega)) _ | with_reducible refine Below.alloc ?_ (by first | omega | (simp <;> omega)) _ | with_reducible refine Below.drew ?_))
        rw [← hu, ← hp]
        clear hu hp
        replace ha := ha.below hb
        replace hY := hY.below hb
        replace hl := hl.below hb
        replace hbel := hbel.trans (hb.mono hbel.size)
        clear hb
        have c0 := b_x.at_ 0 rfl
        have c1 := b_x.at_ 1 rfl
        go_wp2_with fail
        refine (accOf_ok a xB xA xC xZ u ha zx bx HX.out hl).mono ?_
        rintro e v ⟨rfl, hb⟩
        rw [HX9.out]
        clear c0 c1
        replace ha := ha.below hb
        replace hY := hY.below hb
        replace hl := hl.below hb
        replace b_x := b_x.below hb
        replace b_y := b_y.below hb
        replace b_r := b_r.below hb
        replace b_s := b_s.below hb
        replace hbel := hbel.trans (hb.mono hbel.size)
        clear hb
        have hpv0 : p + 1 + 1 + 1 < v.heap.size := b_s.lt
        go_upto_region 2 with fail
        obtain ⟨q, hq⟩ : ∃ g, g = v.heap.size := ⟨_, rfl⟩
        have hk_q : v.heap.size ≤ q := Nat.le_of_eq hq.symm
        obtain ⟨v2, hv2⟩ : ∃ V, V = v.alloc (.cells #[.int .i64 xB, .int .i64 xZ.length, .int .i64 (cntA xB xZ.length)] 113) := ⟨_, rfl⟩
        have b_q : Bx v2 q 113 #[.int .i64 xB, .int .i64 xZ.length, .int .i64 (cntA xB xZ.length)] := by rw [hv2, hq]; exact Bx.new _ _ _
        have hb : Below v.heap.size v v2 := by rw [hv2]; exact (Below.refl _ _).alloc (Nat.le_refl _) _
        rw [← hq, ← hv2]
        clear hv2 hq
        replace ha := ha.below hb
        replace hY := hY.below hb
        replace hl := hl.below hb
        replace b_x := b_x.below hb
        replace b_y := b_y.below hb
        replace b_r := b_r.below hb
        replace b_s := b_s.below hb
        replace hbel := hbel.trans (hb.mono hbel.size)
        clear hb
        have d0 := b_y.at_ 0 rfl
        have d1 := b_y.at_ 1 rfl
        go_wp2_with fail
        refine (accOf_ex a xB yA yC yZ true v2 hY zy by_ HYB.out hl).mono ?_
        rintro e v3 ⟨j1, j2, j3, j4, rfl, hb⟩
        clear d0 d1
        replace ha := ha.below hb
        replace hY := hY.below hb
        replace hl := hl.below hb
        replace b_x := b_x.below hb
        replace b_y := b_y.below hb
        replace b_r := b_r.below hb
        replace b_s := b_s.below hb
        replace b_q := b_q.below hb
        replace hbel := hbel.trans (hb.mono hbel.size)
        clear hb
        go_upto_region 3 with fail
        obtain ⟨k, hk⟩ : ∃ g, g = v3.heap.size := ⟨_, rfl⟩
        have hk_k : v3.heap.size ≤ k := Nat.le_of_eq hk.symm
        obtain ⟨v4, hv4⟩ : ∃ V, V = v3.alloc (.cells #[.int .i64 j1, .int .i64 j2, .int .i64 j3] 113) := ⟨_, rfl⟩
        have b_k : Bx v4 k 113 #[.int .i64 j1, .int .i64 j2, .int .i64 j3] := by rw [hv4, hk]; exact Bx.new _ _ _
        have hb : Below v3.heap.size v3 v4 := by rw [hv4]; exact (Below.refl _ _).alloc (Nat.le_refl _) _
        rw [← hk, ← hv4]
        clear hv4 hk
        replace ha := ha.below hb
        replace hY := hY.below hb
        replace hl := hl.below hb
        replace b_x := b_x.below hb
        replace b_y := b_y.below hb
        replace b_r := b_r.below hb
        replace b_s := b_s.below hb
        replace b_q := b_q.below hb
        replace hbel := hbel.trans (hb.mono hbel.size)
        clear hb
        have c0 := b_x.at_ 0 rfl
        have c1 := b_x.at_ 1 rfl
        have d0 := b_y.at_ 0 rfl
        have d1 := b_y.at_ 1 rfl
        go_wp2_with fail
        refine (implAccumulateNumber xB yA yC yZ x v4 hY zy by_ hx64 ⟨a, hl⟩).mono ?_
        rintro e v5 ⟨D, E, rfl, ow, hb⟩
        rw [HAC.out] at ow ⊢
        simp only at ow ⊢
        have hpv : p + 1 + 1 + 1 < v4.heap.size := b_s.lt
        have hqv4 : q < v4.heap.size := b_q.lt
        have hqp : p + 1 + 1 + 1 < q := by have := hk_q; omega
        have hv45 := hb.size
        have hwv4 := hbel.size
        clear c0 c1 d0 d1
        replace ha := ha.below hb
        replace hY := hY.below hb
        replace hl := hl.below hb
        replace b_x := b_x.below hb
        replace b_y := b_y.below hb
        replace b_r := b_r.below hb
        replace b_s := b_s.below hb
        replace b_q := b_q.below hb
        replace b_k := b_k.below hb
        replace hbel := hbel.trans (hb.mono hbel.size)
        clear hb
        obtain ⟨z4, hz4⟩ : ∃ z, z = v4.heap.size := ⟨_, rfl⟩
        obtain ⟨z5, hz5⟩ : ∃ z, z = v5.heap.size := ⟨_, rfl⟩
        rw [← hz4, ← hz5] at ow
        have hz45 : z4 ≤ z5 := by omega
        have hwz4 : w.heap.size ≤ z4 := by omega
        have hpz4 : p + 1 + 1 + 1 < z4 := by omega
        have hqz4 : q < z4 := by omega
        clear hz4
        go_upto_region 8 with fail
        obtain ⟨g, hg⟩ : ∃ g, g = v5.heap.size := ⟨_, rfl⟩
        have hk_g : v5.heap.size ≤ g := Nat.le_of_eq hg.symm
        obtain ⟨v6, hv6⟩ : ∃ V, V = v5.alloc (.cells #[.int .i64 xB, .slice D (setA xB yZ.length (numA xB yZ + x)).length E] 26) := ⟨_, rfl⟩
        have b_g : Bx v6 g 26 #[.int .i64 xB, .slice D (setA xB yZ.length (numA xB yZ + x)).length E] := by rw [hv6, hg]; exact Bx.new _ _ _
        have hb : Below v5.heap.size v5 v6 := by rw [hv6]; exact (Below.refl _ _).alloc (Nat.le_refl _) _
        rw [← hg, ← hv6]
        clear hv6 hg
        replace ha := ha.below hb
        replace hY := hY.below hb
        replace hl := hl.below hb
        replace b_x := b_x.below hb
        replace b_y := b_y.below hb
        replace b_r := b_r.below hb
        replace b_s := b_s.below hb
        replace b_q := b_q.below hb
        replace b_k := b_k.below hb
        replace ow := ow.below hb
        replace hbel := hbel.trans (hb.mono hbel.size)
        clear hb
        have hgz : z5 ≤ g := by omega
        have hg6 := b_g.lt
        clear hz5
        have s0 : ∀ w', (Bx w' q 113 #[.int .i64 xB, .int .i64 xZ.length, .int .i64 (cntA xB xZ.length)] ∧ Bx w' g 26 #[.int .i64 xB, .slice D (setA xB yZ.length (numA xB yZ + x)).length E]) → w'.cell? ⟨q, 0, none⟩ = some (.int .i64 xB) := fun _ h => h.1.at_ 0 rfl
        have s1 : ∀ w', (Bx w' q 113 #[.int .i64 xB, .int .i64 xZ.length, .int .i64 (cntA xB xZ.length)] ∧ Bx w' g 26 #[.int .i64 xB, .slice D (setA xB yZ.length (numA xB yZ + x)).length E]) → w'.cell? ⟨q, 1, none⟩ = some (.int .i64 xZ.length) := fun _ h => h.1.at_ 1 rfl
        have s4 : ∀ w', (Bx w' q 113 #[.int .i64 xB, .int .i64 xZ.length, .int .i64 (cntA xB xZ.length)] ∧ Bx w' g 26 #[.int .i64 xB, .slice D (setA xB yZ.length (numA xB yZ + x)).length E]) → w'.cell? ⟨q, 2, none⟩ = some (.int .i64 (cntA xB xZ.length)) := fun _ h => h.1.at_ 2 rfl
        have s2 : ∀ w', (Bx w' q 113 #[.int .i64 xB, .int .i64 xZ.length, .int .i64 (cntA xB xZ.length)] ∧ Bx w' g 26 #[.int .i64 xB, .slice D (setA xB yZ.length (numA xB yZ + x)).length E]) → w'.cell? ⟨g, 0, none⟩ = some (.int .i64 xB) := fun _ h => h.2.at_ 0 rfl
        have s3 : ∀ w', (Bx w' q 113 #[.int .i64 xB, .int .i64 xZ.length, .int .i64 (cntA xB xZ.length)] ∧ Bx w' g 26 #[.int .i64 xB, .slice D (setA xB yZ.length (numA xB yZ + x)).length E]) → w'.cell? ⟨g, 1, none⟩ = some (.slice D (setA xB yZ.length (numA xB yZ + x)).length E) := fun _ h => h.2.at_ 1 rfl
        have hS : Bx v6.drew q 113 #[.int .i64 xB, .int .i64 xZ.length, .int .i64 (cntA xB xZ.length)] ∧ Bx v6.drew g 26 #[.int .i64 xB, .slice D (setA xB yZ.length (numA xB yZ + x)).length E] := ⟨b_q.drew, b_g.drew⟩
        refine wp_region_marked (fun w' => Bx w' q 113 #[.int .i64 xB, .int .i64 xZ.length, .int .i64 (cntA xB xZ.length)] ∧ Bx w' g 26 #[.int .i64 xB, .slice D (setA xB yZ.length (numA xB yZ + x)).length E]) 6 (by kernel_rfl) ?_
        refine wpAnyM_take (i := 0) (v := ?_) rfl (by kernel_rfl) (by kernel_rfl) (by kernel_rfl) (by kernel_rfl) (by kernel_rfl) (fun _ _ _ h => h) hS (.inl ⟨by rfl, ?_⟩) ?_
        rotate_left 1
        · intro w' hS'; go_simp; try with_reducible rfl
        simp only [Act.put, List.setIfInBounds_toArray, List.set_cons_succ, List.set_cons_zero, List.getElem_toArray, List.getElem_cons_zero]
        refine wpAnyM_take (i := 2) (v := ?_) rfl (by kernel_rfl) (by kernel_rfl) (by kernel_rfl) (by kernel_rfl) (by kernel_rfl) (fun _ _ _ h => h) hS (.inl ⟨by rfl, ?_⟩) ?_
        rotate_left 1
        · intro w' hS'; go_simp; try with_reducible rfl
        simp only [Act.put, List.setIfInBounds_toArray, List.set_cons_succ, List.set_cons_zero, List.getElem_toArray, List.getElem_cons_succ, List.getElem_cons_zero]
        refine wpAnyM_take (i := 3) (v := ?_) rfl (by kernel_rfl) (by kernel_rfl) (by kernel_rfl) (by kernel_rfl) (by kernel_rfl) (fun _ _ _ h => h) hS (.inl ⟨by rfl, ?_⟩) ?_
        rotate_left 1
        · intro w' hS'; go_simp; try with_reducible rfl
        simp only [Act.put, List.setIfInBounds_toArray, List.set_cons_succ, List.set_cons_zero, List.getElem_toArray, List.getElem_cons_succ, List.getElem_cons_zero]
        refine wpAnyM_one (i := 1) (by kernel_rfl) rfl (by rfl) (fun K hK => ?_)
        go_simp
        refine (register_any xB xZ.length 0 v6.drew HF.out).mono ?_
        rintro e v7 ⟨A, C, rfl, ow2, hb⟩
        replace hb : Below v6.heap.size v6 v7 := ((Below.refl v6.heap.size v6).drew).trans hb
        have hv67 := hb.size
        have hk0 := hbel.size
        replace ow2 : Own 2 v7 v6.heap.size v7.heap.size (.slice A (setA xB xZ.length 0).length C) (setA xB xZ.length 0) := by simpa using ow2
        obtain ⟨z6, hz6⟩ : ∃ z, z = v6.heap.size := ⟨_, rfl⟩
        obtain ⟨z7, hz7⟩ : ∃ z, z = v7.heap.size := ⟨_, rfl⟩
        rw [← hz6, ← hz7] at ow2
        have hz67 : z6 ≤ z7 := by omega
        have hgz6 : g < z6 := by omega
        have hz7v : z7 ≤ v7.heap.size := by omega
        clear hz6 hz7
        replace ha := ha.below hb
        replace hY := hY.below hb
        replace hl := hl.below hb
        replace b_x := b_x.below hb
        replace b_y := b_y.below hb
        replace b_r := b_r.below hb
        replace b_s := b_s.below hb
        replace b_q := b_q.below hb
        replace b_k := b_k.below hb
        replace ow := ow.below hb
        replace b_g := b_g.below hb
        replace hbel := hbel.trans (hb.mono hbel.size)
        clear hb
        replace hS := And.intro b_q b_g
        refine hK _ _ (.inr hS) ?_
        try simp only [Act.put, List.setIfInBounds_toArray, List.set_cons_succ, List.set_cons_zero, List.getElem_toArray, List.getElem_cons_succ, List.getElem_cons_zero]
        clear hK K
        have r0 := b_r.at_ 0 rfl
        have r1 := b_r.at_ 1 rfl
        have f0 := b_r.thaw 0
        have f1 := b_r.thaw 1
        have t0 := b_s.at_ 0 rfl
        have t1 := b_s.at_ 1 rfl
        have g0 := b_s.thaw 0
        have g1 := b_s.thaw 1
        have hs := b_r.lt
        have hs2 := b_s.lt
        have hbs := hbel.size
        have n1 : q ≠ p + 1 + 1 := by omega
        have n2 : g ≠ p + 1 + 1 := by omega
        have n3 : q ≠ p + 1 + 1 + 1 := by omega
        have n4 : g ≠ p + 1 + 1 + 1 := by omega
        refine wpAnyM_one (i := 4) (by kernel_rfl) rfl (by rfl) (fun K hK => ?_)
        go_simp
        replace hS := And.intro ((hS.1.far (p := ⟨p + 1 + 1, 0, none⟩) n1 (.int .i64 xB)).far (p := ⟨p + 1 + 1, 1, none⟩) n1 (.slice A (setA xB xZ.length 0).length C)) ((hS.2.far (p := ⟨p + 1 + 1, 0, none⟩) n2 (.int .i64 xB)).far (p := ⟨p + 1 + 1, 1, none⟩) n2 (.slice A (setA xB xZ.length 0).length C))
        refine hK _ _ (.inr hS) ?_
        try simp only [Act.put, List.setIfInBounds_toArray, List.set_cons_succ, List.set_cons_zero, List.getElem_toArray, List.getElem_cons_succ, List.getElem_cons_zero]
        clear hK K
        refine wpAnyM_one (i := 5) (by kernel_rfl) rfl (by rfl) (fun K hK => ?_)
        go_simp
        replace hS := And.intro ((hS.1.far (p := ⟨p + 1 + 1 + 1, 0, none⟩) n3 (.int .i64 xB)).far (p := ⟨p + 1 + 1 + 1, 1, none⟩) n3 (.slice D (setA xB yZ.length (numA xB yZ + x)).length E)) ((hS.2.far (p := ⟨p + 1 + 1 + 1, 0, none⟩) n4 (.int .i64 xB)).far (p := ⟨p + 1 + 1 + 1, 1, none⟩) n4 (.slice D (setA xB yZ.length (numA xB yZ + x)).length E))
        refine hK _ _ (.inr hS) ?_
        try simp only [Act.put, List.setIfInBounds_toArray, List.set_cons_succ, List.set_cons_zero, List.getElem_toArray, List.getElem_cons_succ, List.getElem_cons_zero]
        clear hK K
        refine wpAnyM_one (i := 6) (by kernel_rfl) rfl (by rfl) (fun K hK => ?_)
        go_simp
        refine hK _ _ (.inl rfl) ?_
        try simp only [Act.put, List.setIfInBounds_toArray, List.set_cons_succ, List.set_cons_zero, List.getElem_toArray, List.getElem_cons_succ, List.getElem_cons_zero]
        clear hK K
        refine wpAnyM_one (i := 7) (by kernel_rfl) rfl (by rfl) (fun K hK => ?_)
        go_simp
        refine hK _ _ (.inl rfl) ?_
        clear hK K
        refine wpAnyM_done (by kernel_rfl) ?_ _
        try simp only [Act.put, List.setIfInBounds_toArray, List.set_cons_succ, List.set_cons_zero, List.getElem_toArray, List.getElem_cons_succ, List.getElem_cons_zero]
        go_wp2
        have own1 := (((ow.setCell (p := ⟨p + 1 + 1, 0, none⟩) (.inl (by simp; omega)) (.int .i64 xB)).setCell (p := ⟨p + 1 + 1, 1, none⟩) (.inl (by simp; omega)) (.slice A (setA xB xZ.length 0).length C)).setCell (p := ⟨p + 1 + 1 + 1, 0, none⟩) (.inl (by simp; omega)) (.int .i64 xB)).setCell (p := ⟨p + 1 + 1 + 1, 1, none⟩) (.inl (by simp; omega)) (.slice D (setA xB yZ.length (numA xB yZ + x)).length E)
        have own2 := (((ow2.setCell (p := ⟨p + 1 + 1, 0, none⟩) (.inl (by simp; omega)) (.int .i64 xB)).setCell (p := ⟨p + 1 + 1, 1, none⟩) (.inl (by simp; omega)) (.slice A (setA xB xZ.length 0).length C)).setCell (p := ⟨p + 1 + 1 + 1, 0, none⟩) (.inl (by simp; omega)) (.int .i64 xB)).setCell (p := ⟨p + 1 + 1 + 1, 1, none⟩) (.inl (by simp; omega)) (.slice D (setA xB yZ.length (numA xB yZ + x)).length E)
        have hlast : Below w.heap.size w _ := (((hbel.setCell (p := ⟨p + 1 + 1, 0, none⟩) (by simp; omega) (.int .i64 xB)).setCell (p := ⟨p + 1 + 1, 1, none⟩) (by simp; omega) (.slice A (setA xB xZ.length 0).length C)).setCell (p := ⟨p + 1 + 1 + 1, 0, none⟩) (by simp; omega) (.int .i64 xB)).setCell (p := ⟨p + 1 + 1 + 1, 1, none⟩) (by simp; omega) (.slice D (setA xB yZ.length (numA xB yZ + x)).length E)
        exact bodyPost_ret (v := .tuple #[.agg #[.int .i64 xB, .slice A (setA xB xZ.length 0).length C], .agg #[.int .i64 xB, .slice D (setA xB yZ.length (numA xB yZ + x)).length E], .bool t, .int .i64 0]) (by simp [results, go_sem, r0, r1, t0, t1]) rfl
          (trnG_ok HR.out rfl own2 own1 (by omega) (by omega) (by omega) (by simp; omega) (by simp; omega) hlast)
      · have HR := Lib.hid (show trnR xB xZ yB yZ = (0, [], 0, [], false, 6) by simp [trnR, hx, hy, hB])
        have hB2 : (xB == yB) = false := by simp [hB]
        clear hx hy
        go_enter Tryd.func50, Tryd.ntmps50
        go_upto_region 1 with fail
        obtain ⟨p, hp⟩ : ∃ g, g = w.heap.size := ⟨_, rfl⟩
        have hwp : w.heap.size ≤ p := Nat.le_of_eq hp.symm
        obtain ⟨u, hu⟩ : ∃ u, u = (((w.alloc (.cells #[.int .i64 xB, .slice xA xZ.length xC] 26)).alloc (.cells #[.int .i64 yB, .slice yA yZ.length yC] 26)).alloc (.cells #[.int .i64 0, .slice none 0 0] 26)).alloc (.cells #[.int .i64 0, .slice none 0 0] 26) := ⟨_, rfl⟩
        have b_x : Bx u p 26 #[.int .i64 xB, .slice xA xZ.length xC] := by rw [hu, hp]; exact (((Bx.new _ _ _).alloc _).alloc _).alloc _
        have b_y : Bx u (p + 1) 26 #[.int .i64 yB, .slice yA yZ.length yC] := by rw [hu, hp]; simpa using ((Bx.new (w.alloc (.cells #[.int .i64 xB, .slice xA xZ.length xC] 26)) #[.int .i64 yB, .slice yA yZ.length yC] 26).alloc _).alloc _
        have b_r : Bx u (p + 1 + 1) 26 #[.int .i64 0, .slice none 0 0] := by rw [hu, hp]; simpa using (Bx.new ((w.alloc (.cells #[.int .i64 xB, .slice xA xZ.length xC] 26)).alloc (.cells #[.int .i64 yB, .slice yA yZ.length yC] 26)) #[.int .i64 0, .slice none 0 0] 26).alloc _
        have b_s : Bx u (p + 1 + 1 + 1) 26 #[.int .i64 0, .slice none 0 0] := by rw [hu, hp]; simpa using Bx.new (((w.alloc (.cells #[.int .i64 xB, .slice xA xZ.length xC] 26)).alloc (.cells #[.int .i64 yB, .slice yA yZ.length yC] 26)).alloc (.cells #[.int .i64 0, .slice none 0 0] 26)) #[.int .i64 0, .slice none 0 0] 26
        have hb : Below w.heap.size w u := by rw [hu]; exact (by repeat (first | with_reducible exact Below.refl _ _ | with_reducible refine Below.setCell ?_ (by first | omega | (simp <;> omega)) _ | with_reducible refine Below.alloc ?_ (by first | omega | (simp <;> omega)) _ | with_reducible refine Below.drew ?_))
        rw [← hu, ← hp]
        clear hu hp
        replace ha := ha.below hb
        replace hY := hY.below hb
        replace hl := hl.below hb
        replace hbel := hbel.trans (hb.mono hbel.size)
        clear hb
        have c0 := b_x.at_ 0 rfl
        have c1 := b_x.at_ 1 rfl
        go_wp2_with fail
        refine (accOf_ex a xB xA xC xZ true u ha zx bx HX.out hl).mono ?_
        rintro e v ⟨i1, i2, i3, i4, rfl, hb⟩
        clear c0 c1
        replace ha := ha.below hb
        replace hY := hY.below hb
        replace hl := hl.below hb
        replace b_x := b_x.below hb
        replace b_y := b_y.below hb
        replace b_r := b_r.below hb
        replace b_s := b_s.below hb
        replace hbel := hbel.trans (hb.mono hbel.size)
        clear hb
        go_upto_region 2 with fail
        obtain ⟨q, hq⟩ : ∃ g, g = v.heap.size := ⟨_, rfl⟩
        have hk_q : v.heap.size ≤ q := Nat.le_of_eq hq.symm
        obtain ⟨v2, hv2⟩ : ∃ V, V = v.alloc (.cells #[.int .i64 i1, .int .i64 i2, .int .i64 i3] 113) := ⟨_, rfl⟩
        have b_q : Bx v2 q 113 #[.int .i64 i1, .int .i64 i2, .int .i64 i3] := by rw [hv2, hq]; exact Bx.new _ _ _
        have hb : Below v.heap.size v v2 := by rw [hv2]; exact (Below.refl _ _).alloc (Nat.le_refl _) _
        rw [← hq, ← hv2]
        clear hv2 hq
        replace ha := ha.below hb
        replace hY := hY.below hb
        replace hl := hl.below hb
        replace b_x := b_x.below hb
        replace b_y := b_y.below hb
        replace b_r := b_r.below hb
        replace b_s := b_s.below hb
        replace hbel := hbel.trans (hb.mono hbel.size)
        clear hb
        have d0 := b_y.at_ 0 rfl
        have d1 := b_y.at_ 1 rfl
        go_wp2_with fail
        refine (accOf_ex a yB yA yC yZ true v2 hY zy by_ HYB.out hl).mono ?_
        rintro e v3 ⟨j1, j2, j3, j4, rfl, hb⟩
        clear d0 d1
        replace ha := ha.below hb
        replace hY := hY.below hb
        replace hl := hl.below hb
        replace b_x := b_x.below hb
        replace b_y := b_y.below hb
        replace b_r := b_r.below hb
        replace b_s := b_s.below hb
        replace b_q := b_q.below hb
        replace hbel := hbel.trans (hb.mono hbel.size)
        clear hb
        go_upto_region 3 with fail
        obtain ⟨k, hk⟩ : ∃ g, g = v3.heap.size := ⟨_, rfl⟩
        have hk_k : v3.heap.size ≤ k := Nat.le_of_eq hk.symm
        obtain ⟨v4, hv4⟩ : ∃ V, V = v3.alloc (.cells #[.int .i64 j1, .int .i64 j2, .int .i64 j3] 113) := ⟨_, rfl⟩
        have b_k : Bx v4 k 113 #[.int .i64 j1, .int .i64 j2, .int .i64 j3] := by rw [hv4, hk]; exact Bx.new _ _ _
        have hb : Below v3.heap.size v3 v4 := by rw [hv4]; exact (Below.refl _ _).alloc (Nat.le_refl _) _
        rw [← hk, ← hv4]
        clear hv4 hk
        replace ha := ha.below hb
        replace hY := hY.below hb
        replace hl := hl.below hb
        replace b_x := b_x.below hb
        replace b_y := b_y.below hb
        replace b_r := b_r.below hb
        replace b_s := b_s.below hb
        replace b_q := b_q.below hb
        replace hbel := hbel.trans (hb.mono hbel.size)
        clear hb
        have c0 := b_x.at_ 0 rfl
        have c1 := b_x.at_ 1 rfl
        have d0 := b_y.at_ 0 rfl
        have d1 := b_y.at_ 1 rfl
        have r0 := b_r.at_ 0 rfl
        have r1 := b_r.at_ 1 rfl
        have f0 := b_r.thaw 0
        have f1 := b_r.thaw 1
        have t0 := b_s.at_ 0 rfl
        have t1 := b_s.at_ 1 rfl
        have g0 := b_s.thaw 0
        have g1 := b_s.thaw 1
        have hs := b_r.lt
        have hs2 := b_s.lt
        have hbs := hbel.size
        go_wp2
        exact bodyPost_ret (v := .tuple #[.agg #[.int .i64 0, .slice none 0 0], .agg #[.int .i64 0, .slice none 0 0], .bool false, .int .i64 6]) (by simp [results, go_sem, r0, r1, t0, t1]) rfl
          (trnG_err HR.out rfl (by repeat (first | with_reducible exact hbel | with_reducible refine Below.setCell ?_ (by first | omega | (simp <;> omega)) _ | with_reducible refine Below.alloc ?_ (by first | omega | (simp <;> omega)) _ | with_reducible refine Below.drew ?_)))

theorem implTransferTo (xB : Int) (xA : Option Addr) (xC : Nat) (xZ : List Int) (yB : Int) (yA : Option Addr) (yC : Nat) (yZ : List Int) (w : World) (ha : Rd w xA xZ) (zx : All64 xZ) (bx : I64 xB) (hY : Rd w yA yZ) (zy : All64 yZ) (by_ : I64 yB) (hD : BellD w) :
    Calls Tryd.prog 50 #[.agg #[.int .i64 xB, .slice xA xZ.length xC], .agg #[.int .i64 yB, .slice yA yZ.length yC]] w (TrnG (trnR xB xZ yB yZ) w) :=
  hD.elim fun a hl => transfer_any a xB xA xC xZ yB yA yC yZ w ha zx bx hY zy by_ hl
end Go.Proofs.YtlahobdopmdfmaaDoor

/- PowS -/
namespace Go.Proofs.YtlahobdopmdfmaaDoor
open Go.RowKit

set_option maxHeartbeats 1000000 in
theorem l10Power_any (B : Int) (n : Nat) (w : World) (b1 : 1 ≤ B) (b2 : B ≤ 16) (hn : n ≤ 16) :
    Calls Tryd.prog 103 #[.int .i64 B, .int .i64 n] w fun e w' => e = .returned (.int .i64 (capW B n)) ∧ w' = w := by
  go_enter Tryd.func103, Tryd.ntmps103
  go_wp2
  go_loop [1, 5] (fun i o => ∃ k m : Nat, k + m = n ∧ i = .int .i64 m ∧ o = .int .i64 (capW B k)) (fun i _ => (intOf i).toNat)
  case atStart => exact ⟨0, n, by omega, rfl, by rw [capW_zero]⟩
  case round =>
    obtain ⟨k, m, hkm, rfl, rfl⟩ := hrel
    by_cases hlt : 0 < m
    · have hb := capW_bd b1 k
      have hm0 : capW B k * B ≤ 1000000000002 * 16 := Int.mul_le_mul hb.2 b2 (by omega) (by omega)
      have hm1 : 0 ≤ capW B k * B := Int.mul_nonneg (by omega) (by omega)
      have hs := Lib.hid (capW_succ b1 k)
      obtain ⟨q, hq⟩ : ∃ q, q = capW B k * B := ⟨_, rfl⟩
      rw [← hq] at hs hm0 hm1
      have hw1 : IntKind.i64.wrap (capW B k * B) = q := by rw [← hq]; exact IntWalk.i64_in _ (by omega)
      have hw2 : wrap64 (capW B k * B) = q := by rw [← hq]; unfold wrap64; omega
      clear hq hm0 hm1
      go_wp2_with (go_at_call 158; refine (l00Min_any _ _ _).mono ?_; rintro e w1 ⟨rfl, rfl⟩)
      go_round
      case rel => exact ⟨k + 1, m - 1, by omega, by go_num, by rw [← hs.out]⟩
      case measure => simp [intOf]; omega
    · obtain rfl : m = 0 := by omega
      obtain rfl : k = n := by omega
      go_wp2
      go_ret
      exact ⟨rfl, rfl⟩

theorem l10Full_any (B : Int) (n : Nat) (w : World) (b1 : 1 ≤ B) (b2 : B ≤ 16) (hn : n ≤ 16) :
    Calls Tryd.prog 119 #[.int .i64 B, .int .i64 n] w fun e w' => e = .returned (.bool (decide (B ^ n - 1 ≤ 1000000000000))) ∧ w' = w := by
  have hb := capW_bd b1 n
  have ht := Lib.hid (show decide (capW B n - 1 ≤ 1000000000000) = decide (B ^ n - 1 ≤ 1000000000000) from decide_eq_decide.2 capW_test)
  go_enter Tryd.func119, Tryd.ntmps119
  go_wp2_with fail
  refine (l10Power_any B n _ b1 b2 hn).mono ?_
  rintro e w1 ⟨rfl, rfl⟩
  go_wp2
  go_ret
  exact ⟨ret_bool ht.out, rfl⟩

theorem l09Low_any (B : Int) (n : Nat) (w : World) (b1 : 1 ≤ B) (b2 : B ≤ 16) (hn : n ≤ 16) :
    Calls Tryd.prog 101 #[.int .i64 B, .int .i64 n] w fun e w' => e = .returned (.int .i64 (capW B n / 2)) ∧ w' = w := by
  have hb := capW_bd b1 n
  have ht : (capW B n).tdiv 2 = capW B n / 2 := Int.tdiv_eq_ediv_of_nonneg (by omega)
  obtain ⟨q, hq⟩ : ∃ q, q = capW B n / 2 := ⟨_, rfl⟩
  rw [← hq] at ht ⊢
  have hq2 : 0 ≤ q ∧ q ≤ 1000000000002 := by omega
  clear hq
  go_enter Tryd.func101, Tryd.ntmps101
  go_wp2_with fail
  refine (l10Power_any B n _ b1 b2 hn).mono ?_
  rintro e w1 ⟨rfl, rfl⟩
  go_wp2
  go_ret
  exact ⟨rfl, rfl⟩

theorem l09Size_any (B n : Int) (w : World) :
    Calls Tryd.prog 99 #[.int .i64 B, .int .i64 n] w fun e w' => e = .returned (.bool (fullB B n)) ∧ w' = w := by
  cases hb : baseB B with
  | false =>
    have HF := Lib.hid (show fullB B n = false by have := baseB_false hb; simp only [fullB, decide_eq_false_iff_not]; omega)
    have HB := Lib.hid (l02Base_any B)
    rw [hb] at HB
    clear hb
    go_enter Tryd.func99, Tryd.ntmps99
    go_wp2_with (go_at_call 133; refine (HB.out _).mono ?_; rintro e w1 ⟨rfl, rfl⟩)
    go_ret
    exact ⟨ret_bool HF.out.symm, rfl⟩
  | true =>
    have HB := Lib.hid (l02Base_any B)
    rw [hb] at HB
    obtain ⟨h1, h2⟩ := baseB_true hb
    clear hb
    cases hn : inB n 1 16 with
    | false =>
      have HF := Lib.hid (show fullB B n = false by have := inB_false hn; simp only [fullB, decide_eq_false_iff_not]; omega)
      have HI := Lib.hid (fun w => l00In_false n 1 16 w (inB_false hn))
      clear hn
      go_enter Tryd.func99, Tryd.ntmps99
      go_wp2_with (first | (go_at_call 133; refine (HB.out _).mono ?_; rintro e w1 ⟨rfl, rfl⟩) | (go_at_call 118; refine (HI.out _).mono ?_; rintro e w1 ⟨rfl, rfl⟩))
      go_ret
      exact ⟨ret_bool HF.out.symm, rfl⟩
    | true =>
      obtain ⟨n1, n2⟩ := inB_true hn
      have HI := Lib.hid (fun w => l00In_true n 1 16 w n1 n2)
      obtain ⟨m, rfl⟩ := Int.eq_ofNat_of_zero_le (show 0 ≤ n by omega)
      have HL := Lib.hid (fun w => l10Full_any B m w (by omega) h2 (by omega))
      have HF := Lib.hid (show decide (B ^ m - 1 ≤ 1000000000000) = fullB B (m : Int) by simp only [fullB, Int.toNat_natCast]; exact decide_eq_decide.2 ⟨fun h => ⟨h1, h2, n1, n2, h⟩, fun h => h.2.2.2.2⟩)
      clear hn
      go_enter Tryd.func99, Tryd.ntmps99
      go_wp2_with (first | (go_at_call 133; refine (HB.out _).mono ?_; rintro e w1 ⟨rfl, rfl⟩) | (go_at_call 118; refine (HI.out _).mono ?_; rintro e w1 ⟨rfl, rfl⟩) | (go_at_call 119; refine (HL.out _).mono ?_; rintro e w1 ⟨rfl, rfl⟩))
      go_ret
      exact ⟨ret_bool HF.out, rfl⟩

set_option maxHeartbeats 1000000 in
theorem specAccumulatorRange (B n : Int) (w : World) (_ : I64 B) (_ : I64 n) :
    Calls Tryd.prog 31 #[.int .i64 B, .int .i64 n] w fun e w' => e = .returned (.tuple #[.int .i64 (rngA B n).1, .int .i64 (rngA B n).2.1, .int .i64 (rngA B n).2.2]) ∧ Below w.heap.size w w' := by
  have HS := Lib.hid (fun w => l09Size_any B n w)
  cases hf : fullB B n with
  | false =>
    have HR := Lib.hid (show rngA B n = (0, 0, 2) by simp [rngA, hf])
    rw [hf] at HS
    clear hf
    go_enter Tryd.func31, Tryd.ntmps31
    go_wp2_with (go_at_call 99; refine (HS.out _).mono ?_; rintro e w1 ⟨rfl, rfl⟩)
    exact bodyPost_ret (v := .tuple #[.int .i64 0, .int .i64 0, .int .i64 2]) (by simp [results, Tryd.results31, go_sem]) rfl ⟨by rw [HR.out], Below.refl _ _⟩
  | true =>
    obtain ⟨h1, h2, n1, n2, h5⟩ := fullB_spec hf
    have hc := cntA_bd hf
    obtain ⟨m, rfl⟩ := Int.eq_ofNat_of_zero_le (show 0 ≤ n by omega)
    have hcap : capW B m = cntA B (m : Int) := by rw [capW_full (by simpa using h5)]; simp [cntA]
    have HP := Lib.hid (fun w => l10Power_any B m w (by omega) h2 (by omega))
    have HL := Lib.hid (fun w => l09Low_any B m w (by omega) h2 (by omega))
    rw [hcap] at HP HL
    have HR := Lib.hid (show rngA B m = (-(cntA B m / 2), cntA B m - 1 + -(cntA B m / 2), 0) by simp [rngA, hf])
    rw [hf] at HS
    obtain ⟨q, hq⟩ : ∃ q, q = cntA B m / 2 := ⟨_, rfl⟩
    rw [← hq] at HL HR
    have hq2 : 0 ≤ q ∧ q ≤ 1000000000002 := by omega
    clear hf hq hcap h5
    go_enter Tryd.func31, Tryd.ntmps31
    go_wp2_with (first | (go_at_call 99; refine (HS.out _).mono ?_; rintro e w1 ⟨rfl, rfl⟩) | (go_at_call 103; refine (HP.out _).mono ?_; rintro e w1 ⟨rfl, rfl⟩) | (go_at_call 101; refine (HL.out _).mono ?_; rintro e w1 ⟨rfl, rfl⟩))
    exact bodyPost_ret (v := .tuple #[.int .i64 (-q), .int .i64 (cntA B m - 1 - q), .int .i64 0]) (by simp [results, Tryd.results31, go_sem]) rfl ⟨by rw [HR.out]; simp only [Int.sub_eq_add_neg], Below.refl _ _⟩
end Go.Proofs.YtlahobdopmdfmaaDoor

/- AccS -/
namespace Go.Proofs.YtlahobdopmdfmaaDoor
open Go.RowKit

theorem mod_twiceS {n c : Int} (hc : 1 ≤ c) : -c < n.tmod c ∧ n.tmod c < c ∧ (n.tmod c + c).tmod c = n % c := by
  have h1 : n.tmod c < c := Int.tmod_lt_of_pos _ (by omega)
  have h2 : -c < n.tmod c := by
    have := Int.tmod_lt_of_pos (-n) (show 0 < c by omega)
    rw [Int.neg_tmod] at this; omega
  refine ⟨h2, h1, ?_⟩
  rw [Int.tmod_eq_emod_of_nonneg (by omega), Int.add_emod_right]
  have e := Int.mul_tdiv_add_tmod n c
  conv => rhs; rw [← e, Int.add_comm, Int.add_mul_emod_self_left]

/-- A register of its own. -/
def RegV (B : Int) (zs : List Int) (w : World) (e : Ending) (w' : World) : Prop := ∃ A C,
  e = .returned (.agg #[.int .i64 B, .slice A zs.length C]) ∧ Own 2 w' w.heap.size w'.heap.size (.slice A zs.length C) zs ∧ Below w.heap.size w w'

theorem l09In_any (B n x : Int) (w : World) (h : fullB B n = true) :
    Calls Tryd.prog 109 #[.int .i64 B, .int .i64 n, .int .i64 x] w fun e w' => e = .returned (.bool (inA (cntA B n) x)) ∧ w' = w := by
  obtain ⟨h1, h2, n1, n2, h5⟩ := fullB_spec h
  have hc := cntA_bd h
  obtain ⟨m, rfl⟩ := Int.eq_ofNat_of_zero_le (show 0 ≤ n by omega)
  have hcap : capW B m = cntA B (m : Int) := by rw [capW_full (by simpa using h5)]; simp [cntA]
  have HP := Lib.hid (fun w => l10Power_any B m w (by omega) h2 (by omega))
  have HL := Lib.hid (fun w => l09Low_any B m w (by omega) h2 (by omega))
  rw [hcap] at HP HL
  obtain ⟨N, hN⟩ : ∃ N, N = cntA B m := ⟨_, rfl⟩
  rw [← hN] at HP HL hc ⊢
  obtain ⟨q, hq⟩ : ∃ q, q = N / 2 := ⟨_, rfl⟩
  have HA := Lib.hid (show inB x (-q) (N - 1 - q) = inA N x by rw [hq]; unfold inB inA; simp only [Int.sub_eq_add_neg])
  rw [← hq] at HL
  have hq2 : 0 ≤ q ∧ q ≤ 1000000000002 := by omega
  have HI := Lib.hid (fun w => l00In_any x (-q) (N - 1 - q) w)
  clear hN hq hcap h5 h
  go_enter Tryd.func109, Tryd.ntmps109
  go_wp2_with (first | (go_at_call 103; refine (HP.out _).mono ?_; rintro e w1 ⟨rfl, rfl⟩) | (go_at_call 101; refine (HL.out _).mono ?_; rintro e w1 ⟨rfl, rfl⟩) | (go_at_call 118; refine (HI.out _).mono ?_; rintro e w1 ⟨rfl, rfl⟩))
  go_ret
  exact ⟨ret_bool HA.out, rfl⟩
theorem l09In_at {v : Bool} (B n x : Int) (w : World) (h : fullB B n = true) (hv : inA (cntA B n) x = v) :
    Calls Tryd.prog 109 #[.int .i64 B, .int .i64 n, .int .i64 x] w fun e w' => e = .returned (.bool v) ∧ w' = w := hv ▸ l09In_any B n x w h

set_option maxHeartbeats 1000000 in
set_option maxRecDepth 100000 in
theorem l09Set_any (B n x : Int) (w : World) (h : fullB B n = true) :
    Calls Tryd.prog 110 #[.int .i64 B, .int .i64 n, .int .i64 x] w (RegV B (setA B n x) w) := by
  obtain ⟨h1, h2, n1, n2, h5⟩ := fullB_spec h
  have hc := cntA_bd h
  have hm := modA_bd h x
  have hl := setA_len (B := B) (n := n) x
  obtain ⟨m, rfl⟩ := Int.eq_ofNat_of_zero_le (show 0 ≤ n by omega)
  have hcap : capW B m = cntA B (m : Int) := by rw [capW_full (by simpa using h5)]; simp [cntA]
  have HP := Lib.hid (fun w => l10Power_any B m w (by omega) h2 (by omega))
  rw [hcap] at HP
  have HS := Lib.hid (show digsR B m (x % cntA B m) = setA B m x by simp [setA])
  have HL := Lib.hid (show (setA B m x).length = m by rw [hl]; simp)
  obtain ⟨N, hN⟩ : ∃ N, N = cntA B m := ⟨_, rfl⟩
  rw [← hN] at HP hc hm HS
  obtain ⟨q, hq⟩ : ∃ q, q = x % N := ⟨_, rfl⟩
  obtain ⟨m1, m2, m3⟩ := mod_twiceS (n := x) (c := N) (by omega)
  obtain ⟨r, hr⟩ : ∃ r, x.tmod N = r := ⟨_, rfl⟩
  rw [hr] at m1 m2 m3
  rw [← hq] at m3 hm HS
  have hc0 : ¬ N = 0 := by omega
  have hw1 : IntKind.i64.wrap (r + N) = r + N := IntWalk.i64_in _ (by omega)
  have hw2 : wrap64 (r + N) = r + N := by unfold wrap64; omega
  have HN := Lib.hid (fun w => specl02New_any B q m w h1 h2 (by omega) hm.1 (by omega))
  clear hq hN hcap h5 h hl
  go_enter Tryd.func110, Tryd.ntmps110
  go_wp2_with fail
  refine (HP.out _).mono ?_
  rintro e w1 ⟨rfl, rfl⟩
  go_wp2_with fail
  refine (HN.out _).mono ?_
  rintro e w2 ⟨A, C, rfl, own, hb⟩
  have bx := (Bx.new w #[.int .i64 0, .slice none 0 0] 26).below hb
  have hz := bx.lt
  have hs := hb.size
  simp only [World.size_alloc] at hs
  have c0 := bx.at_ 0 rfl
  have c1 := bx.at_ 1 rfl
  have f0 := bx.thaw 0
  have f1 := bx.thaw 1
  go_wp2
  exact bodyPost_ret (v := .agg #[.int .i64 B, .slice A m C]) (by simp [results, Tryd.results110, go_sem, c0, c1, hz]) rfl
    ⟨A, C, by rw [HL.out], by rw [HL.out, ← HS.out]; exact (show Own 2 _ (w.heap.size + 1) w2.heap.size (.slice A m C) (digsR B m q) from (by repeat (first | exact by simpa using own | refine Own.alloc ?_ _ | refine Own.setCell ?_ (.inl (by simp <;> omega)) _ | refine Own.drew ?_))).wide (by omega) (by simp), (by repeat (first | exact ((Below.refl _ _).alloc (Nat.le_refl _) _).trans (hb.mono (by simp)) | refine Below.setCell ?_ (by first | omega | (simp <;> omega)) _ | refine Below.alloc ?_ (by first | omega | (simp <;> omega)) _ | refine Below.drew ?_))⟩
end Go.Proofs.YtlahobdopmdfmaaDoor

/- AccO -/
namespace Go.Proofs.YtlahobdopmdfmaaDoor
open Go.RowKit

theorem l10Full_at {v : Bool} (B : Int) (n : Nat) (w : World) (b1 : 1 ≤ B) (b2 : B ≤ 16) (hn : n ≤ 16) (hv : decide (B ^ n - 1 ≤ 1000000000000) = v) :
    Calls Tryd.prog 119 #[.int .i64 B, .int .i64 n] w fun e w' => e = .returned (.bool v) ∧ w' = w := hv ▸ l10Full_any B n w b1 b2 hn

set_option maxHeartbeats 2000000 in
theorem l09Ok_at {v : Bool} (p : Nat) (B : Int) (a : Option Addr) (c : Nat) (zs : List Int) (w : World) (hv : accB B zs = v) (ha : Rd w a zs) (hp0 : w.cell? ⟨p, 0, none⟩ = some (.int .i64 B)) (hp1 : w.cell? ⟨p, 1, none⟩ = some (.slice a zs.length c)) :
    Calls Tryd.prog 114 #[.pointer (some ⟨p, 0, none⟩)] w fun e w' => e = .returned (.bool v) ∧ Below w.heap.size w w' := by
  have k0 := kept_after hp0
  have k1 := kept_after hp1
  cases ho : okB B zs with
  | false =>
    have HV := Lib.hid (show v = false by rw [← hv]; simp [accB, ho])
    have HO := Lib.hid (fun u : After w => calls_after_drew (l02Ok_at0 p B a c zs u.now ho (ha.below u.ok) (k0 u) (k1 u)))
    clear hv ho
    go_enter Tryd.func114, Tryd.ntmps114
    go_wp2
    refine wp_region_after (by kernel_rfl) (by kernel_rfl) ?_
    repeat (go_big_quiet_step ((go_at_call 96; exact HO.out _)))
    refine wpQuiet_nil ?_
    intro u
    go_wp2
    go_ret
    exact ⟨ret_bool HV.out.symm, u.ok⟩
  | true =>
    obtain ⟨b0, b1, n0, n1, _, _⟩ := okB_spec ho
    have hf : decide (B ^ zs.length - 1 ≤ 1000000000000) = v := by rw [← hv, accB, ho, Bool.true_and]
    have HO := Lib.hid (fun u : After w => calls_after_drew (l02Ok_at0 p B a c zs u.now ho (ha.below u.ok) (k0 u) (k1 u)))
    have HF := Lib.hid (fun u : After w => calls_after_drew ((l10Full_at B zs.length u.now (by omega) b1 n1 hf).mono fun _ _ h => ⟨h.1, 0, h.2⟩))
    clear hv ho hf
    go_enter Tryd.func114, Tryd.ntmps114
    go_wp2
    refine wp_region_after (by kernel_rfl) (by kernel_rfl) ?_
    repeat (go_big_quiet_step (first | (go_at_call 96; exact HO.out _) | (go_at_call 119; exact HF.out _)))
    refine wpQuiet_nil ?_
    intro u
    cases v
    all_goals
      go_wp2
      go_ret
      exact ⟨rfl, u.ok⟩

set_option maxHeartbeats 2000000 in
theorem l09Number_any (p : Nat) (B : Int) (a : Option Addr) (c : Nat) (zs : List Int) (w : World) (hv : accB B zs = true) (ha : Rd w a zs) (hp0 : w.cell? ⟨p, 0, none⟩ = some (.int .i64 B)) (hp1 : w.cell? ⟨p, 1, none⟩ = some (.slice a zs.length c)) :
    Calls Tryd.prog 115 #[.pointer (some ⟨p, 0, none⟩)] w fun e w' => e = .returned (.int .i64 (numA B zs)) ∧ Below w.heap.size w w' := by
  have k0 := kept_after hp0
  have k1 := kept_after hp1
  obtain ⟨b0, b1, n0, n1, hd, hvl⟩ := okB_spec (accB_spec hv).1
  have hf := accB_full hv
  have hc := cntA_bd hf
  have hvb := valR_acc hv
  have HV := Lib.hid (fun u : After w => calls_after_drew ((l02Value_any B a c zs u.now (ha.below u.ok) b0 b1 hd).mono fun _ _ h => ⟨by rw [h.1, capV_ok b0 hd hvl], 0, h.2⟩ : Calls Tryd.prog 97 _ u.now fun e w' => e = .returned (.int .i64 (valR B zs)) ∧ ∃ n, w' = u.now.drewN n))
  have HI := Lib.hid (fun w => l09In_any B zs.length (valR B zs) w hf)
  have hcap : capW B zs.length = cntA B (zs.length : Int) := by rw [cntA_len]; exact capW_full (accB_spec hv).2
  have HP := Lib.hid (fun w => l10Power_any B zs.length w (by omega) b1 n1)
  rw [hcap] at HP
  have HN := Lib.hid (numA_if hv)
  obtain ⟨N, hN⟩ : ∃ N, N = cntA B (zs.length : Int) := ⟨_, rfl⟩
  rw [← hN] at HP HI HN hc
  obtain ⟨x, hx⟩ : ∃ x, x = valR B zs := ⟨_, rfl⟩
  rw [← hx] at HV HI HN hvb
  clear hN hx hcap hf hv hd hvl
  have hw1 : IntKind.i64.wrap (x - N) = x - N := IntWalk.i64_in _ (by omega)
  have hw2 : wrap64 (x - N) = x - N := by unfold wrap64; omega
  cases hi : inA N x
  all_goals
    rw [hi] at HI HN
    go_enter Tryd.func115, Tryd.ntmps115
    go_wp2
    refine wp_region_after (by kernel_rfl) (by kernel_rfl) ?_
    repeat (go_big_quiet_step ((go_at_call 97; exact HV.out _)))
    refine wpQuiet_nil ?_
    intro u
    have q0 := k0 u
    have q1 := k1 u
    go_wp2_with (first | (go_at_call 109; refine (HI.out _).mono ?_; rintro e w1 ⟨rfl, rfl⟩) | (go_at_call 103; refine (HP.out _).mono ?_; rintro e w1 ⟨rfl, rfl⟩))
    go_ret
    exact ⟨ret_int (by rw [HN.out]; rfl), u.ok⟩

set_option maxHeartbeats 2000000 in
theorem specNumberOf (xB : Int) (xA : Option Addr) (xC : Nat) (xZ : List Int) (w : World) (ha : Rd w xA xZ) (_ : All64 xZ) (_ : I64 xB) :
    Calls Tryd.prog 56 #[.agg #[.int .i64 xB, .slice xA xZ.length xC]] w fun e w' => e = .returned (.tuple #[.int .i64 (numR xB xZ).1, .int .i64 (numR xB xZ).2]) ∧ Below w.heap.size w w' := by
  obtain ⟨u, hu⟩ : ∃ u, u = w.alloc (.cells #[.int .i64 xB, .slice xA xZ.length xC] 26) := ⟨_, rfl⟩
  have bx : Bx u w.heap.size 26 #[.int .i64 xB, .slice xA xZ.length xC] := by rw [hu]; exact Bx.new _ _ _
  have hbel : Below w.heap.size w u := by rw [hu]; exact (by repeat (first | exact Below.refl _ _ | refine Below.setCell ?_ (by first | omega | (simp <;> omega)) _ | refine Below.alloc ?_ (by first | omega | (simp <;> omega)) _ | refine Below.drew ?_))
  have HU := Lib.hid hu
  clear hu
  replace ha := ha.below hbel
  cases h : accB xB xZ with
  | false =>
    have HR := Lib.hid (show numR xB xZ = (0, 1) by simp [numR, h])
    have HO := Lib.hid (l09Ok_at w.heap.size xB xA xC xZ u h ha (bx.at_ 0 rfl) (bx.at_ 1 rfl))
    go_enter Tryd.func56, Tryd.ntmps56
    go_wp2_with fail
    rw [← HU.out]
    refine HO.out.mono ?_
    rintro e v ⟨rfl, hb⟩
    go_wp2
    exact bodyPost_ret (v := .tuple #[.int .i64 0, .int .i64 1]) (by simp [results, Tryd.results56, go_sem]) rfl ⟨by rw [HR.out], hbel.trans (hb.mono hbel.size)⟩
  | true =>
    have HR := Lib.hid (show numR xB xZ = (numA xB xZ, 0) by simp [numR, h])
    have HO := Lib.hid (l09Ok_at w.heap.size xB xA xC xZ u h ha (bx.at_ 0 rfl) (bx.at_ 1 rfl))
    go_enter Tryd.func56, Tryd.ntmps56
    go_wp2_with fail
    rw [← HU.out]
    refine HO.out.mono ?_
    rintro e v ⟨rfl, hb⟩
    replace bx := bx.below hb
    replace ha := ha.below hb
    replace hbel := hbel.trans (hb.mono hbel.size)
    go_wp2_with fail
    refine (l09Number_any w.heap.size xB xA xC xZ v h ha (bx.at_ 0 rfl) (bx.at_ 1 rfl)).mono ?_
    rintro e v2 ⟨rfl, hb2⟩
    go_wp2
    exact bodyPost_ret (v := .tuple #[.int .i64 (numA xB xZ), .int .i64 0]) (by simp [results, Tryd.results56, go_sem]) rfl ⟨by rw [HR.out], hbel.trans (hb2.mono hbel.size)⟩
end Go.Proofs.YtlahobdopmdfmaaDoor

/- AddA -/
namespace Go.Proofs.YtlahobdopmdfmaaDoor
open Go.RowKit

theorem l09Most_at {v : Bool} (n : Int) (w : World) (h : inB n (-1000000000000) 1000000000000 = v) :
    Calls Tryd.prog 125 #[.int .i64 n] w fun e w' => e = .returned (.bool v) ∧ w' = w := by
  have HI := Lib.hid (fun w => l00In_any n (-1000000000000) 1000000000000 w)
  rw [h] at HI
  go_enter Tryd.func125, Tryd.ntmps125
  go_wp2_with (go_at_call 118; refine (HI.out _).mono ?_; rintro e w1 ⟨rfl, rfl⟩)
  go_ret
  exact ⟨rfl, rfl⟩

set_option maxRecDepth 100000 in
set_option maxHeartbeats 4000000 in
theorem l09Add_any (p : Nat) (B : Int) (a : Option Addr) (c : Nat) (zs : List Int) (n : Int) (w : World) (hv : accB B zs = true) (ha : Rd w a zs) (hp0 : w.cell? ⟨p, 0, none⟩ = some (.int .i64 B)) (hp1 : w.cell? ⟨p, 1, none⟩ = some (.slice a zs.length c))
    (hn1 : -1000000000000 ≤ n) (hn2 : n ≤ 1000000000000) :
    Calls Tryd.prog 127 #[.pointer (some ⟨p, 0, none⟩), .int .i64 n] w fun e w' => ∃ A C,
      e = .returned (.tuple #[.agg #[.int .i64 B, .slice A (setA B zs.length (numA B zs + n)).length C], .bool (!inA (cntA B zs.length) (numA B zs + n))]) ∧
      Own 2 w' w.heap.size w'.heap.size (.slice A (setA B zs.length (numA B zs + n)).length C) (setA B zs.length (numA B zs + n)) ∧ Below w.heap.size w w' := by
  have R := Tryd.results127
  have hpw : p < w.heap.size := World.block_lt_of_cell? _ _ hp0
  have HF := Lib.hid (accB_full hv)
  have hc := cntA_bd HF.out
  have hi := numA_in hv
  have HV := Lib.hid hv
  have hlen := (okB_spec (accB_spec hv).1).2.2.2.1
  obtain ⟨x, hx⟩ : ∃ x, x = numA B zs + n := ⟨_, rfl⟩
  have hw1 : IntKind.i64.wrap (numA B zs + n) = x := by rw [← hx]; exact IntWalk.i64_in _ (by omega)
  have hw2 : wrap64 (numA B zs + n) = x := by rw [← hx]; unfold wrap64; omega
  rw [← hx]
  obtain ⟨u, hu⟩ : ∃ u, u = w.alloc (.cells #[.int .i64 0, .slice none 0 0] 26) := ⟨_, rfl⟩
  have bx : Bx u w.heap.size 26 #[.int .i64 0, .slice none 0 0] := by rw [hu]; exact Bx.new _ _ _
  have hbel : Below w.heap.size w u := by rw [hu]; exact (by repeat (first | exact Below.refl _ _ | refine Below.setCell ?_ (by first | omega | (simp <;> omega)) _ | refine Below.alloc ?_ (by first | omega | (simp <;> omega)) _ | refine Below.drew ?_))
  have HU := Lib.hid hu
  clear hu hx hv hi
  replace ha := ha.below hbel
  replace hp0 := kept hbel hp0
  replace hp1 := kept hbel hp1
  have hsu := bx.lt
  cases hin : inA (cntA B zs.length) x
  all_goals
    have HI := Lib.hid (fun w => l09In_at B zs.length x w HF.out hin)
    clear hin
    go_enter Tryd.func127, Tryd.ntmps127
    go_upto_region 1 with fail
    rw [← HU.out]
    go_wp2_with fail
    refine (l09Number_any p B a c zs u HV.out ha hp0 hp1).mono ?_
    rintro e v ⟨rfl, hb⟩
    replace ha := ha.below hb
    replace hp0 := kept hb hp0
    replace hp1 := kept hb hp1
    replace bx := bx.below hb
    replace hbel := hbel.trans (hb.mono hbel.size)
    have hsv := bx.lt
    clear hb hsu
    go_upto_region 3 with fail
    have k0 := kept_lo hp0 hpw
    have k1 := kept_lo hp1 hpw
    have hS : Below w.heap.size v v.drew := (Below.refl _ _).drew
    refine wp_region_marked (fun w' => Below w.heap.size v w') 16 (by kernel_rfl) ?_
    refine wpAnyM_take (i := 0) (v := ?_) rfl (by kernel_rfl) (by kernel_rfl) (by kernel_rfl) (by kernel_rfl) (by kernel_rfl) (fun _ _ _ h => h) hS (.inl ⟨by rfl, ?_⟩) ?_
    rotate_left 1
    · intro w' hS'; go_simp; try with_reducible rfl
    simp only [Act.put, List.setIfInBounds_toArray, List.set_cons_succ, List.set_cons_zero, List.getElem_toArray, List.getElem_cons_zero]
    refine wpAnyM_take (i := 1) (v := ?_) rfl (by kernel_rfl) (by kernel_rfl) (by kernel_rfl) (by kernel_rfl) (by kernel_rfl) (fun _ _ _ h => h) hS (.inl ⟨by rfl, ?_⟩) ?_
    rotate_left 1
    · intro w' hS'; go_simp; try with_reducible rfl
    simp only [Act.put, List.setIfInBounds_toArray, List.set_cons_succ, List.set_cons_zero, List.getElem_toArray, List.getElem_cons_succ, List.getElem_cons_zero]
    refine wpAnyM_take (i := 2) (v := ?_) rfl (by kernel_rfl) (by kernel_rfl) (by kernel_rfl) (by kernel_rfl) (by kernel_rfl) (fun _ _ _ h => h) hS (.inl ⟨by rfl, ?_⟩) ?_
    rotate_left 1
    · intro w' hS'; go_simp; try with_reducible rfl
    simp only [Act.put, List.setIfInBounds_toArray, List.set_cons_succ, List.set_cons_zero, List.getElem_toArray, List.getElem_cons_succ, List.getElem_cons_zero]
    refine wpAnyM_take (i := 3) (v := ?_) rfl (by kernel_rfl) (by kernel_rfl) (by kernel_rfl) (by kernel_rfl) (by kernel_rfl) (fun _ _ _ h => h) hS (.inl ⟨by rfl, ?_⟩) ?_
    rotate_left 1
    · intro w' hS'; go_simp; try with_reducible rfl
    simp only [Act.put, List.setIfInBounds_toArray, List.set_cons_succ, List.set_cons_zero, List.getElem_toArray, List.getElem_cons_succ, List.getElem_cons_zero]
    refine wpAnyM_take (i := 4) (v := ?_) rfl (by kernel_rfl) (by kernel_rfl) (by kernel_rfl) (by kernel_rfl) (by kernel_rfl) (fun _ _ _ h => h) hS (.inl ⟨by rfl, ?_⟩) ?_
    rotate_left 1
    · intro w' hS'; go_simp; try with_reducible rfl
    simp only [Act.put, List.setIfInBounds_toArray, List.set_cons_succ, List.set_cons_zero, List.getElem_toArray, List.getElem_cons_succ, List.getElem_cons_zero]
    refine wpAnyM_take (i := 5) (v := ?_) rfl (by kernel_rfl) (by kernel_rfl) (by kernel_rfl) (by kernel_rfl) (by kernel_rfl) (fun _ _ _ h => h) hS (.inl ⟨by rfl, ?_⟩) ?_
    rotate_left 1
    · intro w' hS'; go_simp; try with_reducible rfl
    simp only [Act.put, List.setIfInBounds_toArray, List.set_cons_succ, List.set_cons_zero, List.getElem_toArray, List.getElem_cons_succ, List.getElem_cons_zero]
    refine wpAnyM_take (i := 7) (v := ?_) rfl (by kernel_rfl) (by kernel_rfl) (by kernel_rfl) (by kernel_rfl) (by kernel_rfl) (fun _ _ _ h => h) hS (.inl ⟨by rfl, ?_⟩) ?_
    rotate_left 1
    · intro w' hS'; go_simp; try with_reducible rfl
    simp only [Act.put, List.setIfInBounds_toArray, List.set_cons_succ, List.set_cons_zero, List.getElem_toArray, List.getElem_cons_succ, List.getElem_cons_zero]
    refine wpAnyM_take (i := 8) (v := ?_) rfl (by kernel_rfl) (by kernel_rfl) (by kernel_rfl) (by kernel_rfl) (by kernel_rfl) (fun _ _ _ h => h) hS (.inl ⟨by rfl, ?_⟩) ?_
    rotate_left 1
    · intro w' hS'; go_simp; try with_reducible rfl
    simp only [Act.put, List.setIfInBounds_toArray, List.set_cons_succ, List.set_cons_zero, List.getElem_toArray, List.getElem_cons_succ, List.getElem_cons_zero]
    refine wpAnyM_take (i := 9) (v := ?_) rfl (by kernel_rfl) (by kernel_rfl) (by kernel_rfl) (by kernel_rfl) (by kernel_rfl) (fun _ _ _ h => h) hS (.inl ⟨by rfl, ?_⟩) ?_
    rotate_left 1
    · intro w' hS'; go_simp; try with_reducible rfl
    simp only [Act.put, List.setIfInBounds_toArray, List.set_cons_succ, List.set_cons_zero, List.getElem_toArray, List.getElem_cons_succ, List.getElem_cons_zero]
    refine wpAnyM_take (i := 10) (v := ?_) rfl (by kernel_rfl) (by kernel_rfl) (by kernel_rfl) (by kernel_rfl) (by kernel_rfl) (fun _ _ _ h => h) hS (.inl ⟨by rfl, ?_⟩) ?_
    rotate_left 1
    · intro w' hS'; go_simp; try with_reducible rfl
    simp only [Act.put, List.setIfInBounds_toArray, List.set_cons_succ, List.set_cons_zero, List.getElem_toArray, List.getElem_cons_succ, List.getElem_cons_zero]
    refine wpAnyM_take (i := 11) (v := ?_) rfl (by kernel_rfl) (by kernel_rfl) (by kernel_rfl) (by kernel_rfl) (by kernel_rfl) (fun _ _ _ h => h) hS (.inl ⟨by rfl, ?_⟩) ?_
    rotate_left 1
    · intro w' hS'; go_simp; try with_reducible rfl
    simp only [Act.put, List.setIfInBounds_toArray, List.set_cons_succ, List.set_cons_zero, List.getElem_toArray, List.getElem_cons_succ, List.getElem_cons_zero]
    refine wpAnyM_take (i := 12) (v := ?_) rfl (by kernel_rfl) (by kernel_rfl) (by kernel_rfl) (by kernel_rfl) (by kernel_rfl) (fun _ _ _ h => h) hS (.inl ⟨by rfl, ?_⟩) ?_
    rotate_left 1
    · intro w' hS'; go_simp; try with_reducible rfl
    simp only [Act.put, List.setIfInBounds_toArray, List.set_cons_succ, List.set_cons_zero, List.getElem_toArray, List.getElem_cons_succ, List.getElem_cons_zero]
    refine wpAnyM_one (i := 6) (by kernel_rfl) rfl (by rfl) (fun K hK => ?_)
    go_simp
    refine (l09Set_any B zs.length x v.drew HF.out).mono ?_
    rintro e M ⟨A, C, rfl, own, hb⟩
    have hvM := hb.size
    simp only [World.size_drew] at hvM
    replace bx : Bx M w.heap.size 26 #[.int .i64 0, .slice none 0 0] := (bx.drew).below hb
    replace hS : Below w.heap.size v M := hS.trans (hb.mono (by simp; omega))
    refine hK _ _ (.inr hS) ?_
    try simp only [Act.put, List.setIfInBounds_toArray, List.set_cons_succ, List.set_cons_zero, List.getElem_toArray, List.getElem_cons_succ, List.getElem_cons_zero]
    clear hK K hb
    refine wpAnyM_one (i := 13) (by kernel_rfl) rfl (by rfl) (fun K hK => ?_)
    go_simp
    refine (HI.out M).mono ?_
    rintro e X ⟨rfl, hX⟩
    subst X
    refine hK _ _ (.inr hS) ?_
    try simp only [Act.put, List.setIfInBounds_toArray, List.set_cons_succ, List.set_cons_zero, List.getElem_toArray, List.getElem_cons_succ, List.getElem_cons_zero]
    clear hK K
    refine wpAnyM_take (i := 14) (v := ?_) rfl (by kernel_rfl) (by kernel_rfl) (by kernel_rfl) (by kernel_rfl) (by kernel_rfl) (fun _ _ _ h => h) hS (.inl ⟨by rfl, ?_⟩) ?_
    rotate_left 1
    · intro w' hS'; go_simp; try with_reducible rfl
    simp only [Act.put, List.setIfInBounds_toArray, List.set_cons_succ, List.set_cons_zero, List.getElem_toArray, List.getElem_cons_succ, List.getElem_cons_zero]
    have r0 := bx.at_ 0 rfl
    have r1 := bx.at_ 1 rfl
    have f0 := bx.thaw 0
    have f1 := bx.thaw 1
    have hs := bx.lt
    refine wpAnyM_one (i := 15) (by kernel_rfl) rfl (by rfl) (fun K hK => ?_)
    go_simp
    refine hK _ _ (.inr ((hS.setCell (p := ⟨w.heap.size, 0, none⟩) (by simp) _).setCell (p := ⟨w.heap.size, 1, none⟩) (by simp) _)) ?_
    try simp only [Act.put, List.setIfInBounds_toArray, List.set_cons_succ, List.set_cons_zero, List.getElem_toArray, List.getElem_cons_succ, List.getElem_cons_zero]
    clear hK K
    refine wpAnyM_one (i := 16) (by kernel_rfl) rfl (by rfl) (fun K hK => ?_)
    go_simp
    refine hK _ _ (.inl rfl) ?_
    clear hK K
    refine wpAnyM_done (by kernel_rfl) ?_ _
    try simp only [Act.put, List.setIfInBounds_toArray, List.set_cons_succ, List.set_cons_zero, List.getElem_toArray, List.getElem_cons_succ, List.getElem_cons_zero]
    replace hbel := hbel.trans hS
    have hbs := hbel.size
    go_wp2
    refine bodyPost_ret (v := .tuple #[.agg #[.int .i64 B, .slice A (setA B zs.length x).length C], .bool _]) (by simp [results, go_sem, r0, r1]) rfl
      ⟨A, C, rfl, ((own.setCell (p := ⟨w.heap.size, 0, none⟩) (.inl (by simp; omega)) _).setCell (p := ⟨w.heap.size, 1, none⟩) (.inl (by simp; omega)) _).wide (by simp; omega) (by simp), (by repeat (first | with_reducible exact hbel | with_reducible refine Below.setCell ?_ (by first | omega | (simp <;> omega)) _ | with_reducible refine Below.alloc ?_ (by first | omega | (simp <;> omega)) _ | with_reducible refine Below.drew ?_))⟩
end Go.Proofs.YtlahobdopmdfmaaDoor

/- TrnS -/
namespace Go.Proofs.YtlahobdopmdfmaaDoor
open Go.RowKit

set_option maxRecDepth 100000 in
set_option maxHeartbeats 8000000 in
theorem specTransferTo (xB : Int) (xA : Option Addr) (xC : Nat) (xZ : List Int) (yB : Int) (yA : Option Addr) (yC : Nat) (yZ : List Int) (w : World) (ha : Rd w xA xZ) (_ : All64 xZ) (_ : I64 xB) (hY : Rd w yA yZ) (_ : All64 yZ) (_ : I64 yB) :
    Calls Tryd.prog 51 #[.agg #[.int .i64 xB, .slice xA xZ.length xC], .agg #[.int .i64 yB, .slice yA yZ.length yC]] w (TrnC (trnR xB xZ yB yZ) w) := by
  have R := Tryd.results51
  have hbel : Below w.heap.size w w := Below.refl _ _
  cases hx : accB xB xZ with
  | false =>
    have HR := Lib.hid (show trnR xB xZ yB yZ = (0, [], 0, [], false, 1) by simp [trnR, hx])
    have HX := Lib.hid hx
    clear hx
    go_enter Tryd.func51, Tryd.ntmps51
    go_upto_region 1 with fail
    obtain ⟨p, hp⟩ : ∃ g, g = w.heap.size := ⟨_, rfl⟩
    have hwp : w.heap.size ≤ p := Nat.le_of_eq hp.symm
    obtain ⟨u, hu⟩ : ∃ u, u = (((w.alloc (.cells #[.int .i64 xB, .slice xA xZ.length xC] 26)).alloc (.cells #[.int .i64 yB, .slice yA yZ.length yC] 26)).alloc (.cells #[.int .i64 0, .slice none 0 0] 26)).alloc (.cells #[.int .i64 0, .slice none 0 0] 26) := ⟨_, rfl⟩
    have b_x : Bx u p 26 #[.int .i64 xB, .slice xA xZ.length xC] := by rw [hu, hp]; exact (((Bx.new _ _ _).alloc _).alloc _).alloc _
    have b_y : Bx u (p + 1) 26 #[.int .i64 yB, .slice yA yZ.length yC] := by rw [hu, hp]; simpa using ((Bx.new (w.alloc (.cells #[.int .i64 xB, .slice xA xZ.length xC] 26)) #[.int .i64 yB, .slice yA yZ.length yC] 26).alloc _).alloc _
    have b_r : Bx u (p + 1 + 1) 26 #[.int .i64 0, .slice none 0 0] := by rw [hu, hp]; simpa using (Bx.new ((w.alloc (.cells #[.int .i64 xB, .slice xA xZ.length xC] 26)).alloc (.cells #[.int .i64 yB, .slice yA yZ.length yC] 26)) #[.int .i64 0, .slice none 0 0] 26).alloc _
    have b_s : Bx u (p + 1 + 1 + 1) 26 #[.int .i64 0, .slice none 0 0] := by rw [hu, hp]; simpa using Bx.new (((w.alloc (.cells #[.int .i64 xB, .slice xA xZ.length xC] 26)).alloc (.cells #[.int .i64 yB, .slice yA yZ.length yC] 26)).alloc (.cells #[.int .i64 0, .slice none 0 0] 26)) #[.int .i64 0, .slice none 0 0] 26
    have hb : Below w.heap.size w u := by rw [hu]; exact (by repeat (first | with_reducible exact Below.refl _ _ | with_reducible refine Below.setCell ?_ (by first | omega | (simp <;> omega)) _ | with_reducible refine Below.alloc ?_ (by first | omega | (simp <;> omega)) _ | with_reducible refine Below.drew ?_))
    rw [← hu, ← hp]
    clear hu hp
    replace ha := ha.below hb
    replace hY := hY.below hb
    replace hbel := hbel.trans (hb.mono hbel.size)
    clear hb
    go_wp2_with fail
    refine (l09Ok_at p xB xA xC xZ u HX.out ha (b_x.at_ 0 rfl) (b_x.at_ 1 rfl)).mono ?_
    rintro e v ⟨rfl, hb⟩
    replace ha := ha.below hb
    replace hY := hY.below hb
    replace b_x := b_x.below hb
    replace b_y := b_y.below hb
    replace b_r := b_r.below hb
    replace b_s := b_s.below hb
    replace hbel := hbel.trans (hb.mono hbel.size)
    clear hb
    have r0 := b_r.at_ 0 rfl
    have r1 := b_r.at_ 1 rfl
    have f0 := b_r.thaw 0
    have f1 := b_r.thaw 1
    have t0 := b_s.at_ 0 rfl
    have t1 := b_s.at_ 1 rfl
    have g0 := b_s.thaw 0
    have g1 := b_s.thaw 1
    have hs := b_r.lt
    have hs2 := b_s.lt
    have hbs := hbel.size
    go_wp2
    exact bodyPost_ret (v := .tuple #[.agg #[.int .i64 0, .slice none 0 0], .agg #[.int .i64 0, .slice none 0 0], .bool false, .int .i64 1]) (by simp [results, go_sem, r0, r1, t0, t1]) rfl
      (trnC_err HR.out rfl (by repeat (first | with_reducible exact hbel | with_reducible refine Below.setCell ?_ (by first | omega | (simp <;> omega)) _ | with_reducible refine Below.alloc ?_ (by first | omega | (simp <;> omega)) _ | with_reducible refine Below.drew ?_)))
  | true =>
    cases hy : accB yB yZ with
    | false =>
      have HR := Lib.hid (show trnR xB xZ yB yZ = (0, [], 0, [], false, 1) by simp [trnR, hy])
      have HX := Lib.hid hx
      have HYB := Lib.hid hy
      clear hx hy
      go_enter Tryd.func51, Tryd.ntmps51
      go_upto_region 1 with fail
      obtain ⟨p, hp⟩ : ∃ g, g = w.heap.size := ⟨_, rfl⟩
      have hwp : w.heap.size ≤ p := Nat.le_of_eq hp.symm
      obtain ⟨u, hu⟩ : ∃ u, u = (((w.alloc (.cells #[.int .i64 xB, .slice xA xZ.length xC] 26)).alloc (.cells #[.int .i64 yB, .slice yA yZ.length yC] 26)).alloc (.cells #[.int .i64 0, .slice none 0 0] 26)).alloc (.cells #[.int .i64 0, .slice none 0 0] 26) := ⟨_, rfl⟩
      have b_x : Bx u p 26 #[.int .i64 xB, .slice xA xZ.length xC] := by rw [hu, hp]; exact (((Bx.new _ _ _).alloc _).alloc _).alloc _
      have b_y : Bx u (p + 1) 26 #[.int .i64 yB, .slice yA yZ.length yC] := by rw [hu, hp]; simpa using ((Bx.new (w.alloc (.cells #[.int .i64 xB, .slice xA xZ.length xC] 26)) #[.int .i64 yB, .slice yA yZ.length yC] 26).alloc _).alloc _
      have b_r : Bx u (p + 1 + 1) 26 #[.int .i64 0, .slice none 0 0] := by rw [hu, hp]; simpa using (Bx.new ((w.alloc (.cells #[.int .i64 xB, .slice xA xZ.length xC] 26)).alloc (.cells #[.int .i64 yB, .slice yA yZ.length yC] 26)) #[.int .i64 0, .slice none 0 0] 26).alloc _
      have b_s : Bx u (p + 1 + 1 + 1) 26 #[.int .i64 0, .slice none 0 0] := by rw [hu, hp]; simpa using Bx.new (((w.alloc (.cells #[.int .i64 xB, .slice xA xZ.length xC] 26)).alloc (.cells #[.int .i64 yB, .slice yA yZ.length yC] 26)).alloc (.cells #[.int .i64 0, .slice none 0 0] 26)) #[.int .i64 0, .slice none 0 0] 26
      have hb : Below w.heap.size w u := by rw [hu]; exact (by repeat (first | with_reducible exact Below.refl _ _ | with_reducible refine Below.setCell ?_ (by first | omega | (simp <;> omega)) _ | with_reducible refine Below.alloc ?_ (by first | omega | (simp <;> omega)) _ | with_reducible refine Below.drew ?_))
      rw [← hu, ← hp]
      clear hu hp
      replace ha := ha.below hb
      replace hY := hY.below hb
      replace hbel := hbel.trans (hb.mono hbel.size)
      clear hb
      go_wp2_with fail
      refine (l09Ok_at p xB xA xC xZ u HX.out ha (b_x.at_ 0 rfl) (b_x.at_ 1 rfl)).mono ?_
      rintro e v ⟨rfl, hb⟩
      replace ha := ha.below hb
      replace hY := hY.below hb
      replace b_x := b_x.below hb
      replace b_y := b_y.below hb
      replace b_r := b_r.below hb
      replace b_s := b_s.below hb
      replace hbel := hbel.trans (hb.mono hbel.size)
      clear hb
      go_wp2_with fail
      refine (l09Ok_at (p + 1) yB yA yC yZ v HYB.out hY (b_y.at_ 0 rfl) (b_y.at_ 1 rfl)).mono ?_
      rintro e v2 ⟨rfl, hb⟩
      replace ha := ha.below hb
      replace hY := hY.below hb
      replace b_x := b_x.below hb
      replace b_y := b_y.below hb
      replace b_r := b_r.below hb
      replace b_s := b_s.below hb
      replace hbel := hbel.trans (hb.mono hbel.size)
      clear hb
      have r0 := b_r.at_ 0 rfl
      have r1 := b_r.at_ 1 rfl
      have f0 := b_r.thaw 0
      have f1 := b_r.thaw 1
      have t0 := b_s.at_ 0 rfl
      have t1 := b_s.at_ 1 rfl
      have g0 := b_s.thaw 0
      have g1 := b_s.thaw 1
      have hs := b_r.lt
      have hs2 := b_s.lt
      have hbs := hbel.size
      go_wp2
      exact bodyPost_ret (v := .tuple #[.agg #[.int .i64 0, .slice none 0 0], .agg #[.int .i64 0, .slice none 0 0], .bool false, .int .i64 1]) (by simp [results, go_sem, r0, r1, t0, t1]) rfl
        (trnC_err HR.out rfl (by repeat (first | with_reducible exact hbel | with_reducible refine Below.setCell ?_ (by first | omega | (simp <;> omega)) _ | with_reducible refine Below.alloc ?_ (by first | omega | (simp <;> omega)) _ | with_reducible refine Below.drew ?_)))
    | true =>
      have HX := Lib.hid hx
      have HYB := Lib.hid hy
      by_cases hB : xB = yB
      · have HR := Lib.hid (show trnR xB xZ yB yZ = (xB, setA xB xZ.length 0, yB, setA yB yZ.length (numA yB yZ + numA xB xZ), !inA (cntA yB yZ.length) (numA yB yZ + numA xB xZ), 0) by rw [trnR, if_pos ⟨hx, hy⟩, if_pos hB])
        have hm := numA_most hx
        have HF := Lib.hid (accB_full hx)
        have hlx := (okB_spec (accB_spec hx).1)
        have HZ := Lib.hid (show digsR xB xZ.length 0 = setA xB xZ.length 0 by rw [setA_zero HF.out]; simp)
        have HL := Lib.hid (show (setA xB xZ.length 0).length = xZ.length by rw [← HZ.out, digsR_len])
        have HN := Lib.hid (fun w => specl02New_any xB 0 xZ.length w hlx.1 hlx.2.1 hlx.2.2.2.1 (Int.le_refl _) (by omega))
        rw [HZ.out] at HN
        obtain ⟨x, hx9⟩ : ∃ x, x = numA xB xZ := ⟨_, rfl⟩
        rw [← hx9] at hm HR
        have HX9 := Lib.hid hx9.symm
        obtain ⟨t, ht⟩ : ∃ t, t = !inA (cntA yB yZ.length) (numA yB yZ + x) := ⟨_, rfl⟩
        rw [← ht] at HR
        have HT := Lib.hid ht.symm
        subst hB
        clear hx hy hlx hx9 ht
        go_enter Tryd.func51, Tryd.ntmps51
        go_upto_region 1 with fail
        obtain ⟨p, hp⟩ : ∃ g, g = w.heap.size := ⟨_, rfl⟩
        have hwp : w.heap.size ≤ p := Nat.le_of_eq hp.symm
        obtain ⟨u, hu⟩ : ∃ u, u = (((w.alloc (.cells #[.int .i64 xB, .slice xA xZ.length xC] 26)).alloc (.cells #[.int .i64 xB, .slice yA yZ.length yC] 26)).alloc (.cells #[.int .i64 0, .slice none 0 0] 26)).alloc (.cells #[.int .i64 0, .slice none 0 0] 26) := ⟨_, rfl⟩
        have b_x : Bx u p 26 #[.int .i64 xB, .slice xA xZ.length xC] := by rw [hu, hp]; exact (((Bx.new _ _ _).alloc _).alloc _).alloc _
        have b_y : Bx u (p + 1) 26 #[.int .i64 xB, .slice yA yZ.length yC] := by rw [hu, hp]; simpa using ((Bx.new (w.alloc (.cells #[.int .i64 xB, .slice xA xZ.length xC] 26)) #[.int .i64 xB, .slice yA yZ.length yC] 26).alloc _).alloc _
        have b_r : Bx u (p + 1 + 1) 26 #[.int .i64 0, .slice none 0 0] := by rw [hu, hp]; simpa using (Bx.new ((w.alloc (.cells #[.int .i64 xB, .slice xA xZ.length xC] 26)).alloc (.cells #[.int .i64 xB, .slice yA yZ.length yC] 26)) #[.int .i64 0, .slice none 0 0] 26).alloc _
        have b_s : Bx u (p + 1 + 1 + 1) 26 #[.int .i64 0, .slice none 0 0] := by rw [hu, hp]; simpa using Bx.new (((w.alloc (.cells #[.int .i64 xB, .slice xA xZ.length xC] 26)).alloc (.cells #[.int .i64 xB, .slice yA yZ.length yC] 26)).alloc (.cells #[.int .i64 0, .slice none 0 0] 26)) #[.int .i64 0, .slice none 0 0] 26
        have hb : Below w.heap.size w u := by rw [hu]; exact (by repeat (first | with_reducible exact Below.refl _ _ | with_reducible refine Below.setCell ?_ (by first | omega | (simp <;> omega)) _ | with_reducible refine Below.alloc ?_ (by first | omega | (simp <;> omega)) _ | with_reducible refine Below.drew ?_))
        rw [← hu, ← hp]
        clear hu hp
        replace ha := ha.below hb
        replace hY := hY.below hb
        replace hbel := hbel.trans (hb.mono hbel.size)
        clear hb
        go_wp2_with fail
        refine (l09Ok_at p xB xA xC xZ u HX.out ha (b_x.at_ 0 rfl) (b_x.at_ 1 rfl)).mono ?_
        rintro e v ⟨rfl, hb⟩
        replace ha := ha.below hb
        replace hY := hY.below hb
        replace b_x := b_x.below hb
        replace b_y := b_y.below hb
        replace b_r := b_r.below hb
        replace b_s := b_s.below hb
        replace hbel := hbel.trans (hb.mono hbel.size)
        clear hb
        go_wp2_with fail
        refine (l09Ok_at (p + 1) xB yA yC yZ v HYB.out hY (b_y.at_ 0 rfl) (b_y.at_ 1 rfl)).mono ?_
        rintro e v2 ⟨rfl, hb⟩
        replace ha := ha.below hb
        replace hY := hY.below hb
        replace b_x := b_x.below hb
        replace b_y := b_y.below hb
        replace b_r := b_r.below hb
        replace b_s := b_s.below hb
        replace hbel := hbel.trans (hb.mono hbel.size)
        clear hb
        have c0 := b_x.at_ 0 rfl
        have c1 := b_x.at_ 1 rfl
        have d0 := b_y.at_ 0 rfl
        go_wp2_with fail
        refine (HN.out v2).mono ?_
        rintro e v3 ⟨A, C, rfl, ow, hb⟩
        have hpv : p + 1 + 1 + 1 < v2.heap.size := b_s.lt
        have hv23 := hb.size
        have hwv2 := hbel.size
        clear c0 c1 d0
        replace ha := ha.below hb
        replace hY := hY.below hb
        replace b_x := b_x.below hb
        replace b_y := b_y.below hb
        replace b_r := b_r.below hb
        replace b_s := b_s.below hb
        replace hbel := hbel.trans (hb.mono hbel.size)
        clear hb
        obtain ⟨z2, hz2⟩ : ∃ z, z = v2.heap.size := ⟨_, rfl⟩
        obtain ⟨z3, hz3⟩ : ∃ z, z = v3.heap.size := ⟨_, rfl⟩
        rw [← hz2, ← hz3] at ow
        have hz23 : z2 ≤ z3 := by omega
        have hwz2 : w.heap.size ≤ z2 := by omega
        have hpz2 : p + 1 + 1 + 1 < z2 := by omega
        have hz3v : z3 ≤ v3.heap.size := by omega
        clear hz2
        go_upto_region 6 with fail
        obtain ⟨q, hq⟩ : ∃ g, g = v3.heap.size := ⟨_, rfl⟩
        have hk_q : v3.heap.size ≤ q := Nat.le_of_eq hq.symm
        obtain ⟨v4, hv4⟩ : ∃ V, V = v3.alloc (.cells #[.int .i64 xB, .slice A xZ.length C] 26) := ⟨_, rfl⟩
        have b_q : Bx v4 q 26 #[.int .i64 xB, .slice A xZ.length C] := by rw [hv4, hq]; exact Bx.new _ _ _
        have hb : Below v3.heap.size v3 v4 := by rw [hv4]; exact (Below.refl _ _).alloc (Nat.le_refl _) _
        rw [← hq, ← hv4]
        clear hv4 hq
        replace ha := ha.below hb
        replace hY := hY.below hb
        replace b_x := b_x.below hb
        replace b_y := b_y.below hb
        replace b_r := b_r.below hb
        replace b_s := b_s.below hb
        replace ow := ow.below hb
        replace hbel := hbel.trans (hb.mono hbel.size)
        clear hb
        have hqz : z3 ≤ q := by omega
        clear hz3
        have hqv4 := b_q.lt
        go_wp2_with fail
        refine (l09Number_any p xB xA xC xZ v4 HX.out ha (b_x.at_ 0 rfl) (b_x.at_ 1 rfl)).mono ?_
        rintro e v5 ⟨rfl, hb⟩
        rw [HX9.out]
        have hv45 := hb.size
        replace ha := ha.below hb
        replace hY := hY.below hb
        replace b_x := b_x.below hb
        replace b_y := b_y.below hb
        replace b_r := b_r.below hb
        replace b_s := b_s.below hb
        replace ow := ow.below hb
        replace b_q := b_q.below hb
        replace hbel := hbel.trans (hb.mono hbel.size)
        clear hb
        go_wp2_with fail
        refine (l09Add_any (p + 1) xB yA yC yZ x v5 HYB.out hY (b_y.at_ 0 rfl) (b_y.at_ 1 rfl) hm.1 hm.2).mono ?_
        rintro e v6 ⟨D, E, rfl, ow2, hb⟩
        rw [HT.out]
        have hv56 := hb.size
        replace ha := ha.below hb
        replace hY := hY.below hb
        replace b_x := b_x.below hb
        replace b_y := b_y.below hb
        replace b_r := b_r.below hb
        replace b_s := b_s.below hb
        replace ow := ow.below hb
        replace b_q := b_q.below hb
        replace hbel := hbel.trans (hb.mono hbel.size)
        clear hb
        go_upto_region 7 with fail
        obtain ⟨k, hk⟩ : ∃ g, g = v6.heap.size := ⟨_, rfl⟩
        have hk_k : v6.heap.size ≤ k := Nat.le_of_eq hk.symm
        obtain ⟨v7, hv7⟩ : ∃ V, V = v6.alloc (.cells #[.int .i64 xB, .slice D (setA xB yZ.length (numA xB yZ + x)).length E] 26) := ⟨_, rfl⟩
        have b_k : Bx v7 k 26 #[.int .i64 xB, .slice D (setA xB yZ.length (numA xB yZ + x)).length E] := by rw [hv7, hk]; exact Bx.new _ _ _
        have hb : Below v6.heap.size v6 v7 := by rw [hv7]; exact (Below.refl _ _).alloc (Nat.le_refl _) _
        rw [← hk, ← hv7]
        clear hv7 hk
        replace ha := ha.below hb
        replace hY := hY.below hb
        replace b_x := b_x.below hb
        replace b_y := b_y.below hb
        replace b_r := b_r.below hb
        replace b_s := b_s.below hb
        replace ow := ow.below hb
        replace b_q := b_q.below hb
        replace ow2 := ow2.below hb
        replace hbel := hbel.trans (hb.mono hbel.size)
        clear hb
        have hk6 := hk_k
        have hk7 := b_k.lt
        have s0 : ∀ w', (Bx w' q 26 #[.int .i64 xB, .slice A xZ.length C] ∧ Bx w' k 26 #[.int .i64 xB, .slice D (setA xB yZ.length (numA xB yZ + x)).length E]) → w'.cell? ⟨q, 0, none⟩ = some (.int .i64 xB) := fun _ h => h.1.at_ 0 rfl
        have s1 : ∀ w', (Bx w' q 26 #[.int .i64 xB, .slice A xZ.length C] ∧ Bx w' k 26 #[.int .i64 xB, .slice D (setA xB yZ.length (numA xB yZ + x)).length E]) → w'.cell? ⟨q, 1, none⟩ = some (.slice A xZ.length C) := fun _ h => h.1.at_ 1 rfl
        have s2 : ∀ w', (Bx w' q 26 #[.int .i64 xB, .slice A xZ.length C] ∧ Bx w' k 26 #[.int .i64 xB, .slice D (setA xB yZ.length (numA xB yZ + x)).length E]) → w'.cell? ⟨k, 0, none⟩ = some (.int .i64 xB) := fun _ h => h.2.at_ 0 rfl
        have s3 : ∀ w', (Bx w' q 26 #[.int .i64 xB, .slice A xZ.length C] ∧ Bx w' k 26 #[.int .i64 xB, .slice D (setA xB yZ.length (numA xB yZ + x)).length E]) → w'.cell? ⟨k, 1, none⟩ = some (.slice D (setA xB yZ.length (numA xB yZ + x)).length E) := fun _ h => h.2.at_ 1 rfl
        have hS : Bx v7.drew q 26 #[.int .i64 xB, .slice A xZ.length C] ∧ Bx v7.drew k 26 #[.int .i64 xB, .slice D (setA xB yZ.length (numA xB yZ + x)).length E] := ⟨b_q.drew, b_k.drew⟩
        refine wp_region_marked (fun w' => Bx w' q 26 #[.int .i64 xB, .slice A xZ.length C] ∧ Bx w' k 26 #[.int .i64 xB, .slice D (setA xB yZ.length (numA xB yZ + x)).length E]) 5 (by kernel_rfl) ?_
        refine wpAnyM_take (i := 0) (v := ?_) rfl (by kernel_rfl) (by kernel_rfl) (by kernel_rfl) (by kernel_rfl) (by kernel_rfl) (fun _ _ _ h => h) hS (.inl ⟨by rfl, ?_⟩) ?_
        rotate_left 1
        · intro w' hS'; go_simp; try with_reducible rfl
        simp only [Act.put, List.setIfInBounds_toArray, List.set_cons_succ, List.set_cons_zero, List.getElem_toArray, List.getElem_cons_zero]
        refine wpAnyM_take (i := 1) (v := ?_) rfl (by kernel_rfl) (by kernel_rfl) (by kernel_rfl) (by kernel_rfl) (by kernel_rfl) (fun _ _ _ h => h) hS (.inl ⟨by rfl, ?_⟩) ?_
        rotate_left 1
        · intro w' hS'; go_simp; try with_reducible rfl
        simp only [Act.put, List.setIfInBounds_toArray, List.set_cons_succ, List.set_cons_zero, List.getElem_toArray, List.getElem_cons_succ, List.getElem_cons_zero]
        refine wpAnyM_take (i := 2) (v := ?_) rfl (by kernel_rfl) (by kernel_rfl) (by kernel_rfl) (by kernel_rfl) (by kernel_rfl) (fun _ _ _ h => h) hS (.inl ⟨by rfl, ?_⟩) ?_
        rotate_left 1
        · intro w' hS'; go_simp; try with_reducible rfl
        simp only [Act.put, List.setIfInBounds_toArray, List.set_cons_succ, List.set_cons_zero, List.getElem_toArray, List.getElem_cons_succ, List.getElem_cons_zero]
        have r0 := b_r.at_ 0 rfl
        have r1 := b_r.at_ 1 rfl
        have f0 := b_r.thaw 0
        have f1 := b_r.thaw 1
        have t0 := b_s.at_ 0 rfl
        have t1 := b_s.at_ 1 rfl
        have g0 := b_s.thaw 0
        have g1 := b_s.thaw 1
        have hs := b_r.lt
        have hs2 := b_s.lt
        have hbs := hbel.size
        have n1 : q ≠ p + 1 + 1 := by omega
        have n2 : k ≠ p + 1 + 1 := by omega
        have n3 : q ≠ p + 1 + 1 + 1 := by omega
        have n4 : k ≠ p + 1 + 1 + 1 := by omega
        refine wpAnyM_one (i := 3) (by kernel_rfl) rfl (by rfl) (fun K hK => ?_)
        go_simp
        replace hS := And.intro ((hS.1.far (p := ⟨p + 1 + 1, 0, none⟩) n1 (.int .i64 xB)).far (p := ⟨p + 1 + 1, 1, none⟩) n1 (.slice A xZ.length C)) ((hS.2.far (p := ⟨p + 1 + 1, 0, none⟩) n2 (.int .i64 xB)).far (p := ⟨p + 1 + 1, 1, none⟩) n2 (.slice A xZ.length C))
        refine hK _ _ (.inr hS) ?_
        try simp only [Act.put, List.setIfInBounds_toArray, List.set_cons_succ, List.set_cons_zero, List.getElem_toArray, List.getElem_cons_succ, List.getElem_cons_zero]
        clear hK K
        refine wpAnyM_one (i := 4) (by kernel_rfl) rfl (by rfl) (fun K hK => ?_)
        go_simp
        replace hS := And.intro ((hS.1.far (p := ⟨p + 1 + 1 + 1, 0, none⟩) n3 (.int .i64 xB)).far (p := ⟨p + 1 + 1 + 1, 1, none⟩) n3 (.slice D (setA xB yZ.length (numA xB yZ + x)).length E)) ((hS.2.far (p := ⟨p + 1 + 1 + 1, 0, none⟩) n4 (.int .i64 xB)).far (p := ⟨p + 1 + 1 + 1, 1, none⟩) n4 (.slice D (setA xB yZ.length (numA xB yZ + x)).length E))
        refine hK _ _ (.inr hS) ?_
        try simp only [Act.put, List.setIfInBounds_toArray, List.set_cons_succ, List.set_cons_zero, List.getElem_toArray, List.getElem_cons_succ, List.getElem_cons_zero]
        clear hK K
        refine wpAnyM_one (i := 5) (by kernel_rfl) rfl (by rfl) (fun K hK => ?_)
        go_simp
        refine hK _ _ (.inl rfl) ?_
        try simp only [Act.put, List.setIfInBounds_toArray, List.set_cons_succ, List.set_cons_zero, List.getElem_toArray, List.getElem_cons_succ, List.getElem_cons_zero]
        clear hK K
        refine wpAnyM_one (i := 6) (by kernel_rfl) rfl (by rfl) (fun K hK => ?_)
        go_simp
        refine hK _ _ (.inl rfl) ?_
        clear hK K
        refine wpAnyM_done (by kernel_rfl) ?_ _
        try simp only [Act.put, List.setIfInBounds_toArray, List.set_cons_succ, List.set_cons_zero, List.getElem_toArray, List.getElem_cons_succ, List.getElem_cons_zero]
        go_wp2
        have own1 := (((ow.setCell (p := ⟨p + 1 + 1, 0, none⟩) (.inl (by simp; omega)) (.int .i64 xB)).setCell (p := ⟨p + 1 + 1, 1, none⟩) (.inl (by simp; omega)) (.slice A xZ.length C)).setCell (p := ⟨p + 1 + 1 + 1, 0, none⟩) (.inl (by simp; omega)) (.int .i64 xB)).setCell (p := ⟨p + 1 + 1 + 1, 1, none⟩) (.inl (by simp; omega)) (.slice D (setA xB yZ.length (numA xB yZ + x)).length E)
        have own2 := (((ow2.setCell (p := ⟨p + 1 + 1, 0, none⟩) (.inl (by simp; omega)) (.int .i64 xB)).setCell (p := ⟨p + 1 + 1, 1, none⟩) (.inl (by simp; omega)) (.slice A xZ.length C)).setCell (p := ⟨p + 1 + 1 + 1, 0, none⟩) (.inl (by simp; omega)) (.int .i64 xB)).setCell (p := ⟨p + 1 + 1 + 1, 1, none⟩) (.inl (by simp; omega)) (.slice D (setA xB yZ.length (numA xB yZ + x)).length E)
        have hlast : Below w.heap.size w _ := (((hbel.drew.setCell (p := ⟨p + 1 + 1, 0, none⟩) (by simp; omega) (.int .i64 xB)).setCell (p := ⟨p + 1 + 1, 1, none⟩) (by simp; omega) (.slice A xZ.length C)).setCell (p := ⟨p + 1 + 1 + 1, 0, none⟩) (by simp; omega) (.int .i64 xB)).setCell (p := ⟨p + 1 + 1 + 1, 1, none⟩) (by simp; omega) (.slice D (setA xB yZ.length (numA xB yZ + x)).length E)
        exact bodyPost_ret (v := .tuple #[.agg #[.int .i64 xB, .slice A xZ.length C], .agg #[.int .i64 xB, .slice D (setA xB yZ.length (numA xB yZ + x)).length E], .bool t, .int .i64 0]) (by simp [results, go_sem, r0, r1, t0, t1]) rfl
          (trnC_ok HR.out (by rw [HL.out]) (by rw [HL.out]; exact own1.drew) own2.drew (by omega) (by omega) (by omega) (by simp; omega) (by simp; omega) hlast)
      · have HR := Lib.hid (show trnR xB xZ yB yZ = (0, [], 0, [], false, 6) by simp [trnR, hx, hy, hB])
        have hB2 : (xB == yB) = false := by simp [hB]
        clear hx hy
        go_enter Tryd.func51, Tryd.ntmps51
        go_upto_region 1 with fail
        obtain ⟨p, hp⟩ : ∃ g, g = w.heap.size := ⟨_, rfl⟩
        have hwp : w.heap.size ≤ p := Nat.le_of_eq hp.symm
        obtain ⟨u, hu⟩ : ∃ u, u = (((w.alloc (.cells #[.int .i64 xB, .slice xA xZ.length xC] 26)).alloc (.cells #[.int .i64 yB, .slice yA yZ.length yC] 26)).alloc (.cells #[.int .i64 0, .slice none 0 0] 26)).alloc (.cells #[.int .i64 0, .slice none 0 0] 26) := ⟨_, rfl⟩
        have b_x : Bx u p 26 #[.int .i64 xB, .slice xA xZ.length xC] := by rw [hu, hp]; exact (((Bx.new _ _ _).alloc _).alloc _).alloc _
        have b_y : Bx u (p + 1) 26 #[.int .i64 yB, .slice yA yZ.length yC] := by rw [hu, hp]; simpa using ((Bx.new (w.alloc (.cells #[.int .i64 xB, .slice xA xZ.length xC] 26)) #[.int .i64 yB, .slice yA yZ.length yC] 26).alloc _).alloc _
        have b_r : Bx u (p + 1 + 1) 26 #[.int .i64 0, .slice none 0 0] := by rw [hu, hp]; simpa using (Bx.new ((w.alloc (.cells #[.int .i64 xB, .slice xA xZ.length xC] 26)).alloc (.cells #[.int .i64 yB, .slice yA yZ.length yC] 26)) #[.int .i64 0, .slice none 0 0] 26).alloc _
        have b_s : Bx u (p + 1 + 1 + 1) 26 #[.int .i64 0, .slice none 0 0] := by rw [hu, hp]; simpa using Bx.new (((w.alloc (.cells #[.int .i64 xB, .slice xA xZ.length xC] 26)).alloc (.cells #[.int .i64 yB, .slice yA yZ.length yC] 26)).alloc (.cells #[.int .i64 0, .slice none 0 0] 26)) #[.int .i64 0, .slice none 0 0] 26
        have hb : Below w.heap.size w u := by rw [hu]; exact (by repeat (first | with_reducible exact Below.refl _ _ | with_reducible refine Below.setCell ?_ (by first | omega | (simp <;> omega)) _ | with_reducible refine Below.alloc ?_ (by first | omega | (simp <;> omega)) _ | with_reducible refine Below.drew ?_))
        rw [← hu, ← hp]
        clear hu hp
        replace ha := ha.below hb
        replace hY := hY.below hb
        replace hbel := hbel.trans (hb.mono hbel.size)
        clear hb
        go_wp2_with fail
        refine (l09Ok_at p xB xA xC xZ u HX.out ha (b_x.at_ 0 rfl) (b_x.at_ 1 rfl)).mono ?_
        rintro e v ⟨rfl, hb⟩
        replace ha := ha.below hb
        replace hY := hY.below hb
        replace b_x := b_x.below hb
        replace b_y := b_y.below hb
        replace b_r := b_r.below hb
        replace b_s := b_s.below hb
        replace hbel := hbel.trans (hb.mono hbel.size)
        clear hb
        go_wp2_with fail
        refine (l09Ok_at (p + 1) yB yA yC yZ v HYB.out hY (b_y.at_ 0 rfl) (b_y.at_ 1 rfl)).mono ?_
        rintro e v2 ⟨rfl, hb⟩
        replace ha := ha.below hb
        replace hY := hY.below hb
        replace b_x := b_x.below hb
        replace b_y := b_y.below hb
        replace b_r := b_r.below hb
        replace b_s := b_s.below hb
        replace hbel := hbel.trans (hb.mono hbel.size)
        clear hb
        have c0 := b_x.at_ 0 rfl
        have c1 := b_x.at_ 1 rfl
        have d0 := b_y.at_ 0 rfl
        have r0 := b_r.at_ 0 rfl
        have r1 := b_r.at_ 1 rfl
        have f0 := b_r.thaw 0
        have f1 := b_r.thaw 1
        have t0 := b_s.at_ 0 rfl
        have t1 := b_s.at_ 1 rfl
        have g0 := b_s.thaw 0
        have g1 := b_s.thaw 1
        have hs := b_r.lt
        have hs2 := b_s.lt
        have hbs := hbel.size
        go_wp2
        exact bodyPost_ret (v := .tuple #[.agg #[.int .i64 0, .slice none 0 0], .agg #[.int .i64 0, .slice none 0 0], .bool false, .int .i64 6]) (by simp [results, go_sem, r0, r1, t0, t1]) rfl
          (trnC_err HR.out rfl (by repeat (first | with_reducible exact hbel | with_reducible refine Below.setCell ?_ (by first | omega | (simp <;> omega)) _ | with_reducible refine Below.alloc ?_ (by first | omega | (simp <;> omega)) _ | with_reducible refine Below.drew ?_)))
end Go.Proofs.YtlahobdopmdfmaaDoor

/- TrnL -/
namespace Go.Proofs.YtlahobdopmdfmaaDoor
open Go.RowKit

theorem specTransferToL (xB : Int) (xA : Option Addr) (xC : Nat) (xZ : List Int) (yB : Int) (yA : Option Addr) (yC : Nat) (yZ : List Int) (w : World) (ha : Rd w xA xZ) (zx : All64 xZ) (bx : I64 xB) (hY : Rd w yA yZ) (zy : All64 yZ) (by_ : I64 yB) :
    Calls Tryd.prog 51 #[.agg #[.int .i64 xB, .slice xA xZ.length xC], .agg #[.int .i64 yB, .slice yA yZ.length yC]] w fun e w' => ∃ A C D E,
      e = .returned (.tuple #[.agg #[.int .i64 (trnR xB xZ yB yZ).1, .slice A (trnR xB xZ yB yZ).2.1.length C], .agg #[.int .i64 (trnR xB xZ yB yZ).2.2.1, .slice D (trnR xB xZ yB yZ).2.2.2.1.length E], .bool (trnR xB xZ yB yZ).2.2.2.2.1, .int .i64 (trnR xB xZ yB yZ).2.2.2.2.2]) ∧
      Own 2 w' w.heap.size w'.heap.size (.slice A (trnR xB xZ yB yZ).2.1.length C) (trnR xB xZ yB yZ).2.1 ∧ Own 2 w' w.heap.size w'.heap.size (.slice D (trnR xB xZ yB yZ).2.2.2.1.length E) (trnR xB xZ yB yZ).2.2.2.1 ∧ Below w.heap.size w w' :=
  (specTransferTo xB xA xC xZ yB yA yC yZ w ha zx bx hY zy by_).mono fun _ _ ⟨A, C, D, E, _, h1, h2, h3, h4, h5, h6⟩ => ⟨A, C, D, E, h1, h2.wide (Nat.le_refl _) h5, h3.wide h4 (Nat.le_refl _), h6⟩
theorem implTransferToL (xB : Int) (xA : Option Addr) (xC : Nat) (xZ : List Int) (yB : Int) (yA : Option Addr) (yC : Nat) (yZ : List Int) (w : World) (ha : Rd w xA xZ) (zx : All64 xZ) (bx : I64 xB) (hY : Rd w yA yZ) (zy : All64 yZ) (by_ : I64 yB) (hD : BellD w) :
    Calls Tryd.prog 50 #[.agg #[.int .i64 xB, .slice xA xZ.length xC], .agg #[.int .i64 yB, .slice yA yZ.length yC]] w fun e w' => ∃ A C D E,
      e = .returned (.tuple #[.agg #[.int .i64 (trnR xB xZ yB yZ).1, .slice A (trnR xB xZ yB yZ).2.1.length C], .agg #[.int .i64 (trnR xB xZ yB yZ).2.2.1, .slice D (trnR xB xZ yB yZ).2.2.2.1.length E], .bool (trnR xB xZ yB yZ).2.2.2.2.1, .int .i64 (trnR xB xZ yB yZ).2.2.2.2.2]) ∧
      Own 2 w' w.heap.size w'.heap.size (.slice A (trnR xB xZ yB yZ).2.1.length C) (trnR xB xZ yB yZ).2.1 ∧ Own 2 w' w.heap.size w'.heap.size (.slice D (trnR xB xZ yB yZ).2.2.2.1.length E) (trnR xB xZ yB yZ).2.2.2.1 ∧ Below w.heap.size w w' :=
  (implTransferTo xB xA xC xZ yB yA yC yZ w ha zx bx hY zy by_ hD).mono fun _ _ ⟨A, C, D, E, _, h1, h2, h3, h4, h5, h6⟩ => ⟨A, C, D, E, h1, h2.wide h4 (Nat.le_refl _), h3.wide (Nat.le_refl _) h5, h6⟩
end Go.Proofs.YtlahobdopmdfmaaDoor

/- Box2 -/
namespace Go.Proofs.YtlahobdopmdfmaaDoor
open Go.RowKit

/-- s, t lead to boxes that hold the registers. -/
def BoxReg2 (W : World) (b : Int) (xs : List Int) (d : Int) (ys : List Int) (s t : Value) (wx : World) : Prop := ∃ g h A C D E l1 h1 l2 h2, s = .pointer (some ⟨g, 0, none⟩) ∧ t = .pointer (some ⟨h, 0, none⟩) ∧
  wx.cell? ⟨g, 0, none⟩ = some (.int .i64 b) ∧ wx.cell? ⟨g, 1, none⟩ = some (.slice A xs.length C) ∧ wx.cell? ⟨h, 0, none⟩ = some (.int .i64 d) ∧ wx.cell? ⟨h, 1, none⟩ = some (.slice D ys.length E) ∧
  Own 2 wx l1 h1 (.slice A xs.length C) xs ∧ Own 2 wx l2 h2 (.slice D ys.length E) ys ∧
  Hid (W.heap.size ≤ l1) ∧ Hid (h1 ≤ wx.heap.size) ∧ Hid (W.heap.size ≤ l2) ∧ Hid (h2 ≤ wx.heap.size) ∧ Hid (W.heap.size ≤ g) ∧ Hid (g < wx.heap.size) ∧ Hid (W.heap.size ≤ h) ∧ Hid (h < wx.heap.size) ∧ Below W.heap.size W wx

section
variable {W u v : World} {b d : Int} {xs ys : List Int} {A D : Option Addr} {C E : Nat} {t : TypeId} (hk : Below W.heap.size W u) (hb : Below u.heap.size u v)
  (ow : Own 2 v u.heap.size v.heap.size (.slice A xs.length C) xs) (ow2 : Own 2 v u.heap.size v.heap.size (.slice D ys.length E) ys)
include hk hb ow ow2
/-- Both behind the call. -/
theorem boxReg2_aa : BoxReg2 W b xs d ys (.pointer (some ⟨v.heap.size, 0, none⟩)) (.pointer (some ⟨v.heap.size + 1, 0, none⟩)) ((v.alloc (.cells #[.int .i64 b, .slice A xs.length C] t)).alloc (.cells #[.int .i64 d, .slice D ys.length E] t)) := by
  have h1 := hk.size
  have h2 := hb.size
  have n1 := (Bx.new v #[.int .i64 b, .slice A xs.length C] t).alloc (.cells #[.int .i64 d, .slice D ys.length E] t)
  have n2 : Bx ((v.alloc (.cells #[.int .i64 b, .slice A xs.length C] t)).alloc (.cells #[.int .i64 d, .slice D ys.length E] t)) (v.heap.size + 1) t #[.int .i64 d, .slice D ys.length E] := by simpa using Bx.new (v.alloc (.cells #[.int .i64 b, .slice A xs.length C] t)) #[.int .i64 d, .slice D ys.length E] t
  exact ⟨_, _, A, C, D, E, _, _, _, _, rfl, rfl, n1.at_ 0 rfl, n1.at_ 1 rfl, n2.at_ 0 rfl, n2.at_ 1 rfl, (ow.alloc _).alloc _, (ow2.alloc _).alloc _, Lib.hid h1, Lib.hid (by simp; omega), Lib.hid h1, Lib.hid (by simp; omega), Lib.hid (by omega), Lib.hid (by simp; omega), Lib.hid (by omega), Lib.hid (by simp),
    ((hk.trans (hb.mono h1)).alloc (by omega) _).alloc (by simp; omega) _⟩
theorem boxReg2_bb : BoxReg2 W b xs d ys (.pointer (some ⟨v.heap.size + 1, 0, none⟩)) (.pointer (some ⟨v.heap.size, 0, none⟩)) ((v.alloc (.cells #[.int .i64 d, .slice D ys.length E] t)).alloc (.cells #[.int .i64 b, .slice A xs.length C] t)) := by
  have h1 := hk.size
  have h2 := hb.size
  have n2 := (Bx.new v #[.int .i64 d, .slice D ys.length E] t).alloc (.cells #[.int .i64 b, .slice A xs.length C] t)
  have n1 : Bx ((v.alloc (.cells #[.int .i64 d, .slice D ys.length E] t)).alloc (.cells #[.int .i64 b, .slice A xs.length C] t)) (v.heap.size + 1) t #[.int .i64 b, .slice A xs.length C] := by simpa using Bx.new (v.alloc (.cells #[.int .i64 d, .slice D ys.length E] t)) #[.int .i64 b, .slice A xs.length C] t
  exact ⟨_, _, A, C, D, E, _, _, _, _, rfl, rfl, n1.at_ 0 rfl, n1.at_ 1 rfl, n2.at_ 0 rfl, n2.at_ 1 rfl, (ow.alloc _).alloc _, (ow2.alloc _).alloc _, Lib.hid h1, Lib.hid (by simp; omega), Lib.hid h1, Lib.hid (by simp; omega), Lib.hid (by omega), Lib.hid (by simp), Lib.hid (by omega), Lib.hid (by simp; omega),
    ((hk.trans (hb.mono h1)).alloc (by omega) _).alloc (by simp; omega) _⟩
variable {g : Nat} {c0 c1 : Value} (bz : Bx v g t #[c0, c1]) (k1 : Hid (W.heap.size ≤ g)) (k2 : Hid (g < u.heap.size))
include bz k1 k2
/-- The first ahead of it, the second behind it. -/
theorem boxReg2_ba : BoxReg2 W b xs d ys (.pointer (some ⟨g, 0, none⟩)) (.pointer (some ⟨v.heap.size, 0, none⟩)) (((v.setCell ⟨g, 0, none⟩ (.int .i64 b)).setCell ⟨g, 1, none⟩ (.slice A xs.length C)).alloc (.cells #[.int .i64 d, .slice D ys.length E] t)) := by
  have h1 := hk.size
  have h2 := hb.size
  have h5 := k1.out
  have h6 := k2.out
  have n1 := ((bz.set_ 0 (.int .i64 b)).set_ 1 (.slice A xs.length C)).alloc (.cells #[.int .i64 d, .slice D ys.length E] t)
  have n2 : Bx (((v.setCell ⟨g, 0, none⟩ (.int .i64 b)).setCell ⟨g, 1, none⟩ (.slice A xs.length C)).alloc (.cells #[.int .i64 d, .slice D ys.length E] t)) v.heap.size t #[.int .i64 d, .slice D ys.length E] := by simpa using Bx.new ((v.setCell ⟨g, 0, none⟩ (.int .i64 b)).setCell ⟨g, 1, none⟩ (.slice A xs.length C)) #[.int .i64 d, .slice D ys.length E] t
  exact ⟨_, _, A, C, D, E, _, _, _, _, rfl, rfl, n1.at_ 0 rfl, n1.at_ 1 rfl, n2.at_ 0 rfl, n2.at_ 1 rfl, ((ow.setCell (.inl h6) _).setCell (.inl h6) _).alloc _, ((ow2.setCell (.inl h6) _).setCell (.inl h6) _).alloc _, Lib.hid h1, Lib.hid (by simp), Lib.hid h1, Lib.hid (by simp), Lib.hid h5, Lib.hid (by simp; omega), Lib.hid (by omega), Lib.hid (by simp),
    (((hk.trans (hb.mono h1)).setCell h5 _).setCell h5 _).alloc (by simp; omega) _⟩
/-- The second ahead of it, the first behind it. -/
theorem boxReg2_ab : BoxReg2 W b xs d ys (.pointer (some ⟨v.heap.size, 0, none⟩)) (.pointer (some ⟨g, 0, none⟩)) (((v.setCell ⟨g, 0, none⟩ (.int .i64 d)).setCell ⟨g, 1, none⟩ (.slice D ys.length E)).alloc (.cells #[.int .i64 b, .slice A xs.length C] t)) := by
  have h1 := hk.size
  have h2 := hb.size
  have h5 := k1.out
  have h6 := k2.out
  have n2 := ((bz.set_ 0 (.int .i64 d)).set_ 1 (.slice D ys.length E)).alloc (.cells #[.int .i64 b, .slice A xs.length C] t)
  have n1 : Bx (((v.setCell ⟨g, 0, none⟩ (.int .i64 d)).setCell ⟨g, 1, none⟩ (.slice D ys.length E)).alloc (.cells #[.int .i64 b, .slice A xs.length C] t)) v.heap.size t #[.int .i64 b, .slice A xs.length C] := by simpa using Bx.new ((v.setCell ⟨g, 0, none⟩ (.int .i64 d)).setCell ⟨g, 1, none⟩ (.slice D ys.length E)) #[.int .i64 b, .slice A xs.length C] t
  exact ⟨_, _, A, C, D, E, _, _, _, _, rfl, rfl, n1.at_ 0 rfl, n1.at_ 1 rfl, n2.at_ 0 rfl, n2.at_ 1 rfl, ((ow.setCell (.inl h6) _).setCell (.inl h6) _).alloc _, ((ow2.setCell (.inl h6) _).setCell (.inl h6) _).alloc _, Lib.hid h1, Lib.hid (by simp), Lib.hid h1, Lib.hid (by simp), Lib.hid (by omega), Lib.hid (by simp), Lib.hid h5, Lib.hid (by simp; omega),
    (((hk.trans (hb.mono h1)).setCell h5 _).setCell h5 _).alloc (by simp; omega) _⟩
variable {h : Nat} {d0 d1 : Value} (bw : Bx v h t #[d0, d1]) (m1 : Hid (W.heap.size ≤ h)) (m2 : Hid (h < u.heap.size)) (ne : Hid (¬ g = h))
include bw m1 m2 ne
/-- Both ahead of it. -/
theorem boxReg2_cc : BoxReg2 W b xs d ys (.pointer (some ⟨g, 0, none⟩)) (.pointer (some ⟨h, 0, none⟩)) ((((v.setCell ⟨g, 0, none⟩ (.int .i64 b)).setCell ⟨g, 1, none⟩ (.slice A xs.length C)).setCell ⟨h, 0, none⟩ (.int .i64 d)).setCell ⟨h, 1, none⟩ (.slice D ys.length E)) := by
  have h1 := hk.size
  have h2 := hb.size
  have h5 := k1.out
  have h6 := k2.out
  have h7 := m1.out
  have h8 := m2.out
  have hn := ne.out
  have n1 := (((bz.set_ 0 (.int .i64 b)).set_ 1 (.slice A xs.length C)).far (p := ⟨h, 0, none⟩) hn (.int .i64 d)).far (p := ⟨h, 1, none⟩) hn (.slice D ys.length E)
  have n2 := (((bw.far (p := ⟨g, 0, none⟩) (fun e => hn e.symm) (.int .i64 b)).far (p := ⟨g, 1, none⟩) (fun e => hn e.symm) (.slice A xs.length C)).set_ 0 (.int .i64 d)).set_ 1 (.slice D ys.length E)
  exact ⟨_, _, A, C, D, E, _, _, _, _, rfl, rfl, n1.at_ 0 rfl, n1.at_ 1 rfl, n2.at_ 0 rfl, n2.at_ 1 rfl, (((ow.setCell (.inl h6) _).setCell (.inl h6) _).setCell (.inl h8) _).setCell (.inl h8) _, (((ow2.setCell (.inl h6) _).setCell (.inl h6) _).setCell (.inl h8) _).setCell (.inl h8) _, Lib.hid h1, Lib.hid (by simp), Lib.hid h1, Lib.hid (by simp), Lib.hid h5, Lib.hid (by simp; omega), Lib.hid h7, Lib.hid (by simp; omega),
    ((((hk.trans (hb.mono h1)).setCell h5 _).setCell h5 _).setCell h7 _).setCell h7 _⟩
end
/-- Two boxes apart from what the registers own. -/
theorem boxReg2_of {W v : World} {b d : Int} {xs ys : List Int} {A D : Option Addr} {C E : Nat} {t : TypeId} {g h lo hi : Nat} {c0 c1 d0 d1 : Value} (hk : Below W.heap.size W v) (e1 : W.heap.size ≤ lo) (e2 : hi ≤ v.heap.size)
    (ow : Own 2 v lo hi (.slice A xs.length C) xs) (ow2 : Own 2 v lo hi (.slice D ys.length E) ys) (bz : Bx v g t #[c0, c1]) (l1 : W.heap.size ≤ g) (k1 : g < lo ∨ hi ≤ g) (bw : Bx v h t #[d0, d1]) (l2 : W.heap.size ≤ h) (k2 : h < lo ∨ hi ≤ h) (hn : ¬ g = h) :
    BoxReg2 W b xs d ys (.pointer (some ⟨g, 0, none⟩)) (.pointer (some ⟨h, 0, none⟩)) ((((v.setCell ⟨g, 0, none⟩ (.int .i64 b)).setCell ⟨g, 1, none⟩ (.slice A xs.length C)).setCell ⟨h, 0, none⟩ (.int .i64 d)).setCell ⟨h, 1, none⟩ (.slice D ys.length E)) := by
  have t1 := bz.lt
  have t2 := bw.lt
  have n1 := (((bz.set_ 0 (.int .i64 b)).set_ 1 (.slice A xs.length C)).far (p := ⟨h, 0, none⟩) hn (.int .i64 d)).far (p := ⟨h, 1, none⟩) hn (.slice D ys.length E)
  have n2 := (((bw.far (p := ⟨g, 0, none⟩) (fun e => hn e.symm) (.int .i64 b)).far (p := ⟨g, 1, none⟩) (fun e => hn e.symm) (.slice A xs.length C)).set_ 0 (.int .i64 d)).set_ 1 (.slice D ys.length E)
  exact ⟨_, _, A, C, D, E, _, _, _, _, rfl, rfl, n1.at_ 0 rfl, n1.at_ 1 rfl, n2.at_ 0 rfl, n2.at_ 1 rfl, (((ow.setCell k1 _).setCell k1 _).setCell k2 _).setCell k2 _, (((ow2.setCell k1 _).setCell k1 _).setCell k2 _).setCell k2 _, Lib.hid e1, Lib.hid (by simp; omega), Lib.hid e1, Lib.hid (by simp; omega), Lib.hid l1, Lib.hid (by simp; omega), Lib.hid l2, Lib.hid (by simp; omega),
    (((hk.setCell l1 _).setCell l1 _).setCell l2 _).setCell l2 _⟩
end Go.Proofs.YtlahobdopmdfmaaDoor

/- Node -/
namespace Go.Proofs.YtlahobdopmdfmaaDoor
open Go

/-- The operations ls have come, of n. -/
def marks (n : Nat) (ls : List Nat) : Array Bool := ls.foldl (fun b i => b.setIfInBounds i true) (Array.replicate n false)
/-- The slots ps have been written. -/
def puts (a : Act) (ps : List (Nat × Value)) : Act := ps.foldl (fun a p => a.put (some p.1) p.2) a

theorem wp_region_nodes {P : Program} {Q : Exit → Act → World → Prop} {id : Nat} {a : Act} {w : World} {l : List Oper} (S : World → Prop) (m : Nat) (hm : P.follows .mixedOrders = true)
    (h : ∀ G : List Nat → List (Nat × Value) → World → Prop, (∀ ls ps v, G ls ps v ↔ wpAnyM P .any l.toArray Q S m (l.length - ls.length) (marks l.length ls) (puts a ps) v) → G [] [] w.drew) :
    (Code.region id l.toArray true).wp P Q a w :=
  wp_region_marked S m hm ((h (fun ls ps v => wpAnyM P .any l.toArray Q S m (l.length - ls.length) (marks l.length ls) (puts a ps) v) (fun _ _ _ => Iff.rfl)))

/-- Number i, number j or number k may come up. -/
theorem wpAnyM_three {P : Program} {ops : Array Oper} {Q : Exit → Act → World → Prop} {md : Region.Mode} {S : World → Prop} {m : Nat} {i j k : Nat} {oi oj ok : Oper} {fuel : Nat} {listed : Array Bool} {a : Act} {w : World}
    (hr : Region.ready md ops listed = [i, j, k]) (hoi : ops[i]? = some oi) (hoj : ops[j]? = some oj) (hok : ops[k]? = some ok)
    (hwi : Region.wanted oi (yielded ops a.tmps) = true) (hwj : Region.wanted oj (yielded ops a.tmps) = true) (hwk : Region.wanted ok (yielded ops a.tmps) = true)
    (h1 : ∀ K : Act → World → Prop, (∀ a' w', ((listed.setIfInBounds i true).getD m true = true ∨ S w') → wpAnyM P md ops Q S m fuel (listed.setIfInBounds i true) a' w' → K a' w') → oi.wp P a w K Q)
    (h2 : ∀ K : Act → World → Prop, (∀ a' w', ((listed.setIfInBounds j true).getD m true = true ∨ S w') → wpAnyM P md ops Q S m fuel (listed.setIfInBounds j true) a' w' → K a' w') → oj.wp P a w K Q)
    (h3 : ∀ K : Act → World → Prop, (∀ a' w', ((listed.setIfInBounds k true).getD m true = true ∨ S w') → wpAnyM P md ops Q S m fuel (listed.setIfInBounds k true) a' w' → K a' w') → ok.wp P a w K Q) :
    wpAnyM P md ops Q S m (fuel + 1) listed a w := by
  refine ⟨fun h0 => (by rw [h0] at hr; cases hr), fun n hn => ?_⟩
  rw [hr] at hn
  simp only [List.mem_cons, List.not_mem_nil, or_false] at hn
  rcases hn with rfl | rfl | rfl
  · unfold wpOp
    simp only [hoi, hwi, if_true]
    exact .inl (h1 _ fun a' w' h1 h2 => ⟨h1, h2⟩)
  · unfold wpOp
    simp only [hoj, hwj, if_true]
    exact .inl (h2 _ fun a' w' h1 h2 => ⟨h1, h2⟩)
  · unfold wpOp
    simp only [hok, hwk, if_true]
    exact .inl (h3 _ fun a' w' h1 h2 => ⟨h1, h2⟩)
end Go.Proofs.YtlahobdopmdfmaaDoor

/- OrdP -/
namespace Go.Proofs.YtlahobdopmdfmaaDoor
open Go

section
variable {P : Program} {ops : Array Oper} {Q : Exit → Act → World → Prop} {md : Region.Mode} {S : World → Prop} {m : Nat}

theorem wpAnyM_pureFirst {i : Nat} {oi : Oper} {v : Value} (hi : ops[i]? = some oi) (hsel : ∀ (j : Nat) (o : Oper) cs b, ops[j]? = some o → o.op ≠ .select cs b)
    (hQ : ∀ c a w, Q (.panic c) (a.put oi.dst v) w → Q (.panic c) a w) (him : i ≠ m) :
    ∀ (fuel : Nat) (listed : Array Bool) (a : Act) (w : World),
      (∀ j oj, ops[j]? = some oj → j ≠ i → listed.getD j true = false → (∀ e ∈ oj.after, Region.binds md e = true → e.on ≠ i) → oi.apart ops oj = true) →
      i ∈ Region.ready md ops listed → YieldsIf P ops (fun _ => True) oi v a → (listed.getD m true = true ∨ S w) →
      wpAnyM P md ops Q S m fuel (listed.setIfInBounds i true) (a.put oi.dst v) w → wpAnyM P md ops Q S m (fuel + 1) listed a w := by
  intro fuel
  induction fuel with
  | zero =>
    intro listed a w _ hr hy hS H
    refine ⟨fun h => (by rw [h] at hr; cases hr), fun j hj => ?_⟩
    by_cases hji : j = i
    · subst hji; exact hy.wpOp hi trivial ⟨by rw [getD_set_ne true him]; exact hS, H⟩
    · have := ready_mono hj hji
      rw [H.1] at this
      cases this
  | succ fuel ih =>
    intro listed a w hfree hr hy hS H
    refine ⟨fun h => (by rw [h] at hr; cases hr), fun j hj => ?_⟩
    by_cases hji : j = i
    · subst hji; exact hy.wpOp hi trivial ⟨by rw [getD_set_ne true him]; exact hS, H⟩
    · have h1 := H.2 j (ready_mono hj hji)
      obtain ⟨hjun, oj, hoj, hall⟩ := mem_ready.1 hj
      have iun : listed.getD i false = false := by
        have h0 := (mem_ready.1 hr).1
        rcases Nat.lt_or_ge i listed.size with h' | h'
        · simp [h'] at h0 ⊢; exact h0
        · simp [Array.getElem?_eq_none h'] at h0
      have hnot : ∀ e ∈ oj.after, Region.binds md e = true → e.on ≠ i := fun e he hb heq => by
        have h1 := hall e he hb
        rw [heq, iun] at h1
        cases h1
      have h2 := wpOp_putIf hoj (hfree j oj hoj hji hjun hnot) (fun cs b => hsel i oi cs b hi) (fun cs b => hsel j oj cs b hoj) hQ hy h1
      have hfree' : ∀ k ok, ops[k]? = some ok → k ≠ i → (listed.setIfInBounds j true).getD k true = false →
          (∀ e ∈ ok.after, Region.binds md e = true → e.on ≠ i) → oi.apart ops ok = true := fun k ok hk hki hun hno => by
        refine hfree k ok hk hki ?_ hno
        by_cases hjk : j = k
        · subst hjk; exact hjun
        · rw [getD_set_ne true hjk] at hun; exact hun
      refine wpOp_mono (fun a' w' h3 => ?_) h2
      obtain ⟨h4, h5, h6⟩ := h3
      have hS' : (listed.setIfInBounds j true).getD m true = true ∨ S w' := by
        rcases h5 with h5 | h5
        · rw [Array.setIfInBounds_comm _ _ (Ne.symm hji), getD_set_ne true him] at h5; exact .inl h5
        · exact .inr h5
      refine ⟨hS', ih (listed.setIfInBounds j true) a' w' hfree' (ready_mono hr (Ne.symm hji)) h4 hS' ?_⟩
      rw [Array.setIfInBounds_comm _ _ hji]
      exact h6

/-- Number i, whose value hangs on no world, is taken first. -/
theorem wpAnyM_pure {i : Nat} {oi : Oper} {v : Value} {fuel : Nat} {listed : Array Bool} {a : Act} {w : World} (hi : ops[i]? = some oi)
    (hs : Region.noSelect ops = true) (hf : Region.free md ops listed i = true) (hr : (Region.ready md ops listed).contains i = true) (him : (i == m) = false)
    (hQ : ∀ c a w, Q (.panic c) (a.put oi.dst v) w → Q (.panic c) a w) (hS : listed.getD m true = true ∨ S w) (hy : YieldsIf P ops (fun _ => True) oi v a)
    (h : wpAnyM P md ops Q S m fuel (listed.setIfInBounds i true) (a.put oi.dst v) w) : wpAnyM P md ops Q S m (fuel + 1) listed a w :=
  wpAnyM_pureFirst hi (Region.noSelect_spec hs) hQ (by simpa using him) fuel listed a w (Region.free_spec hi hf) (by simpa using hr) hy hS h
end
end Go.Proofs.YtlahobdopmdfmaaDoor
