/-
  Gears: the maths (trains, ratios, least turns, found trains, chains).
-/
import Derived.Test.YtgfopieojpjddaaFlat
import Derived.Test.YtgfopieojpjddaaInS
namespace Go.Proofs.Ytgfopieojpjddaa

/-- Are these the teeth of a pair? (a word that the walk does not open) -/
def teethB (x : Int × Int) : Bool := inB x.1 2 120 && inB x.2 2 120
theorem teethB_true {x : Int × Int} (h : teethB x = true) : (2 ≤ x.1 ∧ x.1 ≤ 120) ∧ (2 ≤ x.2 ∧ x.2 ≤ 120) := by
  simp only [teethB, Bool.and_eq_true] at h
  exact ⟨inB_true h.1, inB_true h.2⟩
theorem teethB_false {x : Int × Int} (h : teethB x = false) : (x.1 < 2 ∨ 120 < x.1) ∨ ((2 ≤ x.1 ∧ x.1 ≤ 120) ∧ (x.2 < 2 ∨ 120 < x.2)) := by
  cases h1 : inB x.1 2 120 with
  | false => exact .inl (inB_false h1)
  | true => rw [teethB, h1, Bool.true_and] at h; exact .inr ⟨inB_true h1, inB_false h⟩
/-- Are all of them pairs? -/
def pairsB (xs : List (Int × Int)) : Bool := xs.all teethB
theorem pairsB_true {xs : List (Int × Int)} : pairsB xs = true ↔ ∀ x ∈ xs, teethB x = true := by simp [pairsB]
theorem pairsB_bad {xs : List (Int × Int)} {k : Nat} (hk : k < xs.length) (h : teethB (elt pairF xs k) = false) : pairsB xs = false := by
  cases hp : pairsB xs with
  | false => rfl
  | true => rw [pairsB_true.1 hp _ (elt_mem hk)] at h; cases h
theorem pairsB_allT {xs : List (Int × Int)} (h : ∀ x ∈ xs.take xs.length, teethB x = true) : pairsB xs = true := by
  rw [List.take_of_length_le (Nat.le_refl _)] at h; exact pairsB_true.2 h
/-- Is their number that of a train? -/
def lenB (n : Nat) : Bool := decide (1 ≤ n ∧ n ≤ 6)
theorem lenB_true {n : Nat} (h : lenB n = true) : 1 ≤ n ∧ n ≤ 6 := by simpa [lenB] using h
theorem lenB_false {n : Nat} (h : lenB n = false) : n < 1 ∨ 6 < n := by simp [lenB] at h; omega
theorem lenB_in (n : Nat) : lenB n = inB (n : Int) 1 6 := by
  rw [lenB, inB, decide_eq_decide]; omega
/-- A train. -/
def trainB (xs : List (Int × Int)) : Bool := lenB xs.length && pairsB xs
structure TrainOf (xs : List (Int × Int)) : Prop where
  n0 : 1 ≤ xs.length
  n1 : xs.length ≤ 6
  all : ∀ x ∈ xs, teethB x = true
theorem train_of {xs : List (Int × Int)} (h : trainB xs = true) : TrainOf xs := by
  simp only [trainB, Bool.and_eq_true] at h
  exact ⟨(lenB_true h.1).1, (lenB_true h.1).2, pairsB_true.1 h.2⟩
theorem train_is {xs : List (Int × Int)} (h : TrainOf xs) : trainB xs = true := by
  simp only [trainB, Bool.and_eq_true]
  exact ⟨by simp [lenB, h.n0, h.n1], pairsB_true.2 h.all⟩
theorem TrainOf.at_ {xs : List (Int × Int)} (h : TrainOf xs) {k : Nat} (hk : k < xs.length) : (2 ≤ (elt pairF xs k).1 ∧ (elt pairF xs k).1 ≤ 120) ∧ (2 ≤ (elt pairF xs k).2 ∧ (elt pairF xs k).2 ≤ 120) := teethB_true (h.all _ (elt_mem hk))

/-- By what a pair multiplies the turns. -/
def fac (x : Int × Int) : Rat := mkRat (-x.1) x.2.toNat
/-- The ratio. -/
def ratQ (xs : List (Int × Int)) : Rat := xs.foldl (fun q x => q * fac x) 1
theorem ratQ_nil : ratQ [] = 1 := rfl
theorem ratQ_snoc (xs : List (Int × Int)) (x : Int × Int) : ratQ (xs ++ [x]) = ratQ xs * fac x := by simp [ratQ]
theorem ratQ_take {xs : List (Int × Int)} {k : Nat} (hk : k < xs.length) : ratQ (xs.take (k + 1)) = ratQ (xs.take k) * fac (elt pairF xs k) := by rw [takeE_succ (F := pairF) hk, ratQ_snoc]
/-- num / den in lowest terms. -/
def red (n : Int) (d : Nat) : Rat := mkRat n d
/-- What the two divisions give. -/
theorem red_num {n : Int} {d : Nat} (hd : d ≠ 0) : n.tdiv (Nat.gcd n.natAbs d) = (red n d).num := by
  rw [red, Rat.num_mkRat, if_neg hd, Nat.gcd_comm, Int.tdiv_eq_ediv_of_dvd]
  exact Int.ofNat_dvd_left.2 (Nat.gcd_dvd_right _ _)
theorem red_den {n : Int} {d : Nat} (hd : d ≠ 0) : (d : Int).tdiv (Nat.gcd n.natAbs d) = ((red n d).den : Int) := by
  rw [red, Rat.den_mkRat, if_neg hd, Nat.gcd_comm, Int.tdiv_eq_ediv_of_nonneg (by omega)]
  rfl
theorem red_mul (p q : Rat) : red (p.num * q.num) (p.den * q.den) = p * q := by rw [red, Rat.mul_def']
theorem red_fac (q : Rat) (x : Int × Int) : red (q.num * -x.1) (q.den * x.2.toNat) = q * fac x := by
  rw [red, fac, ← Rat.mkRat_mul_mkRat, Rat.mkRat_self]
theorem red_neg (q : Rat) (x : Int × Int) : red (-q.num * x.1) (q.den * x.2.toNat) = q * fac x := by
  rw [← red_fac]; congr 1; rw [Int.mul_neg, Int.neg_mul]
theorem abs_div_le (n : Int) (g : Nat) : (n / (g : Int)).natAbs ≤ n.natAbs := by
  rcases Nat.eq_zero_or_pos g with h | h
  · subst h; simp
  · rcases Int.le_total 0 n with h1 | h1
    · obtain ⟨k, rfl⟩ := Int.eq_ofNat_of_zero_le h1
      rw [← Int.natCast_ediv]; exact Nat.div_le_self _ _
    · have e := Int.ediv_mul_le n (b := (g : Int)) (by omega)
      have h2 : n / (g : Int) ≤ 0 := by
        rcases Int.lt_or_le 0 (n / (g : Int)) with h3 | h3
        · exfalso
          have : 0 < n / (g : Int) * g := Int.mul_pos h3 (by omega)
          omega
        · exact h3
      have h4 : n ≤ n / (g : Int) := by
        have := Int.le_ediv_of_mul_le (a := n) (b := n) (c := (g : Int)) (by omega) (by
          have : n * (g : Int) ≤ n * 1 := Int.mul_le_mul_of_nonpos_left h1 (by omega)
          omega)
        exact this
      omega
theorem num_le (p q : Rat) : (p * q).num.natAbs ≤ p.num.natAbs * q.num.natAbs := by
  rw [Rat.num_mul, ← Int.natAbs_mul]; exact abs_div_le _ _
theorem den_le (p q : Rat) : (p * q).den ≤ p.den * q.den := by rw [Rat.den_mul]; exact Nat.div_le_self _ _
theorem den_dvd (p q : Rat) : (p * q).den ∣ p.den * q.den := by
  rw [Rat.den_mul]; exact Nat.div_dvd_of_dvd (Nat.gcd_dvd_right _ _)
theorem red_num_le (n : Int) (d : Nat) : (red n d).num.natAbs ≤ n.natAbs := by
  rw [red, Rat.num_mkRat]; split
  · simp
  · exact abs_div_le _ _
theorem red_den_le (n : Int) {d : Nat} (hd : d ≠ 0) : (red n d).den ≤ d := by rw [red, Rat.den_mkRat, if_neg hd]; exact Nat.div_le_self _ _
theorem red_den_dvd (n : Int) {d : Nat} (hd : d ≠ 0) : (red n d).den ∣ d := by rw [red, Rat.den_mkRat, if_neg hd]; exact Nat.div_dvd_of_dvd (Nat.gcd_dvd_left _ _)
theorem fac_num_le {x : Int × Int} (h : teethB x = true) : (fac x).num.natAbs ≤ 120 := by
  have := teethB_true h
  have := red_num_le (-x.1) x.2.toNat
  rw [red] at this
  rw [fac]; omega
theorem fac_den_dvd {x : Int × Int} (h : teethB x = true) : (fac x).den ∣ x.2.toNat := by
  have := teethB_true h
  exact red_den_dvd (-x.1) (by omega)
theorem fac_den_le {x : Int × Int} (h : teethB x = true) : (fac x).den ≤ 120 := by
  have := teethB_true h
  have := Nat.le_of_dvd (by omega) (fac_den_dvd h)
  omega
/-- Bounds of a ratio of k pairs. -/
theorem ratQ_bd {xs : List (Int × Int)} (h : ∀ x ∈ xs, teethB x = true) : ∀ k, k ≤ xs.length → (ratQ (xs.take k)).num.natAbs ≤ 120 ^ k ∧ (ratQ (xs.take k)).den ≤ 120 ^ k
  | 0, _ => by simp [ratQ_nil]
  | k + 1, hk => by
    obtain ⟨h1, h2⟩ := ratQ_bd h k (by omega)
    have hk' : k < xs.length := by omega
    have ht := h _ (elt_mem (F := pairF) hk')
    rw [ratQ_take hk', Nat.pow_succ]
    exact ⟨Nat.le_trans (num_le _ _) (Nat.mul_le_mul h1 (fac_num_le ht)), Nat.le_trans (den_le _ _) (Nat.mul_le_mul h2 (fac_den_le ht))⟩
theorem pow_le {k : Nat} (h : k ≤ 6) : 120 ^ k ≤ 2985984000000 := by
  have := Nat.pow_le_pow_right (n := 120) (by omega) h
  have e : 120 ^ 6 = 2985984000000 := by decide
  omega
theorem ratQ_in {xs : List (Int × Int)} (h : ∀ x ∈ xs, teethB x = true) {k : Nat} (hk : k ≤ xs.length) (h6 : k ≤ 6) :
    (ratQ (xs.take k)).num.natAbs ≤ 2985984000000 ∧ (ratQ (xs.take k)).den ≤ 2985984000000 := by
  have := ratQ_bd h k hk
  have := pow_le h6
  omega
theorem ratQ_in' {xs : List (Int × Int)} (h : ∀ x ∈ xs, teethB x = true) {k : Nat} (hk : k ≤ xs.length) (h6 : k ≤ 5) :
    (ratQ (xs.take k)).num.natAbs ≤ 24883200000 ∧ (ratQ (xs.take k)).den ≤ 24883200000 := by
  have := ratQ_bd h k hk
  have := Nat.pow_le_pow_right (n := 120) (by omega) h6
  have e : 120 ^ 5 = 24883200000 := by decide
  omega
theorem den_pos (q : Rat) : 0 < q.den := Nat.pos_of_ne_zero q.den_nz

/-- The ratio, and the code. -/
def ratR (xs : List (Int × Int)) : (Int × Int) × Int := if trainB xs = true then (((ratQ xs).num, ((ratQ xs).den : Int)), 0) else ((0, 0), 1)
theorem ratR_bad {xs : List (Int × Int)} (h : trainB xs = false) : ratR xs = ((0, 0), 1) := by simp [ratR, h]
theorem ratR_ok {xs : List (Int × Int)} (h : trainB xs = true) : ratR xs = (((ratQ xs).num, ((ratQ xs).den : Int)), 0) := by simp [ratR, h]
/-- The ratio times turns, and the code. -/
def outR (xs : List (Int × Int)) (t : Int) : (Int × Int) × Int :=
  if trainB xs = true then (if inB t (-1000) 1000 = true then (((red ((ratQ xs).num * t) (ratQ xs).den).num, ((red ((ratQ xs).num * t) (ratQ xs).den).den : Int)), 0) else ((0, 0), 2)) else ((0, 0), 1)
theorem outR_bad {xs : List (Int × Int)} {t : Int} (h : trainB xs = false) : outR xs t = ((0, 0), 1) := by simp [outR, h]
theorem outR_range {xs : List (Int × Int)} {t : Int} (h : trainB xs = true) (ht : inB t (-1000) 1000 = false) : outR xs t = ((0, 0), 2) := by simp [outR, h, ht]
theorem outR_ok {xs : List (Int × Int)} {t : Int} (h : trainB xs = true) (ht : inB t (-1000) 1000 = true) : outR xs t = (((red ((ratQ xs).num * t) (ratQ xs).den).num, ((red ((ratQ xs).num * t) (ratQ xs).den).den : Int)), 0) := by simp [outR, h, ht]

/-- The least common multiple of the denominators of the first k ratios. -/
def lcmTo (xs : List (Int × Int)) : Nat → Nat
  | 0 => 1
  | k + 1 => Nat.lcm (lcmTo xs k) (ratQ (xs.take (k + 1))).den
def dprod (xs : List (Int × Int)) : Nat → Nat
  | 0 => 1
  | k + 1 => dprod xs k * (elt pairF xs k).2.toNat
theorem den_dprod {xs : List (Int × Int)} (h : ∀ x ∈ xs, teethB x = true) : ∀ k, k ≤ xs.length → (ratQ (xs.take k)).den ∣ dprod xs k
  | 0, _ => by simp [ratQ_nil, dprod]
  | k + 1, hk => by
    have hk' : k < xs.length := by omega
    rw [ratQ_take hk', dprod]
    exact Nat.dvd_trans (den_dvd _ _) (Nat.mul_dvd_mul (den_dprod h k (by omega)) (fac_den_dvd (h _ (elt_mem hk'))))
theorem lcm_dprod {xs : List (Int × Int)} (h : ∀ x ∈ xs, teethB x = true) : ∀ k, k ≤ xs.length → lcmTo xs k ∣ dprod xs k
  | 0, _ => by simp [lcmTo, dprod]
  | k + 1, hk => by
    rw [lcmTo]
    exact Nat.lcm_dvd (Nat.dvd_trans (lcm_dprod h k (by omega)) ⟨_, rfl⟩) (den_dprod h (k + 1) hk)
theorem dprod_bd {xs : List (Int × Int)} (h : ∀ x ∈ xs, teethB x = true) : ∀ k, k ≤ xs.length → 1 ≤ dprod xs k ∧ dprod xs k ≤ 120 ^ k
  | 0, _ => by simp [dprod]
  | k + 1, hk => by
    obtain ⟨h1, h2⟩ := dprod_bd h k (by omega)
    have := teethB_true (h _ (elt_mem (F := pairF) (show k < xs.length by omega)))
    rw [dprod, Nat.pow_succ]
    exact ⟨Nat.mul_pos h1 (by omega), Nat.mul_le_mul h2 (by omega)⟩
theorem lcmTo_bd {xs : List (Int × Int)} (h : ∀ x ∈ xs, teethB x = true) {k : Nat} (hk : k ≤ xs.length) (h6 : k ≤ 6) : 1 ≤ lcmTo xs k ∧ lcmTo xs k ≤ 2985984000000 := by
  obtain ⟨h1, h2⟩ := dprod_bd h k hk
  have hd := lcm_dprod h k hk
  have := Nat.le_of_dvd h1 hd
  have := pow_le h6
  exact ⟨Nat.pos_of_dvd_of_pos hd h1, by omega⟩
theorem lcm_step (a b : Nat) : a / Nat.gcd a b * b = Nat.lcm a b := by
  rw [Nat.lcm, Nat.mul_comm, ← Nat.mul_div_assoc _ (Nat.gcd_dvd_left a b), Nat.mul_comm]
def leastR (xs : List (Int × Int)) : Int × Int := if trainB xs = true then ((lcmTo xs xs.length : Int), 0) else (0, 1)
theorem leastR_bad {xs : List (Int × Int)} (h : trainB xs = false) : leastR xs = (0, 1) := by simp [leastR, h]
theorem leastR_ok {xs : List (Int × Int)} (h : trainB xs = true) : leastR xs = ((lcmTo xs xs.length : Int), 0) := by simp [leastR, h]

/-- The train that is driven from its end. -/
def swapP (x : Int × Int) : Int × Int := (x.2, x.1)
def backL (xs : List (Int × Int)) : List (Int × Int) := xs.reverse.map swapP
def backR' (xs : List (Int × Int)) : List (Int × Int) × Int := if trainB xs = true then (backL xs, 0) else ([], 1)
theorem backR'_bad {xs : List (Int × Int)} (h : trainB xs = false) : backR' xs = ([], 1) := by simp [backR', h]
theorem backR'_ok {xs : List (Int × Int)} (h : trainB xs = true) : backR' xs = (backL xs, 0) := by simp [backR', h]
/-- What has come when the pairs from j on have been turned. -/
def backTo (xs : List (Int × Int)) (j : Nat) : List (Int × Int) := (xs.drop j).reverse.map swapP
theorem backTo_all (xs : List (Int × Int)) : backTo xs 0 = backL xs := rfl
theorem backTo_len (xs : List (Int × Int)) : backTo xs xs.length = [] := by simp [backTo]
theorem backTo_step {xs : List (Int × Int)} {j : Nat} (hj : j < xs.length) : backTo xs j = backTo xs (j + 1) ++ [swapP (elt pairF xs j)] := by
  rw [backTo, dropE (F := pairF) hj]; simp [backTo]
theorem backTo_length (xs : List (Int × Int)) (j : Nat) : (backTo xs j).length = xs.length - j := by simp [backTo]
def joinR (xs ys : List (Int × Int)) : List (Int × Int) × Int :=
  if trainB xs = true ∧ trainB ys = true then (if xs.length + ys.length ≤ 6 then (xs ++ ys, 0) else ([], 5)) else ([], 1)
theorem joinR_bad {xs ys : List (Int × Int)} (h : trainB xs = false ∨ trainB ys = false) : joinR xs ys = ([], 1) := by
  rw [joinR, if_neg]; rintro ⟨h1, h2⟩; rcases h with h | h <;> simp_all
theorem joinR_full {xs ys : List (Int × Int)} (h1 : trainB xs = true) (h2 : trainB ys = true) (h : ¬ xs.length + ys.length ≤ 6) : joinR xs ys = ([], 5) := by rw [joinR, if_pos ⟨h1, h2⟩, if_neg h]
theorem joinR_ok {xs ys : List (Int × Int)} (h1 : trainB xs = true) (h2 : trainB ys = true) (h : xs.length + ys.length ≤ 6) : joinR xs ys = (xs ++ ys, 0) := by rw [joinR, if_pos ⟨h1, h2⟩, if_pos h]

/-- The first factor of n from p on, of k, that is as wanted; 0 for none. -/
def fF (n : Nat) : Nat → Nat → Nat
  | 0, _ => 0
  | k + 1, p => if n % p = 0 ∧ n / p ≤ 60 then p else fF n k (p + 1)
theorem fF_hit {n k p : Nat} (h : n % p = 0 ∧ n / p ≤ 60) : fF n (k + 1) p = p := by simp [fF, h]
theorem fF_miss {n k p : Nat} (h : ¬ (n % p = 0 ∧ n / p ≤ 60)) : fF n (k + 1) p = fF n k (p + 1) := by simp only [fF, if_neg h]
theorem fF_le {n : Nat} : ∀ k p, fF n k p < p + k ∨ fF n k p = 0
  | 0, _ => .inr rfl
  | k + 1, p => by
    unfold fF; split
    · exact .inl (by omega)
    · have := fF_le (n := n) k (p + 1); omega
theorem fF_past {n : Nat} (hn : 1 ≤ n) : ∀ k p, n < p → fF n k p = 0
  | 0, _, _ => rfl
  | k + 1, p, hp => by
    rw [fF_miss (by rw [Nat.mod_eq_of_lt hp]; omega)]
    exact fF_past hn k (p + 1) (by omega)
theorem fF_spec {n : Nat} : ∀ k p, fF n k p ≠ 0 → n % fF n k p = 0 ∧ n / fF n k p ≤ 60 ∧ p ≤ fF n k p
  | 0, _, h => absurd rfl h
  | k + 1, p, h => by
    by_cases hc : n % p = 0 ∧ n / p ≤ 60
    · rw [fF_hit hc]; exact ⟨hc.1, hc.2, Nat.le_refl _⟩
    · rw [fF_miss hc] at h ⊢
      have := fF_spec k (p + 1) h
      exact ⟨this.1, this.2.1, by omega⟩
def findL (n d : Nat) : List (Int × Int) := [(2 * (fF n 60 1 : Int), 2 * (fF d 60 1 : Int)), (2 * ((n / fF n 60 1 : Nat) : Int), 2 * ((d / fF d 60 1 : Nat) : Int))]
def findC (n d : Nat) : List (Int × Int) × Int := if fF n 60 1 ≠ 0 ∧ fF d 60 1 ≠ 0 then (findL n d, 0) else ([], 3)
def findR (num den : Int) : List (Int × Int) × Int :=
  if inB num 1 1000000 = true ∧ inB den 1 1000000 = true then findC (red num den.toNat).num.natAbs (red num den.toNat).den else ([], 2)
theorem findR_bad {num den : Int} (h : inB num 1 1000000 = false ∨ inB den 1 1000000 = false) : findR num den = ([], 2) := by
  rw [findR, if_neg]; rintro ⟨h1, h2⟩; rcases h with h | h <;> simp_all
theorem findR_ok {num den : Int} (h1 : inB num 1 1000000 = true) (h2 : inB den 1 1000000 = true) : findR num den = findC (red num den.toNat).num.natAbs (red num den.toNat).den := by rw [findR, if_pos ⟨h1, h2⟩]

/-- Does each place of a chain differ from the next one by at most the play? -/
def joinedAt (pl ps : List Int) (k : Nat) : Bool := decide (nth ps (k + 1) - nth ps k ≤ nth pl k ∧ nth ps k - nth ps (k + 1) ≤ nth pl k)
def joinedTo (pl ps : List Int) : Nat → Bool
  | 0 => true
  | k + 1 => joinedTo pl ps k && joinedAt pl ps k
theorem joinedTo_all {pl ps : List Int} : ∀ {n : Nat}, joinedTo pl ps n = true ↔ ∀ k, k < n → joinedAt pl ps k = true
  | 0 => by simp [joinedTo]
  | n + 1 => by
    rw [joinedTo, Bool.and_eq_true, joinedTo_all]
    constructor
    · rintro ⟨h1, h2⟩ k hk
      rcases Nat.lt_or_ge k n with h | h
      · exact h1 k h
      · obtain rfl : k = n := by omega
        exact h2
    · intro h; exact ⟨fun k hk => h k (by omega), h n (by omega)⟩
theorem joinedTo_bad {pl ps : List Int} {n k : Nat} (hk : k < n) (h : joinedAt pl ps k = false) : joinedTo pl ps n = false := by
  cases hj : joinedTo pl ps n with
  | false => rfl
  | true => rw [joinedTo_all.1 hj k hk] at h; cases h
/-- Are all numbers from lo to hi? -/
def rangeB (lo hi : Int) (zs : List Int) : Bool := zs.all fun z => inB z lo hi
theorem rangeB_true {lo hi : Int} {zs : List Int} : rangeB lo hi zs = true ↔ ∀ z ∈ zs, inB z lo hi = true := by simp [rangeB]
theorem nth_mem {zs : List Int} {k : Nat} (hk : k < zs.length) : nth zs k ∈ zs := by rw [nth_get hk]; exact List.getElem_mem _
theorem rangeB_bad {lo hi : Int} {zs : List Int} {k : Nat} (hk : k < zs.length) (h : inB (nth zs k) lo hi = false) : rangeB lo hi zs = false := by
  cases hp : rangeB lo hi zs with
  | false => rfl
  | true => rw [rangeB_true.1 hp _ (nth_mem hk)] at h; cases h
theorem rangeB_at {lo hi : Int} {zs : List Int} {k : Nat} (h : rangeB lo hi zs = true) (hk : k < zs.length) : lo ≤ nth zs k ∧ nth zs k ≤ hi := inB_true (rangeB_true.1 h _ (nth_mem hk))
theorem rangeB_allT {lo hi : Int} {zs : List Int} (h : ∀ z ∈ zs.take zs.length, inB z lo hi = true) : rangeB lo hi zs = true := by
  rw [List.take_of_length_le (Nat.le_refl _)] at h; exact rangeB_true.2 h
def linksB (pl ps : List Int) : Bool := decide ((1 ≤ pl.length ∧ pl.length ≤ 10) ∧ ps.length = pl.length + 1)
theorem linksB_true {pl ps : List Int} (h : linksB pl ps = true) : (1 ≤ pl.length ∧ pl.length ≤ 10) ∧ ps.length = pl.length + 1 := by simpa [linksB] using h
theorem linksB_false {pl ps : List Int} (h : linksB pl ps = false) : (pl.length < 1 ∨ 10 < pl.length) ∨ ((1 ≤ pl.length ∧ pl.length ≤ 10) ∧ ps.length ≠ pl.length + 1) := by simp [linksB] at h; omega
/-- A chain. -/
def chainB (pl ps : List Int) : Bool := linksB pl ps && (rangeB 0 100 pl && (rangeB (-1000000) 1000000 ps && joinedTo pl ps pl.length))
structure ChainOf (pl ps : List Int) : Prop where
  n0 : 1 ≤ pl.length
  n1 : pl.length ≤ 10
  ln : ps.length = pl.length + 1
  play : ∀ k, k < pl.length → 0 ≤ nth pl k ∧ nth pl k ≤ 100
  place : ∀ k, k < ps.length → -1000000 ≤ nth ps k ∧ nth ps k ≤ 1000000
  join : ∀ k, k < pl.length → nth ps (k + 1) - nth ps k ≤ nth pl k ∧ nth ps k - nth ps (k + 1) ≤ nth pl k
theorem chain_of {pl ps : List Int} (h : chainB pl ps = true) : ChainOf pl ps := by
  simp only [chainB, Bool.and_eq_true] at h
  obtain ⟨h1, h2, h3, h4⟩ := h
  have := linksB_true h1
  exact ⟨this.1.1, this.1.2, this.2, fun k hk => rangeB_at h2 hk, fun k hk => rangeB_at h3 hk, fun k hk => by simpa [joinedAt] using joinedTo_all.1 h4 k hk⟩
/-- Equal chains (a word that the walk does not open). -/
def chEqB (p p' q q' : List Int) : Bool := decide (p = p' ∧ q = q')
theorem chEqB_self (p q : List Int) : chEqB p p q q = true := by simp [chEqB]

/-- Where place k goes if the first one moves. -/
def mvF (pl ps : List Int) (tgt : Int) : Nat → Int
  | 0 => tgt
  | k + 1 => min (max (nth ps (k + 1)) (mvF pl ps tgt k - nth pl k)) (mvF pl ps tgt k + nth pl k)
theorem mvF_bd {pl ps : List Int} (h : ChainOf pl ps) {tgt : Int} (h0 : -1000000 ≤ tgt) (h1 : tgt ≤ 1000000) : ∀ k, k ≤ pl.length → -1001000 ≤ mvF pl ps tgt k ∧ mvF pl ps tgt k ≤ 1001000
  | 0, _ => by simp only [mvF]; omega
  | k + 1, hk => by
    have b := mvF_in h h0 h1 (k + 1) hk
    have := h.n1
    have : ((k + 1 : Nat) : Int) ≤ 10 := by omega
    omega
where mvF_in {pl ps : List Int} (h : ChainOf pl ps) {tgt : Int} (h0 : -1000000 ≤ tgt) (h1 : tgt ≤ 1000000) : ∀ k, k ≤ pl.length → -1000000 - 100 * (k : Int) ≤ mvF pl ps tgt k ∧ mvF pl ps tgt k ≤ 1000000 + 100 * (k : Int)
  | 0, _ => by simp only [mvF]; omega
  | k + 1, hk => by
    have b := mvF_in h h0 h1 k (by omega)
    have p := h.play k (by omega)
    have q := h.place (k + 1) (by have := h.ln; omega)
    simp only [mvF]; omega
def mvL (pl ps : List Int) (tgt : Int) : List Int := tab (mvF pl ps tgt) (pl.length + 1)
def mvR (pl ps : List Int) (tgt : Int) : List Int × List Int × Int :=
  if chainB pl ps = true then (if inB tgt (-1000000) 1000000 = true then (pl, mvL pl ps tgt, 0) else ([], [], 2)) else ([], [], 1)
theorem mvR_bad {pl ps : List Int} {tgt : Int} (h : chainB pl ps = false) : mvR pl ps tgt = ([], [], 1) := by simp [mvR, h]
theorem mvR_range {pl ps : List Int} {tgt : Int} (h : chainB pl ps = true) (ht : inB tgt (-1000000) 1000000 = false) : mvR pl ps tgt = ([], [], 2) := by simp [mvR, h, ht]
theorem mvR_ok {pl ps : List Int} {tgt : Int} (h : chainB pl ps = true) (ht : inB tgt (-1000000) 1000000 = true) : mvR pl ps tgt = (pl, mvL pl ps tgt, 0) := by simp [mvR, h, ht]
/-- The sum of the first k. -/
def sumTo (zs : List Int) : Nat → Int
  | 0 => 0
  | k + 1 => sumTo zs k + nth zs k
theorem sumTo_bd {pl ps : List Int} (h : ChainOf pl ps) : ∀ k, k ≤ pl.length → 0 ≤ sumTo pl k ∧ sumTo pl k ≤ 100 * (k : Int)
  | 0, _ => by simp [sumTo]
  | k + 1, hk => by
    have := sumTo_bd h k (by omega)
    have := h.play k (by omega)
    simp only [sumTo]; omega
def totR (pl ps : List Int) : Int × Int := if chainB pl ps = true then (sumTo pl pl.length, 0) else (0, 1)
theorem totR_bad {pl ps : List Int} (h : chainB pl ps = false) : totR pl ps = (0, 1) := by simp [totR, h]
theorem totR_ok {pl ps : List Int} (h : chainB pl ps = true) : totR pl ps = (sumTo pl pl.length, 0) := by simp [totR, h]
def needTo (pl ps : List Int) (g : Int) : Int := if nth ps pl.length < g then g + sumTo pl pl.length else if g < nth ps pl.length then g - sumTo pl pl.length else nth ps 0
def needR (pl ps : List Int) (g : Int) : Int × Int :=
  if chainB pl ps = true then (if inB g (-1000000) 1000000 = true ∧ inB (needTo pl ps g) (-1000000) 1000000 = true then (needTo pl ps g, 0) else (0, 2)) else (0, 1)
theorem needR_bad {pl ps : List Int} {g : Int} (h : chainB pl ps = false) : needR pl ps g = (0, 1) := by simp [needR, h]
theorem needR_range {pl ps : List Int} {g : Int} (h : chainB pl ps = true) (ht : inB g (-1000000) 1000000 = false ∨ inB (needTo pl ps g) (-1000000) 1000000 = false) : needR pl ps g = (0, 2) := by
  rw [needR, if_pos h, if_neg]; rintro ⟨h1, h2⟩; rcases ht with h | h <;> simp_all
theorem needR_ok {pl ps : List Int} {g : Int} (h : chainB pl ps = true) (h1 : inB g (-1000000) 1000000 = true) (h2 : inB (needTo pl ps g) (-1000000) 1000000 = true) : needR pl ps g = (needTo pl ps g, 0) := by
  rw [needR, if_pos h, if_pos ⟨h1, h2⟩]
theorem all_takeZ {zs : List Int} {p : Int → Prop} {k : Nat} (hk : k < zs.length) (h : ∀ d ∈ zs.take k, p d) (hn : p (nth zs k)) : ∀ d ∈ zs.take (k + 1), p d := by
  rw [List.take_succ_eq_append_getElem hk, ← nth_get hk]
  intro d hd
  rcases List.mem_append.1 hd with h1 | h1
  · exact h d h1
  · rw [List.mem_singleton] at h1; subst h1; exact hn
end Go.Proofs.Ytgfopieojpjddaa
