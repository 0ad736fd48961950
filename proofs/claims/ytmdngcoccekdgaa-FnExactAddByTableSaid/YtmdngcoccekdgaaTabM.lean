/-
  Plain mathematics of tables of additions: the right one, what a table is, its first wrong row, sums by it. No program.
-/
import Derived.Test.YtmdngcoccekdgaaFlat5
import Derived.Test.YtmdngcoccekdgaaInS
import Derived.Test.YtmdngcoccekdgaaAr
namespace Go.Proofs.Ytmdngcoccekdgaa

abbrev Row5 := Int × Int × Int × Int × Int
/-- The right row for a carry and two digits. -/
def mkRow (m i a c : Nat) : Row5 := ((i : Int), (a : Int), (c : Int), (((i + a + c) % m : Nat) : Int), (((i + a + c) / m : Nat) : Int))
/-- The right row number k. -/
def rowN (m k : Nat) : Row5 := mkRow m (k / m / m) (k / m % m) (k % m)
/-- The first n right rows. -/
def tbl (m n : Nat) : List Row5 := (List.range n).map (rowN m)
theorem tbl_succ (m n : Nat) : tbl m (n + 1) = tbl m n ++ [rowN m n] := by simp [tbl, List.range_succ]
theorem tbl_len (m n : Nat) : (tbl m n).length = n := by simp [tbl]
theorem tbl_at {m n k : Nat} (h : k < n) : elt quinF (tbl m n) k = rowN m k := elt_range h
theorem idx_div {m i a c : Nat} (hc : c < m) : (i * m * m + a * m + c) / m = i * m + a := by
  have h : i * m * m + a * m + c = c + m * (i * m + a) := by rw [Nat.mul_add, Nat.mul_comm m (i * m), Nat.mul_comm m a]; omega
  rw [h, Nat.add_mul_div_left _ _ (by omega), Nat.div_eq_of_lt hc, Nat.zero_add]
theorem idx_mod {m i a c : Nat} (hc : c < m) : (i * m * m + a * m + c) % m = c := by
  have h : i * m * m + a * m + c = c + m * (i * m + a) := by rw [Nat.mul_add, Nat.mul_comm m (i * m), Nat.mul_comm m a]; omega
  rw [h, Nat.add_mul_mod_self_left, Nat.mod_eq_of_lt hc]
theorem idx_row {m i a c : Nat} (ha : a < m) (hc : c < m) : rowN m (i * m * m + a * m + c) = mkRow m i a c := by
  have h1 : (i * m + a) / m = i := by
    rw [Nat.add_comm, Nat.mul_comm, Nat.add_mul_div_left _ _ (by omega), Nat.div_eq_of_lt ha, Nat.zero_add]
  have h2 : (i * m + a) % m = a := by
    rw [Nat.add_comm, Nat.mul_comm, Nat.add_mul_mod_self_left, Nat.mod_eq_of_lt ha]
  unfold rowN
  rw [idx_div hc, idx_mod hc, h1, h2]
def rtR (b : Int) : List Row5 × Int := if baseB b = true then (tbl b.toNat (2 * b.toNat * b.toNat), 0) else ([], 2)

/-- Is row k of a list one that a table may have there? -/
def formAt (m : Nat) (rs : List Row5) (k : Nat) : Bool :=
  (decide ((elt quinF rs k).1 = (rowN m k).1) && decide ((elt quinF rs k).2.1 = (rowN m k).2.1) && decide ((elt quinF rs k).2.2.1 = (rowN m k).2.2.1)) && (inB (elt quinF rs k).2.2.2.1 0 ((m : Int) - 1) && inB (elt quinF rs k).2.2.2.2 0 1)
def formTo (m : Nat) (rs : List Row5) : Nat → Bool
  | 0 => true
  | k + 1 => formTo m rs k && formAt m rs k
def formB (m : Nat) (rs : List Row5) : Bool := decide (rs.length = 2 * m * m) && formTo m rs rs.length
theorem formTo_at {m : Nat} {rs : List Row5} {j : Nat} (h : formTo m rs j = true) : ∀ i, i < j → formAt m rs i = true := by
  induction j with
  | zero => intro i hi; omega
  | succ j ih =>
    intro i hi
    simp only [formTo, Bool.and_eq_true] at h
    rcases Nat.lt_or_ge i j with h1 | h1
    · exact ih h.1 i h1
    · obtain rfl : i = j := by omega
      exact h.2
theorem formTo_bad {m : Nat} {rs : List Row5} {i j : Nat} (hi : i < j) (h : formAt m rs i = false) : formTo m rs j = false := by
  cases hp : formTo m rs j with
  | false => rfl
  | true => rw [formTo_at hp i hi] at h; cases h
theorem formTo_succ {m : Nat} {rs : List Row5} {j : Nat} (h : formTo m rs j = true) (h2 : formAt m rs j = true) : formTo m rs (j + 1) = true := by simp [formTo, h, h2]
theorem formB_len {m : Nat} {rs : List Row5} (h : ¬ rs.length = 2 * m * m) : formB m rs = false := by simp [formB, h]
theorem formB_bad {m : Nat} {rs : List Row5} {i : Nat} (hi : i < rs.length) (h : formAt m rs i = false) : formB m rs = false := by simp [formB, formTo_bad hi h]
theorem formB_all {m : Nat} {rs : List Row5} (h : rs.length = 2 * m * m) (h2 : formTo m rs rs.length = true) : formB m rs = true := by simp [formB, h2]; exact h
/-- The first wrong one of the first k rows; -1 if there is none. -/
def wrongTo (m : Nat) (rs : List Row5) : Nat → Int
  | 0 => -1
  | k + 1 => if wrongTo m rs k = -1 ∧ elt quinF rs k ≠ rowN m k then (k : Int) else wrongTo m rs k
theorem wrongTo_bd (m : Nat) (rs : List Row5) (k : Nat) : -1 ≤ wrongTo m rs k ∧ wrongTo m rs k < (k : Int) := by
  induction k with
  | zero => simp [wrongTo]
  | succ k ih => unfold wrongTo; split <;> omega
theorem wrongTo_stays {m : Nat} {rs : List Row5} {j : Nat} (h : wrongTo m rs j ≠ -1) : ∀ d, wrongTo m rs (j + d) = wrongTo m rs j := by
  intro d
  induction d with
  | zero => rfl
  | succ d ih =>
    rw [← Nat.add_assoc, wrongTo, if_neg (by rw [ih]; exact fun hh => h hh.1), ih]
theorem wrongTo_first {m : Nat} {rs : List Row5} {j : Nat} (h : wrongTo m rs j = -1) (h2 : elt quinF rs j ≠ rowN m j) {n : Nat} (hn : j < n) : wrongTo m rs n = (j : Int) := by
  obtain ⟨d, rfl⟩ : ∃ d, n = (j + 1) + d := ⟨n - (j + 1), by omega⟩
  have e : wrongTo m rs (j + 1) = (j : Int) := by unfold wrongTo; rw [if_pos ⟨h, h2⟩]
  rw [wrongTo_stays (by rw [e]; omega), e]
theorem wrongTo_same {m : Nat} {rs : List Row5} {j : Nat} (h2 : elt quinF rs j = rowN m j) : wrongTo m rs (j + 1) = wrongTo m rs j := by
  unfold wrongTo; rw [if_neg (fun hh => hh.2 h2)]; cases j <;> rfl
def tfR (b : Int) (rs : List Row5) : Int × Int := if baseB b = true then (if formB b.toNat rs = true then (wrongTo b.toNat rs rs.length, 0) else (0, 8)) else (0, 2)
def twR (b : Int) (rs : List Row5) : Int × List Int × Int × List Int × Int :=
  if (tfR b rs).2 = 0 then
    (if (tfR b rs).1 < 0 then (0, [], 0, [], 3)
     else if (elt quinF rs (tfR b rs).1.toNat).1 = 1 then (b, [b - 1, (elt quinF rs (tfR b rs).1.toNat).2.1], b, [1, (elt quinF rs (tfR b rs).1.toNat).2.2.1], 0)
     else (b, [(elt quinF rs (tfR b rs).1.toNat).2.1], b, [(elt quinF rs (tfR b rs).1.toNat).2.2.1], 0))
  else (0, [], 0, [], (tfR b rs).2)

/-- The row of a table for a carry and two digits. -/
def rowFor (b : Int) (rs : List Row5) (c x y : Int) : Row5 := elt quinF rs ((c * b + x) * b + y).toNat
/-- The carries and the digits by a table. -/
def tabC (b : Int) (rs : List Row5) (xs ys : List Int) : Nat → Int
  | 0 => 0
  | k + 1 => (rowFor b rs (tabC b rs xs ys k) (nth xs k) (nth ys k)).2.2.2.2
def tabD (b : Int) (rs : List Row5) (xs ys : List Int) (k : Nat) : Int := (rowFor b rs (tabC b rs xs ys k) (nth xs k) (nth ys k)).2.2.2.1
structure TabOk (b : Int) (rs : List Row5) : Prop where
  b1 : 2 ≤ b
  b2 : b ≤ 16
  form : formB b.toNat rs = true
theorem TabOk.len {b : Int} {rs : List Row5} (h : TabOk b rs) : rs.length = 2 * b.toNat * b.toNat := by have := h.form; simp only [formB, Bool.and_eq_true, decide_eq_true_eq] at this; exact this.1
theorem TabOk.at_ {b : Int} {rs : List Row5} (h : TabOk b rs) {k : Nat} (hk : k < rs.length) : formAt b.toNat rs k = true := by have := h.form; simp only [formB, Bool.and_eq_true, decide_eq_true_eq] at this; exact formTo_at this.2 k hk
/-- Where the row for a carry and two digits lies. -/
theorem row_idx {b c x y : Int} (b1 : 2 ≤ b) (hc : 0 ≤ c ∧ c ≤ 1) (hx : 0 ≤ x ∧ x < b) (hy : 0 ≤ y ∧ y < b) :
    ((c * b + x) * b + y).toNat = c.toNat * b.toNat * b.toNat + x.toNat * b.toNat + y.toNat ∧ ((c * b + x) * b + y).toNat < 2 * b.toNat * b.toNat := by
  obtain ⟨m, rfl⟩ : ∃ m : Nat, b = m := ⟨b.toNat, by omega⟩
  obtain ⟨i, rfl⟩ : ∃ i : Nat, c = i := ⟨c.toNat, by omega⟩
  obtain ⟨p, rfl⟩ : ∃ p : Nat, x = p := ⟨x.toNat, by omega⟩
  obtain ⟨q, rfl⟩ : ∃ q : Nat, y = q := ⟨y.toNat, by omega⟩
  have e : (((i : Int) * m + p) * m + q) = ((i * m * m + p * m + q : Nat) : Int) := by
    rw [Int.add_mul]; simp
  rw [e]
  simp only [Int.toNat_natCast]
  refine ⟨trivial, ?_⟩
  have h1 : i * m * m + p * m + q < i * m * m + (p + 1) * m := by rw [Nat.add_mul]; omega
  have h2 : i * m * m + (p + 1) * m ≤ i * m * m + m * m := Nat.add_le_add_left (Nat.mul_le_mul_right m (by omega)) _
  have h3 : i * m * m + m * m = (i + 1) * m * m := by rw [Nat.add_mul, Nat.add_mul, Nat.one_mul]
  have h4 : (i + 1) * m * m ≤ 2 * m * m := Nat.mul_le_mul_right m (Nat.mul_le_mul_right m (by omega))
  omega
theorem formAt_row {m : Nat} {rs : List Row5} {k : Nat} (h : formAt m rs k = true) : (elt quinF rs k).1 = (rowN m k).1 ∧ (elt quinF rs k).2.1 = (rowN m k).2.1 ∧ (elt quinF rs k).2.2.1 = (rowN m k).2.2.1 ∧
    (0 ≤ (elt quinF rs k).2.2.2.1 ∧ (elt quinF rs k).2.2.2.1 ≤ (m : Int) - 1) ∧ (0 ≤ (elt quinF rs k).2.2.2.2 ∧ (elt quinF rs k).2.2.2.2 ≤ 1) := by
  simp only [formAt, Bool.and_eq_true, decide_eq_true_eq] at h
  exact ⟨h.1.1.1, h.1.1.2, h.1.2, inB_true h.2.1, inB_true h.2.2⟩
/-- What stands in the row for a carry and two digits. -/
theorem rowFor_is {b : Int} {rs : List Row5} (h : TabOk b rs) {c x y : Int} (hc : 0 ≤ c ∧ c ≤ 1) (hx : 0 ≤ x ∧ x < b) (hy : 0 ≤ y ∧ y < b) :
    (rowFor b rs c x y).1 = c ∧ (rowFor b rs c x y).2.1 = x ∧ (rowFor b rs c x y).2.2.1 = y ∧ (0 ≤ (rowFor b rs c x y).2.2.2.1 ∧ (rowFor b rs c x y).2.2.2.1 < b) ∧ (0 ≤ (rowFor b rs c x y).2.2.2.2 ∧ (rowFor b rs c x y).2.2.2.2 ≤ 1) := by
  have h1 := h.b1
  obtain ⟨e, hl⟩ := row_idx h.b1 hc hx hy
  obtain ⟨r1, r2, r3, r4, r5⟩ := formAt_row (h.at_ (by rw [h.len]; exact hl))
  unfold rowFor
  have hr : rowN b.toNat ((c * b + x) * b + y).toNat = mkRow b.toNat c.toNat x.toNat y.toNat := by rw [e]; exact idx_row (by omega) (by omega)
  rw [hr] at r1 r2 r3
  refine ⟨r1.trans ?_, r2.trans ?_, r3.trans ?_, ⟨r4.1, by omega⟩, r5⟩
  · simp only [mkRow]; omega
  · simp only [mkRow]; omega
  · simp only [mkRow]; omega
theorem tabC_bd {b : Int} {rs : List Row5} {xs ys : List Int} (h : TabOk b rs) (hx : ∀ k, k < xs.length → 0 ≤ nth xs k ∧ nth xs k < b) (hy : ∀ k, k < xs.length → 0 ≤ nth ys k ∧ nth ys k < b) :
    ∀ k, k ≤ xs.length → 0 ≤ tabC b rs xs ys k ∧ tabC b rs xs ys k ≤ 1
  | 0, _ => by simp [tabC]
  | k + 1, hk => (rowFor_is h (tabC_bd h hx hy k (by omega)) (hx k (by omega)) (hy k (by omega))).2.2.2.2
theorem tabD_bd {b : Int} {rs : List Row5} {xs ys : List Int} (h : TabOk b rs) (hx : ∀ k, k < xs.length → 0 ≤ nth xs k ∧ nth xs k < b) (hy : ∀ k, k < xs.length → 0 ≤ nth ys k ∧ nth ys k < b) (k : Nat) (hk : k < xs.length) :
    0 ≤ tabD b rs xs ys k ∧ tabD b rs xs ys k < b := (rowFor_is h (tabC_bd h hx hy k (by omega)) (hx k hk) (hy k hk)).2.2.2.1
def abtR (rs : List Row5) (b : Int) (xs : List Int) (d : Int) (ys : List Int) : Int × List Int × Int × Int :=
  if twoE b xs d ys = 0 then
    (if formB b.toNat rs = true then (if okB b (tab (tabD b rs xs ys) xs.length) = true then (b, tab (tabD b rs xs ys) xs.length, tabC b rs xs ys xs.length, 0) else (0, [], 0, 5)) else (0, [], 0, 8))
  else (0, [], 0, twoE b xs d ys)
end Go.Proofs.Ytmdngcoccekdgaa
