/-
  Plain mathematics of faults of levers: valid lists, their kinds, sums with them, registers that show them. No program.
-/
import Derived.Test.YtgfopieojpjddaaDoorAr
import Derived.Test.YtgfopieojpjddaaDoorInS
import Derived.Test.YtgfopieojpjddaaDoorFlat
namespace Go.Proofs.YtgfopieojpjddaaDoor

/-- The least lever that fault i of a list may name. -/
def nxtL (fs : List (Int × Int)) (i : Nat) : Int := if i = 0 then 0 else (elt pairF fs (i - 1)).2 + 1
def faultAt (n : Int) (fs : List (Int × Int)) (i : Nat) : Bool := inB (elt pairF fs i).1 1 3 && inB (elt pairF fs i).2 (nxtL fs i) (n - 1)
/-- Are the first j faults those of a list that is valid for the width n? -/
def faultsTo (n : Int) (fs : List (Int × Int)) : Nat → Bool
  | 0 => true
  | j + 1 => faultsTo n fs j && faultAt n fs j
def faultsB (n : Int) (fs : List (Int × Int)) : Bool := inB n 1 16 && faultsTo n fs fs.length
theorem nxtL_zero (fs : List (Int × Int)) : nxtL fs 0 = 0 := rfl
theorem nxtL_succ (fs : List (Int × Int)) (i : Nat) : nxtL fs (i + 1) = (elt pairF fs i).2 + 1 := by simp [nxtL]
theorem faultsTo_at {n : Int} {fs : List (Int × Int)} {j : Nat} (h : faultsTo n fs j = true) : ∀ i, i < j → faultAt n fs i = true := by
  induction j with
  | zero => intro i hi; omega
  | succ j ih =>
    intro i hi
    simp only [faultsTo, Bool.and_eq_true] at h
    rcases Nat.lt_or_ge i j with h1 | h1
    · exact ih h.1 i h1
    · obtain rfl : i = j := by omega
      exact h.2
theorem faultsTo_bad {n : Int} {fs : List (Int × Int)} {i j : Nat} (hi : i < j) (h : faultAt n fs i = false) : faultsTo n fs j = false := by
  cases hp : faultsTo n fs j with
  | false => rfl
  | true => rw [faultsTo_at hp i hi] at h; cases h
theorem faultsTo_succ {n : Int} {fs : List (Int × Int)} {j : Nat} (h : faultsTo n fs j = true) (h2 : faultAt n fs j = true) : faultsTo n fs (j + 1) = true := by simp [faultsTo, h, h2]
theorem faultsTo_le {n : Int} {fs : List (Int × Int)} {i j : Nat} (h : faultsTo n fs j = true) (hi : i ≤ j) : faultsTo n fs i = true := by
  induction j with
  | zero => obtain rfl : i = 0 := by omega
            exact h
  | succ j ih =>
    rcases Nat.lt_or_ge i (j + 1) with h1 | h1
    · simp only [faultsTo, Bool.and_eq_true] at h
      exact ih h.1 (by omega)
    · obtain rfl : i = j + 1 := by omega
      exact h
theorem faultAt_true {n : Int} {fs : List (Int × Int)} {i : Nat} (h : faultAt n fs i = true) : (1 ≤ (elt pairF fs i).1 ∧ (elt pairF fs i).1 ≤ 3) ∧ (nxtL fs i ≤ (elt pairF fs i).2 ∧ (elt pairF fs i).2 ≤ n - 1) := by
  simp only [faultAt, Bool.and_eq_true] at h
  exact ⟨inB_true h.1, inB_true h.2⟩
theorem nxtL_pos {n : Int} {fs : List (Int × Int)} {j : Nat} (h : faultsTo n fs j = true) : ∀ i, i ≤ j → 0 ≤ nxtL fs i := by
  intro i
  induction i with
  | zero => intro _; simp [nxtL]
  | succ i ih =>
    intro hi
    have h1 := ih (by omega)
    have h2 := faultAt_true (faultsTo_at h i (by omega))
    rw [nxtL_succ]; omega
theorem lever_bd {n : Int} {fs : List (Int × Int)} {j : Nat} (h : faultsTo n fs j = true) {i : Nat} (hi : i < j) : (1 ≤ (elt pairF fs i).1 ∧ (elt pairF fs i).1 ≤ 3) ∧ (0 ≤ (elt pairF fs i).2 ∧ (elt pairF fs i).2 ≤ n - 1) := by
  have h1 := faultAt_true (faultsTo_at h i hi)
  have h2 := nxtL_pos h i (by omega)
  omega
/-- What the model asks of fault j: its kind, its lever, that it lies above the one before. -/
def faultAsk (n : Int) (fs : List (Int × Int)) (j : Nat) : Bool := inB (elt pairF fs j).1 1 3 && inB (elt pairF fs j).2 0 (n - 1) && !(decide (0 < j) && decide ((elt pairF fs j).2 ≤ (elt pairF fs (j - 1)).2))
theorem faultAsk_is {n : Int} {fs : List (Int × Int)} {j : Nat} (h : faultsTo n fs j = true) : faultAsk n fs j = faultAt n fs j := by
  cases j with
  | zero => simp [faultAsk, faultAt, nxtL]
  | succ j =>
    have h1 := nxtL_pos h (j + 1) (Nat.le_refl _)
    rw [nxtL_succ] at h1
    rw [faultAsk, faultAt, nxtL_succ, Bool.and_assoc]
    congr 1
    simp only [inB, Nat.add_sub_cancel, Nat.zero_lt_succ, decide_true, Bool.true_and]
    rw [← decide_not, ← Bool.decide_and, decide_eq_decide]
    omega

/-- The kind of the fault of a lever among the first j faults; 0 for none. -/
def kindAt (fs : List (Int × Int)) : Nat → Int → Int
  | 0, _ => 0
  | j + 1, k => if k = (elt pairF fs j).2 then (elt pairF fs j).1 else kindAt fs j k
/-- The kinds of all levers. -/
def kds (fs : List (Int × Int)) (k : Nat) : Int := kindAt fs fs.length (k : Int)
theorem kindAt_bd {n : Int} {fs : List (Int × Int)} {j : Nat} (h : faultsTo n fs j = true) (k : Int) : 0 ≤ kindAt fs j k ∧ kindAt fs j k ≤ 3 := by
  induction j with
  | zero => simp [kindAt]
  | succ j ih =>
    have h1 := (lever_bd h (Nat.lt_succ_self j)).1
    simp only [faultsTo, Bool.and_eq_true] at h
    have h2 := ih h.1
    unfold kindAt
    split <;> omega
theorem kds_bd {n : Int} {fs : List (Int × Int)} (h : faultsB n fs = true) (k : Nat) : 0 ≤ kds fs k ∧ kds fs k ≤ 3 := by
  simp only [faultsB, Bool.and_eq_true] at h
  exact kindAt_bd h.2 _
theorem kind_set {n : Int} {fs : List (Int × Int)} {j m : Nat} (h : faultsTo n fs (j + 1) = true) (_ : n ≤ (m : Int)) :
    (tab (fun k : Nat => kindAt fs j (k : Int)) m).set (elt pairF fs j).2.toNat (elt pairF fs j).1 = tab (fun k : Nat => kindAt fs (j + 1) (k : Int)) m := by
  have h1 := (lever_bd h (Nat.lt_succ_self j)).2
  apply List.ext_getElem?
  intro i
  rw [List.getElem?_set]
  simp only [tab, List.length_map, List.length_range]
  by_cases hi : i < m
  · by_cases he : (elt pairF fs j).2.toNat = i
    · subst he
      have hm : ((elt pairF fs j).2.toNat : Int) = (elt pairF fs j).2 := by omega
      simp [hi, kindAt, hm]
    · have hm : ¬ ((i : Int) = (elt pairF fs j).2) := by omega
      simp [hi, he, kindAt, hm]
  · by_cases he : (elt pairF fs j).2.toNat = i
    · subst he; simp [hi]
    · simp [hi, he]

/-- The carry out of a digit with a kind of fault. -/
def lcar (b s c kd : Int) : Int := if kd = 1 then 0 else if kd = 3 ∧ s < b then 0 else if kd = 2 then 1 else if b ≤ s + c then 1 else 0
/-- The carry into digit k. -/
def lcK (b : Int) (xs ys : List Int) (kd : Nat → Int) : Nat → Int
  | 0 => 0
  | k + 1 => lcar b (nth xs k + nth ys k) (lcK b xs ys kd k) (kd k)
def levD (b : Int) (xs ys : List Int) (kd : Nat → Int) (k : Nat) : Int := (nth xs k + nth ys k + lcK b xs ys kd k) % b
theorem lcar_bd (b s c kd : Int) : 0 ≤ lcar b s c kd ∧ lcar b s c kd ≤ 1 := by
  unfold lcar; repeat (first | omega | split)
theorem lcK_bd (b : Int) (xs ys : List Int) (kd : Nat → Int) (k : Nat) : 0 ≤ lcK b xs ys kd k ∧ lcK b xs ys kd k ≤ 1 := by
  cases k with
  | zero => simp [lcK]
  | succ k => exact lcar_bd _ _ _ _
/-- What a machine with faults gives: base, digits, carry, code. -/
def awfR (b : Int) (xs : List Int) (d : Int) (ys : List Int) (fs : List (Int × Int)) : Int × List Int × Int × Int :=
  if twoE b xs d ys = 0 then
    (if faultsB (xs.length : Int) fs = true then
      (if okB b (tab (levD b xs ys (kds fs)) xs.length) = true then (b, tab (levD b xs ys (kds fs)) xs.length, lcK b xs ys (kds fs) xs.length, 0) else (0, [], 0, 5))
     else (0, [], 0, 8))
  else (0, [], 0, twoE b xs d ys)
/-- Do the two registers show the faults? -/
def shwB (b : Int) (xs : List Int) (d : Int) (ys : List Int) (fs : List (Int × Int)) : Bool :=
  decide ((awfR b xs d ys fs).2.2.2 = 0) && decide ((addR b xs d ys).2.2.2 = 0) && !(decide ((awfR b xs d ys fs).2.2.1 = (addR b xs d ys).2.2.1) && decide ((awfR b xs d ys fs).2.1 = (addR b xs d ys).2.1))
/-- The carry of a sum of two digits of a base. -/
theorem carry_div {b s c : Int} (hb : 2 ≤ b) (h0 : 0 ≤ s) (h1 : s ≤ 2 * (b - 1)) (c0 : 0 ≤ c) (c1 : c ≤ 1) : (s + c) / b = if b ≤ s + c then 1 else 0 := by
  split
  · rename_i h
    have e1 : (s + c) / b < 2 := Int.ediv_lt_of_lt_mul (by omega) (by omega)
    have e2 : 1 ≤ (s + c) / b := (Int.le_ediv_iff_mul_le (by omega)).2 (by omega)
    omega
  · exact Int.ediv_eq_zero_of_lt (by omega) (by omega)
theorem lcar_none {b s c : Int} (hb : 2 ≤ b) (h0 : 0 ≤ s) (h1 : s ≤ 2 * (b - 1)) (c0 : 0 ≤ c) (c1 : c ≤ 1) : lcar b s c 0 = (s + c) / b := by
  rw [carry_div hb h0 h1 c0 c1]; simp [lcar]
theorem lcar_missing (b s c : Int) : lcar b s c 1 = 0 := by simp [lcar]
theorem lcar_stuck (b s c : Int) : lcar b s c 2 = 1 := by simp [lcar]
theorem lcar_late {b s c : Int} (hb : 2 ≤ b) (h0 : 0 ≤ s) (h1 : s ≤ 2 * (b - 1)) (c0 : 0 ≤ c) : lcar b s c 3 = s / b := by
  have := carry_div (c := 0) hb h0 h1 (by omega) (by omega)
  rw [Int.add_zero] at this
  rw [this]
  unfold lcar
  rw [if_neg (by omega)]
  by_cases h : s < b
  · rw [if_pos ⟨rfl, h⟩, if_neg (by omega)]
  · rw [if_neg (by omega), if_neg (by omega), if_pos (by omega), if_pos (by omega)]
end Go.Proofs.YtgfopieojpjddaaDoor
