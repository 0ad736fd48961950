/-
  Plain mathematics of signals: of digits, joined, carries through them, groups, steps. No program.
-/
import Derived.Test.YtiogbpnnnpodkaaDoorAr
import Derived.Test.YtiogbpnnnpodkaaDoorInS
import Derived.Test.YtiogbpnnnpodkaaDoorSignalS
namespace Go.Proofs.YtiogbpnnnpodkaaDoor

/-- The signal of two digits. -/
def sg1 (B x y : Int) : Bool × Bool := (decide (B ≤ x + y), x + y == B - 1)
/-- The signals of the first k digits. -/
def sgK (B : Int) (xs ys : List Int) : Nat → List (Bool × Bool)
  | 0 => []
  | k + 1 => sgK B xs ys k ++ [sg1 B (nth xs k) (nth ys k)]
theorem sgK_len (B : Int) (xs ys : List Int) (k : Nat) : (sgK B xs ys k).length = k := by
  induction k with
  | zero => rfl
  | succ k ih => simp [sgK, ih]
def sgR (b : Int) (xs : List Int) (d : Int) (ys : List Int) : List (Bool × Bool) × Int := if twoE b xs d ys = 0 then (sgK b xs ys xs.length, 0) else ([], twoE b xs d ys)

/-- The signal of the digits of two signals, the lower one first. -/
def jn (l h : Bool × Bool) : Bool × Bool := (h.1 || (h.2 && l.1), h.2 && l.2)
theorem jn_assoc (x y z : Bool × Bool) : jn (jn x y) z = jn x (jn y z) := by
  obtain ⟨a, b⟩ := x; obtain ⟨c, d⟩ := y; obtain ⟨e, f⟩ := z
  cases a <;> cases b <;> cases c <;> cases d <;> cases e <;> cases f <;> rfl
theorem jn_none (x : Bool × Bool) : jn (false, true) x = x := by
  obtain ⟨a, b⟩ := x
  cases a <;> cases b <;> rfl
/-- The carry that leaves the digits of a signal. -/
def thr (s : Bool × Bool) (c : Int) : Int := if (s.1 || (s.2 && c == 1)) = true then 1 else 0
theorem thr_bd (s : Bool × Bool) (c : Int) : 0 ≤ thr s c ∧ thr s c ≤ 1 := by unfold thr; split <;> omega
theorem thr_jn (x y : Bool × Bool) (c : Int) : thr (jn x y) c = thr y (thr x c) := by
  obtain ⟨a, b⟩ := x; obtain ⟨d, e⟩ := y
  by_cases h : c = 1
  · subst h; cases a <;> cases b <;> cases d <;> cases e <;> rfl
  · have hc : (c == 1) = false := by simp [h]
    unfold thr jn
    cases a <;> cases b <;> cases d <;> cases e <;> simp [hc]
def ctR (s : Bool × Bool) (c : Int) : Int × Int := if inB c 0 1 = true then (thr s c, 0) else (0, 2)

/-- All signals joined from the first one on, what the first k give: none, one, two and so on. -/
def scn (xs : List (Bool × Bool)) : Nat → Bool × Bool
  | 0 => (false, true)
  | k + 1 => jn (scn xs k) (elt sigF xs k)
/-- The joined signals of the first 0 .. k - 1 digits. -/
def scL (xs : List (Bool × Bool)) : Nat → List (Bool × Bool)
  | 0 => []
  | k + 1 => scL xs k ++ [scn xs k]
theorem scL_len (xs : List (Bool × Bool)) (k : Nat) : (scL xs k).length = k := by
  induction k with
  | zero => rfl
  | succ k ih => simp [scL, ih]
theorem scL_at (xs : List (Bool × Bool)) {j k : Nat} (h : j < k) : elt sigF (scL xs k) j = scn xs j := by
  induction k with
  | zero => omega
  | succ k ih =>
    rw [scL]
    rcases Nat.lt_or_ge j k with h1 | h1
    · rw [elt_append_left (by rw [scL_len]; exact h1)]; exact ih h1
    · obtain rfl : j = k := by omega
      simp [elt, scL_len]
/-- The joined signals of the first one, the first two and so on: k of them. -/
def pfx (xs : List (Bool × Bool)) : Nat → List (Bool × Bool)
  | 0 => []
  | k + 1 => pfx xs k ++ [scn xs (k + 1)]
theorem pfx_len (xs : List (Bool × Bool)) (k : Nat) : (pfx xs k).length = k := by
  induction k with
  | zero => rfl
  | succ k ih => simp [pfx, ih]
theorem scL_cons (xs : List (Bool × Bool)) (k : Nat) : scL xs (k + 1) = (false, true) :: pfx xs k := by
  induction k with
  | zero => rfl
  | succ k ih => rw [scL, ih]; rfl
theorem pfx_at (xs : List (Bool × Bool)) {j k : Nat} (h : j < k) : elt sigF (pfx xs k) j = scn xs (j + 1) := by
  have := scL_at xs (j := j + 1) (k := k + 1) (by omega)
  rw [scL_cons] at this
  simpa [elt] using this
def pfR (xs : List (Bool × Bool)) : List (Bool × Bool) × Int := if inB (xs.length : Int) 1 16 = true then (pfx xs xs.length, 0) else ([], 2)

/-- The number of steps. -/
def dep (w s : Int) : Int := 2 * min w s + (w + s - 1) / s - 1
def depR (w s : Int) : Int × Int := if (inB w 1 16 && inB s 1 16) = true then (dep w s, 0) else (0, 2)
theorem dep_bd {w s : Int} (h1 : 1 ≤ w) (h2 : w ≤ 16) (h3 : 1 ≤ s) (h4 : s ≤ 16) : 0 ≤ (w + s - 1) / s ∧ (w + s - 1) / s ≤ 31 := by
  refine ⟨Int.ediv_nonneg (by omega) (by omega), ?_⟩
  have := Int.ediv_le_self (a := w + s - 1) s (by omega)
  omega
/-- The best size among 1 .. s. -/
def bst (w : Int) : Nat → Int
  | 0 => 1
  | 1 => 1
  | s + 2 => if dep w ((s : Int) + 2) < dep w (bst w (s + 1)) then (s : Int) + 2 else bst w (s + 1)
theorem bst_bd (w : Int) : ∀ s : Nat, 1 ≤ bst w s ∧ (s ≤ 16 → bst w s ≤ 16)
  | 0 => by simp [bst]
  | 1 => by simp [bst]
  | s + 2 => by
    have := bst_bd w (s + 1)
    simp only [bst]
    split <;> omega
theorem bst_step {w : Int} {s : Nat} (h : 1 ≤ s) : bst w (s + 1) = if dep w ((s : Int) + 1) < dep w (bst w s) then (s : Int) + 1 else bst w s := by
  obtain ⟨k, rfl⟩ : ∃ k, s = k + 1 := ⟨s - 1, by omega⟩
  simp only [bst, show ((k + 1 : Nat) : Int) + 1 = (k : Int) + 2 by omega]
theorem bst_all : ∀ n : Nat, n < 17 → bst (n : Int) n = bst (n : Int) 16 := by decide +kernel
theorem bst_wide {w : Int} (h1 : 1 ≤ w) (h2 : w ≤ 16) : bst w w.toNat = bst w 16 := by
  have := bst_all w.toNat (by omega)
  rwa [show ((w.toNat : Nat) : Int) = w by omega] at this
def bgR (w : Int) : Int × Int × Int := if inB w 1 16 = true then (bst w 16, dep w (bst w 16), 0) else (0, 0, 2)

/-- The signs of signals. -/
def sgn (s : Bool × Bool) : UInt8 := if s.1 = true then 109 else if s.2 = true then 112 else 45
def sgT (xs : List (Bool × Bool)) : ByteArray := ⟨(xs.map sgn).toArray⟩
end Go.Proofs.YtiogbpnnnpodkaaDoor
