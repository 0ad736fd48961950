/-
  Plain mathematics of sums, differences, complements, shifts of registers. No program.
-/
import Derived.Test.YtgfopieojpjddaaDoorVal
namespace Go.Proofs.YtgfopieojpjddaaDoor

/-- The carry into digit k of a sum. -/
def cK (b : Int) (xs ys : List Int) : Nat → Int
  | 0 => 0
  | k + 1 => (nth xs k + nth ys k + cK b xs ys k) / b
def sumD (b : Int) (xs ys : List Int) (k : Nat) : Int := (nth xs k + nth ys k + cK b xs ys k) % b
/-- The borrow into digit k of a difference. -/
def bK (b : Int) (xs ys : List Int) : Nat → Int
  | 0 => 0
  | k + 1 => if nth xs k - nth ys k - bK b xs ys k < 0 then 1 else 0
def subD (b : Int) (xs ys : List Int) (k : Nat) : Int :=
  if nth xs k - nth ys k - bK b xs ys k < 0 then nth xs k - nth ys k - bK b xs ys k + b else nth xs k - nth ys k - bK b xs ys k
def cplD (b : Int) (xs : List Int) (k : Nat) : Int := b - 1 - nth xs k
/-- Digit k of a register whose digits are moved by 'by'. -/
def shD (xs : List Int) (m : Int) (k : Nat) : Int := if 0 ≤ (k : Int) - m ∧ (k : Int) - m ≤ (xs.length : Int) - 1 then nth xs ((k : Int) - m).toNat else 0

theorem cK_bd {b : Int} (hb : 2 ≤ b) {xs ys : List Int} (hx : ∀ k, k < xs.length → 0 ≤ nth xs k ∧ nth xs k < b) (hy : ∀ k, k < xs.length → 0 ≤ nth ys k ∧ nth ys k < b) :
    ∀ k, k ≤ xs.length → 0 ≤ cK b xs ys k ∧ cK b xs ys k ≤ 1
  | 0, _ => by simp [cK]
  | k + 1, hk => by
    have h1 := hx k (by omega)
    have h2 := hy k (by omega)
    have h3 := cK_bd hb hx hy k (by omega)
    have e : cK b xs ys (k + 1) = (nth xs k + nth ys k + cK b xs ys k) / b := rfl
    rw [e]
    refine ⟨Int.ediv_nonneg (by omega) (by omega), ?_⟩
    have : (nth xs k + nth ys k + cK b xs ys k) / b < 2 := Int.ediv_lt_of_lt_mul (by omega) (by omega)
    omega
theorem bK_bd (b : Int) (xs ys : List Int) : ∀ k, 0 ≤ bK b xs ys k ∧ bK b xs ys k ≤ 1
  | 0 => by simp [bK]
  | k + 1 => by simp only [bK]; split <;> omega

/-- The code of two registers that are to be used together. -/
def twoE (b : Int) (xs : List Int) (d : Int) (ys : List Int) : Int :=
  if okB b xs = false ∨ okB d ys = false then 1 else if b = d ∧ xs.length = ys.length then 0 else 6
/-- What becomes of computed digits: base, digits, code. -/
def finR (b : Int) (zs : List Int) : Int × List Int × Int := if okB b zs = true then (b, zs, 0) else (0, [], 5)

def vofR (b : Int) (zs : List Int) : Int × Int := if okB b zs = true then (valR b zs, 0) else (0, 1)
def addR (b : Int) (xs : List Int) (d : Int) (ys : List Int) : Int × List Int × Int × Int :=
  if twoE b xs d ys = 0 then (if okB b (tab (sumD b xs ys) xs.length) = true then (b, tab (sumD b xs ys) xs.length, cK b xs ys xs.length, 0) else (0, [], 0, 5)) else (0, [], 0, twoE b xs d ys)
def subR (b : Int) (xs : List Int) (d : Int) (ys : List Int) : Int × List Int × Int × Int :=
  if twoE b xs d ys = 0 then (if okB b (tab (subD b xs ys) xs.length) = true then (b, tab (subD b xs ys) xs.length, bK b xs ys xs.length, 0) else (0, [], 0, 5)) else (0, [], 0, twoE b xs d ys)
def cplR (b : Int) (xs : List Int) : Int × List Int × Int := if okB b xs = true then finR b (tab (cplD b xs) xs.length) else (0, [], 1)
def carR (b : Int) (xs : List Int) (d : Int) (ys : List Int) : List Int × Int := if twoE b xs d ys = 0 then (tab (cK b xs ys) (xs.length + 1), 0) else ([], twoE b xs d ys)
def shR (b : Int) (xs : List Int) (m : Int) : Int × List Int × Int := if okB b xs = true then (if -16 ≤ m ∧ m ≤ 16 then finR b (tab (shD xs m) xs.length) else (0, [], 2)) else (0, [], 1)
def cmpR (b : Int) (xs : List Int) (d : Int) (ys : List Int) : Int × Int :=
  if twoE b xs d ys = 0 then (if valR b xs < valR d ys then -1 else if valR d ys < valR b xs then 1 else 0, 0) else (0, twoE b xs d ys)

theorem twoE_zero {b d : Int} {xs ys : List Int} (h : twoE b xs d ys = 0) : okB b xs = true ∧ okB d ys = true ∧ b = d ∧ xs.length = ys.length := by
  unfold twoE at h
  split at h
  · cases h
  · rename_i h1
    split at h
    · rename_i h2
      simp only [not_or, Bool.not_eq_false] at h1
      exact ⟨h1.1, h1.2, h2.1, h2.2⟩
    · cases h
theorem digit_of_ok {b : Int} {zs : List Int} (h : okB b zs = true) : ∀ k, k < zs.length → 0 ≤ nth zs k ∧ nth zs k < b := fun k hk => by
  rw [nth_get hk]; exact (okB_spec h).2.2.2.2.1 _ (List.getElem_mem hk)
end Go.Proofs.YtgfopieojpjddaaDoor
