/-
  What is left of a bound (plain mathematics).
-/
namespace Go.Proofs.Ytgfopieojpjddaa

/-- What is left of a bound behind a slice of this length; less than 0 (-1) if it is passed. -/
def leftOf (n : Nat) (left : Int) : Int := if left - (n : Int) < 0 then -1 else left - (n : Int)
theorem leftOf_le (n : Nat) (left : Int) (h : 0 ≤ left) : leftOf n left ≤ left := by unfold leftOf; split <;> omega
theorem leftOf_len {n : Nat} {left : Int} (h : 0 ≤ leftOf n left) : (n : Int) ≤ left := by unfold leftOf at h; split at h <;> omega
end Go.Proofs.Ytgfopieojpjddaa
