/-
  The maths of DrumLines.
-/
import Derived.Test.YtkhfbhphmdcelaaDrumM
namespace Go.Proofs.Ytkhfbhphmdcelaa

/-- A step at the time t. -/
def setP (l : List UInt8) (t : Int) : List UInt8 := l.set (t - 1).toNat 35
/-- A line with steps at these times. -/
def lineL (N : Nat) (ts : List Int) : List UInt8 := ts.foldl setP (List.replicate N 46)
theorem lineL_nil (N : Nat) : lineL N [] = List.replicate N 46 := rfl
theorem lineL_snoc (N : Nat) (ts : List Int) (t : Int) : lineL N (ts ++ [t]) = setP (lineL N ts) t := by simp [lineL]
theorem setP_len (l : List UInt8) (t : Int) : (setP l t).length = l.length := by simp [setP]
theorem lineL_len (N : Nat) (ts : List Int) : (lineL N ts).length = N := by
  have : ∀ l : List UInt8, (ts.foldl setP l).length = l.length := by
    induction ts with
    | nil => intro l; rfl
    | cons t ts ih => intro l; rw [List.foldl_cons, ih, setP_len]
  rw [lineL, this, List.length_replicate]
/-- The line of the digit d. -/
def lineB (K B T F d : Int) : ByteArray := ⟨(lineL T.toNat (tms K B T F d)).toArray⟩
/-- The first n lines. -/
def linesN (K B T F : Int) (n : Nat) : List ByteArray := (List.range n).map fun d : Nat => lineB K B T F (d : Int)
theorem linesN_len (K B T F : Int) (n : Nat) : (linesN K B T F n).length = n := by simp [linesN]
theorem linesN_succ (K B T F : Int) (n : Nat) : linesN K B T F (n + 1) = linesN K B T F n ++ [lineB K B T F (n : Int)] := by simp [linesN, List.range_succ]
/-- DrumLines. -/
def linesR (K B T F : Int) : List ByteArray × Int := if drumB K B T F = true then (linesN K B T F B.toNat, 0) else ([], 1)
/-- A line that is half filled. -/
def fillL (N k : Nat) : List UInt8 := List.replicate k 46 ++ List.replicate (N - k) 0
theorem fillL_len {N k : Nat} (h : k ≤ N) : (fillL N k).length = N := by simp [fillL]; omega
theorem fillL_zero (N : Nat) : fillL N 0 = List.replicate N 0 := by simp [fillL]
theorem fillL_all (N : Nat) : fillL N N = List.replicate N 46 := by simp [fillL]
theorem fillL_set {N k : Nat} (h : k < N) : (fillL N k).set k 46 = fillL N (k + 1) := by
  unfold fillL
  have e : N - k = (N - (k + 1)) + 1 := by omega
  rw [List.set_append_right _ _ (by simp), List.length_replicate, Nat.sub_self, e, List.replicate_succ, List.set_cons_zero, List.replicate_succ' (n := k), List.append_assoc, List.singleton_append]

theorem take_snocD {xs : List Int} {k : Nat} (h : k < xs.length) : xs.take (k + 1) = xs.take k ++ [nth xs k] := by
  rw [List.take_succ_eq_append_getElem h, nth_get h]
end Go.Proofs.Ytkhfbhphmdcelaa
