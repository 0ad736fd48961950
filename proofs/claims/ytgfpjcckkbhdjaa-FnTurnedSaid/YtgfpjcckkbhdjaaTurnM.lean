/-
  The maths of TurnDrums.
-/
import Derived.Test.YtgfpjcckkbhdjaaDrumM
import Derived.Test.YtgfpjcckkbhdjaaRegC
namespace Go.Proofs.Ytgfpjcckkbhdjaa

/-- The digits of the wheels behind a part of a turn. -/
def turnD (K B T F : Int) (xs ys : List Int) (t : Int) (k : Nat) : Int := (nth xs k + byR K B T F (nth ys k) t) % B
/-- TurnDrums. -/
def turnR (K B T F b : Int) (xs : List Int) (d : Int) (ys : List Int) (t : Int) : Int × List Int × Int :=
  if drumB K B T F = true then (if twoE b xs d ys = 0 then (if b = B then (if inB t 0 100000 = true then finR B (tab (turnD K B T F xs ys t) xs.length) else (0, [], 2)) else (0, [], 6)) else (0, [], twoE b xs d ys)) else (0, [], 1)
section
variable {K B T F b d t : Int} {xs ys : List Int}
theorem turn_bad (h : drumB K B T F = false) : turnR K B T F b xs d ys t = (0, [], 1) := by simp [turnR, h]
theorem turn_two (h : drumB K B T F = true) (h2 : ¬ twoE b xs d ys = 0) : turnR K B T F b xs d ys t = (0, [], twoE b xs d ys) := by rw [turnR, if_pos h, if_neg h2]
theorem turn_state (h : drumB K B T F = true) (h2 : twoE b xs d ys = 0) (h3 : ¬ b = B) : turnR K B T F b xs d ys t = (0, [], 6) := by rw [turnR, if_pos h, if_pos h2, if_neg h3]
theorem turn_time (h : drumB K B T F = true) (h2 : twoE b xs d ys = 0) (h3 : b = B) (h4 : inB t 0 100000 = false) : turnR K B T F b xs d ys t = (0, [], 2) := by rw [turnR, if_pos h, if_pos h2, if_pos h3, h4]; rfl
theorem turn_fin (h : drumB K B T F = true) (h2 : twoE b xs d ys = 0) (h3 : b = B) (h4 : inB t 0 100000 = true) : turnR K B T F b xs d ys t = finR B (tab (turnD K B T F xs ys t) xs.length) := by rw [turnR, if_pos h, if_pos h2, if_pos h3, if_pos h4]
theorem turn64 {n : Nat} (hB : 2 ≤ B) (hB2 : B ≤ 16) : All64 (tab (turnD K B T F xs ys t) n) := by
  intro z hz
  obtain ⟨k, _, rfl⟩ := List.mem_map.1 hz
  have h1 := Int.emod_nonneg (nth xs k + byR K B T F (nth ys k) t) (show B ≠ 0 by omega)
  have h2 := Int.emod_lt_of_pos (nth xs k + byR K B T F (nth ys k) t) (show 0 < B by omega)
  exact i64_of (by unfold turnD; omega) (by unfold turnD; omega)
theorem turnD_bd (hB : 2 ≤ B) (k : Nat) : 0 ≤ turnD K B T F xs ys t k ∧ turnD K B T F xs ys t k < B := ⟨Int.emod_nonneg _ (by omega), Int.emod_lt_of_pos _ (by omega)⟩
end
end Go.Proofs.Ytgfpjcckkbhdjaa
