/-
  Plain mathematics of digits: no program.
-/
namespace Go.Proofs.YtlahobdopmdfmaaDoor

/-- The n lowest digits of v in base b, the lowest one first. -/
def digsR (b : Int) : Nat → Int → List Int
  | 0, _ => []
  | n + 1, v => (v % b) :: digsR b n (v / b)
/-- What is left of v behind them. -/
def leftR (b : Int) : Nat → Int → Int
  | 0, v => v
  | n + 1, v => leftR b n (v / b)

theorem digsR_succ (b : Int) : ∀ (n : Nat) (v : Int), digsR b (n + 1) v = digsR b n v ++ [leftR b n v % b]
  | 0, v => rfl
  | n + 1, v => by rw [digsR, digsR_succ b n (v / b), digsR, leftR]; rfl
theorem leftR_succ (b : Int) : ∀ (n : Nat) (v : Int), leftR b (n + 1) v = leftR b n v / b
  | 0, v => rfl
  | n + 1, v => by rw [leftR, leftR_succ b n (v / b), leftR]
theorem digsR_len (b : Int) : ∀ (n : Nat) (v : Int), (digsR b n v).length = n
  | 0, _ => rfl
  | n + 1, v => by rw [digsR, List.length_cons, digsR_len b n]
theorem leftR_bd {b : Int} (hb : 1 ≤ b) {m : Int} : ∀ (n : Nat) (v : Int), 0 ≤ v → v ≤ m → 0 ≤ leftR b n v ∧ leftR b n v ≤ m
  | 0, v, h0, h1 => ⟨h0, h1⟩
  | n + 1, v, h0, h1 => leftR_bd hb n (v / b) (Int.ediv_nonneg h0 (by omega)) (Int.le_trans (Int.ediv_le_self b h0) h1)
theorem digsR_bd {b : Int} (hb : 1 ≤ b) : ∀ (n : Nat) (v : Int), ∀ d ∈ digsR b n v, 0 ≤ d ∧ d < b
  | 0, _, d, hd => by simp [digsR] at hd
  | n + 1, v, d, hd => by
    rw [digsR, List.mem_cons] at hd
    rcases hd with rfl | hd
    · exact ⟨Int.emod_nonneg _ (by omega), Int.emod_lt_of_pos _ (by omega)⟩
    · exact digsR_bd hb n _ d hd

/-- NewRegister: base, digits, code. -/
def nrR (b n v : Int) : Int × List Int × Int :=
  if 2 ≤ b ∧ b ≤ 16 ∧ 1 ≤ n ∧ n ≤ 16 ∧ 0 ≤ v ∧ v ≤ 1000000000000 then (if 0 < leftR b n.toNat v then (0, [], 5) else (b, digsR b n.toNat v, 0)) else (0, [], 2)
theorem nrR_bad {b n v : Int} (h : ¬ (2 ≤ b ∧ b ≤ 16 ∧ 1 ≤ n ∧ n ≤ 16 ∧ 0 ≤ v ∧ v ≤ 1000000000000)) : nrR b n v = (0, [], 2) := by rw [nrR, if_neg h]
theorem nrR_full {b v : Int} {n : Nat} (h : 2 ≤ b ∧ b ≤ 16 ∧ 1 ≤ n ∧ n ≤ 16 ∧ 0 ≤ v ∧ v ≤ 1000000000000) (hl : 0 < leftR b n v) : nrR b n v = (0, [], 5) := by
  rw [nrR, if_pos (by omega), Int.toNat_natCast, if_pos hl]
theorem nrR_ok {b v : Int} {n : Nat} (h : 2 ≤ b ∧ b ≤ 16 ∧ 1 ≤ n ∧ n ≤ 16 ∧ 0 ≤ v ∧ v ≤ 1000000000000) (hl : ¬ 0 < leftR b n v) : nrR b n v = (b, digsR b n v, 0) := by
  rw [nrR, if_pos (by omega), Int.toNat_natCast, if_neg hl]
end Go.Proofs.YtlahobdopmdfmaaDoor
