/-
  The maths of WorstRipple; what its calls leave.
-/
import Derived.Test.YtgfpjcckkbhdjaaEvM
import Derived.Test.YtgfpjcckkbhdjaaNewReg
import Derived.Test.YtgfpjcckkbhdjaaRegC
namespace Go.Proofs.Ytgfpjcckkbhdjaa
open Go.RowKit

def rep (n : Nat) (d : Int) : List Int := List.replicate n d
theorem rep_len (n : Nat) (d : Int) : (rep n d).length = n := by simp [rep]
theorem rep_succ (n : Nat) (d : Int) : rep (n + 1) d = rep n d ++ [d] := by simp [rep, List.replicate_succ']
theorem digs_zero (b : Int) : ∀ n, digsR b n 0 = rep n 0
  | 0 => rfl
  | n + 1 => by rw [digsR, Int.zero_emod, Int.zero_ediv, digs_zero b n]; rfl
theorem left_zero (b : Int) : ∀ n, leftR b n 0 = 0
  | 0 => rfl
  | n + 1 => by rw [leftR, Int.zero_ediv, left_zero b n]
theorem digs_one {b : Int} (hb : 2 ≤ b) {n : Nat} (hn : 1 ≤ n) : digsR b n 1 = 1 :: rep (n - 1) 0 := by
  obtain ⟨m, rfl⟩ : ∃ m, n = m + 1 := ⟨n - 1, by omega⟩
  rw [digsR, Int.emod_eq_of_lt (by omega) (by omega), Int.ediv_eq_zero_of_lt (by omega) (by omega), digs_zero]
  rfl
theorem left_one {b : Int} (hb : 2 ≤ b) {n : Nat} (hn : 1 ≤ n) : leftR b n 1 = 0 := by
  obtain ⟨m, rfl⟩ : ∃ m, n = m + 1 := ⟨n - 1, by omega⟩
  rw [leftR, Int.ediv_eq_zero_of_lt (by omega) (by omega), left_zero]
theorem val_zero (b : Int) : ∀ n, valR b (rep n 0) = 0
  | 0 => rfl
  | n + 1 => by show (0 : Int) + b * valR b (rep n 0) = 0; rw [val_zero b n]; simp
theorem ok_zero {b : Int} {n : Nat} (h1 : 2 ≤ b) (h2 : b ≤ 16) (h3 : 1 ≤ n) (h4 : n ≤ 16) : okB b (rep n 0) = true := by
  unfold okB
  rw [val_zero, rep_len]
  simp [baseB, widthB, digitsB, rep]
  omega
theorem nth_rep {n k : Nat} {d : Int} (h : k < n) : nth (rep n d) k = d := by rw [nth_get (by rw [rep_len]; exact h)]; simp [rep]
theorem cpl_zero (b : Int) (n : Nat) : tab (cplD b (rep n 0)) (rep n 0).length = rep n (b - 1) := by
  rw [rep_len]
  refine List.ext_getElem (by simp [tab, rep]) fun i h1 h2 => ?_
  have hi : i < n := by simpa [tab] using h1
  simp only [tab, List.getElem_map, List.getElem_range]
  unfold cplD
  rw [nth_rep hi]
  simp [rep]
theorem cplR_zero {b : Int} {n : Nat} (h1 : 2 ≤ b) (h2 : b ≤ 16) (h3 : 1 ≤ n) (h4 : n ≤ 16) : cplR b (rep n 0) = finR b (rep n (b - 1)) := by
  rw [cplR, if_pos (ok_zero h1 h2 h3 h4), cpl_zero]
theorem nr_zero {b : Int} {n : Nat} (h1 : 2 ≤ b) (h2 : b ≤ 16) (h3 : 1 ≤ n) (h4 : n ≤ 16) : nrR b n 0 = (b, rep n 0, 0) := by
  rw [nrR_ok (by omega) (by rw [left_zero]; omega), digs_zero]
theorem nr_one {b : Int} {n : Nat} (h1 : 2 ≤ b) (h2 : b ≤ 16) (h3 : 1 ≤ n) (h4 : n ≤ 16) : nrR b n 1 = (b, 1 :: rep (n - 1) 0, 0) := by
  rw [nrR_ok (by omega) (by rw [left_one h1 h3]; omega), digs_one h1 h3]
theorem wr_bad {b n : Int} (h : ¬ (2 ≤ b ∧ b ≤ 16 ∧ 1 ≤ n ∧ n ≤ 16)) : wrR b n = (0, [], 0, [], 2) := by rw [wrR, if_neg h]
theorem wr_full {b : Int} {n : Nat} (h : 2 ≤ b ∧ b ≤ 16 ∧ 1 ≤ (n : Int) ∧ (n : Int) ≤ 16) (hk : okB b (rep n (b - 1)) = false) : wrR b n = (0, [], 0, [], 5) := by
  rw [wrR, if_pos h, Int.toNat_natCast, if_neg (by show ¬ okB b (rep n (b - 1)) = true; rw [hk]; simp)]
theorem wr_ok {b : Int} {n : Nat} (h : 2 ≤ b ∧ b ≤ 16 ∧ 1 ≤ (n : Int) ∧ (n : Int) ≤ 16) (hk : okB b (rep n (b - 1)) = true) : wrR b n = (b, rep n (b - 1), b, 1 :: rep (n - 1) 0, 0) := by
  rw [wrR, if_pos h, Int.toNat_natCast]
  exact if_pos hk
theorem one_len {n : Nat} (h : 1 ≤ n) : (1 :: rep (n - 1) 0 : List Int).length = n := by simp [rep]; omega

/-- Two registers of its own, the first one's memory below the other's, and a code. -/
def TwoReg (R : Int × List Int × Int × List Int × Int) (w : World) (e : Ending) (w' : World) : Prop := ∃ (A : Option Addr) (C : Nat) (D : Option Addr) (E m : Nat),
  e = .returned (.tuple #[.agg #[.int .i64 R.1, .slice A R.2.1.length C], .agg #[.int .i64 R.2.2.1, .slice D R.2.2.2.1.length E], .int .i64 R.2.2.2.2]) ∧
  Own 2 w' w.heap.size m (.slice A R.2.1.length C) R.2.1 ∧ Own 2 w' m w'.heap.size (.slice D R.2.2.2.1.length E) R.2.2.2.1 ∧ w.heap.size ≤ m ∧ m ≤ w'.heap.size ∧ Below w.heap.size w w'
/-- The same, the other's below the first one's. -/
def TwoGer (R : Int × List Int × Int × List Int × Int) (w : World) (e : Ending) (w' : World) : Prop := ∃ (A : Option Addr) (C : Nat) (D : Option Addr) (E m : Nat),
  e = .returned (.tuple #[.agg #[.int .i64 R.1, .slice A R.2.1.length C], .agg #[.int .i64 R.2.2.1, .slice D R.2.2.2.1.length E], .int .i64 R.2.2.2.2]) ∧
  Own 2 w' m w'.heap.size (.slice A R.2.1.length C) R.2.1 ∧ Own 2 w' w.heap.size m (.slice D R.2.2.2.1.length E) R.2.2.2.1 ∧ w.heap.size ≤ m ∧ m ≤ w'.heap.size ∧ Below w.heap.size w w'
theorem twoReg_err {R : Int × List Int × Int × List Int × Int} {c : Int} {w w' : World} {e : Ending} (h : R = (0, [], 0, [], c)) (he : e = .returned (.tuple #[.agg #[.int .i64 0, .slice none 0 0], .agg #[.int .i64 0, .slice none 0 0], .int .i64 c])) (hb : Below w.heap.size w w') : TwoReg R w e w' := by
  subst h
  exact ⟨none, 0, none, 0, w.heap.size, he, own_nil _ _ _ _, own_nil _ _ _ _, Nat.le_refl _, hb.size, hb⟩
theorem twoGer_err {R : Int × List Int × Int × List Int × Int} {c : Int} {w w' : World} {e : Ending} (h : R = (0, [], 0, [], c)) (he : e = .returned (.tuple #[.agg #[.int .i64 0, .slice none 0 0], .agg #[.int .i64 0, .slice none 0 0], .int .i64 c])) (hb : Below w.heap.size w w') : TwoGer R w e w' := by
  subst h
  exact ⟨none, 0, none, 0, w.heap.size, he, own_nil _ _ _ _, own_nil _ _ _ _, Nat.le_refl _, hb.size, hb⟩
end Go.Proofs.Ytgfpjcckkbhdjaa
