/-
  Arrays of int64 by value; the digits of a value in such an array (plain mathematics).
-/
import Derived.Test.YtcfpfhlgcfmioaaApp
import Derived.Test.YtcfpfhlgcfmioaaDigs
import Derived.Laws.CopyOwn
namespace Go.Proofs.Ytcfpfhlgcfmioaa
open Go.RowKit

theorem run_index_arr {P : Program} {t e : TypeId} {n k : Nat} {cs : Array Value} {v : Value} (ht : P.underlying t = some (.array n e)) (he : P.underlying e = some (.int .i64)) (hinfo : (P.info? e).map (fun i => (i.zero, i.size, i.bytes)) = some (some (.int .i64 0), 1, 8)) (hk : k < n) (hv : cs[k]? = some v) (w : World) :
    (Instr.index t (.agg cs) (.int .i64 (k : Int))).run P w = .ok v w := by
  obtain ⟨i, hi1, hi2, hi3, hi4⟩ := info_parts hinfo
  have hlt : (k : Int) < (n : Int) := by omega
  have hagg : (isAgg e).run P w = .ok false w := by
    unfold isAgg
    rw [Sem.run_bind, run_underlying he w]
    simp
  simp [Instr.index, asIntOf, Sem.run_bind, run_underlying ht, part, hagg, sizeOf, typeInfo, hi1, hi3, hv]
  exact fun h => absurd h (by omega)

theorem digs_at (b : Int) : ∀ {n : Nat} {v : Int} {j : Nat}, j < n → nth (digsR b n v) j = leftR b j v % b
  | n + 1, v, 0, _ => by simp [nth, digsR, leftR]
  | n + 1, v, j + 1, h => by
    have := digs_at b (n := n) (v := v / b) (j := j) (by omega)
    simpa [nth, digsR, leftR] using this
theorem leftR_add (b : Int) : ∀ (n m : Nat) (v : Int), leftR b (n + m) v = leftR b m (leftR b n v)
  | 0, m, v => by simp [leftR]
  | n + 1, m, v => by rw [show n + 1 + m = (n + m) + 1 by omega, leftR, leftR_add b n m (v / b), leftR]
theorem leftR_zero (b : Int) : ∀ (n : Nat), leftR b n 0 = 0
  | 0 => rfl
  | n + 1 => by rw [leftR, Int.zero_ediv, leftR_zero b n]
theorem leftR_thirteen {v : Int} (v0 : 0 ≤ v) (v1 : v ≤ 1000000000000) : leftR 10 13 v = 0 := by
  simp only [leftR]
  omega
/-- Nothing is left behind n digits if all digits from n on are 0. -/
theorem leftR_of_digits {v : Int} (v0 : 0 ≤ v) (v1 : v ≤ 1000000000000) {n : Nat} (hn : n ≤ 13) (h : ∀ j, n ≤ j → j < 13 → nth (digsR 10 13 v) j = 0) : leftR 10 n v = 0 := by
  obtain ⟨m, hm⟩ : ∃ m, n + m = 13 := ⟨13 - n, by omega⟩
  induction m generalizing n with
  | zero => rw [show n = 13 by omega]; exact leftR_thirteen v0 v1
  | succ m ih =>
    have h1 := ih (n := n + 1) (by omega) (fun j h1 h2 => h j (by omega) h2) (by omega)
    have h2 := h n (Nat.le_refl _) (by omega)
    rw [digs_at 10 (by omega)] at h2
    rw [leftR_succ] at h1
    have h3 := (leftR_bd (by omega : (1 : Int) ≤ 10) n v v0 v1).1
    omega
theorem digit_of_left {v : Int} {n j : Nat} (h : leftR 10 n v = 0) (h1 : n ≤ j) (h2 : j < 13) : nth (digsR 10 13 v) j = 0 := by
  rw [digs_at 10 h2, show j = n + (j - n) by omega, leftR_add, h, leftR_zero]
  rfl
theorem list13 {α : Type} {D : List α} (h : D.length = 13) : ∃ d0 d1 d2 d3 d4 d5 d6 d7 d8 d9 d10 d11 d12, D = [d0, d1, d2, d3, d4, d5, d6, d7, d8, d9, d10, d11, d12] := by
  match D, h with
  | [d0, d1, d2, d3, d4, d5, d6, d7, d8, d9, d10, d11, d12], _ => exact ⟨d0, d1, d2, d3, d4, d5, d6, d7, d8, d9, d10, d11, d12, rfl⟩
theorem arr_put {xs : List Int} {n k : Nat} (hk : xs.length = k) (hn : k < n) (d : Int) : ((pad n xs).map (Value.int .i64)).toArray.setIfInBounds k (.int .i64 d) = ((pad n (xs ++ [d])).map (Value.int .i64)).toArray := by
  subst hk
  rw [List.setIfInBounds_toArray, ← List.map_set, pad_set hn]
end Go.Proofs.Ytcfpfhlgcfmioaa
