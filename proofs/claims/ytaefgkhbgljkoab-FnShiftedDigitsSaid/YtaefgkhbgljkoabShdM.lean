/-
  Drawn registers, digits that are moved to and fro: the maths.
-/
import Derived.Test.YtaefgkhbgljkoabAr
import Derived.Test.YtaefgkhbgljkoabDrawR
namespace Go.Proofs.Ytaefgkhbgljkoab
open Go.RowKit

theorem valR_12 {b : Int} (h0 : 0 ≤ b) (h1 : b ≤ 12) : ∀ {zs : List Int}, DigsOf b zs → 0 ≤ valR b zs ∧ valR b zs + 1 ≤ (12 ^ zs.length : Nat)
  | [], _ => by simp [valR]
  | d :: ds, h => by
    have hd := h d (by simp)
    have ih := valR_12 h0 h1 (zs := ds) fun x hx => h x (by simp [hx])
    have m1 : 0 ≤ b * valR b ds := Int.mul_nonneg h0 ih.1
    have m2 : b * valR b ds ≤ 12 * valR b ds := Int.mul_le_mul_of_nonneg_right h1 ih.1
    rw [List.length_cons, Nat.pow_succ]
    simp only [valR]
    omega
theorem pow12 {k : Nat} (h : k ≤ 7) : 12 ^ k ≤ 35831808 := by
  have := Nat.pow_le_pow_right (show 0 < 12 by omega) h
  omega
theorem okB_of {b : Int} {zs : List Int} (b0 : 2 ≤ b) (b1 : b ≤ 12) (n0 : 1 ≤ zs.length) (n1 : zs.length ≤ 7) (hd : DigsOf b zs) : okB b zs = true := by
  have hv := valR_12 (b := b) (by omega) b1 hd
  have hp := pow12 n1
  simp only [okB, Bool.and_eq_true, decide_eq_true_eq]
  refine ⟨⟨⟨?_, ?_⟩, ?_⟩, by omega⟩
  · simp [baseB]; omega
  · simp [widthB]; omega
  · simp only [digitsB, decide_eq_true_eq]; exact hd
theorem DrawnR.ok {b : Int} {xs : List Int} (h : DrawnR b xs 7) : okB b xs = true := okB_of h.b0 h.b1 h.n0 h.n1 h.digs
theorem twoE_drawn {b : Int} {xs ys : List Int} (h : DrawnR b xs 7) (hl : ys.length = xs.length) (hd : DigsOf b ys) : twoE b xs b ys = 0 := by
  have h1 := h.ok
  have h2 : okB b ys = true := okB_of h.b0 h.b1 (by rw [hl]; exact h.n0) (by rw [hl]; exact h.n1) hd
  unfold twoE
  rw [if_neg (by rw [h1, h2]; simp), if_pos ⟨rfl, hl.symm⟩]
theorem digs_nth {b : Int} {zs : List Int} (h : DigsOf b zs) {k : Nat} (hk : k < zs.length) : 0 ≤ nth zs k ∧ nth zs k < b := by
  rw [nth_get hk]; exact h _ (List.getElem_mem hk)
theorem digs_tab {b : Int} {f : Nat → Int} {n : Nat} (h : ∀ k, k < n → 0 ≤ f k ∧ f k < b) : DigsOf b (tab f n) := tab_mem h
theorem shD_in {b : Int} (b0 : 2 ≤ b) {xs : List Int} (h : DigsOf b xs) (m : Int) (k : Nat) : 0 ≤ shD xs m k ∧ shD xs m k < b := by
  unfold shD
  split
  · exact digs_nth h (by omega)
  · omega
theorem shR_drawn {b : Int} {xs : List Int} (b0 : 2 ≤ b) (b1 : b ≤ 12) (n0 : 1 ≤ xs.length) (n1 : xs.length ≤ 7) (hd : DigsOf b xs) {m : Int} (m0 : -7 ≤ m) (m1 : m ≤ 7) :
    DigsOf b (tab (shD xs m) xs.length) ∧ okB b (tab (shD xs m) xs.length) = true ∧ shR b xs m = (b, tab (shD xs m) xs.length, 0) := by
  have hd' : DigsOf b (tab (shD xs m) xs.length) := digs_tab fun k _ => shD_in b0 hd m k
  have ho : okB b (tab (shD xs m) xs.length) = true := okB_of b0 b1 (by rw [tab_len]; exact n0) (by rw [tab_len]; exact n1) hd'
  refine ⟨hd', ho, ?_⟩
  rw [shR, if_pos (okB_of b0 b1 n0 n1 hd), if_pos ⟨by omega, by omega⟩, finR, if_pos ho]
/-- Digits that are moved to and fro. -/
theorem shD_back {xs : List Int} {m : Int} (m0 : 0 ≤ m) {k : Nat} (hk : k < xs.length) : shD (tab (shD xs m) xs.length) (-m) k = if (xs.length : Int) ≤ (k : Int) + m then 0 else nth xs k := by
  unfold shD
  rw [tab_len]
  by_cases h : (xs.length : Int) ≤ (k : Int) + m
  · rw [if_pos h, if_neg (by omega)]
  · rw [if_neg h, if_pos (by omega), tab_nth (by omega), if_pos (by omega)]
    congr 1
    omega
theorem cK_step (b : Int) (xs ys : List Int) (k : Nat) : cK b xs ys (k + 1) = (nth xs k + nth ys k + cK b xs ys k) / b := rfl
theorem cK_test {b : Int} (hb : 2 ≤ b) {t : Int} (h0 : 0 ≤ t) (h1 : t < 2 * b) : (b ≤ t → t / b = 1) ∧ (t < b → t / b = 0) := by
  constructor
  · intro h
    have h2 : t / b < 2 := Int.ediv_lt_of_lt_mul (by omega) (by omega)
    have h3 : 1 ≤ t / b := Int.le_ediv_of_mul_le (by omega) (by omega)
    omega
  · intro h; exact Int.ediv_eq_zero_of_lt h0 h
end Go.Proofs.Ytaefgkhbgljkoab
