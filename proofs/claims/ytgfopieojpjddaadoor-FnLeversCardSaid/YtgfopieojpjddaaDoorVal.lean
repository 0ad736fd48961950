/-
  Plain mathematics of registers: values, validity. No program.
-/
import Derived.Test.YtgfopieojpjddaaDoorBase
namespace Go.Proofs.YtgfopieojpjddaaDoor

/-- The value of digits, the lowest one first. -/
def valR (b : Int) : List Int → Int
  | [] => 0
  | d :: ds => d + b * valR b ds
/-- The value; 10^12 + 1 where it is greater than 10^12. -/
def capV (b : Int) : List Int → Int
  | [] => 0
  | d :: ds => if 1000000000001 < capV b ds * b + d then 1000000000001 else capV b ds * b + d
def baseB (b : Int) : Bool := decide (2 ≤ b ∧ b ≤ 16)
/-- All digits are digits of the base. -/
def digitsB (b : Int) (zs : List Int) : Bool := decide (∀ d ∈ zs, 0 ≤ d ∧ d < b)
def widthB (n : Nat) : Bool := decide (1 ≤ n ∧ n ≤ 16)
/-- A register is valid. -/
def okB (b : Int) (zs : List Int) : Bool := baseB b && widthB zs.length && digitsB b zs && decide (valR b zs ≤ 1000000000000)

theorem baseB_true {b : Int} (h : baseB b = true) : 2 ≤ b ∧ b ≤ 16 := by simpa [baseB] using h
theorem baseB_false {b : Int} (h : baseB b = false) : b < 2 ∨ (2 ≤ b ∧ 16 < b) := by simp [baseB] at h; omega
theorem digitsB_true {b : Int} {zs : List Int} (h : digitsB b zs = true) : ∀ d ∈ zs, 0 ≤ d ∧ d < b := by simpa [digitsB] using h
theorem digitsB_nth {b : Int} {zs : List Int} (h : digitsB b zs = true) {k : Nat} (hk : k < zs.length) : 0 ≤ nth zs k ∧ nth zs k < b := by
  rw [nth_get hk]; exact digitsB_true h _ (List.getElem_mem hk)
theorem widthB_true {n : Nat} (h : widthB n = true) : 1 ≤ n ∧ n ≤ 16 := by simpa [widthB] using h
theorem widthB_false {n : Nat} (h : widthB n = false) : n < 1 ∨ 16 < n := by simp [widthB] at h; omega

theorem valR_nonneg {b : Int} (hb : 0 ≤ b) : ∀ {zs : List Int}, (∀ d ∈ zs, 0 ≤ d ∧ d < b) → 0 ≤ valR b zs
  | [], _ => by simp [valR]
  | d :: ds, h => by
    have h1 := h d (by simp)
    have h2 := valR_nonneg hb (zs := ds) fun x hx => h x (by simp [hx])
    have := Int.mul_nonneg hb h2
    simp only [valR]; omega
theorem capV_val {b : Int} (hb : 2 ≤ b) : ∀ {zs : List Int}, (∀ d ∈ zs, 0 ≤ d ∧ d < b) → capV b zs = if 1000000000001 < valR b zs then 1000000000001 else valR b zs
  | [], _ => by simp [capV, valR]
  | d :: ds, h => by
    have h1 := h d (by simp)
    have hds : ∀ x ∈ ds, 0 ≤ x ∧ x < b := fun x hx => h x (by simp [hx])
    have h2 := valR_nonneg (by omega : 0 ≤ b) hds
    have ih := capV_val hb (zs := ds) hds
    have e1 : capV b (d :: ds) = if 1000000000001 < capV b ds * b + d then 1000000000001 else capV b ds * b + d := rfl
    have e2 : valR b (d :: ds) = d + b * valR b ds := rfl
    rw [e1, e2, ih]
    by_cases hc : 1000000000001 < valR b ds
    · rw [if_pos hc]
      have h3 : 1000000000001 * 2 ≤ 1000000000001 * b := Int.mul_le_mul_of_nonneg_left hb (by omega)
      have h4 : b * 1000000000001 ≤ b * valR b ds := Int.mul_le_mul_of_nonneg_left (by omega) (by omega)
      rw [Int.mul_comm b 1000000000001] at h4
      rw [if_pos (by omega), if_pos (by omega)]
    · rw [if_neg hc, Int.mul_comm (valR b ds) b]
      rw [show b * valR b ds + d = d + b * valR b ds by omega]
theorem capV_bd {b : Int} (hb : 2 ≤ b) {zs : List Int} (h : ∀ d ∈ zs, 0 ≤ d ∧ d < b) : 0 ≤ capV b zs ∧ capV b zs ≤ 1000000000001 := by
  rw [capV_val hb h]
  have := valR_nonneg (by omega : 0 ≤ b) h
  split <;> omega
theorem capV_le {b : Int} (hb : 2 ≤ b) {zs : List Int} (h : ∀ d ∈ zs, 0 ≤ d ∧ d < b) : decide (capV b zs ≤ 1000000000000) = decide (valR b zs ≤ 1000000000000) := by
  rw [capV_val hb h]
  split
  · rw [decide_eq_false (by omega), decide_eq_false (by omega)]
  · rfl
theorem capV_ok {b : Int} (hb : 2 ≤ b) {zs : List Int} (h : ∀ d ∈ zs, 0 ≤ d ∧ d < b) (hv : valR b zs ≤ 1000000000000) : capV b zs = valR b zs := by
  rw [capV_val hb h, if_neg (by omega)]

theorem drop_nth {zs : List Int} {k : Nat} (h : k < zs.length) : zs.drop k = nth zs k :: zs.drop (k + 1) := by
  rw [List.drop_eq_getElem_cons h, nth_get h]
theorem all_drop {zs : List Int} {p : Int → Prop} (h : ∀ d ∈ zs, p d) (k : Nat) : ∀ d ∈ zs.drop k, p d := fun d hd => h d (List.mem_of_mem_drop hd)
theorem all_take_succ {zs : List Int} {p : Int → Prop} {k : Nat} (hk : k < zs.length) (h : ∀ d ∈ zs.take k, p d) (hn : p (nth zs k)) : ∀ d ∈ zs.take (k + 1), p d := by
  intro d hd
  rw [List.take_succ_eq_append_getElem hk, List.mem_append, List.mem_singleton] at hd
  rcases hd with hd | rfl
  · exact h d hd
  · rw [nth_get hk] at hn; exact hn

theorem okB_spec {b : Int} {zs : List Int} (h : okB b zs = true) : 2 ≤ b ∧ b ≤ 16 ∧ 1 ≤ zs.length ∧ zs.length ≤ 16 ∧ (∀ d ∈ zs, 0 ≤ d ∧ d < b) ∧ valR b zs ≤ 1000000000000 := by
  unfold okB at h
  simp only [Bool.and_eq_true, decide_eq_true_eq] at h
  obtain ⟨⟨⟨h1, h2⟩, h3⟩, h4⟩ := h
  exact ⟨(baseB_true h1).1, (baseB_true h1).2, (widthB_true h2).1, (widthB_true h2).2, digitsB_true h3, h4⟩

/-- What the program's own method gives: the value and true, or 0 and false. -/
def valOr (b : Int) (zs : List Int) : Int := if valR b zs ≤ 1000000000000 then valR b zs else 0
def valOk (b : Int) (zs : List Int) : Bool := decide (valR b zs ≤ 1000000000000)
theorem valOr_le {b : Int} {zs : List Int} (h : valR b zs ≤ 1000000000000) : valOr b zs = valR b zs := if_pos h
theorem valOk_le {b : Int} {zs : List Int} (h : valR b zs ≤ 1000000000000) : valOk b zs = true := decide_eq_true h
theorem valOr_gt {b : Int} {zs : List Int} (h : 1000000000000 < valR b zs) : valOr b zs = 0 := if_neg (by omega)
theorem valOk_gt {b : Int} {zs : List Int} (h : 1000000000000 < valR b zs) : valOk b zs = false := decide_eq_false (by omega)
end Go.Proofs.YtgfopieojpjddaaDoor
