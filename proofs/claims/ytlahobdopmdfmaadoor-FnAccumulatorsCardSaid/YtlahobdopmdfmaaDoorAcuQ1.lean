/-
  Several texts in one: Digs, Val, Ar, AccM, AcuM, InS, Src, DrawO, Row, ToI, Among, Own2, AccD, App, AppAt, Ord, OrdC, OkS, TwoS, RegC, DrawR, DrawJ, ShdM, PowS, NewReg, AccS, AccE, AccF, AccI, AccO, SetS, AccG.
-/
import Derived.Test.YtlahobdopmdfmaaDoorBase
import Derived.Test.YtlahobdopmdfmaaDoorProg
import Derived.Deep.Cut
import Derived.Laws.BitsLemmas
import Derived.Maps.AppendAt
import Derived.StillTailTactics
import Derived.Deep.CutBlock
import Derived.OrdersHeld
import Derived.WalkKit
import Derived.BigQuiet

/- Digs -/
namespace Go.Proofs.YtlahobdopmdfmaaDoor

/-- The n lowest digits of v in base b, the lowest one first. -/
def digsR (b : Int) : Nat → Int → List Int
  | 0, _ => []
  | n + 1, v => (v % b) :: digsR b n (v / b)
/-- What is left of v behind them. -/
def leftR (b : Int) : Nat → Int → Int
  | 0, v => v
  | n + 1, v => leftR b n (v / b)

theorem digsR_succ (b : Int) : ∀ (n : Nat) (v : Int), digsR b (n + 1) v = digsR b n v ++ [leftR b n v % b]
  | 0, v => rfl
  | n + 1, v => by rw [digsR, digsR_succ b n (v / b), digsR, leftR]; rfl
theorem leftR_succ (b : Int) : ∀ (n : Nat) (v : Int), leftR b (n + 1) v = leftR b n v / b
  | 0, v => rfl
  | n + 1, v => by rw [leftR, leftR_succ b n (v / b), leftR]
theorem digsR_len (b : Int) : ∀ (n : Nat) (v : Int), (digsR b n v).length = n
  | 0, _ => rfl
  | n + 1, v => by rw [digsR, List.length_cons, digsR_len b n]
theorem leftR_bd {b : Int} (hb : 1 ≤ b) {m : Int} : ∀ (n : Nat) (v : Int), 0 ≤ v → v ≤ m → 0 ≤ leftR b n v ∧ leftR b n v ≤ m
  | 0, v, h0, h1 => ⟨h0, h1⟩
  | n + 1, v, h0, h1 => leftR_bd hb n (v / b) (Int.ediv_nonneg h0 (by omega)) (Int.le_trans (Int.ediv_le_self b h0) h1)
theorem digsR_bd {b : Int} (hb : 1 ≤ b) : ∀ (n : Nat) (v : Int), ∀ d ∈ digsR b n v, 0 ≤ d ∧ d < b
  | 0, _, d, hd => by simp [digsR] at hd
  | n + 1, v, d, hd => by
    rw [digsR, List.mem_cons] at hd
    rcases hd with rfl | hd
    · exact ⟨Int.emod_nonneg _ (by omega), Int.emod_lt_of_pos _ (by omega)⟩
    · exact digsR_bd hb n _ d hd

/-- NewRegister: base, digits, code. -/
def nrR (b n v : Int) : Int × List Int × Int :=
  if 2 ≤ b ∧ b ≤ 16 ∧ 1 ≤ n ∧ n ≤ 16 ∧ 0 ≤ v ∧ v ≤ 1000000000000 then (if 0 < leftR b n.toNat v then (0, [], 5) else (b, digsR b n.toNat v, 0)) else (0, [], 2)
theorem nrR_bad {b n v : Int} (h : ¬ (2 ≤ b ∧ b ≤ 16 ∧ 1 ≤ n ∧ n ≤ 16 ∧ 0 ≤ v ∧ v ≤ 1000000000000)) : nrR b n v = (0, [], 2) := by rw [nrR, if_neg h]
theorem nrR_full {b v : Int} {n : Nat} (h : 2 ≤ b ∧ b ≤ 16 ∧ 1 ≤ n ∧ n ≤ 16 ∧ 0 ≤ v ∧ v ≤ 1000000000000) (hl : 0 < leftR b n v) : nrR b n v = (0, [], 5) := by
  rw [nrR, if_pos (by omega), Int.toNat_natCast, if_pos hl]
theorem nrR_ok {b v : Int} {n : Nat} (h : 2 ≤ b ∧ b ≤ 16 ∧ 1 ≤ n ∧ n ≤ 16 ∧ 0 ≤ v ∧ v ≤ 1000000000000) (hl : ¬ 0 < leftR b n v) : nrR b n v = (b, digsR b n v, 0) := by
  rw [nrR, if_pos (by omega), Int.toNat_natCast, if_neg hl]
end Go.Proofs.YtlahobdopmdfmaaDoor

/- Val -/
namespace Go.Proofs.YtlahobdopmdfmaaDoor

/-- The value of digits, the lowest one first. -/
def valR (b : Int) : List Int → Int
  | [] => 0
  | d :: ds => d + b * valR b ds
/-- The value; 10^12 + 1 where it is greater than 10^12. -/
def capV (b : Int) : List Int → Int
  | [] => 0
  | d :: ds => if 1000000000001 < capV b ds * b + d then 1000000000001 else capV b ds * b + d
def baseB (b : Int) : Bool := decide (2 ≤ b ∧ b ≤ 16)
/-- All digits are digits of the base. -/
def digitsB (b : Int) (zs : List Int) : Bool := decide (∀ d ∈ zs, 0 ≤ d ∧ d < b)
def widthB (n : Nat) : Bool := decide (1 ≤ n ∧ n ≤ 16)
/-- A register is valid. -/
def okB (b : Int) (zs : List Int) : Bool := baseB b && widthB zs.length && digitsB b zs && decide (valR b zs ≤ 1000000000000)

theorem baseB_true {b : Int} (h : baseB b = true) : 2 ≤ b ∧ b ≤ 16 := by simpa [baseB] using h
theorem baseB_false {b : Int} (h : baseB b = false) : b < 2 ∨ (2 ≤ b ∧ 16 < b) := by simp [baseB] at h; omega
theorem digitsB_true {b : Int} {zs : List Int} (h : digitsB b zs = true) : ∀ d ∈ zs, 0 ≤ d ∧ d < b := by simpa [digitsB] using h
theorem digitsB_nth {b : Int} {zs : List Int} (h : digitsB b zs = true) {k : Nat} (hk : k < zs.length) : 0 ≤ nth zs k ∧ nth zs k < b := by
  rw [nth_get hk]; exact digitsB_true h _ (List.getElem_mem hk)
theorem widthB_true {n : Nat} (h : widthB n = true) : 1 ≤ n ∧ n ≤ 16 := by simpa [widthB] using h
theorem widthB_false {n : Nat} (h : widthB n = false) : n < 1 ∨ 16 < n := by simp [widthB] at h; omega

theorem valR_nonneg {b : Int} (hb : 0 ≤ b) : ∀ {zs : List Int}, (∀ d ∈ zs, 0 ≤ d ∧ d < b) → 0 ≤ valR b zs
  | [], _ => by simp [valR]
  | d :: ds, h => by
    have h1 := h d (by simp)
    have h2 := valR_nonneg hb (zs := ds) fun x hx => h x (by simp [hx])
    have := Int.mul_nonneg hb h2
    simp only [valR]; omega
theorem capV_val {b : Int} (hb : 2 ≤ b) : ∀ {zs : List Int}, (∀ d ∈ zs, 0 ≤ d ∧ d < b) → capV b zs = if 1000000000001 < valR b zs then 1000000000001 else valR b zs
  | [], _ => by simp [capV, valR]
  | d :: ds, h => by
    have h1 := h d (by simp)
    have hds : ∀ x ∈ ds, 0 ≤ x ∧ x < b := fun x hx => h x (by simp [hx])
    have h2 := valR_nonneg (by omega : 0 ≤ b) hds
    have ih := capV_val hb (zs := ds) hds
    have e1 : capV b (d :: ds) = if 1000000000001 < capV b ds * b + d then 1000000000001 else capV b ds * b + d := rfl
    have e2 : valR b (d :: ds) = d + b * valR b ds := rfl
    rw [e1, e2, ih]
    by_cases hc : 1000000000001 < valR b ds
    · rw [if_pos hc]
      have h3 : 1000000000001 * 2 ≤ 1000000000001 * b := Int.mul_le_mul_of_nonneg_left hb (by omega)
      have h4 : b * 1000000000001 ≤ b * valR b ds := Int.mul_le_mul_of_nonneg_left (by omega) (by omega)
      rw [Int.mul_comm b 1000000000001] at h4
      rw [if_pos (by omega), if_pos (by omega)]
    · rw [if_neg hc, Int.mul_comm (valR b ds) b]
      rw [show b * valR b ds + d = d + b * valR b ds by omega]
theorem capV_bd {b : Int} (hb : 2 ≤ b) {zs : List Int} (h : ∀ d ∈ zs, 0 ≤ d ∧ d < b) : 0 ≤ capV b zs ∧ capV b zs ≤ 1000000000001 := by
  rw [capV_val hb h]
  have := valR_nonneg (by omega : 0 ≤ b) h
  split <;> omega
theorem capV_le {b : Int} (hb : 2 ≤ b) {zs : List Int} (h : ∀ d ∈ zs, 0 ≤ d ∧ d < b) : decide (capV b zs ≤ 1000000000000) = decide (valR b zs ≤ 1000000000000) := by
  rw [capV_val hb h]
  split
  · rw [decide_eq_false (by omega), decide_eq_false (by omega)]
  · rfl
theorem capV_ok {b : Int} (hb : 2 ≤ b) {zs : List Int} (h : ∀ d ∈ zs, 0 ≤ d ∧ d < b) (hv : valR b zs ≤ 1000000000000) : capV b zs = valR b zs := by
  rw [capV_val hb h, if_neg (by omega)]

theorem drop_nth {zs : List Int} {k : Nat} (h : k < zs.length) : zs.drop k = nth zs k :: zs.drop (k + 1) := by
  rw [List.drop_eq_getElem_cons h, nth_get h]
theorem all_drop {zs : List Int} {p : Int → Prop} (h : ∀ d ∈ zs, p d) (k : Nat) : ∀ d ∈ zs.drop k, p d := fun d hd => h d (List.mem_of_mem_drop hd)
theorem all_take_succ {zs : List Int} {p : Int → Prop} {k : Nat} (hk : k < zs.length) (h : ∀ d ∈ zs.take k, p d) (hn : p (nth zs k)) : ∀ d ∈ zs.take (k + 1), p d := by
  intro d hd
  rw [List.take_succ_eq_append_getElem hk, List.mem_append, List.mem_singleton] at hd
  rcases hd with hd | rfl
  · exact h d hd
  · rw [nth_get hk] at hn; exact hn

theorem okB_spec {b : Int} {zs : List Int} (h : okB b zs = true) : 2 ≤ b ∧ b ≤ 16 ∧ 1 ≤ zs.length ∧ zs.length ≤ 16 ∧ (∀ d ∈ zs, 0 ≤ d ∧ d < b) ∧ valR b zs ≤ 1000000000000 := by
  unfold okB at h
  simp only [Bool.and_eq_true, decide_eq_true_eq] at h
  obtain ⟨⟨⟨h1, h2⟩, h3⟩, h4⟩ := h
  exact ⟨(baseB_true h1).1, (baseB_true h1).2, (widthB_true h2).1, (widthB_true h2).2, digitsB_true h3, h4⟩

/-- What the program's own method gives: the value and true, or 0 and false. -/
def valOr (b : Int) (zs : List Int) : Int := if valR b zs ≤ 1000000000000 then valR b zs else 0
def valOk (b : Int) (zs : List Int) : Bool := decide (valR b zs ≤ 1000000000000)
theorem valOr_le {b : Int} {zs : List Int} (h : valR b zs ≤ 1000000000000) : valOr b zs = valR b zs := if_pos h
theorem valOk_le {b : Int} {zs : List Int} (h : valR b zs ≤ 1000000000000) : valOk b zs = true := decide_eq_true h
theorem valOr_gt {b : Int} {zs : List Int} (h : 1000000000000 < valR b zs) : valOr b zs = 0 := if_neg (by omega)
theorem valOk_gt {b : Int} {zs : List Int} (h : 1000000000000 < valR b zs) : valOk b zs = false := decide_eq_false (by omega)
end Go.Proofs.YtlahobdopmdfmaaDoor

/- Ar -/
namespace Go.Proofs.YtlahobdopmdfmaaDoor

/-- The carry into digit k of a sum. -/
def cK (b : Int) (xs ys : List Int) : Nat → Int
  | 0 => 0
  | k + 1 => (nth xs k + nth ys k + cK b xs ys k) / b
def sumD (b : Int) (xs ys : List Int) (k : Nat) : Int := (nth xs k + nth ys k + cK b xs ys k) % b
/-- The borrow into digit k of a difference. -/
def bK (b : Int) (xs ys : List Int) : Nat → Int
  | 0 => 0
  | k + 1 => if nth xs k - nth ys k - bK b xs ys k < 0 then 1 else 0
def subD (b : Int) (xs ys : List Int) (k : Nat) : Int :=
  if nth xs k - nth ys k - bK b xs ys k < 0 then nth xs k - nth ys k - bK b xs ys k + b else nth xs k - nth ys k - bK b xs ys k
def cplD (b : Int) (xs : List Int) (k : Nat) : Int := b - 1 - nth xs k
/-- Digit k of a register whose digits are moved by 'by'. -/
def shD (xs : List Int) (m : Int) (k : Nat) : Int := if 0 ≤ (k : Int) - m ∧ (k : Int) - m ≤ (xs.length : Int) - 1 then nth xs ((k : Int) - m).toNat else 0

theorem cK_bd {b : Int} (hb : 2 ≤ b) {xs ys : List Int} (hx : ∀ k, k < xs.length → 0 ≤ nth xs k ∧ nth xs k < b) (hy : ∀ k, k < xs.length → 0 ≤ nth ys k ∧ nth ys k < b) :
    ∀ k, k ≤ xs.length → 0 ≤ cK b xs ys k ∧ cK b xs ys k ≤ 1
  | 0, _ => by simp [cK]
  | k + 1, hk => by
    have h1 := hx k (by omega)
    have h2 := hy k (by omega)
    have h3 := cK_bd hb hx hy k (by omega)
    have e : cK b xs ys (k + 1) = (nth xs k + nth ys k + cK b xs ys k) / b := rfl
    rw [e]
    refine ⟨Int.ediv_nonneg (by omega) (by omega), ?_⟩
    have : (nth xs k + nth ys k + cK b xs ys k) / b < 2 := Int.ediv_lt_of_lt_mul (by omega) (by omega)
    omega
theorem bK_bd (b : Int) (xs ys : List Int) : ∀ k, 0 ≤ bK b xs ys k ∧ bK b xs ys k ≤ 1
  | 0 => by simp [bK]
  | k + 1 => by simp only [bK]; split <;> omega

/-- The code of two registers that are to be used together. -/
def twoE (b : Int) (xs : List Int) (d : Int) (ys : List Int) : Int :=
  if okB b xs = false ∨ okB d ys = false then 1 else if b = d ∧ xs.length = ys.length then 0 else 6
/-- What becomes of computed digits: base, digits, code. -/
def finR (b : Int) (zs : List Int) : Int × List Int × Int := if okB b zs = true then (b, zs, 0) else (0, [], 5)

def vofR (b : Int) (zs : List Int) : Int × Int := if okB b zs = true then (valR b zs, 0) else (0, 1)
def addR (b : Int) (xs : List Int) (d : Int) (ys : List Int) : Int × List Int × Int × Int :=
  if twoE b xs d ys = 0 then (if okB b (tab (sumD b xs ys) xs.length) = true then (b, tab (sumD b xs ys) xs.length, cK b xs ys xs.length, 0) else (0, [], 0, 5)) else (0, [], 0, twoE b xs d ys)
def subR (b : Int) (xs : List Int) (d : Int) (ys : List Int) : Int × List Int × Int × Int :=
  if twoE b xs d ys = 0 then (if okB b (tab (subD b xs ys) xs.length) = true then (b, tab (subD b xs ys) xs.length, bK b xs ys xs.length, 0) else (0, [], 0, 5)) else (0, [], 0, twoE b xs d ys)
def cplR (b : Int) (xs : List Int) : Int × List Int × Int := if okB b xs = true then finR b (tab (cplD b xs) xs.length) else (0, [], 1)
def carR (b : Int) (xs : List Int) (d : Int) (ys : List Int) : List Int × Int := if twoE b xs d ys = 0 then (tab (cK b xs ys) (xs.length + 1), 0) else ([], twoE b xs d ys)
def shR (b : Int) (xs : List Int) (m : Int) : Int × List Int × Int := if okB b xs = true then (if -16 ≤ m ∧ m ≤ 16 then finR b (tab (shD xs m) xs.length) else (0, [], 2)) else (0, [], 1)
def cmpR (b : Int) (xs : List Int) (d : Int) (ys : List Int) : Int × Int :=
  if twoE b xs d ys = 0 then (if valR b xs < valR d ys then -1 else if valR d ys < valR b xs then 1 else 0, 0) else (0, twoE b xs d ys)

theorem twoE_zero {b d : Int} {xs ys : List Int} (h : twoE b xs d ys = 0) : okB b xs = true ∧ okB d ys = true ∧ b = d ∧ xs.length = ys.length := by
  unfold twoE at h
  split at h
  · cases h
  · rename_i h1
    split at h
    · rename_i h2
      simp only [not_or, Bool.not_eq_false] at h1
      exact ⟨h1.1, h1.2, h2.1, h2.2⟩
    · cases h
theorem digit_of_ok {b : Int} {zs : List Int} (h : okB b zs = true) : ∀ k, k < zs.length → 0 ≤ nth zs k ∧ nth zs k < b := fun k hk => by
  rw [nth_get hk]; exact (okB_spec h).2.2.2.2.1 _ (List.getElem_mem hk)
end Go.Proofs.YtlahobdopmdfmaaDoor

/- AccM -/
namespace Go.Proofs.YtlahobdopmdfmaaDoor
open Go.RowKit

/-- Are there accumulators with a base and a width? -/
def fullB (B n : Int) : Bool := decide (2 ≤ B ∧ B ≤ 16 ∧ 1 ≤ n ∧ n ≤ 16 ∧ B ^ n.toNat - 1 ≤ 1000000000000)
theorem fullB_spec {B n : Int} (h : fullB B n = true) : 2 ≤ B ∧ B ≤ 16 ∧ 1 ≤ n ∧ n ≤ 16 ∧ B ^ n.toNat - 1 ≤ 1000000000000 := by simpa [fullB] using h
/-- How many registers there are. -/
def cntA (B n : Int) : Int := B ^ n.toNat
/-- The power, as far as the model looks. -/
def capW (B : Int) (k : Nat) : Int := min 1000000000002 (B ^ k)
theorem pow_pos' {B : Int} (h : 1 ≤ B) (k : Nat) : 1 ≤ B ^ k := Int.pow_pos (by omega)
theorem pow_succ_le {B : Int} (h : 2 ≤ B) (k : Nat) : 2 * B ^ k ≤ B ^ (k + 1) := by
  rw [Int.pow_succ, Int.mul_comm 2]
  exact Int.mul_le_mul_of_nonneg_left h (by have := pow_pos' (show 1 ≤ B by omega) k; omega)
theorem pow_mono' {B : Int} (h : 2 ≤ B) {j k : Nat} (hjk : j ≤ k) : B ^ j ≤ B ^ k := by
  induction k with
  | zero => obtain rfl : j = 0 := by omega
            exact Int.le_refl _
  | succ k ih =>
    by_cases e : j = k + 1
    · subst e; exact Int.le_refl _
    · have := ih (by omega)
      have h2 := pow_succ_le h k
      have h3 := pow_pos' (show 1 ≤ B by omega) k
      omega
theorem capW_zero (B : Int) : capW B 0 = 1 := by simp [capW]; omega
theorem capW_bd {B : Int} (h : 1 ≤ B) (k : Nat) : 1 ≤ capW B k ∧ capW B k ≤ 1000000000002 := by
  have := pow_pos' h k
  unfold capW; omega
theorem capW_succ {B : Int} (h : 1 ≤ B) (k : Nat) : min 1000000000002 (capW B k * B) = capW B (k + 1) := by
  unfold capW
  rw [Int.pow_succ]
  have hp := pow_pos' h k
  by_cases hc : B ^ k ≤ 1000000000002
  · rw [Int.min_eq_right hc]
  · have h1 : (1000000000002 : Int) * 1 ≤ 1000000000002 * B := Int.mul_le_mul_of_nonneg_left h (by omega)
    have h2 : B ^ k * 1 ≤ B ^ k * B := Int.mul_le_mul_of_nonneg_left h (by omega)
    rw [Int.min_eq_left (show (1000000000002 : Int) ≤ B ^ k by omega), Int.min_eq_left (by omega), Int.min_eq_left (by omega)]
theorem capW_full {B : Int} {k : Nat} (h : B ^ k - 1 ≤ 1000000000000) : capW B k = B ^ k := by unfold capW; omega
theorem capW_test {B : Int} {k : Nat} : (capW B k - 1 ≤ 1000000000000) ↔ (B ^ k - 1 ≤ 1000000000000) := by unfold capW; omega

/-- Is a number one of those of an accumulator? -/
def inA (N x : Int) : Bool := decide (-(N / 2) ≤ x ∧ x ≤ N - 1 + -(N / 2))
/-- The number that is shown for x. -/
def shn (N x : Int) : Int := if N - 1 + -(N / 2) < x % N then x % N - N else x % N
theorem shn_in {N : Int} (hN : 1 ≤ N) (x : Int) : -(N / 2) ≤ shn N x ∧ shn N x ≤ N - 1 + -(N / 2) := by
  have h1 := Int.emod_nonneg x (show N ≠ 0 by omega)
  have h2 := Int.emod_lt_of_pos x (show 0 < N by omega)
  have h3 := Int.emod_nonneg N (show (2 : Int) ≠ 0 by omega)
  unfold shn; split <;> omega
theorem shn_mod {N : Int} (_ : 1 ≤ N) (x : Int) : shn N x % N = x % N := by
  unfold shn; split
  · rw [Int.sub_emod, Int.emod_self, Int.sub_zero, Int.emod_emod_of_dvd _ (Int.dvd_refl _), Int.emod_emod_of_dvd _ (Int.dvd_refl _)]
  · exact Int.emod_emod_of_dvd _ (Int.dvd_refl _)
theorem shn_self {N : Int} (_ : 1 ≤ N) {x : Int} (h : -(N / 2) ≤ x ∧ x ≤ N - 1 + -(N / 2)) : shn N x = x := by
  have h3 := Int.emod_nonneg N (show (2 : Int) ≠ 0 by omega)
  unfold shn
  by_cases hx : 0 ≤ x
  · rw [Int.emod_eq_of_lt hx (by omega), if_neg (by omega)]
  · have e : x % N = x + N := by
      rw [← Int.add_emod_right x N]; exact Int.emod_eq_of_lt (by omega) (by omega)
    rw [e, if_pos (by omega)]; omega
theorem shn_eq {N : Int} (hN : 1 ≤ N) (x : Int) : shn N x = x ↔ inA N x = true := by
  constructor
  · intro h; rw [← h]; have := shn_in hN x; simpa [inA] using this
  · intro h; exact shn_self hN (by simpa [inA] using h)
theorem shn_congr {N x y : Int} (h : x % N = y % N) : shn N x = shn N y := by unfold shn; rw [h]
theorem shn_add {N : Int} (hN : 1 ≤ N) (x y : Int) : (shn N x + y) % N = (x + y) % N := by
  rw [Int.add_emod, shn_mod hN, ← Int.add_emod]

/-- What is left of a number behind its lowest digits. -/
theorem leftR_div {b : Int} (hb : 1 ≤ b) : ∀ (n : Nat) (v : Int), leftR b n v = v / b ^ n
  | 0, v => by simp [leftR]
  | n + 1, v => by
    rw [leftR, leftR_div hb n, Int.pow_succ, Int.mul_comm, Int.ediv_ediv_of_nonneg (by omega)]
theorem leftR_none {b : Int} (hb : 1 ≤ b) {n : Nat} {v : Int} (h0 : 0 ≤ v) (h : v < b ^ n) : leftR b n v = 0 := by
  rw [leftR_div hb, Int.ediv_eq_zero_of_lt h0 h]
theorem valR_digs {b : Int} (hb : 1 ≤ b) : ∀ (n : Nat) (v : Int), 0 ≤ v → v < b ^ n → valR b (digsR b n v) = v
  | 0, v, h0, h => by simp at h; simp [digsR, valR]; omega
  | n + 1, v, h0, h => by
    rw [digsR, valR, valR_digs hb n (v / b) (Int.ediv_nonneg h0 (by omega)) (by rw [Int.pow_succ] at h; exact Int.ediv_lt_of_lt_mul (by omega) h)]
    exact Int.emod_add_mul_ediv v b
theorem valR_lt {b : Int} (hb : 1 ≤ b) : ∀ {zs : List Int}, (∀ d ∈ zs, 0 ≤ d ∧ d < b) → 0 ≤ valR b zs ∧ valR b zs < b ^ zs.length
  | [], _ => by simp [valR]
  | d :: ds, h => by
    have hd := h d (by simp)
    have ih := valR_lt hb (zs := ds) fun x hx => h x (by simp [hx])
    simp only [valR, List.length_cons, Int.pow_succ]
    have h1 : 0 ≤ b * valR b ds := Int.mul_nonneg (by omega) ih.1
    have h2 : b * (valR b ds + 1) ≤ b * b ^ ds.length := Int.mul_le_mul_of_nonneg_left (by omega) (by omega)
    rw [Int.mul_add, Int.mul_comm b (b ^ ds.length)] at h2
    omega
theorem digsR_back {b : Int} (hb : 1 ≤ b) : ∀ {zs : List Int}, (∀ d ∈ zs, 0 ≤ d ∧ d < b) → digsR b zs.length (valR b zs) = zs
  | [], _ => rfl
  | d :: ds, h => by
    have hd := h d (by simp)
    have ih := digsR_back hb (zs := ds) fun x hx => h x (by simp [hx])
    have e1 : (d + b * valR b ds) % b = d := by rw [Int.add_mul_emod_self_left]; exact Int.emod_eq_of_lt hd.1 hd.2
    have e2 : (d + b * valR b ds) / b = valR b ds := by rw [Int.add_mul_ediv_left _ _ (by omega), Int.ediv_eq_zero_of_lt hd.1 hd.2, Int.zero_add]
    simp only [List.length_cons, digsR, valR, e1, e2, ih]

/-- Is a register an accumulator? -/
def accB (B : Int) (zs : List Int) : Bool := okB B zs && decide (B ^ zs.length - 1 ≤ 1000000000000)
theorem accB_spec {B : Int} {zs : List Int} (h : accB B zs = true) : okB B zs = true ∧ B ^ zs.length - 1 ≤ 1000000000000 := by simpa [accB] using h
theorem accB_full {B : Int} {zs : List Int} (h : accB B zs = true) : fullB B (zs.length : Int) = true := by
  obtain ⟨h1, h2⟩ := accB_spec h
  obtain ⟨b0, b1, n0, n1, _, _⟩ := okB_spec h1
  simp only [fullB, Int.toNat_natCast, decide_eq_true_eq]
  exact ⟨b0, b1, by omega, by omega, h2⟩
theorem full_accB {B : Int} {zs : List Int} (h1 : okB B zs = true) (h2 : fullB B (zs.length : Int) = true) : accB B zs = true := by
  have := (fullB_spec h2).2.2.2.2
  rw [Int.toNat_natCast] at this
  simp [accB, h1, this]
theorem accB_of_full {B : Int} {zs : List Int} (h1 : okB B zs = true) : accB B zs = fullB B (zs.length : Int) := by
  cases h2 : fullB B (zs.length : Int) with
  | true => exact full_accB h1 h2
  | false =>
    cases h : accB B zs with
    | false => rfl
    | true => rw [accB_full h] at h2; cases h2

/-- AccumulatorRange. -/
def rngA (B n : Int) : Int × Int × Int := if fullB B n = true then (-(cntA B n / 2), cntA B n - 1 + -(cntA B n / 2), 0) else (0, 0, 2)
/-- The register that shows a number. -/
def setA (B n x : Int) : List Int := digsR B n.toNat (x % cntA B n)
/-- SetAccumulator. -/
def setAR (B n x : Int) : Int × List Int × Int := if fullB B n = true then (if inA (cntA B n) x = true then (B, setA B n x, 0) else (0, [], 5)) else (0, [], 2)
/-- The number of an accumulator. -/
def numA (B : Int) (zs : List Int) : Int := shn (cntA B (zs.length : Int)) (valR B zs)
/-- NumberOf. -/
def numR (B : Int) (zs : List Int) : Int × Int := if accB B zs = true then (numA B zs, 0) else (0, 1)
/-- NegateAccumulator. -/
def negR (B : Int) (zs : List Int) : Int × List Int × Int := if accB B zs = true then setAR B (zs.length : Int) (-(numA B zs)) else (0, [], 1)
/-- WidenAccumulator. -/
def widR (B : Int) (zs : List Int) (n : Int) : Int × List Int × Int :=
  if accB B zs = true then (if (zs.length : Int) ≤ n ∧ n ≤ 16 then (if fullB B n = true then (B, setA B n (numA B zs), 0) else (0, [], 5)) else (0, [], 2)) else (0, [], 1)
/-- ClearTurns. -/
def clrD (B : Int) (zs : List Int) (k : Nat) : Int := (-(nth zs k)) % B
def clrR (B : Int) (zs : List Int) : List Int × Int := if okB B zs = true then (tab (clrD B zs) zs.length, 0) else ([], 1)
/-- Adding number after number: what is shown, where the bell rings. -/
def runA (N s : Int) (l : List Int) : Nat → Int × List Int
  | 0 => (s, [])
  | k + 1 => (shn N ((runA N s l k).1 + nth l k), (runA N s l k).2 ++ (if inA N ((runA N s l k).1 + nth l k) = true then [] else [(k : Int)]))
/-- Can all numbers be added? -/
def mostB (l : List Int) : Bool := decide (∀ x ∈ l, -1000000000000 ≤ x ∧ x ≤ 1000000000000)
/-- AccumulateAll. -/
def accR (B : Int) (zs l : List Int) : Int × List Int × List Int × Int :=
  if accB B zs = true then (if mostB l = true then (B, setA B (zs.length : Int) (runA (cntA B (zs.length : Int)) (numA B zs) l l.length).1, (runA (cntA B (zs.length : Int)) (numA B zs) l l.length).2, 0) else (0, [], [], 2)) else (0, [], [], 1)

theorem cntA_bd {B n : Int} (h : fullB B n = true) : 2 ≤ cntA B n ∧ cntA B n ≤ 1000000000001 := by
  obtain ⟨h1, h2, h3, h4, h5⟩ := fullB_spec h
  have := pow_mono' h1 (show 1 ≤ n.toNat by omega)
  rw [Int.pow_one] at this
  unfold cntA; omega
theorem cntA_len {B : Int} {zs : List Int} : cntA B (zs.length : Int) = B ^ zs.length := by simp [cntA]
theorem modA_bd {B n : Int} (h : fullB B n = true) (x : Int) : 0 ≤ x % cntA B n ∧ x % cntA B n < cntA B n := by
  have := cntA_bd h
  exact ⟨Int.emod_nonneg _ (by omega), Int.emod_lt_of_pos _ (by omega)⟩
/-- NewRegister makes the register that shows a number. -/
theorem nrR_set {B n : Int} (h : fullB B n = true) (x : Int) : nrR B n (x % cntA B n) = (B, setA B n x, 0) := by
  obtain ⟨h1, h2, h3, h4, h5⟩ := fullB_spec h
  have hm := modA_bd h x
  have hc := cntA_bd h
  obtain ⟨m, rfl⟩ := Int.eq_ofNat_of_zero_le (show 0 ≤ n by omega)
  rw [setA, Int.toNat_natCast]
  refine nrR_ok ⟨h1, h2, by omega, by omega, hm.1, by omega⟩ ?_
  rw [leftR_none (by omega) hm.1 (by simpa [cntA] using hm.2)]; omega
theorem setA_len {B n : Int} (x : Int) : (setA B n x).length = n.toNat := digsR_len _ _ _
theorem setA_val {B n : Int} (h : fullB B n = true) (x : Int) : valR B (setA B n x) = x % cntA B n := by
  have hm := modA_bd h x
  exact valR_digs (by have := (fullB_spec h).1; omega) _ _ hm.1 hm.2
theorem setA_congr {B n x y : Int} (h : x % cntA B n = y % cntA B n) : setA B n x = setA B n y := by unfold setA; rw [h]
theorem numA_set {B n : Int} (h : fullB B n = true) (x : Int) : numA B (setA B n x) = shn (cntA B n) x := by
  have hn := (fullB_spec h).2.2.1
  unfold numA
  rw [setA_len, setA_val h, show ((n.toNat : Nat) : Int) = n by omega]
  exact shn_congr (Int.emod_emod_of_dvd _ (Int.dvd_refl _))
/-- What is shown at first. -/
theorem setA_num {B : Int} {zs : List Int} (h : accB B zs = true) : setA B (zs.length : Int) (numA B zs) = zs := by
  have hf := accB_full h
  have hc := cntA_bd hf
  obtain ⟨b0, b1, n0, n1, hd, _⟩ := okB_spec (accB_spec h).1
  have hv := valR_lt (show 1 ≤ B by omega) hd
  unfold setA numA
  rw [shn_mod (by omega), Int.toNat_natCast, Int.emod_eq_of_lt hv.1 (by rw [cntA_len]; exact hv.2)]
  exact digsR_back (by omega) hd
theorem numA_in {B : Int} {zs : List Int} (h : accB B zs = true) : -(cntA B (zs.length : Int) / 2) ≤ numA B zs ∧ numA B zs ≤ cntA B (zs.length : Int) - 1 + -(cntA B (zs.length : Int) / 2) :=
  shn_in (by have := cntA_bd (accB_full h); omega) _
theorem runA_in {N s : Int} (hN : 1 ≤ N) (h : -(N / 2) ≤ s ∧ s ≤ N - 1 + -(N / 2)) (l : List Int) : ∀ k, -(N / 2) ≤ (runA N s l k).1 ∧ (runA N s l k).1 ≤ N - 1 + -(N / 2)
  | 0 => h
  | _ + 1 => shn_in hN _
theorem numA_if {B : Int} {zs : List Int} (h : accB B zs = true) : numA B zs = if inA (cntA B (zs.length : Int)) (valR B zs) = true then valR B zs else valR B zs - cntA B (zs.length : Int) := by
  have hf := accB_full h
  have hc := cntA_bd hf
  obtain ⟨b0, b1, n0, n1, hd, _⟩ := okB_spec (accB_spec h).1
  have hv := valR_lt (show 1 ≤ B by omega) hd
  rw [← cntA_len] at hv
  unfold numA shn inA
  rw [Int.emod_eq_of_lt hv.1 hv.2]
  simp only [decide_eq_true_eq]
  by_cases hh : cntA B (zs.length : Int) - 1 + -(cntA B (zs.length : Int) / 2) < valR B zs
  · rw [if_pos hh, if_neg (by omega)]
  · rw [if_neg hh, if_pos (by omega)]
theorem valR_acc {B : Int} {zs : List Int} (h : accB B zs = true) : 0 ≤ valR B zs ∧ valR B zs ≤ 1000000000000 := by
  obtain ⟨b0, b1, n0, n1, hd, hv⟩ := okB_spec (accB_spec h).1
  exact ⟨(valR_lt (show 1 ≤ B by omega) hd).1, hv⟩
end Go.Proofs.YtlahobdopmdfmaaDoor

/- AcuM -/
namespace Go.Proofs.YtlahobdopmdfmaaDoor
open Go.RowKit

theorem accB_setA {B n : Int} (h : fullB B n = true) (x : Int) : accB B (setA B n x) = true := by
  obtain ⟨b0, b1, n0, n1, hf⟩ := fullB_spec h
  have hm := modA_bd h x
  have hl : ((setA B n x).length : Int) = n := by rw [setA_len]; omega
  refine full_accB ?_ (by rw [hl]; exact h)
  have hv : valR B (setA B n x) ≤ 1000000000000 := by rw [setA_val h]; have := cntA_bd h; omega
  have hd : ∀ d ∈ setA B n x, 0 ≤ d ∧ d < B := digsR_bd (by omega) _ _
  have hln : 1 ≤ (setA B n x).length ∧ (setA B n x).length ≤ 16 := by omega
  unfold okB
  simp only [Bool.and_eq_true, decide_eq_true_eq]
  exact ⟨⟨⟨by simp [baseB]; omega, by simp [widthB]; omega⟩, by simpa [digitsB] using hd⟩, hv⟩
/-- A number that is set is shown. -/
theorem numR_set {B n x : Int} (hs : (setAR B n x).2.2 = 0) : numR (setAR B n x).1 (setAR B n x).2.1 = (x, 0) := by
  unfold setAR at hs ⊢
  by_cases h : fullB B n = true
  · rw [if_pos h] at hs ⊢
    by_cases h2 : inA (cntA B n) x = true
    · rw [if_pos h2]
      show numR B (setA B n x) = (x, 0)
      rw [numR, if_pos (accB_setA h x), numA_set h, (shn_eq (by have := cntA_bd h; omega) x).2 h2]
    · rw [if_neg h2] at hs; cases hs
  · rw [if_neg h] at hs; cases hs
/-- The opposite. -/
theorem negR_back {B : Int} {zs : List Int} (hs : (negR B zs).2.2 = 0) :
    ∃ p : Int, numR B zs = (p, 0) ∧ numR (negR B zs).1 (negR B zs).2.1 = (-p, 0) ∧ negR (negR B zs).1 (negR B zs).2.1 = (B, zs, 0) ∧ -1000000000001 ≤ p ∧ p ≤ 1000000000001 := by
  by_cases h : accB B zs = true
  · have hf := accB_full h
    have e : negR B zs = setAR B (zs.length : Int) (-(numA B zs)) := by unfold negR; rw [if_pos h]
    rw [e] at hs ⊢
    have hin := numA_in h
    have hc := cntA_bd hf
    refine ⟨numA B zs, by rw [numR, if_pos h], numR_set hs, ?_, by omega, by omega⟩
    have e2 : setAR B (zs.length : Int) (-(numA B zs)) = (B, setA B (zs.length : Int) (-(numA B zs)), 0) := by
      unfold setAR at hs ⊢
      rw [if_pos hf] at hs ⊢
      by_cases h2 : inA (cntA B (zs.length : Int)) (-(numA B zs)) = true
      · rw [if_pos h2]
      · rw [if_neg h2] at hs; cases hs
    have hn := numR_set hs
    rw [e2] at hn ⊢
    have ha := accB_setA hf (-(numA B zs))
    have hl : ((setA B (zs.length : Int) (-(numA B zs))).length : Int) = zs.length := by rw [setA_len]; simp
    have hnum : numA B (setA B (zs.length : Int) (-(numA B zs))) = -(numA B zs) := by
      have : numR B (setA B (zs.length : Int) (-(numA B zs))) = (-(numA B zs), 0) := hn
      rw [numR, if_pos ha] at this
      exact congrArg Prod.fst this
    show negR B (setA B (zs.length : Int) (-(numA B zs))) = (B, zs, 0)
    rw [negR, if_pos ha, hnum, hl, Int.neg_neg, setAR, if_pos hf, if_pos (by simp only [inA, decide_eq_true_eq]; exact hin), setA_num h]
  · unfold negR at hs
    rw [if_neg h] at hs; cases hs
/-- Widened. -/
theorem widR_num {B n : Int} {zs : List Int} (hs : (widR B zs n).2.2 = 0) :
    ∃ p : Int, numR B zs = (p, 0) ∧ numR (widR B zs n).1 (widR B zs n).2.1 = (p, 0) ∧ ((widR B zs n).2.1.length : Int) = n := by
  unfold widR at hs ⊢
  by_cases h : accB B zs = true
  · rw [if_pos h] at hs ⊢
    by_cases h2 : (zs.length : Int) ≤ n ∧ n ≤ 16
    · rw [if_pos h2] at hs ⊢
      by_cases h3 : fullB B n = true
      · rw [if_pos h3]
        have hf := accB_full h
        have hin := numA_in h
        have hc := cntA_bd hf
        obtain ⟨b0, b1, n0, n1, _⟩ := fullB_spec h3
        refine ⟨numA B zs, by rw [numR, if_pos h], ?_, by show ((setA B n (numA B zs)).length : Int) = n; rw [setA_len]; omega⟩
        show numR B (setA B n (numA B zs)) = _
        rw [numR, if_pos (accB_setA h3 _), numA_set h3]
        have hmono : cntA B (zs.length : Int) ≤ cntA B n := by
          unfold cntA
          exact pow_mono' b0 (by omega)
        rw [shn_self (by omega) (by omega)]
      · rw [if_neg h3] at hs; cases hs
    · rw [if_neg h2] at hs; cases hs
  · rw [if_neg h] at hs; cases hs
end Go.Proofs.YtlahobdopmdfmaaDoor

/- InS -/
namespace Go.Proofs.YtlahobdopmdfmaaDoor
open Go.RowKit

theorem ret_two {R : Int × Int} {x y : Int} (h : R = (x, y)) : Ending.returned (.tuple #[.int .i64 x, .int .i64 y]) = .returned (.tuple #[.int .i64 R.1, .int .i64 R.2]) := by subst h; rfl
theorem i64_of {z : Int} (h1 : -1000000000000000000 ≤ z) (h2 : z ≤ 1000000000000000000) : I64 z := by
  have e1 : IntKind.i64.min = -9223372036854775808 := by decide
  have e2 : IntKind.i64.max = 9223372036854775807 := by decide
  simp [I64, Lit.wf, e1, e2]
  omega
/-- Is n from lo to hi? (a word that the walk does not open) -/
def inB (n lo hi : Int) : Bool := decide (lo ≤ n ∧ n ≤ hi)
theorem inB_true {n lo hi : Int} (h : inB n lo hi = true) : lo ≤ n ∧ n ≤ hi := by simpa [inB] using h
theorem inB_false {n lo hi : Int} (h : inB n lo hi = false) : n < lo ∨ hi < n := by simp [inB] at h; omega
theorem inB_yes {n lo hi : Int} (h1 : lo ≤ n) (h2 : n ≤ hi) : inB n lo hi = true := by simp [inB, h1, h2]
theorem inB_no {n lo hi : Int} (h : n < lo ∨ hi < n) : inB n lo hi = false := by simp [inB]; omega

theorem l00In_true (n lo hi : Int) (w : World) (h1 : lo ≤ n) (h2 : n ≤ hi) : Calls Tryd.prog 118 #[.int .i64 n, .int .i64 lo, .int .i64 hi] w fun e w' => e = .returned (.bool true) ∧ w' = w := by
  have d1 : decide (lo ≤ n) = true := decide_eq_true h1
  have d2 : decide (n ≤ hi) = true := decide_eq_true h2
  go_enter Tryd.func118, Tryd.ntmps118
  go_wp2
  go_ret
  exact ⟨rfl, rfl⟩
theorem l00In_false (n lo hi : Int) (w : World) (h : n < lo ∨ hi < n) : Calls Tryd.prog 118 #[.int .i64 n, .int .i64 lo, .int .i64 hi] w fun e w' => e = .returned (.bool false) ∧ w' = w := by
  by_cases h1 : lo ≤ n
  · have d1 : decide (lo ≤ n) = true := decide_eq_true h1
    have d2 : decide (n ≤ hi) = false := decide_eq_false (by omega)
    go_enter Tryd.func118, Tryd.ntmps118
    go_wp2
    go_ret
    exact ⟨rfl, rfl⟩
  · have d1 : decide (lo ≤ n) = false := decide_eq_false h1
    go_enter Tryd.func118, Tryd.ntmps118
    go_wp2
    go_ret
    exact ⟨rfl, rfl⟩
theorem l00In_any (n lo hi : Int) (w : World) : Calls Tryd.prog 118 #[.int .i64 n, .int .i64 lo, .int .i64 hi] w fun e w' => e = .returned (.bool (inB n lo hi)) ∧ w' = w := by
  cases h : inB n lo hi with
  | true => exact l00In_true n lo hi w (inB_true h).1 (inB_true h).2
  | false => exact l00In_false n lo hi w (inB_false h)
theorem l00Min_any (a b : Int) (w : World) : Calls Tryd.prog 158 #[.int .i64 a, .int .i64 b] w fun e w' => e = .returned (.int .i64 (min a b)) ∧ w' = w := by
  by_cases h : a < b
  · have H := Lib.hid (show min a b = a by omega)
    go_enter Tryd.func158, Tryd.ntmps158
    go_wp2
    go_ret
    exact ⟨ret_int H.out.symm, rfl⟩
  · have H := Lib.hid (show min a b = b by omega)
    go_enter Tryd.func158, Tryd.ntmps158
    go_wp2
    go_ret
    exact ⟨ret_int H.out.symm, rfl⟩
end Go.Proofs.YtlahobdopmdfmaaDoor

/- Src -/
namespace Go.Proofs.YtlahobdopmdfmaaDoor
open Go.RowKit

/-- The cells from this address on read as bytes. -/
structure RdU (w : World) (a : Option Addr) (zs : List Int) : Prop where
  len : zs.length ≤ 1000000000
  le : ∀ i, 0 ≤ nth zs i ∧ nth zs i ≤ 255
  cells : zs ≠ [] → ∃ b off, a = some ⟨b, off, none⟩ ∧ ∀ i, i < zs.length → w.cell? ⟨b, off + i, none⟩ = some (.int .u8 (nth zs i))
theorem RdU.at_ {w : World} {a : Option Addr} {zs : List Int} (h : RdU w a zs) {k : Nat} (hk : k < zs.length) :
    ∃ b off, a = some ⟨b, off, none⟩ ∧ w.cell? ⟨b, off + k, none⟩ = some (.int .u8 (nth zs k)) := by
  obtain ⟨b, off, rfl, hc⟩ := h.cells (by rintro rfl; simp at hk)
  exact ⟨b, off, rfl, hc k hk⟩
/-- What a source reads stays where it is, outside what is touched. -/
def Far (a : Option Addr) (g : Nat) : Prop := ∀ b off, a = some ⟨b, off, none⟩ → b < g
theorem RdU.lo {w w' : World} {a : Option Addr} {zs : List Int} {L : Nat} (h : RdU w a zs) (hb : Below L w w') (hf : Far a L) : RdU w' a zs := by
  refine ⟨h.len, h.le, fun hne => ?_⟩
  obtain ⟨b, off, rfl, hc⟩ := h.cells hne
  exact ⟨b, off, rfl, fun i hi => (hb.cell (p := ⟨b, off + i, none⟩) (hf b off rfl)).trans (hc i hi)⟩
theorem RdU.below {w w' : World} {a : Option Addr} {zs : List Int} (h : RdU w a zs) (hb : Below w.heap.size w w') : RdU w' a zs := by
  refine ⟨h.len, h.le, fun hne => ?_⟩
  obtain ⟨b, off, rfl, hc⟩ := h.cells hne
  exact ⟨b, off, rfl, fun i hi => (hb.cell (p := ⟨b, off + i, none⟩) (World.block_lt_of_cell? _ _ (hc i hi))).trans (hc i hi)⟩
theorem RdU.far {w : World} {a : Option Addr} {zs : List Int} (h : RdU w a zs) (hz : zs ≠ []) : Far a w.heap.size := by
  intro b off e
  obtain ⟨b', off', e', hc⟩ := h.cells hz
  rw [e] at e'
  injection e' with e'
  injection e' with e1 e2
  subst e1 e2
  have := hc 0 (List.length_pos_iff.2 hz)
  exact World.block_lt_of_cell? _ _ this

/-- Block g is a source that has given at most K numbers. -/
def Src (w : World) (g K : Nat) : Prop := ∃ a zs c k s, RdU w a zs ∧ (zs ≠ [] → Far a g) ∧ Bx w g 149 #[.slice a zs.length c, .int .i64 (k : Nat), .int .u64 s] ∧ k ≤ K
theorem Src.touch {w w' : World} {g K lo hi : Nat} (h : Src w g K) (ht : Touch lo hi w w') (hd : g < lo) : Src w' g K := by
  obtain ⟨a, zs, c, k, s, h1, h2, h3, h4⟩ := h
  refine ⟨a, zs, c, k, s, ⟨h1.len, h1.le, fun hne => ?_⟩, h2, h3.touch ht (.inl hd), h4⟩
  obtain ⟨b, off, rfl, hc⟩ := h1.cells hne
  have := h2 hne b off rfl
  exact ⟨b, off, rfl, fun i hi => keptT ht (hc i hi) (.inl (by omega))⟩
theorem Src.lo {w w' : World} {g K L : Nat} (h : Src w g K) (ht : Below L w w') (hd : g < L) : Src w' g K :=
  h.touch (lo := L) (hi := w'.heap.size + w.heap.size) ⟨ht.os, ht.tape, ht.output, ht.size, fun k _ ho => ht.block k (by omega)⟩ hd
theorem Src.lt {w : World} {g K : Nat} (h : Src w g K) : g < w.heap.size := by
  obtain ⟨_, _, _, _, _, _, _, h3, _⟩ := h
  exact h3.lt
theorem Src.mono {w : World} {g K M : Nat} (h : Src w g K) (hm : K ≤ M) : Src w g M := by
  obtain ⟨a, zs, c, k, s, h1, h2, h3, h4⟩ := h
  exact ⟨a, zs, c, k, s, h1, h2, h3, by omega⟩

theorem from_any (a : Option Addr) (zs : List Int) (c : Nat) (w : World) (h : RdU w a zs) :
    Calls Tryd.prog 87 #[.slice a zs.length c] w fun e w' => ∃ g, e = .returned (.pointer (some ⟨g, 0, none⟩)) ∧ w.heap.size ≤ g ∧ Src w' g 0 ∧ Below w.heap.size w w' := by
  go_enter Tryd.func87, Tryd.ntmps87
  go_wp2
  refine bodyPost_ret (v := .pointer (some ⟨w.heap.size, 0, none⟩)) (by simp [results, Tryd.results87, go_sem]) rfl ?_
  have hb : Below w.heap.size w (w.alloc (.cells #[.slice a zs.length c, .int .i64 0, .int .u64 0] 149)) := (by repeat (first | exact Below.refl _ _ | refine Below.setCell ?_ (by first | omega | (simp <;> omega)) _ | refine Below.alloc ?_ (by first | omega | (simp <;> omega)) _ | refine Below.drew ?_))
  exact ⟨_, rfl, Nat.le_refl _, ⟨a, zs, c, 0, 0, h.below hb, fun hz => h.far hz, Bx.new _ _ _, Nat.le_refl _⟩, hb⟩

theorem wrap_u64_small (n : Int) (h₀ : 0 ≤ n) (h₁ : n < 2 ^ 63) : IntKind.u64.wrap n = n := by rw [IntKind.wrap_u64]; omega
/-- The bits 40 .. 47 of a seed. -/
theorem seed_bits (s : Int) : ∃ z : Int, wrap64 (bits .and .u64 (IntKind.u64.wrap s / 1099511627776) 255) = z ∧ 0 ≤ z ∧ z ≤ 255 := by
  have h0 : 0 ≤ IntKind.u64.wrap s / 1099511627776 ∧ IntKind.u64.wrap s / 1099511627776 < 16777216 := by rw [IntKind.wrap_u64]; omega
  have h := bits_mask .u64 63 (by decide) wrap_u64_small 8 (by decide) (IntKind.u64.wrap s / 1099511627776) h0.1 (by omega)
  have e : ((2 : Int) ^ 8 - 1) = 255 := by decide
  have e2 : ((2 : Int) ^ 8) = 256 := by decide
  rw [e, e2] at h
  rw [h]
  refine ⟨_, rfl, ?_⟩
  have : wrap64 (IntKind.u64.wrap s / 1099511627776 % 256) = IntKind.u64.wrap s / 1099511627776 % 256 := by
    first
      | exact IntWalk.i64_in (IntKind.u64.wrap s / 1099511627776 % 256) (by omega)
      | exact (by unfold wrap64; omega)
  omega
theorem src_end {w : World} {g k K n m : Nat} {a : Option Addr} {zs : List Int} {c : Nat} {s t : Int} (h1 : RdU w a zs) (h2 : zs ≠ [] → Far a g) (h3 : Bx w g 149 #[.slice a zs.length c, .int .i64 (k : Nat), .int .u64 s]) (h4 : k ≤ K) :
    Src ((((w.drewN n).setCell ⟨g, 1, none⟩ (.int .i64 ((k : Int) + 1))).setCell ⟨g, 2, none⟩ (.int .u64 t)).drewN m) g (K + 1) ∧
    Touch g (g + 1) w ((((w.drewN n).setCell ⟨g, 1, none⟩ (.int .i64 ((k : Int) + 1))).setCell ⟨g, 2, none⟩ (.int .u64 t)).drewN m) := by
  have ht : Touch g (g + 1) w ((((w.drewN n).setCell ⟨g, 1, none⟩ (.int .i64 ((k : Int) + 1))).setCell ⟨g, 2, none⟩ (.int .u64 t)).drewN m) :=
    (((Touch.refl _ _ _).drewN n).setCell (by simp) (by simp) _).setCell (by simp) (by simp) _ |>.drewN m
  refine ⟨⟨a, zs, c, k + 1, t, ⟨h1.len, h1.le, fun hne => ?_⟩, h2, ?_, by omega⟩, ht⟩
  · obtain ⟨b, off, rfl, hc⟩ := h1.cells hne
    have := h2 hne b off rfl
    exact ⟨b, off, rfl, fun i hi => keptT ht (hc i hi) (.inl (by omega))⟩
  · simpa using (((h3.drewN n).set_ 1 (.int .i64 ((k : Int) + 1))).set_ 2 (.int .u64 t)).drewN m

theorem next_any (g K : Nat) (w : World) (h : Src w g K) (hK : K ≤ 1000000) :
    Calls Tryd.prog 159 #[.pointer (some ⟨g, 0, none⟩)] w fun e w' => ∃ z : Int, e = .returned (.int .i64 z) ∧ 0 ≤ z ∧ z ≤ 255 ∧ Src w' g (K + 1) ∧ Touch g (g + 1) w w' := by
  obtain ⟨a, zs, c, k, s, h1, h2, h3, h4⟩ := h
  have hlen := h1.len
  have hsz := h3.lt
  have c0 : w.cell? ⟨g, 0, none⟩ = some (.slice a zs.length c) := h3.at_ 0 rfl
  have c1 : w.cell? ⟨g, 1, none⟩ = some (.int .i64 (k : Nat)) := h3.at_ 1 rfl
  have c2 : w.cell? ⟨g, 2, none⟩ = some (.int .u64 s) := h3.at_ 2 rfl
  have f1 := h3.thaw 1
  have f2 := h3.thaw 2
  have v1 : IntKind.i64.wrap ((k : Int) + 1) = (k : Int) + 1 := IntWalk.i64_in _ (by omega)
  by_cases hlt : k < zs.length
  · obtain ⟨b, off, rfl, hc⟩ := h1.at_ hlt
    have hz := h1.le k
    have hlt' : ¬ zs.length < k + 1 := by omega
    go_enter Tryd.func159, Tryd.ntmps159
    go_wp2_with fail
    go_quiet (fail)
    go_wp2_with fail
    go_quiet (fail)
    go_wp2_with fail
    go_quiet (fail)
    go_wp2_with fail
    refine bodyPost_ret (v := .int .i64 (nth zs k)) (by simp [results, Tryd.results159, go_sem]) rfl ?_
    exact ⟨_, rfl, hz.1, hz.2, src_end h1 h2 h3 h4⟩
  · have hlt2 : ¬ k + 1 ≤ zs.length := by omega
    go_enter Tryd.func159, Tryd.ntmps159
    go_wp2_with fail
    go_quiet (fail)
    go_wp2_with fail
    go_quiet (fail)
    go_wp2_with fail
    obtain ⟨z, hz, z0, z1⟩ := seed_bits (IntKind.u64.wrap (IntKind.u64.wrap (s * 6364136223846793005)) + 1442695040888963407)
    rw [hz]
    refine bodyPost_ret (v := .int .i64 z) (by simp [results, Tryd.results159, go_sem]) rfl ?_
    exact ⟨_, rfl, z0, z1, src_end h1 h2 h3 h4⟩

theorem pick_any (g K : Nat) (n : Int) (w : World) (h : Src w g K) (hK : K ≤ 900000) (hn : n ≤ 10000) :
    Calls Tryd.prog 102 #[.pointer (some ⟨g, 0, none⟩), .int .i64 n] w fun e w' => ∃ z : Int, e = .returned (.int .i64 z) ∧ 0 ≤ z ∧ z ≤ max 0 (n - 1) ∧ Src w' g (K + 2) ∧ Touch g (g + 1) w w' := by
  by_cases h1 : n ≤ 1
  · go_enter Tryd.func102, Tryd.ntmps102
    go_wp2
    refine bodyPost_ret (v := .int .i64 0) (by simp [results, Tryd.results102, go_sem]) rfl ?_
    exact ⟨0, rfl, by omega, by omega, h.mono (by omega), Touch.refl _ _ _⟩
  · by_cases h2 : 200 < n
    · go_enter Tryd.func102, Tryd.ntmps102
      go_wp2_with fail
      refine (next_any g K w h (by omega)).mono ?_
      rintro e w1 ⟨x, rfl, x0, x1, hs1, ht1⟩
      have v1 : IntKind.i64.wrap (x * 256) = x * 256 := IntWalk.i64_in _ (by omega)
      go_wp2_with fail
      refine (next_any g (K + 1) w1 hs1 (by omega)).mono ?_
      rintro e w2 ⟨y, rfl, y0, y1, hs2, ht2⟩
      have v2 : IntKind.i64.wrap (x * 256 + y) = x * 256 + y := IntWalk.i64_in _ (by omega)
      go_wp2_with fail
      refine bodyPost_ret (v := .int .i64 ((x * 256 + y) % n)) (by simp [results, Tryd.results102, go_sem]) rfl ?_
      exact ⟨_, rfl, Int.emod_nonneg _ (by omega), by have := Int.emod_lt_of_pos (x * 256 + y) (b := n) (by omega); omega, hs2, ht1.trans ht2⟩
    · go_enter Tryd.func102, Tryd.ntmps102
      go_wp2_with fail
      refine (next_any g K w h (by omega)).mono ?_
      rintro e w1 ⟨x, rfl, x0, x1, hs1, ht1⟩
      go_wp2_with fail
      refine bodyPost_ret (v := .int .i64 (x % n)) (by simp [results, Tryd.results102, go_sem]) rfl ?_
      exact ⟨_, rfl, Int.emod_nonneg _ (by omega), by have := Int.emod_lt_of_pos x (b := n) (by omega); omega, hs1.mono (by omega), ht1⟩
end Go.Proofs.YtlahobdopmdfmaaDoor

/- DrawO -/
namespace Go.Proofs.YtlahobdopmdfmaaDoor
open Go.RowKit

theorem one_any (g K : Nat) (n : Int) (w : World) (h : Src w g K) (hK : K ≤ 900000) (hn : n ≤ 10000) :
    Calls Tryd.prog 100 #[.pointer (some ⟨g, 0, none⟩), .int .i64 n] w fun e w' => ∃ z : Bool, e = .returned (.bool z) ∧ Src w' g (K + 2) ∧ Touch g (g + 1) w w' := by
  go_enter Tryd.func100, Tryd.ntmps100
  go_wp2_with fail
  refine (pick_any g K n w h hK hn).mono ?_
  rintro e w1 ⟨x, rfl, x0, x1, hs1, ht1⟩
  go_wp2_with fail
  exact bodyPost_ret (v := .bool (x == 0)) (by simp [results, Tryd.results100, go_sem]) rfl ⟨_, rfl, hs1, ht1⟩
end Go.Proofs.YtlahobdopmdfmaaDoor

/- Row -/
namespace Go.Proofs.YtlahobdopmdfmaaDoor
open Go.RowKit

/-- v is a slice of the call's own: n elements of s cells each, which hold cs; it lies among the blocks lo .. hi - 1. -/
structure Row (t : TypeId) (s : Nat) (w : World) (lo hi : Nat) (v : Value) (n : Nat) (cs : List Value) : Prop where
  row : w.ownsRow lo t s v n cs
  top : ∀ k, v.ownBlock = some k → k < hi

section
variable {t : TypeId} {s : Nat} {w w' : World} {lo hi n : Nat} {v : Value} {cs : List Value}
theorem Row.lo_le (h : Row t s w lo hi v n cs) {k : Nat} (hk : v.ownBlock = some k) : lo ≤ k ∧ k < hi ∧ k < w.heap.size := ⟨(h.row.lt k hk).1, h.top k hk, (h.row.lt k hk).2⟩
theorem Row.touch {a b : Nat} (h : Row t s w lo hi v n cs) (ht : Touch a b w w') (hd : hi ≤ a ∨ b ≤ lo) : Row t s w' lo hi v n cs :=
  ⟨ownsRow_same h.row fun k hk => ht.block k (h.lo_le hk).2.2 (by have := h.lo_le hk; omega), h.top⟩
theorem Row.below (h : Row t s w lo hi v n cs) (hb : Below w.heap.size w w') : Row t s w' lo hi v n cs :=
  ⟨ownsRow_same h.row fun k hk => hb.block k (h.lo_le hk).2.2, h.top⟩
theorem Row.drewN (h : Row t s w lo hi v n cs) (k : Nat) : Row t s (w.drewN k) lo hi v n cs := ⟨h.row, h.top⟩
theorem Row.drew (h : Row t s w lo hi v n cs) : Row t s w.drew lo hi v n cs := ⟨h.row, h.top⟩
theorem Row.alloc (h : Row t s w lo hi v n cs) (o : Obj) : Row t s (w.alloc o) lo hi v n cs := ⟨h.row.alloc o, h.top⟩
theorem Row.setCell (h : Row t s w lo hi v n cs) {p : Addr} (hp : p.block < lo ∨ hi ≤ p.block) (u : Value) : Row t s (w.setCell p u) lo hi v n cs :=
  ⟨ownsRow_same h.row fun k hk => Below.heap_setCell _ _ _ _ (by have := h.lo_le hk; omega), h.top⟩
theorem Row.wide {lo' hi' : Nat} (h : Row t s w lo hi v n cs) (hl : lo' ≤ lo) (hh : hi ≤ hi') : Row t s w lo' hi' v n cs := by
  obtain ⟨⟨h1, h2⟩, h3⟩ := h
  refine ⟨⟨h1, ?_⟩, fun k hk => Nat.lt_of_lt_of_le (h3 k hk) hh⟩
  rcases h2 with h2 | ⟨g, cap, cur, rfl, hg, r⟩
  · exact .inl h2
  · exact .inr ⟨g, cap, cur, rfl, by omega, r⟩
theorem Row.form (h : Row t s w lo hi v n cs) : ∃ a c, v = .slice a n c := by
  rcases h.row.2 with ⟨rfl, hn⟩ | ⟨g, cap, cur, rfl, _⟩
  · exact ⟨none, 0, by rw [hn]⟩
  · exact ⟨_, _, rfl⟩
theorem row_nil (t : TypeId) (s : Nat) (w : World) (lo hi : Nat) : Row t s w lo hi (.slice none 0 0) 0 [] := ⟨World.ownsRow_nil _ _ _ _, by simp [Value.ownBlock]⟩
/-- A new block whose cells are all of its elements. -/
theorem row_new (t : TypeId) (s : Nat) (w : World) (cs : Array Value) (n : Nat) (hn : cs.size = n * s) (hm : n ≤ 1000000000) : Row t s (w.alloc (.cells cs t)) w.heap.size (w.heap.size + 1) (.slice (some ⟨w.heap.size, 0, none⟩) n n) n cs.toList := by
  refine ⟨⟨by simpa using hn, .inr ⟨w.heap.size, n, cs, rfl, Nat.le_refl _, heap_alloc_new w _, Nat.le_refl _, by unfold maxLen; omega, hn, ?_⟩⟩, fun k hk => ?_⟩
  · rw [List.take_of_length_le (by simpa using Nat.le_of_eq hn)]
  · simp [Value.ownBlock] at hk; omega
/-- The cells of an owned row. -/
theorem Row.cell {a : Addr} {c : Nat} (h : Row t s w lo hi (.slice (some a) n c) n cs) {j : Nat} {u : Value} (hj : cs[j]? = some u) : w.cell? (a.add j) = some u := by
  rcases h.row.2 with ⟨hv, _⟩ | ⟨g, cap, cur, hv, hg, hh, _, _, _, htk⟩
  · cases hv
  · injection hv with ha _ _
    injection ha with ha
    subst ha
    have hj2 : j < n * s := by
      have := h.row.1
      rcases Nat.lt_or_ge j cs.length with h1 | h1
      · omega
      · rw [List.getElem?_eq_none h1] at hj; cases hj
    have e : (cur.toList.take (n * s))[j]? = some u := by rw [htk]; exact hj
    rw [List.getElem?_take_of_lt hj2, Array.getElem?_toList] at e
    have ea : (⟨g, 0, none⟩ : Addr).add j = ⟨g, j, none⟩ := by
      by_cases h0 : j = 0
      · subst h0; rfl
      · simp [Addr.add, h0]
    rw [ea, cell_of_row w g j cur t (0, 0) hh]
    exact e
theorem Row.none_ {c : Nat} (h : Row t s w lo hi (.slice none n c) n cs) : n = 0 ∧ c = 0 ∧ cs = [] := by
  rcases h.row.2 with ⟨hv, hn⟩ | ⟨g, cap, cur, hv, _⟩
  · injection hv with _ _ hc
    exact ⟨hn, hc, List.eq_nil_of_length_eq_zero (by rw [h.row.1, hn, Nat.zero_mul])⟩
  · cases hv
theorem Row.len (h : Row t s w lo hi v n cs) : cs.length = n * s := h.row.1

section
variable {P : Program} {ops : Array Oper} {rest : List Oper} {o : Oper} {a : Act} {Q : Exit → Act → World → Prop}
/-- Elements that can be read, appended to a row of the call's own. -/
theorem wpList_appR (hgd : o.guard = none) (x y : Operand) (t e : TypeId) (ho : o.op = .call { callee := .builtin .append, args := #[x, y], argTypes := #[t, t] }) (z0 : Value) (s bytes : Nat)
    (ht : P.underlying t = some (.slice e)) (hinfo : (P.info? e).map (fun i => (i.zero, i.size, i.bytes)) = some (some z0, s, bytes)) (hz1 : z0.cells.size = s) (hs0 : 0 < s) (hby : bytes ≤ 128) {lo hi n : Nat} {A : Option Addr} {C : Nat} {cs : List Value}
    (hx : a.eval x = .slice A n C) (row : Row e s w lo hi (.slice A n C) n cs)
    (ad : Addr) (m c : Nat) (news : List Value) (hy : a.eval y = .slice (some ad) m c) (hl : news.length = m * s) (hc : ∀ j u, news[j]? = some u → w.cell? (ad.add j) = some u) (h1 : ∀ u ∈ news, u.oneCell' = true) (hn : n + m ≤ 1000000000) (hlo : lo ≤ w.heap.size)
    (h : ∀ A' C' w', Row e s w' lo w'.heap.size (.slice A' (n + m) C') (n + m) (cs ++ news) → Touch lo hi w w' → wpList P ops Q rest (a.put o.dst (.slice A' (n + m) C')) w') :
    wpList P ops Q (o :: rest) a w := by
  obtain ⟨i, hi1, hi2, hi3, hi4⟩ := info_parts hinfo
  refine wpList_append_own w hgd x y t ho lo e i z0 s bytes ht hi1 hi2 hi3 hi4 hz1 hs0 _ n cs hx row.row ad m c news hy hl hc h1 (by unfold maxLen; omega) ?_ hlo ?_
  · have : (n + m) * bytes ≤ 1000000000 * 128 := Nat.mul_le_mul hn hby
    omega
  · intro v' w' hown hg _
    have hT : Touch lo hi w w' := ⟨hg.os, hg.tape, hg.output, hg.size, fun k hk ho' => hg.block k hk (by
      intro he
      have := row.lo_le he.symm
      omega)⟩
    have hform : ∃ A' C', v' = .slice A' (n + m) C' := by
      rcases hown.2 with ⟨h0, h0'⟩ | ⟨g, cap, cur, hv, _⟩
      · exact ⟨none, 0, by rw [h0, h0']⟩
      · exact ⟨_, _, hv⟩
    obtain ⟨A', C', rfl⟩ := hform
    exact h A' C' w' ⟨hown, fun k hk => (hown.lt k hk).2⟩ hT
end
end
theorem own_of_row {t : TypeId} {w : World} {lo hi n : Nat} {v : Value} {zs : List Int} (h : Row t 1 w lo hi v n (zs.map (Value.int .i64))) (hn : n = zs.length) (hl : zs.length ≤ 1000000000) : Own t w lo hi v zs := by
  subst hn; exact ⟨h.row, h.top, hl⟩
end Go.Proofs.YtlahobdopmdfmaaDoor

/- ToI -/
namespace Go.Proofs.YtlahobdopmdfmaaDoor
open Go.RowKit

theorem info_int64 : (Tryd.prog.info? 2).map (fun i => (i.zero, i.size, i.bytes)) = some (some (.int .i64 0), 1, 8) := by kernel_rfl

/-- What has been copied when k rounds are over. -/
def cop (zs : List Int) (k : Nat) : List Int := zs.take k ++ List.replicate (zs.length - k) 0
theorem cop_len {zs : List Int} {k : Nat} (h : k ≤ zs.length) : (cop zs k).length = zs.length := by simp [cop, Nat.min_eq_left h]; omega
theorem cop_set {zs : List Int} {k : Nat} (h : k < zs.length) : (cop zs k).set k (nth zs k) = cop zs (k + 1) := by
  unfold cop
  rw [List.set_append_right _ _ (by simp; omega), nth_get h]
  have : zs.length - k = (zs.length - (k + 1)) + 1 := by omega
  rw [this, List.replicate_succ, List.take_succ_eq_append_getElem h, List.length_take, Nat.min_eq_left (Nat.le_of_lt h), Nat.sub_self, List.set_cons_zero, List.append_assoc, List.singleton_append]
theorem cop_all (zs : List Int) : cop zs zs.length = zs := by simp [cop]

set_option maxHeartbeats 400000 in
theorem toInt64S_any (a : Option Addr) (c : Nat) (zs : List Int) (w : World) (ha : Rd w a zs) :
    Calls Tryd.prog 72 #[.slice a zs.length c] w fun e w' => ∃ A C, e = .returned (.slice A zs.length C) ∧
      Own 2 w' w.heap.size w'.heap.size (.slice A zs.length C) zs ∧ Below w.heap.size w w' := by
  have hx1 := ha.len
  obtain ⟨i0, hi, hz0, hz1, hz2⟩ := info_parts info_int64
  go_enter Tryd.func72, Tryd.ntmps72
  go_wp2_with (at_make; refine wpList_make_full _ rfl _ _ _ rfl w.heap.size 2 i0 (.int .i64 0) 1 Tryd.underlying24 hi hz0 hz1 _ _ _ _ zs.length rfl rfl rfl rfl ?_ ?_ (Nat.le_refl _) ?_)
  · rw [hz2]; omega
  · unfold maxLen; omega
  · intro w1 hown1 hg1
    go_wp2
    go_loopw [4] (fun i wr => ∃ k : Nat, k ≤ zs.length ∧ i = .int .i64 k ∧ wr.ownsRow w.heap.size 2 1 (.slice (some ⟨w.heap.size, 0, none⟩) zs.length zs.length) zs.length ((cop zs k).map (Value.int .i64)) ∧ Below w.heap.size w wr) (fun i _ => zs.length - (intOf i).toNat)
    case atStart => exact ⟨0, Nat.zero_le _, rfl, by simpa [cop, toList_madeCells_one, Value.cells] using hown1, (Below.refl _ _).grown hg1 (Nat.le_refl _) (by simp)⟩
    case round =>
      obtain ⟨k, hk, rfl, hown, hbel⟩ := hrel
      by_cases hlt : k < zs.length
      · obtain ⟨b, off, rfl, hc0⟩ := ha.at_ hlt
        have hc1 := (hbel.cell (p := ⟨b, off + k, none⟩) (World.block_lt_of_cell? _ _ hc0)).trans hc0
        have hcell : wr.cell? ⟨w.heap.size, k, none⟩ = some (.int .i64 (nth (cop zs k) k)) := by
          rw [hown.cellAt k (by omega), List.getElem?_map, List.getElem?_eq_getElem (by rw [cop_len hk]; exact hlt), nth_get (by rw [cop_len hk]; exact hlt)]; rfl
        have hfr := hown.frozenAt k
        have hst := hown.stored k (.int .i64 (nth zs k))
        rw [← List.map_set, cop_set hlt] at hst
        have HST := Lib.hid hst
        clear hst hc0 hown1 hg1
        go_wp2
        go_roundw
        case rel => exact ⟨k + 1, by omega, by go_num, HST.out.1, hbel.setCell (by simp) _⟩
        case measure => simp [intOf]; omega
      · obtain rfl : k = zs.length := by omega
        rw [cop_all] at hown
        go_wp2
        go_ret
        exact ⟨_, _, rfl, ⟨hown, fun k hk => (hown.lt k hk).2, hx1⟩, hbel⟩
end Go.Proofs.YtlahobdopmdfmaaDoor

/- Among -/
namespace Go.Proofs.YtlahobdopmdfmaaDoor
open Go.RowKit

theorem rd_at0 {w : World} {b : Nat} {zs : List Int} {k : Nat} (h : Rd w (some ⟨b, 0, none⟩) zs) (hk : k < zs.length) : w.cell? ⟨b, k, none⟩ = some (.int .i64 (nth zs k)) := by
  obtain ⟨b', o', e, hc⟩ := h.at_ hk
  injection e with e
  injection e with e1 e2
  subst e1 e2
  simpa using hc
theorem among_any (s K g c : Nat) (zs : List Int) (w : World) (h : Src w s K) (hK : K ≤ 800000) (hz : Rd w (some ⟨g, 0, none⟩) zs) (hg : s < g) (h1 : 1 ≤ zs.length) (h2 : zs.length ≤ 1000) :
    Calls Tryd.prog 116 #[.pointer (some ⟨s, 0, none⟩), .slice (some ⟨g, 0, none⟩) zs.length c] w fun e w' => ∃ z, e = .returned (.int .i64 z) ∧ z ∈ zs ∧ Src w' s (K + 2) ∧ Touch s (s + 1) w w' := by
  go_enter Tryd.func116, Tryd.ntmps116
  go_wp2_with fail
  refine (pick_any s K (zs.length : Int) w h (by omega) (by omega)).mono ?_
  rintro e w1 ⟨z, rfl, z0, z1, hs1, ht1⟩
  obtain ⟨k, rfl⟩ := Int.eq_ofNat_of_zero_le z0
  have hk : k < zs.length := by omega
  have hc := keptT ht1 (rd_at0 hz hk) (by omega)
  have HM := Lib.hid (show nth zs k ∈ zs by rw [nth_get hk]; exact List.getElem_mem hk)
  clear z0 z1 hz
  go_wp2_with fail
  go_ret
  exact ⟨nth zs k, rfl, HM.out, hs1, ht1⟩
theorem rd_new (w : World) (zs : List Int) (h : zs.length ≤ 1000) : Rd (w.alloc (.cells (zs.map (Value.int .i64)).toArray 2)) (some ⟨w.heap.size, 0, none⟩) zs := by
  refine ⟨by omega, fun _ => ⟨w.heap.size, 0, rfl, fun i hi => ?_⟩⟩
  rw [Nat.zero_add, (Bx.new w (zs.map (Value.int .i64)).toArray 2).cell i, nth_get hi]
  simp [hi]

theorem mid64 {z : Int} (h0 : -1000000 ≤ z) (h1 : z ≤ 1000000) : I64 z := by
  unfold I64
  simp [Lit.wf, IntKind.min, IntKind.max, IntKind.signed, IntKind.bits]
  omega
end Go.Proofs.YtlahobdopmdfmaaDoor

/- Own2 -/
namespace Go.Proofs.YtlahobdopmdfmaaDoor
open Go.RowKit

theorem Touch.widen {lo hi lo' hi' : Nat} {w w' : World} (h : Touch lo hi w w') (h1 : lo' ≤ lo) (h2 : hi ≤ hi') : Touch lo' hi' w w' :=
  ⟨h.os, h.tape, h.output, h.size, fun k hk ho => h.block k hk (by omega)⟩
theorem Touch.then_ {a b lo hi : Nat} {w w1 w2 : World} (h : Touch a b w w1) (k : Touch lo hi w1 w2) (hl : w.heap.size ≤ lo) : Touch a b w w2 :=
  ⟨k.os.trans h.os, k.tape.trans h.tape, k.output.trans h.output, Nat.le_trans h.size k.size, fun i hi ho => (k.block i (by have := h.size; omega) (.inl (by omega))).trans (h.block i hi ho)⟩
/-- What is owned lies below the heap's size. -/
theorem Own.tight {t : TypeId} {w : World} {lo hi : Nat} {v : Value} {zs : List Int} (h : Own t w lo hi v zs) : Own t w lo (min hi w.heap.size) v zs :=
  ⟨h.row, fun k hk => by have := h.lo_le hk; omega, h.len⟩

/-- Two rows that can be read. -/
structure Rd2 (w : World) (a : Option Addr) (z1 : List Int) (b : Option Addr) (z2 : List Int) : Prop where
  p : Rd w a z1
  q : Rd w b z2
theorem Rd2.below {w w' : World} {a b : Option Addr} {z1 z2 : List Int} (h : Rd2 w a z1 b z2) (hb : Below w.heap.size w w') : Rd2 w' a z1 b z2 := ⟨h.p.below hb, h.q.below hb⟩
theorem Rd2.drewN {w : World} {a b : Option Addr} {z1 z2 : List Int} (h : Rd2 w a z1 b z2) (n : Nat) : Rd2 (w.drewN n) a z1 b z2 := ⟨h.p.drewN n, h.q.drewN n⟩
theorem Rd2.len {w : World} {a b : Option Addr} {z1 z2 : List Int} (h : Rd2 w a z1 b z2) : z1.length ≤ 1000000000 ∧ z2.length ≤ 1000000000 := ⟨h.p.len, h.q.len⟩

/-- Two rows that came in: of whatever length. -/
structure Raw2 (w : World) (a : Option Addr) (z1 : List Int) (b : Option Addr) (z2 : List Int) : Prop where
  p : Raw w a z1
  q : Raw w b z2
theorem Raw2.len {w : World} {a b : Option Addr} {z1 z2 : List Int} (h : Raw2 w a z1 b z2) : z1.length ≤ 9223372036854775807 ∧ z2.length ≤ 9223372036854775807 := ⟨h.p.len, h.q.len⟩
theorem Raw2.wf {w : World} {a b : Option Addr} {z1 z2 : List Int} (h : Raw2 w a z1 b z2) : All64 z1 ∧ All64 z2 := ⟨h.p.wf, h.q.wf⟩
theorem Raw2.rd {w : World} {a b : Option Addr} {z1 z2 : List Int} (h : Raw2 w a z1 b z2) (hl : z1.length + z2.length ≤ 1000000000) : Rd2 w a z1 b z2 := ⟨h.p.rd (by omega), h.q.rd (by omega)⟩

/-- Two slices of the call's own, among the blocks lo .. hi - 1, apart from each other. -/
structure Own2 (t : TypeId) (w : World) (lo hi : Nat) (u : Value) (z1 : List Int) (v : Value) (z2 : List Int) : Prop where
  ex : ∃ l1 h1 l2 h2, Own t w l1 h1 u z1 ∧ Own t w l2 h2 v z2 ∧ lo ≤ l1 ∧ h1 ≤ hi ∧ lo ≤ l2 ∧ h2 ≤ hi ∧ (h1 ≤ l2 ∨ h2 ≤ l1)
section
variable {t : TypeId} {w w' : World} {lo hi : Nat} {u v : Value} {z1 z2 : List Int}
theorem Own2.touch {a b : Nat} (h : Own2 t w lo hi u z1 v z2) (ht : Touch a b w w') (hd : hi ≤ a ∨ b ≤ lo) : Own2 t w' lo hi u z1 v z2 := by
  obtain ⟨l1, h1, l2, h2, o1, o2, s⟩ := h.ex
  exact ⟨l1, h1, l2, h2, o1.touch ht (by omega), o2.touch ht (by omega), s⟩
theorem Own2.below (h : Own2 t w lo hi u z1 v z2) (hb : Below w.heap.size w w') : Own2 t w' lo hi u z1 v z2 := by
  obtain ⟨l1, h1, l2, h2, o1, o2, s⟩ := h.ex
  exact ⟨l1, h1, l2, h2, o1.below hb, o2.below hb, s⟩
theorem Own2.low {L : Nat} (h : Own2 t w lo hi u z1 v z2) (hb : Below L w w') (hg : hi ≤ L) : Own2 t w' lo hi u z1 v z2 := by
  obtain ⟨l1, h1, l2, h2, o1, o2, s⟩ := h.ex
  exact ⟨l1, h1, l2, h2, Own.lo o1 hb (by omega), Own.lo o2 hb (by omega), s⟩
theorem Own2.drewN (h : Own2 t w lo hi u z1 v z2) (n : Nat) : Own2 t (w.drewN n) lo hi u z1 v z2 := h.below (bel_drewN (Below.refl _ _) n)
theorem Own2.drew (h : Own2 t w lo hi u z1 v z2) : Own2 t w.drew lo hi u z1 v z2 := h.below ((Below.refl _ _).drew)
theorem Own2.alloc (h : Own2 t w lo hi u z1 v z2) (o : Obj) : Own2 t (w.alloc o) lo hi u z1 v z2 := h.below ((Below.refl _ _).alloc (Nat.le_refl _) o)
theorem Own2.setCell (h : Own2 t w lo hi u z1 v z2) {p : Addr} (hp : p.block < lo ∨ hi ≤ p.block) (x : Value) : Own2 t (w.setCell p x) lo hi u z1 v z2 := by
  obtain ⟨l1, h1, l2, h2, o1, o2, s⟩ := h.ex
  exact ⟨l1, h1, l2, h2, o1.setCell (by omega) x, o2.setCell (by omega) x, s⟩
theorem Own2.wide {lo' hi' : Nat} (h : Own2 t w lo hi u z1 v z2) (hl : lo' ≤ lo) (hh : hi ≤ hi') : Own2 t w lo' hi' u z1 v z2 := by
  obtain ⟨l1, h1, l2, h2, o1, o2, s⟩ := h.ex
  exact ⟨l1, h1, l2, h2, o1, o2, by omega⟩
theorem Own2.len (h : Own2 t w lo hi u z1 v z2) : z1.length ≤ 1000000000 ∧ z2.length ≤ 1000000000 := by
  obtain ⟨l1, h1, l2, h2, o1, o2, s⟩ := h.ex
  exact ⟨o1.len, o2.len⟩
theorem Own2.rd {a b : Option Addr} {n c m d : Nat} (h : Own2 t w lo hi (.slice a n c) z1 (.slice b m d) z2) : Rd2 w a z1 b z2 := by
  obtain ⟨l1, h1, l2, h2, o1, o2, s⟩ := h.ex
  exact ⟨o1.rd, o2.rd⟩
theorem own2_nil (lo hi : Nat) (hl : lo ≤ hi) : Own2 t w lo hi (.slice none 0 0) [] (.slice none 0 0) [] :=
  ⟨lo, lo, lo, lo, ⟨World.ownsRow_nil _ _ _ _, by simp [Value.ownBlock], by simp⟩, ⟨World.ownsRow_nil _ _ _ _, by simp [Value.ownBlock], by simp⟩, by omega⟩
end
end Go.Proofs.YtlahobdopmdfmaaDoor

/- AccD -/
namespace Go.Proofs.YtlahobdopmdfmaaDoor
open Go.RowKit

theorem i64_in64 {z : Int} (h0 : -9223372036854775808 ≤ z) (h1 : z ≤ 9223372036854775807) : I64 z := by
  unfold I64
  simp [Lit.wf, IntKind.min, IntKind.max, IntKind.signed, IntKind.bits]
  omega

set_option maxHeartbeats 4000000 in
theorem l09DrawSize_any (s N : Nat) (w : World) (h : Src w s N) (hN : N ≤ 600000) :
    Calls Tryd.prog 98 #[.pointer (some ⟨s, 0, none⟩)] w fun e w' => ∃ b n : Int, e = .returned (.tuple #[.int .i64 b, .int .i64 n]) ∧ (1 ≤ b ∧ b ≤ 17) ∧ (0 ≤ n ∧ n ≤ 17) ∧
      Touch s (s + 1) w w' ∧ Src w' s (N + 6) := by
  have hs := h.lt
  go_enter Tryd.func98, Tryd.ntmps98
  go_wp2_with fail
  refine (one_any s N 8 w h (by omega) (by omega)).mono ?_
  rintro e w1 ⟨x, rfl, hs1, ht1⟩
  have hl1 := ht1.size
  clear h
  cases x with
  | true =>
    go_wp2_with fail
    have hal : Below w1.heap.size w1 (w1.alloc (.cells ([1, 2, 10, 16, 17].map (Value.int .i64)).toArray 2)) := (Below.refl _ _).alloc (Nat.le_refl _) _
    refine (among_any s _ w1.heap.size 5 [1, 2, 10, 16, 17] _ (hs1.lo (L := w1.heap.size) hal (by omega)) (by omega) (rd_new w1 [1, 2, 10, 16, 17] (by simp)) (by omega) (by simp) (by simp)).mono ?_
    rintro e w2 ⟨b, rfl, hb, hs2, ht2⟩
    have t2 := (ht1.trans (Below.touch hal)).trans ht2
    have hl2 := t2.size
    have b1 : 1 ≤ b ∧ b ≤ 17 := by simp at hb; omega
    clear ht2 hal hs1 hb ht1
    go_wp2_with fail
    have hal : Below w2.heap.size w2 (w2.alloc (.cells ([0, 1, 12, 13, 16, 17].map (Value.int .i64)).toArray 2)) := (Below.refl _ _).alloc (Nat.le_refl _) _
    refine (among_any s _ w2.heap.size 6 [0, 1, 12, 13, 16, 17] _ (hs2.lo (L := w2.heap.size) hal (by omega)) (by omega) (rd_new w2 [0, 1, 12, 13, 16, 17] (by simp)) (by omega) (by simp) (by simp)).mono ?_
    rintro e w3 ⟨n, rfl, hn, hs3, ht3⟩
    have t3 := (t2.trans (Below.touch hal)).trans ht3
    have n1 : 0 ≤ n ∧ n ≤ 17 := by simp at hn; omega
    clear ht3 hal hs2 hn t2
    go_wp2_with fail
    exact bodyPost_ret (v := .tuple #[.int .i64 b, .int .i64 n]) (by simp [results, Tryd.results98, go_sem]) rfl ⟨b, n, rfl, b1, n1, t3, hs3.mono (by omega)⟩
  | false =>
    go_wp2_with fail
    refine (pick_any s _ 11 _ hs1 (by omega) (by omega)).mono ?_
    rintro e w2 ⟨y, rfl, y0, y1, hs2, ht2⟩
    have t2 := ht1.trans ht2
    have v1 : IntKind.i64.wrap (2 + y) = 2 + y := fits_int _ (by omega) (by omega)
    clear ht1 ht2 hs1
    go_wp2_with fail
    refine (pick_any s _ 6 _ hs2 (by omega) (by omega)).mono ?_
    rintro e w3 ⟨z, rfl, z0, z1, hs3, ht3⟩
    have t3 := t2.trans ht3
    have v2 : IntKind.i64.wrap (1 + z) = 1 + z := fits_int _ (by omega) (by omega)
    clear t2 ht3 hs2
    go_wp2_with fail
    exact bodyPost_ret (v := .tuple #[.int .i64 (2 + y), .int .i64 (1 + z)]) (by simp [results, Tryd.results98, go_sem]) rfl ⟨2 + y, 1 + z, rfl, by omega, by omega, t3, hs3.mono (by omega)⟩

set_option maxHeartbeats 4000000 in
theorem l09DrawNumber_any (s N : Nat) (w : World) (h : Src w s N) (hN : N ≤ 600000) :
    Calls Tryd.prog 104 #[.pointer (some ⟨s, 0, none⟩)] w fun e w' => ∃ n : Int, e = .returned (.int .i64 n) ∧ I64 n ∧ Touch s (s + 1) w w' ∧ Src w' s (N + 8) := by
  have hs := h.lt
  go_enter Tryd.func104, Tryd.ntmps104
  go_wp2_with fail
  refine (one_any s N 12 w h (by omega) (by omega)).mono ?_
  rintro e w1 ⟨x, rfl, hs1, ht1⟩
  have hl1 := ht1.size
  clear h
  cases x with
  | true =>
    go_wp2_with fail
    have hal : Below w1.heap.size w1 (w1.alloc (.cells ([-1000000000001, -1000000000000, 1000000000000, 1000000000001, -9223372036854775808].map (Value.int .i64)).toArray 2)) := (Below.refl _ _).alloc (Nat.le_refl _) _
    refine (among_any s _ w1.heap.size 5 [-1000000000001, -1000000000000, 1000000000000, 1000000000001, -9223372036854775808] _ (hs1.lo (L := w1.heap.size) hal (by omega)) (by omega) (rd_new w1 [-1000000000001, -1000000000000, 1000000000000, 1000000000001, -9223372036854775808] (by simp)) (by omega) (by simp) (by simp)).mono ?_
    rintro e w2 ⟨b, rfl, hb, hs2, ht2⟩
    have t2 := (ht1.trans (Below.touch hal)).trans ht2
    have b1 : I64 b := by simp at hb; exact i64_in64 (by omega) (by omega)
    clear ht2 hal hs1 hb ht1
    go_wp2_with fail
    exact bodyPost_ret (v := .int .i64 b) (by simp [results, Tryd.results104, go_sem]) rfl ⟨b, rfl, b1, t2, hs2.mono (by omega)⟩
  | false =>
    go_wp2_with fail
    refine (pick_any s _ 200 _ hs1 (by omega) (by omega)).mono ?_
    rintro e w2 ⟨y, rfl, y0, y1, hs2, ht2⟩
    have t2 := ht1.trans ht2
    have v1 : IntKind.i64.wrap (y - 100) = y - 100 := fits_int _ (by omega) (by omega)
    clear ht1 ht2 hs1
    go_wp2_with fail
    refine (pick_any s _ 2 _ hs2 (by omega) (by omega)).mono ?_
    rintro e w3 ⟨z, rfl, z0, z1, hs3, ht3⟩
    have t3 := t2.trans ht3
    clear t2 ht3 hs2
    go_wp2_with fail
    refine (pick_any s _ 1000 _ hs3 (by omega) (by omega)).mono ?_
    rintro e w4 ⟨u, rfl, u0, u1, hs4, ht4⟩
    have t4 := t3.trans ht4
    obtain ⟨q, hq⟩ : ∃ q, q = z * u := ⟨_, rfl⟩
    have q1 : 0 ≤ q ∧ q ≤ 1000 := by
      have hz : z = 0 ∨ z = 1 := by omega
      rcases hz with rfl | rfl <;> omega
    have v2 : IntKind.i64.wrap (z * u) = z * u := fits_int _ (by omega) (by omega)
    have v3 : IntKind.i64.wrap (1 + z * u) = 1 + z * u := fits_int _ (by omega) (by omega)
    obtain ⟨p, hp⟩ : ∃ p, p = (y - 100) * (1 + q) := ⟨_, rfl⟩
    have p1 : -200000 ≤ p ∧ p ≤ 200000 := by
      have e1 := Int.mul_le_mul_of_nonneg_right (show y - 100 ≤ 100 by omega) (show 0 ≤ 1 + q by omega)
      have e2 := Int.mul_le_mul_of_nonneg_right (show -100 ≤ y - 100 by omega) (show 0 ≤ 1 + q by omega)
      omega
    have v4 : IntKind.i64.wrap ((y - 100) * (1 + z * u)) = (y - 100) * (1 + z * u) := by rw [← hq, ← hp]; exact fits_int _ (by omega) (by omega)
    clear t3 ht4 hs3
    go_wp2_with fail
    exact bodyPost_ret (v := .int .i64 ((y - 100) * (1 + z * u))) (by simp [results, Tryd.results104, go_sem]) rfl ⟨_, rfl, by rw [← hq, ← hp]; exact i64_in64 (by omega) (by omega), t4, hs4.mono (by omega)⟩
end Go.Proofs.YtlahobdopmdfmaaDoor

/- App -/
namespace Go.Proofs.YtlahobdopmdfmaaDoor
open Go.RowKit

section
variable {P : Program} {ops : Array Oper} {rest : List Oper} {o : Oper} {a : Act} {Q : Exit → Act → World → Prop} {w : World}

/-- One cell more, appended to a row of the call's own. -/
theorem wp_app1 {K : Act → World → Prop} (s x : Operand) (t e : TypeId) (ho : o.op = .call { callee := .builtin .append, args := #[s, x], argTypes := #[t, t] }) (z0 : Value) (bytes : Nat)
    (ht : P.underlying t = some (.slice e)) (hinfo : (P.info? e).map (fun i => (i.zero, i.size, i.bytes)) = some (some z0, 1, bytes)) (hz1 : z0.cells.size = 1) (hby : bytes ≤ 64) {lo hi n : Nat} {A : Option Addr} {C : Nat} {cs : List Value}
    (hs : a.eval s = .slice A n C) (row : w.ownsRow lo e 1 (.slice A n C) n cs) (top : ∀ k, (Value.slice A n C).ownBlock = some k → k < hi)
    (ad : Addr) (c : Nat) (u : Value) (hx : a.eval x = .slice (some ad) 1 c) (hc : w.cell? (ad.add 0) = some u) (h1 : u.oneCell' = true) (hn : n ≤ 2000000000) (hlo : lo ≤ w.heap.size)
    (h : ∀ A' C' w', w'.ownsRow lo e 1 (.slice A' (n + 1) C') (n + 1) (cs ++ [u]) → (∀ k, (Value.slice A' (n + 1) C').ownBlock = some k → k < w'.heap.size) → Touch lo hi w w' → K (a.put o.dst (.slice A' (n + 1) C')) w') :
    o.wp P a w K Q := by
  obtain ⟨i, hi1, hi2, hi3, hi4⟩ := info_parts hinfo
  refine wp_append_own w s x t ho lo e i z0 1 bytes ht hi1 hi2 hi3 hi4 hz1 (by omega) _ n cs hs row ad 1 c [u] hx rfl ?_ (by simpa using h1) (by unfold maxLen; omega) ?_ hlo ?_
  · intro j v hj
    match j, hj with
    | 0, hj => simp at hj; subst hj; exact hc
  · have : (n + 1) * bytes ≤ 2000000001 * 64 := Nat.mul_le_mul (by omega) hby
    omega
  · intro v' w' hown hg _
    have hT : Touch lo hi w w' := ⟨hg.os, hg.tape, hg.output, hg.size, fun k hk ho' => hg.block k hk (by
      intro he
      have h2 := top k he.symm
      have h3 := (row.lt k he.symm).1
      omega)⟩
    have hform : ∃ A' C', v' = .slice A' (n + 1) C' := by
      rcases hown.2 with ⟨_, h0⟩ | ⟨g, cap, cur, hv, _⟩
      · omega
      · exact ⟨_, _, hv⟩
    obtain ⟨A', C', rfl⟩ := hform
    exact h A' C' w' hown (fun k hk => (hown.lt k hk).2) hT

/-- The same for numbers. -/
theorem wp_appI {K : Act → World → Prop} (s x : Operand) (t e : TypeId) (ho : o.op = .call { callee := .builtin .append, args := #[s, x], argTypes := #[t, t] })
    (ht : P.underlying t = some (.slice e)) (hinfo : (P.info? e).map (fun i => (i.zero, i.size, i.bytes)) = some (some (.int .i64 0), 1, 8)) {lo hi n : Nat} {A : Option Addr} {C : Nat} {zs : List Int}
    (hs : a.eval s = .slice A n C) (hown : Own e w lo hi (.slice A n C) zs) (hl : zs.length = n)
    (ad : Addr) (c : Nat) (z : Int) (hx : a.eval x = .slice (some ad) 1 c) (hc : w.cell? (ad.add 0) = some (.int .i64 z)) (hn : n < 1000000000) (hlo : lo ≤ w.heap.size)
    (h : ∀ A' C' w', Own e w' lo w'.heap.size (.slice A' (n + 1) C') (zs ++ [z]) → Touch lo hi w w' → K (a.put o.dst (.slice A' (n + 1) C')) w') :
    o.wp P a w K Q :=
  wp_app1 s x t e ho _ 8 ht hinfo rfl (by omega) hs (by have := hown.row; rwa [hl] at this) hown.top ad c _ hx hc rfl (by omega) hlo fun A' C' w' hr ht' hT =>
    h A' C' w' ⟨by simpa [hl] using hr, ht', by simp; omega⟩ hT

theorem wpList_appI (hgd : o.guard = none) (s x : Operand) (t e : TypeId) (ho : o.op = .call { callee := .builtin .append, args := #[s, x], argTypes := #[t, t] })
    (ht : P.underlying t = some (.slice e)) (hinfo : (P.info? e).map (fun i => (i.zero, i.size, i.bytes)) = some (some (.int .i64 0), 1, 8)) {lo hi n : Nat} {A : Option Addr} {C : Nat} {zs : List Int}
    (hs : a.eval s = .slice A n C) (hown : Own e w lo hi (.slice A n C) zs) (hl : zs.length = n)
    (ad : Addr) (c : Nat) (z : Int) (hx : a.eval x = .slice (some ad) 1 c) (hc : w.cell? (ad.add 0) = some (.int .i64 z)) (hn : n < 1000000000) (hlo : lo ≤ w.heap.size)
    (h : ∀ A' C' w', Own e w' lo w'.heap.size (.slice A' (n + 1) C') (zs ++ [z]) → Touch lo hi w w' → wpList P ops Q rest (a.put o.dst (.slice A' (n + 1) C')) w') :
    wpList P ops Q (o :: rest) a w :=
  wpList_plain hgd fun _ hK => wp_appI s x t e ho ht hinfo hs hown hl ad c z hx hc hn hlo fun A' C' w' h1 h2 => hK _ _ (h A' C' w' h1 h2)
end

theorem own_nil (e : TypeId) (w : World) (lo hi : Nat) : Own e w lo hi (.slice none 0 0) [] := ⟨World.ownsRow_nil _ _ _ _, by simp [Value.ownBlock], by simp⟩

section
variable {t : TypeId} {w : World} {lo hi g n c : Nat} {zs : List Int}
theorem Own.get (h : Own t w lo hi (.slice (some ⟨g, 0, none⟩) n c) zs) {j : Nat} (hj : j < zs.length) : w.cell? ⟨g, j, none⟩ = some (.int .i64 (nth zs j)) := by
  have hn : n = zs.length := by
    rcases h.row.2 with ⟨h0, _⟩ | ⟨_, _, _, hv, _⟩
    · cases h0
    · injection hv
  subst hn
  rw [h.row.cellAt j (by omega), List.getElem?_map, List.getElem?_eq_getElem hj, nth_get hj]
  rfl
theorem Own.thaw (h : Own t w lo hi (.slice (some ⟨g, 0, none⟩) n c) zs) (j : Nat) : w.frozen? ⟨g, j, none⟩ = false := by
  have hn : n = zs.length := by
    rcases h.row.2 with ⟨h0, _⟩ | ⟨_, _, _, hv, _⟩
    · cases h0
    · injection hv
  subst hn
  exact h.row.frozenAt j
theorem Own.put (h : Own t w lo hi (.slice (some ⟨g, 0, none⟩) n c) zs) (j : Nat) (z : Int) : Own t (w.setCell ⟨g, j, none⟩ (.int .i64 z)) lo hi (.slice (some ⟨g, 0, none⟩) n c) (zs.set j z) := by
  have hn : n = zs.length := by
    rcases h.row.2 with ⟨h0, _⟩ | ⟨_, _, _, hv, _⟩
    · cases h0
    · injection hv
  subst hn
  have hs := (h.row.stored j (.int .i64 z)).1
  rw [← List.map_set] at hs
  exact ⟨by simpa using hs, h.top, by simpa using h.len⟩
theorem Own.block (h : Own t w lo hi (.slice (some ⟨g, 0, none⟩) n c) zs) : lo ≤ g ∧ g < hi ∧ g < w.heap.size := h.lo_le rfl
end

/-- Numbers with noughts behind them, up to n. -/
def pad (n : Nat) (zs : List Int) : List Int := zs ++ List.replicate (n - zs.length) 0
theorem pad_len {n : Nat} {zs : List Int} (h : zs.length ≤ n) : (pad n zs).length = n := by simp [pad]; omega
theorem pad_nil (n : Nat) : pad n [] = List.replicate n 0 := by simp [pad]
theorem pad_set {n : Nat} {zs : List Int} (h : zs.length < n) (z : Int) : (pad n zs).set zs.length z = pad n (zs ++ [z]) := by
  unfold pad
  rw [List.set_append_right _ _ (Nat.le_refl _), Nat.sub_self]
  have : n - zs.length = (n - (zs ++ [z]).length) + 1 := by simp; omega
  rw [this, List.replicate_succ, List.set_cons_zero, List.append_assoc, List.singleton_append]
theorem pad_all {n : Nat} {zs : List Int} (h : zs.length = n) : pad n zs = zs := by simp [pad, h]

/-- make([]int64, n). -/
theorem wpList_makeI {P : Program} {w : World} {ops : Array Oper} {rest : List Oper} {o : Oper} {a : Act} {Q : Exit → Act → World → Prop}
    (hg : o.guard = none) (l c : Operand) (t e : TypeId) (hop : o.op = Op.makeSlice t l c) (h1 : P.underlying t = some (.slice e))
    (hinfo : (P.info? e).map (fun i => (i.zero, i.size, i.bytes)) = some (some (.int .i64 0), 1, 8))
    (n : Nat) (hl : a.eval l = .int .i64 n) (hc : a.eval c = .int .i64 n) (hn : n ≤ 1000000000)
    (hK : ∀ w', Own e w' w.heap.size w'.heap.size (.slice (some ⟨w.heap.size, 0, none⟩) n n) (pad n []) → Below w.heap.size w w' → wpList P ops Q rest (a.put o.dst (.slice (some ⟨w.heap.size, 0, none⟩) n n)) w') :
    wpList P ops Q (o :: rest) a w := by
  obtain ⟨i, hi1, hi2, hi3, hi4⟩ := info_parts hinfo
  refine wpList_make_full w hg l c t hop w.heap.size e i _ 1 h1 hi1 hi2 hi3 .i64 .i64 n n n hl hc rfl rfl (by rw [hi4]; omega) (by unfold maxLen; omega) (Nat.le_refl _) fun w' hown hgr => ?_
  have hrow : w'.ownsRow w.heap.size e 1 (.slice (some ⟨w.heap.size, 0, none⟩) n n) (pad n []).length ((pad n []).map (Value.int .i64)) := by
    rw [pad_len (by simp)]
    simpa [pad_nil, toList_madeCells_one, Value.cells] using hown
  exact hK w' ⟨hrow, fun k hk => (hown.lt k hk).2, by rw [pad_len (by simp)]; exact hn⟩ ((Below.refl _ _).grown hgr (Nat.le_refl _) (by simp))
end Go.Proofs.YtlahobdopmdfmaaDoor

/- AppAt -/
namespace Go.Proofs.YtlahobdopmdfmaaDoor
open Go.RowKit

section
variable {P : Program} {ops : Array Oper} {rest : List Oper} {o : Oper} {a : Act} {Q : Exit → Act → World → Prop} {w : World}
theorem wp_appAt {K : Act → World → Prop} (s x : Operand) (t e : TypeId) (ho : o.op = .call { callee := .builtin .append, args := #[s, x], argTypes := #[t, t] })
    (ht : P.underlying t = some (.slice e)) (hinfo : (P.info? e).map (fun i => (i.zero, i.size, i.bytes)) = some (some (.int .i64 0), 1, 8)) {g n : Nat} {A : Option Addr} {C : Nat} {zs : List Int}
    (hs : a.eval s = .slice A n C) (hown : Own e w g (g + 1) (.slice A n C) zs) (hl : zs.length = n)
    (ad : Addr) (c : Nat) (z : Int) (hx : a.eval x = .slice (some ad) 1 c) (hc : w.cell? (ad.add 0) = some (.int .i64 z)) (hn : n < 1000000000) (hlo : g ≤ w.heap.size)
    (h : ∀ g' C' w', g' = g ∨ g' = w.heap.size → Own e w' g' (g' + 1) (.slice (some ⟨g', 0, none⟩) (n + 1) C') (zs ++ [z]) → Touch g (g + 1) w w' → K (a.put o.dst (.slice (some ⟨g', 0, none⟩) (n + 1) C')) w') :
    o.wp P a w K Q := by
  obtain ⟨i, hi1, hi2, hi3, hi4⟩ := info_parts hinfo
  have row := hown.row
  rw [hl] at row
  obtain ⟨v', w', hr, h2, h3, _, h5⟩ := run_append_own_at (P := P) w g t o.type e i _ 1 8 ht hi1 hi2 hi3 hi4 rfl (by omega) _ n _ row ad 1 c [.int .i64 z] rfl (by
    intro j v hj
    match j, hj with
    | 0, hj => simp at hj; subst hj; exact hc) (by intro u hu; simp at hu; subst hu; rfl) (by unfold maxLen; omega) (by omega) hlo
  unfold Oper.wp execOp
  simp only [ho, resolve, invoke, builtin, Sem.run_bind, Sem.run_pure, Result.andThen_ok, List.map_toArray, List.map_cons, List.map_nil, hs, hx, hr]
  rcases h2.2 with ⟨_, h0⟩ | ⟨g', cap, cur, hv, hg, r⟩
  · omega
  · subst hv
    have hk : g' = g ∨ g' = w.heap.size := by
      rcases h5 with h5 | h5
      · rw [show (Value.slice (some ⟨g', 0, none⟩) (n + 1) cap).ownBlock = some g' from rfl] at h5
        have := hown.lo_le h5.symm
        exact .inl (by omega)
      · rw [show (Value.slice (some ⟨g', 0, none⟩) (n + 1) cap).ownBlock = some g' from rfl] at h5
        injection h5 with h5
        exact .inr h5
    have hT : Touch g (g + 1) w w' := ⟨h3.os, h3.tape, h3.output, h3.size, fun k hk' ho' => h3.block k hk' (by
      intro he
      have := hown.lo_le he.symm
      omega)⟩
    refine h g' cap w' hk ⟨⟨by simp [hl], .inr ⟨g', cap, cur, by simp [hl], Nat.le_refl _, ?_⟩⟩, ?_, by simp; omega⟩ hT
    · simpa [hl] using r
    · intro k hk'
      simp [Value.ownBlock] at hk'
      omega
theorem wpList_appAt (hgd : o.guard = none) (s x : Operand) (t e : TypeId) (ho : o.op = .call { callee := .builtin .append, args := #[s, x], argTypes := #[t, t] })
    (ht : P.underlying t = some (.slice e)) (hinfo : (P.info? e).map (fun i => (i.zero, i.size, i.bytes)) = some (some (.int .i64 0), 1, 8)) {g n : Nat} {A : Option Addr} {C : Nat} {zs : List Int}
    (hs : a.eval s = .slice A n C) (hown : Own e w g (g + 1) (.slice A n C) zs) (hl : zs.length = n)
    (ad : Addr) (c : Nat) (z : Int) (hx : a.eval x = .slice (some ad) 1 c) (hc : w.cell? (ad.add 0) = some (.int .i64 z)) (hn : n < 1000000000) (hlo : g ≤ w.heap.size)
    (h : ∀ g' C' w', g' = g ∨ g' = w.heap.size → Own e w' g' (g' + 1) (.slice (some ⟨g', 0, none⟩) (n + 1) C') (zs ++ [z]) → Touch g (g + 1) w w' → wpList P ops Q rest (a.put o.dst (.slice (some ⟨g', 0, none⟩) (n + 1) C')) w') :
    wpList P ops Q (o :: rest) a w :=
  wpList_plain hgd fun _ hK => wp_appAt s x t e ho ht hinfo hs hown hl ad c z hx hc hn hlo fun g' C' w' h0 h1 h2 => hK _ _ (h g' C' w' h0 h1 h2)
end
end Go.Proofs.YtlahobdopmdfmaaDoor

/- Ord -/
namespace Go.Proofs.YtlahobdopmdfmaaDoor
open Go

section
variable {P : Program} {ops : Array Oper} {Q : Exit → Act → World → Prop} {md : Region.Mode} {S : World → Prop} {m : Nat}

/-- Whatever order is picked from here on; behind each operation the condition holds, or the marked operation has come up. -/
def wpAnyM (P : Program) (md : Region.Mode) (ops : Array Oper) (Q : Exit → Act → World → Prop) (S : World → Prop) (m : Nat) : Nat → Array Bool → Act → World → Prop
  | 0, listed, a, w => Region.ready md ops listed = [] ∧ Q .normal a w
  | fuel + 1, listed, a, w =>
    (Region.ready md ops listed = [] → Q .normal a w) ∧
    ∀ i ∈ Region.ready md ops listed, wpOp P ops Q i (fun a' w' => ((listed.setIfInBounds i true).getD m true = true ∨ S w') ∧ wpAnyM P md ops Q S m fuel (listed.setIfInBounds i true) a' w') a w

theorem wpAny_of_marked : ∀ (fuel : Nat) (listed : Array Bool) (a : Act) (w : World), wpAnyM P md ops Q S m fuel listed a w → wpAny P md ops Q fuel listed a w
  | 0, _, _, _, h => h
  | fuel + 1, _, _, _, h => ⟨h.1, fun i hi => wpOp_mono (fun a' w' h' => wpAny_of_marked fuel _ a' w' h'.2) (h.2 i hi)⟩

theorem wpAnyM_first {i : Nat} {oi om : Oper} {v : Value} (hi : ops[i]? = some oi) (hsel : ∀ (j : Nat) (o : Oper) cs b, ops[j]? = some o → o.op ≠ .select cs b)
    (hQ : ∀ c a w, Q (.panic c) (a.put oi.dst v) w → Q (.panic c) a w) (hom : ops[m]? = some om) (hwait : ∃ e ∈ om.after, Region.binds md e = true ∧ e.on = i) :
    ∀ (fuel : Nat) (listed : Array Bool) (a : Act) (w : World),
      (∀ j oj, ops[j]? = some oj → j ≠ i → listed.getD j true = false → (∀ e ∈ oj.after, Region.binds md e = true → e.on ≠ i) → oi.apart ops oj = true) →
      i ∈ Region.ready md ops listed → listed.getD m true = false → YieldsIf P ops S oi v a → S w →
      wpAnyM P md ops Q S m fuel (listed.setIfInBounds i true) (a.put oi.dst v) w → wpAnyM P md ops Q S m (fuel + 1) listed a w := by
  intro fuel
  induction fuel with
  | zero =>
    intro listed a w _ hr _ hy hS H
    refine ⟨fun h => (by rw [h] at hr; cases hr), fun j hj => ?_⟩
    by_cases hji : j = i
    · subst hji; exact hy.wpOp hi hS ⟨.inr hS, H⟩
    · have := ready_mono hj hji
      rw [H.1] at this
      cases this
  | succ fuel ih =>
    intro listed a w hfree hr hmu hy hS H
    refine ⟨fun h => (by rw [h] at hr; cases hr), fun j hj => ?_⟩
    by_cases hji : j = i
    · subst hji; exact hy.wpOp hi hS ⟨.inr hS, H⟩
    · have h1 := H.2 j (ready_mono hj hji)
      obtain ⟨hjun, oj, hoj, hall⟩ := mem_ready.1 hj
      have iun : listed.getD i false = false := by
        have h0 := (mem_ready.1 hr).1
        rcases Nat.lt_or_ge i listed.size with h' | h'
        · simp [h'] at h0 ⊢; exact h0
        · simp [Array.getElem?_eq_none h'] at h0
      have hjm : j ≠ m := by
        rintro rfl
        obtain ⟨e, he, hb, hon⟩ := hwait
        rw [hom] at hoj
        obtain rfl : om = oj := by injection hoj
        have := hall e he hb
        rw [hon, iun] at this
        cases this
      have him : i ≠ m := by
        rintro rfl
        obtain ⟨_, oi', hoi', hall'⟩ := mem_ready.1 hr
        obtain ⟨e, he, hb, hon⟩ := hwait
        rw [hom] at hoi'
        obtain rfl : om = oi' := by injection hoi'
        have := hall' e he hb
        rw [hon, iun] at this
        cases this
      have hnot : ∀ e ∈ oj.after, Region.binds md e = true → e.on ≠ i := fun e he hb heq => by
        have h1 := hall e he hb
        rw [heq, iun] at h1
        cases h1
      have h2 := wpOp_putIf hoj (hfree j oj hoj hji hjun hnot) (fun cs b => hsel i oi cs b hi) (fun cs b => hsel j oj cs b hoj) hQ hy h1
      have hfree' : ∀ k ok, ops[k]? = some ok → k ≠ i → (listed.setIfInBounds j true).getD k true = false →
          (∀ e ∈ ok.after, Region.binds md e = true → e.on ≠ i) → oi.apart ops ok = true := fun k ok hk hki hun hno => by
        refine hfree k ok hk hki ?_ hno
        by_cases hjk : j = k
        · subst hjk; exact hjun
        · rw [getD_set_ne true hjk] at hun; exact hun
      have hmj : (listed.setIfInBounds j true).getD m true = false := by rw [getD_set_ne true hjm]; exact hmu
      have hmi : ((listed.setIfInBounds i true).setIfInBounds j true).getD m true = false := by
        rw [getD_set_ne true hjm, getD_set_ne true him]; exact hmu
      refine wpOp_mono (fun a' w' h3 => ?_) h2
      obtain ⟨h4, h5, h6⟩ := h3
      have hS' : S w' := by
        rcases h5 with h5 | h5
        · rw [hmi] at h5; cases h5
        · exact h5
      refine ⟨.inr hS', ih (listed.setIfInBounds j true) a' w' hfree' (ready_mono hr (Ne.symm hji)) hmj h4 hS' ?_⟩
      rw [Array.setIfInBounds_comm _ _ hji]
      exact h6

/-- Does the marked operation wait for number i? -/
def waitsB (md : Region.Mode) (ops : Array Oper) (m i : Nat) : Bool :=
  match ops[m]? with
  | some om => om.after.any fun e => Region.binds md e && e.on == i
  | none => false
theorem waitsB_spec {i : Nat} (h : waitsB md ops m i = true) : ∃ om, ops[m]? = some om ∧ ∃ e ∈ om.after, Region.binds md e = true ∧ e.on = i := by
  unfold waitsB at h
  cases ho : ops[m]? with
  | none => rw [ho] at h; cases h
  | some om =>
    rw [ho] at h
    dsimp only at h
    rw [← Array.any_toList, List.any_eq_true] at h
    obtain ⟨e, he, h1⟩ := h
    rw [Bool.and_eq_true, beq_iff_eq] at h1
    exact ⟨om, rfl, e, by simpa using he, h1.1, h1.2⟩

/-- Number i is taken first. -/
theorem wpAnyM_take {i : Nat} {oi : Oper} {v : Value} {fuel : Nat} {listed : Array Bool} {a : Act} {w : World} (hi : ops[i]? = some oi)
    (hs : Region.noSelect ops = true) (hf : Region.free md ops listed i = true) (hr : (Region.ready md ops listed).contains i = true) (hwm : waitsB md ops m i = true) (hm : listed.getD m true = false)
    (hQ : ∀ c a w, Q (.panic c) (a.put oi.dst v) w → Q (.panic c) a w) (hS : S w) (hy : YieldsIf P ops S oi v a)
    (h : wpAnyM P md ops Q S m fuel (listed.setIfInBounds i true) (a.put oi.dst v) w) : wpAnyM P md ops Q S m (fuel + 1) listed a w := by
  obtain ⟨om, ho, hwt⟩ := waitsB_spec hwm
  exact wpAnyM_first hi (Region.noSelect_spec hs) hQ ho hwt fuel listed a w (Region.free_spec hi hf) (by simpa using hr) hm hy hS h

/-- Number i alone may come up, and is carried out. -/
theorem wpAnyM_one {i : Nat} {o : Oper} {fuel : Nat} {listed : Array Bool} {a : Act} {w : World} (hr : Region.ready md ops listed = [i]) (ho : ops[i]? = some o) (hw : Region.wanted o (yielded ops a.tmps) = true)
    (h : ∀ K : Act → World → Prop, (∀ a' w', ((listed.setIfInBounds i true).getD m true = true ∨ S w') → wpAnyM P md ops Q S m fuel (listed.setIfInBounds i true) a' w' → K a' w') → o.wp P a w K Q) :
    wpAnyM P md ops Q S m (fuel + 1) listed a w := by
  refine ⟨fun h0 => (by rw [hr] at h0; cases h0), fun j hj => ?_⟩
  rw [hr, List.mem_singleton] at hj
  subst hj
  unfold wpOp
  simp only [ho, hw, if_true]
  exact .inl (h _ fun a' w' h1 h2 => ⟨h1, h2⟩)

/-- Number i or number j may come up. -/
theorem wpAnyM_two {i j : Nat} {oi oj : Oper} {fuel : Nat} {listed : Array Bool} {a : Act} {w : World} (hr : Region.ready md ops listed = [i, j]) (hoi : ops[i]? = some oi) (hoj : ops[j]? = some oj)
    (hwi : Region.wanted oi (yielded ops a.tmps) = true) (hwj : Region.wanted oj (yielded ops a.tmps) = true)
    (h1 : ∀ K : Act → World → Prop, (∀ a' w', ((listed.setIfInBounds i true).getD m true = true ∨ S w') → wpAnyM P md ops Q S m fuel (listed.setIfInBounds i true) a' w' → K a' w') → oi.wp P a w K Q)
    (h2 : ∀ K : Act → World → Prop, (∀ a' w', ((listed.setIfInBounds j true).getD m true = true ∨ S w') → wpAnyM P md ops Q S m fuel (listed.setIfInBounds j true) a' w' → K a' w') → oj.wp P a w K Q) :
    wpAnyM P md ops Q S m (fuel + 1) listed a w := by
  refine ⟨fun h0 => (by rw [h0] at hr; cases hr), fun k hk => ?_⟩
  rw [hr] at hk
  simp only [List.mem_cons, List.not_mem_nil, or_false] at hk
  rcases hk with rfl | rfl
  · unfold wpOp
    simp only [hoi, hwi, if_true]
    exact .inl (h1 _ fun a' w' h1 h2 => ⟨h1, h2⟩)
  · unfold wpOp
    simp only [hoj, hwj, if_true]
    exact .inl (h2 _ fun a' w' h1 h2 => ⟨h1, h2⟩)

theorem wpAnyM_done {listed : Array Bool} {a : Act} {w : World} (hr : Region.ready md ops listed = []) (h : Q .normal a w) : ∀ fuel, wpAnyM P md ops Q S m fuel listed a w
  | 0 => ⟨hr, h⟩
  | _ + 1 => ⟨fun _ => h, by rw [hr]; simp⟩

/-- The beginning. -/
theorem wp_region_marked {id : Nat} {a : Act} {w : World} {l : List Oper} (S : World → Prop) (m : Nat) (hm : P.follows .mixedOrders = true)
    (h : wpAnyM P .any l.toArray Q S m l.length (Array.replicate l.length false) a w.drew) : (Code.region id l.toArray true).wp P Q a w :=
  wp_region_any hm (wpAny_of_marked _ _ _ _ (by simpa using h))
end
end Go.Proofs.YtlahobdopmdfmaaDoor

/- OrdC -/
namespace Go.Proofs.YtlahobdopmdfmaaDoor
open Go

section
variable {P : Program} {ops : Array Oper} {Q : Exit → Act → World → Prop} {md : Region.Mode} {S : World → Prop} {m : Nat}

/-- What is listed waits for nothing that is not. -/
def Shut (md : Region.Mode) (ops : Array Oper) (listed : Array Bool) : Prop := ∀ (k : Nat) (o : Oper), ops[k]? = some o → listed.getD k false = true → ∀ e ∈ o.after, Region.binds md e = true → listed.getD e.on false = true
def shutB (md : Region.Mode) (ops : Array Oper) (listed : Array Bool) : Bool :=
  (List.range ops.size).all fun k => match ops[k]? with
    | some o => !(listed.getD k false) || o.after.all fun e => !(Region.binds md e) || listed.getD e.on false
    | none => true
theorem shutB_spec {listed : Array Bool} (h : shutB md ops listed = true) : Shut md ops listed := by
  intro k o ho hl e he hb
  unfold shutB at h
  rw [List.all_eq_true] at h
  have hk : k < ops.size := by
    rcases Nat.lt_or_ge k ops.size with h' | h'
    · exact h'
    · rw [Array.getElem?_eq_none h'] at ho; cases ho
  have := h k (List.mem_range.2 hk)
  rw [ho] at this
  dsimp only at this
  rw [hl, Bool.not_true, Bool.false_or, ← Array.all_toList, List.all_eq_true] at this
  have := this e (by simpa using he)
  rwa [hb, Bool.not_true, Bool.false_or] at this
theorem Shut.ready {listed : Array Bool} (h : Shut md ops listed) {j : Nat} (hj : j ∈ Region.ready md ops listed) : Shut md ops (listed.setIfInBounds j true) := by
  obtain ⟨_, oj, hoj, hall⟩ := mem_ready.1 hj
  have up : ∀ k, listed.getD k false = true → (listed.setIfInBounds j true).getD k false = true := by
    intro k hk
    by_cases hjk : j = k
    · subst hjk
      rcases Nat.lt_or_ge j listed.size with h' | h'
      · simp [h']
      · simp [Array.getElem?_eq_none h'] at hk
    · rw [getD_set_ne false hjk]; exact hk
  intro k o ho hl e he hb
  by_cases hjk : j = k
  · subst hjk
    rw [hoj] at ho
    obtain rfl : oj = o := by injection ho
    exact up _ (hall e he hb)
  · rw [getD_set_ne false hjk] at hl
    exact up _ (h k o ho hl e he hb)

/-- Does number m wait for number i, maybe by way of others (n steps at most)? -/
def awaits (md : Region.Mode) (ops : Array Oper) : Nat → Nat → Nat → Bool
  | 0, _, _ => false
  | n + 1, m, i => match ops[m]? with
    | some o => o.after.any fun e => Region.binds md e && (e.on == i || awaits md ops n e.on i)
    | none => false
theorem awaits_spec {i : Nat} {listed : Array Bool} (h : Shut md ops listed) : ∀ (n m : Nat), awaits md ops n m i = true → (∀ o, ops[m]? = some o → ∀ e ∈ o.after, Region.binds md e = true → listed.getD e.on false = true) → listed.getD i false = true
  | 0, _, h0, _ => by simp [awaits] at h0
  | n + 1, m, h0, hm => by
    unfold awaits at h0
    cases ho : ops[m]? with
    | none => rw [ho] at h0; cases h0
    | some o =>
      rw [ho] at h0
      dsimp only at h0
      rw [← Array.any_toList, List.any_eq_true] at h0
      obtain ⟨e, he, h1⟩ := h0
      rw [Bool.and_eq_true, Bool.or_eq_true, beq_iff_eq] at h1
      have hl := hm o ho e (by simpa using he) h1.1
      rcases h1.2 with h2 | h2
      · rw [← h2]; exact hl
      · exact awaits_spec h n e.on h2 fun o' ho' e' he' hb' => h e.on o' ho' hl e' he' hb'

theorem wpAnyM_firstC {i : Nat} {oi : Oper} {v : Value} (hi : ops[i]? = some oi) (hsel : ∀ (j : Nat) (o : Oper) cs b, ops[j]? = some o → o.op ≠ .select cs b)
    (hQ : ∀ c a w, Q (.panic c) (a.put oi.dst v) w → Q (.panic c) a w) (hwait : ∀ listed, Shut md ops listed → listed.getD i false = false → m ∉ Region.ready md ops listed) :
    ∀ (fuel : Nat) (listed : Array Bool) (a : Act) (w : World), Shut md ops listed →
      (∀ j oj, ops[j]? = some oj → j ≠ i → listed.getD j true = false → (∀ e ∈ oj.after, Region.binds md e = true → e.on ≠ i) → oi.apart ops oj = true) →
      i ∈ Region.ready md ops listed → listed.getD m true = false → YieldsIf P ops S oi v a → S w →
      wpAnyM P md ops Q S m fuel (listed.setIfInBounds i true) (a.put oi.dst v) w → wpAnyM P md ops Q S m (fuel + 1) listed a w := by
  intro fuel
  induction fuel with
  | zero =>
    intro listed a w _ _ hr _ hy hS H
    refine ⟨fun h => (by rw [h] at hr; cases hr), fun j hj => ?_⟩
    by_cases hji : j = i
    · subst hji; exact hy.wpOp hi hS ⟨.inr hS, H⟩
    · have := ready_mono hj hji
      rw [H.1] at this
      cases this
  | succ fuel ih =>
    intro listed a w hsh hfree hr hmu hy hS H
    refine ⟨fun h => (by rw [h] at hr; cases hr), fun j hj => ?_⟩
    by_cases hji : j = i
    · subst hji; exact hy.wpOp hi hS ⟨.inr hS, H⟩
    · have h1 := H.2 j (ready_mono hj hji)
      obtain ⟨hjun, oj, hoj, hall⟩ := mem_ready.1 hj
      have iun' : listed.getD i true = false := (mem_ready.1 hr).1
      have iun : listed.getD i false = false := by
        rcases Nat.lt_or_ge i listed.size with h' | h'
        · simp [h'] at iun' ⊢; exact iun'
        · simp [Array.getElem?_eq_none h']
      have hjm : j ≠ m := by rintro rfl; exact hwait listed hsh iun hj
      have him : i ≠ m := by rintro rfl; exact hwait listed hsh iun hr
      have hnot : ∀ e ∈ oj.after, Region.binds md e = true → e.on ≠ i := fun e he hb heq => by
        have h1 := hall e he hb
        rw [heq, iun] at h1
        cases h1
      have h2 := wpOp_putIf hoj (hfree j oj hoj hji hjun hnot) (fun cs b => hsel i oi cs b hi) (fun cs b => hsel j oj cs b hoj) hQ hy h1
      have hfree' : ∀ k ok, ops[k]? = some ok → k ≠ i → (listed.setIfInBounds j true).getD k true = false →
          (∀ e ∈ ok.after, Region.binds md e = true → e.on ≠ i) → oi.apart ops ok = true := fun k ok hk hki hun hno => by
        refine hfree k ok hk hki ?_ hno
        by_cases hjk : j = k
        · subst hjk; exact hjun
        · rw [getD_set_ne true hjk] at hun; exact hun
      have hmj : (listed.setIfInBounds j true).getD m true = false := by rw [getD_set_ne true hjm]; exact hmu
      have hmi : ((listed.setIfInBounds i true).setIfInBounds j true).getD m true = false := by
        rw [getD_set_ne true hjm, getD_set_ne true him]; exact hmu
      refine wpOp_mono (fun a' w' h3 => ?_) h2
      obtain ⟨h4, h5, h6⟩ := h3
      have hS' : S w' := by
        rcases h5 with h5 | h5
        · rw [hmi] at h5; cases h5
        · exact h5
      refine ⟨.inr hS', ih (listed.setIfInBounds j true) a' w' (hsh.ready hj) hfree' (ready_mono hr (Ne.symm hji)) hmj h4 hS' ?_⟩
      rw [Array.setIfInBounds_comm _ _ hji]
      exact h6

/-- Number i is taken first. -/
theorem wpAnyM_takeC {i : Nat} {oi : Oper} {v : Value} {fuel : Nat} {listed : Array Bool} {a : Act} {w : World} (n : Nat) (hi : ops[i]? = some oi)
    (hs : Region.noSelect ops = true) (hf : Region.free md ops listed i = true) (hr : (Region.ready md ops listed).contains i = true) (hwm : awaits md ops n m i = true) (hsh : shutB md ops listed = true) (hm : listed.getD m true = false)
    (hQ : ∀ c a w, Q (.panic c) (a.put oi.dst v) w → Q (.panic c) a w) (hS : S w) (hy : YieldsIf P ops S oi v a)
    (h : wpAnyM P md ops Q S m fuel (listed.setIfInBounds i true) (a.put oi.dst v) w) : wpAnyM P md ops Q S m (fuel + 1) listed a w :=
  wpAnyM_firstC hi (Region.noSelect_spec hs) hQ (fun _ hsh' hun hmr => by
    obtain ⟨_, om, hom, hall⟩ := mem_ready.1 hmr
    have := awaits_spec hsh' n m hwm (fun o ho e he hb => by
      rw [hom] at ho
      obtain rfl : om = o := by injection ho
      exact hall e he hb)
    rw [hun] at this; cases this) fuel listed a w (shutB_spec hsh) (Region.free_spec hi hf) (by simpa using hr) hm hy hS h
end
end Go.Proofs.YtlahobdopmdfmaaDoor

/- OkS -/
namespace Go.Proofs.YtlahobdopmdfmaaDoor
open Go.RowKit

set_option maxHeartbeats 400000 in
theorem l02Base_any (b : Int) (w : World) : Calls Tryd.prog 133 #[.int .i64 b] w fun e w' => e = .returned (.bool (baseB b)) ∧ w' = w := by
  cases hb : baseB b with
  | true =>
    obtain ⟨h1, h2⟩ := baseB_true hb
    have HB := Lib.hid hb
    clear hb
    go_enter Tryd.func133, Tryd.ntmps133
    go_wp2
    go_ret
    exact ⟨ret_bool (by simp []), rfl⟩
  | false =>
    have HB := Lib.hid hb
    rcases baseB_false hb with h1 | ⟨h1, h2⟩
    all_goals
      clear hb
      go_enter Tryd.func133, Tryd.ntmps133
      go_wp2
      go_ret
      exact ⟨ret_bool (by simp <;> omega), rfl⟩

set_option maxHeartbeats 400000 in
theorem l02Digits_any (b : Int) (a : Option Addr) (c : Nat) (zs : List Int) (w : World) (ha : Rd w a zs) (hb1 : 2 ≤ b) (hb2 : b ≤ 16) :
    Calls Tryd.prog 157 #[.int .i64 b, .slice a zs.length c] w fun e w' => e = .returned (.bool (digitsB b zs && widthB zs.length)) ∧ w' = w := by
  have hx := ha.len
  go_enter Tryd.func157, Tryd.ntmps157
  go_wp2
  go_loop [5] (fun i => ∃ k : Nat, k ≤ zs.length ∧ i = .int .i64 k ∧ Hid (∀ d ∈ zs.take k, 0 ≤ d ∧ d < b)) (fun i => zs.length - (intOf i).toNat)
  case atStart => exact ⟨0, Nat.zero_le _, rfl, Lib.hid (by simp)⟩
  case round =>
    obtain ⟨k, hk, rfl, HT⟩ := hrel
    by_cases hlt : k < zs.length
    · obtain ⟨p, off, rfl, hc⟩ := ha.at_ hlt
      by_cases hd : 0 ≤ nth zs k ∧ nth zs k < b
      · obtain ⟨hd1, hd2⟩ := hd
        have hd3 : decide (nth zs k ≤ b - 1) = true := decide_eq_true (by omega)
        go_wp2
        go_round
        case rel => exact ⟨k + 1, by omega, by go_num, Lib.hid (all_take_succ (p := fun d => 0 ≤ d ∧ d < b) hlt HT.out ⟨hd1, hd2⟩)⟩
        case measure => (simp [intOf]) <;> omega
      · have hf : digitsB b zs = false := by
          cases h : digitsB b zs with
          | false => rfl
          | true => exact absurd (digitsB_nth h hlt) hd
        have HF := Lib.hid hf
        have hd' : nth zs k < 0 ∨ (0 ≤ nth zs k ∧ b - 1 < nth zs k) := by omega
        clear hf hd
        rcases hd' with h1 | ⟨h1, h2⟩
        all_goals
          try have hd3 : decide (nth zs k ≤ b - 1) = false := decide_eq_false (by omega)
          go_wp2
          go_ret
          exact ⟨ret_bool (by rw [HF.out]; rfl), rfl⟩
    · obtain rfl : k = zs.length := by omega
      have ht : digitsB b zs = true := by
        rw [digitsB, decide_eq_true_eq]
        have := HT.out
        rwa [List.take_of_length_le (Nat.le_refl _)] at this
      have HD := Lib.hid ht
      clear ht
      cases hw : widthB zs.length with
      | true =>
        obtain ⟨h1, h2⟩ := widthB_true hw
        have HW := Lib.hid hw
        clear hw
        go_wp2
        go_ret
        exact ⟨ret_bool (by rw [HD.out, HW.out]; simp <;> omega), rfl⟩
      | false =>
        have HW := Lib.hid hw
        rcases widthB_false hw with h1 | h1
        all_goals
          clear hw
          go_wp2
          go_ret
          exact ⟨ret_bool (by rw [HD.out, HW.out]; simp <;> omega), rfl⟩

set_option maxHeartbeats 400000 in
theorem l02Value_any (b : Int) (a : Option Addr) (c : Nat) (zs : List Int) (w : World) (ha : Rd w a zs) (hb1 : 2 ≤ b) (hb2 : b ≤ 16) (hd : ∀ d ∈ zs, 0 ≤ d ∧ d < b) :
    Calls Tryd.prog 97 #[.int .i64 b, .slice a zs.length c] w fun e w' => e = .returned (.int .i64 (capV b zs)) ∧ w' = w := by
  have hx := ha.len
  have HD := Lib.hid hd
  clear hd
  go_enter Tryd.func97, Tryd.ntmps97
  go_wp2
  go_loop [5, 6] (fun s i => ∃ k : Nat, k ≤ zs.length ∧ i = .int .i64 ((k : Int) - 1) ∧ s = .int .i64 (capV b (zs.drop k))) (fun _ i => (intOf i + 1).toNat)
  case atStart => exact ⟨zs.length, Nat.le_refl _, by go_num, by simp [capV]⟩
  case round =>
    obtain ⟨k, hk, hi, rfl⟩ := hrel
    cases k with
    | zero =>
      subst hi
      go_wp2
      go_ret
      exact ⟨rfl, rfl⟩
    | succ k =>
      subst hi
      rw [show ((k + 1 : Nat) : Int) - 1 = (k : Int) from by omega]
      obtain ⟨p, off, rfl, hc⟩ := ha.at_ (k := k) (by omega)
      have hcb := capV_bd hb1 (all_drop HD.out (k + 1))
      have hdn := HD.out (nth zs k) (by rw [nth_get (by omega)]; exact List.getElem_mem _)
      have hstep : capV b (zs.drop k) = if 1000000000001 < capV b (zs.drop (k + 1)) * b + nth zs k then 1000000000001 else capV b (zs.drop (k + 1)) * b + nth zs k := by rw [drop_nth (by omega)]; rfl
      have hm1 : 0 ≤ capV b (zs.drop (k + 1)) * b := Int.mul_nonneg hcb.1 (by omega)
      have hm2 : capV b (zs.drop (k + 1)) * b ≤ 1000000000001 * 16 := Int.mul_le_mul hcb.2 hb2 (by omega) (by omega)
      by_cases hc1 : 1000000000001 < capV b (zs.drop (k + 1)) * b + nth zs k
      · rw [if_pos hc1] at hstep
        have HS := Lib.hid hstep
        clear hstep
        go_wp2
        go_round
        case rel => exact ⟨k, by omega, by go_num, by rw [HS.out]; rfl⟩
        case measure => (simp [intOf]) <;> omega
      · rw [if_neg hc1] at hstep
        have HS := Lib.hid hstep
        clear hstep
        go_wp2
        go_round
        case rel => exact ⟨k, by omega, by go_num, by rw [HS.out]; rfl⟩
        case measure => (simp [intOf]) <;> omega

set_option maxHeartbeats 1000000 in
theorem l02Ok_any (p : Nat) (b : Int) (a : Option Addr) (c : Nat) (zs : List Int) (w : World) (ha : Rd w a zs) (hp0 : w.cell? ⟨p, 0, none⟩ = some (.int .i64 b)) (hp1 : w.cell? ⟨p, 1, none⟩ = some (.slice a zs.length c)) :
    Calls Tryd.prog 96 #[.pointer (some ⟨p, 0, none⟩)] w fun e w' => e = .returned (.bool (okB b zs)) ∧ ∃ n, w' = w.drewN n := by
  cases hb : baseB b with
  | false =>
    have HO := Lib.hid (show okB b zs = false by simp [okB, hb])
    have HB := Lib.hid (show ∀ n, Calls Tryd.prog 133 #[.int .i64 b] (w.drewN n) fun e w' => e = .returned (.bool false) ∧ w' = w.drewN n from fun n => by rw [← hb]; exact l02Base_any b _)
    clear hb
    go_enter Tryd.func96, Tryd.ntmps96
    go_wp2
    go_quiet ((go_at_call 133; exact Calls.quiet_of_same (HB.out _)))
    go_wp2
    go_ret
    exact ⟨ret_bool (by rw [HO.out]), _, rfl⟩
  | true =>
    obtain ⟨hb1, hb2⟩ := baseB_true hb
    have HB := Lib.hid (show ∀ n, Calls Tryd.prog 133 #[.int .i64 b] (w.drewN n) fun e w' => e = .returned (.bool true) ∧ w' = w.drewN n from fun n => by rw [← hb]; exact l02Base_any b _)
    cases hd : digitsB b zs && widthB zs.length with
    | false =>
      have HO := Lib.hid (show okB b zs = false by simp at hd; simp [okB, hb]; intro h1 h2; rw [hd h2] at h1; cases h1)
      have HD2 := Lib.hid (show ∀ n, Calls Tryd.prog 157 #[.int .i64 b, .slice a zs.length c] (w.drewN n) fun e w' => e = .returned (.bool false) ∧ w' = w.drewN n from fun n => by rw [← hd]; exact l02Digits_any b a c zs _ (ha.drewN _) hb1 hb2)
      clear hb hd
      go_enter Tryd.func96, Tryd.ntmps96
      go_wp2
      go_quiet (first | (go_at_call 133; exact Calls.quiet_of_same (HB.out _)) | (go_at_call 157; exact Calls.quiet_of_same (HD2.out _)))
      go_wp2
      go_ret
      exact ⟨ret_bool (by rw [HO.out]), _, rfl⟩
    | true =>
      have HD : ∀ d ∈ zs, 0 ≤ d ∧ d < b := digitsB_true (by simp at hd; exact hd.1)
      have HO := Lib.hid (show okB b zs = decide (capV b zs ≤ 1000000000000) by simp at hd; simp [okB, hb, hd, capV_le hb1 HD])
      have HE := Lib.hid HD
      have HD2 := Lib.hid (show ∀ n, Calls Tryd.prog 157 #[.int .i64 b, .slice a zs.length c] (w.drewN n) fun e w' => e = .returned (.bool true) ∧ w' = w.drewN n from fun n => by rw [← hd]; exact l02Digits_any b a c zs _ (ha.drewN _) hb1 hb2)
      clear HD hb hd
      cases hv : decide (capV b zs ≤ 1000000000000)
      all_goals
        rw [hv] at HO
        go_enter Tryd.func96, Tryd.ntmps96
        go_wp2
        go_quiet (first | (go_at_call 133; exact Calls.quiet_of_same (HB.out _)) | (go_at_call 157; exact Calls.quiet_of_same (HD2.out _)) | (go_at_call 97; exact Calls.quiet_of_same (l02Value_any _ _ _ _ _ (ha.drewN _) hb1 hb2 HE.out)))
        go_wp2
        go_ret
        exact ⟨ret_bool (by rw [HO.out]), _, rfl⟩
end Go.Proofs.YtlahobdopmdfmaaDoor

/- TwoS -/
namespace Go.Proofs.YtlahobdopmdfmaaDoor
open Go.RowKit

theorem l02Ok_at {v : Bool} (p : Nat) (b : Int) (a : Option Addr) (c : Nat) (zs : List Int) (w : World) (n : Nat) (hv : okB b zs = v) (ha : Rd w a zs) (hp0 : w.cell? ⟨p, 0, none⟩ = some (.int .i64 b)) (hp1 : w.cell? ⟨p, 1, none⟩ = some (.slice a zs.length c)) :
    Calls Tryd.prog 96 #[.pointer (some ⟨p, 0, none⟩)] (w.drewN n) fun e w' => e = .returned (.bool v) ∧ ∃ m, w' = w.drewN m := by
  subst hv
  exact (l02Ok_any p b a c zs (w.drewN n) (ha.drewN n) hp0 hp1).mono fun e w' ⟨h1, m, h2⟩ => ⟨h1, n + m, by rw [h2, drewN_drewN]⟩
theorem l02Ok_at0 {v : Bool} (p : Nat) (b : Int) (a : Option Addr) (c : Nat) (zs : List Int) (w : World) (hv : okB b zs = v) (ha : Rd w a zs) (hp0 : w.cell? ⟨p, 0, none⟩ = some (.int .i64 b)) (hp1 : w.cell? ⟨p, 1, none⟩ = some (.slice a zs.length c)) :
    Calls Tryd.prog 96 #[.pointer (some ⟨p, 0, none⟩)] w fun e w' => e = .returned (.bool v) ∧ ∃ m, w' = w.drewN m := by
  subst hv; exact l02Ok_any p b a c zs w ha hp0 hp1

end Go.Proofs.YtlahobdopmdfmaaDoor

/- RegC -/
namespace Go.Proofs.YtlahobdopmdfmaaDoor
open Go.RowKit

/-- A register of its own and a code. -/
def RegC (R : Int × List Int × Int) (w : World) (e : Ending) (w' : World) : Prop := ∃ A C,
  e = .returned (.tuple #[.agg #[.int .i64 R.1, .slice A R.2.1.length C], .int .i64 R.2.2]) ∧ Own 2 w' w.heap.size w'.heap.size (.slice A R.2.1.length C) R.2.1 ∧ Below w.heap.size w w'
theorem regC_err {R : Int × List Int × Int} {c : Int} {w w' : World} {e : Ending} (h : R = (0, [], c)) (he : e = .returned (.tuple #[.agg #[.int .i64 0, .slice none 0 0], .int .i64 c])) (hb : Below w.heap.size w w') : RegC R w e w' := by
  subst h
  exact ⟨none, 0, he, own_nil _ _ _ _, hb⟩
theorem regC_ok {R : Int × List Int × Int} {b : Int} {zs : List Int} {w w' : World} {A : Option Addr} {C lo hi : Nat} {e : Ending} (h : R = (b, zs, 0)) (he : e = .returned (.tuple #[.agg #[.int .i64 b, .slice A zs.length C], .int .i64 0]))
    (ho : Own 2 w' lo hi (.slice A zs.length C) zs) (hl : w.heap.size ≤ lo) (hh : hi ≤ w'.heap.size) (hb : Below w.heap.size w w') : RegC R w e w' := by
  subst h
  exact ⟨A, C, he, ho.wide hl hh, hb⟩

end Go.Proofs.YtlahobdopmdfmaaDoor

/- DrawR -/
namespace Go.Proofs.YtlahobdopmdfmaaDoor
open Go.RowKit

theorem l02Most_any (b : Int) (w : World) (h0 : 2 ≤ b) (h1 : b ≤ 16) :
    Calls Tryd.prog 187 #[.int .i64 b] w fun e w' => ∃ n : Nat, e = .returned (.int .i64 (n : Nat)) ∧ 1 ≤ n ∧ n ≤ 16 ∧ w' = w := by
  have bb : 4 ≤ b * b ∧ b * b ≤ 256 := ⟨Int.mul_le_mul h0 h0 (by omega) (by omega), Int.mul_le_mul h1 h1 (by omega) (by omega)⟩
  go_enter Tryd.func187, Tryd.ntmps187
  go_wp2_with fail
  go_loop [3, 4] (fun n p => ∃ (k : Nat) (c : Int), n = .int .i64 (k : Nat) ∧ p = .int .i64 c ∧ 1 ≤ k ∧ k ≤ 16 ∧ 0 ≤ c ∧ c ≤ 20000000000000) (fun n _ => 16 - (intOf n).toNat)
  case atStart => exact ⟨1, b * b, rfl, rfl, by omega, by omega, by omega, by omega⟩
  case round =>
    clear bb
    obtain ⟨k, c, rfl, rfl, hk1, hk2, c0, c1⟩ := hrel
    by_cases hc : c - 1 ≤ 1000000000000
    · by_cases hk : k < 16
      · have hm : 0 ≤ c * b ∧ c * b ≤ 1000000000001 * 16 := ⟨Int.mul_nonneg c0 (by omega), Int.mul_le_mul (by omega) h1 (by omega) (by omega)⟩
        obtain ⟨d, hd⟩ : ∃ d, d = c * b := ⟨_, rfl⟩
        rw [← hd] at hm
        have v1 : IntKind.i64.wrap (c * b) = d := by rw [← hd]; exact IntWalk.i64_in _ (by omega)
        clear hd
        go_wp2_with fail
        clear v1
        go_round
        case rel => exact ⟨k + 1, d, by go_num, rfl, by omega, by omega, by omega, by omega⟩
        case measure => (simp [intOf]) <;> omega
      · go_wp2_with fail
        refine bodyPost_ret (v := .int .i64 (k : Nat)) (by simp [results, Tryd.results187, go_sem]) rfl ⟨k, rfl, hk1, hk2, rfl⟩
    · go_wp2_with fail
      refine bodyPost_ret (v := .int .i64 (k : Nat)) (by simp [results, Tryd.results187, go_sem]) rfl ⟨k, rfl, hk1, hk2, rfl⟩

/-- Digits of a base. -/
def DigsOf (b : Int) (ds : List Int) : Prop := ∀ d ∈ ds, 0 ≤ d ∧ d < b
theorem digsOf_nil (b : Int) : DigsOf b [] := fun d hd => by cases hd
set_option maxHeartbeats 4000000 in
theorem drawDigits_any (s K : Nat) (b : Int) (n : Nat) (w : World) (h : Src w s K) (hK : K ≤ 800000) (b0 : 2 ≤ b) (b1 : b ≤ 16) (hn : n ≤ 100) :
    Calls Tryd.prog 128 #[.pointer (some ⟨s, 0, none⟩), .int .i64 b, .int .i64 (n : Nat)] w fun e w' => ∃ ds A C, e = .returned (.slice A n C) ∧ List.length ds = n ∧ DigsOf b ds ∧
      Own 2 w' w.heap.size w'.heap.size (.slice A n C) ds ∧ Touch s (s + 1) w w' ∧ Src w' s (K + 4 * n) := by
  have hs := h.lt
  obtain ⟨G, hG⟩ : ∃ G, G = w.heap.size := ⟨_, rfl⟩
  obtain ⟨u, hu⟩ : ∃ u, u = w.alloc (.cells #[] 2) := ⟨_, rfl⟩
  have hbu : Below w.heap.size w u := by rw [hu]; exact (by repeat (first | exact Below.refl _ _ | refine Below.setCell ?_ (by first | omega | (simp <;> omega)) _ | refine Below.alloc ?_ (by first | omega | (simp <;> omega)) _ | refine Below.drew ?_))
  have hsu : u.heap.size = G + 1 := by rw [hu, hG]; simp
  have oq : Own 2 u G (G + 1) (.slice (some ⟨G, 0, none⟩) 0 0) [] := by
    rw [hu, hG]
    exact own_of_row (zs := []) (by simpa using row_new 2 1 w #[] 0 (by simp) (by omega)) rfl (by simp)
  have su : Src u s K := h.lo hbu hs
  have tu : Touch s (s + 1) w u := Below.touch hbu
  have HU := Lib.hid hu
  have HG := Lib.hid hG
  have hsG : s < G := by omega
  clear hu h hbu
  go_enter Tryd.func128, Tryd.ntmps128
  go_wp2_with fail
  rw [← HU.out, ← hG]
  clear hG
  go_loopw [7, 8, 9] (fun o k _ wr => ∃ (j : Nat) (ds : List Int) (g : Nat) (E : Nat), j ≤ n ∧ k = .int .i64 (j : Nat) ∧ ds.length = j ∧ o = .slice (some ⟨g, 0, none⟩) j E ∧ DigsOf b ds ∧ G ≤ g ∧ Own 2 wr g (g + 1) (.slice (some ⟨g, 0, none⟩) j E) ds ∧ Touch s (s + 1) w wr ∧ Src wr s (K + 4 * j)) (fun _ k _ _ => n - (intOf k).toNat)
  case atStart => exact ⟨0, [], G, 0, Nat.zero_le _, rfl, rfl, rfl, digsOf_nil b, Nat.le_refl _, oq, tu, su⟩
  case round =>
    clear oq tu su
    obtain ⟨j, ds, g, E, hj, rfl, hl, rfl, hd, hg, ow, ht, hsrc⟩ := hrel
    have HL := Lib.hid hl
    clear hl
    have hsz := ht.size
    have hgl := ow.lo_le (k := g) rfl
    by_cases hlt : j < n
    · go_wp2_with fail
      refine (pick_any s _ b _ hsrc (by omega) (by omega)).mono ?_
      rintro e w1 ⟨z, rfl, z0, z1, hs1, ht1⟩
      have hl1 := ht1.size
      replace ow := ow.touch ht1 (.inr (by omega))
      replace ht := ht.trans ht1
      clear ht1 hsrc
      go_wp2_with fail
      refine (one_any s _ 3 _ hs1 (by omega) (by omega)).mono ?_
      rintro e w2 ⟨x, rfl, hs2, ht2⟩
      have hl2 := ht2.size
      replace ow := ow.touch ht2 (.inr (by omega))
      replace ht := ht.trans ht2
      clear ht2 hs1
      have fin : ∀ (y : Int), 0 ≤ y → y < b → ∀ g' E' w5, (g' = g ∨ g' = (w2.alloc (.cells #[.int .i64 y] 2)).heap.size) → Own 2 w5 g' (g' + 1) (.slice (some ⟨g', 0, none⟩) (j + 1) E') (ds ++ [y]) → Touch g (g + 1) (w2.alloc (.cells #[.int .i64 y] 2)) w5 →
          G ≤ g' ∧ DigsOf b (ds ++ [y]) ∧ Touch s (s + 1) w w5 ∧ Src w5 s (K + 4 * (j + 1)) := by
        intro y y0 y1 g' E' w5 hg' ow' ht5
        have tt : Touch G (w5.heap.size + w2.heap.size + 1) w2 w5 := ((Touch.refl G (w5.heap.size + w2.heap.size + 1) w2).alloc _).trans (ht5.widen (by omega) (by have := hgl.2.2; omega))
        have hgg : g' = g ∨ g' = w2.heap.size + 1 := by simpa using hg'
        refine ⟨by omega, ?_, ht.then_ tt (by have := HG.out; omega), (hs2.touch tt hsG).mono (by omega)⟩
        intro d hd'
        rcases List.mem_append.1 hd' with h1 | h1
        · exact hd d h1
        · rw [List.mem_singleton] at h1; subst h1; exact ⟨y0, y1⟩
      have v1 : IntKind.i64.wrap (b - 1) = b - 1 := fits_int _ (by omega) (by omega)
      cases x with
      | true =>
        go_wp2_with (at_builtin; go_must (refine wpList_appAt rfl (.tmp 23) (.tmp 25) 24 2 rfl Tryd.underlying24 info_int64 rfl (ow.alloc _) HL.out ⟨w2.heap.size, 0, none⟩ 1 (b - 1) rfl (cell_new1 w2 _ _) (by omega) (by simp <;> omega) ?_); intro g' E' w5 hg' own5 ht5; have hf := Lib.hid (fin (b - 1) (by omega) (by omega) g' E' w5 hg' own5 ht5); clear ht5 hg')
        clear fin
        go_roundw
        case rel => exact ⟨j + 1, ds ++ [b - 1], g', E', by omega, by go_num, by simp [HL.out], rfl, hf.out.2.1, hf.out.1, own5, hf.out.2.2.1, hf.out.2.2.2⟩
        case measure => (simp [intOf]) <;> omega
      | false =>
        go_wp2_with (at_builtin; go_must (refine wpList_appAt rfl (.tmp 23) (.tmp 25) 24 2 rfl Tryd.underlying24 info_int64 rfl (ow.alloc _) HL.out ⟨w2.heap.size, 0, none⟩ 1 (z) rfl (cell_new1 w2 _ _) (by omega) (by simp <;> omega) ?_); intro g' E' w5 hg' own5 ht5; have hf := Lib.hid (fin (z) (by omega) (by omega) g' E' w5 hg' own5 ht5); clear ht5 hg')
        clear fin
        go_roundw
        case rel => exact ⟨j + 1, ds ++ [z], g', E', by omega, by go_num, by simp [HL.out], rfl, hf.out.2.1, hf.out.1, own5, hf.out.2.2.1, hf.out.2.2.2⟩
        case measure => (simp [intOf]) <;> omega
    · obtain rfl : j = n := by omega
      go_wp2_with fail
      exact bodyPost_ret (v := .slice (some ⟨g, 0, none⟩) j E) (by simp [results, Tryd.results128, go_sem]) rfl ⟨ds, some ⟨g, 0, none⟩, E, rfl, HL.out, hd, ow.wide (by have := HG.out; omega) (by omega), ht, hsrc⟩

/-- A register that has been drawn. -/
structure DrawnR (b : Int) (ds : List Int) (m : Nat) : Prop where
  b0 : 2 ≤ b
  b1 : b ≤ 12
  n0 : 1 ≤ ds.length
  n1 : ds.length ≤ m
  digs : DigsOf b ds
/-- A register in a box, whose base has been chosen. -/
def RegAt (w : World) (B : Nat) (wx : World) : Prop := ∃ b : Int, 2 ≤ b ∧ b ≤ 12 ∧ Bx wx B 26 #[.int .i64 b, .slice none 0 0] ∧ Touch B (B + 1) w wx
set_option maxHeartbeats 8000000 in
theorem draw02_any (s K m : Nat) (w : World) (h : Src w s K) (hK : K ≤ 700000) (m0 : 1 ≤ m) (m1 : m ≤ 16) :
    Calls Tryd.prog 170 #[.pointer (some ⟨s, 0, none⟩), .int .i64 (m : Nat)] w fun e w' => ∃ b ds A C, e = .returned (.agg #[.int .i64 b, .slice A (List.length ds) C]) ∧ DrawnR b ds m ∧
      Own 2 w' w.heap.size w'.heap.size (.slice A ds.length C) ds ∧ Touch s (s + 1) w w' ∧ Src w' s (K + 6 + 4 * m) := by
  have hs := h.lt
  obtain ⟨r, hr⟩ : ∃ r, r = w.heap.size := ⟨_, rfl⟩
  obtain ⟨u, hu⟩ : ∃ u, u = w.alloc (.cells #[.int .i64 0, .slice none 0 0] 26) := ⟨_, rfl⟩
  have br : Bx u r 26 #[.int .i64 0, .slice none 0 0] := by rw [hu, hr]; exact Bx.new _ _ _
  have hbu : Below w.heap.size w u := by rw [hu]; exact (by repeat (first | exact Below.refl _ _ | refine Below.setCell ?_ (by first | omega | (simp <;> omega)) _ | refine Below.alloc ?_ (by first | omega | (simp <;> omega)) _ | refine Below.drew ?_))
  have hsu : u.heap.size = r + 1 := by rw [hu, hr]; simp
  have su : Src u s K := h.lo hbu hs
  have tu : Touch s (s + 1) w u := Below.touch hbu
  have HU := Lib.hid hu
  have HR := Lib.hid hr
  clear hu h hbu
  have hsr : s < r := by omega
  go_enter Tryd.func170, Tryd.ntmps170
  go_wp2_with fail
  rw [← HU.out, ← hr]
  clear hr
  refine (pick_any s K 11 u su (by omega) (by omega)).mono ?_
  rintro e w1 ⟨z, rfl, z0, z1, hs1, ht1⟩
  have v1 : IntKind.i64.wrap (2 + z) = 2 + z := fits_int _ (by omega) (by omega)
  have hl1 := ht1.size
  replace br := br.touch ht1 (by omega)
  replace tu := tu.trans ht1
  clear ht1 su
  go_wp2_with fail
  obtain ⟨B, hB⟩ : ∃ B, B = w1.heap.size := ⟨_, rfl⟩
  obtain ⟨v, hv⟩ : ∃ v, v = w1.alloc (.cells #[.int .i64 (2 + z), .slice none 0 0] 26) := ⟨_, rfl⟩
  rw [← hv, ← hB]
  have hbv : Below w1.heap.size w1 v := by rw [hv]; exact (by repeat (first | exact Below.refl _ _ | refine Below.setCell ?_ (by first | omega | (simp <;> omega)) _ | refine Below.alloc ?_ (by first | omega | (simp <;> omega)) _ | refine Below.drew ?_))
  have bB : Bx v B 26 #[.int .i64 (2 + z), .slice none 0 0] := by rw [hv, hB]; exact Bx.new _ _ _
  have hvz : v.heap.size = B + 1 := by rw [hv, hB]; simp
  have sv := hs1.lo hbv (by omega)
  replace tu := tu.trans (Below.touch hbv)
  replace br := br.below hbv
  clear hv hbv hs1
  have hrB : r < B := by omega
  refine (one_any s _ 2 v sv (by omega) (by omega)).mono ?_
  rintro e w2 ⟨x, rfl, hs2, ht2⟩
  have hl2 := ht2.size
  replace bB := bB.touch ht2 (by omega)
  replace br := br.touch ht2 (by omega)
  replace tu := tu.trans ht2
  clear ht2 sv
  have HB := Lib.hid hB
  have hb0 : 2 ≤ 2 + z ∧ 2 + z ≤ 12 := by omega
  clear hB z0 z1 v1
  go_upto_if 11 with fail
  go_cut [5] from 12 (fun s5 wx => s5 = .pointer (some ⟨B, 0, none⟩) ∧ RegAt w2 B wx)
  case first =>
    have c0 := bB.at_ 0 rfl
    have f0 := bB.thaw 0
    have hBl := bB.lt
    cases x with
    | true =>
      go_wp2_with fail
      go_meet
      case rel => exact ⟨rfl, 10, by omega, by omega, bB.set_ 0 (.int .i64 10), (Touch.refl _ _ _).setCell (by simp) (by simp) _⟩
    | false =>
      go_wp2_with fail
      go_meet
      case rel => exact ⟨rfl, 2 + z, hb0.1, hb0.2, bB, Touch.refl _ _ _⟩
  case rest =>
    obtain ⟨rfl, b, b0, b1, b3, ht3⟩ := hcut
    obtain ⟨w3, rfl⟩ : ∃ v, v = wc := ⟨_, rfl⟩
    have hl3 := ht3.size
    replace br := br.touch ht3 (by omega)
    have hs3 := hs2.touch ht3 (by omega)
    replace tu := tu.then_ ht3 (by have := HR.out; omega)
    clear bB hs2 ht3
    have hB3 := b3.lt
    have k0 : ∀ w', Touch s (s + 1) w3 w' → w'.cell? ⟨B, 0, none⟩ = some (.int .i64 b) := fun _ h => keptT h (b3.at_ 0 rfl) (by omega)
    go_upto_region 4 with fail
    refine wp_region_marked (fun w' => Touch s (s + 1) w3 w') 12 (by kernel_rfl) ?_
    have hS : Touch s (s + 1) w3 w3.drew := ⟨rfl, rfl, rfl, Nat.le_refl _, fun _ _ _ => rfl⟩
    refine wpAnyM_take (i := 0) (v := ?_) rfl (by kernel_rfl) (by kernel_rfl) (by kernel_rfl) (by kernel_rfl) (by kernel_rfl) (fun _ _ _ h => h) hS (.inl ⟨by rfl, ?_⟩) ?_
    rotate_left 1
    · intro w' hS'; go_simp; try with_reducible rfl
    simp only [Act.put, List.setIfInBounds_toArray]
    refine wpAnyM_take (i := 1) (v := ?_) rfl (by kernel_rfl) (by kernel_rfl) (by kernel_rfl) (by kernel_rfl) (by kernel_rfl) (fun _ _ _ h => h) hS (.inl ⟨by rfl, ?_⟩) ?_
    rotate_left 1
    · intro w' hS'; go_simp; try with_reducible rfl
    simp only [Act.put]
    refine wpAnyM_take (i := 2) (v := ?_) rfl (by kernel_rfl) (by kernel_rfl) (by kernel_rfl) (by kernel_rfl) (by kernel_rfl) (fun _ _ _ h => h) hS (.inl ⟨by rfl, ?_⟩) ?_
    rotate_left 1
    · intro w' hS'; go_simp; try with_reducible rfl
    simp only [Act.put]
    refine wpAnyM_take (i := 3) (v := ?_) rfl (by kernel_rfl) (by kernel_rfl) (by kernel_rfl) (by kernel_rfl) (by kernel_rfl) (fun _ _ _ h => h) hS (.inl ⟨by rfl, ?_⟩) ?_
    rotate_left 1
    · intro w' hS'; go_simp; try with_reducible rfl
    simp only [Act.put]
    refine wpAnyM_take (i := 4) (v := ?_) rfl (by kernel_rfl) (by kernel_rfl) (by kernel_rfl) (by kernel_rfl) (by kernel_rfl) (fun _ _ _ h => h) hS (.inl ⟨by rfl, ?_⟩) ?_
    rotate_left 1
    · intro w' hS'; go_simp; try with_reducible rfl
    simp only [Act.put]
    refine wpAnyM_take (i := 5) (v := ?_) rfl (by kernel_rfl) (by kernel_rfl) (by kernel_rfl) (by kernel_rfl) (by kernel_rfl) (fun _ _ _ h => h) hS (.inl ⟨by rfl, ?_⟩) ?_
    rotate_left 1
    · intro w' hS'; go_simp; try with_reducible rfl
    simp only [Act.put]
    refine wpAnyM_take (i := 6) (v := ?_) rfl (by kernel_rfl) (by kernel_rfl) (by kernel_rfl) (by kernel_rfl) (by kernel_rfl) (fun _ _ _ h => h) hS (.inl ⟨by rfl, ?_⟩) ?_
    rotate_left 1
    · intro w' hS'; go_simp; try with_reducible rfl
    simp only [Act.put]
    clear k0
    refine wpAnyM_one (i := 7) (by kernel_rfl) rfl (by rfl) (fun K hK => ?_)
    go_simp
    refine (l02Most_any b w3.drew b0 (by omega)).mono ?_
    rintro e w4 ⟨n, rfl, n0, n1, rfl⟩
    refine hK _ _ (.inr hS) ?_
    try simp only [Act.put, List.setIfInBounds_toArray]
    clear hK K
    refine wpAnyM_one (i := 8) (by kernel_rfl) rfl (by rfl) (fun K hK => ?_)
    go_simp
    refine (l00Min_any (m : Nat) (n : Nat) w3.drew).mono ?_
    rintro e w4 ⟨rfl, hw⟩
    subst w4
    refine hK _ _ (.inr hS) ?_
    try simp only [Act.put, List.setIfInBounds_toArray]
    clear hK K
    refine wpAnyM_one (i := 9) (by kernel_rfl) rfl (by rfl) (fun K hK => ?_)
    go_simp
    refine (pick_any s _ _ w3.drew (hs3.lo (L := w3.heap.size) ((Below.refl _ _).drew) (by omega)) (by omega) (by omega)).mono ?_
    rintro e w5 ⟨x, rfl, x0, x1, hs5, ht5⟩
    have hx : x ≤ (m : Int) - 1 := by omega
    replace hS := hS.trans ht5
    refine hK _ _ (.inr hS) ?_
    try simp only [Act.put, List.setIfInBounds_toArray]
    clear hK K
    have v2 : IntKind.i64.wrap (1 + x) = 1 + x := fits_int _ (by omega) (by omega)
    obtain ⟨N, hN⟩ : ∃ N : Nat, 1 + x = (N : Int) := ⟨(1 + x).toNat, by omega⟩
    have hN0 : 1 ≤ N ∧ N ≤ m := by omega
    rw [hN] at v2
    refine wpAnyM_one (i := 10) (by kernel_rfl) rfl (by rfl) (fun K hK => ?_)
    go_simp
    refine hK _ _ (.inr hS) ?_
    try simp only [Act.put, List.setIfInBounds_toArray]
    clear hK K
    refine wpAnyM_one (i := 11) (by kernel_rfl) rfl (by rfl) (fun K hK => ?_)
    go_simp
    refine (drawDigits_any s _ b N w5 hs5 (by omega) b0 (by omega) (by omega)).mono ?_
    rintro e w6 ⟨ds, A, C, rfl, hds, hdg, ow, ht6, hs6⟩
    have hl5 := hS.size
    replace hS := hS.trans ht6
    refine hK _ _ (.inr hS) ?_
    try simp only [Act.put, List.setIfInBounds_toArray]
    clear hK K
    have hl6 := hS.size
    have b6 := b3.touch hS (by omega)
    have br6 := br.touch hS (by omega)
    have f1 := b6.thaw 1
    have c1 := b6.at_ 1 rfl
    refine wpAnyM_one (i := 12) (by kernel_rfl) rfl (by rfl) (fun K hK => ?_)
    go_simp
    refine hK _ _ (.inr hS) ?_
    try simp only [Act.put, List.setIfInBounds_toArray]
    clear hK K
    refine wpAnyM_one (i := 13) (by kernel_rfl) rfl (by rfl) (fun K hK => ?_)
    go_simp
    refine hK _ _ (.inl rfl) ?_
    clear hK K
    refine wpAnyM_done (by kernel_rfl) ?_ _
    obtain ⟨w7, hw7⟩ : ∃ v, v = w6.setCell ⟨B, 1, none⟩ (.slice A N C) := ⟨_, rfl⟩
    rw [← hw7]
    have b7 : Bx w7 B 26 #[.int .i64 b, .slice A N C] := by rw [hw7]; exact b6.set_ 1 _
    have br7 : Bx w7 r 26 #[.int .i64 0, .slice none 0 0] := by rw [hw7]; exact br6.far (by simp; omega) _
    have hwz : w7.heap.size = w6.heap.size := by rw [hw7]; simp
    have tt : Touch B (B + 1) w6 w7 := by rw [hw7]; exact (Touch.refl _ _ _).setCell (by simp) (by simp) _
    have ow7 : Own 2 w7 w5.heap.size w7.heap.size (.slice A N C) ds := by rw [hwz]; exact ow.touch tt (.inr (by omega))
    have tu7 := (tu.trans hS).then_ tt (by have := HR.out; omega)
    have hs7 := hs6.touch tt (by omega)
    clear hw7 c1 f1
    have d0 := b7.at_ 0 rfl
    have d1 := b7.at_ 1 rfl
    have c0 := br7.at_ 0 rfl
    have c1 := br7.at_ 1 rfl
    have f0 := br7.thaw 0
    have f1 := br7.thaw 1
    have hr7 := br7.lt
    have bz := (br7.set_ 0 (.int .i64 b)).set_ 1 (.slice A N C)
    have r0 := bz.at_ 0 rfl
    have r1 := bz.at_ 1 rfl
    go_wp2_with fail
    refine bodyPost_ret (v := .agg #[.int .i64 b, .slice A N C]) (by simp [results, Tryd.results170, go_sem, r0, r1]) rfl ?_
    subst hds
    refine ⟨b, ds, A, C, rfl, ⟨b0, b1, hN0.1, hN0.2, hdg⟩, ?_, ?_, ?_⟩
    · exact ((ow7.setCell (p := ⟨r, 0, none⟩) (.inl (by simp; omega)) (.int .i64 b)).setCell (p := ⟨r, 1, none⟩) (.inl (by simp; omega)) (.slice A ds.length C)).wide (by have := HR.out; omega) (by simp)
    · exact tu7.then_ (((Touch.refl r (r + 1) w7).setCell (by simp) (by simp) _).setCell (by simp) (by simp) _) (by have := HR.out; omega)
    · exact (hs7.touch (((Touch.refl r (r + 1) w7).setCell (by simp) (by simp) _).setCell (by simp) (by simp) _) (by omega)).mono (by omega)

end Go.Proofs.YtlahobdopmdfmaaDoor

/- DrawJ -/
namespace Go.Proofs.YtlahobdopmdfmaaDoor
open Go.RowKit

/-- A bent register: numbers of 64 bits, not too many. -/
def BentR (b : Int) (ds : List Int) : Prop := I64 b ∧ All64 ds ∧ ds.length ≤ 17
/-- A bent register in a box. -/
def RgBnt (s N r B : Nat) (w wx : World) : Prop := ∃ (b : Int) (ds : List Int) (A : Option Addr) (C : Nat), BentR b ds ∧ Bx wx B 26 #[.int .i64 b, .slice A ds.length C] ∧ Bx wx r 26 #[.int .i64 0, .slice none 0 0] ∧
  Own 2 wx (r + 1) wx.heap.size (.slice A ds.length C) ds ∧ Src wx s N ∧ Touch s (s + 1) w wx
theorem own_head {t : TypeId} {w : World} {lo hi n c : Nat} {A : Option Addr} {zs : List Int} (h : Own t w lo hi (.slice A n c) zs) (hn : 0 < zs.length) : ∃ p, A = some ⟨p, 0, none⟩ ∧ lo ≤ p ∧ p < hi := by
  rcases h.row.2 with ⟨hv, h0⟩ | ⟨g, cap, cur, hv, hg, _⟩
  · omega
  · injection hv with hA _ _
    exact ⟨g, hA, hg, h.top g (by rw [hA]; rfl)⟩
theorem rd_touch {w w' : World} {g lo hi : Nat} {zs : List Int} (h : Rd w (some ⟨g, 0, none⟩) zs) (ht : Touch lo hi w w') (hd : g < lo ∨ hi ≤ g) : Rd w' (some ⟨g, 0, none⟩) zs := by
  refine ⟨h.len, fun hne => ⟨g, 0, rfl, fun i hi => ?_⟩⟩
  obtain ⟨b, off, e, hc⟩ := h.cells hne
  injection e with e
  injection e with e1 e2 _
  subst e1 e2
  exact keptT ht (hc i hi) hd

set_option maxRecDepth 100000 in
set_option maxHeartbeats 8000000 in
theorem bentReg_any (s N : Nat) (w : World) (h : Src w s N) (hN : N ≤ 600000) :
    Calls Tryd.prog 130 #[.pointer (some ⟨s, 0, none⟩)] w fun e w' => ∃ (b : Int) (ds : List Int) (A : Option Addr) (C : Nat), e = .returned (.agg #[.int .i64 b, .slice A (List.length ds) C]) ∧ BentR b ds ∧
      Own 2 w' w.heap.size w'.heap.size (.slice A ds.length C) ds ∧ Touch s (s + 1) w w' ∧ Src w' s (N + 200) := by
  have hs := h.lt
  obtain ⟨r, hr⟩ : ∃ r, r = w.heap.size := ⟨_, rfl⟩
  obtain ⟨u, hu⟩ : ∃ u, u = w.alloc (.cells #[.int .i64 0, .slice none 0 0] 26) := ⟨_, rfl⟩
  have br : Bx u r 26 #[.int .i64 0, .slice none 0 0] := by rw [hu, hr]; exact Bx.new _ _ _
  have hbu : Below w.heap.size w u := by rw [hu]; exact (by repeat (first | exact Below.refl _ _ | refine Below.setCell ?_ (by first | omega | (simp <;> omega)) _ | refine Below.alloc ?_ (by first | omega | (simp <;> omega)) _ | refine Below.drew ?_))
  have hsu : u.heap.size = r + 1 := by rw [hu, hr]; simp
  have su : Src u s N := h.lo hbu hs
  have tu : Touch s (s + 1) w u := Below.touch hbu
  have HU := Lib.hid hu
  have HR := Lib.hid hr
  clear hu h hbu
  have hsr : s < r := by omega
  go_enter Tryd.func130, Tryd.ntmps130
  go_wp2_with fail
  rw [← HU.out, ← hr]
  clear hr
  refine (draw02_any s N 6 u su (by omega) (by omega) (by omega)).mono ?_
  rintro e w1 ⟨b, ds, A, C, rfl, hdd, ow, ht1, hs1⟩
  have hl1 := ht1.size
  replace br := br.touch ht1 (by omega)
  replace tu := tu.trans ht1
  rw [hsu] at ow
  clear ht1 su
  go_wp2_with fail
  obtain ⟨B, hB⟩ : ∃ B, B = w1.heap.size := ⟨_, rfl⟩
  obtain ⟨v, hv⟩ : ∃ v, v = w1.alloc (.cells #[.int .i64 b, .slice A ds.length C] 26) := ⟨_, rfl⟩
  rw [← hv, ← hB]
  have hbv : Below w1.heap.size w1 v := by rw [hv]; exact (Below.refl _ _).alloc (Nat.le_refl _) _
  have bB : Bx v B 26 #[.int .i64 b, .slice A ds.length C] := by rw [hv, hB]; exact Bx.new _ _ _
  have hrB : r < B := by rw [hB]; exact br.lt
  replace br := br.below hbv
  replace tu := tu.trans (Below.touch hbv)
  have hsx := hs1.lo hbv (by omega)
  replace ow := ow.below hbv
  rw [← hB] at ow
  clear hv hbv hs1 hB
  refine (pick_any s _ 20 v hsx (by omega) (by omega)).mono ?_
  rintro e w2 ⟨z, rfl, z0, z1, hs2, ht2⟩
  have hl2 := ht2.size
  replace bB := bB.touch ht2 (by omega)
  replace br := br.touch ht2 (by omega)
  replace ow := ow.touch ht2 (.inr (by omega))
  replace tu := tu.trans ht2
  replace hsx := hs2.mono (M := N + 60) (by omega)
  have hD : Hid (BentR b ds) := Lib.hid ⟨mid64 (by have := hdd.b0; omega) (by have := hdd.b1; omega), fun x hx => by have := hdd.digs x hx; have := hdd.b1; exact mid64 (by omega) (by omega), by have := hdd.n1; omega⟩
  have b0 := hdd.b0
  have b1 := hdd.b1
  have hn1 : 0 < ds.length := hdd.n0
  have hn6 := hdd.n1
  clear ht2 hs2 hdd hsu
  have hBz := bB.lt
  go_upto_block 0 with fail
  go_cut [3] from 8 to 54 (fun s3 wx => s3 = .pointer (some ⟨B, 0, none⟩) ∧ RgBnt s (N + 200) r B w wx)
  case first =>
    by_cases h0 : z = 0
    · subst h0
      go_wp2_with fail
      have hal : Below w2.heap.size w2 (w2.alloc (.cells ([1, 2, 16, 17, -9223372036854775808].map (Value.int .i64)).toArray 2)) := (Below.refl _ _).alloc (Nat.le_refl _) _
      refine (among_any s _ w2.heap.size 5 [1, 2, 16, 17, -9223372036854775808] _ (hsx.lo (L := w2.heap.size) hal (by omega)) (by omega) (by have := rd_new w2 [1, 2, 16, 17, -9223372036854775808] (by simp); exact this) (by omega) (by simp) (by simp)).mono ?_
      rintro e w3 ⟨y, rfl, hy, hs3, ht3⟩
      have iy : I64 y := by
        simp at hy
        rcases hy with rfl | rfl | rfl | rfl | rfl
        all_goals first | exact mid64 (by omega) (by omega) | (unfold I64; decide)
      have hl3 := hal.size
      have b3 := (bB.below hal).touch ht3 (by omega)
      have r3 := (br.below hal).touch ht3 (by omega)
      have o3 := (ow.below hal).touch ht3 (.inr (by omega))
      have t3 := (tu.trans (Below.touch hal)).trans ht3
      have tt : Touch B (B + 1) w3 (w3.setCell ⟨B, 0, none⟩ (.int .i64 y)) := (Touch.refl _ _ _).setCell (by simp) (by simp) _
      have b4 := b3.set_ 0 (.int .i64 y)
      have r4 := r3.touch tt (by omega)
      have o4 := (o3.touch tt (.inl (by omega))).wide (lo' := r + 1) (hi' := (w3.setCell ⟨B, 0, none⟩ (.int .i64 y)).heap.size) (by omega) (by have := b3.lt; simp; omega)
      have t4 := t3.then_ tt (by have := HR.out; omega)
      have s4 := (hs3.touch tt (by omega)).mono (M := N + 200) (by omega)
      have c3 := b3.at_ 0 rfl
      have f3 := b3.thaw 0
      clear tt ht3 hal hy bB br ow tu hsx
      go_wp2_with fail
      go_meet
      case rel => exact ⟨rfl, y, ds, A, C, ⟨iy, hD.out.2.1, hD.out.2.2⟩, b4, r4, o4, s4, t4⟩
    have h0b : (z == 0) = false := beq_eq_false_iff_ne.2 h0
    by_cases h1 : z = 1
    · subst h1
      obtain ⟨p, rfl, hp1, hp2⟩ := own_head ow hn1
      have g0 : ∀ w', Bx w' B 26 #[.int .i64 b, .slice (some ⟨p, 0, none⟩) ds.length C] → w'.cell? ⟨B, 0, none⟩ = some (.int .i64 b) := fun w' h => h.at_ 0 rfl
      have g1 : ∀ w', Bx w' B 26 #[.int .i64 b, .slice (some ⟨p, 0, none⟩) ds.length C] → w'.cell? ⟨B, 1, none⟩ = some (.slice (some ⟨p, 0, none⟩) ds.length C) := fun w' h => h.at_ 1 rfl
      have v1 : IntKind.i64.wrap (b - 1) = b - 1 := fits_int _ (by omega) (by omega)
      go_wp2_with fail
      refine wp_region_marked (fun w' => Bx w' B 26 #[.int .i64 b, .slice (some ⟨p, 0, none⟩) ds.length C]) 16 (by kernel_rfl) ?_
      have hS : Bx w2.drew B 26 #[.int .i64 b, .slice (some ⟨p, 0, none⟩) ds.length C] := bB.drew
      refine wpAnyM_take (i := 0) (v := ?_) rfl (by kernel_rfl) (by kernel_rfl) (by kernel_rfl) (by kernel_rfl) (by kernel_rfl) (fun _ _ _ h => h) hS (.inl ⟨by rfl, ?_⟩) ?_
      rotate_left 1
      · intro w' hS'; go_simp; try with_reducible rfl
      simp only [Act.put, List.setIfInBounds_toArray]
      refine wpAnyM_take (i := 1) (v := ?_) rfl (by kernel_rfl) (by kernel_rfl) (by kernel_rfl) (by kernel_rfl) (by kernel_rfl) (fun _ _ _ h => h) hS (.inl ⟨by rfl, ?_⟩) ?_
      rotate_left 1
      · intro w' hS'; go_simp; try with_reducible rfl
      simp only [Act.put]
      refine wpAnyM_take (i := 2) (v := ?_) rfl (by kernel_rfl) (by kernel_rfl) (by kernel_rfl) (by kernel_rfl) (by kernel_rfl) (fun _ _ _ h => h) hS (.inl ⟨by rfl, ?_⟩) ?_
      rotate_left 1
      · intro w' hS'; go_simp; try with_reducible rfl
      simp only [Act.put]
      refine wpAnyM_take (i := 3) (v := ?_) rfl (by kernel_rfl) (by kernel_rfl) (by kernel_rfl) (by kernel_rfl) (by kernel_rfl) (fun _ _ _ h => h) hS (.inl ⟨by rfl, ?_⟩) ?_
      rotate_left 1
      · intro w' hS'; go_simp; try with_reducible rfl
      simp only [Act.put]
      refine wpAnyM_take (i := 4) (v := ?_) rfl (by kernel_rfl) (by kernel_rfl) (by kernel_rfl) (by kernel_rfl) (by kernel_rfl) (fun _ _ _ h => h) hS (.inl ⟨by rfl, ?_⟩) ?_
      rotate_left 1
      · intro w' hS'; go_simp; try with_reducible rfl
      simp only [Act.put]
      refine wpAnyM_take (i := 5) (v := ?_) rfl (by kernel_rfl) (by kernel_rfl) (by kernel_rfl) (by kernel_rfl) (by kernel_rfl) (fun _ _ _ h => h) hS (.inl ⟨by rfl, ?_⟩) ?_
      rotate_left 1
      · intro w' hS'; go_simp; try with_reducible rfl
      simp only [Act.put]
      refine wpAnyM_take (i := 7) (v := ?_) rfl (by kernel_rfl) (by kernel_rfl) (by kernel_rfl) (by kernel_rfl) (by kernel_rfl) (fun _ _ _ h => h) hS (.inl ⟨by rfl, ?_⟩) ?_
      rotate_left 1
      · intro w' hS'; go_simp; try with_reducible rfl
      simp only [Act.put]
      refine wpAnyM_take (i := 8) (v := ?_) rfl (by kernel_rfl) (by kernel_rfl) (by kernel_rfl) (by kernel_rfl) (by kernel_rfl) (fun _ _ _ h => h) hS (.inl ⟨by rfl, ?_⟩) ?_
      rotate_left 1
      · intro w' hS'; go_simp; try with_reducible rfl
      simp only [Act.put]
      refine wpAnyM_take (i := 9) (v := ?_) rfl (by kernel_rfl) (by kernel_rfl) (by kernel_rfl) (by kernel_rfl) (by kernel_rfl) (fun _ _ _ h => h) hS (.inl ⟨by rfl, ?_⟩) ?_
      rotate_left 1
      · intro w' hS'; go_simp; try with_reducible rfl
      simp only [Act.put]
      refine wpAnyM_take (i := 10) (v := ?_) rfl (by kernel_rfl) (by kernel_rfl) (by kernel_rfl) (by kernel_rfl) (by kernel_rfl) (fun _ _ _ h => h) hS (.inl ⟨by rfl, ?_⟩) ?_
      rotate_left 1
      · intro w' hS'; go_simp; try with_reducible rfl
      simp only [Act.put]
      refine wpAnyM_take (i := 11) (v := ?_) rfl (by kernel_rfl) (by kernel_rfl) (by kernel_rfl) (by kernel_rfl) (by kernel_rfl) (fun _ _ _ h => h) hS (.inl ⟨by rfl, ?_⟩) ?_
      rotate_left 1
      · intro w' hS'; go_simp; try with_reducible rfl
      simp only [Act.put]
      refine wpAnyM_take (i := 12) (v := ?_) rfl (by kernel_rfl) (by kernel_rfl) (by kernel_rfl) (by kernel_rfl) (by kernel_rfl) (fun _ _ _ h => h) hS (.inl ⟨by rfl, ?_⟩) ?_
      rotate_left 1
      · intro w' hS'; go_simp; try with_reducible rfl
      simp only [Act.put]
      refine wpAnyM_two (i := 6) (j := 13) (by kernel_rfl) rfl rfl (by rfl) (by rfl) (fun K hK => ?_) (fun K hK => ?_)
      · go_simp
        refine (pick_any s _ (ds.length : Int) w2.drew (hsx.lo (L := w2.heap.size) ((Below.refl _ _).drew) (by omega)) (by omega) (by omega)).mono ?_
        rintro e w4 ⟨q0, rfl, q1, q2, hs4, ht4⟩
        obtain ⟨q, rfl⟩ := Int.eq_ofNat_of_zero_le q1
        have hqd : q < ds.length := by omega
        have hT4 : Touch s (s + 1) w2 w4 := ((Touch.refl _ _ _).drewN 1).trans ht4
        have hl4 := hT4.size
        replace hS := hS.touch ht4 (by omega)
        refine hK _ _ (.inr hS) ?_
        try simp only [Act.put, List.setIfInBounds_toArray]
        clear hK K ht4 q1 q2
        refine wpAnyM_one (i := 13) (by kernel_rfl) rfl (by rfl) (fun K hK => ?_)
        go_simp
        have hal : Below w4.heap.size w4 (w4.alloc (.cells ([-1, b, b - 1, 9223372036854775807].map (Value.int .i64)).toArray 2)) := (Below.refl _ _).alloc (Nat.le_refl _) _
        have hT5 : Touch s (s + 1) w2 _ := hT4.trans (Below.touch hal)
        replace hS := hS.below hal
        have hlal := hal.size
        refine hK _ _ (.inr hS) ?_
        try simp only [Act.put, List.setIfInBounds_toArray]
        clear hK K
        refine wpAnyM_one (i := 14) (by kernel_rfl) rfl (by rfl) (fun K hK => ?_)
        go_simp
        refine (among_any s _ w4.heap.size 4 [-1, b, b - 1, 9223372036854775807] _ (hs4.lo (L := w4.heap.size) hal (by omega)) (by omega) (by have := rd_new w4 [-1, b, b - 1, 9223372036854775807] (by simp); exact this) (by omega) (by simp) (by simp)).mono ?_
        rintro e w6 ⟨y, rfl, hy, hs6, ht6⟩
        have iy : I64 y := by
          have hb := hD.out.1
          simp at hy
          rcases hy with rfl | rfl | rfl | rfl
          · exact mid64 (by omega) (by omega)
          · exact hb
          · exact mid64 (by omega) (by omega)
          · unfold I64; decide
        have hT6 := hT5.trans ht6
        have hl6 := hT6.size
        replace hS := bB.touch hT6 (by omega)
        have o6 := (ow.touch hT6 (.inr (by omega)))
        refine hK _ _ (.inr hS) ?_
        try simp only [Act.put, List.setIfInBounds_toArray]
        clear hK K ht6 hy
        have hgt := o6.get (j := q) hqd
        have hth := o6.thaw q
        have hob := o6.block
        refine wpAnyM_take (i := 15) (v := ?_) rfl (by kernel_rfl) (by kernel_rfl) (by kernel_rfl) (by kernel_rfl) (by kernel_rfl) (fun _ _ _ h => h) hS (.inl ⟨by rfl, ?_⟩) ?_
        rotate_left 1
        · intro w' hS'; go_simp; try with_reducible rfl
        simp only [Act.put, List.setIfInBounds_toArray]
        refine wpAnyM_one (i := 16) (by kernel_rfl) rfl (by rfl) (fun K hK => ?_)
        go_simp
        refine hK _ _ (.inl rfl) ?_
        clear hK K
        refine wpAnyM_done (by kernel_rfl) ?_ _
        have tt : Touch p (p + 1) w6 (w6.setCell ⟨p, q, none⟩ (.int .i64 y)) := (Touch.refl _ _ _).setCell (by simp) (by simp) _
        have o7 := Lib.hid ((o6.put q y).wide (lo' := r + 1) (hi' := (w6.setCell ⟨p, q, none⟩ (.int .i64 y)).heap.size) (by omega) (by simp; omega))
        have b7 := Lib.hid (hS.touch tt (by omega))
        have r7 := Lib.hid ((br.touch hT6 (by omega)).touch tt (by omega))
        have t7 := Lib.hid ((tu.trans hT6).then_ tt (by have := HR.out; omega))
        have s7 := Lib.hid ((hs6.touch tt (by omega)).mono (M := N + 200) (by omega))
        have hln : (ds.set q y).length = ds.length := by simp
        have hD2 : Hid (BentR b (ds.set q y)) := Lib.hid ⟨hD.out.1, fun x hx => by
          rcases List.mem_or_eq_of_mem_set hx with h | h
          · exact hD.out.2.1 x h
          · subst h; exact iy, by rw [hln]; exact hD.out.2.2⟩
        clear tt o6 hgt hth
        go_wp2_with fail
        go_meet
        case rel => exact ⟨rfl, b, ds.set q y, some ⟨p, 0, none⟩, C, hD2.out, by rw [hln]; exact b7.out, r7.out, by rw [hln]; exact o7.out, s7.out, t7.out⟩
      · go_simp
        have hal : Below w2.heap.size w2 (w2.alloc (.cells ([-1, b, b - 1, 9223372036854775807].map (Value.int .i64)).toArray 2)).drew := ((Below.refl _ _).alloc (Nat.le_refl _) _).drew
        have hRd : Rd (w2.alloc (.cells ([-1, b, b - 1, 9223372036854775807].map (Value.int .i64)).toArray 2)).drew (some ⟨w2.heap.size, 0, none⟩) [-1, b, b - 1, 9223372036854775807] := (rd_new w2 [-1, b, b - 1, 9223372036854775807] (by simp)).drewN 1
        replace hS := bB.below hal
        have hlal : w2.heap.size + 1 ≤ (w2.alloc (.cells ([-1, b, b - 1, 9223372036854775807].map (Value.int .i64)).toArray 2)).drew.heap.size := by simp
        refine hK _ _ (.inr hS) ?_
        try simp only [Act.put, List.setIfInBounds_toArray]
        clear hK K
        obtain ⟨w4, hw4⟩ : ∃ w4, w4 = (w2.alloc (.cells ([-1, b, b - 1, 9223372036854775807].map (Value.int .i64)).toArray 2)).drew := ⟨_, rfl⟩
        have hw4' : w4 = (w2.alloc (.cells #[.int .i64 (-1), .int .i64 b, .int .i64 (b - 1), .int .i64 9223372036854775807] 2)).drew := hw4
        rw [← hw4] at hal hRd hS hlal
        rw [← hw4']
        clear hw4 hw4'
        refine wpAnyM_one (i := 6) (by kernel_rfl) rfl (by rfl) (fun K hK => ?_)
        go_simp
        refine (pick_any s _ (ds.length : Int) w4 (hsx.lo (L := w2.heap.size) hal (by omega)) (by omega) (by omega)).mono ?_
        rintro e w5 ⟨q0, rfl, q1, q2, hs5, ht5⟩
        obtain ⟨q, rfl⟩ := Int.eq_ofNat_of_zero_le q1
        have hqd : q < ds.length := by omega
        have hT5 : Touch s (s + 1) w2 w5 := (Below.touch hal : Touch s (s + 1) w2 w4).trans ht5
        have hl5 := hT5.size
        replace hS := hS.touch ht5 (by omega)
        have hRd5 : Rd w5 (some ⟨w2.heap.size, 0, none⟩) [-1, b, b - 1, 9223372036854775807] := rd_touch hRd ht5 (by omega)
        refine hK _ _ (.inr hS) ?_
        try simp only [Act.put, List.setIfInBounds_toArray]
        clear hK K ht5 q1 q2 hRd
        refine wpAnyM_one (i := 14) (by kernel_rfl) rfl (by rfl) (fun K hK => ?_)
        go_simp
        refine (among_any s _ w2.heap.size 4 [-1, b, b - 1, 9223372036854775807] _ hs5 (by omega) hRd5 (by omega) (by simp) (by simp)).mono ?_
        rintro e w6 ⟨y, rfl, hy, hs6, ht6⟩
        have iy : I64 y := by
          have hb := hD.out.1
          simp at hy
          rcases hy with rfl | rfl | rfl | rfl
          · exact mid64 (by omega) (by omega)
          · exact hb
          · exact mid64 (by omega) (by omega)
          · unfold I64; decide
        have hT6 := hT5.trans ht6
        have hl6 := hT6.size
        replace hS := bB.touch hT6 (by omega)
        have o6 := (ow.touch hT6 (.inr (by omega)))
        refine hK _ _ (.inr hS) ?_
        try simp only [Act.put, List.setIfInBounds_toArray]
        clear hK K ht6 hy
        have hgt := o6.get (j := q) hqd
        have hth := o6.thaw q
        have hob := o6.block
        refine wpAnyM_take (i := 15) (v := ?_) rfl (by kernel_rfl) (by kernel_rfl) (by kernel_rfl) (by kernel_rfl) (by kernel_rfl) (fun _ _ _ h => h) hS (.inl ⟨by rfl, ?_⟩) ?_
        rotate_left 1
        · intro w' hS'; go_simp; try with_reducible rfl
        simp only [Act.put, List.setIfInBounds_toArray]
        refine wpAnyM_one (i := 16) (by kernel_rfl) rfl (by rfl) (fun K hK => ?_)
        go_simp
        refine hK _ _ (.inl rfl) ?_
        clear hK K
        refine wpAnyM_done (by kernel_rfl) ?_ _
        have tt : Touch p (p + 1) w6 (w6.setCell ⟨p, q, none⟩ (.int .i64 y)) := (Touch.refl _ _ _).setCell (by simp) (by simp) _
        have o7 := Lib.hid ((o6.put q y).wide (lo' := r + 1) (hi' := (w6.setCell ⟨p, q, none⟩ (.int .i64 y)).heap.size) (by omega) (by simp; omega))
        have b7 := Lib.hid (hS.touch tt (by omega))
        have r7 := Lib.hid ((br.touch hT6 (by omega)).touch tt (by omega))
        have t7 := Lib.hid ((tu.trans hT6).then_ tt (by have := HR.out; omega))
        have s7 := Lib.hid ((hs6.touch tt (by omega)).mono (M := N + 200) (by omega))
        have hln : (ds.set q y).length = ds.length := by simp
        have hD2 : Hid (BentR b (ds.set q y)) := Lib.hid ⟨hD.out.1, fun x hx => by
          rcases List.mem_or_eq_of_mem_set hx with h | h
          · exact hD.out.2.1 x h
          · subst h; exact iy, by rw [hln]; exact hD.out.2.2⟩
        clear tt o6 hgt hth
        go_wp2_with fail
        go_meet
        case rel => exact ⟨rfl, b, ds.set q y, some ⟨p, 0, none⟩, C, hD2.out, by rw [hln]; exact b7.out, r7.out, by rw [hln]; exact o7.out, s7.out, t7.out⟩
    have h1b : (z == 1) = false := beq_eq_false_iff_ne.2 h1
    by_cases h2 : z = 2
    · subst h2
      have c1 := bB.at_ 1 rfl
      have f1 := bB.thaw 1
      obtain ⟨w3, hw3⟩ : ∃ w3, w3 = w2.setCell ⟨B, 1, none⟩ (.slice (some ⟨w2.heap.size, 0, none⟩) 0 0) := ⟨_, rfl⟩
      have tt : Touch B (B + 1) w2 w3 := by rw [hw3]; exact (Touch.refl _ _ _).setCell (by simp) (by simp) _
      have hz3 : w3.heap.size = w2.heap.size := by rw [hw3]; simp
      have b3 : Bx w3 B 26 #[.int .i64 b, .slice (some ⟨w2.heap.size, 0, none⟩) 0 0] := by rw [hw3]; exact bB.set_ 1 _
      obtain ⟨w4, hw4⟩ : ∃ w4, w4 = w3.alloc (.cells #[] 2) := ⟨_, rfl⟩
      have hal : Below w3.heap.size w3 w4 := by rw [hw4]; exact (Below.refl _ _).alloc (Nat.le_refl _) _
      have own : Own 2 w4 w2.heap.size (w2.heap.size + 1) (.slice (some ⟨w2.heap.size, 0, none⟩) 0 0) [] := by rw [← hz3, hw4]; exact own_of_row (zs := []) (row_new 2 1 w3 #[] 0 (by simp) (by omega)) rfl (by simp)
      have hz4 : w4.heap.size = w2.heap.size + 1 := by rw [hw4]; simp [hz3]
      have HW3 := Lib.hid (show w4 = (w2.setCell ⟨B, 1, none⟩ (.slice (some ⟨w2.heap.size, 0, none⟩) 0 0)).alloc (.cells #[] 2) by rw [hw4, hw3])
      have b4 := Lib.hid (b3.below hal)
      have r4 := Lib.hid ((br.touch tt (by omega)).below hal)
      have o4 := Lib.hid (own.wide (lo' := r + 1) (hi' := w4.heap.size) (by omega) (by omega))
      have t4 := Lib.hid ((tu.then_ tt (by have := HR.out; omega)).trans (Below.touch hal))
      have s4 := Lib.hid (((hsx.touch tt (by omega)).lo hal (by omega)).mono (M := N + 200) (by omega))
      have hE : Hid (BentR b []) := Lib.hid ⟨hD.out.1, (fun x hx => by cases hx), by simp⟩
      clear tt own hal hw3 hw4 hz3 hz4 b3 bB br ow tu hsx
      go_wp2_with fail
      rw [← HW3.out]
      go_meet
      case rel => exact ⟨rfl, b, [], _, _, hE.out, b4.out, r4.out, o4.out, s4.out, t4.out⟩
    have h2b : (z == 2) = false := beq_eq_false_iff_ne.2 h2
    by_cases h3 : z = 3
    · subst h3
      have c0 := bB.at_ 0 rfl
      have f0 := bB.thaw 0
      have t0 : Touch B (B + 1) w2 (w2.setCell ⟨B, 0, none⟩ (.int .i64 5)) := (Touch.refl _ _ _).setCell (by simp) (by simp) _
      obtain ⟨w3, hw3⟩ : ∃ w3, w3 = w2.setCell ⟨B, 0, none⟩ (.int .i64 5) := ⟨_, rfl⟩
      have b3 : Bx w3 B 26 #[.int .i64 5, .slice A ds.length C] := by rw [hw3]; exact bB.set_ 0 _
      rw [← hw3] at t0
      have r3 := br.touch t0 (by omega)
      have t3 := tu.then_ t0 (by have := HR.out; omega)
      have s3 := hsx.touch t0 (by omega)
      have hl3 := t0.size
      have HW3 := Lib.hid hw3
      clear hw3 t0 bB br ow tu hsx
      go_upto_region 11 with fail
      rw [← HW3.out]
      clear c0 f0
      go_wp2_with fail
      refine (pick_any s _ 2 w3 s3 (by omega) (by omega)).mono ?_
      rintro e w4 ⟨y, rfl, y0, y1, hs4, ht4⟩
      obtain ⟨n, hn⟩ : ∃ n : Nat, 16 + y = (n : Int) := ⟨(16 + y).toNat, by omega⟩
      have hn17 : n ≤ 17 := by omega
      have v2 : IntKind.i64.wrap (16 + y) = (n : Int) := by rw [fits_int _ (by omega) (by omega)]; exact hn
      have hl4 := ht4.size
      replace b3 := b3.touch ht4 (by omega)
      replace r3 := r3.touch ht4 (by omega)
      replace t3 := t3.trans ht4
      clear ht4 s3 hn
      go_wp2_with fail
      refine (drawDigits_any s _ 5 n w4 hs4 (by omega) (by omega) (by omega) (by omega)).mono ?_
      rintro e w5 ⟨es, A5, C5, rfl, hel, hdg, own, ht5, hs5⟩
      have hl5 := ht5.size
      replace b3 := b3.touch ht5 (by omega)
      replace r3 := r3.touch ht5 (by omega)
      replace t3 := t3.trans ht5
      have c3 := b3.at_ 1 rfl
      have f3 := b3.thaw 1
      subst hel
      have tt : Touch B (B + 1) w5 (w5.setCell ⟨B, 1, none⟩ (.slice A5 es.length C5)) := (Touch.refl _ _ _).setCell (by simp) (by simp) _
      have b4 := Lib.hid (b3.set_ 1 (.slice A5 es.length C5))
      have r4 := Lib.hid (r3.touch tt (by omega))
      have hbz := b3.lt
      have o4 := Lib.hid ((own.touch tt (.inr (by omega))).wide (lo' := r + 1) (hi' := (w5.setCell ⟨B, 1, none⟩ (.slice A5 es.length C5)).heap.size) (by omega) (by simp))
      have t4 := Lib.hid (t3.then_ tt (by have := HR.out; omega))
      have s4 := Lib.hid ((hs5.touch tt (by omega)).mono (M := N + 200) (by omega))
      have hE : Hid (BentR 5 es) := Lib.hid ⟨mid64 (by omega) (by omega), fun x hx => by have := hdg x hx; exact mid64 (by omega) (by omega), hn17⟩
      clear tt own r3 t3 hs5 ht5 hdg hs4
      go_wp2_with fail
      go_meet
      case rel => exact ⟨rfl, 5, es, A5, C5, hE.out, b4.out, r4.out, o4.out, s4.out, t4.out⟩
    have h3b : (z == 3) = false := beq_eq_false_iff_ne.2 h3
    by_cases h4 : z = 4
    · subst h4
      have c0 := bB.at_ 0 rfl
      have c1 := bB.at_ 1 rfl
      have f0 := bB.thaw 0
      have f1 := bB.thaw 1
      obtain ⟨w3, hw3⟩ : ∃ w3, w3 = (w2.setCell ⟨B, 0, none⟩ (.int .i64 10)).setCell ⟨B, 1, none⟩ (.slice (some ⟨w2.heap.size, 0, none⟩) 13 13) := ⟨_, rfl⟩
      have tt : Touch B (B + 1) w2 w3 := by rw [hw3]; exact ((Touch.refl _ _ _).setCell (by simp) (by simp) _).setCell (by simp) (by simp) _
      have hz3 : w3.heap.size = w2.heap.size := by rw [hw3]; simp
      have b3 : Bx w3 B 26 #[.int .i64 10, .slice (some ⟨w2.heap.size, 0, none⟩) 13 13] := by rw [hw3]; exact (bB.set_ 0 _).set_ 1 _
      obtain ⟨w5, hw5⟩ : ∃ w5, w5 = w3.alloc (.cells #[.int .i64 0, .int .i64 0, .int .i64 0, .int .i64 0, .int .i64 0, .int .i64 0, .int .i64 0, .int .i64 0, .int .i64 0, .int .i64 0, .int .i64 0, .int .i64 0, .int .i64 1] 2) := ⟨_, rfl⟩
      have hal : Below w3.heap.size w3 w5 := by rw [hw5]; exact (Below.refl _ _).alloc (Nat.le_refl _) _
      have hz5 : w5.heap.size = w2.heap.size + 1 := by rw [hw5]; simp [hz3]
      have own5 : Own 2 w5 w2.heap.size (w2.heap.size + 1) (.slice (some ⟨w2.heap.size, 0, none⟩) 13 13) [0, 0, 0, 0, 0, 0, 0, 0, 0, 0, 0, 0, 1] := by rw [← hz3, hw5]; exact own_of_row (zs := [0, 0, 0, 0, 0, 0, 0, 0, 0, 0, 0, 0, 1]) (row_new 2 1 w3 #[.int .i64 0, .int .i64 0, .int .i64 0, .int .i64 0, .int .i64 0, .int .i64 0, .int .i64 0, .int .i64 0, .int .i64 0, .int .i64 0, .int .i64 0, .int .i64 0, .int .i64 1] 13 (by simp) (by omega)) rfl (by simp)
      have b5 := b3.below hal
      have r5 := (br.touch tt (by omega)).below hal
      have tu5 := (tu.then_ tt (by have := HR.out; omega)).trans (Below.touch hal)
      have s5 := (hsx.touch tt (by omega)).lo hal (by omega)
      have HW := Lib.hid (show w5 = ((w2.setCell ⟨B, 0, none⟩ (.int .i64 10)).setCell ⟨B, 1, none⟩ (.slice (some ⟨w2.heap.size, 0, none⟩) 13 13)).alloc (.cells #[.int .i64 0, .int .i64 0, .int .i64 0, .int .i64 0, .int .i64 0, .int .i64 0, .int .i64 0, .int .i64 0, .int .i64 0, .int .i64 0, .int .i64 0, .int .i64 0, .int .i64 1] 2) by rw [hw5, hw3])
      have hz5' : w2.heap.size + 1 ≤ w5.heap.size := by omega
      clear hw3 hw5 tt hal b3 bB br ow tu hsx hz3 hz5
      go_upto_region 15 with fail
      rw [← HW.out]
      clear c0 c1 f0 f1
      have g1 : ∀ w', Bx w' B 26 #[.int .i64 10, .slice (some ⟨w2.heap.size, 0, none⟩) 13 13] → w'.cell? ⟨B, 1, none⟩ = some (.slice (some ⟨w2.heap.size, 0, none⟩) 13 13) := fun w' h => h.at_ 1 rfl
      refine wp_region_marked (fun w' => Bx w' B 26 #[.int .i64 10, .slice (some ⟨w2.heap.size, 0, none⟩) 13 13]) 5 (by kernel_rfl) ?_
      have hS : Bx w5.drew B 26 #[.int .i64 10, .slice (some ⟨w2.heap.size, 0, none⟩) 13 13] := b5.drew
      refine wpAnyM_take (i := 0) (v := ?_) rfl (by kernel_rfl) (by kernel_rfl) (by kernel_rfl) (by kernel_rfl) (by kernel_rfl) (fun _ _ _ h => h) hS (.inl ⟨by rfl, ?_⟩) ?_
      rotate_left 1
      · intro w' hS'; go_simp; try with_reducible rfl
      simp only [Act.put, List.setIfInBounds_toArray]
      refine wpAnyM_take (i := 1) (v := ?_) rfl (by kernel_rfl) (by kernel_rfl) (by kernel_rfl) (by kernel_rfl) (by kernel_rfl) (fun _ _ _ h => h) hS (.inl ⟨by rfl, ?_⟩) ?_
      rotate_left 1
      · intro w' hS'; go_simp; try with_reducible rfl
      simp only [Act.put]
      refine wpAnyM_take (i := 2) (v := ?_) rfl (by kernel_rfl) (by kernel_rfl) (by kernel_rfl) (by kernel_rfl) (by kernel_rfl) (fun _ _ _ h => h) hS (.inl ⟨by rfl, ?_⟩) ?_
      rotate_left 1
      · intro w' hS'; go_simp; try with_reducible rfl
      simp only [Act.put]
      refine wpAnyM_one (i := 3) (by kernel_rfl) rfl (by rfl) (fun K hK => ?_)
      go_simp
      refine (pick_any s _ 2 w5.drew (s5.lo (L := w5.heap.size) ((Below.refl _ _).drew) (by omega)) (by omega) (by omega)).mono ?_
      rintro e w6 ⟨y, rfl, y0, y1, hs6, ht6⟩
      have hT : Touch s (s + 1) w5 w6 := ((Touch.refl _ _ _).drewN 1).trans ht6
      have hl6 := hT.size
      replace hS := b5.touch hT (by omega)
      have own6 := own5.touch hT (.inr (by omega))
      refine hK _ _ (.inr hS) ?_
      try simp only [Act.put, List.setIfInBounds_toArray]
      clear hK K ht6
      have hgt := own6.get (j := 0) (by simp)
      have hth := own6.thaw 0
      refine wpAnyM_take (i := 4) (v := ?_) rfl (by kernel_rfl) (by kernel_rfl) (by kernel_rfl) (by kernel_rfl) (by kernel_rfl) (fun _ _ _ h => h) hS (.inl ⟨by rfl, ?_⟩) ?_
      rotate_left 1
      · intro w' hS'; go_simp; try with_reducible rfl
      simp only [Act.put, List.setIfInBounds_toArray]
      refine wpAnyM_one (i := 5) (by kernel_rfl) rfl (by rfl) (fun K hK => ?_)
      go_simp
      refine hK _ _ (.inl rfl) ?_
      clear hK K
      refine wpAnyM_done (by kernel_rfl) ?_ _
      obtain ⟨G, hG⟩ : ∃ G, G = w2.heap.size := ⟨_, rfl⟩
      have hGB : B < G := by omega
      have hGr : r < G := by omega
      have hGs : s < G := by omega
      have hGz : G + 1 ≤ w5.heap.size := by omega
      have HGG := Lib.hid hG
      rw [← hG] at own6 hS ⊢
      clear hG g1 hgt hth
      have tt : Touch G (G + 1) w6 (w6.setCell ⟨G, 0, none⟩ (.int .i64 y)) := (Touch.refl _ _ _).setCell (by simp) (by simp) _
      have o7 := Lib.hid ((own6.put 0 y).wide (lo' := r + 1) (hi' := (w6.setCell ⟨G, 0, none⟩ (.int .i64 y)).heap.size) (by omega) (by simp; omega))
      have b7 := Lib.hid (hS.touch tt (by omega))
      have r7 := Lib.hid ((r5.touch hT (by omega)).touch tt (by omega))
      have t7 := Lib.hid ((tu5.trans hT).then_ tt (by have := HR.out; omega))
      have s7 := Lib.hid ((hs6.touch tt (by omega)).mono (M := N + 200) (by omega))
      have hE : Hid (BentR 10 (List.set [0, 0, 0, 0, 0, 0, 0, 0, 0, 0, 0, 0, 1] 0 y)) := Lib.hid ⟨mid64 (by omega) (by omega), fun x hx => by
        rcases List.mem_or_eq_of_mem_set hx with h | h
        · simp at h; rcases h with rfl | rfl <;> exact mid64 (by omega) (by omega)
        · subst h; exact mid64 (by omega) (by omega), by simp⟩
      clear tt own6 own5 y0 y1
      go_wp2_with fail
      go_meet
      case rel => exact ⟨rfl, 10, _, some ⟨G, 0, none⟩, 13, hE.out, b7.out, r7.out, o7.out, s7.out, t7.out⟩
    have h4b : (z == 4) = false := beq_eq_false_iff_ne.2 h4
    go_wp2_with fail
    go_meet
    case rel => exact ⟨rfl, b, ds, A, C, hD.out, bB, br, ow.wide (Nat.le_refl _) (by omega), hsx.mono (by omega), tu⟩
  case rest =>
    clear bB br tu hsx z0 z1 b0 b1 hD ow hn1 hn6
    obtain ⟨rfl, b, ds, A, C, hD, bB, br, ow, hsx, tu⟩ := hcut
    obtain ⟨w5, rfl⟩ : ∃ v, v = wc := ⟨_, rfl⟩
    have HD := Lib.hid hD
    clear hD
    have d0 := bB.at_ 0 rfl
    have d1 := bB.at_ 1 rfl
    have c0 := br.at_ 0 rfl
    have c1 := br.at_ 1 rfl
    have fc0 := br.thaw 0
    have fc1 := br.thaw 1
    have hrl := br.lt
    have tt : Touch r (r + 1) w5 ((w5.setCell ⟨r, 0, none⟩ (.int .i64 b)).setCell ⟨r, 1, none⟩ (.slice A ds.length C)) := ((Touch.refl _ _ _).setCell (by simp) (by simp) _).setCell (by simp) (by simp) _
    have HO := Lib.hid ((ow.touch tt (.inr (by omega))).wide (lo' := w.heap.size) (hi' := ((w5.setCell ⟨r, 0, none⟩ (.int .i64 b)).setCell ⟨r, 1, none⟩ (.slice A ds.length C)).heap.size) (by have := HR.out; omega) (by simp))
    have HT := Lib.hid (tu.then_ tt (by have := HR.out; omega))
    have HS := Lib.hid (hsx.touch tt (by omega))
    clear tt tu hsx ow
    go_wp2_with fail
    refine bodyPost_ret (v := .agg #[.int .i64 b, .slice A ds.length C]) (by simp [results, Tryd.results130, go_sem, c0, c1]) rfl ?_
    exact ⟨b, ds, A, C, rfl, HD.out, HO.out, HT.out, HS.out⟩
end Go.Proofs.YtlahobdopmdfmaaDoor

/- ShdM -/
namespace Go.Proofs.YtlahobdopmdfmaaDoor
open Go.RowKit

theorem valR_12 {b : Int} (h0 : 0 ≤ b) (h1 : b ≤ 12) : ∀ {zs : List Int}, DigsOf b zs → 0 ≤ valR b zs ∧ valR b zs + 1 ≤ (12 ^ zs.length : Nat)
  | [], _ => by simp [valR]
  | d :: ds, h => by
    have hd := h d (by simp)
    have ih := valR_12 h0 h1 (zs := ds) fun x hx => h x (by simp [hx])
    have m1 : 0 ≤ b * valR b ds := Int.mul_nonneg h0 ih.1
    have m2 : b * valR b ds ≤ 12 * valR b ds := Int.mul_le_mul_of_nonneg_right h1 ih.1
    rw [List.length_cons, Nat.pow_succ]
    simp only [valR]
    omega
theorem pow12 {k : Nat} (h : k ≤ 7) : 12 ^ k ≤ 35831808 := by
  have := Nat.pow_le_pow_right (show 0 < 12 by omega) h
  omega
theorem okB_of {b : Int} {zs : List Int} (b0 : 2 ≤ b) (b1 : b ≤ 12) (n0 : 1 ≤ zs.length) (n1 : zs.length ≤ 7) (hd : DigsOf b zs) : okB b zs = true := by
  have hv := valR_12 (b := b) (by omega) b1 hd
  have hp := pow12 n1
  simp only [okB, Bool.and_eq_true, decide_eq_true_eq]
  refine ⟨⟨⟨?_, ?_⟩, ?_⟩, by omega⟩
  · simp [baseB]; omega
  · simp [widthB]; omega
  · simp only [digitsB, decide_eq_true_eq]; exact hd
theorem DrawnR.ok {b : Int} {xs : List Int} (h : DrawnR b xs 7) : okB b xs = true := okB_of h.b0 h.b1 h.n0 h.n1 h.digs
theorem twoE_drawn {b : Int} {xs ys : List Int} (h : DrawnR b xs 7) (hl : ys.length = xs.length) (hd : DigsOf b ys) : twoE b xs b ys = 0 := by
  have h1 := h.ok
  have h2 : okB b ys = true := okB_of h.b0 h.b1 (by rw [hl]; exact h.n0) (by rw [hl]; exact h.n1) hd
  unfold twoE
  rw [if_neg (by rw [h1, h2]; simp), if_pos ⟨rfl, hl.symm⟩]
theorem digs_nth {b : Int} {zs : List Int} (h : DigsOf b zs) {k : Nat} (hk : k < zs.length) : 0 ≤ nth zs k ∧ nth zs k < b := by
  rw [nth_get hk]; exact h _ (List.getElem_mem hk)
theorem digs_tab {b : Int} {f : Nat → Int} {n : Nat} (h : ∀ k, k < n → 0 ≤ f k ∧ f k < b) : DigsOf b (tab f n) := tab_mem h
theorem shD_in {b : Int} (b0 : 2 ≤ b) {xs : List Int} (h : DigsOf b xs) (m : Int) (k : Nat) : 0 ≤ shD xs m k ∧ shD xs m k < b := by
  unfold shD
  split
  · exact digs_nth h (by omega)
  · omega
theorem shR_drawn {b : Int} {xs : List Int} (b0 : 2 ≤ b) (b1 : b ≤ 12) (n0 : 1 ≤ xs.length) (n1 : xs.length ≤ 7) (hd : DigsOf b xs) {m : Int} (m0 : -7 ≤ m) (m1 : m ≤ 7) :
    DigsOf b (tab (shD xs m) xs.length) ∧ okB b (tab (shD xs m) xs.length) = true ∧ shR b xs m = (b, tab (shD xs m) xs.length, 0) := by
  have hd' : DigsOf b (tab (shD xs m) xs.length) := digs_tab fun k _ => shD_in b0 hd m k
  have ho : okB b (tab (shD xs m) xs.length) = true := okB_of b0 b1 (by rw [tab_len]; exact n0) (by rw [tab_len]; exact n1) hd'
  refine ⟨hd', ho, ?_⟩
  rw [shR, if_pos (okB_of b0 b1 n0 n1 hd), if_pos ⟨by omega, by omega⟩, finR, if_pos ho]
/-- Digits that are moved to and fro. -/
theorem shD_back {xs : List Int} {m : Int} (m0 : 0 ≤ m) {k : Nat} (hk : k < xs.length) : shD (tab (shD xs m) xs.length) (-m) k = if (xs.length : Int) ≤ (k : Int) + m then 0 else nth xs k := by
  unfold shD
  rw [tab_len]
  by_cases h : (xs.length : Int) ≤ (k : Int) + m
  · rw [if_pos h, if_neg (by omega)]
  · rw [if_neg h, if_pos (by omega), tab_nth (by omega), if_pos (by omega)]
    congr 1
    omega
theorem cK_step (b : Int) (xs ys : List Int) (k : Nat) : cK b xs ys (k + 1) = (nth xs k + nth ys k + cK b xs ys k) / b := rfl
theorem cK_test {b : Int} (hb : 2 ≤ b) {t : Int} (h0 : 0 ≤ t) (h1 : t < 2 * b) : (b ≤ t → t / b = 1) ∧ (t < b → t / b = 0) := by
  constructor
  · intro h
    have h2 : t / b < 2 := Int.ediv_lt_of_lt_mul (by omega) (by omega)
    have h3 : 1 ≤ t / b := Int.le_ediv_of_mul_le (by omega) (by omega)
    omega
  · intro h; exact Int.ediv_eq_zero_of_lt h0 h
end Go.Proofs.YtlahobdopmdfmaaDoor

/- PowS -/
namespace Go.Proofs.YtlahobdopmdfmaaDoor
open Go.RowKit

set_option maxHeartbeats 1000000 in
theorem l10Power_any (B : Int) (n : Nat) (w : World) (b1 : 1 ≤ B) (b2 : B ≤ 16) (hn : n ≤ 16) :
    Calls Tryd.prog 103 #[.int .i64 B, .int .i64 n] w fun e w' => e = .returned (.int .i64 (capW B n)) ∧ w' = w := by
  go_enter Tryd.func103, Tryd.ntmps103
  go_wp2
  go_loop [1, 5] (fun i o => ∃ k m : Nat, k + m = n ∧ i = .int .i64 m ∧ o = .int .i64 (capW B k)) (fun i _ => (intOf i).toNat)
  case atStart => exact ⟨0, n, by omega, rfl, by rw [capW_zero]⟩
  case round =>
    obtain ⟨k, m, hkm, rfl, rfl⟩ := hrel
    by_cases hlt : 0 < m
    · have hb := capW_bd b1 k
      have hm0 : capW B k * B ≤ 1000000000002 * 16 := Int.mul_le_mul hb.2 b2 (by omega) (by omega)
      have hm1 : 0 ≤ capW B k * B := Int.mul_nonneg (by omega) (by omega)
      have hs := Lib.hid (capW_succ b1 k)
      obtain ⟨q, hq⟩ : ∃ q, q = capW B k * B := ⟨_, rfl⟩
      rw [← hq] at hs hm0 hm1
      have hw1 : IntKind.i64.wrap (capW B k * B) = q := by rw [← hq]; exact IntWalk.i64_in _ (by omega)
      have hw2 : wrap64 (capW B k * B) = q := by rw [← hq]; unfold wrap64; omega
      clear hq hm0 hm1
      go_wp2_with (go_at_call 158; refine (l00Min_any _ _ _).mono ?_; rintro e w1 ⟨rfl, rfl⟩)
      go_round
      case rel => exact ⟨k + 1, m - 1, by omega, by go_num, by rw [← hs.out]⟩
      case measure => simp [intOf]; omega
    · obtain rfl : m = 0 := by omega
      obtain rfl : k = n := by omega
      go_wp2
      go_ret
      exact ⟨rfl, rfl⟩

theorem l10Full_any (B : Int) (n : Nat) (w : World) (b1 : 1 ≤ B) (b2 : B ≤ 16) (hn : n ≤ 16) :
    Calls Tryd.prog 119 #[.int .i64 B, .int .i64 n] w fun e w' => e = .returned (.bool (decide (B ^ n - 1 ≤ 1000000000000))) ∧ w' = w := by
  have hb := capW_bd b1 n
  have ht := Lib.hid (show decide (capW B n - 1 ≤ 1000000000000) = decide (B ^ n - 1 ≤ 1000000000000) from decide_eq_decide.2 capW_test)
  go_enter Tryd.func119, Tryd.ntmps119
  go_wp2_with fail
  refine (l10Power_any B n _ b1 b2 hn).mono ?_
  rintro e w1 ⟨rfl, rfl⟩
  go_wp2
  go_ret
  exact ⟨ret_bool ht.out, rfl⟩

theorem l09Low_any (B : Int) (n : Nat) (w : World) (b1 : 1 ≤ B) (b2 : B ≤ 16) (hn : n ≤ 16) :
    Calls Tryd.prog 101 #[.int .i64 B, .int .i64 n] w fun e w' => e = .returned (.int .i64 (capW B n / 2)) ∧ w' = w := by
  have hb := capW_bd b1 n
  have ht : (capW B n).tdiv 2 = capW B n / 2 := Int.tdiv_eq_ediv_of_nonneg (by omega)
  obtain ⟨q, hq⟩ : ∃ q, q = capW B n / 2 := ⟨_, rfl⟩
  rw [← hq] at ht ⊢
  have hq2 : 0 ≤ q ∧ q ≤ 1000000000002 := by omega
  clear hq
  go_enter Tryd.func101, Tryd.ntmps101
  go_wp2_with fail
  refine (l10Power_any B n _ b1 b2 hn).mono ?_
  rintro e w1 ⟨rfl, rfl⟩
  go_wp2
  go_ret
  exact ⟨rfl, rfl⟩

theorem l09Size_any (B n : Int) (w : World) :
    Calls Tryd.prog 99 #[.int .i64 B, .int .i64 n] w fun e w' => e = .returned (.bool (fullB B n)) ∧ w' = w := by
  cases hb : baseB B with
  | false =>
    have HF := Lib.hid (show fullB B n = false by have := baseB_false hb; simp only [fullB, decide_eq_false_iff_not]; omega)
    have HB := Lib.hid (l02Base_any B)
    rw [hb] at HB
    clear hb
    go_enter Tryd.func99, Tryd.ntmps99
    go_wp2_with (go_at_call 133; refine (HB.out _).mono ?_; rintro e w1 ⟨rfl, rfl⟩)
    go_ret
    exact ⟨ret_bool HF.out.symm, rfl⟩
  | true =>
    have HB := Lib.hid (l02Base_any B)
    rw [hb] at HB
    obtain ⟨h1, h2⟩ := baseB_true hb
    clear hb
    cases hn : inB n 1 16 with
    | false =>
      have HF := Lib.hid (show fullB B n = false by have := inB_false hn; simp only [fullB, decide_eq_false_iff_not]; omega)
      have HI := Lib.hid (fun w => l00In_false n 1 16 w (inB_false hn))
      clear hn
      go_enter Tryd.func99, Tryd.ntmps99
      go_wp2_with (first | (go_at_call 133; refine (HB.out _).mono ?_; rintro e w1 ⟨rfl, rfl⟩) | (go_at_call 118; refine (HI.out _).mono ?_; rintro e w1 ⟨rfl, rfl⟩))
      go_ret
      exact ⟨ret_bool HF.out.symm, rfl⟩
    | true =>
      obtain ⟨n1, n2⟩ := inB_true hn
      have HI := Lib.hid (fun w => l00In_true n 1 16 w n1 n2)
      obtain ⟨m, rfl⟩ := Int.eq_ofNat_of_zero_le (show 0 ≤ n by omega)
      have HL := Lib.hid (fun w => l10Full_any B m w (by omega) h2 (by omega))
      have HF := Lib.hid (show decide (B ^ m - 1 ≤ 1000000000000) = fullB B (m : Int) by simp only [fullB, Int.toNat_natCast]; exact decide_eq_decide.2 ⟨fun h => ⟨h1, h2, n1, n2, h⟩, fun h => h.2.2.2.2⟩)
      clear hn
      go_enter Tryd.func99, Tryd.ntmps99
      go_wp2_with (first | (go_at_call 133; refine (HB.out _).mono ?_; rintro e w1 ⟨rfl, rfl⟩) | (go_at_call 118; refine (HI.out _).mono ?_; rintro e w1 ⟨rfl, rfl⟩) | (go_at_call 119; refine (HL.out _).mono ?_; rintro e w1 ⟨rfl, rfl⟩))
      go_ret
      exact ⟨ret_bool HF.out, rfl⟩

set_option maxHeartbeats 1000000 in
theorem specAccumulatorRange (B n : Int) (w : World) (_ : I64 B) (_ : I64 n) :
    Calls Tryd.prog 31 #[.int .i64 B, .int .i64 n] w fun e w' => e = .returned (.tuple #[.int .i64 (rngA B n).1, .int .i64 (rngA B n).2.1, .int .i64 (rngA B n).2.2]) ∧ Below w.heap.size w w' := by
  have HS := Lib.hid (fun w => l09Size_any B n w)
  cases hf : fullB B n with
  | false =>
    have HR := Lib.hid (show rngA B n = (0, 0, 2) by simp [rngA, hf])
    rw [hf] at HS
    clear hf
    go_enter Tryd.func31, Tryd.ntmps31
    go_wp2_with (go_at_call 99; refine (HS.out _).mono ?_; rintro e w1 ⟨rfl, rfl⟩)
    exact bodyPost_ret (v := .tuple #[.int .i64 0, .int .i64 0, .int .i64 2]) (by simp [results, Tryd.results31, go_sem]) rfl ⟨by rw [HR.out], Below.refl _ _⟩
  | true =>
    obtain ⟨h1, h2, n1, n2, h5⟩ := fullB_spec hf
    have hc := cntA_bd hf
    obtain ⟨m, rfl⟩ := Int.eq_ofNat_of_zero_le (show 0 ≤ n by omega)
    have hcap : capW B m = cntA B (m : Int) := by rw [capW_full (by simpa using h5)]; simp [cntA]
    have HP := Lib.hid (fun w => l10Power_any B m w (by omega) h2 (by omega))
    have HL := Lib.hid (fun w => l09Low_any B m w (by omega) h2 (by omega))
    rw [hcap] at HP HL
    have HR := Lib.hid (show rngA B m = (-(cntA B m / 2), cntA B m - 1 + -(cntA B m / 2), 0) by simp [rngA, hf])
    rw [hf] at HS
    obtain ⟨q, hq⟩ : ∃ q, q = cntA B m / 2 := ⟨_, rfl⟩
    rw [← hq] at HL HR
    have hq2 : 0 ≤ q ∧ q ≤ 1000000000002 := by omega
    clear hf hq hcap h5
    go_enter Tryd.func31, Tryd.ntmps31
    go_wp2_with (first | (go_at_call 99; refine (HS.out _).mono ?_; rintro e w1 ⟨rfl, rfl⟩) | (go_at_call 103; refine (HP.out _).mono ?_; rintro e w1 ⟨rfl, rfl⟩) | (go_at_call 101; refine (HL.out _).mono ?_; rintro e w1 ⟨rfl, rfl⟩))
    exact bodyPost_ret (v := .tuple #[.int .i64 (-q), .int .i64 (cntA B m - 1 - q), .int .i64 0]) (by simp [results, Tryd.results31, go_sem]) rfl ⟨by rw [HR.out]; simp only [Int.sub_eq_add_neg], Below.refl _ _⟩
end Go.Proofs.YtlahobdopmdfmaaDoor

/- NewReg -/
namespace Go.Proofs.YtlahobdopmdfmaaDoor
open Go.RowKit

set_option maxHeartbeats 1000000 in
set_option maxRecDepth 100000 in
theorem specl02New_any (b v : Int) (n : Nat) (w : World) (hb1 : 2 ≤ b) (hb2 : b ≤ 16) (hn : n ≤ 16) (hv1 : 0 ≤ v) (hv2 : v ≤ 1000000000000) :
    Calls Tryd.prog 129 #[.int .i64 b, .int .i64 n, .int .i64 v] w fun e w' => ∃ A C,
      e = .returned (.tuple #[.agg #[.int .i64 b, .slice A n C], .int .i64 (leftR b n v)]) ∧ Own 2 w' w.heap.size w'.heap.size (.slice A n C) (digsR b n v) ∧ Below w.heap.size w w' := by
  go_enter Tryd.func129, Tryd.ntmps129
  go_wp2
  go_loopw [2, 9] (fun q i wr => ∃ (k : Nat) (A : Option Addr) (C : Nat), k ≤ n ∧ q = .int .i64 (leftR b k v) ∧ i = .int .i64 k ∧ Bx wr w.heap.size 26 #[.int .i64 0, .slice none 0 0] ∧ Bx wr (w.heap.size + 1) 26 #[.int .i64 b, .slice A k C] ∧
      Own 2 wr (w.heap.size + 2) wr.heap.size (.slice A k C) (digsR b k v) ∧ Below w.heap.size w wr) (fun _ i _ => n - (intOf i).toNat)
  case atStart =>
    refine ⟨0, none, 0, Nat.zero_le _, rfl, rfl, (Bx.new _ _ _).alloc _, by simpa using Bx.new (w.alloc (.cells #[.int .i64 0, .slice none 0 0] 26)) #[.int .i64 b, .slice none 0 0] 26, own_nil _ _ _ _, ((Below.refl _ _).alloc (Nat.le_refl _) _).alloc (by simp) _⟩
  case round =>
    obtain ⟨k, A, C, hk, rfl, rfl, bx0, bx1, hown, hbel⟩ := hrel
    have hlb := leftR_bd (by omega : 1 ≤ b) k v hv1 hv2
    have hsz := bx1.lt
    by_cases hlt : k < n
    · have hb0 : ¬ b = 0 := by omega
      have hr : (leftR b k v).tmod b = leftR b k v % b := Int.tmod_eq_emod_of_nonneg hlb.1
      have c1 := bx1.cell 1
      simp only [List.getElem?_toArray, List.getElem?_cons_succ, List.getElem?_cons_zero] at c1
      go_wp2
      refine wp_region_marked (fun w' => w'.cell? ⟨w.heap.size + 1, 1, none⟩ = some (.slice A k C)) 8 (by kernel_rfl) ?_
      have hS : wr.drew.cell? ⟨w.heap.size + 1, 1, none⟩ = some (.slice A k C) := c1
      refine wpAnyM_take (i := 0) (v := ?_) rfl (by kernel_rfl) (by kernel_rfl) (by kernel_rfl) (by kernel_rfl) (by kernel_rfl) (fun _ _ _ h => h) hS (.inl ⟨by rfl, ?_⟩) ?_
      rotate_left 1
      · intro w' hS'; go_simp; try with_reducible rfl
      simp only [Act.put, List.setIfInBounds_toArray]
      refine wpAnyM_take (i := 1) (v := ?_) rfl (by kernel_rfl) (by kernel_rfl) (by kernel_rfl) (by kernel_rfl) (by kernel_rfl) (fun _ _ _ h => h) hS (.inl ⟨by rfl, ?_⟩) ?_
      rotate_left 1
      · intro w' hS'; go_simp; try with_reducible rfl
      simp only [Act.put]
      refine wpAnyM_take (i := 2) (v := ?_) rfl (by kernel_rfl) (by kernel_rfl) (by kernel_rfl) (by kernel_rfl) (by kernel_rfl) (fun _ _ _ h => h) hS (.inl ⟨by rfl, ?_⟩) ?_
      rotate_left 1
      · intro w' hS'; go_simp; try with_reducible rfl
      simp only [Act.put]
      refine wpAnyM_take (i := 3) (v := ?_) rfl (by kernel_rfl) (by kernel_rfl) (by kernel_rfl) (by kernel_rfl) (by kernel_rfl) (fun _ _ _ h => h) hS (.inl ⟨by rfl, ?_⟩) ?_
      rotate_left 1
      · intro w' hS'; go_simp; try with_reducible rfl
      simp only [Act.put]
      refine wpAnyM_take (i := 4) (v := ?_) rfl (by kernel_rfl) (by kernel_rfl) (by kernel_rfl) (by kernel_rfl) (by kernel_rfl) (fun _ _ _ h => h) hS (.inl ⟨by rfl, ?_⟩) ?_
      rotate_left 1
      · intro w' hS'; go_simp; try with_reducible rfl
      simp only [Act.put]
      refine wpAnyM_one (i := 5) (by kernel_rfl) rfl (by rfl) (fun K hK => ?_)
      go_simp
      replace hS := kept_alloc hS (.cells #[.int .i64 (leftR b k v % b)] 2)
      refine hK _ _ (.inr hS) ?_
      clear hK K
      refine wpAnyM_one (i := 6) (by kernel_rfl) rfl (by rfl) (fun K hK => ?_)
      refine wp_appI (.tmp 18) (.tmp 22) 24 2 rfl Tryd.underlying24 info_int64 rfl ((hown.drew).alloc _) (digsR_len _ _ _) ⟨wr.heap.size, 0, none⟩ 1 (leftR b k v % b) rfl (by go_simp) (by omega) (by simp; omega) ?_
      intro A' C' w1 hown1 ht1
      rw [← digsR_succ] at hown1
      have dx1 := ((bx1.drew).alloc (.cells #[.int .i64 (leftR b k v % b)] 2)).touch ht1 (by omega)
      have dx0 := ((bx0.drew).alloc (.cells #[.int .i64 (leftR b k v % b)] 2)).touch ht1 (by omega)
      have d1 : w1.cell? ⟨w.heap.size + 1, 1, none⟩ = some (.slice A k C) := dx1.cell 1
      have df1 := dx1.thaw 1
      refine hK _ _ (.inr d1) ?_
      clear hS
      have hS := d1
      simp only [Act.put, List.setIfInBounds_toArray]
      clear hK K c1
      refine wpAnyM_take (i := 7) (v := ?_) rfl (by kernel_rfl) (by kernel_rfl) (by kernel_rfl) (by kernel_rfl) (by kernel_rfl) (fun _ _ _ h => h) hS (.inl ⟨by rfl, ?_⟩) ?_
      rotate_left 1
      · intro w' hS'; go_simp; try with_reducible rfl
      simp only [Act.put]
      refine wpAnyM_one (i := 8) (by kernel_rfl) rfl (by rfl) (fun K hK => ?_)
      go_simp
      refine hK _ _ (.inl rfl) ?_
      clear hK K
      refine wpAnyM_done (by kernel_rfl) ?_ _
      go_wp2
      go_roundw
      case rel => exact ⟨k + 1, A', C', by omega, by rw [leftR_succ], by go_num, dx0.far (by simp) _, by simpa using dx1.set_ 1 (.slice A' (k + 1) C'), (hown1.setCell (p := ⟨w.heap.size + 1, 1, none⟩) (.inl (by simp)) _).wide (Nat.le_refl _) (by simp),
        ((hbel.drew.alloc hbel.size _).trans (ht1.below (by omega) (by simp; omega))).setCell (p := ⟨w.heap.size + 1, 1, none⟩) (by simp) _⟩
      case measure => simp [intOf]; omega
    · obtain rfl : k = n := by omega
      have c0 : wr.cell? ⟨w.heap.size + 1, 0, none⟩ = some (.int .i64 b) := bx1.cell 0
      have c1 : wr.cell? ⟨w.heap.size + 1, 1, none⟩ = some (.slice A k C) := bx1.cell 1
      have r0 : wr.cell? ⟨w.heap.size, 0, none⟩ = some (.int .i64 0) := bx0.cell 0
      have r1 : wr.cell? ⟨w.heap.size, 1, none⟩ = some (.slice none 0 0) := bx0.cell 1
      have f0 := bx0.thaw 0
      have f1 := bx0.thaw 1
      go_wp2
      refine bodyPost_ret (v := .tuple #[.agg #[.int .i64 b, .slice A k C], .int .i64 (leftR b k v)]) (by simp [results, Tryd.results129, go_sem, r0, r1]) rfl
        ⟨A, C, rfl, ((hown.setCell (p := ⟨w.heap.size, 0, none⟩) (.inl (by simp)) _).setCell (p := ⟨w.heap.size, 1, none⟩) (.inl (by simp)) _).wide (by simp) (by simp), (hbel.setCell (p := ⟨w.heap.size, 0, none⟩) (by simp) _).setCell (p := ⟨w.heap.size, 1, none⟩) (by simp) _⟩

/-- What a call of NewRegister leaves. -/
def NewRegPost (b n v : Int) (w : World) (e : Ending) (w' : World) : Prop := ∃ A C,
  e = .returned (.tuple #[.agg #[.int .i64 (nrR b n v).1, .slice A (nrR b n v).2.1.length C], .int .i64 (nrR b n v).2.2]) ∧ Own 2 w' w.heap.size w'.heap.size (.slice A (nrR b n v).2.1.length C) (nrR b n v).2.1 ∧ Below w.heap.size w w'

theorem newRegPost_err {b n v c : Int} {w w' : World} {e : Ending} (h : nrR b n v = (0, [], c)) (he : e = .returned (.tuple #[.agg #[.int .i64 0, .slice none 0 0], .int .i64 c])) (hb : Below w.heap.size w w') : NewRegPost b n v w e w' := by
  refine ⟨none, 0, ?_, ?_, hb⟩
  · rw [h]; exact he
  · rw [h]; exact own_nil _ _ _ _
theorem newRegPost_ok {b n v : Int} {zs : List Int} {m : Nat} {w w' : World} {A : Option Addr} {C lo hi : Nat} {e : Ending} (h : nrR b n v = (b, zs, 0)) (hm : zs.length = m) (he : e = .returned (.tuple #[.agg #[.int .i64 b, .slice A m C], .int .i64 0]))
    (ho : Own 2 w' lo hi (.slice A m C) zs) (hl : w.heap.size ≤ lo) (hh : hi ≤ w'.heap.size) (hb : Below w.heap.size w w') : NewRegPost b n v w e w' := by
  subst hm
  refine ⟨A, C, ?_, ?_, hb⟩
  · rw [h]; exact he
  · rw [h]; exact ho.wide hl hh

set_option maxRecDepth 100000 in
theorem implNewRegister (b n v : Int) (w : World) (_ : I64 b) (_ : I64 n) (_ : I64 v) : Calls Tryd.prog 136 #[.int .i64 b, .int .i64 n, .int .i64 v] w (NewRegPost b n v w) := by
  by_cases h : 2 ≤ b ∧ b ≤ 16 ∧ 1 ≤ n ∧ n ≤ 16 ∧ 0 ≤ v ∧ v ≤ 1000000000000
  · obtain ⟨h1, h2, h3, h4, h5, h6⟩ := h
    obtain ⟨n, rfl⟩ := Int.eq_ofNat_of_zero_le (show 0 ≤ n by omega)
    go_enter Tryd.func136, Tryd.ntmps136
    go_wp2_with (first | (at_make; refine wpList_makeI rfl _ _ _ 2 rfl Tryd.underlying161 info_int64 n rfl rfl (by omega) ?_; intro w1 hown hb; have bx := (Bx.new w #[.int .i64 0, .slice none 0 0] 26).below hb) | go_in)
    go_loopw [2, 9, 31] (fun q _ i wr => ∃ k : Nat, k ≤ n ∧ q = .int .i64 (leftR b k v) ∧ i = .int .i64 k ∧ Bx wr w.heap.size 26 #[.int .i64 0, .slice none 0 0] ∧
        Own 2 wr (w.heap.size + 1) wr.heap.size (.slice (some ⟨w.heap.size + 1, 0, none⟩) n n) (pad n (digsR b k v)) ∧ Below w.heap.size w wr) (fun _ _ i _ => n - (intOf i).toNat)
    case atStart => exact ⟨0, Nat.zero_le _, rfl, rfl, bx, by simpa [digsR] using hown, (by repeat (first | exact ((Below.refl _ _).alloc (Nat.le_refl _) _).trans (hb.mono (by simp)) | refine Below.setCell ?_ (by first | omega | (simp <;> omega)) _ | refine Below.alloc ?_ (by first | omega | (simp <;> omega)) _ | refine Below.drew ?_))⟩
    case round =>
      obtain ⟨k, hk, rfl, rfl, bx, hown, hbel⟩ := hrel
      have hlb := leftR_bd (by omega : 1 ≤ b) k v h5 h6
      have hlen := digsR_len b k v
      have HL := Lib.hid hlen
      clear hlen
      by_cases hlt : k < n
      · have hget := hown.get (j := k) (by rw [pad_len (by rw [HL.out]; omega)]; exact hlt)
        have hthaw := hown.thaw k
        have hput := hown.put k (leftR b k v % b)
        have e : (pad n (digsR b k v)).set k (leftR b k v % b) = pad n (digsR b (k + 1) v) := by
          have := pad_set (n := n) (zs := digsR b k v) (by rw [HL.out]; exact hlt) (leftR b k v % b)
          rw [HL.out] at this
          rw [this, digsR_succ]
        rw [e] at hput
        have HP := Lib.hid hput
        clear hput e
        go_wp2
        go_roundw
        case rel => exact ⟨k + 1, by omega, by rw [leftR_succ], by go_num, bx.far (by simp) _, HP.out.wide (Nat.le_refl _) (by simp), hbel.setCell (by simp) _⟩
        case measure => simp [intOf]; omega
      · obtain rfl : k = n := by omega
        rw [pad_all HL.out] at hown
        have c0 := bx.at_ 0 rfl
        have c1 := bx.at_ 1 rfl
        have f0 := bx.thaw 0
        have f1 := bx.thaw 1
        by_cases hl : 0 < leftR b k v
        · have HN := Lib.hid (nrR_full (by omega) hl)
          go_wp2
          exact bodyPost_ret (v := .tuple #[.agg #[.int .i64 0, .slice none 0 0], .int .i64 5]) (by simp [results, Tryd.results136, go_sem, c0, c1]) rfl
            (newRegPost_err HN.out rfl (by repeat (first | exact hbel | refine Below.setCell ?_ (by first | omega | (simp <;> omega)) _ | refine Below.alloc ?_ (by first | omega | (simp <;> omega)) _ | refine Below.drew ?_)))
        · have HN := Lib.hid (nrR_ok (by omega) hl)
          go_wp2
          exact bodyPost_ret (v := .tuple #[.agg #[.int .i64 b, .slice (some ⟨w.heap.size + 1, 0, none⟩) k k], .int .i64 0]) (by simp [results, Tryd.results136, go_sem, c0, c1]) rfl
            (newRegPost_ok HN.out HL.out rfl (lo := w.heap.size + 1) (hi := wr.heap.size) (by repeat (first | exact hown | refine Own.alloc ?_ _ | refine Own.setCell ?_ (.inl (by simp <;> omega)) _ | refine Own.drew ?_)) (by simp) (by simp) (by repeat (first | exact hbel | refine Below.setCell ?_ (by first | omega | (simp <;> omega)) _ | refine Below.alloc ?_ (by first | omega | (simp <;> omega)) _ | refine Below.drew ?_)))
  · have HN := Lib.hid (nrR_bad h)
    have hc : b < 2 ∨ (2 ≤ b ∧ 16 < b) ∨ (2 ≤ b ∧ b ≤ 16 ∧ n < 1) ∨ (2 ≤ b ∧ b ≤ 16 ∧ 1 ≤ n ∧ 16 < n) ∨ (2 ≤ b ∧ b ≤ 16 ∧ 1 ≤ n ∧ n ≤ 16 ∧ v < 0) ∨ (2 ≤ b ∧ b ≤ 16 ∧ 1 ≤ n ∧ n ≤ 16 ∧ 0 ≤ v ∧ 1000000000000 < v) := by omega
    clear h
    rcases hc with h1 | ⟨h1, h2⟩ | ⟨h1, h2, h3⟩ | ⟨h1, h2, h3, h4⟩ | ⟨h1, h2, h3, h4, h5⟩ | ⟨h1, h2, h3, h4, h5, h6⟩
    all_goals
      go_enter Tryd.func136, Tryd.ntmps136
      go_wp2
      exact bodyPost_ret (v := .tuple #[.agg #[.int .i64 0, .slice none 0 0], .int .i64 2]) (by simp [results, Tryd.results136, go_sem]) rfl
        (newRegPost_err HN.out rfl ((Below.refl _ _).alloc (Nat.le_refl _) _))
end Go.Proofs.YtlahobdopmdfmaaDoor

/- AccS -/
namespace Go.Proofs.YtlahobdopmdfmaaDoor
open Go.RowKit

theorem mod_twiceS {n c : Int} (hc : 1 ≤ c) : -c < n.tmod c ∧ n.tmod c < c ∧ (n.tmod c + c).tmod c = n % c := by
  have h1 : n.tmod c < c := Int.tmod_lt_of_pos _ (by omega)
  have h2 : -c < n.tmod c := by
    have := Int.tmod_lt_of_pos (-n) (show 0 < c by omega)
    rw [Int.neg_tmod] at this; omega
  refine ⟨h2, h1, ?_⟩
  rw [Int.tmod_eq_emod_of_nonneg (by omega), Int.add_emod_right]
  have e := Int.mul_tdiv_add_tmod n c
  conv => rhs; rw [← e, Int.add_comm, Int.add_mul_emod_self_left]

/-- A register of its own. -/
def RegV (B : Int) (zs : List Int) (w : World) (e : Ending) (w' : World) : Prop := ∃ A C,
  e = .returned (.agg #[.int .i64 B, .slice A zs.length C]) ∧ Own 2 w' w.heap.size w'.heap.size (.slice A zs.length C) zs ∧ Below w.heap.size w w'

theorem l09In_any (B n x : Int) (w : World) (h : fullB B n = true) :
    Calls Tryd.prog 109 #[.int .i64 B, .int .i64 n, .int .i64 x] w fun e w' => e = .returned (.bool (inA (cntA B n) x)) ∧ w' = w := by
  obtain ⟨h1, h2, n1, n2, h5⟩ := fullB_spec h
  have hc := cntA_bd h
  obtain ⟨m, rfl⟩ := Int.eq_ofNat_of_zero_le (show 0 ≤ n by omega)
  have hcap : capW B m = cntA B (m : Int) := by rw [capW_full (by simpa using h5)]; simp [cntA]
  have HP := Lib.hid (fun w => l10Power_any B m w (by omega) h2 (by omega))
  have HL := Lib.hid (fun w => l09Low_any B m w (by omega) h2 (by omega))
  rw [hcap] at HP HL
  obtain ⟨N, hN⟩ : ∃ N, N = cntA B m := ⟨_, rfl⟩
  rw [← hN] at HP HL hc ⊢
  obtain ⟨q, hq⟩ : ∃ q, q = N / 2 := ⟨_, rfl⟩
  have HA := Lib.hid (show inB x (-q) (N - 1 - q) = inA N x by rw [hq]; unfold inB inA; simp only [Int.sub_eq_add_neg])
  rw [← hq] at HL
  have hq2 : 0 ≤ q ∧ q ≤ 1000000000002 := by omega
  have HI := Lib.hid (fun w => l00In_any x (-q) (N - 1 - q) w)
  clear hN hq hcap h5 h
  go_enter Tryd.func109, Tryd.ntmps109
  go_wp2_with (first | (go_at_call 103; refine (HP.out _).mono ?_; rintro e w1 ⟨rfl, rfl⟩) | (go_at_call 101; refine (HL.out _).mono ?_; rintro e w1 ⟨rfl, rfl⟩) | (go_at_call 118; refine (HI.out _).mono ?_; rintro e w1 ⟨rfl, rfl⟩))
  go_ret
  exact ⟨ret_bool HA.out, rfl⟩
theorem l09In_at {v : Bool} (B n x : Int) (w : World) (h : fullB B n = true) (hv : inA (cntA B n) x = v) :
    Calls Tryd.prog 109 #[.int .i64 B, .int .i64 n, .int .i64 x] w fun e w' => e = .returned (.bool v) ∧ w' = w := hv ▸ l09In_any B n x w h

set_option maxHeartbeats 1000000 in
set_option maxRecDepth 100000 in
theorem l09Set_any (B n x : Int) (w : World) (h : fullB B n = true) :
    Calls Tryd.prog 110 #[.int .i64 B, .int .i64 n, .int .i64 x] w (RegV B (setA B n x) w) := by
  obtain ⟨h1, h2, n1, n2, h5⟩ := fullB_spec h
  have hc := cntA_bd h
  have hm := modA_bd h x
  have hl := setA_len (B := B) (n := n) x
  obtain ⟨m, rfl⟩ := Int.eq_ofNat_of_zero_le (show 0 ≤ n by omega)
  have hcap : capW B m = cntA B (m : Int) := by rw [capW_full (by simpa using h5)]; simp [cntA]
  have HP := Lib.hid (fun w => l10Power_any B m w (by omega) h2 (by omega))
  rw [hcap] at HP
  have HS := Lib.hid (show digsR B m (x % cntA B m) = setA B m x by simp [setA])
  have HL := Lib.hid (show (setA B m x).length = m by rw [hl]; simp)
  obtain ⟨N, hN⟩ : ∃ N, N = cntA B m := ⟨_, rfl⟩
  rw [← hN] at HP hc hm HS
  obtain ⟨q, hq⟩ : ∃ q, q = x % N := ⟨_, rfl⟩
  obtain ⟨m1, m2, m3⟩ := mod_twiceS (n := x) (c := N) (by omega)
  obtain ⟨r, hr⟩ : ∃ r, x.tmod N = r := ⟨_, rfl⟩
  rw [hr] at m1 m2 m3
  rw [← hq] at m3 hm HS
  have hc0 : ¬ N = 0 := by omega
  have hw1 : IntKind.i64.wrap (r + N) = r + N := IntWalk.i64_in _ (by omega)
  have hw2 : wrap64 (r + N) = r + N := by unfold wrap64; omega
  have HN := Lib.hid (fun w => specl02New_any B q m w h1 h2 (by omega) hm.1 (by omega))
  clear hq hN hcap h5 h hl
  go_enter Tryd.func110, Tryd.ntmps110
  go_wp2_with fail
  refine (HP.out _).mono ?_
  rintro e w1 ⟨rfl, rfl⟩
  go_wp2_with fail
  refine (HN.out _).mono ?_
  rintro e w2 ⟨A, C, rfl, own, hb⟩
  have bx := (Bx.new w #[.int .i64 0, .slice none 0 0] 26).below hb
  have hz := bx.lt
  have hs := hb.size
  simp only [World.size_alloc] at hs
  have c0 := bx.at_ 0 rfl
  have c1 := bx.at_ 1 rfl
  have f0 := bx.thaw 0
  have f1 := bx.thaw 1
  go_wp2
  exact bodyPost_ret (v := .agg #[.int .i64 B, .slice A m C]) (by simp [results, Tryd.results110, go_sem, c0, c1, hz]) rfl
    ⟨A, C, by rw [HL.out], by rw [HL.out, ← HS.out]; exact (show Own 2 _ (w.heap.size + 1) w2.heap.size (.slice A m C) (digsR B m q) from (by repeat (first | exact by simpa using own | refine Own.alloc ?_ _ | refine Own.setCell ?_ (.inl (by simp <;> omega)) _ | refine Own.drew ?_))).wide (by omega) (by simp), (by repeat (first | exact ((Below.refl _ _).alloc (Nat.le_refl _) _).trans (hb.mono (by simp)) | refine Below.setCell ?_ (by first | omega | (simp <;> omega)) _ | refine Below.alloc ?_ (by first | omega | (simp <;> omega)) _ | refine Below.drew ?_))⟩
end Go.Proofs.YtlahobdopmdfmaaDoor

/- AccE -/
namespace Go.Proofs.YtlahobdopmdfmaaDoor
open Go.RowKit

theorem pow_up {a b : Int} (h0 : 0 ≤ a) (h : a ≤ b) : ∀ k : Nat, a ^ k ≤ b ^ k
  | 0 => by simp
  | k + 1 => by
    rw [Int.pow_succ, Int.pow_succ]
    exact Int.mul_le_mul (pow_up h0 h k) h h0 (Int.pow_nonneg (by omega))
theorem full_drawn {b : Int} {ds : List Int} (h : DrawnR b ds 6) : fullB b (ds.length : Nat) = true := by
  have h0 := h.b0
  have h1 := h.b1
  have h2 := h.n0
  have h3 := h.n1
  have hp : b ^ ds.length ≤ 12 ^ ds.length := pow_up (by omega) h1 _
  have hq : (12 : Int) ^ ds.length ≤ 35831808 := by
    have h7 : ds.length = 1 ∨ ds.length = 2 ∨ ds.length = 3 ∨ ds.length = 4 ∨ ds.length = 5 ∨ ds.length = 6 := by omega
    rcases h7 with e | e | e | e | e | e <;> rw [e] <;> decide
  simp [fullB]
  omega
theorem bent_drawn {b : Int} {ds : List Int} (h : DrawnR b ds 6) : BentR b ds := by
  have h0 := h.b0
  have h1 := h.b1
  have h3 := h.n1
  exact ⟨i64_in64 (by omega) (by omega), fun d hd => by have := h.digs d hd; exact i64_in64 (by omega) (by omega), by omega⟩
theorem bent_set {b : Int} {n : Nat} (h : fullB b n = true) (x : Int) : BentR b (setA b n x) := by
  obtain ⟨h1, h2, h3, h4, _⟩ := fullB_spec h
  have hl := setA_len (B := b) (n := (n : Int)) x
  refine ⟨i64_in64 (by omega) (by omega), fun d hd => ?_, by rw [hl]; omega⟩
  have := digsR_bd (b := b) (by omega) n (x % cntA b n) d (by simpa [setA] using hd)
  exact i64_in64 (by omega) (by omega)

set_option maxRecDepth 100000 in
set_option maxHeartbeats 8000000 in
theorem l09Draw_any (s N : Nat) (w : World) (h : Src w s N) (hN : N ≤ 600000) :
    Calls Tryd.prog 164 #[.pointer (some ⟨s, 0, none⟩)] w fun e w' => ∃ (b : Int) (ds : List Int) (A : Option Addr) (C : Nat), e = .returned (.agg #[.int .i64 b, .slice A (List.length ds) C]) ∧ BentR b ds ∧
      Own 2 w' w.heap.size w'.heap.size (.slice A ds.length C) ds ∧ Touch s (s + 1) w w' ∧ Src w' s (N + 40) := by
  have hs := h.lt
  obtain ⟨r, hr⟩ : ∃ r, r = w.heap.size := ⟨_, rfl⟩
  obtain ⟨u, hu⟩ : ∃ u, u = w.alloc (.cells #[.int .i64 0, .slice none 0 0] 26) := ⟨_, rfl⟩
  have br : Bx u r 26 #[.int .i64 0, .slice none 0 0] := by rw [hu, hr]; exact Bx.new _ _ _
  have hbu : Below w.heap.size w u := by rw [hu]; exact (by repeat (first | exact Below.refl _ _ | refine Below.setCell ?_ (by first | omega | (simp <;> omega)) _ | refine Below.alloc ?_ (by first | omega | (simp <;> omega)) _ | refine Below.drew ?_))
  have hsu : u.heap.size = r + 1 := by rw [hu, hr]; simp
  have su : Src u s N := h.lo hbu hs
  have tu : Touch s (s + 1) w u := Below.touch hbu
  have HU := Lib.hid hu
  have HR := Lib.hid hr
  clear hu h hbu
  have hsr : s < r := by omega
  go_enter Tryd.func164, Tryd.ntmps164
  go_wp2_with fail
  rw [← HU.out, ← hr]
  clear hr
  refine (draw02_any s N 6 u su (by omega) (by omega) (by omega)).mono ?_
  rintro e w1 ⟨b, ds, A, C, rfl, hd, ow, ht1, hs1⟩
  have hl1 := ht1.size
  replace br := br.touch ht1 (by omega)
  replace tu := tu.trans ht1
  clear ht1 su
  obtain ⟨B, hB⟩ : ∃ B, B = w1.heap.size := ⟨_, rfl⟩
  obtain ⟨w2, hw2⟩ : ∃ v, v = w1.alloc (.cells #[.int .i64 b, .slice A ds.length C] 26) := ⟨_, rfl⟩
  have hal : Below w1.heap.size w1 w2 := by rw [hw2]; exact (by repeat (first | exact Below.refl _ _ | refine Below.setCell ?_ (by first | omega | (simp <;> omega)) _ | refine Below.alloc ?_ (by first | omega | (simp <;> omega)) _ | refine Below.drew ?_))
  have bB : Bx w2 B 26 #[.int .i64 b, .slice A ds.length C] := by rw [hw2, hB]; exact Bx.new _ _ _
  replace br := br.below hal
  replace ow := ow.below hal
  replace hs1 := hs1.lo hal (by omega)
  replace tu := tu.trans (Below.touch hal)
  have hl2 := hal.size
  have hB0 : r + 1 ≤ B := by omega
  have HW := Lib.hid hw2
  have hzB := bB.lt
  clear hw2 hal
  subst hB
  go_wp2_with fail
  rw [← HW.out]
  clear HW
  refine (one_any s _ 3 w2 hs1 (by omega) (by omega)).mono ?_
  rintro e w3 ⟨x, rfl, hs3, ht3⟩
  have hl3 := ht3.size
  replace br := br.touch ht3 (by omega)
  replace bB := bB.touch ht3 (by omega)
  replace ow := ow.touch ht3 (.inr (by omega))
  replace tu := tu.trans ht3
  clear ht3 hs1
  have cB0 := bB.at_ 0 rfl
  have cB1 := bB.at_ 1 rfl
  cases x with
  | false =>
    have c0 := br.at_ 0 rfl
    have c1 := br.at_ 1 rfl
    have fc0 := br.thaw 0
    have fc1 := br.thaw 1
    have hrl := br.lt
    have tt : Touch r (r + 1) w3 ((w3.setCell ⟨r, 0, none⟩ (.int .i64 b)).setCell ⟨r, 1, none⟩ (.slice A ds.length C)) := ((Touch.refl _ _ _).setCell (by simp) (by simp) _).setCell (by simp) (by simp) _
    have HO := Lib.hid ((ow.touch tt (.inr (by omega))).wide (lo' := w.heap.size) (hi' := ((w3.setCell ⟨r, 0, none⟩ (.int .i64 b)).setCell ⟨r, 1, none⟩ (.slice A ds.length C)).heap.size) (by have := HR.out; omega) (by simp; omega))
    have HT := Lib.hid (tu.then_ tt (by have := HR.out; omega))
    have HS := Lib.hid ((hs3.touch tt (by omega)).mono (M := N + 40) (by omega))
    clear tt tu hs3 ow
    go_wp2_with fail
    exact bodyPost_ret (v := .agg #[.int .i64 b, .slice A ds.length C]) (by simp [results, Tryd.results164, go_sem, c0, c1]) rfl ⟨b, ds, A, C, rfl, bent_drawn hd, HO.out, HT.out, HS.out⟩
  | true =>
    have hd0 := hd.b0
    have hd1 := hd.b1
    have hd2 := hd.n0
    have hd3 := hd.n1
    have hfull := full_drawn hd
    have hcw := capW_bd (B := b) (by omega) ds.length
    go_wp2_with fail
    refine (l09Low_any b ds.length w3 (by omega) (by omega) (by omega)).mono ?_
    rintro e w4 ⟨rfl, hq⟩
    subst w4
    obtain ⟨q, hq⟩ : ∃ q, q = capW b ds.length / 2 := ⟨_, rfl⟩
    have hq1 : 0 ≤ q ∧ q ≤ 500000000001 := by omega
    rw [← hq]
    clear hq hcw
    go_upto_region 5 with fail
    refine wp_region_marked (fun w' => w'.cell? ⟨w1.heap.size, 0, none⟩ = some (.int .i64 b)) 8 (by kernel_rfl) ?_
    have hS : w3.drew.cell? ⟨w1.heap.size, 0, none⟩ = some (.int .i64 b) := bB.drew.at_ 0 rfl
    have hdr : Below w3.heap.size w3 w3.drew := (Below.refl _ _).drew
    have hs4 := hs3.lo hdr (by omega)
    have tu4 := tu.trans (Below.touch hdr)
    have br4 := br.drew
    clear cB0 cB1 hs3 bB ow tu br
    refine wpAnyM_takeC (i := 0) (v := ?_) 10 rfl (by kernel_rfl) (by kernel_rfl) (by kernel_rfl) (by kernel_rfl) (by kernel_rfl) (by kernel_rfl) (fun _ _ _ h => h) hS (.inl ⟨by rfl, ?_⟩) ?_
    rotate_left 1
    · intro w' hS'; go_simp; try with_reducible rfl
    simp only [Act.put, List.setIfInBounds_toArray]
    refine wpAnyM_takeC (i := 1) (v := ?_) 10 rfl (by kernel_rfl) (by kernel_rfl) (by kernel_rfl) (by kernel_rfl) (by kernel_rfl) (by kernel_rfl) (fun _ _ _ h => h) hS (.inl ⟨by rfl, ?_⟩) ?_
    rotate_left 1
    · intro w' hS'; go_simp; try with_reducible rfl
    simp only [Act.put]
    refine wpAnyM_takeC (i := 2) (v := ?_) 10 rfl (by kernel_rfl) (by kernel_rfl) (by kernel_rfl) (by kernel_rfl) (by kernel_rfl) (by kernel_rfl) (fun _ _ _ h => h) hS (.inl ⟨by rfl, ?_⟩) ?_
    rotate_left 1
    · intro w' hS'; go_simp; try with_reducible rfl
    simp only [Act.put]
    refine wpAnyM_takeC (i := 3) (v := ?_) 10 rfl (by kernel_rfl) (by kernel_rfl) (by kernel_rfl) (by kernel_rfl) (by kernel_rfl) (by kernel_rfl) (fun _ _ _ h => h) hS (.inl ⟨by rfl, ?_⟩) ?_
    rotate_left 1
    · intro w' hS'; go_simp; try with_reducible rfl
    simp only [Act.put]
    refine wpAnyM_takeC (i := 4) (v := ?_) 10 rfl (by kernel_rfl) (by kernel_rfl) (by kernel_rfl) (by kernel_rfl) (by kernel_rfl) (by kernel_rfl) (fun _ _ _ h => h) hS (.inl ⟨by rfl, ?_⟩) ?_
    rotate_left 1
    · intro w' hS'; go_simp; try with_reducible rfl
    simp only [Act.put]
    refine wpAnyM_one (i := 5) (by kernel_rfl) rfl (by rfl) (fun K hK => ?_)
    go_simp
    refine (pick_any s _ 5 w3.drew hs4 (by omega) (by omega)).mono ?_
    rintro e w5 ⟨y, rfl, y0, y1, hs5, ht5⟩
    have hl5 := ht5.size
    have hz5 : w3.heap.size ≤ w5.heap.size := Nat.le_trans hdr.size hl5
    have hS5 := keptT ht5 hS (by omega)
    have br5 := br4.touch ht5 (by omega)
    have tu5 := tu4.trans ht5
    have v1 : IntKind.i64.wrap (q + y) = q + y := fits_int _ (by omega) (by omega)
    have v2 : IntKind.i64.wrap (q + y - 2) = q + y - 2 := fits_int _ (by omega) (by omega)
    refine hK _ _ (.inr hS5) ?_
    try simp only [Act.put, List.setIfInBounds_toArray]
    clear hK K
    refine wpAnyM_takeC (i := 6) (v := ?_) 10 rfl (by kernel_rfl) (by kernel_rfl) (by kernel_rfl) (by kernel_rfl) (by kernel_rfl) (by kernel_rfl) (fun _ _ _ h => h) hS5 (.inl ⟨by rfl, ?_⟩) ?_
    rotate_left 1
    · intro w' hS'; go_simp; try with_reducible rfl
    simp only [Act.put, List.setIfInBounds_toArray]
    refine wpAnyM_takeC (i := 7) (v := ?_) 10 rfl (by kernel_rfl) (by kernel_rfl) (by kernel_rfl) (by kernel_rfl) (by kernel_rfl) (by kernel_rfl) (fun _ _ _ h => h) hS5 (.inl ⟨by rfl, ?_⟩) ?_
    rotate_left 1
    · intro w' hS'; go_simp; try with_reducible rfl
    simp only [Act.put]
    refine wpAnyM_one (i := 8) (by kernel_rfl) rfl (by rfl) (fun K hK => ?_)
    go_simp
    refine (l09Set_any b (ds.length : Nat) (q + y - 2) w5 hfull).mono ?_
    rintro e w6 ⟨A6, C6, rfl, o6, hb6⟩
    have br6 := br5.below hb6
    have tu6 := tu5.trans (Below.touch hb6)
    have hl6 := hb6.size
    have hs6 := hs5.lo hb6 (by omega)
    have c0 := br6.at_ 0 rfl
    have c1 := br6.at_ 1 rfl
    have fc0 := br6.thaw 0
    have fc1 := br6.thaw 1
    have hrl := br6.lt
    refine hK _ _ (.inl rfl) ?_
    try simp only [Act.put, List.setIfInBounds_toArray]
    clear hK K
    refine wpAnyM_one (i := 9) (by kernel_rfl) rfl (by rfl) (fun K hK => ?_)
    go_simp
    refine hK _ _ (.inl rfl) ?_
    try simp only [Act.put, List.setIfInBounds_toArray]
    clear hK K
    refine wpAnyM_done (by kernel_rfl) ?_ _
    have tt : Touch r (r + 1) w6 ((w6.setCell ⟨r, 0, none⟩ (.int .i64 b)).setCell ⟨r, 1, none⟩ (.slice A6 (setA b (ds.length : Nat) (q + y - 2)).length C6)) := ((Touch.refl _ _ _).setCell (by simp) (by simp) _).setCell (by simp) (by simp) _
    have HO := Lib.hid ((o6.touch tt (.inr (by omega))).wide (lo' := w.heap.size) (hi' := ((w6.setCell ⟨r, 0, none⟩ (.int .i64 b)).setCell ⟨r, 1, none⟩ (.slice A6 (setA b (ds.length : Nat) (q + y - 2)).length C6)).heap.size) (by have := HR.out; omega) (by simp))
    have HT := Lib.hid (tu6.then_ tt (by have := HR.out; omega))
    have HS := Lib.hid ((hs6.touch tt (by omega)).mono (M := N + 40) (by omega))
    have HB := Lib.hid (bent_set hfull (q + y - 2))
    clear tt tu6 hs6 o6
    go_wp2_with fail
    exact bodyPost_ret (v := .agg #[.int .i64 b, .slice A6 (setA b (ds.length : Nat) (q + y - 2)).length C6]) (by simp [results, Tryd.results164, go_sem, c0, c1]) rfl ⟨b, setA b (ds.length : Nat) (q + y - 2), A6, C6, rfl, HB.out, HO.out, HT.out, HS.out⟩
set_option maxRecDepth 100000 in
set_option maxHeartbeats 8000000 in
theorem l09Bent_any (s N : Nat) (w : World) (h : Src w s N) (hN : N ≤ 500000) :
    Calls Tryd.prog 113 #[.pointer (some ⟨s, 0, none⟩)] w fun e w' => ∃ (b : Int) (ds : List Int) (A : Option Addr) (C : Nat), e = .returned (.agg #[.int .i64 b, .slice A (List.length ds) C]) ∧ BentR b ds ∧
      Own 2 w' w.heap.size w'.heap.size (.slice A ds.length C) ds ∧ Touch s (s + 1) w w' ∧ Src w' s (N + 250) := by
  have hs := h.lt
  obtain ⟨r, hr⟩ : ∃ r, r = w.heap.size := ⟨_, rfl⟩
  obtain ⟨u, hu⟩ : ∃ u, u = w.alloc (.cells #[.int .i64 0, .slice none 0 0] 26) := ⟨_, rfl⟩
  have br : Bx u r 26 #[.int .i64 0, .slice none 0 0] := by rw [hu, hr]; exact Bx.new _ _ _
  have hbu : Below w.heap.size w u := by rw [hu]; exact (by repeat (first | exact Below.refl _ _ | refine Below.setCell ?_ (by first | omega | (simp <;> omega)) _ | refine Below.alloc ?_ (by first | omega | (simp <;> omega)) _ | refine Below.drew ?_))
  have hsu : u.heap.size = r + 1 := by rw [hu, hr]; simp
  have su : Src u s N := h.lo hbu hs
  have tu : Touch s (s + 1) w u := Below.touch hbu
  have HU := Lib.hid hu
  have HR := Lib.hid hr
  clear hu h hbu
  have hsr : s < r := by omega
  go_enter Tryd.func113, Tryd.ntmps113
  go_wp2_with fail
  rw [← HU.out, ← hr]
  clear hr
  refine (one_any s N 8 u su (by omega) (by omega)).mono ?_
  rintro e w1 ⟨x, rfl, hs1, ht1⟩
  have hl1 := ht1.size
  replace br := br.touch ht1 (by omega)
  replace tu := tu.trans ht1
  clear ht1 su
  cases x with
  | true =>
    go_wp2_with fail
    refine (bentReg_any s _ w1 hs1 (by omega)).mono ?_
    rintro e w2 ⟨b, ds, A, C, rfl, hB, ow, ht2, hs2⟩
    have hl2 := ht2.size
    replace br := br.touch ht2 (by omega)
    replace tu := tu.trans ht2
    clear ht2 hs1
    have c0 := br.at_ 0 rfl
    have c1 := br.at_ 1 rfl
    have fc0 := br.thaw 0
    have fc1 := br.thaw 1
    have hrl := br.lt
    have tt : Touch r (r + 1) w2 ((w2.setCell ⟨r, 0, none⟩ (.int .i64 b)).setCell ⟨r, 1, none⟩ (.slice A ds.length C)) := ((Touch.refl _ _ _).setCell (by simp) (by simp) _).setCell (by simp) (by simp) _
    have HO := Lib.hid ((ow.touch tt (.inr (by omega))).wide (lo' := w.heap.size) (hi' := ((w2.setCell ⟨r, 0, none⟩ (.int .i64 b)).setCell ⟨r, 1, none⟩ (.slice A ds.length C)).heap.size) (by have := HR.out; omega) (by simp))
    have HT := Lib.hid (tu.then_ tt (by have := HR.out; omega))
    have HS := Lib.hid ((hs2.touch tt (by omega)).mono (M := N + 250) (by omega))
    have HB := Lib.hid (hB)
    clear tt tu hs2 ow
    go_wp2_with fail
    exact bodyPost_ret (v := .agg #[.int .i64 b, .slice A ds.length C]) (by simp [results, Tryd.results113, go_sem, c0, c1]) rfl ⟨b, ds, A, C, rfl, HB.out, HO.out, HT.out, HS.out⟩
  | false =>
    go_wp2_with fail
    refine (one_any s _ 24 w1 hs1 (by omega) (by omega)).mono ?_
    rintro e w2 ⟨y, rfl, hs2, ht2⟩
    have hl2 := ht2.size
    replace br := br.touch ht2 (by omega)
    replace tu := tu.trans ht2
    clear ht2 hs1
    cases y with
    | true =>
      go_wp2_with fail
      refine (pick_any s _ 2 w2 hs2 (by omega) (by omega)).mono ?_
      rintro e w3 ⟨z, rfl, z0, z1, hs3, ht3⟩
      have hl3 := ht3.size
      replace br := br.touch ht3 (by omega)
      replace tu := tu.trans ht3
      clear ht3 hs2
      have v1 : IntKind.i64.wrap (12 + z) = 12 + z := fits_int _ (by omega) (by omega)
      obtain ⟨n, hn⟩ : ∃ n : Nat, 12 + z = n := ⟨(12 + z).toNat, by omega⟩
      rw [hn] at v1
      have hn1 : n ≤ 13 := by omega
      go_wp2_with fail
      refine (drawDigits_any s _ 2 n w3 hs3 (by omega) (by omega) (by omega) (by omega)).mono ?_
      rintro e w4 ⟨ds, A, C, rfl, hlen, hdg, ow, ht4, hs4⟩
      subst hlen
      have hl4 := ht4.size
      replace br := br.touch ht4 (by omega)
      replace tu := tu.trans ht4
      clear ht4 hs3 v1 hn z0 z1
      have hB : BentR 10 ds := ⟨i64_in64 (by omega) (by omega), fun d hd => by have := hdg d hd; exact i64_in64 (by omega) (by omega), by omega⟩
      have c0 := br.at_ 0 rfl
      have c1 := br.at_ 1 rfl
      have fc0 := br.thaw 0
      have fc1 := br.thaw 1
      have hrl := br.lt
      have tt : Touch r (r + 1) w4 ((w4.setCell ⟨r, 0, none⟩ (.int .i64 10)).setCell ⟨r, 1, none⟩ (.slice A ds.length C)) := ((Touch.refl _ _ _).setCell (by simp) (by simp) _).setCell (by simp) (by simp) _
      have HO := Lib.hid ((ow.touch tt (.inr (by omega))).wide (lo' := w.heap.size) (hi' := ((w4.setCell ⟨r, 0, none⟩ (.int .i64 10)).setCell ⟨r, 1, none⟩ (.slice A ds.length C)).heap.size) (by have := HR.out; omega) (by simp))
      have HT := Lib.hid (tu.then_ tt (by have := HR.out; omega))
      have HS := Lib.hid ((hs4.touch tt (by omega)).mono (M := N + 250) (by omega))
      have HB := Lib.hid (hB)
      clear tt tu hs4 ow
      go_wp2_with fail
      exact bodyPost_ret (v := .agg #[.int .i64 10, .slice A ds.length C]) (by simp [results, Tryd.results113, go_sem, c0, c1]) rfl ⟨10, ds, A, C, rfl, HB.out, HO.out, HT.out, HS.out⟩
    | false =>
      go_wp2_with fail
      refine (l09Draw_any s _ w2 hs2 (by omega)).mono ?_
      rintro e w3 ⟨b, ds, A, C, rfl, hB, ow, ht3, hs3⟩
      have hl3 := ht3.size
      replace br := br.touch ht3 (by omega)
      replace tu := tu.trans ht3
      clear ht3 hs2
      have c0 := br.at_ 0 rfl
      have c1 := br.at_ 1 rfl
      have fc0 := br.thaw 0
      have fc1 := br.thaw 1
      have hrl := br.lt
      have tt : Touch r (r + 1) w3 ((w3.setCell ⟨r, 0, none⟩ (.int .i64 b)).setCell ⟨r, 1, none⟩ (.slice A ds.length C)) := ((Touch.refl _ _ _).setCell (by simp) (by simp) _).setCell (by simp) (by simp) _
      have HO := Lib.hid ((ow.touch tt (.inr (by omega))).wide (lo' := w.heap.size) (hi' := ((w3.setCell ⟨r, 0, none⟩ (.int .i64 b)).setCell ⟨r, 1, none⟩ (.slice A ds.length C)).heap.size) (by have := HR.out; omega) (by simp))
      have HT := Lib.hid (tu.then_ tt (by have := HR.out; omega))
      have HS := Lib.hid ((hs3.touch tt (by omega)).mono (M := N + 250) (by omega))
      have HB := Lib.hid (hB)
      clear tt tu hs3 ow
      go_wp2_with fail
      exact bodyPost_ret (v := .agg #[.int .i64 b, .slice A ds.length C]) (by simp [results, Tryd.results113, go_sem, c0, c1]) rfl ⟨b, ds, A, C, rfl, HB.out, HO.out, HT.out, HS.out⟩
end Go.Proofs.YtlahobdopmdfmaaDoor

/- AccF -/
namespace Go.Proofs.YtlahobdopmdfmaaDoor
open Go.RowKit

/-- A register that has been drawn, in memory of its own. -/
def BentV (w : World) (e : Ending) (w' : World) : Prop := ∃ (b : Int) (ds : List Int) (A : Option Addr) (C : Nat), e = .returned (.agg #[.int .i64 b, .slice A (List.length ds) C]) ∧ BentR b ds ∧
  Own 2 w' w.heap.size w'.heap.size (.slice A ds.length C) ds ∧ Below w.heap.size w w'

theorem drawAccumulatorRange_any (a : Option Addr) (zs : List Int) (c : Nat) (w : World) (h : RdU w a zs) :
    Calls Tryd.prog 29 #[.slice a zs.length c] w fun e w' => ∃ b n : Int, e = .returned (.tuple #[.int .i64 b, .int .i64 n]) ∧ (1 ≤ b ∧ b ≤ 17) ∧ (0 ≤ n ∧ n ≤ 17) ∧ Below w.heap.size w w' := by
  go_enter Tryd.func29, Tryd.ntmps29
  go_wp2_with fail
  refine (from_any a zs c w h).mono ?_
  rintro e w1 ⟨g, rfl, hg, hs, hb1⟩
  have hl := hb1.size
  go_wp2_with fail
  refine (l09DrawSize_any g 0 w1 hs (by omega)).mono ?_
  rintro e w2 ⟨b, n, rfl, h1, h2, ht, _⟩
  go_wp2_with fail
  exact bodyPost_ret (v := .tuple #[.int .i64 b, .int .i64 n]) (by simp [results, Tryd.results29, go_sem]) rfl ⟨b, n, rfl, h1, h2, hb1.trans (ht.below hg hl)⟩

set_option maxRecDepth 100000 in
theorem drawNegateAccumulator_any (a : Option Addr) (zs : List Int) (c : Nat) (w : World) (h : RdU w a zs) :
    Calls Tryd.prog 32 #[.slice a zs.length c] w (BentV w) := by
  obtain ⟨r, hr⟩ : ∃ r, r = w.heap.size := ⟨_, rfl⟩
  obtain ⟨u, hu⟩ : ∃ u, u = w.alloc (.cells #[.int .i64 0, .slice none 0 0] 26) := ⟨_, rfl⟩
  have br : Bx u r 26 #[.int .i64 0, .slice none 0 0] := by rw [hu, hr]; exact Bx.new _ _ _
  have hbu : Below w.heap.size w u := by rw [hu]; exact (by repeat (first | exact Below.refl _ _ | refine Below.setCell ?_ (by first | omega | (simp <;> omega)) _ | refine Below.alloc ?_ (by first | omega | (simp <;> omega)) _ | refine Below.drew ?_))
  have hsu : u.heap.size = r + 1 := by rw [hu, hr]; simp
  have hU := h.below hbu
  have HU := Lib.hid hu
  have HR := Lib.hid hr
  clear hu h
  go_enter Tryd.func32, Tryd.ntmps32
  go_wp2_with fail
  rw [← HU.out, ← hr]
  clear hr
  refine (from_any a zs c u hU).mono ?_
  rintro e w1 ⟨g, rfl, hg, hs, hb1⟩
  have hl1 := hb1.size
  replace br := br.below hb1
  replace hbu := hbu.trans (hb1.mono hbu.size)
  clear hb1 hU
  go_wp2_with fail
  refine (l09Bent_any g _ w1 hs (by omega)).mono ?_
  rintro e w2 ⟨b, ds, A, C, rfl, hB, ow, ht, _⟩
  have hl2 := ht.size
  replace br := br.touch ht (by omega)
  have hbw : Below w.heap.size w w2 := hbu.trans (ht.below (by have := HR.out; omega) hbu.size)
  clear ht hs hbu
  have c0 := br.at_ 0 rfl
  have c1 := br.at_ 1 rfl
  have fc0 := br.thaw 0
  have fc1 := br.thaw 1
  have hrl := br.lt
  have tt : Touch r (r + 1) w2 ((w2.setCell ⟨r, 0, none⟩ (.int .i64 b)).setCell ⟨r, 1, none⟩ (.slice A ds.length C)) := ((Touch.refl _ _ _).setCell (by simp) (by simp) _).setCell (by simp) (by simp) _
  have HO := Lib.hid ((ow.touch tt (.inr (by omega))).wide (lo' := w.heap.size) (hi' := ((w2.setCell ⟨r, 0, none⟩ (.int .i64 b)).setCell ⟨r, 1, none⟩ (.slice A ds.length C)).heap.size) (by have := HR.out; omega) (by simp))
  have HT := Lib.hid (hbw.trans (tt.below (by have := HR.out; omega) hbw.size))
  have HB := Lib.hid hB
  clear tt ow hbw hB
  go_wp2_with fail
  exact bodyPost_ret (v := .agg #[.int .i64 b, .slice A ds.length C]) (by simp [results, Tryd.results32, go_sem, c0, c1]) rfl ⟨b, ds, A, C, rfl, HB.out, HO.out, HT.out⟩

set_option maxRecDepth 100000 in
theorem drawAccumulatorText_any (a : Option Addr) (zs : List Int) (c : Nat) (w : World) (h : RdU w a zs) :
    Calls Tryd.prog 38 #[.slice a zs.length c] w (BentV w) := by
  obtain ⟨r, hr⟩ : ∃ r, r = w.heap.size := ⟨_, rfl⟩
  obtain ⟨u, hu⟩ : ∃ u, u = w.alloc (.cells #[.int .i64 0, .slice none 0 0] 26) := ⟨_, rfl⟩
  have br : Bx u r 26 #[.int .i64 0, .slice none 0 0] := by rw [hu, hr]; exact Bx.new _ _ _
  have hbu : Below w.heap.size w u := by rw [hu]; exact (by repeat (first | exact Below.refl _ _ | refine Below.setCell ?_ (by first | omega | (simp <;> omega)) _ | refine Below.alloc ?_ (by first | omega | (simp <;> omega)) _ | refine Below.drew ?_))
  have hsu : u.heap.size = r + 1 := by rw [hu, hr]; simp
  have hU := h.below hbu
  have HU := Lib.hid hu
  have HR := Lib.hid hr
  clear hu h
  go_enter Tryd.func38, Tryd.ntmps38
  go_wp2_with fail
  rw [← HU.out, ← hr]
  clear hr
  refine (from_any a zs c u hU).mono ?_
  rintro e w1 ⟨g, rfl, hg, hs, hb1⟩
  have hl1 := hb1.size
  replace br := br.below hb1
  replace hbu := hbu.trans (hb1.mono hbu.size)
  clear hb1 hU
  go_wp2_with fail
  refine (l09Bent_any g _ w1 hs (by omega)).mono ?_
  rintro e w2 ⟨b, ds, A, C, rfl, hB, ow, ht, _⟩
  have hl2 := ht.size
  replace br := br.touch ht (by omega)
  have hbw : Below w.heap.size w w2 := hbu.trans (ht.below (by have := HR.out; omega) hbu.size)
  clear ht hs hbu
  have c0 := br.at_ 0 rfl
  have c1 := br.at_ 1 rfl
  have fc0 := br.thaw 0
  have fc1 := br.thaw 1
  have hrl := br.lt
  have tt : Touch r (r + 1) w2 ((w2.setCell ⟨r, 0, none⟩ (.int .i64 b)).setCell ⟨r, 1, none⟩ (.slice A ds.length C)) := ((Touch.refl _ _ _).setCell (by simp) (by simp) _).setCell (by simp) (by simp) _
  have HO := Lib.hid ((ow.touch tt (.inr (by omega))).wide (lo' := w.heap.size) (hi' := ((w2.setCell ⟨r, 0, none⟩ (.int .i64 b)).setCell ⟨r, 1, none⟩ (.slice A ds.length C)).heap.size) (by have := HR.out; omega) (by simp))
  have HT := Lib.hid (hbw.trans (tt.below (by have := HR.out; omega) hbw.size))
  have HB := Lib.hid hB
  clear tt ow hbw hB
  go_wp2_with fail
  exact bodyPost_ret (v := .agg #[.int .i64 b, .slice A ds.length C]) (by simp [results, Tryd.results38, go_sem, c0, c1]) rfl ⟨b, ds, A, C, rfl, HB.out, HO.out, HT.out⟩

set_option maxRecDepth 100000 in
theorem drawNumberOf_any (a : Option Addr) (zs : List Int) (c : Nat) (w : World) (h : RdU w a zs) :
    Calls Tryd.prog 55 #[.slice a zs.length c] w (BentV w) := by
  obtain ⟨r, hr⟩ : ∃ r, r = w.heap.size := ⟨_, rfl⟩
  obtain ⟨u, hu⟩ : ∃ u, u = w.alloc (.cells #[.int .i64 0, .slice none 0 0] 26) := ⟨_, rfl⟩
  have br : Bx u r 26 #[.int .i64 0, .slice none 0 0] := by rw [hu, hr]; exact Bx.new _ _ _
  have hbu : Below w.heap.size w u := by rw [hu]; exact (by repeat (first | exact Below.refl _ _ | refine Below.setCell ?_ (by first | omega | (simp <;> omega)) _ | refine Below.alloc ?_ (by first | omega | (simp <;> omega)) _ | refine Below.drew ?_))
  have hsu : u.heap.size = r + 1 := by rw [hu, hr]; simp
  have hU := h.below hbu
  have HU := Lib.hid hu
  have HR := Lib.hid hr
  clear hu h
  go_enter Tryd.func55, Tryd.ntmps55
  go_wp2_with fail
  rw [← HU.out, ← hr]
  clear hr
  refine (from_any a zs c u hU).mono ?_
  rintro e w1 ⟨g, rfl, hg, hs, hb1⟩
  have hl1 := hb1.size
  replace br := br.below hb1
  replace hbu := hbu.trans (hb1.mono hbu.size)
  clear hb1 hU
  go_wp2_with fail
  refine (l09Bent_any g _ w1 hs (by omega)).mono ?_
  rintro e w2 ⟨b, ds, A, C, rfl, hB, ow, ht, _⟩
  have hl2 := ht.size
  replace br := br.touch ht (by omega)
  have hbw : Below w.heap.size w w2 := hbu.trans (ht.below (by have := HR.out; omega) hbu.size)
  clear ht hs hbu
  have c0 := br.at_ 0 rfl
  have c1 := br.at_ 1 rfl
  have fc0 := br.thaw 0
  have fc1 := br.thaw 1
  have hrl := br.lt
  have tt : Touch r (r + 1) w2 ((w2.setCell ⟨r, 0, none⟩ (.int .i64 b)).setCell ⟨r, 1, none⟩ (.slice A ds.length C)) := ((Touch.refl _ _ _).setCell (by simp) (by simp) _).setCell (by simp) (by simp) _
  have HO := Lib.hid ((ow.touch tt (.inr (by omega))).wide (lo' := w.heap.size) (hi' := ((w2.setCell ⟨r, 0, none⟩ (.int .i64 b)).setCell ⟨r, 1, none⟩ (.slice A ds.length C)).heap.size) (by have := HR.out; omega) (by simp))
  have HT := Lib.hid (hbw.trans (tt.below (by have := HR.out; omega) hbw.size))
  have HB := Lib.hid hB
  clear tt ow hbw hB
  go_wp2_with fail
  exact bodyPost_ret (v := .agg #[.int .i64 b, .slice A ds.length C]) (by simp [results, Tryd.results55, go_sem, c0, c1]) rfl ⟨b, ds, A, C, rfl, HB.out, HO.out, HT.out⟩

set_option maxRecDepth 100000 in
theorem drawClearTurns_any (a : Option Addr) (zs : List Int) (c : Nat) (w : World) (h : RdU w a zs) :
    Calls Tryd.prog 52 #[.slice a zs.length c] w (BentV w) := by
  obtain ⟨r, hr⟩ : ∃ r, r = w.heap.size := ⟨_, rfl⟩
  obtain ⟨u, hu⟩ : ∃ u, u = w.alloc (.cells #[.int .i64 0, .slice none 0 0] 26) := ⟨_, rfl⟩
  have br : Bx u r 26 #[.int .i64 0, .slice none 0 0] := by rw [hu, hr]; exact Bx.new _ _ _
  have hbu : Below w.heap.size w u := by rw [hu]; exact (by repeat (first | exact Below.refl _ _ | refine Below.setCell ?_ (by first | omega | (simp <;> omega)) _ | refine Below.alloc ?_ (by first | omega | (simp <;> omega)) _ | refine Below.drew ?_))
  have hsu : u.heap.size = r + 1 := by rw [hu, hr]; simp
  have hU := h.below hbu
  have HU := Lib.hid hu
  have HR := Lib.hid hr
  clear hu h
  go_enter Tryd.func52, Tryd.ntmps52
  go_wp2_with fail
  rw [← HU.out, ← hr]
  clear hr
  refine (from_any a zs c u hU).mono ?_
  rintro e w1 ⟨g, rfl, hg, hs, hb1⟩
  have hl1 := hb1.size
  replace br := br.below hb1
  replace hbu := hbu.trans (hb1.mono hbu.size)
  clear hb1 hU
  go_wp2_with fail
  refine (bentReg_any g _ w1 hs (by omega)).mono ?_
  rintro e w2 ⟨b, ds, A, C, rfl, hB, ow, ht, _⟩
  have hl2 := ht.size
  replace br := br.touch ht (by omega)
  have hbw : Below w.heap.size w w2 := hbu.trans (ht.below (by have := HR.out; omega) hbu.size)
  clear ht hs hbu
  have c0 := br.at_ 0 rfl
  have c1 := br.at_ 1 rfl
  have fc0 := br.thaw 0
  have fc1 := br.thaw 1
  have hrl := br.lt
  have tt : Touch r (r + 1) w2 ((w2.setCell ⟨r, 0, none⟩ (.int .i64 b)).setCell ⟨r, 1, none⟩ (.slice A ds.length C)) := ((Touch.refl _ _ _).setCell (by simp) (by simp) _).setCell (by simp) (by simp) _
  have HO := Lib.hid ((ow.touch tt (.inr (by omega))).wide (lo' := w.heap.size) (hi' := ((w2.setCell ⟨r, 0, none⟩ (.int .i64 b)).setCell ⟨r, 1, none⟩ (.slice A ds.length C)).heap.size) (by have := HR.out; omega) (by simp))
  have HT := Lib.hid (hbw.trans (tt.below (by have := HR.out; omega) hbw.size))
  have HB := Lib.hid hB
  clear tt ow hbw hB
  go_wp2_with fail
  exact bodyPost_ret (v := .agg #[.int .i64 b, .slice A ds.length C]) (by simp [results, Tryd.results52, go_sem, c0, c1]) rfl ⟨b, ds, A, C, rfl, HB.out, HO.out, HT.out⟩
end Go.Proofs.YtlahobdopmdfmaaDoor

/- AccI -/
namespace Go.Proofs.YtlahobdopmdfmaaDoor
open Go.RowKit

set_option maxRecDepth 100000 in
set_option maxHeartbeats 4000000 in
theorem drawWidenAccumulator_any (a : Option Addr) (zs : List Int) (c : Nat) (w : World) (h : RdU w a zs) :
    Calls Tryd.prog 35 #[.slice a zs.length c] w fun e w' => ∃ (b : Int) (ds : List Int) (A : Option Addr) (C : Nat) (x : Int), e = .returned (.tuple #[.agg #[.int .i64 b, .slice A (List.length ds) C], .int .i64 x]) ∧ BentR b ds ∧ (-1 ≤ x ∧ x ≤ 30) ∧
      Own 2 w' w.heap.size w'.heap.size (.slice A ds.length C) ds ∧ Below w.heap.size w w' := by
  obtain ⟨r, hr⟩ : ∃ r, r = w.heap.size := ⟨_, rfl⟩
  obtain ⟨u, hu⟩ : ∃ u, u = w.alloc (.cells #[.int .i64 0, .slice none 0 0] 26) := ⟨_, rfl⟩
  have br : Bx u r 26 #[.int .i64 0, .slice none 0 0] := by rw [hu, hr]; exact Bx.new _ _ _
  have hbu : Below w.heap.size w u := by rw [hu]; exact (by repeat (first | exact Below.refl _ _ | refine Below.setCell ?_ (by first | omega | (simp <;> omega)) _ | refine Below.alloc ?_ (by first | omega | (simp <;> omega)) _ | refine Below.drew ?_))
  have hsu : u.heap.size = r + 1 := by rw [hu, hr]; simp
  have hU := h.below hbu
  have HU := Lib.hid hu
  have HR := Lib.hid hr
  clear hu h
  go_enter Tryd.func35, Tryd.ntmps35
  go_wp2_with fail
  rw [← HU.out, ← hr]
  clear hr
  refine (from_any a zs c u hU).mono ?_
  rintro e w1 ⟨g, rfl, hg, hs, hb1⟩
  have hl1 := hb1.size
  replace br := br.below hb1
  replace hbu := hbu.trans (hb1.mono hbu.size)
  clear hb1 hU
  have hgw : w.heap.size ≤ g := by have := HR.out; omega
  go_wp2_with fail
  refine (l09Bent_any g _ w1 hs (by omega)).mono ?_
  rintro e w2 ⟨b, ds, A, C, rfl, hB, ow, ht, hs2⟩
  have hl2 := ht.size
  replace br := br.touch ht (by omega)
  have hgl := hs.lt
  have hbw : Below w.heap.size w w2 := hbu.trans (ht.below hgw hbu.size)
  clear ht hs hbu
  obtain ⟨w3, hw3⟩ : ∃ v, v = w2.alloc (.cells #[.int .i64 b, .slice A ds.length C] 26) := ⟨_, rfl⟩
  have hal : Below w2.heap.size w2 w3 := by rw [hw3]; exact (by repeat (first | exact Below.refl _ _ | refine Below.setCell ?_ (by first | omega | (simp <;> omega)) _ | refine Below.alloc ?_ (by first | omega | (simp <;> omega)) _ | refine Below.drew ?_))
  have bB : Bx w3 w2.heap.size 26 #[.int .i64 b, .slice A ds.length C] := by rw [hw3]; exact Bx.new _ _ _
  replace br := br.below hal
  replace ow := ow.below hal
  replace hs2 := hs2.lo hal (by omega)
  replace hbw := hbw.trans (hal.mono hbw.size)
  have hl3 := hal.size
  clear hal
  go_wp2_with fail
  rw [← hw3]
  clear hw3
  refine (one_any g _ 10 w3 hs2 (by omega) (by omega)).mono ?_
  rintro e w4 ⟨y, rfl, hs3, ht4⟩
  have hl4 := ht4.size
  have hg4 : g < w2.heap.size := by omega
  replace br := br.touch ht4 (by omega)
  replace bB := bB.touch ht4 (by omega)
  replace ow := ow.touch ht4 (.inr (by omega))
  replace hbw := hbw.trans (ht4.below hgw hbw.size)
  clear ht4 hs2
  cases y with
  | true =>
    go_upto_region 4 with fail
    refine wp_region_marked (fun w' => w'.cell? ⟨w2.heap.size, 0, none⟩ = some (.int .i64 b) ∧ w'.cell? ⟨w2.heap.size, 1, none⟩ = some (.slice A ds.length C)) 4 (by kernel_rfl) ?_
    have hS : w4.drew.cell? ⟨w2.heap.size, 0, none⟩ = some (.int .i64 b) ∧ w4.drew.cell? ⟨w2.heap.size, 1, none⟩ = some (.slice A ds.length C) := ⟨bB.drew.at_ 0 rfl, bB.drew.at_ 1 rfl⟩
    have hdr : Below w4.heap.size w4 w4.drew := (Below.refl _ _).drew
    have hs4 := hs3.lo hdr (by omega)
    have hbw4 := hbw.trans (hdr.mono hbw.size)
    have br4 := br.drew
    have ow4 := ow.drew
    have hz4 := hdr.size
    clear hs3 bB ow br
    refine wpAnyM_takeC (i := 0) (v := ?_) 10 rfl (by kernel_rfl) (by kernel_rfl) (by kernel_rfl) (by kernel_rfl) (by kernel_rfl) (by kernel_rfl) (fun _ _ _ h => h) hS (.inl ⟨by rfl, ?_⟩) ?_
    rotate_left 1
    · intro w' hS'; go_simp; try with_reducible rfl
    simp only [Act.put, List.setIfInBounds_toArray]
    refine wpAnyM_takeC (i := 1) (v := ?_) 10 rfl (by kernel_rfl) (by kernel_rfl) (by kernel_rfl) (by kernel_rfl) (by kernel_rfl) (by kernel_rfl) (fun _ _ _ h => h) hS (.inl ⟨by rfl, ?_⟩) ?_
    rotate_left 1
    · intro w' hS'; go_simp; try with_reducible rfl
    simp only [Act.put]
    refine wpAnyM_one (i := 2) (by kernel_rfl) rfl (by rfl) (fun K hK => ?_)
    go_simp
    have hal : Below w4.drew.heap.size w4.drew (w4.drew.alloc (.cells ([-1, 0, 16, 17].map (Value.int .i64)).toArray 2)) := (Below.refl _ _).alloc (Nat.le_refl _) _
    have hS4 := And.intro (kept hal hS.1) (kept hal hS.2)
    have hs4x := hs4.lo hal (by omega)
    have br4x := br4.below hal
    have ow4x := ow4.below hal
    have hbw4x := hbw4.trans (hal.mono hbw4.size)
    have hlx := hal.size
    refine hK _ _ (.inr hS4) ?_
    try simp only [Act.put, List.setIfInBounds_toArray]
    clear hK K
    refine wpAnyM_one (i := 3) (by kernel_rfl) rfl (by rfl) (fun K hK => ?_)
    go_simp
    refine (among_any g _ w4.drew.heap.size 4 [-1, 0, 16, 17] _ hs4x (by omega) (rd_new w4.drew [-1, 0, 16, 17] (by simp)) (by omega) (by simp) (by simp)).mono ?_
    rintro e w5 ⟨x, rfl, hx, hs5, ht5⟩
    have hx1 : -1 ≤ x ∧ x ≤ 30 := by simp at hx; omega
    have hl5 := ht5.size
    have hS5 := And.intro (keptT ht5 hS4.1 (by omega)) (keptT ht5 hS4.2 (by omega))
    have br5 := br4x.touch ht5 (by omega)
    have ow5 := ow4x.touch ht5 (.inr (by omega))
    have hbw5 := hbw4x.trans (ht5.below hgw hbw4x.size)
    have c0 := br5.at_ 0 rfl
    have c1 := br5.at_ 1 rfl
    have fc0 := br5.thaw 0
    have fc1 := br5.thaw 1
    have hrl := br5.lt
    refine hK _ _ (.inr hS5) ?_
    try simp only [Act.put, List.setIfInBounds_toArray]
    clear hK K
    refine wpAnyM_one (i := 4) (by kernel_rfl) rfl (by rfl) (fun K hK => ?_)
    go_simp
    refine hK _ _ (.inl rfl) ?_
    try simp only [Act.put, List.setIfInBounds_toArray]
    clear hK K
    refine wpAnyM_one (i := 5) (by kernel_rfl) rfl (by rfl) (fun K hK => ?_)
    go_simp
    refine hK _ _ (.inl rfl) ?_
    try simp only [Act.put, List.setIfInBounds_toArray]
    clear hK K
    refine wpAnyM_done (by kernel_rfl) ?_ _
    have tt : Touch r (r + 1) w5 ((w5.setCell ⟨r, 0, none⟩ (.int .i64 b)).setCell ⟨r, 1, none⟩ (.slice A ds.length C)) := ((Touch.refl _ _ _).setCell (by simp) (by simp) _).setCell (by simp) (by simp) _
    have HO := Lib.hid ((ow5.touch tt (.inr (by omega))).wide (lo' := w.heap.size) (hi' := ((w5.setCell ⟨r, 0, none⟩ (.int .i64 b)).setCell ⟨r, 1, none⟩ (.slice A ds.length C)).heap.size) (by have := HR.out; omega) (by simp; omega))
    have HT := Lib.hid (hbw5.trans (tt.below (by have := HR.out; omega) hbw5.size))
    have HB := Lib.hid hB
    clear tt ow5 hbw5 hB
    go_wp2_with fail
    exact bodyPost_ret (v := .tuple #[.agg #[.int .i64 b, .slice A ds.length C], .int .i64 x]) (by simp [results, Tryd.results35, go_sem, c0, c1]) rfl ⟨b, ds, A, C, x, rfl, HB.out, by omega, HO.out, HT.out⟩
  | false =>
    have hn := hB.2.2
    go_upto_region 5 with fail
    refine wp_region_marked (fun w' => w'.cell? ⟨w2.heap.size, 0, none⟩ = some (.int .i64 b) ∧ w'.cell? ⟨w2.heap.size, 1, none⟩ = some (.slice A ds.length C)) 8 (by kernel_rfl) ?_
    have hS : w4.drew.cell? ⟨w2.heap.size, 0, none⟩ = some (.int .i64 b) ∧ w4.drew.cell? ⟨w2.heap.size, 1, none⟩ = some (.slice A ds.length C) := ⟨bB.drew.at_ 0 rfl, bB.drew.at_ 1 rfl⟩
    have hdr : Below w4.heap.size w4 w4.drew := (Below.refl _ _).drew
    have hs4 := hs3.lo hdr (by omega)
    have hbw4 := hbw.trans (hdr.mono hbw.size)
    have br4 := br.drew
    have ow4 := ow.drew
    have hz4 := hdr.size
    clear hs3 bB ow br
    refine wpAnyM_takeC (i := 0) (v := ?_) 10 rfl (by kernel_rfl) (by kernel_rfl) (by kernel_rfl) (by kernel_rfl) (by kernel_rfl) (by kernel_rfl) (fun _ _ _ h => h) hS (.inl ⟨by rfl, ?_⟩) ?_
    rotate_left 1
    · intro w' hS'; go_simp; try with_reducible rfl
    simp only [Act.put, List.setIfInBounds_toArray]
    refine wpAnyM_takeC (i := 1) (v := ?_) 10 rfl (by kernel_rfl) (by kernel_rfl) (by kernel_rfl) (by kernel_rfl) (by kernel_rfl) (by kernel_rfl) (fun _ _ _ h => h) hS (.inl ⟨by rfl, ?_⟩) ?_
    rotate_left 1
    · intro w' hS'; go_simp; try with_reducible rfl
    simp only [Act.put]
    refine wpAnyM_takeC (i := 2) (v := ?_) 10 rfl (by kernel_rfl) (by kernel_rfl) (by kernel_rfl) (by kernel_rfl) (by kernel_rfl) (by kernel_rfl) (fun _ _ _ h => h) hS (.inl ⟨by rfl, ?_⟩) ?_
    rotate_left 1
    · intro w' hS'; go_simp; try with_reducible rfl
    simp only [Act.put]
    refine wpAnyM_takeC (i := 3) (v := ?_) 10 rfl (by kernel_rfl) (by kernel_rfl) (by kernel_rfl) (by kernel_rfl) (by kernel_rfl) (by kernel_rfl) (fun _ _ _ h => h) hS (.inl ⟨by rfl, ?_⟩) ?_
    rotate_left 1
    · intro w' hS'; go_simp; try with_reducible rfl
    simp only [Act.put]
    refine wpAnyM_takeC (i := 4) (v := ?_) 10 rfl (by kernel_rfl) (by kernel_rfl) (by kernel_rfl) (by kernel_rfl) (by kernel_rfl) (by kernel_rfl) (fun _ _ _ h => h) hS (.inl ⟨by rfl, ?_⟩) ?_
    rotate_left 1
    · intro w' hS'; go_simp; try with_reducible rfl
    simp only [Act.put]
    refine wpAnyM_one (i := 5) (by kernel_rfl) rfl (by rfl) (fun K hK => ?_)
    go_simp
    refine (pick_any g _ 5 w4.drew hs4 (by omega) (by omega)).mono ?_
    rintro e w5 ⟨x, rfl, x0, x1, hs5, ht5⟩
    have hl5 := ht5.size
    have hS5 := And.intro (keptT ht5 hS.1 (by omega)) (keptT ht5 hS.2 (by omega))
    have br5 := br4.touch ht5 (by omega)
    have ow5 := ow4.touch ht5 (.inr (by omega))
    have hbw5 := hbw4.trans (ht5.below hgw hbw4.size)
    have c0 := br5.at_ 0 rfl
    have c1 := br5.at_ 1 rfl
    have fc0 := br5.thaw 0
    have fc1 := br5.thaw 1
    have hrl := br5.lt
    have v1 : IntKind.i64.wrap ((ds.length : Int) + x) = ds.length + x := fits_int _ (by omega) (by omega)
    refine hK _ _ (.inr hS5) ?_
    try simp only [Act.put, List.setIfInBounds_toArray]
    clear hK K
    refine wpAnyM_takeC (i := 6) (v := ?_) 10 rfl (by kernel_rfl) (by kernel_rfl) (by kernel_rfl) (by kernel_rfl) (by kernel_rfl) (by kernel_rfl) (fun _ _ _ h => h) hS5 (.inl ⟨by rfl, ?_⟩) ?_
    rotate_left 1
    · intro w' hS'; go_simp; try with_reducible rfl
    simp only [Act.put, List.setIfInBounds_toArray]
    refine wpAnyM_one (i := 7) (by kernel_rfl) rfl (by rfl) (fun K hK => ?_)
    go_simp
    have hne : w2.heap.size ≠ r := by omega
    refine hK _ _ (.inr ⟨cell_far (cell_far hS5.1 hne _) hne _, cell_far (cell_far hS5.2 hne _) hne _⟩) ?_
    try simp only [Act.put, List.setIfInBounds_toArray]
    clear hK K
    refine wpAnyM_one (i := 8) (by kernel_rfl) rfl (by rfl) (fun K hK => ?_)
    go_simp
    refine hK _ _ (.inl rfl) ?_
    try simp only [Act.put, List.setIfInBounds_toArray]
    clear hK K
    refine wpAnyM_done (by kernel_rfl) ?_ _
    have tt : Touch r (r + 1) w5 ((w5.setCell ⟨r, 0, none⟩ (.int .i64 b)).setCell ⟨r, 1, none⟩ (.slice A ds.length C)) := ((Touch.refl _ _ _).setCell (by simp) (by simp) _).setCell (by simp) (by simp) _
    have HO := Lib.hid ((ow5.touch tt (.inr (by omega))).wide (lo' := w.heap.size) (hi' := ((w5.setCell ⟨r, 0, none⟩ (.int .i64 b)).setCell ⟨r, 1, none⟩ (.slice A ds.length C)).heap.size) (by have := HR.out; omega) (by simp; omega))
    have HT := Lib.hid (hbw5.trans (tt.below (by have := HR.out; omega) hbw5.size))
    have HB := Lib.hid hB
    clear tt ow5 hbw5 hB
    go_wp2_with fail
    exact bodyPost_ret (v := .tuple #[.agg #[.int .i64 b, .slice A ds.length C], .int .i64 (ds.length + x)]) (by simp [results, Tryd.results35, go_sem, c0, c1]) rfl ⟨b, ds, A, C, (ds.length + x), rfl, HB.out, by omega, HO.out, HT.out⟩
end Go.Proofs.YtlahobdopmdfmaaDoor

/- AccO -/
namespace Go.Proofs.YtlahobdopmdfmaaDoor
open Go.RowKit

theorem l10Full_at {v : Bool} (B : Int) (n : Nat) (w : World) (b1 : 1 ≤ B) (b2 : B ≤ 16) (hn : n ≤ 16) (hv : decide (B ^ n - 1 ≤ 1000000000000) = v) :
    Calls Tryd.prog 119 #[.int .i64 B, .int .i64 n] w fun e w' => e = .returned (.bool v) ∧ w' = w := hv ▸ l10Full_any B n w b1 b2 hn

set_option maxHeartbeats 2000000 in
theorem l09Ok_at {v : Bool} (p : Nat) (B : Int) (a : Option Addr) (c : Nat) (zs : List Int) (w : World) (hv : accB B zs = v) (ha : Rd w a zs) (hp0 : w.cell? ⟨p, 0, none⟩ = some (.int .i64 B)) (hp1 : w.cell? ⟨p, 1, none⟩ = some (.slice a zs.length c)) :
    Calls Tryd.prog 114 #[.pointer (some ⟨p, 0, none⟩)] w fun e w' => e = .returned (.bool v) ∧ Below w.heap.size w w' := by
  have k0 := kept_after hp0
  have k1 := kept_after hp1
  cases ho : okB B zs with
  | false =>
    have HV := Lib.hid (show v = false by rw [← hv]; simp [accB, ho])
    have HO := Lib.hid (fun u : After w => calls_after_drew (l02Ok_at0 p B a c zs u.now ho (ha.below u.ok) (k0 u) (k1 u)))
    clear hv ho
    go_enter Tryd.func114, Tryd.ntmps114
    go_wp2
    refine wp_region_after (by kernel_rfl) (by kernel_rfl) ?_
    repeat (go_big_quiet_step ((go_at_call 96; exact HO.out _)))
    refine wpQuiet_nil ?_
    intro u
    go_wp2
    go_ret
    exact ⟨ret_bool HV.out.symm, u.ok⟩
  | true =>
    obtain ⟨b0, b1, n0, n1, _, _⟩ := okB_spec ho
    have hf : decide (B ^ zs.length - 1 ≤ 1000000000000) = v := by rw [← hv, accB, ho, Bool.true_and]
    have HO := Lib.hid (fun u : After w => calls_after_drew (l02Ok_at0 p B a c zs u.now ho (ha.below u.ok) (k0 u) (k1 u)))
    have HF := Lib.hid (fun u : After w => calls_after_drew ((l10Full_at B zs.length u.now (by omega) b1 n1 hf).mono fun _ _ h => ⟨h.1, 0, h.2⟩))
    clear hv ho hf
    go_enter Tryd.func114, Tryd.ntmps114
    go_wp2
    refine wp_region_after (by kernel_rfl) (by kernel_rfl) ?_
    repeat (go_big_quiet_step (first | (go_at_call 96; exact HO.out _) | (go_at_call 119; exact HF.out _)))
    refine wpQuiet_nil ?_
    intro u
    cases v
    all_goals
      go_wp2
      go_ret
      exact ⟨rfl, u.ok⟩

set_option maxHeartbeats 2000000 in
theorem l09Number_any (p : Nat) (B : Int) (a : Option Addr) (c : Nat) (zs : List Int) (w : World) (hv : accB B zs = true) (ha : Rd w a zs) (hp0 : w.cell? ⟨p, 0, none⟩ = some (.int .i64 B)) (hp1 : w.cell? ⟨p, 1, none⟩ = some (.slice a zs.length c)) :
    Calls Tryd.prog 115 #[.pointer (some ⟨p, 0, none⟩)] w fun e w' => e = .returned (.int .i64 (numA B zs)) ∧ Below w.heap.size w w' := by
  have k0 := kept_after hp0
  have k1 := kept_after hp1
  obtain ⟨b0, b1, n0, n1, hd, hvl⟩ := okB_spec (accB_spec hv).1
  have hf := accB_full hv
  have hc := cntA_bd hf
  have hvb := valR_acc hv
  have HV := Lib.hid (fun u : After w => calls_after_drew ((l02Value_any B a c zs u.now (ha.below u.ok) b0 b1 hd).mono fun _ _ h => ⟨by rw [h.1, capV_ok b0 hd hvl], 0, h.2⟩ : Calls Tryd.prog 97 _ u.now fun e w' => e = .returned (.int .i64 (valR B zs)) ∧ ∃ n, w' = u.now.drewN n))
  have HI := Lib.hid (fun w => l09In_any B zs.length (valR B zs) w hf)
  have hcap : capW B zs.length = cntA B (zs.length : Int) := by rw [cntA_len]; exact capW_full (accB_spec hv).2
  have HP := Lib.hid (fun w => l10Power_any B zs.length w (by omega) b1 n1)
  rw [hcap] at HP
  have HN := Lib.hid (numA_if hv)
  obtain ⟨N, hN⟩ : ∃ N, N = cntA B (zs.length : Int) := ⟨_, rfl⟩
  rw [← hN] at HP HI HN hc
  obtain ⟨x, hx⟩ : ∃ x, x = valR B zs := ⟨_, rfl⟩
  rw [← hx] at HV HI HN hvb
  clear hN hx hcap hf hv hd hvl
  have hw1 : IntKind.i64.wrap (x - N) = x - N := IntWalk.i64_in _ (by omega)
  have hw2 : wrap64 (x - N) = x - N := by unfold wrap64; omega
  cases hi : inA N x
  all_goals
    rw [hi] at HI HN
    go_enter Tryd.func115, Tryd.ntmps115
    go_wp2
    refine wp_region_after (by kernel_rfl) (by kernel_rfl) ?_
    repeat (go_big_quiet_step ((go_at_call 97; exact HV.out _)))
    refine wpQuiet_nil ?_
    intro u
    have q0 := k0 u
    have q1 := k1 u
    go_wp2_with (first | (go_at_call 109; refine (HI.out _).mono ?_; rintro e w1 ⟨rfl, rfl⟩) | (go_at_call 103; refine (HP.out _).mono ?_; rintro e w1 ⟨rfl, rfl⟩))
    go_ret
    exact ⟨ret_int (by rw [HN.out]; rfl), u.ok⟩

set_option maxHeartbeats 2000000 in
theorem specNumberOf (xB : Int) (xA : Option Addr) (xC : Nat) (xZ : List Int) (w : World) (ha : Rd w xA xZ) (_ : All64 xZ) (_ : I64 xB) :
    Calls Tryd.prog 56 #[.agg #[.int .i64 xB, .slice xA xZ.length xC]] w fun e w' => e = .returned (.tuple #[.int .i64 (numR xB xZ).1, .int .i64 (numR xB xZ).2]) ∧ Below w.heap.size w w' := by
  obtain ⟨u, hu⟩ : ∃ u, u = w.alloc (.cells #[.int .i64 xB, .slice xA xZ.length xC] 26) := ⟨_, rfl⟩
  have bx : Bx u w.heap.size 26 #[.int .i64 xB, .slice xA xZ.length xC] := by rw [hu]; exact Bx.new _ _ _
  have hbel : Below w.heap.size w u := by rw [hu]; exact (by repeat (first | exact Below.refl _ _ | refine Below.setCell ?_ (by first | omega | (simp <;> omega)) _ | refine Below.alloc ?_ (by first | omega | (simp <;> omega)) _ | refine Below.drew ?_))
  have HU := Lib.hid hu
  clear hu
  replace ha := ha.below hbel
  cases h : accB xB xZ with
  | false =>
    have HR := Lib.hid (show numR xB xZ = (0, 1) by simp [numR, h])
    have HO := Lib.hid (l09Ok_at w.heap.size xB xA xC xZ u h ha (bx.at_ 0 rfl) (bx.at_ 1 rfl))
    go_enter Tryd.func56, Tryd.ntmps56
    go_wp2_with fail
    rw [← HU.out]
    refine HO.out.mono ?_
    rintro e v ⟨rfl, hb⟩
    go_wp2
    exact bodyPost_ret (v := .tuple #[.int .i64 0, .int .i64 1]) (by simp [results, Tryd.results56, go_sem]) rfl ⟨by rw [HR.out], hbel.trans (hb.mono hbel.size)⟩
  | true =>
    have HR := Lib.hid (show numR xB xZ = (numA xB xZ, 0) by simp [numR, h])
    have HO := Lib.hid (l09Ok_at w.heap.size xB xA xC xZ u h ha (bx.at_ 0 rfl) (bx.at_ 1 rfl))
    go_enter Tryd.func56, Tryd.ntmps56
    go_wp2_with fail
    rw [← HU.out]
    refine HO.out.mono ?_
    rintro e v ⟨rfl, hb⟩
    replace bx := bx.below hb
    replace ha := ha.below hb
    replace hbel := hbel.trans (hb.mono hbel.size)
    go_wp2_with fail
    refine (l09Number_any w.heap.size xB xA xC xZ v h ha (bx.at_ 0 rfl) (bx.at_ 1 rfl)).mono ?_
    rintro e v2 ⟨rfl, hb2⟩
    go_wp2
    exact bodyPost_ret (v := .tuple #[.int .i64 (numA xB xZ), .int .i64 0]) (by simp [results, Tryd.results56, go_sem]) rfl ⟨by rw [HR.out], hbel.trans (hb2.mono hbel.size)⟩
end Go.Proofs.YtlahobdopmdfmaaDoor

/- SetS -/
namespace Go.Proofs.YtlahobdopmdfmaaDoor
open Go.RowKit

theorem l09Size_at {v : Bool} (B n : Int) (w : World) (h : fullB B n = v) :
    Calls Tryd.prog 99 #[.int .i64 B, .int .i64 n] w fun e w' => e = .returned (.bool v) ∧ w' = w := h ▸ l09Size_any B n w

set_option maxRecDepth 100000 in
set_option maxHeartbeats 4000000 in
theorem specSetAccumulator (B n x : Int) (w : World) (_ : I64 B) (_ : I64 n) (_ : I64 x) :
    Calls Tryd.prog 28 #[.int .i64 B, .int .i64 n, .int .i64 x] w (RegC (setAR B n x) w) := by
  have R := Tryd.results28
  have hbel : Below w.heap.size w w := Below.refl _ _
  cases hf : fullB B n with
  | false =>
    have HR := Lib.hid (show setAR B n x = (0, [], 2) by simp [setAR, hf])
    go_enter Tryd.func28, Tryd.ntmps28
    go_wp2_with fail
    obtain ⟨p, hp⟩ : ∃ g, g = w.heap.size := ⟨_, rfl⟩
    have hk_p : w.heap.size ≤ p := Nat.le_of_eq hp.symm
    obtain ⟨u, hu⟩ : ∃ V, V = w.alloc (.cells #[.int .i64 0, .slice none 0 0] 26) := ⟨_, rfl⟩
    have b_p : Bx u p 26 #[.int .i64 0, .slice none 0 0] := by rw [hu, hp]; exact Bx.new _ _ _
    have hb : Below w.heap.size w u := by rw [hu]; exact (Below.refl _ _).alloc (Nat.le_refl _) _
    rw [← hp, ← hu]
    clear hu hp
    replace hbel := hbel.trans (hb.mono hbel.size)
    clear hb
    refine (l09Size_at B n u hf).mono ?_
    rintro e v ⟨rfl, hw⟩
    subst v
    have r0 := b_p.at_ 0 rfl
    have r1 := b_p.at_ 1 rfl
    have f0 := b_p.thaw 0
    have f1 := b_p.thaw 1
    have hs := b_p.lt
    have hbs := hbel.size
    clear hf
    go_wp2
    exact bodyPost_ret (v := .tuple #[.agg #[.int .i64 0, .slice none 0 0], .int .i64 2]) (by simp [results, go_sem, r0, r1]) rfl
      (regC_err HR.out rfl (by repeat (first | with_reducible exact hbel | with_reducible refine Below.setCell ?_ (by first | omega | (simp <;> omega)) _ | with_reducible refine Below.alloc ?_ (by first | omega | (simp <;> omega)) _ | with_reducible refine Below.drew ?_)))
  | true =>
    cases hi : inA (cntA B n) x with
    | false =>
      have HR := Lib.hid (show setAR B n x = (0, [], 5) by simp [setAR, hf, hi])
      go_enter Tryd.func28, Tryd.ntmps28
      go_wp2_with fail
      obtain ⟨p, hp⟩ : ∃ g, g = w.heap.size := ⟨_, rfl⟩
      have hk_p : w.heap.size ≤ p := Nat.le_of_eq hp.symm
      obtain ⟨u, hu⟩ : ∃ V, V = w.alloc (.cells #[.int .i64 0, .slice none 0 0] 26) := ⟨_, rfl⟩
      have b_p : Bx u p 26 #[.int .i64 0, .slice none 0 0] := by rw [hu, hp]; exact Bx.new _ _ _
      have hb : Below w.heap.size w u := by rw [hu]; exact (Below.refl _ _).alloc (Nat.le_refl _) _
      rw [← hp, ← hu]
      clear hu hp
      replace hbel := hbel.trans (hb.mono hbel.size)
      clear hb
      refine (l09Size_at B n u hf).mono ?_
      rintro e v ⟨rfl, hw⟩
      subst v
      go_wp2_with fail
      refine (l09In_at B n x u hf hi).mono ?_
      rintro e v ⟨rfl, hw⟩
      subst v
      have r0 := b_p.at_ 0 rfl
      have r1 := b_p.at_ 1 rfl
      have f0 := b_p.thaw 0
      have f1 := b_p.thaw 1
      have hs := b_p.lt
      have hbs := hbel.size
      clear hf hi
      go_wp2
      exact bodyPost_ret (v := .tuple #[.agg #[.int .i64 0, .slice none 0 0], .int .i64 5]) (by simp [results, go_sem, r0, r1]) rfl
        (regC_err HR.out rfl (by repeat (first | with_reducible exact hbel | with_reducible refine Below.setCell ?_ (by first | omega | (simp <;> omega)) _ | with_reducible refine Below.alloc ?_ (by first | omega | (simp <;> omega)) _ | with_reducible refine Below.drew ?_)))
    | true =>
      have HR := Lib.hid (show setAR B n x = (B, setA B n x, 0) by simp [setAR, hf, hi])
      go_enter Tryd.func28, Tryd.ntmps28
      go_wp2_with fail
      obtain ⟨p, hp⟩ : ∃ g, g = w.heap.size := ⟨_, rfl⟩
      have hk_p : w.heap.size ≤ p := Nat.le_of_eq hp.symm
      obtain ⟨u, hu⟩ : ∃ V, V = w.alloc (.cells #[.int .i64 0, .slice none 0 0] 26) := ⟨_, rfl⟩
      have b_p : Bx u p 26 #[.int .i64 0, .slice none 0 0] := by rw [hu, hp]; exact Bx.new _ _ _
      have hb : Below w.heap.size w u := by rw [hu]; exact (Below.refl _ _).alloc (Nat.le_refl _) _
      rw [← hp, ← hu]
      clear hu hp
      replace hbel := hbel.trans (hb.mono hbel.size)
      clear hb
      refine (l09Size_at B n u hf).mono ?_
      rintro e v ⟨rfl, hw⟩
      subst v
      go_wp2_with fail
      refine (l09In_at B n x u hf hi).mono ?_
      rintro e v ⟨rfl, hw⟩
      subst v
      go_wp2_with fail
      refine (l09Set_any B n x u hf).mono ?_
      rintro e v3 ⟨A, C, rfl, own, hb⟩
      have hpl : p < u.heap.size := b_p.lt
      have hvs := hb.size
      replace b_p := b_p.below hb
      replace hbel := hbel.trans (hb.mono hbel.size)
      clear hb
      have r0 := b_p.at_ 0 rfl
      have r1 := b_p.at_ 1 rfl
      have f0 := b_p.thaw 0
      have f1 := b_p.thaw 1
      have hs := b_p.lt
      have hbs := hbel.size
      clear hf hi
      go_wp2
      exact bodyPost_ret (v := .tuple #[.agg #[.int .i64 B, .slice A (setA B n x).length C], .int .i64 0]) (by simp [results, go_sem, r0, r1]) rfl
        (regC_ok HR.out rfl ((own.setCell (p := ⟨p, 0, none⟩) (.inl hpl) _).setCell (p := ⟨p, 1, none⟩) (.inl hpl) _) (by have := hk_p; omega) (by simp) (by repeat (first | with_reducible exact hbel | with_reducible refine Below.setCell ?_ (by first | omega | (simp <;> omega)) _ | with_reducible refine Below.alloc ?_ (by first | omega | (simp <;> omega)) _ | with_reducible refine Below.drew ?_)))
end Go.Proofs.YtlahobdopmdfmaaDoor

/- AccG -/
namespace Go.Proofs.YtlahobdopmdfmaaDoor
open Go.RowKit

set_option maxRecDepth 100000 in
set_option maxHeartbeats 4000000 in
theorem drawSetAccumulator_any (a : Option Addr) (zs : List Int) (c : Nat) (w : World) (h : RdU w a zs) :
    Calls Tryd.prog 26 #[.slice a zs.length c] w fun e w' => ∃ b n x : Int, e = .returned (.tuple #[.int .i64 b, .int .i64 n, .int .i64 x]) ∧ (1 ≤ b ∧ b ≤ 17) ∧ (0 ≤ n ∧ n ≤ 17) ∧ I64 x ∧ Below w.heap.size w w' := by
  go_enter Tryd.func26, Tryd.ntmps26
  go_wp2_with fail
  refine (from_any a zs c w h).mono ?_
  rintro e w1 ⟨g, rfl, hg, hs, hb1⟩
  have hl := hb1.size
  go_wp2_with fail
  refine (l09DrawSize_any g 0 w1 hs (by omega)).mono ?_
  rintro e w2 ⟨b, n, rfl, h1, h2, ht, hs2⟩
  have hb2 : Below w.heap.size w w2 := hb1.trans (ht.below hg hl)
  have hl2 := hb2.size
  clear ht hs hb1
  cases hf : fullB b n with
  | false =>
    go_wp2_with fail
    refine (l09Size_at b n w2 hf).mono ?_
    rintro e w3 ⟨rfl, hq⟩
    subst w3
    go_wp2_with fail
    refine (l09DrawNumber_any g _ w2 hs2 (by omega)).mono ?_
    rintro e w3 ⟨x, rfl, hx, ht3, _⟩
    go_wp2_with fail
    exact bodyPost_ret (v := .tuple #[.int .i64 b, .int .i64 n, .int .i64 x]) (by simp [results, Tryd.results26, go_sem]) rfl ⟨b, n, x, rfl, h1, h2, hx, hb2.trans (ht3.below hg hl2)⟩
  | true =>
    obtain ⟨f1, f2, f3, f4, _⟩ := fullB_spec hf
    go_wp2_with fail
    refine (l09Size_at b n w2 hf).mono ?_
    rintro e w3 ⟨rfl, hq⟩
    subst w3
    go_wp2_with fail
    refine (one_any g _ 3 w2 hs2 (by omega) (by omega)).mono ?_
    rintro e w3 ⟨y, rfl, hs3, ht3⟩
    have hb3 := hb2.trans (ht3.below hg hl2)
    have hl3 := hb3.size
    clear ht3 hs2
    cases y with
    | false =>
      go_wp2_with fail
      refine (l09DrawNumber_any g _ w3 hs3 (by omega)).mono ?_
      rintro e w4 ⟨x, rfl, hx, ht4, _⟩
      go_wp2_with fail
      exact bodyPost_ret (v := .tuple #[.int .i64 b, .int .i64 n, .int .i64 x]) (by simp [results, Tryd.results26, go_sem]) rfl ⟨b, n, x, rfl, h1, h2, hx, hb3.trans (ht4.below hg hl3)⟩
    | true =>
      obtain ⟨k, rfl⟩ := Int.eq_ofNat_of_zero_le (show 0 ≤ n by omega)
      have hcw := capW_bd (B := b) (by omega) k
      have HP := Lib.hid (fun v => l10Power_any b k v (by omega) (by omega) (by omega))
      have HL := Lib.hid (fun v => l09Low_any b k v (by omega) (by omega) (by omega))
      obtain ⟨p, hp⟩ : ∃ p, p = capW b k := ⟨_, rfl⟩
      rw [← hp] at hcw HP HL
      obtain ⟨q, hq⟩ : ∃ q, q = p / 2 := ⟨_, rfl⟩
      have hq1 : 0 ≤ q ∧ q ≤ 500000000001 := by omega
      rw [← hq] at HL
      clear hp hq
      go_wp2_with fail
      refine (HL.out w3).mono ?_
      rintro e w4 ⟨rfl, hq⟩
      subst w4
      go_wp2_with fail
      refine (one_any g _ 2 w3 hs3 (by omega) (by omega)).mono ?_
      rintro e w4 ⟨x, rfl, hs4, ht4⟩
      have hb4 := hb3.trans (ht4.below hg hl3)
      have hl4 := hb4.size
      clear ht4 hs3
      cases x with
      | true =>
        have v1 : IntKind.i64.wrap (-q) = -q := fits_int _ (by omega) (by omega)
        go_wp2_with fail
        refine (pick_any g _ 2 w4 hs4 (by omega) (by omega)).mono ?_
        rintro e w5 ⟨z, rfl, z0, z1, hs5, ht5⟩
        have hb5 := hb4.trans (ht5.below hg hl4)
        have v2 : IntKind.i64.wrap (-q - z) = -q - z := fits_int _ (by omega) (by omega)
        clear ht5 hs4
        go_wp2_with fail
        exact bodyPost_ret (v := .tuple #[.int .i64 b, .int .i64 (k : Nat), .int .i64 (-q - z)]) (by simp [results, Tryd.results26, go_sem]) rfl ⟨b, k, -q - z, rfl, h1, h2, i64_in64 (by omega) (by omega), hb5⟩
      | false =>
        go_wp2_with fail
        refine (HP.out w4).mono ?_
        rintro e w5 ⟨rfl, hq⟩
        subst w5
        have v1 : IntKind.i64.wrap (p - 1) = p - 1 := IntWalk.i64_in _ (by omega)
        have v2 : IntKind.i64.wrap (p - 1 - q) = p - 1 - q := IntWalk.i64_in _ (by omega)
        go_wp2_with fail
        refine (pick_any g _ 2 w4 hs4 (by omega) (by omega)).mono ?_
        rintro e w5 ⟨z, rfl, z0, z1, hs5, ht5⟩
        have hb5 := hb4.trans (ht5.below hg hl4)
        have v3 : IntKind.i64.wrap (p - 1 - q + z) = p - 1 - q + z := IntWalk.i64_in _ (by omega)
        clear ht5 hs4
        go_wp2_with fail
        exact bodyPost_ret (v := .tuple #[.int .i64 b, .int .i64 (k : Nat), .int .i64 (p - 1 - q + z)]) (by simp [results, Tryd.results26, go_sem]) rfl ⟨b, k, p - 1 - q + z, rfl, h1, h2, i64_in64 (by omega) (by omega), hb5⟩
end Go.Proofs.YtlahobdopmdfmaaDoor
