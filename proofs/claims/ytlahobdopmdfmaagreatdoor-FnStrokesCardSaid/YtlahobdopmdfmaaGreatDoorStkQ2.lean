/-
  Several texts in one: Digs, Ar, AccM, EqI, ToReg, MarkI, Reg, SameI, SliEq, SameReg, FrameI, Frame, CirI, PairI, TwoS, RegC, Plus, Minus, Fin, NewReg, ShnI, Gear, Within, PowS, AccS, AccO, InB, MacLow, RmM, TxtS, MtxS, RmT, Wid3, CloneI, Box, MacMid.
-/
import Derived.Test.YtlahobdopmdfmaaGreatDoorStkQ1
import Derived.Test.YtlahobdopmdfmaaGreatDoorProg
import Derived.Test.YtlahobdopmdfmaaGreatDoorBase
import Derived.Test.YtlahobdopmdfmaaGreatDoorRows
import Derived.Test.YtlahobdopmdfmaaGreatDoorKnob
import Derived.ProofKit
import Derived.OpenShut
import Derived.ShutString
import Derived.ChangeOld
import Derived.Lib.SmallJoins
import Derived.BigQuiet
import Derived.Deep.Cut
import Derived.IntWalk
import Derived.Lib.MinMax
import Derived.Lib.SplitLaws
import Derived.Laws.Concat
import Derived.Lib.SliceRun
import Derived.Deep.RegionHeld3

/- Digs -/
namespace Go.Proofs.YtlahobdopmdfmaaGreatDoor

/-- The n lowest digits of v in base b, the lowest one first. -/
def digsR (b : Int) : Nat → Int → List Int
  | 0, _ => []
  | n + 1, v => (v % b) :: digsR b n (v / b)
/-- What is left of v behind them. -/
def leftR (b : Int) : Nat → Int → Int
  | 0, v => v
  | n + 1, v => leftR b n (v / b)

theorem digsR_succ (b : Int) : ∀ (n : Nat) (v : Int), digsR b (n + 1) v = digsR b n v ++ [leftR b n v % b]
  | 0, v => rfl
  | n + 1, v => by rw [digsR, digsR_succ b n (v / b), digsR, leftR]; rfl
theorem leftR_succ (b : Int) : ∀ (n : Nat) (v : Int), leftR b (n + 1) v = leftR b n v / b
  | 0, v => rfl
  | n + 1, v => by rw [leftR, leftR_succ b n (v / b), leftR]
theorem digsR_len (b : Int) : ∀ (n : Nat) (v : Int), (digsR b n v).length = n
  | 0, _ => rfl
  | n + 1, v => by rw [digsR, List.length_cons, digsR_len b n]
theorem leftR_bd {b : Int} (hb : 1 ≤ b) {m : Int} : ∀ (n : Nat) (v : Int), 0 ≤ v → v ≤ m → 0 ≤ leftR b n v ∧ leftR b n v ≤ m
  | 0, v, h0, h1 => ⟨h0, h1⟩
  | n + 1, v, h0, h1 => leftR_bd hb n (v / b) (Int.ediv_nonneg h0 (by omega)) (Int.le_trans (Int.ediv_le_self b h0) h1)
theorem digsR_bd {b : Int} (hb : 1 ≤ b) : ∀ (n : Nat) (v : Int), ∀ d ∈ digsR b n v, 0 ≤ d ∧ d < b
  | 0, _, d, hd => by simp [digsR] at hd
  | n + 1, v, d, hd => by
    rw [digsR, List.mem_cons] at hd
    rcases hd with rfl | hd
    · exact ⟨Int.emod_nonneg _ (by omega), Int.emod_lt_of_pos _ (by omega)⟩
    · exact digsR_bd hb n _ d hd

/-- NewRegister: base, digits, code. -/
def nrR (b n v : Int) : Int × List Int × Int :=
  if 2 ≤ b ∧ b ≤ 16 ∧ 1 ≤ n ∧ n ≤ 16 ∧ 0 ≤ v ∧ v ≤ 1000000000000 then (if 0 < leftR b n.toNat v then (0, [], 5) else (b, digsR b n.toNat v, 0)) else (0, [], 2)
theorem nrR_bad {b n v : Int} (h : ¬ (2 ≤ b ∧ b ≤ 16 ∧ 1 ≤ n ∧ n ≤ 16 ∧ 0 ≤ v ∧ v ≤ 1000000000000)) : nrR b n v = (0, [], 2) := by rw [nrR, if_neg h]
theorem nrR_full {b v : Int} {n : Nat} (h : 2 ≤ b ∧ b ≤ 16 ∧ 1 ≤ n ∧ n ≤ 16 ∧ 0 ≤ v ∧ v ≤ 1000000000000) (hl : 0 < leftR b n v) : nrR b n v = (0, [], 5) := by
  rw [nrR, if_pos (by omega), Int.toNat_natCast, if_pos hl]
theorem nrR_ok {b v : Int} {n : Nat} (h : 2 ≤ b ∧ b ≤ 16 ∧ 1 ≤ n ∧ n ≤ 16 ∧ 0 ≤ v ∧ v ≤ 1000000000000) (hl : ¬ 0 < leftR b n v) : nrR b n v = (b, digsR b n v, 0) := by
  rw [nrR, if_pos (by omega), Int.toNat_natCast, if_neg hl]
end Go.Proofs.YtlahobdopmdfmaaGreatDoor

/- Ar -/
namespace Go.Proofs.YtlahobdopmdfmaaGreatDoor

/-- The carry into digit k of a sum. -/
def cK (b : Int) (xs ys : List Int) : Nat → Int
  | 0 => 0
  | k + 1 => (nth xs k + nth ys k + cK b xs ys k) / b
def sumD (b : Int) (xs ys : List Int) (k : Nat) : Int := (nth xs k + nth ys k + cK b xs ys k) % b
/-- The borrow into digit k of a difference. -/
def bK (b : Int) (xs ys : List Int) : Nat → Int
  | 0 => 0
  | k + 1 => if nth xs k - nth ys k - bK b xs ys k < 0 then 1 else 0
def subD (b : Int) (xs ys : List Int) (k : Nat) : Int :=
  if nth xs k - nth ys k - bK b xs ys k < 0 then nth xs k - nth ys k - bK b xs ys k + b else nth xs k - nth ys k - bK b xs ys k
def cplD (b : Int) (xs : List Int) (k : Nat) : Int := b - 1 - nth xs k
/-- Digit k of a register whose digits are moved by 'by'. -/
def shD (xs : List Int) (m : Int) (k : Nat) : Int := if 0 ≤ (k : Int) - m ∧ (k : Int) - m ≤ (xs.length : Int) - 1 then nth xs ((k : Int) - m).toNat else 0

theorem cK_bd {b : Int} (hb : 2 ≤ b) {xs ys : List Int} (hx : ∀ k, k < xs.length → 0 ≤ nth xs k ∧ nth xs k < b) (hy : ∀ k, k < xs.length → 0 ≤ nth ys k ∧ nth ys k < b) :
    ∀ k, k ≤ xs.length → 0 ≤ cK b xs ys k ∧ cK b xs ys k ≤ 1
  | 0, _ => by simp [cK]
  | k + 1, hk => by
    have h1 := hx k (by omega)
    have h2 := hy k (by omega)
    have h3 := cK_bd hb hx hy k (by omega)
    have e : cK b xs ys (k + 1) = (nth xs k + nth ys k + cK b xs ys k) / b := rfl
    rw [e]
    refine ⟨Int.ediv_nonneg (by omega) (by omega), ?_⟩
    have : (nth xs k + nth ys k + cK b xs ys k) / b < 2 := Int.ediv_lt_of_lt_mul (by omega) (by omega)
    omega
theorem bK_bd (b : Int) (xs ys : List Int) : ∀ k, 0 ≤ bK b xs ys k ∧ bK b xs ys k ≤ 1
  | 0 => by simp [bK]
  | k + 1 => by simp only [bK]; split <;> omega

/-- The code of two registers that are to be used together. -/
def twoE (b : Int) (xs : List Int) (d : Int) (ys : List Int) : Int :=
  if okB b xs = false ∨ okB d ys = false then 1 else if b = d ∧ xs.length = ys.length then 0 else 6
/-- What becomes of computed digits: base, digits, code. -/
def finR (b : Int) (zs : List Int) : Int × List Int × Int := if okB b zs = true then (b, zs, 0) else (0, [], 5)

def vofR (b : Int) (zs : List Int) : Int × Int := if okB b zs = true then (valR b zs, 0) else (0, 1)
def addR (b : Int) (xs : List Int) (d : Int) (ys : List Int) : Int × List Int × Int × Int :=
  if twoE b xs d ys = 0 then (if okB b (tab (sumD b xs ys) xs.length) = true then (b, tab (sumD b xs ys) xs.length, cK b xs ys xs.length, 0) else (0, [], 0, 5)) else (0, [], 0, twoE b xs d ys)
def subR (b : Int) (xs : List Int) (d : Int) (ys : List Int) : Int × List Int × Int × Int :=
  if twoE b xs d ys = 0 then (if okB b (tab (subD b xs ys) xs.length) = true then (b, tab (subD b xs ys) xs.length, bK b xs ys xs.length, 0) else (0, [], 0, 5)) else (0, [], 0, twoE b xs d ys)
def cplR (b : Int) (xs : List Int) : Int × List Int × Int := if okB b xs = true then finR b (tab (cplD b xs) xs.length) else (0, [], 1)
def carR (b : Int) (xs : List Int) (d : Int) (ys : List Int) : List Int × Int := if twoE b xs d ys = 0 then (tab (cK b xs ys) (xs.length + 1), 0) else ([], twoE b xs d ys)
def shR (b : Int) (xs : List Int) (m : Int) : Int × List Int × Int := if okB b xs = true then (if -16 ≤ m ∧ m ≤ 16 then finR b (tab (shD xs m) xs.length) else (0, [], 2)) else (0, [], 1)
def cmpR (b : Int) (xs : List Int) (d : Int) (ys : List Int) : Int × Int :=
  if twoE b xs d ys = 0 then (if valR b xs < valR d ys then -1 else if valR d ys < valR b xs then 1 else 0, 0) else (0, twoE b xs d ys)

theorem twoE_zero {b d : Int} {xs ys : List Int} (h : twoE b xs d ys = 0) : okB b xs = true ∧ okB d ys = true ∧ b = d ∧ xs.length = ys.length := by
  unfold twoE at h
  split at h
  · cases h
  · rename_i h1
    split at h
    · rename_i h2
      simp only [not_or, Bool.not_eq_false] at h1
      exact ⟨h1.1, h1.2, h2.1, h2.2⟩
    · cases h
theorem digit_of_ok {b : Int} {zs : List Int} (h : okB b zs = true) : ∀ k, k < zs.length → 0 ≤ nth zs k ∧ nth zs k < b := fun k hk => by
  rw [nth_get hk]; exact (okB_spec h).2.2.2.2.1 _ (List.getElem_mem hk)
end Go.Proofs.YtlahobdopmdfmaaGreatDoor

/- AccM -/
namespace Go.Proofs.YtlahobdopmdfmaaGreatDoor
open Go.RowKit

/-- Are there accumulators with a base and a width? -/
def fullB (B n : Int) : Bool := decide (2 ≤ B ∧ B ≤ 16 ∧ 1 ≤ n ∧ n ≤ 16 ∧ B ^ n.toNat - 1 ≤ 1000000000000)
theorem fullB_spec {B n : Int} (h : fullB B n = true) : 2 ≤ B ∧ B ≤ 16 ∧ 1 ≤ n ∧ n ≤ 16 ∧ B ^ n.toNat - 1 ≤ 1000000000000 := by simpa [fullB] using h
/-- How many registers there are. -/
def cntA (B n : Int) : Int := B ^ n.toNat
/-- The power, as far as the model looks. -/
def capW (B : Int) (k : Nat) : Int := min 1000000000002 (B ^ k)
theorem pow_pos' {B : Int} (h : 1 ≤ B) (k : Nat) : 1 ≤ B ^ k := Int.pow_pos (by omega)
theorem pow_succ_le {B : Int} (h : 2 ≤ B) (k : Nat) : 2 * B ^ k ≤ B ^ (k + 1) := by
  rw [Int.pow_succ, Int.mul_comm 2]
  exact Int.mul_le_mul_of_nonneg_left h (by have := pow_pos' (show 1 ≤ B by omega) k; omega)
theorem pow_mono' {B : Int} (h : 2 ≤ B) {j k : Nat} (hjk : j ≤ k) : B ^ j ≤ B ^ k := by
  induction k with
  | zero => obtain rfl : j = 0 := by omega
            exact Int.le_refl _
  | succ k ih =>
    by_cases e : j = k + 1
    · subst e; exact Int.le_refl _
    · have := ih (by omega)
      have h2 := pow_succ_le h k
      have h3 := pow_pos' (show 1 ≤ B by omega) k
      omega
theorem capW_zero (B : Int) : capW B 0 = 1 := by simp [capW]; omega
theorem capW_bd {B : Int} (h : 1 ≤ B) (k : Nat) : 1 ≤ capW B k ∧ capW B k ≤ 1000000000002 := by
  have := pow_pos' h k
  unfold capW; omega
theorem capW_succ {B : Int} (h : 1 ≤ B) (k : Nat) : min 1000000000002 (capW B k * B) = capW B (k + 1) := by
  unfold capW
  rw [Int.pow_succ]
  have hp := pow_pos' h k
  by_cases hc : B ^ k ≤ 1000000000002
  · rw [Int.min_eq_right hc]
  · have h1 : (1000000000002 : Int) * 1 ≤ 1000000000002 * B := Int.mul_le_mul_of_nonneg_left h (by omega)
    have h2 : B ^ k * 1 ≤ B ^ k * B := Int.mul_le_mul_of_nonneg_left h (by omega)
    rw [Int.min_eq_left (show (1000000000002 : Int) ≤ B ^ k by omega), Int.min_eq_left (by omega), Int.min_eq_left (by omega)]
theorem capW_full {B : Int} {k : Nat} (h : B ^ k - 1 ≤ 1000000000000) : capW B k = B ^ k := by unfold capW; omega
theorem capW_test {B : Int} {k : Nat} : (capW B k - 1 ≤ 1000000000000) ↔ (B ^ k - 1 ≤ 1000000000000) := by unfold capW; omega

/-- Is a number one of those of an accumulator? -/
def inA (N x : Int) : Bool := decide (-(N / 2) ≤ x ∧ x ≤ N - 1 + -(N / 2))
/-- The number that is shown for x. -/
def shn (N x : Int) : Int := if N - 1 + -(N / 2) < x % N then x % N - N else x % N
theorem shn_in {N : Int} (hN : 1 ≤ N) (x : Int) : -(N / 2) ≤ shn N x ∧ shn N x ≤ N - 1 + -(N / 2) := by
  have h1 := Int.emod_nonneg x (show N ≠ 0 by omega)
  have h2 := Int.emod_lt_of_pos x (show 0 < N by omega)
  have h3 := Int.emod_nonneg N (show (2 : Int) ≠ 0 by omega)
  unfold shn; split <;> omega
theorem shn_mod {N : Int} (_ : 1 ≤ N) (x : Int) : shn N x % N = x % N := by
  unfold shn; split
  · rw [Int.sub_emod, Int.emod_self, Int.sub_zero, Int.emod_emod_of_dvd _ (Int.dvd_refl _), Int.emod_emod_of_dvd _ (Int.dvd_refl _)]
  · exact Int.emod_emod_of_dvd _ (Int.dvd_refl _)
theorem shn_self {N : Int} (_ : 1 ≤ N) {x : Int} (h : -(N / 2) ≤ x ∧ x ≤ N - 1 + -(N / 2)) : shn N x = x := by
  have h3 := Int.emod_nonneg N (show (2 : Int) ≠ 0 by omega)
  unfold shn
  by_cases hx : 0 ≤ x
  · rw [Int.emod_eq_of_lt hx (by omega), if_neg (by omega)]
  · have e : x % N = x + N := by
      rw [← Int.add_emod_right x N]; exact Int.emod_eq_of_lt (by omega) (by omega)
    rw [e, if_pos (by omega)]; omega
theorem shn_eq {N : Int} (hN : 1 ≤ N) (x : Int) : shn N x = x ↔ inA N x = true := by
  constructor
  · intro h; rw [← h]; have := shn_in hN x; simpa [inA] using this
  · intro h; exact shn_self hN (by simpa [inA] using h)
theorem shn_congr {N x y : Int} (h : x % N = y % N) : shn N x = shn N y := by unfold shn; rw [h]
theorem shn_add {N : Int} (hN : 1 ≤ N) (x y : Int) : (shn N x + y) % N = (x + y) % N := by
  rw [Int.add_emod, shn_mod hN, ← Int.add_emod]

/-- What is left of a number behind its lowest digits. -/
theorem leftR_div {b : Int} (hb : 1 ≤ b) : ∀ (n : Nat) (v : Int), leftR b n v = v / b ^ n
  | 0, v => by simp [leftR]
  | n + 1, v => by
    rw [leftR, leftR_div hb n, Int.pow_succ, Int.mul_comm, Int.ediv_ediv_of_nonneg (by omega)]
theorem leftR_none {b : Int} (hb : 1 ≤ b) {n : Nat} {v : Int} (h0 : 0 ≤ v) (h : v < b ^ n) : leftR b n v = 0 := by
  rw [leftR_div hb, Int.ediv_eq_zero_of_lt h0 h]
theorem valR_digs {b : Int} (hb : 1 ≤ b) : ∀ (n : Nat) (v : Int), 0 ≤ v → v < b ^ n → valR b (digsR b n v) = v
  | 0, v, h0, h => by simp at h; simp [digsR, valR]; omega
  | n + 1, v, h0, h => by
    rw [digsR, valR, valR_digs hb n (v / b) (Int.ediv_nonneg h0 (by omega)) (by rw [Int.pow_succ] at h; exact Int.ediv_lt_of_lt_mul (by omega) h)]
    exact Int.emod_add_mul_ediv v b
theorem valR_lt {b : Int} (hb : 1 ≤ b) : ∀ {zs : List Int}, (∀ d ∈ zs, 0 ≤ d ∧ d < b) → 0 ≤ valR b zs ∧ valR b zs < b ^ zs.length
  | [], _ => by simp [valR]
  | d :: ds, h => by
    have hd := h d (by simp)
    have ih := valR_lt hb (zs := ds) fun x hx => h x (by simp [hx])
    simp only [valR, List.length_cons, Int.pow_succ]
    have h1 : 0 ≤ b * valR b ds := Int.mul_nonneg (by omega) ih.1
    have h2 : b * (valR b ds + 1) ≤ b * b ^ ds.length := Int.mul_le_mul_of_nonneg_left (by omega) (by omega)
    rw [Int.mul_add, Int.mul_comm b (b ^ ds.length)] at h2
    omega
theorem digsR_back {b : Int} (hb : 1 ≤ b) : ∀ {zs : List Int}, (∀ d ∈ zs, 0 ≤ d ∧ d < b) → digsR b zs.length (valR b zs) = zs
  | [], _ => rfl
  | d :: ds, h => by
    have hd := h d (by simp)
    have ih := digsR_back hb (zs := ds) fun x hx => h x (by simp [hx])
    have e1 : (d + b * valR b ds) % b = d := by rw [Int.add_mul_emod_self_left]; exact Int.emod_eq_of_lt hd.1 hd.2
    have e2 : (d + b * valR b ds) / b = valR b ds := by rw [Int.add_mul_ediv_left _ _ (by omega), Int.ediv_eq_zero_of_lt hd.1 hd.2, Int.zero_add]
    simp only [List.length_cons, digsR, valR, e1, e2, ih]

/-- Is a register an accumulator? -/
def accB (B : Int) (zs : List Int) : Bool := okB B zs && decide (B ^ zs.length - 1 ≤ 1000000000000)
theorem accB_spec {B : Int} {zs : List Int} (h : accB B zs = true) : okB B zs = true ∧ B ^ zs.length - 1 ≤ 1000000000000 := by simpa [accB] using h
theorem accB_full {B : Int} {zs : List Int} (h : accB B zs = true) : fullB B (zs.length : Int) = true := by
  obtain ⟨h1, h2⟩ := accB_spec h
  obtain ⟨b0, b1, n0, n1, _, _⟩ := okB_spec h1
  simp only [fullB, Int.toNat_natCast, decide_eq_true_eq]
  exact ⟨b0, b1, by omega, by omega, h2⟩
theorem full_accB {B : Int} {zs : List Int} (h1 : okB B zs = true) (h2 : fullB B (zs.length : Int) = true) : accB B zs = true := by
  have := (fullB_spec h2).2.2.2.2
  rw [Int.toNat_natCast] at this
  simp [accB, h1, this]
theorem accB_of_full {B : Int} {zs : List Int} (h1 : okB B zs = true) : accB B zs = fullB B (zs.length : Int) := by
  cases h2 : fullB B (zs.length : Int) with
  | true => exact full_accB h1 h2
  | false =>
    cases h : accB B zs with
    | false => rfl
    | true => rw [accB_full h] at h2; cases h2

/-- AccumulatorRange. -/
def rngA (B n : Int) : Int × Int × Int := if fullB B n = true then (-(cntA B n / 2), cntA B n - 1 + -(cntA B n / 2), 0) else (0, 0, 2)
/-- The register that shows a number. -/
def setA (B n x : Int) : List Int := digsR B n.toNat (x % cntA B n)
/-- SetAccumulator. -/
def setAR (B n x : Int) : Int × List Int × Int := if fullB B n = true then (if inA (cntA B n) x = true then (B, setA B n x, 0) else (0, [], 5)) else (0, [], 2)
/-- The number of an accumulator. -/
def numA (B : Int) (zs : List Int) : Int := shn (cntA B (zs.length : Int)) (valR B zs)
/-- NumberOf. -/
def numR (B : Int) (zs : List Int) : Int × Int := if accB B zs = true then (numA B zs, 0) else (0, 1)
/-- NegateAccumulator. -/
def negR (B : Int) (zs : List Int) : Int × List Int × Int := if accB B zs = true then setAR B (zs.length : Int) (-(numA B zs)) else (0, [], 1)
/-- WidenAccumulator. -/
def widR (B : Int) (zs : List Int) (n : Int) : Int × List Int × Int :=
  if accB B zs = true then (if (zs.length : Int) ≤ n ∧ n ≤ 16 then (if fullB B n = true then (B, setA B n (numA B zs), 0) else (0, [], 5)) else (0, [], 2)) else (0, [], 1)
/-- ClearTurns. -/
def clrD (B : Int) (zs : List Int) (k : Nat) : Int := (-(nth zs k)) % B
def clrR (B : Int) (zs : List Int) : List Int × Int := if okB B zs = true then (tab (clrD B zs) zs.length, 0) else ([], 1)
/-- Adding number after number: what is shown, where the bell rings. -/
def runA (N s : Int) (l : List Int) : Nat → Int × List Int
  | 0 => (s, [])
  | k + 1 => (shn N ((runA N s l k).1 + nth l k), (runA N s l k).2 ++ (if inA N ((runA N s l k).1 + nth l k) = true then [] else [(k : Int)]))
/-- Can all numbers be added? -/
def mostB (l : List Int) : Bool := decide (∀ x ∈ l, -1000000000000 ≤ x ∧ x ≤ 1000000000000)
/-- AccumulateAll. -/
def accR (B : Int) (zs l : List Int) : Int × List Int × List Int × Int :=
  if accB B zs = true then (if mostB l = true then (B, setA B (zs.length : Int) (runA (cntA B (zs.length : Int)) (numA B zs) l l.length).1, (runA (cntA B (zs.length : Int)) (numA B zs) l l.length).2, 0) else (0, [], [], 2)) else (0, [], [], 1)

theorem cntA_bd {B n : Int} (h : fullB B n = true) : 2 ≤ cntA B n ∧ cntA B n ≤ 1000000000001 := by
  obtain ⟨h1, h2, h3, h4, h5⟩ := fullB_spec h
  have := pow_mono' h1 (show 1 ≤ n.toNat by omega)
  rw [Int.pow_one] at this
  unfold cntA; omega
theorem cntA_len {B : Int} {zs : List Int} : cntA B (zs.length : Int) = B ^ zs.length := by simp [cntA]
theorem modA_bd {B n : Int} (h : fullB B n = true) (x : Int) : 0 ≤ x % cntA B n ∧ x % cntA B n < cntA B n := by
  have := cntA_bd h
  exact ⟨Int.emod_nonneg _ (by omega), Int.emod_lt_of_pos _ (by omega)⟩
/-- NewRegister makes the register that shows a number. -/
theorem nrR_set {B n : Int} (h : fullB B n = true) (x : Int) : nrR B n (x % cntA B n) = (B, setA B n x, 0) := by
  obtain ⟨h1, h2, h3, h4, h5⟩ := fullB_spec h
  have hm := modA_bd h x
  have hc := cntA_bd h
  obtain ⟨m, rfl⟩ := Int.eq_ofNat_of_zero_le (show 0 ≤ n by omega)
  rw [setA, Int.toNat_natCast]
  refine nrR_ok ⟨h1, h2, by omega, by omega, hm.1, by omega⟩ ?_
  rw [leftR_none (by omega) hm.1 (by simpa [cntA] using hm.2)]; omega
theorem setA_len {B n : Int} (x : Int) : (setA B n x).length = n.toNat := digsR_len _ _ _
theorem setA_val {B n : Int} (h : fullB B n = true) (x : Int) : valR B (setA B n x) = x % cntA B n := by
  have hm := modA_bd h x
  exact valR_digs (by have := (fullB_spec h).1; omega) _ _ hm.1 hm.2
theorem setA_congr {B n x y : Int} (h : x % cntA B n = y % cntA B n) : setA B n x = setA B n y := by unfold setA; rw [h]
theorem numA_set {B n : Int} (h : fullB B n = true) (x : Int) : numA B (setA B n x) = shn (cntA B n) x := by
  have hn := (fullB_spec h).2.2.1
  unfold numA
  rw [setA_len, setA_val h, show ((n.toNat : Nat) : Int) = n by omega]
  exact shn_congr (Int.emod_emod_of_dvd _ (Int.dvd_refl _))
/-- What is shown at first. -/
theorem setA_num {B : Int} {zs : List Int} (h : accB B zs = true) : setA B (zs.length : Int) (numA B zs) = zs := by
  have hf := accB_full h
  have hc := cntA_bd hf
  obtain ⟨b0, b1, n0, n1, hd, _⟩ := okB_spec (accB_spec h).1
  have hv := valR_lt (show 1 ≤ B by omega) hd
  unfold setA numA
  rw [shn_mod (by omega), Int.toNat_natCast, Int.emod_eq_of_lt hv.1 (by rw [cntA_len]; exact hv.2)]
  exact digsR_back (by omega) hd
theorem numA_in {B : Int} {zs : List Int} (h : accB B zs = true) : -(cntA B (zs.length : Int) / 2) ≤ numA B zs ∧ numA B zs ≤ cntA B (zs.length : Int) - 1 + -(cntA B (zs.length : Int) / 2) :=
  shn_in (by have := cntA_bd (accB_full h); omega) _
theorem runA_in {N s : Int} (hN : 1 ≤ N) (h : -(N / 2) ≤ s ∧ s ≤ N - 1 + -(N / 2)) (l : List Int) : ∀ k, -(N / 2) ≤ (runA N s l k).1 ∧ (runA N s l k).1 ≤ N - 1 + -(N / 2)
  | 0 => h
  | _ + 1 => shn_in hN _
theorem numA_if {B : Int} {zs : List Int} (h : accB B zs = true) : numA B zs = if inA (cntA B (zs.length : Int)) (valR B zs) = true then valR B zs else valR B zs - cntA B (zs.length : Int) := by
  have hf := accB_full h
  have hc := cntA_bd hf
  obtain ⟨b0, b1, n0, n1, hd, _⟩ := okB_spec (accB_spec h).1
  have hv := valR_lt (show 1 ≤ B by omega) hd
  rw [← cntA_len] at hv
  unfold numA shn inA
  rw [Int.emod_eq_of_lt hv.1 hv.2]
  simp only [decide_eq_true_eq]
  by_cases hh : cntA B (zs.length : Int) - 1 + -(cntA B (zs.length : Int) / 2) < valR B zs
  · rw [if_pos hh, if_neg (by omega)]
  · rw [if_neg hh, if_pos (by omega)]
theorem valR_acc {B : Int} {zs : List Int} (h : accB B zs = true) : 0 ≤ valR B zs ∧ valR B zs ≤ 1000000000000 := by
  obtain ⟨b0, b1, n0, n1, hd, hv⟩ := okB_spec (accB_spec h).1
  exact ⟨(valR_lt (show 1 ≤ B by omega) hd).1, hv⟩
end Go.Proofs.YtlahobdopmdfmaaGreatDoor

/- EqI -/
namespace Go.Proofs.YtlahobdopmdfmaaGreatDoor
open Go.RowKit

set_option maxHeartbeats 400000 in
theorem eqInt64S_any (a b : Option Addr) (c d : Nat) (xs ys : List Int) (w : World) (ha : Rd w a xs) (hb : Rd w b ys) :
    Calls Tryz.prog 78 #[.slice a xs.length c, .slice b ys.length d] w fun e w' => e = .returned (.bool (decide (xs = ys))) ∧ ∃ n, w' = w.drewN n := by
  have hx1 := ha.len
  have hy1 := hb.len
  by_cases hl : xs.length = ys.length
  · have ht : ((xs.length : Int) != (ys.length : Int)) = false := by simp [hl]
    have HL := Lib.hid hl
    clear hl
    go_enter Tryz.func78, Tryz.ntmps78
    go_wp2
    go_loopw [5] (fun i wr => ∃ k n : Nat, k ≤ xs.length ∧ i = .int .i64 k ∧ wr = w.drewN n ∧ Hid (xs.take k = ys.take k)) (fun i _ => xs.length - (intOf i).toNat)
    case atStart => exact ⟨0, 0, Nat.zero_le _, rfl, rfl, Lib.hid (by simp)⟩
    case round =>
      obtain ⟨k, n, hk, rfl, rfl, HT⟩ := hrel
      by_cases hlt : k < xs.length
      · have hlt' : k < ys.length := by rw [← HL.out]; exact hlt
        obtain ⟨b1, o1, rfl, hc1⟩ := ha.at_ hlt
        obtain ⟨b2, o2, rfl, hc2⟩ := hb.at_ hlt'
        by_cases he : nth xs k = nth ys k
        · have hbe : (nth xs k != nth ys k) = false := by simp [he]
          have HE := Lib.hid he
          clear he
          go_wp2
          go_quiet (fail)
          go_wp2
          go_roundw
          case rel => exact ⟨k + 1, _, by omega, by go_num, rfl, Lib.hid (take_eq_snoc hlt HL.out HT.out HE.out)⟩
          case measure => simp [intOf]; omega
        · have hbe : (nth xs k != nth ys k) = true := by simp [he]
          have HE := Lib.hid he
          clear he
          go_wp2
          go_quiet (fail)
          go_wp2
          go_ret
          exact ⟨ret_bool (by simp [ne_of_at HE.out]), _, drewN_drewN _ _ _⟩
      · obtain rfl : k = xs.length := by omega
        go_wp2
        go_ret
        exact ⟨ret_bool (by simp [take_all_eq HL.out HT.out]), _, rfl⟩
  · have ht : ((xs.length : Int) != (ys.length : Int)) = true := by simp; omega
    have HL := Lib.hid hl
    clear hl
    go_enter Tryz.func78, Tryz.ntmps78
    go_wp2
    go_ret
    exact ⟨ret_bool (by rw [decide_eq_false]; rintro rfl; exact HL.out rfl), 0, rfl⟩
end Go.Proofs.YtlahobdopmdfmaaGreatDoor

/- ToReg -/
namespace Go.Proofs.YtlahobdopmdfmaaGreatDoor
open Go.RowKit

end Go.Proofs.YtlahobdopmdfmaaGreatDoor

/- MarkI -/
namespace Go.Proofs.YtlahobdopmdfmaaGreatDoor
open Go.RowKit

set_option maxHeartbeats 400000 in
theorem markInt64S_any (t : TypeId) (lo hi : Nat) (A : Option Addr) (C : Nat) (k : Int) (zs : List Int) (w : World) (ho : Own t w lo hi (.slice A zs.length C) zs) (h0 : 0 ≤ k) (h1 : k ≤ 1000000000000) :
    Calls Tryz.prog 79 #[.slice A zs.length C, .int .i64 k] w fun e w' => e = .returned (.int .i64 (k + zs.length)) ∧
      Own t w' lo hi (.slice A zs.length C) (seqI k zs.length) ∧ Touch lo hi w w' := by
  have hx1 := ho.len
  go_enter Tryz.func79, Tryz.ntmps79
  go_wp2
  go_loopw [1, 5] (fun q i wr => ∃ j : Nat, j ≤ zs.length ∧ i = .int .i64 j ∧ q = .int .i64 (k + (j : Int)) ∧ wr.ownsRow lo t 1 (.slice A zs.length C) zs.length ((mrk zs k j).map (Value.int .i64)) ∧ Touch lo hi w wr) (fun _ i _ => zs.length - (intOf i).toNat)
  case atStart => exact ⟨0, Nat.zero_le _, rfl, by go_num, by rw [mrk_zero]; exact ho.row, Touch.refl _ _ _⟩
  case round =>
    obtain ⟨j, hj, rfl, rfl, hown, htou⟩ := hrel
    by_cases hlt : j < zs.length
    · rcases hown.2 with ⟨_, hn⟩ | ⟨g, cap, cur, hv, hg, _⟩
      · exact absurd hn (by omega)
      · have hA : A = some ⟨g, 0, none⟩ := by injection hv
        subst hA
        have hgh : g < hi := ho.top g rfl
        have hcell : wr.cell? ⟨g, j, none⟩ = some (.int .i64 (nth (mrk zs k j) j)) := by
          rw [hown.cellAt j (by omega), List.getElem?_map, List.getElem?_eq_getElem (by rw [mrk_len hj]; exact hlt), nth_get (by rw [mrk_len hj]; exact hlt)]; rfl
        have hfr := hown.frozenAt j
        have hst := hown.stored j (.int .i64 (k + (j : Int)))
        rw [← List.map_set, mrk_set hlt] at hst
        have HST := Lib.hid hst
        clear hst hv
        go_wp2
        go_roundw
        case rel => exact ⟨j + 1, by omega, by go_num, by go_num, HST.out.1, htou.setCell hg hgh _⟩
        case measure => simp [intOf]; omega
    · obtain rfl : j = zs.length := by omega
      rw [mrk_all] at hown
      go_wp2
      go_ret
      exact ⟨rfl, ⟨by rw [seqI_len]; exact hown, ho.top, by rw [seqI_len]; exact hx1⟩, htou⟩

set_option maxHeartbeats 400000 in
theorem heldInt64S_any (A : Option Addr) (C : Nat) (k : Int) (n : Nat) (w : World) (ha : Rd w A (seqI k n)) (h0 : 0 ≤ k) (h1 : k ≤ 1000000000000) :
    Calls Tryz.prog 80 #[.slice A n C, .int .i64 k] w fun e w' => e = .returned (.int .i64 (k + n)) ∧ w = w' := by
  have hx := ha.len
  rw [seqI_len] at hx
  go_enter Tryz.func80, Tryz.ntmps80
  go_wp2
  go_loop [1, 5] (fun q i => ∃ j : Nat, j ≤ n ∧ i = .int .i64 j ∧ q = .int .i64 (k + (j : Int))) (fun _ i => n - (intOf i).toNat)
  case atStart => exact ⟨0, Nat.zero_le _, rfl, by go_num⟩
  case round =>
    obtain ⟨j, hj, rfl, rfl⟩ := hrel
    by_cases hlt : j < n
    · obtain ⟨b, off, rfl, hc⟩ := ha.at_ (k := j) (by rw [seqI_len]; exact hlt)
      rw [seqI_at hlt] at hc
      have hbe : (k + (j : Int) != k + (j : Int)) = false := by simp
      go_wp2
      go_round
      case rel => exact ⟨j + 1, by omega, by go_num, by go_num⟩
      case measure => simp [intOf]; omega
    · obtain rfl : j = n := by omega
      go_wp2
      go_ret
      exact ⟨rfl, rfl⟩
end Go.Proofs.YtlahobdopmdfmaaGreatDoor

/- Reg -/
namespace Go.Proofs.YtlahobdopmdfmaaGreatDoor
open Go.RowKit

set_option maxHeartbeats 400000 in
theorem eqRegister_any (B D : Int) (a b : Option Addr) (c d : Nat) (xs ys : List Int) (w : World) (ha : Rd w a xs) (hb : Rd w b ys) :
    Calls Tryz.prog 39 #[.agg #[.int .i64 B, .slice a xs.length c], .agg #[.int .i64 D, .slice b ys.length d]] w fun e w' =>
      e = .returned (.bool (regEqB B D xs ys)) ∧ Below w.heap.size w w' := by
  by_cases h : B = D
  · have hbe : (B != D) = false := by simp [h]
    have H := Lib.hid h
    clear h
    have hbel : Below w.heap.size w ((w.alloc (.cells #[.int .i64 B, .slice a xs.length c] 26)).alloc (.cells #[.int .i64 D, .slice b ys.length d] 26)) :=
      ((Below.refl _ _).alloc (Nat.le_refl _) _).alloc (by simp) _
    go_enter Tryz.func39, Tryz.ntmps39
    go_wp2_with fail
    refine (eqInt64S_any a b c d xs ys _ (ha.below hbel) (hb.below hbel)).mono ?_
    rintro e w1 ⟨rfl, n, rfl⟩
    by_cases he : xs = ys
    · have hd : decide (xs = ys) = true := by simp [he]
      have HE := Lib.hid he
      clear he
      go_wp2
      go_ret
      exact ⟨ret_bool (by simp [regEqB, H.out, HE.out]), bel_drewN hbel _⟩
    · have hd : decide (xs = ys) = false := by simp [he]
      have HE := Lib.hid he
      clear he
      go_wp2
      go_ret
      exact ⟨ret_bool (by simp [regEqB, HE.out]), bel_drewN hbel _⟩
  · have hbe : (B != D) = true := by simp [h]
    have H := Lib.hid h
    clear h
    go_enter Tryz.func39, Tryz.ntmps39
    go_wp2
    go_ret
    exact ⟨ret_bool (by simp [regEqB, H.out]), ((Below.refl _ _).alloc (Nat.le_refl _) _).alloc (by simp) _⟩

set_option maxHeartbeats 400000 in
theorem markRegister_any (t : TypeId) (lo hi : Nat) (B : Int) (A : Option Addr) (C : Nat) (k : Int) (zs : List Int) (w : World) (ho : Own t w lo hi (.slice A zs.length C) zs) (h0 : 0 ≤ k) (h1 : k ≤ 1000000000000) :
    Calls Tryz.prog 40 #[.agg #[.int .i64 B, .slice A zs.length C], .int .i64 k] w fun e w' => e = .returned (.int .i64 (k + zs.length)) ∧
      Own t w' lo hi (.slice A zs.length C) (seqI k zs.length) ∧ Touch lo hi w w' := by
  go_enter Tryz.func40, Tryz.ntmps40
  go_wp2_with fail
  refine (markInt64S_any t lo hi A C k zs _ (ho.alloc _) h0 h1).mono ?_
  rintro e w1 ⟨rfl, ho1, ht1⟩
  go_wp2
  go_ret
  exact ⟨rfl, ho1, ((Touch.refl _ _ _).alloc _).trans ht1⟩

set_option maxHeartbeats 400000 in
theorem heldRegister_any (B : Int) (A : Option Addr) (C : Nat) (k : Int) (n : Nat) (w : World) (ha : Rd w A (seqI k n)) (h0 : 0 ≤ k) (h1 : k ≤ 1000000000000) :
    Calls Tryz.prog 41 #[.agg #[.int .i64 B, .slice A n C], .int .i64 k] w fun e w' => e = .returned (.int .i64 (k + n)) ∧ Below w.heap.size w w' := by
  have hbel : Below w.heap.size w (w.alloc (.cells #[.int .i64 B, .slice A n C] 26)) := (Below.refl _ _).alloc (Nat.le_refl _) _
  go_enter Tryz.func41, Tryz.ntmps41
  go_wp2_with fail
  refine (heldInt64S_any A C k n _ (ha.below hbel) h0 h1).mono ?_
  rintro e w1 ⟨rfl, rfl⟩
  go_wp2
  go_ret
  exact ⟨rfl, hbel⟩
end Go.Proofs.YtlahobdopmdfmaaGreatDoor

/- SameI -/
namespace Go.Proofs.YtlahobdopmdfmaaGreatDoor
open Go.RowKit

set_option maxHeartbeats 400000 in
theorem l00Same_any (a b : Option Addr) (c d : Nat) (xs ys : List Int) (w : World) (ha : Rd w a xs) (hb : Rd w b ys) :
    Calls Tryz.prog 112 #[.slice a xs.length c, .slice b ys.length d] w fun e w' => e = .returned (.bool (decide (xs = ys))) ∧ ∃ n, w' = w.drewN n := by
  have hx1 := ha.len
  have hy1 := hb.len
  by_cases hl : xs.length = ys.length
  · have ht : ((xs.length : Int) != (ys.length : Int)) = false := by simp [hl]
    have HL := Lib.hid hl
    clear hl
    go_enter Tryz.func112, Tryz.ntmps112
    go_wp2
    go_loopw [5] (fun i wr => ∃ k n : Nat, k ≤ xs.length ∧ i = .int .i64 k ∧ wr = w.drewN n ∧ Hid (xs.take k = ys.take k)) (fun i _ => xs.length - (intOf i).toNat)
    case atStart => exact ⟨0, 0, Nat.zero_le _, rfl, rfl, Lib.hid (by simp)⟩
    case round =>
      obtain ⟨k, n, hk, rfl, rfl, HT⟩ := hrel
      by_cases hlt : k < xs.length
      · have hlt' : k < ys.length := by rw [← HL.out]; exact hlt
        obtain ⟨b1, o1, rfl, hc1⟩ := ha.at_ hlt
        obtain ⟨b2, o2, rfl, hc2⟩ := hb.at_ hlt'
        by_cases he : nth xs k = nth ys k
        · have hbe : (nth xs k != nth ys k) = false := by simp [he]
          have HE := Lib.hid he
          clear he
          go_wp2
          go_quiet (fail)
          go_wp2
          go_roundw
          case rel => exact ⟨k + 1, _, by omega, by go_num, rfl, Lib.hid (take_eq_snoc hlt HL.out HT.out HE.out)⟩
          case measure => simp [intOf]; omega
        · have hbe : (nth xs k != nth ys k) = true := by simp [he]
          have HE := Lib.hid he
          clear he
          go_wp2
          go_quiet (fail)
          go_wp2
          go_ret
          exact ⟨ret_bool (by simp [ne_of_at HE.out]), _, drewN_drewN _ _ _⟩
      · obtain rfl : k = xs.length := by omega
        go_wp2
        go_ret
        exact ⟨ret_bool (by simp [take_all_eq HL.out HT.out]), _, rfl⟩
  · have ht : ((xs.length : Int) != (ys.length : Int)) = true := by simp; omega
    have HL := Lib.hid hl
    clear hl
    go_enter Tryz.func112, Tryz.ntmps112
    go_wp2
    go_ret
    exact ⟨ret_bool (by rw [decide_eq_false]; rintro rfl; exact HL.out rfl), 0, rfl⟩
end Go.Proofs.YtlahobdopmdfmaaGreatDoor

/- SliEq -/
namespace Go.Proofs.YtlahobdopmdfmaaGreatDoor
open Go.RowKit

end Go.Proofs.YtlahobdopmdfmaaGreatDoor

/- SameReg -/
namespace Go.Proofs.YtlahobdopmdfmaaGreatDoor
open Go.RowKit

set_option maxHeartbeats 400000 in
theorem l02Same_any (p q : Nat) (B D : Int) (a b : Option Addr) (c d : Nat) (xs ys : List Int) (w : World) (ha : Rd w a xs) (hb : Rd w b ys)
    (hp0 : w.cell? ⟨p, 0, none⟩ = some (.int .i64 B)) (hp1 : w.cell? ⟨p, 1, none⟩ = some (.slice a xs.length c)) (hq0 : w.cell? ⟨q, 0, none⟩ = some (.int .i64 D)) (hq1 : w.cell? ⟨q, 1, none⟩ = some (.slice b ys.length d)) :
    Calls Tryz.prog 73 #[.pointer (some ⟨p, 0, none⟩), .pointer (some ⟨q, 0, none⟩)] w fun e w' => e = .returned (.bool (regEqB B D xs ys)) ∧ ∃ n, w' = w.drewN n := by
  by_cases h : B = D
  · have hbe : (B == D) = true := by simp [h]
    have H := Lib.hid h
    clear h
    go_enter Tryz.func73, Tryz.ntmps73
    go_wp2
    go_quiet ((go_at_call 112; exact Calls.quiet_of (l00Same_any _ _ _ _ _ _ _ (ha.drewN _) (hb.drewN _))))
    go_wp2
    go_ret
    exact ⟨ret_bool (by simp [regEqB, H.out]), _, rfl⟩
  · have hbe : (B == D) = false := by simp [h]
    have H := Lib.hid h
    clear h
    go_enter Tryz.func73, Tryz.ntmps73
    go_wp2
    go_quiet (fail)
    go_wp2
    go_ret
    exact ⟨ret_bool (by simp [regEqB, H.out]), _, rfl⟩

end Go.Proofs.YtlahobdopmdfmaaGreatDoor

/- FrameI -/
namespace Go.Proofs.YtlahobdopmdfmaaGreatDoor
open Go.ChangeShapes Go.WideShapes Go.ChangeAt Go.RowKit Go.Joins
open Go.ChangeMaps (open_string shut_string)

theorem cells_int64 : Tryz.prog.cellsOf 2 = 1 := by kernel_rfl

section
variable {H : Type} {enc : TypeId × Value → H} {W : World} {base : Nat} {v : Value} {d : DataW H} {p : List MemPlace}

theorem raw_of_trod {fuel : Nat} {v : Value} {y : DataW H × List MemPlace} (hf : DataW.trod enc Tryz.prog W 0 (fun _ => true) true fuel 24 [v] = some y) :
    ∃ A C Z, v = .slice A (List.length Z) C ∧ Raw W A Z := by
  rcases open_ints Tryz.underlying24 Tryz.underlying2 cells_int64 hf with ⟨hcs, _⟩ | ⟨a, l, c, zs, hcs, _, hl, hm, hz, _, hcell, hwz⟩
  · simp at hcs
    subst hcs
    exact ⟨none, 0, [], rfl, by simp, by intro z hz; simp at hz, fun h => absurd rfl h⟩
  · simp at hcs
    subst hcs
    simp at hz
    have hlen : (zs.take l).length = l := by rw [List.length_take]; omega
    refine ⟨some a, c, zs.take l, by rw [hlen], by rw [hlen]; unfold maxLen at hm; omega, fun z hz' => hwz z (List.mem_of_mem_take hz'), fun hne => ?_⟩
    have hpos : 0 < l := by
      rcases Nat.eq_zero_or_pos l with h | h
      · subst h; simp at hne
      · exact h
    have hc0 := hcell 0 (by omega)
    obtain ⟨b, off, spot⟩ := a
    have hspot : spot = none := by simpa [Addr.add] using World.cell?_spot hc0
    subst hspot
    refine ⟨b, off, rfl, fun i hi => ?_⟩
    rw [hlen] at hi
    have h := hcell i (by omega)
    have e : nth (zs.take l) i = zs.getD i 0 := by
      rw [nth_get (by rw [hlen]; exact hi)]
      simp [List.getElem_take, List.getD_eq_getElem?_getD, List.getElem?_eq_getElem (show i < zs.length by omega)]
    rw [e, ← h]
    by_cases h0 : i = 0
    · subst h0; rfl
    · simp [Addr.add, h0]

set_option maxRecDepth 100000 in
theorem open_Int64S (hval : Value.okWide Tryz.prog W .any base 24 v) (h : DataW.Trod enc Tryz.prog W 0 (fun _ => true) true 24 v d p) :
    ∃ A C Z, v = .slice A (List.length Z) C ∧ Raw W A Z := by
  obtain ⟨a0, len, cap, rfl⟩ := okWide_slice Tryz.underlying24 hval
  obtain ⟨fuel, hf⟩ := h
  exact raw_of_trod (by simpa [Value.cells] using hf)
end
end Go.Proofs.YtlahobdopmdfmaaGreatDoor

/- Frame -/
namespace Go.Proofs.YtlahobdopmdfmaaGreatDoor
open Go.ChangeShapes Go.WideShapes Go.ChangeAt Go.RowKit Go.Joins
open Go.ChangeMaps (open_string shut_string)

section
variable {H : Type} {enc : TypeId × Value → H} {W : World} {base : Nat} {v : Value} {d : DataW H} {p : List MemPlace}

end
end Go.Proofs.YtlahobdopmdfmaaGreatDoor

/- CirI -/
namespace Go.Proofs.YtlahobdopmdfmaaGreatDoor
open Go.RowKit

theorem baseB_iff9 (B : Int) : baseB B = true ↔ 2 ≤ B ∧ B ≤ 16 := by simp [baseB]
theorem isBase9 (b : Int) (w : World) : Calls Tryz.prog 98 #[.int .i64 b] w fun e w' => e = .returned (.bool (baseB b)) ∧ w' = w := by
  by_cases h : 2 ≤ b
  · by_cases h2 : b ≤ 16
    · have H := Lib.hid ((baseB_iff9 b).2 ⟨h, h2⟩)
      go_enter Tryz.func98, Tryz.ntmps98
      go_wp2
      go_ret
      exact ⟨ret_bool H.out.symm, rfl⟩
    · have H := Lib.hid (show baseB b = false by cases e : baseB b with | false => rfl | true => exact absurd ((baseB_iff9 b).1 e).2 h2)
      go_enter Tryz.func98, Tryz.ntmps98
      go_wp2
      go_ret
      exact ⟨ret_bool H.out.symm, rfl⟩
  · have H := Lib.hid (show baseB b = false by cases e : baseB b with | false => rfl | true => exact absurd ((baseB_iff9 b).1 e).1 h)
    go_enter Tryz.func98, Tryz.ntmps98
    go_wp2
    go_ret
    exact ⟨ret_bool H.out.symm, rfl⟩

set_option maxHeartbeats 1000000 in
theorem isWidth9 (n : Int) (w : World) : Calls Tryz.prog 99 #[.int .i64 n] w fun e w' => e = .returned (.bool (inB n 1 16)) ∧ w' = w := by
  cases h : inB n 1 16 with
  | true =>
    obtain ⟨h1, h2⟩ := inB_true h
    have d1 : decide (n ≥ 1) = true := decide_eq_true h1
    have d2 : decide (n ≤ 16) = true := decide_eq_true h2
    clear h
    go_enter Tryz.func99, Tryz.ntmps99
    go_wp2
    go_ret
    exact ⟨rfl, rfl⟩
  | false =>
    have hh := inB_false h
    clear h
    rcases Int.lt_or_le n 1 with h1 | h1
    · have d1 : decide (n ≥ 1) = false := decide_eq_false (by omega)
      have h1' : ¬ 1 ≤ n := by omega
      clear hh h1
      go_enter Tryz.func99, Tryz.ntmps99
      go_wp2
      go_ret
      exact ⟨rfl, rfl⟩
    · have d1 : decide (n ≥ 1) = true := decide_eq_true h1
      have d2 : decide (n ≤ 16) = false := decide_eq_false (by omega)
      have h2 : ¬ n ≤ 16 := by omega
      clear hh
      go_enter Tryz.func99, Tryz.ntmps99
      go_wp2
      go_ret
      exact ⟨rfl, rfl⟩

theorem mod_twice {n c : Int} (hc : 1 ≤ c) : -c < n.tmod c ∧ n.tmod c < c ∧ (n.tmod c + c).tmod c = n % c := by
  have h1 : n.tmod c < c := Int.tmod_lt_of_pos _ (by omega)
  have h2 : -c < n.tmod c := by
    have := Int.tmod_lt_of_pos (-n) (show 0 < c by omega)
    rw [Int.neg_tmod] at this; omega
  refine ⟨h2, h1, ?_⟩
  rw [Int.tmod_eq_emod_of_nonneg (by omega), Int.add_emod_right]
  have e := Int.mul_tdiv_add_tmod n c
  conv => rhs; rw [← e, Int.add_comm, Int.add_mul_emod_self_left]

set_option maxHeartbeats 1000000 in
theorem modulo_any (n c : Int) (w : World) (h1 : 1 ≤ c) (h2 : c ≤ 1000000000001) :
    Calls Tryz.prog 145 #[.int .i64 n, .int .i64 c] w fun e w' => e = .returned (.int .i64 (n % c)) ∧ w' = w := by
  obtain ⟨m1, m2, m3⟩ := mod_twice (n := n) h1
  have hq1 := Int.emod_nonneg n (show c ≠ 0 by omega)
  have hq2 := Int.emod_lt_of_pos n (show 0 < c by omega)
  obtain ⟨q, hq⟩ : ∃ q, q = n % c := ⟨_, rfl⟩
  obtain ⟨r, hr⟩ : ∃ r, n.tmod c = r := ⟨_, rfl⟩
  rw [hr] at m1 m2 m3
  rw [← hq] at m3 hq1 hq2 ⊢
  have hc0 : ¬ c = 0 := by omega
  have hw1 : IntKind.i64.wrap (r + c) = r + c := IntWalk.i64_in _ (by omega)
  have hw2 : wrap64 (r + c) = r + c := by unfold wrap64; omega
  clear hq
  go_enter Tryz.func145, Tryz.ntmps145
  go_wp2
  go_ret
  exact ⟨rfl, rfl⟩

set_option maxHeartbeats 4000000 in
set_option maxRecDepth 100000 in
theorem circle_no (B n : Int) (w : World) (h : fullB B n = false) :
    Calls Tryz.prog 125 #[.int .i64 B, .int .i64 n] w fun e w' => e = .returned (.tuple #[.agg #[.int .i64 0, .int .i64 0, .int .i64 0], .bool false]) ∧ Below w.heap.size w w' := by
  obtain ⟨u, hu⟩ : ∃ u, u = w.alloc (.cells #[.int .i64 0, .int .i64 0, .int .i64 0] 135) := ⟨_, rfl⟩
  have bx : Bx u w.heap.size 135 #[.int .i64 0, .int .i64 0, .int .i64 0] := by rw [hu]; exact Bx.new _ _ _
  have hbel : Below w.heap.size w u := by rw [hu]; exact (by repeat (first | exact Below.refl _ _ | refine Below.setCell ?_ (by first | omega | (simp <;> omega)) _ | refine Below.alloc ?_ (by first | omega | (simp <;> omega)) _ | refine Below.drew ?_))
  have hsz := bx.lt
  have HU := Lib.hid hu
  clear hu
  have HB := Lib.hid (isBase9 B)
  have HW := Lib.hid (isWidth9 n)
  cases hb : baseB B with
  | false =>
    rw [hb] at HB
    have c0 := bx.at_ 0 rfl
    have c1 := bx.at_ 1 rfl
    have c2 := bx.at_ 2 rfl
    have f0 := bx.thaw 0
    have f1 := bx.thaw 1
    have f2 := bx.thaw 2
    clear hb h
    go_enter Tryz.func125, Tryz.ntmps125
    go_wp2_with fail
    rw [← HU.out]
    refine (HB.out u).mono ?_
    rintro e w1 ⟨rfl, hw⟩
    subst w1
    go_wp2
    exact bodyPost_ret (v := .tuple #[.agg #[.int .i64 0, .int .i64 0, .int .i64 0], .bool false]) (by simp [results, Tryz.results125, go_sem, c0, c1, c2]) rfl ⟨rfl, (by repeat (first | with_reducible exact hbel | with_reducible refine Below.setCell ?_ (by first | omega | (simp <;> omega)) _ | with_reducible refine Below.alloc ?_ (by first | omega | (simp <;> omega)) _ | with_reducible refine Below.drew ?_))⟩
  | true =>
    rw [hb] at HB
    obtain ⟨h1, h2⟩ := baseB_true hb
    clear hb
    cases hn : inB n 1 16 with
    | false =>
      rw [hn] at HW
      have c0 := bx.at_ 0 rfl
      have c1 := bx.at_ 1 rfl
      have c2 := bx.at_ 2 rfl
      have f0 := bx.thaw 0
      have f1 := bx.thaw 1
      have f2 := bx.thaw 2
      clear hn h
      go_enter Tryz.func125, Tryz.ntmps125
      go_wp2_with fail
      rw [← HU.out]
      refine (HB.out u).mono ?_
      rintro e w1 ⟨rfl, hw⟩
      subst w1
      go_wp2_with fail
      refine (HW.out _).mono ?_
      rintro e w1 ⟨rfl, hw⟩
      subst w1
      go_wp2
      exact bodyPost_ret (v := .tuple #[.agg #[.int .i64 0, .int .i64 0, .int .i64 0], .bool false]) (by simp [results, Tryz.results125, go_sem, c0, c1, c2]) rfl ⟨rfl, (by repeat (first | with_reducible exact hbel | with_reducible refine Below.setCell ?_ (by first | omega | (simp <;> omega)) _ | with_reducible refine Below.alloc ?_ (by first | omega | (simp <;> omega)) _ | with_reducible refine Below.drew ?_))⟩
    | true =>
      rw [hn] at HW
      obtain ⟨n1, n2⟩ := inB_true hn
      obtain ⟨m, rfl⟩ := Int.eq_ofNat_of_zero_le (show 0 ≤ n by omega)
      have hbig : 1000000000000 < B ^ m - 1 := by
        simp only [fullB, Int.toNat_natCast, decide_eq_false_iff_not] at h
        have : ¬ (B ^ m - 1 ≤ 1000000000000) := fun hh => h ⟨h1, h2, n1, n2, hh⟩
        omega
      have HG := Lib.hid hbig
      clear hn h hbig
      go_enter Tryz.func125, Tryz.ntmps125
      go_wp2_with fail
      rw [← HU.out]
      refine (HB.out u).mono ?_
      rintro e w1 ⟨rfl, hw⟩
      subst w1
      go_wp2_with fail
      refine (HW.out _).mono ?_
      rintro e w1 ⟨rfl, hw⟩
      subst w1
      go_wp2_with fail
      go_loopw [6, 17] (fun c i wr => ∃ (k : Nat) (x : Int), k ≤ m ∧ i = .int .i64 k ∧ c = .int .i64 x ∧ Hid (x = B ^ k) ∧ 1 ≤ x ∧ x ≤ 1000000000001 ∧ wr = u) (fun _ i _ => m - (intOf i).toNat)
      case atStart => exact ⟨0, 1, Nat.zero_le _, rfl, rfl, Lib.hid (by simp), by omega, by omega, rfl⟩
      case round =>
        obtain ⟨k, x, hk, rfl, rfl, HX, x1, x2, hw⟩ := hrel
        subst wr
        by_cases hlt : k < m
        · have hm0 : x * B ≤ 1000000000001 * 16 := Int.mul_le_mul x2 h2 (by omega) (by omega)
          have hm1 : x * 1 ≤ x * B := Int.mul_le_mul_of_nonneg_left (by omega) (by omega)
          obtain ⟨q, hq⟩ : ∃ q, q = x * B := ⟨_, rfl⟩
          have HQ := Lib.hid (show q = B ^ (k + 1) by rw [hq, HX.out, Int.pow_succ])
          rw [← hq] at hm0 hm1
          have hw1 : IntKind.i64.wrap (x * B) = q := by rw [← hq]; exact IntWalk.i64_in _ (by omega)
          have hw2 : wrap64 (x * B) = q := by rw [← hq]; unfold wrap64; omega
          clear hq
          by_cases hb2 : 1000000000000 < q - 1
          · have c0 := bx.at_ 0 rfl
            have c1 := bx.at_ 1 rfl
            have c2 := bx.at_ 2 rfl
            have f0 := bx.thaw 0
            have f1 := bx.thaw 1
            have f2 := bx.thaw 2
            go_wp2
            exact bodyPost_ret (v := .tuple #[.agg #[.int .i64 0, .int .i64 0, .int .i64 0], .bool false]) (by simp [results, Tryz.results125, go_sem, c0, c1, c2]) rfl ⟨rfl, (by repeat (first | with_reducible exact hbel | with_reducible refine Below.setCell ?_ (by first | omega | (simp <;> omega)) _ | with_reducible refine Below.alloc ?_ (by first | omega | (simp <;> omega)) _ | with_reducible refine Below.drew ?_))⟩
          · go_wp2
            go_roundw
            case rel => exact ⟨k + 1, q, by omega, by go_num, rfl, HQ, by omega, by omega, by simp⟩
            case measure => simp [intOf]; omega
        · exfalso
          have hm : k = m := by omega
          subst hm
          have e1 := HX.out
          have e2 := HG.out
          omega

set_option maxHeartbeats 4000000 in
set_option maxRecDepth 100000 in
theorem circle_ok (B n : Int) (w : World) (h : fullB B n = true) :
    Calls Tryz.prog 125 #[.int .i64 B, .int .i64 n] w fun e w' => e = .returned (.tuple #[.agg #[.int .i64 B, .int .i64 n, .int .i64 (cntA B n)], .bool true]) ∧ Below w.heap.size w w' := by
  obtain ⟨u, hu⟩ : ∃ u, u = w.alloc (.cells #[.int .i64 0, .int .i64 0, .int .i64 0] 135) := ⟨_, rfl⟩
  have bx : Bx u w.heap.size 135 #[.int .i64 0, .int .i64 0, .int .i64 0] := by rw [hu]; exact Bx.new _ _ _
  have hbel : Below w.heap.size w u := by rw [hu]; exact (by repeat (first | exact Below.refl _ _ | refine Below.setCell ?_ (by first | omega | (simp <;> omega)) _ | refine Below.alloc ?_ (by first | omega | (simp <;> omega)) _ | refine Below.drew ?_))
  have hsz := bx.lt
  have HU := Lib.hid hu
  clear hu
  obtain ⟨h1, h2, n1, n2, h5⟩ := fullB_spec h
  have HB := Lib.hid (isBase9 B)
  have HW := Lib.hid (isWidth9 n)
  rw [show baseB B = true by simp [baseB, h1, h2]] at HB
  rw [inB_yes n1 n2] at HW
  obtain ⟨m, rfl⟩ := Int.eq_ofNat_of_zero_le (show 0 ≤ n by omega)
  have HC := Lib.hid (show cntA B (m : Int) = B ^ m by simp [cntA])
  have HP := Lib.hid (fun k (hk : k ≤ m) => show B ^ k ≤ 1000000000001 by
    have := pow_mono' h1 hk
    rw [Int.toNat_natCast] at h5
    omega)
  clear h h5
  go_enter Tryz.func125, Tryz.ntmps125
  go_wp2_with fail
  rw [← HU.out]
  refine (HB.out u).mono ?_
  rintro e w1 ⟨rfl, hw⟩
  subst w1
  go_wp2_with fail
  refine (HW.out _).mono ?_
  rintro e w1 ⟨rfl, hw⟩
  subst w1
  go_wp2_with fail
  go_loopw [6, 17] (fun c i wr => ∃ (k : Nat) (x : Int), k ≤ m ∧ i = .int .i64 k ∧ c = .int .i64 x ∧ Hid (x = B ^ k) ∧ 1 ≤ x ∧ x ≤ 1000000000001 ∧ wr = u) (fun _ i _ => m - (intOf i).toNat)
  case atStart => exact ⟨0, 1, Nat.zero_le _, rfl, rfl, Lib.hid (by simp), by omega, by omega, rfl⟩
  case round =>
    obtain ⟨k, x, hk, rfl, rfl, HX, x1, x2, hw⟩ := hrel
    subst wr
    by_cases hlt : k < m
    · have hm1 : x * 1 ≤ x * B := Int.mul_le_mul_of_nonneg_left (by omega) (by omega)
      obtain ⟨q, hq⟩ : ∃ q, q = x * B := ⟨_, rfl⟩
      have hQ : q = B ^ (k + 1) := by rw [hq, HX.out, Int.pow_succ]
      have hm0 : q ≤ 1000000000001 := by rw [hQ]; exact HP.out _ (by omega)
      have HQ := Lib.hid hQ
      rw [← hq] at hm1
      have hw1 : IntKind.i64.wrap (x * B) = q := by rw [← hq]; exact IntWalk.i64_in _ (by omega)
      have hw2 : wrap64 (x * B) = q := by rw [← hq]; unfold wrap64; omega
      clear hq hQ
      go_wp2
      go_roundw
      case rel => exact ⟨k + 1, q, by omega, by go_num, rfl, HQ, by omega, by omega, by simp⟩
      case measure => simp [intOf]; omega
    · obtain rfl : k = m := by omega
      have HE := Lib.hid (HC.out.trans HX.out.symm)
      have c0 := bx.at_ 0 rfl
      have c1 := bx.at_ 1 rfl
      have c2 := bx.at_ 2 rfl
      have f0 := bx.thaw 0
      have f1 := bx.thaw 1
      have f2 := bx.thaw 2
      go_wp2
      exact bodyPost_ret (v := .tuple #[.agg #[.int .i64 B, .int .i64 k, .int .i64 x], .bool true]) (by simp [results, Tryz.results125, go_sem, c0, c1, c2]) rfl ⟨by rw [HE.out], (by repeat (first | with_reducible exact hbel | with_reducible refine Below.setCell ?_ (by first | omega | (simp <;> omega)) _ | with_reducible refine Below.alloc ?_ (by first | omega | (simp <;> omega)) _ | with_reducible refine Below.drew ?_))⟩

set_option maxHeartbeats 1000000 in
theorem least_any (B n N : Int) (w : World) (h1 : 1 ≤ N) (h2 : N ≤ 1000000000001) :
    Calls Tryz.prog 155 #[.agg #[.int .i64 B, .int .i64 n, .int .i64 N]] w fun e w' => e = .returned (.int .i64 (-(N / 2))) ∧ Below w.heap.size w w' := by
  have ht : N.tdiv 2 = N / 2 := Int.tdiv_eq_ediv_of_nonneg (by omega)
  obtain ⟨q, hq⟩ : ∃ q, q = N / 2 := ⟨_, rfl⟩
  rw [← hq] at ht ⊢
  have hq2 : 0 ≤ q ∧ q ≤ 1000000000002 := by omega
  clear hq
  go_enter Tryz.func155, Tryz.ntmps155
  go_wp2
  go_ret
  exact ⟨rfl, (by repeat (first | exact Below.refl _ _ | refine Below.setCell ?_ (by first | omega | (simp <;> omega)) _ | refine Below.alloc ?_ (by first | omega | (simp <;> omega)) _ | refine Below.drew ?_))⟩

set_option maxHeartbeats 1000000 in
theorem greatest_any (B n N : Int) (w : World) (h1 : 1 ≤ N) (h2 : N ≤ 1000000000001) :
    Calls Tryz.prog 146 #[.agg #[.int .i64 B, .int .i64 n, .int .i64 N]] w fun e w' => e = .returned (.int .i64 (N - 1 + -(N / 2))) ∧ Below w.heap.size w w' := by
  obtain ⟨u, hu⟩ : ∃ u, u = w.alloc (.cells #[.int .i64 B, .int .i64 n, .int .i64 N] 135) := ⟨_, rfl⟩
  have bx : Bx u w.heap.size 135 #[.int .i64 B, .int .i64 n, .int .i64 N] := by rw [hu]; exact Bx.new _ _ _
  have hbel : Below w.heap.size w u := by rw [hu]; exact (by repeat (first | exact Below.refl _ _ | refine Below.setCell ?_ (by first | omega | (simp <;> omega)) _ | refine Below.alloc ?_ (by first | omega | (simp <;> omega)) _ | refine Below.drew ?_))
  have c0 := kept_after (bx.at_ 0 rfl)
  have c1 := kept_after (bx.at_ 1 rfl)
  have c2 := kept_after (bx.at_ 2 rfl)
  have HC := Lib.hid (fun v => least_any B n N v h1 h2)
  obtain ⟨q, hq⟩ : ∃ q, q = N / 2 := ⟨_, rfl⟩
  rw [← hq] at HC ⊢
  have hq2 : 0 ≤ q ∧ q ≤ 1000000000002 := by omega
  have HU := Lib.hid hu
  clear hu bx hq
  go_enter Tryz.func146, Tryz.ntmps146
  go_wp2
  rw [← HU.out]
  refine wp_region_after (by kernel_rfl) (by kernel_rfl) ?_
  repeat (go_big_quiet_step ((go_at_call 155; exact calls_after (HC.out _))))
  refine wpQuiet_nil ?_
  intro u
  go_wp2
  go_ret
  exact ⟨rfl, hbel.trans (u.ok.mono hbel.size)⟩

end Go.Proofs.YtlahobdopmdfmaaGreatDoor

/- PairI -/
namespace Go.Proofs.YtlahobdopmdfmaaGreatDoor
open Go.RowKit

end Go.Proofs.YtlahobdopmdfmaaGreatDoor

/- TwoS -/
namespace Go.Proofs.YtlahobdopmdfmaaGreatDoor
open Go.RowKit

theorem l02Ok_at {v : Bool} (p : Nat) (b : Int) (a : Option Addr) (c : Nat) (zs : List Int) (w : World) (n : Nat) (hv : okB b zs = v) (ha : Rd w a zs) (hp0 : w.cell? ⟨p, 0, none⟩ = some (.int .i64 b)) (hp1 : w.cell? ⟨p, 1, none⟩ = some (.slice a zs.length c)) :
    Calls Tryz.prog 70 #[.pointer (some ⟨p, 0, none⟩)] (w.drewN n) fun e w' => e = .returned (.bool v) ∧ ∃ m, w' = w.drewN m := by
  subst hv
  exact (l02Ok_any p b a c zs (w.drewN n) (ha.drewN n) hp0 hp1).mono fun e w' ⟨h1, m, h2⟩ => ⟨h1, n + m, by rw [h2, drewN_drewN]⟩
theorem l02Ok_at0 {v : Bool} (p : Nat) (b : Int) (a : Option Addr) (c : Nat) (zs : List Int) (w : World) (hv : okB b zs = v) (ha : Rd w a zs) (hp0 : w.cell? ⟨p, 0, none⟩ = some (.int .i64 b)) (hp1 : w.cell? ⟨p, 1, none⟩ = some (.slice a zs.length c)) :
    Calls Tryz.prog 70 #[.pointer (some ⟨p, 0, none⟩)] w fun e w' => e = .returned (.bool v) ∧ ∃ m, w' = w.drewN m := by
  subst hv; exact l02Ok_any p b a c zs w ha hp0 hp1

end Go.Proofs.YtlahobdopmdfmaaGreatDoor

/- RegC -/
namespace Go.Proofs.YtlahobdopmdfmaaGreatDoor
open Go.RowKit

/-- A register of its own and a code. -/
def RegC (R : Int × List Int × Int) (w : World) (e : Ending) (w' : World) : Prop := ∃ A C,
  e = .returned (.tuple #[.agg #[.int .i64 R.1, .slice A R.2.1.length C], .int .i64 R.2.2]) ∧ Own 2 w' w.heap.size w'.heap.size (.slice A R.2.1.length C) R.2.1 ∧ Below w.heap.size w w'
theorem regC_err {R : Int × List Int × Int} {c : Int} {w w' : World} {e : Ending} (h : R = (0, [], c)) (he : e = .returned (.tuple #[.agg #[.int .i64 0, .slice none 0 0], .int .i64 c])) (hb : Below w.heap.size w w') : RegC R w e w' := by
  subst h
  exact ⟨none, 0, he, own_nil _ _ _ _, hb⟩
theorem regC_ok {R : Int × List Int × Int} {b : Int} {zs : List Int} {w w' : World} {A : Option Addr} {C lo hi : Nat} {e : Ending} (h : R = (b, zs, 0)) (he : e = .returned (.tuple #[.agg #[.int .i64 b, .slice A zs.length C], .int .i64 0]))
    (ho : Own 2 w' lo hi (.slice A zs.length C) zs) (hl : w.heap.size ≤ lo) (hh : hi ≤ w'.heap.size) (hb : Below w.heap.size w w') : RegC R w e w' := by
  subst h
  exact ⟨A, C, he, ho.wide hl hh, hb⟩

end Go.Proofs.YtlahobdopmdfmaaGreatDoor

/- Plus -/
namespace Go.Proofs.YtlahobdopmdfmaaGreatDoor
open Go.RowKit

theorem pad_one (n : Nat) : pad (n + 1) [0] = pad (n + 1) [] := by simp [pad, List.replicate_succ]
theorem pad_get {n : Nat} {f : Nat → Int} {k m : Nat} (hm : m ≤ n) (h : k < m) : nth (pad n (tab f m)) k = f k := by
  rw [nth_get (by rw [pad_len (by rw [tab_len]; exact hm)]; omega)]
  unfold pad
  rw [List.getElem_append_left (by rw [tab_len]; exact h)]
  have := tab_nth (f := f) (n := m) (i := k) h
  rwa [nth_get (by rw [tab_len]; exact h)] at this
theorem pad_tab_set {n m : Nat} {f : Nat → Int} (h : m < n) (z : Int) (hz : f m = z) : (pad n (tab f m)).set m z = pad n (tab f (m + 1)) := by
  have := pad_set (n := n) (zs := tab f m) (by rw [tab_len]; exact h) z
  rw [tab_len] at this
  rw [this, tab_succ, hz]
theorem pad_tab_all {n : Nat} {f : Nat → Int} : pad n (tab f n) = tab f n := pad_all (tab_len _ _)
theorem pad_tab_len {n m : Nat} {f : Nat → Int} (h : m ≤ n) : (pad n (tab f m)).length = n := pad_len (by rw [tab_len]; exact h)

set_option maxRecDepth 100000 in
set_option maxHeartbeats 2000000 in
theorem plus_any (B : Int) (a b : Option Addr) (c d : Nat) (xs ys : List Int) (w : World) (ha : Rd w a xs) (hb : Rd w b ys) (hB1 : 2 ≤ B) (hB2 : B ≤ 16) (hlen : xs.length ≤ 16) (hl : xs.length = ys.length)
    (hx : ∀ k, k < xs.length → 0 ≤ nth xs k ∧ nth xs k < B) (hy : ∀ k, k < xs.length → 0 ≤ nth ys k ∧ nth ys k < B) :
    Calls Tryz.prog 89 #[.slice a xs.length c, .slice b ys.length d, .int .i64 B] w fun e w' => ∃ A1 C1 A2 C2, e = .returned (.tuple #[.slice A1 xs.length C1, .slice A2 (xs.length + 1) C2]) ∧
      Own 2 w' w.heap.size w'.heap.size (.slice A1 xs.length C1) (tab (sumD B xs ys) xs.length) ∧ Own 2 w' w.heap.size w'.heap.size (.slice A2 (xs.length + 1) C2) (tab (cK B xs ys) (xs.length + 1)) ∧ Below w.heap.size w w' := by
  have HL := Lib.hid hl
  have HX := Lib.hid hx
  have HY := Lib.hid hy
  clear hl hx hy
  go_enter Tryz.func89, Tryz.ntmps89
  go_wp2_with (first | (at_make; refine wpList_makeI rfl (.tmp 13) (.tmp 13) 122 2 rfl Tryz.underlying122 info_int64 xs.length rfl rfl (by omega) ?_; intro w1 hown1 hb1) | (at_make; go_must (refine wpList_makeI rfl (.tmp 17) (.tmp 17) 24 2 rfl Tryz.underlying24 info_int64 (xs.length + 1) (by rw [show ((xs.length + 1 : Nat) : Int) = (xs.length : Int) + 1 by omega]; rfl) (by rw [show ((xs.length + 1 : Nat) : Int) = (xs.length : Int) + 1 by omega]; rfl) (by omega) ?_); intro w2 hown2 hb2))
  have hs1 : w.heap.size < w1.heap.size := hown1.block.2.2
  have hs2 : w1.heap.size < w2.heap.size := hown2.block.2.2
  replace hown1 := hown1.lo hb2 (Nat.le_refl _)
  replace hb1 := hb1.trans (hb2.mono (Nat.le_of_lt hs1))
  replace hown2 := hown2.wide (Nat.le_refl _) (Nat.le_refl _)
  rw [← pad_one] at hown2
  clear hb2
  go_wp2
  go_loopw [10, 21] (fun _ i wr => ∃ k : Nat, k ≤ xs.length ∧ i = .int .i64 k ∧ Own 2 wr w.heap.size w1.heap.size (.slice (some ⟨w.heap.size, 0, none⟩) xs.length xs.length) (pad xs.length (tab (sumD B xs ys) k)) ∧
      Own 2 wr w1.heap.size wr.heap.size (.slice (some ⟨w1.heap.size, 0, none⟩) (xs.length + 1) (xs.length + 1)) (pad (xs.length + 1) (tab (cK B xs ys) (k + 1))) ∧ Below w.heap.size w wr) (fun _ i _ => xs.length - (intOf i).toNat)
  case atStart => exact ⟨0, Nat.zero_le _, rfl, hown1, hown2, hb1⟩
  case round =>
    obtain ⟨k, hk, rfl, own1, own2, hbel⟩ := hrel
    by_cases hlt : k < xs.length
    · obtain ⟨p1, o1, rfl, hc1⟩ := ha.at_ hlt
      have hlt2 : k < ys.length := by rw [← HL.out]; exact hlt
      obtain ⟨p2, o2, rfl, hc2⟩ := hb.at_ hlt2
      have f1 := kept hbel hc1
      have f2 := kept hbel hc2
      have hx := HX.out k hlt
      have hy := HY.out k hlt
      have hcb := cK_bd hB1 HX.out HY.out k hk
      have hq : 0 ≤ (nth xs k + nth ys k + cK B xs ys k) / B ∧ (nth xs k + nth ys k + cK B xs ys k) / B ≤ 1 := cK_bd hB1 HX.out HY.out (k + 1) hlt
      have hb0 : ¬ B = 0 := by omega
      have hrem : (nth xs k + nth ys k + cK B xs ys k).tmod B = (nth xs k + nth ys k + cK B xs ys k) % B := Int.tmod_eq_emod_of_nonneg (by omega)
      have hdiv : (nth xs k + nth ys k + cK B xs ys k).tdiv B = (nth xs k + nth ys k + cK B xs ys k) / B := Int.tdiv_eq_ediv_of_nonneg (by omega)
      have hwr : wrap64 ((nth xs k + nth ys k + cK B xs ys k) / B) = (nth xs k + nth ys k + cK B xs ys k) / B := IntWalk.wrap64_in _ ⟨by omega, by omega⟩
      have hw1 : IntKind.i64.wrap (nth xs k + nth ys k) = nth xs k + nth ys k := IntWalk.i64_in _ (by omega)
      have hw2 : IntKind.i64.wrap (nth xs k + nth ys k + cK B xs ys k) = nth xs k + nth ys k + cK B xs ys k := IntWalk.i64_in _ (by omega)
      have hi3 : (k : Int) < (xs.length : Int) + 1 := by omega
      have g3 := own2.get (j := k) (by rw [pad_tab_len (by omega)]; omega)
      rw [pad_get (by omega) (by omega)] at g3
      have g1 := own1.get (j := k) (by rw [pad_tab_len (by omega)]; omega)
      have t1 := own1.thaw k
      have g2 := own2.get (j := k + 1) (by rw [pad_tab_len (by omega)]; omega)
      have t2 := own2.thaw (k + 1)
      go_wp2
      go_quiet (fail)
      go_wp2
      have q1 := (own1.drewN nq).put k ((nth xs k + nth ys k + cK B xs ys k) % B)
      rw [pad_tab_set hlt ((nth xs k + nth ys k + cK B xs ys k) % B) rfl] at q1
      have q2 := ((own2.drewN nq).setCell (p := ⟨w.heap.size, k, none⟩) (.inl hs1) (.int .i64 ((nth xs k + nth ys k + cK B xs ys k) % B))).put (k + 1) ((nth xs k + nth ys k + cK B xs ys k) / B)
      rw [pad_tab_set (by omega) ((nth xs k + nth ys k + cK B xs ys k) / B) rfl] at q2
      go_roundw
      case rel => exact ⟨k + 1, by omega, by go_num, q1.setCell (p := ⟨w1.heap.size, k + 1, none⟩) (.inr (Nat.le_refl _)) _, q2.wide (Nat.le_refl _) (by simp), ((bel_drewN hbel nq).setCell (p := ⟨w.heap.size, k, none⟩) (by simp) _).setCell (p := ⟨w1.heap.size, k + 1, none⟩) (by simp <;> omega) _⟩
      case measure => (simp [intOf]) <;> omega
    · obtain rfl : k = xs.length := by omega
      rw [pad_tab_all] at own1 own2
      go_wp2
      refine bodyPost_ret (v := .tuple #[.slice (some ⟨w.heap.size, 0, none⟩) xs.length xs.length, .slice (some ⟨w1.heap.size, 0, none⟩) (xs.length + 1) (xs.length + 1)]) (by simp [results, Tryz.results89, go_sem]) rfl ?_
      exact ⟨_, _, _, _, rfl, own1.wide (Nat.le_refl _) (Nat.le_of_lt own2.block.2.2), own2.wide (Nat.le_of_lt hs1) (Nat.le_refl _), hbel⟩
end Go.Proofs.YtlahobdopmdfmaaGreatDoor

/- Minus -/
namespace Go.Proofs.YtlahobdopmdfmaaGreatDoor
open Go.RowKit

set_option maxRecDepth 100000 in
set_option maxHeartbeats 2000000 in
theorem minus_any (B : Int) (a b : Option Addr) (c d : Nat) (xs ys : List Int) (w : World) (ha : Rd w a xs) (hb : Rd w b ys) (hB1 : 2 ≤ B) (hB2 : B ≤ 16) (hlen : xs.length ≤ 16) (hl : xs.length = ys.length)
    (hx : ∀ k, k < xs.length → 0 ≤ nth xs k ∧ nth xs k < B) (hy : ∀ k, k < xs.length → 0 ≤ nth ys k ∧ nth ys k < B) :
    Calls Tryz.prog 90 #[.slice a xs.length c, .slice b ys.length d, .int .i64 B] w fun e w' => ∃ A1 C1, e = .returned (.tuple #[.slice A1 xs.length C1, .int .i64 (bK B xs ys xs.length)]) ∧
      Own 2 w' w.heap.size w'.heap.size (.slice A1 xs.length C1) (tab (subD B xs ys) xs.length) ∧ Below w.heap.size w w' := by
  have HL := Lib.hid hl
  have HX := Lib.hid hx
  have HY := Lib.hid hy
  clear hl hx hy
  go_enter Tryz.func90, Tryz.ntmps90
  go_wp2_with (at_make; refine wpList_makeI rfl (.tmp 13) (.tmp 13) 122 2 rfl Tryz.underlying122 info_int64 xs.length rfl rfl (by omega) ?_; intro w1 hown1 hb1)
  go_wp2
  go_loopw [9, 10, 17] (fun br _ i wr => ∃ k : Nat, k ≤ xs.length ∧ br = .int .i64 (bK B xs ys k) ∧ i = .int .i64 k ∧ Own 2 wr w.heap.size wr.heap.size (.slice (some ⟨w.heap.size, 0, none⟩) xs.length xs.length) (pad xs.length (tab (subD B xs ys) k)) ∧
      Below w.heap.size w wr) (fun _ _ i _ => xs.length - (intOf i).toNat)
  case atStart => exact ⟨0, Nat.zero_le _, rfl, rfl, hown1, hb1⟩
  case round =>
    obtain ⟨k, hk, rfl, rfl, own1, hbel⟩ := hrel
    by_cases hlt : k < xs.length
    · obtain ⟨p1, o1, rfl, hc1⟩ := ha.at_ hlt
      have hlt2 : k < ys.length := by rw [← HL.out]; exact hlt
      obtain ⟨p2, o2, rfl, hc2⟩ := hb.at_ hlt2
      have f1 := kept hbel hc1
      have f2 := kept hbel hc2
      have hx := HX.out k hlt
      have hy := HY.out k hlt
      have hbb := bK_bd B xs ys k
      have hw1 : IntKind.i64.wrap (nth xs k - nth ys k) = nth xs k - nth ys k := IntWalk.i64_in _ (by omega)
      have hw2 : IntKind.i64.wrap (nth xs k - nth ys k - bK B xs ys k) = nth xs k - nth ys k - bK B xs ys k := IntWalk.i64_in _ (by omega)
      have g1 := own1.get (j := k) (by rw [pad_tab_len (by omega)]; omega)
      have t1 := own1.thaw k
      by_cases hneg : nth xs k - nth ys k - bK B xs ys k < 0
      · have HB := Lib.hid (show bK B xs ys (k + 1) = 1 from if_pos hneg)
        have HD := Lib.hid (show subD B xs ys k = nth xs k - nth ys k - bK B xs ys k + B from if_pos hneg)
        go_wp2
        go_quiet (fail)
        go_wp2
        have q1 := (own1.drewN nq).put k (nth xs k - nth ys k - bK B xs ys k + B)
        rw [pad_tab_set hlt (nth xs k - nth ys k - bK B xs ys k + B) HD.out] at q1
        go_roundw
        case rel => exact ⟨k + 1, by omega, by rw [HB.out], by go_num, q1.wide (Nat.le_refl _) (by simp), (bel_drewN hbel nq).setCell (p := ⟨w.heap.size, k, none⟩) (by simp) _⟩
        case measure => (simp [intOf]) <;> omega
      · have HB := Lib.hid (show bK B xs ys (k + 1) = 0 from if_neg hneg)
        have HD := Lib.hid (show subD B xs ys k = nth xs k - nth ys k - bK B xs ys k from if_neg hneg)
        go_wp2
        go_quiet (fail)
        go_wp2
        have q1 := (own1.drewN nq).put k (nth xs k - nth ys k - bK B xs ys k)
        rw [pad_tab_set hlt (nth xs k - nth ys k - bK B xs ys k) HD.out] at q1
        go_roundw
        case rel => exact ⟨k + 1, by omega, by rw [HB.out], by go_num, q1.wide (Nat.le_refl _) (by simp), (bel_drewN hbel nq).setCell (p := ⟨w.heap.size, k, none⟩) (by simp) _⟩
        case measure => (simp [intOf]) <;> omega
    · obtain rfl : k = xs.length := by omega
      rw [pad_tab_all] at own1
      go_wp2
      refine bodyPost_ret (v := .tuple #[.slice (some ⟨w.heap.size, 0, none⟩) xs.length xs.length, .int .i64 (bK B xs ys xs.length)]) (by simp [results, Tryz.results90, go_sem]) rfl ?_
      exact ⟨_, _, rfl, own1, hbel⟩

/-- What has been moved when the first n digits have been. -/
def mvD (xs : List Int) (m : Int) (n : Nat) (k : Nat) : Int := if 0 ≤ (k : Int) - m ∧ (k : Int) - m < (n : Int) then nth xs ((k : Int) - m).toNat else 0
theorem mvD_all (xs : List Int) (m : Int) : mvD xs m xs.length = shD xs m := by
  funext k
  unfold mvD shD
  by_cases h : 0 ≤ (k : Int) - m ∧ (k : Int) - m < (xs.length : Int)
  · rw [if_pos h, if_pos (by omega)]
  · rw [if_neg h, if_neg (by omega)]
theorem mvD_in {xs : List Int} {m : Int} {n j : Nat} (h : (n : Int) + m = j) (k : Nat) : mvD xs m (n + 1) k = if k = j then nth xs n else mvD xs m n k := by
  unfold mvD
  by_cases hk : k = j
  · subst hk
    rw [if_pos rfl, if_pos (by omega), show (k : Int) - m = n by omega]; rfl
  · rw [if_neg hk]
    by_cases h2 : 0 ≤ (k : Int) - m ∧ (k : Int) - m < (n : Int)
    · rw [if_pos h2, if_pos (by omega)]
    · rw [if_neg h2, if_neg (by omega)]
theorem mvD_out {xs : List Int} {m : Int} {n k : Nat} (h : (n : Int) + m ≠ k) : mvD xs m (n + 1) k = mvD xs m n k := by
  unfold mvD
  by_cases h2 : 0 ≤ (k : Int) - m ∧ (k : Int) - m < (n : Int)
  · rw [if_pos h2, if_pos (by omega)]
  · rw [if_neg h2, if_neg (by omega)]
theorem tab_ext {f g : Nat → Int} {n : Nat} (h : ∀ k, k < n → f k = g k) : tab f n = tab g n := by
  apply List.ext_getElem (by rw [tab_len, tab_len])
  intro k h1 h2
  rw [tab_len] at h1
  have e1 := tab_nth (f := f) (n := n) (i := k) h1
  have e2 := tab_nth (f := g) (n := n) (i := k) h1
  rw [nth_get (by rw [tab_len]; exact h1)] at e1 e2
  rw [e1, e2, h k h1]
theorem tab_set {f g : Nat → Int} {n j : Nat} {z : Int} (h : ∀ k, k < n → g k = if k = j then z else f k) : (tab f n).set j z = tab g n := by
  apply List.ext_getElem (by rw [List.length_set, tab_len, tab_len])
  intro k h1 h2
  rw [tab_len] at h2
  have e1 := tab_nth (f := f) (n := n) (i := k) h2
  have e2 := tab_nth (f := g) (n := n) (i := k) h2
  rw [nth_get (by rw [tab_len]; exact h2)] at e1 e2
  rw [e2, h k h2, List.getElem_set]
  by_cases hk : k = j
  · rw [if_pos hk, if_pos hk.symm]
  · rw [if_neg hk, if_neg (Ne.symm hk), e1]
theorem mvD_none (xs : List Int) (m : Int) (n : Nat) : tab (mvD xs m 0) n = List.replicate n 0 := by
  rw [← show tab (fun _ => (0 : Int)) n = List.replicate n 0 by
    apply List.ext_getElem (by simp [tab_len])
    intro k h1 h2
    rw [tab_len] at h1
    have e1 := tab_nth (f := fun _ => (0 : Int)) (n := n) (i := k) h1
    rw [nth_get (by rw [tab_len]; exact h1)] at e1
    rw [e1]; simp]
  apply tab_ext
  intro k _
  unfold mvD
  rw [if_neg (by omega)]

end Go.Proofs.YtlahobdopmdfmaaGreatDoor

/- Fin -/
namespace Go.Proofs.YtlahobdopmdfmaaGreatDoor
open Go.RowKit

set_option maxRecDepth 100000 in
set_option maxHeartbeats 1000000 in
theorem implValueOf (xB : Int) (xA : Option Addr) (xC : Nat) (xZ : List Int) (w : World) (ha : Rd w xA xZ) (z : All64 xZ) (b : I64 xB) :
    Calls Tryz.prog 124 #[.agg #[.int .i64 xB, .slice xA xZ.length xC]] w fun e w' => e = .returned (.tuple #[.int .i64 (vofR xB xZ).1, .int .i64 (vofR xB xZ).2]) ∧ Below w.heap.size w w' := by
  go_enter Tryz.func124, Tryz.ntmps124
  go_wp2_with fail
  obtain ⟨u, hu⟩ : ∃ u, u = w.alloc (.cells #[.int .i64 xB, .slice xA xZ.length xC] 26) := ⟨_, rfl⟩
  rw [← hu]
  have hbel : Below w.heap.size w u := by rw [hu]; exact (by repeat (first | exact Below.refl _ _ | refine Below.setCell ?_ (by first | omega | (simp <;> omega)) _ | refine Below.alloc ?_ (by first | omega | (simp <;> omega)) _ | refine Below.drew ?_))
  have ax : Bx u w.heap.size 26 #[.int .i64 xB, .slice xA xZ.length xC] := by rw [hu]; exact Bx.new _ _ _
  clear hu
  replace ha := ha.below hbel
  refine (implValidRegister xB xA xC xZ u ha z b).mono ?_
  rintro e v ⟨rfl, hb1⟩
  replace ha := ha.below hb1
  replace ax := ax.below hb1
  replace hbel := hbel.trans (hb1.mono hbel.size)
  clear hb1 u
  have c0 := ax.at_ 0 rfl
  have c1 := ax.at_ 1 rfl
  cases h : okB xB xZ with
  | false =>
    have HV := Lib.hid (show vofR xB xZ = (0, 1) by simp [vofR, h])
    go_wp2
    refine bodyPost_ret (v := .tuple #[.int .i64 0, .int .i64 1]) (by simp [results, Tryz.results124, go_sem]) rfl ?_
    exact ⟨by rw [HV.out], hbel⟩
  | true =>
    have HV := Lib.hid (show vofR xB xZ = (valR xB xZ, 0) by simp [vofR, h])
    have HO := Lib.hid (okB_spec h)
    clear h
    go_wp2_with fail
    refine (value_any xB xA xC xZ v HO.out.1 HO.out.2.1 HO.out.2.2.2.2.1 ha).mono ?_
    rintro e w2 ⟨rfl, hb3⟩
    rw [valOr_le HO.out.2.2.2.2.2]
    go_wp2
    refine bodyPost_ret (v := .tuple #[.int .i64 (valR xB xZ), .int .i64 0]) (by simp [results, Tryz.results124, go_sem]) rfl ?_
    exact ⟨by rw [HV.out], hbel.trans (hb3.mono hbel.size)⟩
end Go.Proofs.YtlahobdopmdfmaaGreatDoor

/- NewReg -/
namespace Go.Proofs.YtlahobdopmdfmaaGreatDoor
open Go.RowKit

set_option maxHeartbeats 1000000 in
set_option maxRecDepth 100000 in
theorem specl02New_any (b v : Int) (n : Nat) (w : World) (hb1 : 2 ≤ b) (hb2 : b ≤ 16) (hn : n ≤ 16) (hv1 : 0 ≤ v) (hv2 : v ≤ 1000000000000) :
    Calls Tryz.prog 82 #[.int .i64 b, .int .i64 n, .int .i64 v] w fun e w' => ∃ A C,
      e = .returned (.tuple #[.agg #[.int .i64 b, .slice A n C], .int .i64 (leftR b n v)]) ∧ Own 2 w' w.heap.size w'.heap.size (.slice A n C) (digsR b n v) ∧ Below w.heap.size w w' := by
  go_enter Tryz.func82, Tryz.ntmps82
  go_wp2
  go_loopw [2, 9] (fun q i wr => ∃ (k : Nat) (A : Option Addr) (C : Nat), k ≤ n ∧ q = .int .i64 (leftR b k v) ∧ i = .int .i64 k ∧ Bx wr w.heap.size 26 #[.int .i64 0, .slice none 0 0] ∧ Bx wr (w.heap.size + 1) 26 #[.int .i64 b, .slice A k C] ∧
      Own 2 wr (w.heap.size + 2) wr.heap.size (.slice A k C) (digsR b k v) ∧ Below w.heap.size w wr) (fun _ i _ => n - (intOf i).toNat)
  case atStart =>
    refine ⟨0, none, 0, Nat.zero_le _, rfl, rfl, (Bx.new _ _ _).alloc _, by simpa using Bx.new (w.alloc (.cells #[.int .i64 0, .slice none 0 0] 26)) #[.int .i64 b, .slice none 0 0] 26, own_nil _ _ _ _, ((Below.refl _ _).alloc (Nat.le_refl _) _).alloc (by simp) _⟩
  case round =>
    obtain ⟨k, A, C, hk, rfl, rfl, bx0, bx1, hown, hbel⟩ := hrel
    have hlb := leftR_bd (by omega : 1 ≤ b) k v hv1 hv2
    have hsz := bx1.lt
    by_cases hlt : k < n
    · have hb0 : ¬ b = 0 := by omega
      have hr : (leftR b k v).tmod b = leftR b k v % b := Int.tmod_eq_emod_of_nonneg hlb.1
      have c1 := bx1.cell 1
      simp only [List.getElem?_toArray, List.getElem?_cons_succ, List.getElem?_cons_zero] at c1
      go_wp2
      refine wp_region_marked (fun w' => w'.cell? ⟨w.heap.size + 1, 1, none⟩ = some (.slice A k C)) 8 (by kernel_rfl) ?_
      have hS : wr.drew.cell? ⟨w.heap.size + 1, 1, none⟩ = some (.slice A k C) := c1
      refine wpAnyM_take (i := 0) (v := ?_) rfl (by kernel_rfl) (by kernel_rfl) (by kernel_rfl) (by kernel_rfl) (by kernel_rfl) (fun _ _ _ h => h) hS (.inl ⟨by rfl, ?_⟩) ?_
      rotate_left 1
      · intro w' hS'; go_simp; try with_reducible rfl
      simp only [Act.put, List.setIfInBounds_toArray]
      refine wpAnyM_take (i := 1) (v := ?_) rfl (by kernel_rfl) (by kernel_rfl) (by kernel_rfl) (by kernel_rfl) (by kernel_rfl) (fun _ _ _ h => h) hS (.inl ⟨by rfl, ?_⟩) ?_
      rotate_left 1
      · intro w' hS'; go_simp; try with_reducible rfl
      simp only [Act.put]
      refine wpAnyM_take (i := 2) (v := ?_) rfl (by kernel_rfl) (by kernel_rfl) (by kernel_rfl) (by kernel_rfl) (by kernel_rfl) (fun _ _ _ h => h) hS (.inl ⟨by rfl, ?_⟩) ?_
      rotate_left 1
      · intro w' hS'; go_simp; try with_reducible rfl
      simp only [Act.put]
      refine wpAnyM_take (i := 3) (v := ?_) rfl (by kernel_rfl) (by kernel_rfl) (by kernel_rfl) (by kernel_rfl) (by kernel_rfl) (fun _ _ _ h => h) hS (.inl ⟨by rfl, ?_⟩) ?_
      rotate_left 1
      · intro w' hS'; go_simp; try with_reducible rfl
      simp only [Act.put]
      refine wpAnyM_take (i := 4) (v := ?_) rfl (by kernel_rfl) (by kernel_rfl) (by kernel_rfl) (by kernel_rfl) (by kernel_rfl) (fun _ _ _ h => h) hS (.inl ⟨by rfl, ?_⟩) ?_
      rotate_left 1
      · intro w' hS'; go_simp; try with_reducible rfl
      simp only [Act.put]
      refine wpAnyM_one (i := 5) (by kernel_rfl) rfl (by rfl) (fun K hK => ?_)
      go_simp
      replace hS := kept_alloc hS (.cells #[.int .i64 (leftR b k v % b)] 2)
      refine hK _ _ (.inr hS) ?_
      clear hK K
      refine wpAnyM_one (i := 6) (by kernel_rfl) rfl (by rfl) (fun K hK => ?_)
      refine wp_appI (.tmp 18) (.tmp 22) 24 2 rfl Tryz.underlying24 info_int64 rfl ((hown.drew).alloc _) (digsR_len _ _ _) ⟨wr.heap.size, 0, none⟩ 1 (leftR b k v % b) rfl (by go_simp) (by omega) (by simp; omega) ?_
      intro A' C' w1 hown1 ht1
      rw [← digsR_succ] at hown1
      have dx1 := ((bx1.drew).alloc (.cells #[.int .i64 (leftR b k v % b)] 2)).touch ht1 (by omega)
      have dx0 := ((bx0.drew).alloc (.cells #[.int .i64 (leftR b k v % b)] 2)).touch ht1 (by omega)
      have d1 : w1.cell? ⟨w.heap.size + 1, 1, none⟩ = some (.slice A k C) := dx1.cell 1
      have df1 := dx1.thaw 1
      refine hK _ _ (.inr d1) ?_
      clear hS
      have hS := d1
      simp only [Act.put, List.setIfInBounds_toArray]
      clear hK K c1
      refine wpAnyM_take (i := 7) (v := ?_) rfl (by kernel_rfl) (by kernel_rfl) (by kernel_rfl) (by kernel_rfl) (by kernel_rfl) (fun _ _ _ h => h) hS (.inl ⟨by rfl, ?_⟩) ?_
      rotate_left 1
      · intro w' hS'; go_simp; try with_reducible rfl
      simp only [Act.put]
      refine wpAnyM_one (i := 8) (by kernel_rfl) rfl (by rfl) (fun K hK => ?_)
      go_simp
      refine hK _ _ (.inl rfl) ?_
      clear hK K
      refine wpAnyM_done (by kernel_rfl) ?_ _
      go_wp2
      go_roundw
      case rel => exact ⟨k + 1, A', C', by omega, by rw [leftR_succ], by go_num, dx0.far (by simp) _, by simpa using dx1.set_ 1 (.slice A' (k + 1) C'), (hown1.setCell (p := ⟨w.heap.size + 1, 1, none⟩) (.inl (by simp)) _).wide (Nat.le_refl _) (by simp),
        ((hbel.drew.alloc hbel.size _).trans (ht1.below (by omega) (by simp; omega))).setCell (p := ⟨w.heap.size + 1, 1, none⟩) (by simp) _⟩
      case measure => simp [intOf]; omega
    · obtain rfl : k = n := by omega
      have c0 : wr.cell? ⟨w.heap.size + 1, 0, none⟩ = some (.int .i64 b) := bx1.cell 0
      have c1 : wr.cell? ⟨w.heap.size + 1, 1, none⟩ = some (.slice A k C) := bx1.cell 1
      have r0 : wr.cell? ⟨w.heap.size, 0, none⟩ = some (.int .i64 0) := bx0.cell 0
      have r1 : wr.cell? ⟨w.heap.size, 1, none⟩ = some (.slice none 0 0) := bx0.cell 1
      have f0 := bx0.thaw 0
      have f1 := bx0.thaw 1
      go_wp2
      refine bodyPost_ret (v := .tuple #[.agg #[.int .i64 b, .slice A k C], .int .i64 (leftR b k v)]) (by simp [results, Tryz.results82, go_sem, r0, r1]) rfl
        ⟨A, C, rfl, ((hown.setCell (p := ⟨w.heap.size, 0, none⟩) (.inl (by simp)) _).setCell (p := ⟨w.heap.size, 1, none⟩) (.inl (by simp)) _).wide (by simp) (by simp), (hbel.setCell (p := ⟨w.heap.size, 0, none⟩) (by simp) _).setCell (p := ⟨w.heap.size, 1, none⟩) (by simp) _⟩

/-- What a call of NewRegister leaves. -/
def NewRegPost (b n v : Int) (w : World) (e : Ending) (w' : World) : Prop := ∃ A C,
  e = .returned (.tuple #[.agg #[.int .i64 (nrR b n v).1, .slice A (nrR b n v).2.1.length C], .int .i64 (nrR b n v).2.2]) ∧ Own 2 w' w.heap.size w'.heap.size (.slice A (nrR b n v).2.1.length C) (nrR b n v).2.1 ∧ Below w.heap.size w w'

theorem newRegPost_err {b n v c : Int} {w w' : World} {e : Ending} (h : nrR b n v = (0, [], c)) (he : e = .returned (.tuple #[.agg #[.int .i64 0, .slice none 0 0], .int .i64 c])) (hb : Below w.heap.size w w') : NewRegPost b n v w e w' := by
  refine ⟨none, 0, ?_, ?_, hb⟩
  · rw [h]; exact he
  · rw [h]; exact own_nil _ _ _ _
theorem newRegPost_ok {b n v : Int} {zs : List Int} {m : Nat} {w w' : World} {A : Option Addr} {C lo hi : Nat} {e : Ending} (h : nrR b n v = (b, zs, 0)) (hm : zs.length = m) (he : e = .returned (.tuple #[.agg #[.int .i64 b, .slice A m C], .int .i64 0]))
    (ho : Own 2 w' lo hi (.slice A m C) zs) (hl : w.heap.size ≤ lo) (hh : hi ≤ w'.heap.size) (hb : Below w.heap.size w w') : NewRegPost b n v w e w' := by
  subst hm
  refine ⟨A, C, ?_, ?_, hb⟩
  · rw [h]; exact he
  · rw [h]; exact ho.wide hl hh

end Go.Proofs.YtlahobdopmdfmaaGreatDoor

/- ShnI -/
namespace Go.Proofs.YtlahobdopmdfmaaGreatDoor
open Go.RowKit

/-- The error of the bell, as a value. -/
def bellV (a : Addr) : Value := .iface 187 (.pointer (some a))
/-- errBell holds it. -/
def BellAt (w : World) (a : Addr) : Prop := w.cell? ⟨4, 0, none⟩ = some (bellV a)
/-- Whichever it is. -/
def BellD (w : World) : Prop := ∃ a, BellAt w a
theorem BellAt.below {w w' : World} {a : Addr} (h : BellAt w a) (hb : Below w.heap.size w w') : BellAt w' a := kept hb h
theorem BellD.below {w w' : World} (h : BellD w) (hb : Below w.heap.size w w') : BellD w' := h.elim fun a ha => ⟨a, ha.below hb⟩

set_option maxHeartbeats 4000000 in
theorem shown_in (B n N x : Int) (w : World) (h1 : 1 ≤ N) (h2 : N ≤ 1000000000001) (bx : I64 x) (hi : inA N x = true) :
    Calls Tryz.prog 126 #[.agg #[.int .i64 B, .int .i64 n, .int .i64 N], .int .i64 x] w fun e w' => e = .returned (.tuple #[.int .i64 x, .nilIface]) ∧ Below w.heap.size w w' := by
  have hs : shn N x = x := (shn_eq h1 x).2 hi
  obtain ⟨u, hu⟩ : ∃ u, u = w.alloc (.cells #[.int .i64 B, .int .i64 n, .int .i64 N] 135) := ⟨_, rfl⟩
  have bc : Bx u w.heap.size 135 #[.int .i64 B, .int .i64 n, .int .i64 N] := by rw [hu]; exact Bx.new _ _ _
  have hbel : Below w.heap.size w u := by rw [hu]; exact (by repeat (first | exact Below.refl _ _ | refine Below.setCell ?_ (by first | omega | (simp <;> omega)) _ | refine Below.alloc ?_ (by first | omega | (simp <;> omega)) _ | refine Below.drew ?_))
  have HU := Lib.hid hu
  have HM := Lib.hid (fun w => modulo_any x N w h1 h2)
  have HG := Lib.hid (fun w => greatest_any B n N w h1 h2)
  have q1 := Int.emod_nonneg x (show N ≠ 0 by omega)
  have q2 := Int.emod_lt_of_pos x (show 0 < N by omega)
  unfold shn at hs
  obtain ⟨q, hq⟩ : ∃ q, q = x % N := ⟨_, rfl⟩
  obtain ⟨g, hg⟩ : ∃ g, g = N - 1 + -(N / 2) := ⟨_, rfl⟩
  rw [← hq] at HM q1 q2
  rw [← hq, ← hg] at hs
  rw [← hg] at HG
  have HU := Lib.hid hu
  have c0 := bc.at_ 0 rfl
  have c1 := bc.at_ 1 rfl
  have c2 := bc.at_ 2 rfl
  clear hu hq hg hi
  by_cases hc : g < q
  · rw [if_pos hc] at hs
    have hne : (q - N == x) = true := by simp [hs]
    go_enter Tryz.func126, Tryz.ntmps126
    go_wp2_with fail
    rw [← HU.out]
    refine (HM.out _).mono ?_
    rintro e w1 ⟨rfl, hw⟩
    subst w1
    go_wp2_with fail
    refine (HG.out _).mono ?_
    rintro e w2 ⟨rfl, hb⟩
    have d2 := kept hb c2
    clear c0 c1 c2
    go_wp2
    exact bodyPost_ret (v := .tuple #[.int .i64 x, .nilIface]) (by simp [results, Tryz.results126, go_sem]) rfl ⟨rfl, hbel.trans (hb.mono hbel.size)⟩
  · rw [if_neg hc] at hs
    subst x
    go_enter Tryz.func126, Tryz.ntmps126
    go_wp2_with fail
    rw [← HU.out]
    refine (HM.out _).mono ?_
    rintro e w1 ⟨rfl, hw⟩
    subst w1
    go_wp2_with fail
    refine (HG.out _).mono ?_
    rintro e w2 ⟨rfl, hb⟩
    have d2 := kept hb c2
    clear c0 c1 c2
    go_wp2
    exact bodyPost_ret (v := .tuple #[.int .i64 q, .nilIface]) (by simp [results, Tryz.results126, go_sem]) rfl ⟨rfl, hbel.trans (hb.mono hbel.size)⟩

set_option maxHeartbeats 4000000 in
theorem shown_out (B n N x : Int) (a : Addr) (w : World) (h1 : 1 ≤ N) (h2 : N ≤ 1000000000001) (_ : I64 x) (hi : inA N x = false) (hl : BellAt w a) :
    Calls Tryz.prog 126 #[.agg #[.int .i64 B, .int .i64 n, .int .i64 N], .int .i64 x] w fun e w' => e = .returned (.tuple #[.int .i64 (shn N x), bellV a]) ∧ Below w.heap.size w w' := by
  have hs : ¬ shn N x = x := by rw [shn_eq h1 x, hi]; simp
  obtain ⟨u, hu⟩ : ∃ u, u = w.alloc (.cells #[.int .i64 B, .int .i64 n, .int .i64 N] 135) := ⟨_, rfl⟩
  have bc : Bx u w.heap.size 135 #[.int .i64 B, .int .i64 n, .int .i64 N] := by rw [hu]; exact Bx.new _ _ _
  have hbel : Below w.heap.size w u := by rw [hu]; exact (by repeat (first | exact Below.refl _ _ | refine Below.setCell ?_ (by first | omega | (simp <;> omega)) _ | refine Below.alloc ?_ (by first | omega | (simp <;> omega)) _ | refine Below.drew ?_))
  have HU := Lib.hid hu
  have HM := Lib.hid (fun w => modulo_any x N w h1 h2)
  have HG := Lib.hid (fun w => greatest_any B n N w h1 h2)
  have q1 := Int.emod_nonneg x (show N ≠ 0 by omega)
  have q2 := Int.emod_lt_of_pos x (show 0 < N by omega)
  obtain ⟨y, hy⟩ : ∃ y, y = shn N x := ⟨_, rfl⟩
  rw [← hy] at hs ⊢
  unfold shn at hy
  obtain ⟨q, hq⟩ : ∃ q, q = x % N := ⟨_, rfl⟩
  obtain ⟨g, hg⟩ : ∃ g, g = N - 1 + -(N / 2) := ⟨_, rfl⟩
  rw [← hq] at HM q1 q2
  rw [← hq, ← hg] at hy
  rw [← hg] at HG
  have c0 := bc.at_ 0 rfl
  have c1 := bc.at_ 1 rfl
  have c2 := bc.at_ 2 rfl
  replace hl := hl.below hbel
  clear hu hq hg hi
  by_cases hc : g < q
  · rw [if_pos hc] at hy
    subst y
    go_enter Tryz.func126, Tryz.ntmps126
    go_wp2_with fail
    rw [← HU.out]
    refine (HM.out _).mono ?_
    rintro e w1 ⟨rfl, hw⟩
    subst w1
    go_wp2_with fail
    refine (HG.out _).mono ?_
    rintro e w2 ⟨rfl, hb⟩
    have d2 := kept hb c2
    have d3 : ∀ u : After w2, u.now.cell? ⟨4, 0, none⟩ = some (bellV a) := kept_after (hl.below hb)
    clear c0 c1 c2
    go_wp2
    refine wp_region_after (by kernel_rfl) (by kernel_rfl) ?_
    repeat (go_big_quiet_step (fail))
    refine wpQuiet_nil ?_
    intro u2
    go_wp2
    exact bodyPost_ret (v := .tuple #[.int .i64 (q - N), bellV a]) (by simp [results, Tryz.results126, go_sem]) rfl ⟨rfl, (hbel.trans (hb.mono hbel.size)).trans (u2.ok.mono (hbel.trans (hb.mono hbel.size)).size)⟩
  · rw [if_neg hc] at hy
    subst y
    go_enter Tryz.func126, Tryz.ntmps126
    go_wp2_with fail
    rw [← HU.out]
    refine (HM.out _).mono ?_
    rintro e w1 ⟨rfl, hw⟩
    subst w1
    go_wp2_with fail
    refine (HG.out _).mono ?_
    rintro e w2 ⟨rfl, hb⟩
    have d2 := kept hb c2
    have d3 : ∀ u : After w2, u.now.cell? ⟨4, 0, none⟩ = some (bellV a) := kept_after (hl.below hb)
    clear c0 c1 c2
    go_wp2
    refine wp_region_after (by kernel_rfl) (by kernel_rfl) ?_
    repeat (go_big_quiet_step (fail))
    refine wpQuiet_nil ?_
    intro u2
    go_wp2
    exact bodyPost_ret (v := .tuple #[.int .i64 q, bellV a]) (by simp [results, Tryz.results126, go_sem]) rfl ⟨rfl, (hbel.trans (hb.mono hbel.size)).trans (u2.ok.mono (hbel.trans (hb.mono hbel.size)).size)⟩

/-- Whatever is shown. -/
theorem shown_any (B n N x : Int) (a : Addr) (w : World) (h1 : 1 ≤ N) (h2 : N ≤ 1000000000001) (bx : I64 x) (hl : BellAt w a) :
    Calls Tryz.prog 126 #[.agg #[.int .i64 B, .int .i64 n, .int .i64 N], .int .i64 x] w fun e w' => ∃ v, e = .returned (.tuple #[.int .i64 (shn N x), v]) ∧ Below w.heap.size w w' := by
  cases hi : inA N x with
  | true => exact (shown_in B n N x w h1 h2 bx hi).mono fun e w' h => ⟨.nilIface, by rw [(shn_eq h1 x).2 hi]; exact h.1, h.2⟩
  | false => exact (shown_out B n N x a w h1 h2 bx hi hl).mono fun e w' h => ⟨_, h.1, h.2⟩

set_option maxHeartbeats 4000000 in
set_option maxRecDepth 100000 in
theorem accOf_no (xB : Int) (xA : Option Addr) (xC : Nat) (xZ : List Int) (w : World) (ha : Rd w xA xZ) (z : All64 xZ) (b : I64 xB) (h : accB xB xZ = false) :
    Calls Tryz.prog 102 #[.agg #[.int .i64 xB, .slice xA xZ.length xC]] w fun e w' => e = .returned (.tuple #[.agg #[.int .i64 0, .int .i64 0, .int .i64 0], .int .i64 0, .bool false]) ∧ Below w.heap.size w w' := by
  have R := Tryz.results102
  have hbel : Below w.heap.size w w := Below.refl _ _
  cases ho : okB xB xZ with
  | false =>
    have HV := Lib.hid (show vofR xB xZ = (0, 1) by simp [vofR, ho])
    go_enter Tryz.func102, Tryz.ntmps102
    go_wp2_with fail
    obtain ⟨p, hp⟩ : ∃ g, g = w.heap.size := ⟨_, rfl⟩
    have hk_p : w.heap.size ≤ p := Nat.le_of_eq hp.symm
    obtain ⟨u, hu⟩ : ∃ V, V = (w.alloc (.cells #[.int .i64 xB, .slice xA xZ.length xC] 26)).alloc (.cells #[.int .i64 0, .int .i64 0, .int .i64 0] 135) := ⟨_, rfl⟩
    have b_p : Bx u p 26 #[.int .i64 xB, .slice xA xZ.length xC] := by rw [hu, hp]; exact (Bx.new _ _ _).alloc _
    have b_p1 : Bx u (p + 1) 135 #[.int .i64 0, .int .i64 0, .int .i64 0] := by rw [hu, hp]; simpa using Bx.new (w.alloc (.cells #[.int .i64 xB, .slice xA xZ.length xC] 26)) #[.int .i64 0, .int .i64 0, .int .i64 0] 135
    have hb : Below w.heap.size w u := by rw [hu]; exact ((Below.refl _ _).alloc (Nat.le_refl _) _).alloc (by simp) _
    rw [← hp, ← hu]
    clear hu hp
    replace ha := ha.below hb
    replace hbel := hbel.trans (hb.mono hbel.size)
    clear hb
    refine (implValueOf xB xA xC xZ u ha z b).mono ?_
    rintro e v ⟨rfl, hb⟩
    rw [HV.out]
    replace ha := ha.below hb
    replace b_p := b_p.below hb
    replace b_p1 := b_p1.below hb
    replace hbel := hbel.trans (hb.mono hbel.size)
    clear hb
    have r0 := b_p1.at_ 0 rfl
    have r1 := b_p1.at_ 1 rfl
    have r2 := b_p1.at_ 2 rfl
    have f0 := b_p1.thaw 0
    have f1 := b_p1.thaw 1
    have f2 := b_p1.thaw 2
    have hl := b_p1.lt
    go_wp2
    exact bodyPost_ret (v := .tuple #[.agg #[.int .i64 0, .int .i64 0, .int .i64 0], .int .i64 0, .bool false]) (by simp [results, go_sem, r0, r1, r2]) rfl ⟨rfl, (by repeat (first | with_reducible exact hbel | with_reducible refine Below.setCell ?_ (by first | omega | (simp <;> omega)) _ | with_reducible refine Below.alloc ?_ (by first | omega | (simp <;> omega)) _ | with_reducible refine Below.drew ?_))⟩
  | true =>
    have HV := Lib.hid (show vofR xB xZ = (valR xB xZ, 0) by simp [vofR, ho])
    have hf : fullB xB (xZ.length : Int) = false := by rw [← accB_of_full ho, h]
    go_enter Tryz.func102, Tryz.ntmps102
    go_wp2_with fail
    obtain ⟨p, hp⟩ : ∃ g, g = w.heap.size := ⟨_, rfl⟩
    have hk_p : w.heap.size ≤ p := Nat.le_of_eq hp.symm
    obtain ⟨u, hu⟩ : ∃ V, V = (w.alloc (.cells #[.int .i64 xB, .slice xA xZ.length xC] 26)).alloc (.cells #[.int .i64 0, .int .i64 0, .int .i64 0] 135) := ⟨_, rfl⟩
    have b_p : Bx u p 26 #[.int .i64 xB, .slice xA xZ.length xC] := by rw [hu, hp]; exact (Bx.new _ _ _).alloc _
    have b_p1 : Bx u (p + 1) 135 #[.int .i64 0, .int .i64 0, .int .i64 0] := by rw [hu, hp]; simpa using Bx.new (w.alloc (.cells #[.int .i64 xB, .slice xA xZ.length xC] 26)) #[.int .i64 0, .int .i64 0, .int .i64 0] 135
    have hb : Below w.heap.size w u := by rw [hu]; exact ((Below.refl _ _).alloc (Nat.le_refl _) _).alloc (by simp) _
    rw [← hp, ← hu]
    clear hu hp
    replace ha := ha.below hb
    replace hbel := hbel.trans (hb.mono hbel.size)
    clear hb
    refine (implValueOf xB xA xC xZ u ha z b).mono ?_
    rintro e v ⟨rfl, hb⟩
    rw [HV.out]
    replace ha := ha.below hb
    replace b_p := b_p.below hb
    replace b_p1 := b_p1.below hb
    replace hbel := hbel.trans (hb.mono hbel.size)
    clear hb
    have c0 := b_p.at_ 0 rfl
    have c1 := b_p.at_ 1 rfl
    go_wp2_with fail
    refine (circle_no xB xZ.length v hf).mono ?_
    rintro e v2 ⟨rfl, hb⟩
    replace ha := ha.below hb
    replace b_p := b_p.below hb
    replace b_p1 := b_p1.below hb
    replace hbel := hbel.trans (hb.mono hbel.size)
    clear hb
    have r0 := b_p1.at_ 0 rfl
    have r1 := b_p1.at_ 1 rfl
    have r2 := b_p1.at_ 2 rfl
    have f0 := b_p1.thaw 0
    have f1 := b_p1.thaw 1
    have f2 := b_p1.thaw 2
    have hl := b_p1.lt
    clear c0 c1 h ho hf
    go_upto_region 5 with fail
    obtain ⟨v3, hv3⟩ : ∃ v3, v3 = ((v2.setCell ⟨p + 1, 0, none⟩ (.int .i64 0)).setCell ⟨p + 1, 1, none⟩ (.int .i64 0)).setCell ⟨p + 1, 2, none⟩ (.int .i64 0) := ⟨_, rfl⟩
    have bq : Bx v3 (p + 1) 135 #[.int .i64 0, .int .i64 0, .int .i64 0] := by rw [hv3]; simpa using ((b_p1.set_ 0 (.int .i64 0)).set_ 1 (.int .i64 0)).set_ 2 (.int .i64 0)
    replace hbel : Below w.heap.size w v3 := by rw [hv3]; exact (by repeat (first | with_reducible exact hbel | with_reducible refine Below.setCell ?_ (by first | omega | (simp <;> omega)) _ | with_reducible refine Below.alloc ?_ (by first | omega | (simp <;> omega)) _ | with_reducible refine Below.drew ?_))
    first | rw [← hv3] | skip
    clear hv3 f0 f1 f2 hl r0 r1 r2
    have r0 := bq.at_ 0 rfl
    have r1 := bq.at_ 1 rfl
    have r2 := bq.at_ 2 rfl
    have f0 := bq.thaw 0
    have f1 := bq.thaw 1
    have f2 := bq.thaw 2
    have hl := bq.lt
    go_wp2
    exact bodyPost_ret (v := .tuple #[.agg #[.int .i64 0, .int .i64 0, .int .i64 0], .int .i64 0, .bool false]) (by simp [results, go_sem, r0, r1, r2]) rfl ⟨rfl, (by repeat (first | with_reducible exact hbel | with_reducible refine Below.setCell ?_ (by first | omega | (simp <;> omega)) _ | with_reducible refine Below.alloc ?_ (by first | omega | (simp <;> omega)) _ | with_reducible refine Below.drew ?_))⟩

set_option maxHeartbeats 4000000 in
set_option maxRecDepth 100000 in
theorem accOf_ok (a : Addr) (xB : Int) (xA : Option Addr) (xC : Nat) (xZ : List Int) (w : World) (ha : Rd w xA xZ) (z : All64 xZ) (b : I64 xB) (h : accB xB xZ = true) (hl : BellAt w a) :
    Calls Tryz.prog 102 #[.agg #[.int .i64 xB, .slice xA xZ.length xC]] w fun e w' => e = .returned (.tuple #[.agg #[.int .i64 xB, .int .i64 xZ.length, .int .i64 (cntA xB xZ.length)], .int .i64 (numA xB xZ), .bool true]) ∧ Below w.heap.size w w' := by
  have R := Tryz.results102
  have hbel : Below w.heap.size w w := Below.refl _ _
  have HV := Lib.hid (show vofR xB xZ = (valR xB xZ, 0) by simp [vofR, (accB_spec h).1])
  have HF := Lib.hid (accB_full h)
  have hc := cntA_bd HF.out
  have hv := valR_acc h
  have HE := Lib.hid (show numA xB xZ = shn (cntA xB xZ.length) (valR xB xZ) from rfl)
  have HO := Lib.hid (fun v => circle_ok xB xZ.length v HF.out)
  obtain ⟨N, hN⟩ : ∃ N, N = cntA xB xZ.length := ⟨_, rfl⟩
  rw [← hN] at HE HO hc ⊢
  obtain ⟨x, hx⟩ : ∃ x, x = valR xB xZ := ⟨_, rfl⟩
  rw [← hx] at HV HE hv
  rw [HE.out]
  have hx64 : I64 x := i64_of (by omega) (by omega)
  have hl1 := hl
  clear hN hx h
  go_enter Tryz.func102, Tryz.ntmps102
  go_wp2_with fail
  obtain ⟨p, hp⟩ : ∃ g, g = w.heap.size := ⟨_, rfl⟩
  have hk_p : w.heap.size ≤ p := Nat.le_of_eq hp.symm
  obtain ⟨u, hu⟩ : ∃ V, V = (w.alloc (.cells #[.int .i64 xB, .slice xA xZ.length xC] 26)).alloc (.cells #[.int .i64 0, .int .i64 0, .int .i64 0] 135) := ⟨_, rfl⟩
  have b_p : Bx u p 26 #[.int .i64 xB, .slice xA xZ.length xC] := by rw [hu, hp]; exact (Bx.new _ _ _).alloc _
  have b_p1 : Bx u (p + 1) 135 #[.int .i64 0, .int .i64 0, .int .i64 0] := by rw [hu, hp]; simpa using Bx.new (w.alloc (.cells #[.int .i64 xB, .slice xA xZ.length xC] 26)) #[.int .i64 0, .int .i64 0, .int .i64 0] 135
  have hb : Below w.heap.size w u := by rw [hu]; exact ((Below.refl _ _).alloc (Nat.le_refl _) _).alloc (by simp) _
  rw [← hp, ← hu]
  clear hu hp
  replace ha := ha.below hb
  replace hl := hl.below hb
  replace hbel := hbel.trans (hb.mono hbel.size)
  clear hb
  refine (implValueOf xB xA xC xZ u ha z b).mono ?_
  rintro e v ⟨rfl, hb⟩
  rw [HV.out]
  replace ha := ha.below hb
  replace hl := hl.below hb
  replace b_p := b_p.below hb
  replace b_p1 := b_p1.below hb
  replace hbel := hbel.trans (hb.mono hbel.size)
  clear hb
  have c0 := b_p.at_ 0 rfl
  have c1 := b_p.at_ 1 rfl
  have f0 := b_p1.thaw 0
  have f1 := b_p1.thaw 1
  have f2 := b_p1.thaw 2
  have hl0 := b_p1.lt
  go_wp2_with fail
  refine (HO.out v).mono ?_
  rintro e v2 ⟨rfl, hb⟩
  clear c0 c1 f0 f1 f2 hl0
  replace ha := ha.below hb
  replace hl := hl.below hb
  replace b_p := b_p.below hb
  replace b_p1 := b_p1.below hb
  replace hbel := hbel.trans (hb.mono hbel.size)
  clear hb
  have r0 := b_p1.at_ 0 rfl
  have r1 := b_p1.at_ 1 rfl
  have r2 := b_p1.at_ 2 rfl
  have f0 := b_p1.thaw 0
  have f1 := b_p1.thaw 1
  have f2 := b_p1.thaw 2
  have hl0 := b_p1.lt
  go_upto_region 5 with fail
  obtain ⟨v3, hv3⟩ : ∃ v3, v3 = ((v2.setCell ⟨p + 1, 0, none⟩ (.int .i64 xB)).setCell ⟨p + 1, 1, none⟩ (.int .i64 xZ.length)).setCell ⟨p + 1, 2, none⟩ (.int .i64 N) := ⟨_, rfl⟩
  have bq : Bx v3 (p + 1) 135 #[.int .i64 xB, .int .i64 xZ.length, .int .i64 N] := by rw [hv3]; simpa using ((b_p1.set_ 0 (.int .i64 xB)).set_ 1 (.int .i64 xZ.length)).set_ 2 (.int .i64 N)
  replace hbel : Below w.heap.size w v3 := by rw [hv3]; exact (by repeat (first | with_reducible exact hbel | with_reducible refine Below.setCell ?_ (by first | omega | (simp <;> omega)) _ | with_reducible refine Below.alloc ?_ (by first | omega | (simp <;> omega)) _ | with_reducible refine Below.drew ?_))
  replace hl : BellAt v3 a := hl1.below hbel
  first | rw [← hv3] | skip
  clear hv3 f0 f1 f2 hl0 b_p1 r0 r1 r2
  have r0 := bq.at_ 0 rfl
  have r1 := bq.at_ 1 rfl
  have r2 := bq.at_ 2 rfl
  have hl0 := bq.lt
  go_wp2_with fail
  refine (shown_any xB xZ.length N x a v3 (by omega) (by omega) hx64 hl).mono ?_
  rintro e v4 ⟨y, rfl, hb⟩
  replace bq := bq.below hb
  replace hbel := hbel.trans (hb.mono hbel.size)
  clear r0 r1 r2 hl0 hb
  have r0 := bq.at_ 0 rfl
  have r1 := bq.at_ 1 rfl
  have r2 := bq.at_ 2 rfl
  have f0 := bq.thaw 0
  have f1 := bq.thaw 1
  have f2 := bq.thaw 2
  have hl0 := bq.lt
  go_wp2
  exact bodyPost_ret (v := .tuple #[.agg #[.int .i64 xB, .int .i64 xZ.length, .int .i64 N], .int .i64 (shn N x), .bool true]) (by simp [results, go_sem, r0, r1, r2]) rfl ⟨rfl, (by repeat (first | with_reducible exact hbel | with_reducible refine Below.setCell ?_ (by first | omega | (simp <;> omega)) _ | with_reducible refine Below.alloc ?_ (by first | omega | (simp <;> omega)) _ | with_reducible refine Below.drew ?_))⟩

end Go.Proofs.YtlahobdopmdfmaaGreatDoor

/- Gear -/
namespace Go.Proofs.YtlahobdopmdfmaaGreatDoor

/-- Are these the teeth of a pair? (a word that the walk does not open) -/
def teethB (x : Int × Int) : Bool := inB x.1 2 120 && inB x.2 2 120
theorem teethB_true {x : Int × Int} (h : teethB x = true) : (2 ≤ x.1 ∧ x.1 ≤ 120) ∧ (2 ≤ x.2 ∧ x.2 ≤ 120) := by
  simp only [teethB, Bool.and_eq_true] at h
  exact ⟨inB_true h.1, inB_true h.2⟩
theorem teethB_false {x : Int × Int} (h : teethB x = false) : (x.1 < 2 ∨ 120 < x.1) ∨ ((2 ≤ x.1 ∧ x.1 ≤ 120) ∧ (x.2 < 2 ∨ 120 < x.2)) := by
  cases h1 : inB x.1 2 120 with
  | false => exact .inl (inB_false h1)
  | true => rw [teethB, h1, Bool.true_and] at h; exact .inr ⟨inB_true h1, inB_false h⟩
/-- Are all of them pairs? -/
def pairsB (xs : List (Int × Int)) : Bool := xs.all teethB
theorem pairsB_true {xs : List (Int × Int)} : pairsB xs = true ↔ ∀ x ∈ xs, teethB x = true := by simp [pairsB]
theorem pairsB_bad {xs : List (Int × Int)} {k : Nat} (hk : k < xs.length) (h : teethB (elt pairF xs k) = false) : pairsB xs = false := by
  cases hp : pairsB xs with
  | false => rfl
  | true => rw [pairsB_true.1 hp _ (elt_mem hk)] at h; cases h
theorem pairsB_allT {xs : List (Int × Int)} (h : ∀ x ∈ xs.take xs.length, teethB x = true) : pairsB xs = true := by
  rw [List.take_of_length_le (Nat.le_refl _)] at h; exact pairsB_true.2 h
/-- Is their number that of a train? -/
def lenB (n : Nat) : Bool := decide (1 ≤ n ∧ n ≤ 6)
theorem lenB_true {n : Nat} (h : lenB n = true) : 1 ≤ n ∧ n ≤ 6 := by simpa [lenB] using h
theorem lenB_false {n : Nat} (h : lenB n = false) : n < 1 ∨ 6 < n := by simp [lenB] at h; omega
theorem lenB_in (n : Nat) : lenB n = inB (n : Int) 1 6 := by
  rw [lenB, inB, decide_eq_decide]; omega
/-- A train. -/
def trainB (xs : List (Int × Int)) : Bool := lenB xs.length && pairsB xs
structure TrainOf (xs : List (Int × Int)) : Prop where
  n0 : 1 ≤ xs.length
  n1 : xs.length ≤ 6
  all : ∀ x ∈ xs, teethB x = true
theorem train_of {xs : List (Int × Int)} (h : trainB xs = true) : TrainOf xs := by
  simp only [trainB, Bool.and_eq_true] at h
  exact ⟨(lenB_true h.1).1, (lenB_true h.1).2, pairsB_true.1 h.2⟩
theorem train_is {xs : List (Int × Int)} (h : TrainOf xs) : trainB xs = true := by
  simp only [trainB, Bool.and_eq_true]
  exact ⟨by simp [lenB, h.n0, h.n1], pairsB_true.2 h.all⟩
theorem TrainOf.at_ {xs : List (Int × Int)} (h : TrainOf xs) {k : Nat} (hk : k < xs.length) : (2 ≤ (elt pairF xs k).1 ∧ (elt pairF xs k).1 ≤ 120) ∧ (2 ≤ (elt pairF xs k).2 ∧ (elt pairF xs k).2 ≤ 120) := teethB_true (h.all _ (elt_mem hk))

/-- By what a pair multiplies the turns. -/
def fac (x : Int × Int) : Rat := mkRat (-x.1) x.2.toNat
/-- The ratio. -/
def ratQ (xs : List (Int × Int)) : Rat := xs.foldl (fun q x => q * fac x) 1
theorem ratQ_nil : ratQ [] = 1 := rfl
theorem ratQ_snoc (xs : List (Int × Int)) (x : Int × Int) : ratQ (xs ++ [x]) = ratQ xs * fac x := by simp [ratQ]
theorem ratQ_take {xs : List (Int × Int)} {k : Nat} (hk : k < xs.length) : ratQ (xs.take (k + 1)) = ratQ (xs.take k) * fac (elt pairF xs k) := by rw [takeE_succ (F := pairF) hk, ratQ_snoc]
/-- num / den in lowest terms. -/
def red (n : Int) (d : Nat) : Rat := mkRat n d
/-- What the two divisions give. -/
theorem red_num {n : Int} {d : Nat} (hd : d ≠ 0) : n.tdiv (Nat.gcd n.natAbs d) = (red n d).num := by
  rw [red, Rat.num_mkRat, if_neg hd, Nat.gcd_comm, Int.tdiv_eq_ediv_of_dvd]
  exact Int.ofNat_dvd_left.2 (Nat.gcd_dvd_right _ _)
theorem red_den {n : Int} {d : Nat} (hd : d ≠ 0) : (d : Int).tdiv (Nat.gcd n.natAbs d) = ((red n d).den : Int) := by
  rw [red, Rat.den_mkRat, if_neg hd, Nat.gcd_comm, Int.tdiv_eq_ediv_of_nonneg (by omega)]
  rfl
theorem red_mul (p q : Rat) : red (p.num * q.num) (p.den * q.den) = p * q := by rw [red, Rat.mul_def']
theorem red_fac (q : Rat) (x : Int × Int) : red (q.num * -x.1) (q.den * x.2.toNat) = q * fac x := by
  rw [red, fac, ← Rat.mkRat_mul_mkRat, Rat.mkRat_self]
theorem red_neg (q : Rat) (x : Int × Int) : red (-q.num * x.1) (q.den * x.2.toNat) = q * fac x := by
  rw [← red_fac]; congr 1; rw [Int.mul_neg, Int.neg_mul]
theorem abs_div_le (n : Int) (g : Nat) : (n / (g : Int)).natAbs ≤ n.natAbs := by
  rcases Nat.eq_zero_or_pos g with h | h
  · subst h; simp
  · rcases Int.le_total 0 n with h1 | h1
    · obtain ⟨k, rfl⟩ := Int.eq_ofNat_of_zero_le h1
      rw [← Int.natCast_ediv]; exact Nat.div_le_self _ _
    · have e := Int.ediv_mul_le n (b := (g : Int)) (by omega)
      have h2 : n / (g : Int) ≤ 0 := by
        rcases Int.lt_or_le 0 (n / (g : Int)) with h3 | h3
        · exfalso
          have : 0 < n / (g : Int) * g := Int.mul_pos h3 (by omega)
          omega
        · exact h3
      have h4 : n ≤ n / (g : Int) := by
        have := Int.le_ediv_of_mul_le (a := n) (b := n) (c := (g : Int)) (by omega) (by
          have : n * (g : Int) ≤ n * 1 := Int.mul_le_mul_of_nonpos_left h1 (by omega)
          omega)
        exact this
      omega
theorem num_le (p q : Rat) : (p * q).num.natAbs ≤ p.num.natAbs * q.num.natAbs := by
  rw [Rat.num_mul, ← Int.natAbs_mul]; exact abs_div_le _ _
theorem den_le (p q : Rat) : (p * q).den ≤ p.den * q.den := by rw [Rat.den_mul]; exact Nat.div_le_self _ _
theorem den_dvd (p q : Rat) : (p * q).den ∣ p.den * q.den := by
  rw [Rat.den_mul]; exact Nat.div_dvd_of_dvd (Nat.gcd_dvd_right _ _)
theorem red_num_le (n : Int) (d : Nat) : (red n d).num.natAbs ≤ n.natAbs := by
  rw [red, Rat.num_mkRat]; split
  · simp
  · exact abs_div_le _ _
theorem red_den_le (n : Int) {d : Nat} (hd : d ≠ 0) : (red n d).den ≤ d := by rw [red, Rat.den_mkRat, if_neg hd]; exact Nat.div_le_self _ _
theorem red_den_dvd (n : Int) {d : Nat} (hd : d ≠ 0) : (red n d).den ∣ d := by rw [red, Rat.den_mkRat, if_neg hd]; exact Nat.div_dvd_of_dvd (Nat.gcd_dvd_left _ _)
theorem fac_num_le {x : Int × Int} (h : teethB x = true) : (fac x).num.natAbs ≤ 120 := by
  have := teethB_true h
  have := red_num_le (-x.1) x.2.toNat
  rw [red] at this
  rw [fac]; omega
theorem fac_den_dvd {x : Int × Int} (h : teethB x = true) : (fac x).den ∣ x.2.toNat := by
  have := teethB_true h
  exact red_den_dvd (-x.1) (by omega)
theorem fac_den_le {x : Int × Int} (h : teethB x = true) : (fac x).den ≤ 120 := by
  have := teethB_true h
  have := Nat.le_of_dvd (by omega) (fac_den_dvd h)
  omega
/-- Bounds of a ratio of k pairs. -/
theorem ratQ_bd {xs : List (Int × Int)} (h : ∀ x ∈ xs, teethB x = true) : ∀ k, k ≤ xs.length → (ratQ (xs.take k)).num.natAbs ≤ 120 ^ k ∧ (ratQ (xs.take k)).den ≤ 120 ^ k
  | 0, _ => by simp [ratQ_nil]
  | k + 1, hk => by
    obtain ⟨h1, h2⟩ := ratQ_bd h k (by omega)
    have hk' : k < xs.length := by omega
    have ht := h _ (elt_mem (F := pairF) hk')
    rw [ratQ_take hk', Nat.pow_succ]
    exact ⟨Nat.le_trans (num_le _ _) (Nat.mul_le_mul h1 (fac_num_le ht)), Nat.le_trans (den_le _ _) (Nat.mul_le_mul h2 (fac_den_le ht))⟩
theorem pow_le {k : Nat} (h : k ≤ 6) : 120 ^ k ≤ 2985984000000 := by
  have := Nat.pow_le_pow_right (n := 120) (by omega) h
  have e : 120 ^ 6 = 2985984000000 := by decide
  omega
theorem ratQ_in {xs : List (Int × Int)} (h : ∀ x ∈ xs, teethB x = true) {k : Nat} (hk : k ≤ xs.length) (h6 : k ≤ 6) :
    (ratQ (xs.take k)).num.natAbs ≤ 2985984000000 ∧ (ratQ (xs.take k)).den ≤ 2985984000000 := by
  have := ratQ_bd h k hk
  have := pow_le h6
  omega
theorem ratQ_in' {xs : List (Int × Int)} (h : ∀ x ∈ xs, teethB x = true) {k : Nat} (hk : k ≤ xs.length) (h6 : k ≤ 5) :
    (ratQ (xs.take k)).num.natAbs ≤ 24883200000 ∧ (ratQ (xs.take k)).den ≤ 24883200000 := by
  have := ratQ_bd h k hk
  have := Nat.pow_le_pow_right (n := 120) (by omega) h6
  have e : 120 ^ 5 = 24883200000 := by decide
  omega
theorem den_pos (q : Rat) : 0 < q.den := Nat.pos_of_ne_zero q.den_nz

/-- The ratio, and the code. -/
def ratR (xs : List (Int × Int)) : (Int × Int) × Int := if trainB xs = true then (((ratQ xs).num, ((ratQ xs).den : Int)), 0) else ((0, 0), 1)
theorem ratR_bad {xs : List (Int × Int)} (h : trainB xs = false) : ratR xs = ((0, 0), 1) := by simp [ratR, h]
theorem ratR_ok {xs : List (Int × Int)} (h : trainB xs = true) : ratR xs = (((ratQ xs).num, ((ratQ xs).den : Int)), 0) := by simp [ratR, h]
/-- The ratio times turns, and the code. -/
def outR (xs : List (Int × Int)) (t : Int) : (Int × Int) × Int :=
  if trainB xs = true then (if inB t (-1000) 1000 = true then (((red ((ratQ xs).num * t) (ratQ xs).den).num, ((red ((ratQ xs).num * t) (ratQ xs).den).den : Int)), 0) else ((0, 0), 2)) else ((0, 0), 1)
theorem outR_bad {xs : List (Int × Int)} {t : Int} (h : trainB xs = false) : outR xs t = ((0, 0), 1) := by simp [outR, h]
theorem outR_range {xs : List (Int × Int)} {t : Int} (h : trainB xs = true) (ht : inB t (-1000) 1000 = false) : outR xs t = ((0, 0), 2) := by simp [outR, h, ht]
theorem outR_ok {xs : List (Int × Int)} {t : Int} (h : trainB xs = true) (ht : inB t (-1000) 1000 = true) : outR xs t = (((red ((ratQ xs).num * t) (ratQ xs).den).num, ((red ((ratQ xs).num * t) (ratQ xs).den).den : Int)), 0) := by simp [outR, h, ht]

/-- The least common multiple of the denominators of the first k ratios. -/
def lcmTo (xs : List (Int × Int)) : Nat → Nat
  | 0 => 1
  | k + 1 => Nat.lcm (lcmTo xs k) (ratQ (xs.take (k + 1))).den
def dprod (xs : List (Int × Int)) : Nat → Nat
  | 0 => 1
  | k + 1 => dprod xs k * (elt pairF xs k).2.toNat
theorem den_dprod {xs : List (Int × Int)} (h : ∀ x ∈ xs, teethB x = true) : ∀ k, k ≤ xs.length → (ratQ (xs.take k)).den ∣ dprod xs k
  | 0, _ => by simp [ratQ_nil, dprod]
  | k + 1, hk => by
    have hk' : k < xs.length := by omega
    rw [ratQ_take hk', dprod]
    exact Nat.dvd_trans (den_dvd _ _) (Nat.mul_dvd_mul (den_dprod h k (by omega)) (fac_den_dvd (h _ (elt_mem hk'))))
theorem lcm_dprod {xs : List (Int × Int)} (h : ∀ x ∈ xs, teethB x = true) : ∀ k, k ≤ xs.length → lcmTo xs k ∣ dprod xs k
  | 0, _ => by simp [lcmTo, dprod]
  | k + 1, hk => by
    rw [lcmTo]
    exact Nat.lcm_dvd (Nat.dvd_trans (lcm_dprod h k (by omega)) ⟨_, rfl⟩) (den_dprod h (k + 1) hk)
theorem dprod_bd {xs : List (Int × Int)} (h : ∀ x ∈ xs, teethB x = true) : ∀ k, k ≤ xs.length → 1 ≤ dprod xs k ∧ dprod xs k ≤ 120 ^ k
  | 0, _ => by simp [dprod]
  | k + 1, hk => by
    obtain ⟨h1, h2⟩ := dprod_bd h k (by omega)
    have := teethB_true (h _ (elt_mem (F := pairF) (show k < xs.length by omega)))
    rw [dprod, Nat.pow_succ]
    exact ⟨Nat.mul_pos h1 (by omega), Nat.mul_le_mul h2 (by omega)⟩
theorem lcmTo_bd {xs : List (Int × Int)} (h : ∀ x ∈ xs, teethB x = true) {k : Nat} (hk : k ≤ xs.length) (h6 : k ≤ 6) : 1 ≤ lcmTo xs k ∧ lcmTo xs k ≤ 2985984000000 := by
  obtain ⟨h1, h2⟩ := dprod_bd h k hk
  have hd := lcm_dprod h k hk
  have := Nat.le_of_dvd h1 hd
  have := pow_le h6
  exact ⟨Nat.pos_of_dvd_of_pos hd h1, by omega⟩
theorem lcm_step (a b : Nat) : a / Nat.gcd a b * b = Nat.lcm a b := by
  rw [Nat.lcm, Nat.mul_comm, ← Nat.mul_div_assoc _ (Nat.gcd_dvd_left a b), Nat.mul_comm]
def leastR (xs : List (Int × Int)) : Int × Int := if trainB xs = true then ((lcmTo xs xs.length : Int), 0) else (0, 1)
theorem leastR_bad {xs : List (Int × Int)} (h : trainB xs = false) : leastR xs = (0, 1) := by simp [leastR, h]
theorem leastR_ok {xs : List (Int × Int)} (h : trainB xs = true) : leastR xs = ((lcmTo xs xs.length : Int), 0) := by simp [leastR, h]

/-- The train that is driven from its end. -/
def swapP (x : Int × Int) : Int × Int := (x.2, x.1)
def backL (xs : List (Int × Int)) : List (Int × Int) := xs.reverse.map swapP
def backR' (xs : List (Int × Int)) : List (Int × Int) × Int := if trainB xs = true then (backL xs, 0) else ([], 1)
theorem backR'_bad {xs : List (Int × Int)} (h : trainB xs = false) : backR' xs = ([], 1) := by simp [backR', h]
theorem backR'_ok {xs : List (Int × Int)} (h : trainB xs = true) : backR' xs = (backL xs, 0) := by simp [backR', h]
/-- What has come when the pairs from j on have been turned. -/
def backTo (xs : List (Int × Int)) (j : Nat) : List (Int × Int) := (xs.drop j).reverse.map swapP
theorem backTo_all (xs : List (Int × Int)) : backTo xs 0 = backL xs := rfl
theorem backTo_len (xs : List (Int × Int)) : backTo xs xs.length = [] := by simp [backTo]
theorem backTo_step {xs : List (Int × Int)} {j : Nat} (hj : j < xs.length) : backTo xs j = backTo xs (j + 1) ++ [swapP (elt pairF xs j)] := by
  rw [backTo, dropE (F := pairF) hj]; simp [backTo]
theorem backTo_length (xs : List (Int × Int)) (j : Nat) : (backTo xs j).length = xs.length - j := by simp [backTo]
def joinR (xs ys : List (Int × Int)) : List (Int × Int) × Int :=
  if trainB xs = true ∧ trainB ys = true then (if xs.length + ys.length ≤ 6 then (xs ++ ys, 0) else ([], 5)) else ([], 1)
theorem joinR_bad {xs ys : List (Int × Int)} (h : trainB xs = false ∨ trainB ys = false) : joinR xs ys = ([], 1) := by
  rw [joinR, if_neg]; rintro ⟨h1, h2⟩; rcases h with h | h <;> simp_all
theorem joinR_full {xs ys : List (Int × Int)} (h1 : trainB xs = true) (h2 : trainB ys = true) (h : ¬ xs.length + ys.length ≤ 6) : joinR xs ys = ([], 5) := by rw [joinR, if_pos ⟨h1, h2⟩, if_neg h]
theorem joinR_ok {xs ys : List (Int × Int)} (h1 : trainB xs = true) (h2 : trainB ys = true) (h : xs.length + ys.length ≤ 6) : joinR xs ys = (xs ++ ys, 0) := by rw [joinR, if_pos ⟨h1, h2⟩, if_pos h]

/-- The first factor of n from p on, of k, that is as wanted; 0 for none. -/
def fF (n : Nat) : Nat → Nat → Nat
  | 0, _ => 0
  | k + 1, p => if n % p = 0 ∧ n / p ≤ 60 then p else fF n k (p + 1)
theorem fF_hit {n k p : Nat} (h : n % p = 0 ∧ n / p ≤ 60) : fF n (k + 1) p = p := by simp [fF, h]
theorem fF_miss {n k p : Nat} (h : ¬ (n % p = 0 ∧ n / p ≤ 60)) : fF n (k + 1) p = fF n k (p + 1) := by simp only [fF, if_neg h]
theorem fF_le {n : Nat} : ∀ k p, fF n k p < p + k ∨ fF n k p = 0
  | 0, _ => .inr rfl
  | k + 1, p => by
    unfold fF; split
    · exact .inl (by omega)
    · have := fF_le (n := n) k (p + 1); omega
theorem fF_past {n : Nat} (hn : 1 ≤ n) : ∀ k p, n < p → fF n k p = 0
  | 0, _, _ => rfl
  | k + 1, p, hp => by
    rw [fF_miss (by rw [Nat.mod_eq_of_lt hp]; omega)]
    exact fF_past hn k (p + 1) (by omega)
theorem fF_spec {n : Nat} : ∀ k p, fF n k p ≠ 0 → n % fF n k p = 0 ∧ n / fF n k p ≤ 60 ∧ p ≤ fF n k p
  | 0, _, h => absurd rfl h
  | k + 1, p, h => by
    by_cases hc : n % p = 0 ∧ n / p ≤ 60
    · rw [fF_hit hc]; exact ⟨hc.1, hc.2, Nat.le_refl _⟩
    · rw [fF_miss hc] at h ⊢
      have := fF_spec k (p + 1) h
      exact ⟨this.1, this.2.1, by omega⟩
def findL (n d : Nat) : List (Int × Int) := [(2 * (fF n 60 1 : Int), 2 * (fF d 60 1 : Int)), (2 * ((n / fF n 60 1 : Nat) : Int), 2 * ((d / fF d 60 1 : Nat) : Int))]
def findC (n d : Nat) : List (Int × Int) × Int := if fF n 60 1 ≠ 0 ∧ fF d 60 1 ≠ 0 then (findL n d, 0) else ([], 3)
def findR (num den : Int) : List (Int × Int) × Int :=
  if inB num 1 1000000 = true ∧ inB den 1 1000000 = true then findC (red num den.toNat).num.natAbs (red num den.toNat).den else ([], 2)
theorem findR_bad {num den : Int} (h : inB num 1 1000000 = false ∨ inB den 1 1000000 = false) : findR num den = ([], 2) := by
  rw [findR, if_neg]; rintro ⟨h1, h2⟩; rcases h with h | h <;> simp_all
theorem findR_ok {num den : Int} (h1 : inB num 1 1000000 = true) (h2 : inB den 1 1000000 = true) : findR num den = findC (red num den.toNat).num.natAbs (red num den.toNat).den := by rw [findR, if_pos ⟨h1, h2⟩]

/-- Does each place of a chain differ from the next one by at most the play? -/
def joinedAt (pl ps : List Int) (k : Nat) : Bool := decide (nth ps (k + 1) - nth ps k ≤ nth pl k ∧ nth ps k - nth ps (k + 1) ≤ nth pl k)
def joinedTo (pl ps : List Int) : Nat → Bool
  | 0 => true
  | k + 1 => joinedTo pl ps k && joinedAt pl ps k
theorem joinedTo_all {pl ps : List Int} : ∀ {n : Nat}, joinedTo pl ps n = true ↔ ∀ k, k < n → joinedAt pl ps k = true
  | 0 => by simp [joinedTo]
  | n + 1 => by
    rw [joinedTo, Bool.and_eq_true, joinedTo_all]
    constructor
    · rintro ⟨h1, h2⟩ k hk
      rcases Nat.lt_or_ge k n with h | h
      · exact h1 k h
      · obtain rfl : k = n := by omega
        exact h2
    · intro h; exact ⟨fun k hk => h k (by omega), h n (by omega)⟩
theorem joinedTo_bad {pl ps : List Int} {n k : Nat} (hk : k < n) (h : joinedAt pl ps k = false) : joinedTo pl ps n = false := by
  cases hj : joinedTo pl ps n with
  | false => rfl
  | true => rw [joinedTo_all.1 hj k hk] at h; cases h
/-- Are all numbers from lo to hi? -/
def rangeB (lo hi : Int) (zs : List Int) : Bool := zs.all fun z => inB z lo hi
theorem rangeB_true {lo hi : Int} {zs : List Int} : rangeB lo hi zs = true ↔ ∀ z ∈ zs, inB z lo hi = true := by simp [rangeB]
theorem nth_mem {zs : List Int} {k : Nat} (hk : k < zs.length) : nth zs k ∈ zs := by rw [nth_get hk]; exact List.getElem_mem _
theorem rangeB_bad {lo hi : Int} {zs : List Int} {k : Nat} (hk : k < zs.length) (h : inB (nth zs k) lo hi = false) : rangeB lo hi zs = false := by
  cases hp : rangeB lo hi zs with
  | false => rfl
  | true => rw [rangeB_true.1 hp _ (nth_mem hk)] at h; cases h
theorem rangeB_at {lo hi : Int} {zs : List Int} {k : Nat} (h : rangeB lo hi zs = true) (hk : k < zs.length) : lo ≤ nth zs k ∧ nth zs k ≤ hi := inB_true (rangeB_true.1 h _ (nth_mem hk))
theorem rangeB_allT {lo hi : Int} {zs : List Int} (h : ∀ z ∈ zs.take zs.length, inB z lo hi = true) : rangeB lo hi zs = true := by
  rw [List.take_of_length_le (Nat.le_refl _)] at h; exact rangeB_true.2 h
def linksB (pl ps : List Int) : Bool := decide ((1 ≤ pl.length ∧ pl.length ≤ 10) ∧ ps.length = pl.length + 1)
theorem linksB_true {pl ps : List Int} (h : linksB pl ps = true) : (1 ≤ pl.length ∧ pl.length ≤ 10) ∧ ps.length = pl.length + 1 := by simpa [linksB] using h
theorem linksB_false {pl ps : List Int} (h : linksB pl ps = false) : (pl.length < 1 ∨ 10 < pl.length) ∨ ((1 ≤ pl.length ∧ pl.length ≤ 10) ∧ ps.length ≠ pl.length + 1) := by simp [linksB] at h; omega
/-- A chain. -/
def chainB (pl ps : List Int) : Bool := linksB pl ps && (rangeB 0 100 pl && (rangeB (-1000000) 1000000 ps && joinedTo pl ps pl.length))
structure ChainOf (pl ps : List Int) : Prop where
  n0 : 1 ≤ pl.length
  n1 : pl.length ≤ 10
  ln : ps.length = pl.length + 1
  play : ∀ k, k < pl.length → 0 ≤ nth pl k ∧ nth pl k ≤ 100
  place : ∀ k, k < ps.length → -1000000 ≤ nth ps k ∧ nth ps k ≤ 1000000
  join : ∀ k, k < pl.length → nth ps (k + 1) - nth ps k ≤ nth pl k ∧ nth ps k - nth ps (k + 1) ≤ nth pl k
theorem chain_of {pl ps : List Int} (h : chainB pl ps = true) : ChainOf pl ps := by
  simp only [chainB, Bool.and_eq_true] at h
  obtain ⟨h1, h2, h3, h4⟩ := h
  have := linksB_true h1
  exact ⟨this.1.1, this.1.2, this.2, fun k hk => rangeB_at h2 hk, fun k hk => rangeB_at h3 hk, fun k hk => by simpa [joinedAt] using joinedTo_all.1 h4 k hk⟩
/-- Equal chains (a word that the walk does not open). -/
def chEqB (p p' q q' : List Int) : Bool := decide (p = p' ∧ q = q')
theorem chEqB_self (p q : List Int) : chEqB p p q q = true := by simp [chEqB]

/-- Where place k goes if the first one moves. -/
def mvF (pl ps : List Int) (to : Int) : Nat → Int
  | 0 => to
  | k + 1 => min (max (nth ps (k + 1)) (mvF pl ps to k - nth pl k)) (mvF pl ps to k + nth pl k)
theorem mvF_bd {pl ps : List Int} (h : ChainOf pl ps) {to : Int} (h0 : -1000000 ≤ to) (h1 : to ≤ 1000000) : ∀ k, k ≤ pl.length → -1001000 ≤ mvF pl ps to k ∧ mvF pl ps to k ≤ 1001000
  | 0, _ => by simp only [mvF]; omega
  | k + 1, hk => by
    have b := mvF_in h h0 h1 (k + 1) hk
    have := h.n1
    have : ((k + 1 : Nat) : Int) ≤ 10 := by omega
    omega
where mvF_in {pl ps : List Int} (h : ChainOf pl ps) {to : Int} (h0 : -1000000 ≤ to) (h1 : to ≤ 1000000) : ∀ k, k ≤ pl.length → -1000000 - 100 * (k : Int) ≤ mvF pl ps to k ∧ mvF pl ps to k ≤ 1000000 + 100 * (k : Int)
  | 0, _ => by simp only [mvF]; omega
  | k + 1, hk => by
    have b := mvF_in h h0 h1 k (by omega)
    have p := h.play k (by omega)
    have q := h.place (k + 1) (by have := h.ln; omega)
    simp only [mvF]; omega
def mvL (pl ps : List Int) (to : Int) : List Int := tab (mvF pl ps to) (pl.length + 1)
def mvR (pl ps : List Int) (to : Int) : List Int × List Int × Int :=
  if chainB pl ps = true then (if inB to (-1000000) 1000000 = true then (pl, mvL pl ps to, 0) else ([], [], 2)) else ([], [], 1)
theorem mvR_bad {pl ps : List Int} {to : Int} (h : chainB pl ps = false) : mvR pl ps to = ([], [], 1) := by simp [mvR, h]
theorem mvR_range {pl ps : List Int} {to : Int} (h : chainB pl ps = true) (ht : inB to (-1000000) 1000000 = false) : mvR pl ps to = ([], [], 2) := by simp [mvR, h, ht]
theorem mvR_ok {pl ps : List Int} {to : Int} (h : chainB pl ps = true) (ht : inB to (-1000000) 1000000 = true) : mvR pl ps to = (pl, mvL pl ps to, 0) := by simp [mvR, h, ht]
/-- The sum of the first k. -/
def sumTo (zs : List Int) : Nat → Int
  | 0 => 0
  | k + 1 => sumTo zs k + nth zs k
theorem sumTo_bd {pl ps : List Int} (h : ChainOf pl ps) : ∀ k, k ≤ pl.length → 0 ≤ sumTo pl k ∧ sumTo pl k ≤ 100 * (k : Int)
  | 0, _ => by simp [sumTo]
  | k + 1, hk => by
    have := sumTo_bd h k (by omega)
    have := h.play k (by omega)
    simp only [sumTo]; omega
def totR (pl ps : List Int) : Int × Int := if chainB pl ps = true then (sumTo pl pl.length, 0) else (0, 1)
theorem totR_bad {pl ps : List Int} (h : chainB pl ps = false) : totR pl ps = (0, 1) := by simp [totR, h]
theorem totR_ok {pl ps : List Int} (h : chainB pl ps = true) : totR pl ps = (sumTo pl pl.length, 0) := by simp [totR, h]
def needTo (pl ps : List Int) (g : Int) : Int := if nth ps pl.length < g then g + sumTo pl pl.length else if g < nth ps pl.length then g - sumTo pl pl.length else nth ps 0
def needR (pl ps : List Int) (g : Int) : Int × Int :=
  if chainB pl ps = true then (if inB g (-1000000) 1000000 = true ∧ inB (needTo pl ps g) (-1000000) 1000000 = true then (needTo pl ps g, 0) else (0, 2)) else (0, 1)
theorem needR_bad {pl ps : List Int} {g : Int} (h : chainB pl ps = false) : needR pl ps g = (0, 1) := by simp [needR, h]
theorem needR_range {pl ps : List Int} {g : Int} (h : chainB pl ps = true) (ht : inB g (-1000000) 1000000 = false ∨ inB (needTo pl ps g) (-1000000) 1000000 = false) : needR pl ps g = (0, 2) := by
  rw [needR, if_pos h, if_neg]; rintro ⟨h1, h2⟩; rcases ht with h | h <;> simp_all
theorem needR_ok {pl ps : List Int} {g : Int} (h : chainB pl ps = true) (h1 : inB g (-1000000) 1000000 = true) (h2 : inB (needTo pl ps g) (-1000000) 1000000 = true) : needR pl ps g = (needTo pl ps g, 0) := by
  rw [needR, if_pos h, if_pos ⟨h1, h2⟩]
theorem all_takeZ {zs : List Int} {p : Int → Prop} {k : Nat} (hk : k < zs.length) (h : ∀ d ∈ zs.take k, p d) (hn : p (nth zs k)) : ∀ d ∈ zs.take (k + 1), p d := by
  rw [List.take_succ_eq_append_getElem hk, ← nth_get hk]
  intro d hd
  rcases List.mem_append.1 hd with h1 | h1
  · exact h d h1
  · rw [List.mem_singleton] at h1; subst h1; exact hn
end Go.Proofs.YtlahobdopmdfmaaGreatDoor

/- Within -/
namespace Go.Proofs.YtlahobdopmdfmaaGreatDoor
open Go.RowKit

set_option maxHeartbeats 1000000 in
theorem within_any (lo hi : Int) (a : Option Addr) (c : Nat) (zs : List Int) (w : World) (ha : Rd w a zs) :
    Calls Tryz.prog 74 #[.int .i64 lo, .int .i64 hi, .slice a zs.length c] w fun e w' => e = .returned (.bool (rangeB lo hi zs)) ∧ w' = w := by
  have hx := ha.len
  go_enter Tryz.func74, Tryz.ntmps74
  go_wp2
  go_loop [8, 11] (fun _ i => ∃ k : Nat, k ≤ zs.length ∧ i = .int .i64 k ∧ Hid (∀ d ∈ zs.take k, inB d lo hi = true)) (fun _ i => zs.length - (intOf i).toNat)
  case atStart => exact ⟨0, Nat.zero_le _, rfl, Lib.hid (by simp)⟩
  case round =>
    obtain ⟨k, hk, rfl, HT⟩ := hrel
    by_cases hlt : k < zs.length
    · obtain ⟨p, off, rfl, hc⟩ := ha.at_ hlt
      cases hd : inB (nth zs k) lo hi with
      | true =>
        have HT' := Lib.hid (all_takeZ (p := fun d => inB d lo hi = true) hlt HT.out hd)
        obtain ⟨hd1, hd2⟩ := inB_true hd
        clear hd
        go_wp2
        go_round
        case rel => exact ⟨k + 1, by omega, by go_num, HT'⟩
        case measure => (simp [intOf]) <;> omega
      | false =>
        have HF := Lib.hid (rangeB_bad hlt hd)
        have hd' : nth zs k < lo ∨ (lo ≤ nth zs k ∧ hi < nth zs k) := by have := inB_false hd; omega
        clear hd
        rcases hd' with h1 | ⟨h1, h2⟩
        all_goals
          go_wp2
          go_ret
          exact ⟨ret_bool HF.out.symm, rfl⟩
    · obtain rfl : k = zs.length := by omega
      have HD := Lib.hid (rangeB_allT HT.out)
      go_wp2
      go_ret
      exact ⟨ret_bool HD.out.symm, rfl⟩

theorem within1 (lo hi z : Int) : rangeB lo hi [z] = inB z lo hi := by simp [rangeB]
theorem within2 (lo hi : Int) (x : Int × Int) : rangeB lo hi [x.1, x.2] = (inB x.1 lo hi && inB x.2 lo hi) := by simp [rangeB]
theorem rd_new1 (w : World) (z : Int) (t : TypeId) : Rd (w.alloc (.cells #[.int .i64 z] t)) (some ⟨w.heap.size, 0, none⟩) [z] :=
  ⟨by simp, fun _ => ⟨_, 0, rfl, fun i hi => by
    obtain rfl : i = 0 := by simp at hi; omega
    exact (Bx.new w #[.int .i64 z] t).at_ 0 rfl⟩⟩
theorem rd_new2 (w : World) (y z : Int) (t : TypeId) : Rd (w.alloc (.cells #[.int .i64 y, .int .i64 z] t)) (some ⟨w.heap.size, 0, none⟩) [y, z] :=
  ⟨by simp, fun _ => ⟨_, 0, rfl, fun i hi => by
    simp at hi
    obtain rfl | rfl : i = 0 ∨ i = 1 := by omega
    · exact (Bx.new w #[.int .i64 y, .int .i64 z] t).at_ 0 rfl
    · exact (Bx.new w #[.int .i64 y, .int .i64 z] t).at_ 1 rfl⟩⟩
theorem rd_at1 {w : World} {g : Nat} {z : Int} (h : w.cell? ⟨g, 0, none⟩ = some (.int .i64 z)) : Rd w (some ⟨g, 0, none⟩) [z] :=
  ⟨by simp, fun _ => ⟨_, 0, rfl, fun i hi => by
    obtain rfl : i = 0 := by simp at hi; omega
    exact h⟩⟩
theorem rd_at2 {w : World} {g : Nat} {y z : Int} (h0 : w.cell? ⟨g, 0, none⟩ = some (.int .i64 y)) (h1 : w.cell? ⟨g, 1, none⟩ = some (.int .i64 z)) : Rd w (some ⟨g, 0, none⟩) [y, z] :=
  ⟨by simp, fun _ => ⟨_, 0, rfl, fun i hi => by
    simp at hi
    obtain rfl | rfl : i = 0 ∨ i = 1 := by omega
    · exact h0
    · exact h1⟩⟩
/-- One number laid into a slice of its own, asked. -/
theorem within1_at (lo hi z : Int) (w : World) (g c : Nat) (h : w.cell? ⟨g, 0, none⟩ = some (.int .i64 z)) :
    Calls Tryz.prog 74 #[.int .i64 lo, .int .i64 hi, .slice (some ⟨g, 0, none⟩) 1 c] w fun e w' => e = .returned (.bool (inB z lo hi)) ∧ w' = w := by
  have := within_any lo hi _ c [z] _ (rd_at1 h)
  rwa [within1] at this
theorem within2_at (lo hi y z : Int) (w : World) (g c : Nat) (h0 : w.cell? ⟨g, 0, none⟩ = some (.int .i64 y)) (h1 : w.cell? ⟨g, 1, none⟩ = some (.int .i64 z)) :
    Calls Tryz.prog 74 #[.int .i64 lo, .int .i64 hi, .slice (some ⟨g, 0, none⟩) 2 c] w fun e w' => e = .returned (.bool (inB y lo hi && inB z lo hi)) ∧ w' = w := by
  have := within_any lo hi _ c [y, z] _ (rd_at2 h0 h1)
  rwa [show rangeB lo hi [y, z] = (inB y lo hi && inB z lo hi) by simp [rangeB]] at this
end Go.Proofs.YtlahobdopmdfmaaGreatDoor

/- PowS -/
namespace Go.Proofs.YtlahobdopmdfmaaGreatDoor
open Go.RowKit

set_option maxHeartbeats 1000000 in
theorem l10Power_any (B : Int) (n : Nat) (w : World) (b1 : 1 ≤ B) (b2 : B ≤ 16) (hn : n ≤ 16) :
    Calls Tryz.prog 111 #[.int .i64 B, .int .i64 n] w fun e w' => e = .returned (.int .i64 (capW B n)) ∧ w' = w := by
  go_enter Tryz.func111, Tryz.ntmps111
  go_wp2
  go_loop [1, 5] (fun i o => ∃ k m : Nat, k + m = n ∧ i = .int .i64 m ∧ o = .int .i64 (capW B k)) (fun i _ => (intOf i).toNat)
  case atStart => exact ⟨0, n, by omega, rfl, by rw [capW_zero]⟩
  case round =>
    obtain ⟨k, m, hkm, rfl, rfl⟩ := hrel
    by_cases hlt : 0 < m
    · have hb := capW_bd b1 k
      have hm0 : capW B k * B ≤ 1000000000002 * 16 := Int.mul_le_mul hb.2 b2 (by omega) (by omega)
      have hm1 : 0 ≤ capW B k * B := Int.mul_nonneg (by omega) (by omega)
      have hs := Lib.hid (capW_succ b1 k)
      obtain ⟨q, hq⟩ : ∃ q, q = capW B k * B := ⟨_, rfl⟩
      rw [← hq] at hs hm0 hm1
      have hw1 : IntKind.i64.wrap (capW B k * B) = q := by rw [← hq]; exact IntWalk.i64_in _ (by omega)
      have hw2 : wrap64 (capW B k * B) = q := by rw [← hq]; unfold wrap64; omega
      clear hq hm0 hm1
      go_wp2_with (go_at_call 83; refine (l00Min_any _ _ _).mono ?_; rintro e w1 ⟨rfl, rfl⟩)
      go_round
      case rel => exact ⟨k + 1, m - 1, by omega, by go_num, by rw [← hs.out]⟩
      case measure => simp [intOf]; omega
    · obtain rfl : m = 0 := by omega
      obtain rfl : k = n := by omega
      go_wp2
      go_ret
      exact ⟨rfl, rfl⟩

theorem l10Full_any (B : Int) (n : Nat) (w : World) (b1 : 1 ≤ B) (b2 : B ≤ 16) (hn : n ≤ 16) :
    Calls Tryz.prog 71 #[.int .i64 B, .int .i64 n] w fun e w' => e = .returned (.bool (decide (B ^ n - 1 ≤ 1000000000000))) ∧ w' = w := by
  have hb := capW_bd b1 n
  have ht := Lib.hid (show decide (capW B n - 1 ≤ 1000000000000) = decide (B ^ n - 1 ≤ 1000000000000) from decide_eq_decide.2 capW_test)
  go_enter Tryz.func71, Tryz.ntmps71
  go_wp2_with fail
  refine (l10Power_any B n _ b1 b2 hn).mono ?_
  rintro e w1 ⟨rfl, rfl⟩
  go_wp2
  go_ret
  exact ⟨ret_bool ht.out, rfl⟩

end Go.Proofs.YtlahobdopmdfmaaGreatDoor

/- AccS -/
namespace Go.Proofs.YtlahobdopmdfmaaGreatDoor
open Go.RowKit

theorem mod_twiceS {n c : Int} (hc : 1 ≤ c) : -c < n.tmod c ∧ n.tmod c < c ∧ (n.tmod c + c).tmod c = n % c := by
  have h1 : n.tmod c < c := Int.tmod_lt_of_pos _ (by omega)
  have h2 : -c < n.tmod c := by
    have := Int.tmod_lt_of_pos (-n) (show 0 < c by omega)
    rw [Int.neg_tmod] at this; omega
  refine ⟨h2, h1, ?_⟩
  rw [Int.tmod_eq_emod_of_nonneg (by omega), Int.add_emod_right]
  have e := Int.mul_tdiv_add_tmod n c
  conv => rhs; rw [← e, Int.add_comm, Int.add_mul_emod_self_left]

/-- A register of its own. -/
def RegV (B : Int) (zs : List Int) (w : World) (e : Ending) (w' : World) : Prop := ∃ A C,
  e = .returned (.agg #[.int .i64 B, .slice A zs.length C]) ∧ Own 2 w' w.heap.size w'.heap.size (.slice A zs.length C) zs ∧ Below w.heap.size w w'

end Go.Proofs.YtlahobdopmdfmaaGreatDoor

/- AccO -/
namespace Go.Proofs.YtlahobdopmdfmaaGreatDoor
open Go.RowKit

theorem l10Full_at {v : Bool} (B : Int) (n : Nat) (w : World) (b1 : 1 ≤ B) (b2 : B ≤ 16) (hn : n ≤ 16) (hv : decide (B ^ n - 1 ≤ 1000000000000) = v) :
    Calls Tryz.prog 71 #[.int .i64 B, .int .i64 n] w fun e w' => e = .returned (.bool v) ∧ w' = w := hv ▸ l10Full_any B n w b1 b2 hn

end Go.Proofs.YtlahobdopmdfmaaGreatDoor

/- InB -/
namespace Go.Proofs.YtlahobdopmdfmaaGreatDoor
open Go.RowKit

theorem l00In_b (n lo hi : Int) (w : World) : Calls Tryz.prog 72 #[.int .i64 n, .int .i64 lo, .int .i64 hi] w fun e w' => e = .returned (.bool (inB n lo hi)) ∧ Below w.heap.size w w' :=
  (l00In_any n lo hi w).mono fun e w' ⟨a, b⟩ => ⟨a, by rw [b]; exact Below.refl _ _⟩
end Go.Proofs.YtlahobdopmdfmaaGreatDoor

/- MacLow -/
/- Own3 -/
namespace Go.Proofs.YtlahobdopmdfmaaGreatDoor
open Go.RowKit

/-- A machine: setting, result, count, place. -/
structure Mac where
  b1 : Int
  z1 : List Int
  b2 : Int
  z2 : List Int
  b3 : Int
  z3 : List Int
  p : Int

/-- Three rows that can be read. -/
structure Rd3 (w : World) (a1 : Option Addr) (z1 : List Int) (a2 : Option Addr) (z2 : List Int) (a3 : Option Addr) (z3 : List Int) : Prop where
  x : Rd w a1 z1
  y : Rd w a2 z2
  z : Rd w a3 z3
section
variable {w w' : World} {a1 a2 a3 : Option Addr} {z1 z2 z3 : List Int}
theorem Rd3.below (h : Rd3 w a1 z1 a2 z2 a3 z3) (hb : Below w.heap.size w w') : Rd3 w' a1 z1 a2 z2 a3 z3 := ⟨h.x.below hb, h.y.below hb, h.z.below hb⟩
theorem Rd3.drewN (h : Rd3 w a1 z1 a2 z2 a3 z3) (n : Nat) : Rd3 (w.drewN n) a1 z1 a2 z2 a3 z3 := ⟨h.x.drewN n, h.y.drewN n, h.z.drewN n⟩
theorem Rd3.len (h : Rd3 w a1 z1 a2 z2 a3 z3) : z1.length ≤ 1000000000 ∧ z2.length ≤ 1000000000 ∧ z3.length ≤ 1000000000 := ⟨h.x.len, h.y.len, h.z.len⟩

/-- Three rows that came in: of whatever length. -/
structure Raw3 (w : World) (a1 : Option Addr) (z1 : List Int) (a2 : Option Addr) (z2 : List Int) (a3 : Option Addr) (z3 : List Int) : Prop where
  x : Raw w a1 z1
  y : Raw w a2 z2
  z : Raw w a3 z3
theorem Raw3.len (h : Raw3 w a1 z1 a2 z2 a3 z3) : z1.length ≤ 9223372036854775807 ∧ z2.length ≤ 9223372036854775807 ∧ z3.length ≤ 9223372036854775807 := ⟨h.x.len, h.y.len, h.z.len⟩
theorem Raw3.wf (h : Raw3 w a1 z1 a2 z2 a3 z3) : All64 z1 ∧ All64 z2 ∧ All64 z3 := ⟨h.x.wf, h.y.wf, h.z.wf⟩
theorem Raw3.rd (h : Raw3 w a1 z1 a2 z2 a3 z3) (hl : z1.length + z2.length + z3.length ≤ 1000000000) : Rd3 w a1 z1 a2 z2 a3 z3 := ⟨h.x.rd (by omega), h.y.rd (by omega), h.z.rd (by omega)⟩
end

/-- Three slices of the call's own, among the blocks lo .. hi - 1, apart from each other. -/
structure Own3 (t : TypeId) (w : World) (lo hi : Nat) (u1 : Value) (z1 : List Int) (u2 : Value) (z2 : List Int) (u3 : Value) (z3 : List Int) : Prop where
  ex : ∃ l1 h1 l2 h2 l3 h3, Own t w l1 h1 u1 z1 ∧ Own t w l2 h2 u2 z2 ∧ Own t w l3 h3 u3 z3 ∧ lo ≤ l1 ∧ h1 ≤ hi ∧ lo ≤ l2 ∧ h2 ≤ hi ∧ lo ≤ l3 ∧ h3 ≤ hi ∧ (h1 ≤ l2 ∨ h2 ≤ l1) ∧ (h1 ≤ l3 ∨ h3 ≤ l1) ∧ (h2 ≤ l3 ∨ h3 ≤ l2)
section
variable {t : TypeId} {w w' : World} {lo hi : Nat} {u1 u2 u3 : Value} {z1 z2 z3 : List Int}
theorem Own3.touch {a b : Nat} (h : Own3 t w lo hi u1 z1 u2 z2 u3 z3) (ht : Touch a b w w') (hd : hi ≤ a ∨ b ≤ lo) : Own3 t w' lo hi u1 z1 u2 z2 u3 z3 := by
  obtain ⟨l1, h1, l2, h2, l3, h3, o1, o2, o3, s⟩ := h.ex
  exact ⟨l1, h1, l2, h2, l3, h3, o1.touch ht (by omega), o2.touch ht (by omega), o3.touch ht (by omega), s⟩
theorem Own3.below (h : Own3 t w lo hi u1 z1 u2 z2 u3 z3) (hb : Below w.heap.size w w') : Own3 t w' lo hi u1 z1 u2 z2 u3 z3 := by
  obtain ⟨l1, h1, l2, h2, l3, h3, o1, o2, o3, s⟩ := h.ex
  exact ⟨l1, h1, l2, h2, l3, h3, o1.below hb, o2.below hb, o3.below hb, s⟩
theorem Own3.low {L : Nat} (h : Own3 t w lo hi u1 z1 u2 z2 u3 z3) (hb : Below L w w') (hg : hi ≤ L) : Own3 t w' lo hi u1 z1 u2 z2 u3 z3 := by
  obtain ⟨l1, h1, l2, h2, l3, h3, o1, o2, o3, s⟩ := h.ex
  exact ⟨l1, h1, l2, h2, l3, h3, Own.lo o1 hb (by omega), Own.lo o2 hb (by omega), Own.lo o3 hb (by omega), s⟩
theorem Own3.drewN (h : Own3 t w lo hi u1 z1 u2 z2 u3 z3) (n : Nat) : Own3 t (w.drewN n) lo hi u1 z1 u2 z2 u3 z3 := h.below (bel_drewN (Below.refl _ _) n)
theorem Own3.drew (h : Own3 t w lo hi u1 z1 u2 z2 u3 z3) : Own3 t w.drew lo hi u1 z1 u2 z2 u3 z3 := h.below ((Below.refl _ _).drew)
theorem Own3.alloc (h : Own3 t w lo hi u1 z1 u2 z2 u3 z3) (o : Obj) : Own3 t (w.alloc o) lo hi u1 z1 u2 z2 u3 z3 := h.below ((Below.refl _ _).alloc (Nat.le_refl _) o)
theorem Own3.setCell (h : Own3 t w lo hi u1 z1 u2 z2 u3 z3) {p : Addr} (hp : p.block < lo ∨ hi ≤ p.block) (x : Value) : Own3 t (w.setCell p x) lo hi u1 z1 u2 z2 u3 z3 := by
  obtain ⟨l1, h1, l2, h2, l3, h3, o1, o2, o3, s⟩ := h.ex
  exact ⟨l1, h1, l2, h2, l3, h3, o1.setCell (by omega) x, o2.setCell (by omega) x, o3.setCell (by omega) x, s⟩
theorem Own3.wide {lo' hi' : Nat} (h : Own3 t w lo hi u1 z1 u2 z2 u3 z3) (hl : lo' ≤ lo) (hh : hi ≤ hi') : Own3 t w lo' hi' u1 z1 u2 z2 u3 z3 := by
  obtain ⟨l1, h1, l2, h2, l3, h3, o1, o2, o3, s⟩ := h.ex
  exact ⟨l1, h1, l2, h2, l3, h3, o1, o2, o3, by omega⟩
theorem Own3.len (h : Own3 t w lo hi u1 z1 u2 z2 u3 z3) : z1.length ≤ 1000000000 ∧ z2.length ≤ 1000000000 ∧ z3.length ≤ 1000000000 := by
  obtain ⟨l1, h1, l2, h2, l3, h3, o1, o2, o3, s⟩ := h.ex
  exact ⟨o1.len, o2.len, o3.len⟩
theorem Own3.rd {a b d : Option Addr} {n c m e k f : Nat} (h : Own3 t w lo hi (.slice a n c) z1 (.slice b m e) z2 (.slice d k f) z3) : Rd3 w a z1 b z2 d z3 := by
  obtain ⟨l1, h1, l2, h2, l3, h3, o1, o2, o3, s⟩ := h.ex
  exact ⟨o1.rd, o2.rd, o3.rd⟩
theorem own3_nil (t : TypeId) (w : World) (lo hi : Nat) (hl : lo ≤ hi) : Own3 t w lo hi (.slice none 0 0) [] (.slice none 0 0) [] (.slice none 0 0) [] :=
  have n : Own t w lo lo (.slice none 0 0) [] := ⟨World.ownsRow_nil _ _ _ _, by simp [Value.ownBlock], by simp⟩
  ⟨lo, lo, lo, lo, lo, lo, n, n, n, by omega⟩
end

theorem bx_put7 {X : World} {G : Nat} {t : TypeId} {a0 a1 a2 a3 a4 a5 a6 b0 b1 b2 b3 b4 b5 b6 : Value} (h : Bx X G t #[a0, a1, a2, a3, a4, a5, a6]) :
    Bx (((((((X.setCell ⟨G, 0, none⟩ b0).setCell ⟨G, 1, none⟩ b1).setCell ⟨G, 2, none⟩ b2).setCell ⟨G, 3, none⟩ b3).setCell ⟨G, 4, none⟩ b4).setCell ⟨G, 5, none⟩ b5).setCell ⟨G, 6, none⟩ b6) G t #[b0, b1, b2, b3, b4, b5, b6] := by
  have h1 : Bx (X.setCell ⟨G, 0, none⟩ b0) G t #[b0, a1, a2, a3, a4, a5, a6] := h.set_ 0 b0
  have h2 : Bx ((X.setCell ⟨G, 0, none⟩ b0).setCell ⟨G, 1, none⟩ b1) G t #[b0, b1, a2, a3, a4, a5, a6] := h1.set_ 1 b1
  have h3 : Bx (((X.setCell ⟨G, 0, none⟩ b0).setCell ⟨G, 1, none⟩ b1).setCell ⟨G, 2, none⟩ b2) G t #[b0, b1, b2, a3, a4, a5, a6] := h2.set_ 2 b2
  have h4 : Bx ((((X.setCell ⟨G, 0, none⟩ b0).setCell ⟨G, 1, none⟩ b1).setCell ⟨G, 2, none⟩ b2).setCell ⟨G, 3, none⟩ b3) G t #[b0, b1, b2, b3, a4, a5, a6] := h3.set_ 3 b3
  have h5 : Bx (((((X.setCell ⟨G, 0, none⟩ b0).setCell ⟨G, 1, none⟩ b1).setCell ⟨G, 2, none⟩ b2).setCell ⟨G, 3, none⟩ b3).setCell ⟨G, 4, none⟩ b4) G t #[b0, b1, b2, b3, b4, a5, a6] := h4.set_ 4 b4
  have h6 : Bx ((((((X.setCell ⟨G, 0, none⟩ b0).setCell ⟨G, 1, none⟩ b1).setCell ⟨G, 2, none⟩ b2).setCell ⟨G, 3, none⟩ b3).setCell ⟨G, 4, none⟩ b4).setCell ⟨G, 5, none⟩ b5) G t #[b0, b1, b2, b3, b4, b5, a6] := h5.set_ 5 b5
  have h7 : Bx (((((((X.setCell ⟨G, 0, none⟩ b0).setCell ⟨G, 1, none⟩ b1).setCell ⟨G, 2, none⟩ b2).setCell ⟨G, 3, none⟩ b3).setCell ⟨G, 4, none⟩ b4).setCell ⟨G, 5, none⟩ b5).setCell ⟨G, 6, none⟩ b6) G t #[b0, b1, b2, b3, b4, b5, b6] := h6.set_ 6 b6
  exact h7

theorem touch_put7 (X : World) (G : Nat) {b0 b1 b2 b3 b4 b5 b6 : Value} : Touch G (G + 1) X (((((((X.setCell ⟨G, 0, none⟩ b0).setCell ⟨G, 1, none⟩ b1).setCell ⟨G, 2, none⟩ b2).setCell ⟨G, 3, none⟩ b3).setCell ⟨G, 4, none⟩ b4).setCell ⟨G, 5, none⟩ b5).setCell ⟨G, 6, none⟩ b6) :=
  ((((((((Touch.refl G (G + 1) X).setCell (p := ⟨G, 0, none⟩) (Nat.le_refl _) (Nat.lt_succ_self _) b0).setCell (p := ⟨G, 1, none⟩) (Nat.le_refl _) (Nat.lt_succ_self _) b1).setCell (p := ⟨G, 2, none⟩) (Nat.le_refl _) (Nat.lt_succ_self _) b2).setCell (p := ⟨G, 3, none⟩) (Nat.le_refl _) (Nat.lt_succ_self _) b3).setCell (p := ⟨G, 4, none⟩) (Nat.le_refl _) (Nat.lt_succ_self _) b4).setCell (p := ⟨G, 5, none⟩) (Nat.le_refl _) (Nat.lt_succ_self _) b5).setCell (p := ⟨G, 6, none⟩) (Nat.le_refl _) (Nat.lt_succ_self _) b6)

/-- Two machines are equal (a word that the walk does not open). -/
def macEqB (m n : Mac) : Bool := regEqB m.b1 n.b1 m.z1 n.z1 && (regEqB m.b2 n.b2 m.z2 n.z2 && (regEqB m.b3 n.b3 m.z3 n.z3 && decide (m.p = n.p)))
theorem macEqB_self (m : Mac) : macEqB m m = true := by simp [macEqB, regEqB]
end Go.Proofs.YtlahobdopmdfmaaGreatDoor

/- MacM -/
namespace Go.Proofs.YtlahobdopmdfmaaGreatDoor
open Go.RowKit

/-! Digits of sums and differences. -/
theorem mval_app (b : Int) : ∀ xs ys : List Int, valR b (xs ++ ys) = valR b xs + b ^ xs.length * valR b ys
  | [], ys => by simp [valR]
  | x :: xs, ys => by
    simp only [List.cons_append, valR, mval_app b xs ys, List.length_cons, Int.pow_succ, Int.mul_add]
    rw [Int.mul_comm (b ^ xs.length) b, Int.mul_assoc]
    omega
theorem mval_zero (b : Int) : ∀ n : Nat, valR b (List.replicate n 0) = 0
  | 0 => rfl
  | n + 1 => by rw [List.replicate_succ, valR, mval_zero b n]; simp
theorem mval_snoc (b : Int) (zs : List Int) (d : Int) : valR b (zs ++ [d]) = valR b zs + d * b ^ zs.length := by
  rw [mval_app]; simp only [valR, Int.mul_zero, Int.add_zero]; rw [Int.mul_comm]
theorem mval_take {b : Int} {zs : List Int} {k : Nat} (h : k < zs.length) : valR b (zs.take (k + 1)) = valR b (zs.take k) + nth zs k * b ^ k := by
  rw [List.take_succ_eq_append_getElem h, ← nth_get h, mval_snoc, List.length_take, Nat.min_eq_left (by omega)]
theorem mval_tab (b : Int) (f : Nat → Int) (k : Nat) : valR b (tab f (k + 1)) = valR b (tab f k) + f k * b ^ k := by
  rw [tab_succ, mval_snoc, tab_len]
theorem msum_val {b : Int} {xs ys : List Int} (hl : ys.length = xs.length) : ∀ k, k ≤ xs.length → valR b (tab (sumD b xs ys) k) + cK b xs ys k * b ^ k = valR b (xs.take k) + valR b (ys.take k)
  | 0, _ => by simp [tab, valR, cK]
  | k + 1, hk => by
    have ih := msum_val (b := b) hl k (by omega)
    have ec : cK b xs ys (k + 1) = (nth xs k + nth ys k + cK b xs ys k) / b := rfl
    rw [mval_tab, mval_take (by omega), mval_take (by omega), ec, Int.pow_succ]
    have e := Int.emod_add_mul_ediv (nth xs k + nth ys k + cK b xs ys k) b
    have e2 : sumD b xs ys k = nth xs k + nth ys k + cK b xs ys k - b * ((nth xs k + nth ys k + cK b xs ys k) / b) := by unfold sumD; omega
    rw [e2]
    generalize (nth xs k + nth ys k + cK b xs ys k) / b = q
    rw [Int.sub_mul, Int.add_mul, Int.add_mul, show b * q * b ^ k = q * (b ^ k * b) by rw [Int.mul_comm b q, Int.mul_assoc, Int.mul_comm b]]
    omega
theorem msub_val {b : Int} {xs ys : List Int} (hl : ys.length = xs.length) : ∀ k, k ≤ xs.length → valR b (tab (subD b xs ys) k) - bK b xs ys k * b ^ k = valR b (xs.take k) - valR b (ys.take k)
  | 0, _ => by simp [tab, valR, bK]
  | k + 1, hk => by
    have ih := msub_val (b := b) hl k (by omega)
    rw [mval_tab, mval_take (by omega), mval_take (by omega), Int.pow_succ]
    simp only [subD, bK]
    split
    · rw [Int.add_mul, Int.sub_mul, Int.sub_mul, Int.one_mul, Int.mul_comm b (b ^ k)]
      omega
    · rw [Int.sub_mul, Int.sub_mul, Int.zero_mul]
      omega

/-- All are digits of the base. -/
def DigsM (b : Int) (zs : List Int) : Prop := ∀ d ∈ zs, 0 ≤ d ∧ d < b
theorem digsM_nth {b : Int} {zs : List Int} (h : DigsM b zs) {k : Nat} (hk : k < zs.length) : 0 ≤ nth zs k ∧ nth zs k < b := by
  rw [nth_get hk]; exact h _ (List.getElem_mem hk)
/-- The register after x has been added, modulo its size; whether it goes round. -/
def movZ (b : Int) (zs : List Int) (x : Int) : List Int := digsR b zs.length ((valR b zs + x) % b ^ zs.length)
def movO (b : Int) (zs : List Int) (x : Int) : Bool := !decide (0 ≤ valR b zs + x ∧ valR b zs + x ≤ b ^ zs.length - 1)
theorem movZ_len (b : Int) (zs : List Int) (x : Int) : (movZ b zs x).length = zs.length := digsR_len _ _ _
theorem movZ_val {b : Int} (b0 : 1 ≤ b) (zs : List Int) (x : Int) : valR b (movZ b zs x) = (valR b zs + x) % b ^ zs.length := by
  have hp := pow_pos' b0 zs.length
  exact valR_digs b0 _ _ (Int.emod_nonneg _ (by omega)) (Int.emod_lt_of_pos _ (by omega))
theorem movZ_digs {b : Int} (b0 : 1 ≤ b) (zs : List Int) (x : Int) : DigsM b (movZ b zs x) := digsR_bd b0 _ _
theorem sum_mov {b : Int} (b0 : 2 ≤ b) {xs ys : List Int} (hx : DigsM b xs) (hy : DigsM b ys) (hl : ys.length = xs.length) :
    tab (sumD b xs ys) xs.length = movZ b xs (valR b ys) ∧ decide (0 < cK b xs ys xs.length) = movO b xs (valR b ys) := by
  have hv := msum_val (b := b) hl xs.length (Nat.le_refl _)
  rw [List.take_length, List.take_of_length_le (by omega)] at hv
  have hd : DigsM b (tab (sumD b xs ys) xs.length) := tab_mem fun k _ => ⟨Int.emod_nonneg _ (by omega), Int.emod_lt_of_pos _ (by omega)⟩
  have hlt := valR_lt (show 1 ≤ b by omega) hd
  have hback := digsR_back (show 1 ≤ b by omega) hd
  rw [tab_len] at hlt hback
  have hx0 := valR_lt (show 1 ≤ b by omega) hx
  have hy0 := valR_lt (show 1 ≤ b by omega) hy
  have hc := cK_bd b0 (fun k hk => digsM_nth hx hk) (fun k hk => digsM_nth hy (k := k) (by omega)) xs.length (Nat.le_refl _)
  constructor
  · unfold movZ
    rw [← hv, Int.add_mul_emod_self_right, Int.emod_eq_of_lt hlt.1 hlt.2, hback]
  · unfold movO
    rw [← hv]
    rcases (show cK b xs ys xs.length = 0 ∨ cK b xs ys xs.length = 1 by omega) with h | h
    · rw [h]; simp; omega
    · rw [h]; simp; omega
theorem sub_mov {b : Int} (b0 : 2 ≤ b) {xs ys : List Int} (hx : DigsM b xs) (hy : DigsM b ys) (hl : ys.length = xs.length) :
    tab (subD b xs ys) xs.length = movZ b xs (-valR b ys) ∧ decide (0 < bK b xs ys xs.length) = movO b xs (-valR b ys) := by
  have hv := msub_val (b := b) hl xs.length (Nat.le_refl _)
  rw [List.take_length, List.take_of_length_le (by omega)] at hv
  have hd : DigsM b (tab (subD b xs ys) xs.length) := tab_mem fun k hk => by
    have h1 := digsM_nth hx hk
    have h2 := digsM_nth hy (k := k) (by omega)
    have h3 := bK_bd b xs ys k
    unfold subD; split <;> omega
  have hlt := valR_lt (show 1 ≤ b by omega) hd
  have hback := digsR_back (show 1 ≤ b by omega) hd
  rw [tab_len] at hlt hback
  have hx0 := valR_lt (show 1 ≤ b by omega) hx
  have hy0 := valR_lt (show 1 ≤ b by omega) hy
  have hc := bK_bd b xs ys xs.length
  have hs : valR b xs + -valR b ys = valR b (tab (subD b xs ys) xs.length) + (-bK b xs ys xs.length) * b ^ xs.length := by rw [Int.neg_mul]; omega
  constructor
  · unfold movZ
    rw [hs, Int.add_mul_emod_self_right, Int.emod_eq_of_lt hlt.1 hlt.2, hback]
  · unfold movO
    rw [hs]
    rcases (show bK b xs ys xs.length = 0 ∨ bK b xs ys xs.length = 1 by omega) with h | h
    · rw [h]; simp; omega
    · rw [h]; simp; omega

/-- Digits that stand above a register of n digits, from place p on. -/
def abvL (n p : Nat) (ds : List Int) : List Int := List.replicate p 0 ++ (ds ++ List.replicate (n - p - ds.length) 0)
theorem abvL_len {n p : Nat} {ds : List Int} (h : p + ds.length ≤ n) : (abvL n p ds).length = n := by simp [abvL]; omega
theorem abvL_val (b : Int) (n p : Nat) (ds : List Int) : valR b (abvL n p ds) = b ^ p * valR b ds := by
  rw [abvL, mval_app, mval_app, mval_zero, mval_zero, List.length_replicate]; simp
theorem abvL_digs {b : Int} (b0 : 1 ≤ b) {ds : List Int} (h : DigsM b ds) (n p : Nat) : DigsM b (abvL n p ds) := by
  intro d hd
  simp only [abvL, List.mem_append, List.mem_replicate] at hd
  rcases hd with ⟨_, rfl⟩ | hd | ⟨_, rfl⟩
  · omega
  · exact h d hd
  · omega

/-! Machines. -/
def mac0 : Mac := ⟨0, [], 0, [], 0, [], 0⟩
/-- How many places there are. -/
def plcs (m : Mac) : Int := min ((m.z2.length : Int) - m.z1.length + 1) m.z3.length
/-- A machine is valid. -/
def macB (m : Mac) : Bool := decide (okB m.b1 m.z1 = true ∧ okB m.b2 m.z2 = true ∧ okB m.b3 m.z3 = true ∧ m.b1 = m.b2 ∧ m.b1 = m.b3 ∧
  m.b1 ^ m.z2.length - 1 ≤ 1000000000000 ∧ m.b1 ^ m.z3.length - 1 ≤ 1000000000000 ∧ m.z1.length ≤ m.z2.length ∧ 0 ≤ m.p ∧ m.p ≤ plcs m - 1)
theorem macB_spec {m : Mac} (h : macB m = true) : okB m.b1 m.z1 = true ∧ okB m.b2 m.z2 = true ∧ okB m.b3 m.z3 = true ∧ m.b1 = m.b2 ∧ m.b1 = m.b3 ∧
    m.b1 ^ m.z2.length - 1 ≤ 1000000000000 ∧ m.b1 ^ m.z3.length - 1 ≤ 1000000000000 ∧ m.z1.length ≤ m.z2.length ∧ 0 ≤ m.p ∧ m.p ≤ plcs m - 1 := by simpa [macB] using h
theorem macB_acc {m : Mac} (h : macB m = true) : accB m.b2 m.z2 = true ∧ accB m.b3 m.z3 = true := by
  obtain ⟨h1, h2, h3, e2, e3, f2, f3, _⟩ := macB_spec h
  rw [e2] at f2
  rw [e3] at f3
  exact ⟨by simp [accB, h2, f2], by simp [accB, h3, f3]⟩
/-- The parts of a valid machine, as the walks want them. -/
theorem macB_facts {m : Mac} (h : macB m = true) : m.b2 = m.b1 ∧ m.b3 = m.b1 ∧ 2 ≤ m.b1 ∧ m.b1 ≤ 16 ∧ 1 ≤ m.z1.length ∧ m.z1.length ≤ m.z2.length ∧ m.z2.length ≤ 16 ∧ 1 ≤ m.z3.length ∧ m.z3.length ≤ 16 ∧
    0 ≤ m.p ∧ m.p + m.z1.length ≤ m.z2.length ∧ m.p < m.z3.length ∧ DigsM m.b1 m.z1 ∧ DigsM m.b1 m.z2 ∧ DigsM m.b1 m.z3 := by
  obtain ⟨h1, h2, h3, e2, e3, f2, f3, hl, p0, p1⟩ := macB_spec h
  obtain ⟨a0, a1, n0, n1, d1, _⟩ := okB_spec h1
  obtain ⟨_, _, n2, n3, d2, _⟩ := okB_spec h2
  obtain ⟨_, _, n4, n5, d3, _⟩ := okB_spec h3
  unfold plcs at p1
  rw [← e2] at d2
  rw [← e3] at d3
  exact ⟨e2.symm, e3.symm, a0, a1, n0, hl, n3, n4, n5, p0, by omega, by omega, d1, d2, d3⟩

/-- The power of the place. -/
def unitM (m : Mac) : Int := m.b1 ^ m.p.toNat
/-- The setting added s times at the place, whether the bell rings. -/
def trnM (m : Mac) (s : Int) : Mac × Bool :=
  (⟨m.b1, m.z1, m.b2, movZ m.b2 m.z2 (s * (unitM m * valR m.b1 m.z1)), m.b3, movZ m.b3 m.z3 (s * unitM m), m.p⟩, movO m.b2 m.z2 (s * (unitM m * valR m.b1 m.z1)))
/-- The carriage moved. -/
def shfM (m : Mac) (s : Int) : Mac × Bool := if 0 ≤ m.p + s ∧ m.p + s ≤ plcs m - 1 then (⟨m.b1, m.z1, m.b2, m.z2, m.b3, m.z3, m.p + s⟩, false) else (m, true)
/-- A stroke. -/
def doM (m : Mac) (k : Int) : Mac × Bool :=
  if k = 1 then trnM m 1 else if k = 2 then trnM m (-1) else if k = 3 then shfM m 1 else if k = 4 then shfM m (-1) else
  if k = 5 then (⟨m.b1, m.z1, m.b2, List.replicate m.z2.length 0, m.b3, List.replicate m.z3.length 0, m.p⟩, false) else
  (⟨m.b1, List.replicate m.z1.length 0, m.b2, m.z2, m.b3, m.z3, m.p⟩, false)
/-- DoStroke. -/
def dsR (m : Mac) (k : Int) : Mac × Bool × Int := if macB m = true then (if 1 ≤ k ∧ k ≤ 6 then ((doM m k).1, (doM m k).2, 0) else (mac0, false, 2)) else (mac0, false, 1)
/-- Strokes up to the first bell: the machine, how many. -/
def runM : Mac → List Int → Mac × Int
  | m, [] => (m, 0)
  | m, k :: ks => if (doM m k).2 = true then ((doM m k).1, 1) else ((runM (doM m k).1 ks).1, (runM (doM m k).1 ks).2 + 1)
def strB (l : List Int) : Bool := decide (∀ k ∈ l, 1 ≤ k ∧ k ≤ 6)
/-- DoStrokes. -/
def dssR (m : Mac) (l : List Int) : Mac × Int × Int :=
  if macB m = true then (if strB l = true then (if l.length ≤ 300 then ((runM m l).1, (runM m l).2, 0) else (mac0, 0, 5)) else (mac0, 0, 2)) else (mac0, 0, 1)
/-- PlacesOf, StrokeBack. -/
def plR (m : Mac) : Int × Int := if macB m = true then (plcs m, 0) else (0, 1)
def sbR (k : Int) : Int × Int := if k = 1 then (2, 0) else if k = 2 then (1, 0) else if k = 3 then (4, 0) else if k = 4 then (3, 0) else if k = 5 ∨ k = 6 then (0, 3) else (0, 2)
/-- The machine that NewMachine makes out of what NewRegister gives. -/
def rawM (b s r c : Int) : Mac := ⟨(nrR b s 0).1, (nrR b s 0).2.1, (nrR b r 0).1, (nrR b r 0).2.1, (nrR b c 0).1, (nrR b c 0).2.1, 0⟩
/-- NewMachine. -/
def nmR (b s r c : Int) : Mac × Int := if macB (rawM b s r c) = true then (rawM b s r c, 0) else (mac0, 2)
/-- Base and widths are in range. -/
def nmB (b s r c : Int) : Bool := decide (2 ≤ b ∧ b ≤ 16 ∧ 1 ≤ s ∧ s ≤ 16 ∧ 1 ≤ r ∧ r ≤ 16 ∧ 1 ≤ c ∧ c ≤ 16)
theorem leftR_zero (b : Int) : ∀ n : Nat, leftR b n 0 = 0
  | 0 => rfl
  | n + 1 => by rw [leftR, Int.zero_ediv]; exact leftR_zero b n
theorem digsR_zero (b : Int) : ∀ n : Nat, digsR b n 0 = List.replicate n 0
  | 0 => rfl
  | n + 1 => by rw [digsR, Int.zero_emod, Int.zero_ediv, digsR_zero b n, List.replicate_succ]
theorem nrR_zero {b n : Int} (h : 2 ≤ b ∧ b ≤ 16 ∧ 1 ≤ n ∧ n ≤ 16) : nrR b n 0 = (b, digsR b n.toNat 0, 0) := by
  obtain ⟨m, rfl⟩ := Int.eq_ofNat_of_zero_le (show 0 ≤ n by omega)
  rw [Int.toNat_natCast]
  exact nrR_ok ⟨h.1, h.2.1, by omega, by omega, by omega, by omega⟩ (by rw [leftR_zero]; omega)
theorem nrR_none {b n : Int} (h : ¬ (2 ≤ b ∧ b ≤ 16 ∧ 1 ≤ n ∧ n ≤ 16)) : nrR b n 0 = (0, [], 2) := nrR_bad (by omega)
theorem nrR_wf {b n : Int} (h : I64 b) : I64 (nrR b n 0).1 ∧ All64 (nrR b n 0).2.1 := by
  by_cases k : 2 ≤ b ∧ b ≤ 16 ∧ 1 ≤ n ∧ n ≤ 16
  · rw [nrR_zero k]
    refine ⟨h, fun z hz => ?_⟩
    rw [digsR_zero, List.mem_replicate] at hz
    rw [hz.2]; unfold I64; decide
  · rw [nrR_none k]
    exact ⟨by unfold I64; decide, fun z hz => by cases hz⟩
theorem okB_none : okB 0 [] = false := by decide
/-- Where base or widths are out of range there is no machine. -/
theorem rawM_bad {b s r c : Int} (h : nmB b s r c = false) : macB (rawM b s r c) = false := by
  have h' : ¬ (2 ≤ b ∧ b ≤ 16 ∧ 1 ≤ s ∧ s ≤ 16) ∨ ¬ (2 ≤ b ∧ b ≤ 16 ∧ 1 ≤ r ∧ r ≤ 16) ∨ ¬ (2 ≤ b ∧ b ≤ 16 ∧ 1 ≤ c ∧ c ≤ 16) := by
    simp only [nmB, decide_eq_false_iff_not] at h; omega
  cases hm : macB (rawM b s r c) with
  | false => rfl
  | true =>
    obtain ⟨h1, h2, h3, _⟩ := macB_spec hm
    unfold rawM at h1 h2 h3
    rcases h' with k | k | k
    · simp only [nrR_none k] at h1; rw [okB_none] at h1; cases h1
    · simp only [nrR_none k] at h2; rw [okB_none] at h2; cases h2
    · simp only [nrR_none k] at h3; rw [okB_none] at h3; cases h3
theorem rawM_good {b s r c : Int} (h : nmB b s r c = true) : rawM b s r c = ⟨b, digsR b s.toNat 0, b, digsR b r.toNat 0, b, digsR b c.toNat 0, 0⟩ := by
  simp only [nmB, decide_eq_true_eq] at h
  obtain ⟨b0, b1, s0, s1, r0, r1, c0, c1⟩ := h
  rw [rawM, nrR_zero ⟨b0, b1, s0, s1⟩, nrR_zero ⟨b0, b1, r0, r1⟩, nrR_zero ⟨b0, b1, c0, c1⟩]
/-- SetValue, SetDigit. -/
def svR (m : Mac) (v : Int) : Mac × Int :=
  if macB m = true then (if 0 ≤ v ∧ v ≤ m.b1 ^ m.z1.length - 1 then (⟨m.b1, digsR m.b1 m.z1.length v, m.b2, m.z2, m.b3, m.z3, m.p⟩, 0) else (mac0, 2)) else (mac0, 1)
def sdR (m : Mac) (k d : Int) : Mac × Int :=
  if macB m = true then (if (0 ≤ k ∧ k ≤ (m.z1.length : Int) - 1) ∧ 0 ≤ d ∧ d ≤ m.b1 - 1 then (⟨m.b1, m.z1.set k.toNat d, m.b2, m.z2, m.b3, m.z3, m.p⟩, 0) else (mac0, 2)) else (mac0, 1)

/-- A machine of its own and a code. -/
def MacC (R : Mac × Int) (w : World) (e : Ending) (w' : World) : Prop := ∃ (A1 : Option Addr) (C1 : Nat) (A2 : Option Addr) (C2 : Nat) (A3 : Option Addr) (C3 : Nat),
  e = .returned (.tuple #[.agg #[.int .i64 R.1.b1, .slice A1 R.1.z1.length C1, .int .i64 R.1.b2, .slice A2 R.1.z2.length C2, .int .i64 R.1.b3, .slice A3 R.1.z3.length C3, .int .i64 R.1.p], .int .i64 R.2]) ∧ Own3 2 w' w.heap.size w'.heap.size (.slice A1 R.1.z1.length C1) R.1.z1 (.slice A2 R.1.z2.length C2) R.1.z2 (.slice A3 R.1.z3.length C3) R.1.z3 ∧ Below w.heap.size w w'
theorem macC_err {R : Mac × Int} {c : Int} {w w' : World} {e : Ending} (h : R = (mac0, c)) (he : e = .returned (.tuple #[.agg #[.int .i64 0, .slice none 0 0, .int .i64 0, .slice none 0 0, .int .i64 0, .slice none 0 0, .int .i64 0], .int .i64 c])) (hb : Below w.heap.size w w') : MacC R w e w' := by
  subst h
  exact ⟨none, 0, none, 0, none, 0, he, own3_nil _ _ _ _ hb.size, hb⟩
theorem macC_ok {R : Mac × Int} {m : Mac} {w w' : World} {A1 : Option Addr} {C1 : Nat} {A2 : Option Addr} {C2 : Nat} {A3 : Option Addr} {C3 : Nat} {lo hi : Nat} {e : Ending} (h : R = (m, 0)) (he : e = .returned (.tuple #[.agg #[.int .i64 m.b1, .slice A1 m.z1.length C1, .int .i64 m.b2, .slice A2 m.z2.length C2, .int .i64 m.b3, .slice A3 m.z3.length C3, .int .i64 m.p], .int .i64 0]))
    (ho : Own3 2 w' lo hi (.slice A1 m.z1.length C1) m.z1 (.slice A2 m.z2.length C2) m.z2 (.slice A3 m.z3.length C3) m.z3) (hl : w.heap.size ≤ lo) (hh : hi ≤ w'.heap.size) (hb : Below w.heap.size w w') : MacC R w e w' := by
  subst h
  exact ⟨A1, C1, A2, C2, A3, C3, he, ho.wide hl hh, hb⟩
end Go.Proofs.YtlahobdopmdfmaaGreatDoor

/- MacT -/
namespace Go.Proofs.YtlahobdopmdfmaaGreatDoor
open Go.RowKit

set_option maxHeartbeats 2000000 in
theorem eqMachine_any (m n : Mac) (A1 : Option Addr) (C1 : Nat) (A2 : Option Addr) (C2 : Nat) (A3 : Option Addr) (C3 : Nat) (D1 : Option Addr) (E1 : Nat) (D2 : Option Addr) (E2 : Nat) (D3 : Option Addr) (E3 : Nat) (w : World) (h : Rd3 w A1 m.z1 A2 m.z2 A3 m.z3) (k : Rd3 w D1 n.z1 D2 n.z2 D3 n.z3) :
    Calls Tryz.prog 17 #[.agg #[.int .i64 m.b1, .slice A1 m.z1.length C1, .int .i64 m.b2, .slice A2 m.z2.length C2, .int .i64 m.b3, .slice A3 m.z3.length C3, .int .i64 m.p], .agg #[.int .i64 n.b1, .slice D1 n.z1.length E1, .int .i64 n.b2, .slice D2 n.z2.length E2, .int .i64 n.b3, .slice D3 n.z3.length E3, .int .i64 n.p]] w fun e w' => e = .returned (.bool (macEqB m n)) ∧ Below w.heap.size w w' := by
  obtain ⟨u, hu⟩ : ∃ u, u = (w.alloc (.cells #[.int .i64 m.b1, .slice A1 m.z1.length C1, .int .i64 m.b2, .slice A2 m.z2.length C2, .int .i64 m.b3, .slice A3 m.z3.length C3, .int .i64 m.p] 28)).alloc (.cells #[.int .i64 n.b1, .slice D1 n.z1.length E1, .int .i64 n.b2, .slice D2 n.z2.length E2, .int .i64 n.b3, .slice D3 n.z3.length E3, .int .i64 n.p] 28) := ⟨_, rfl⟩
  have bx : Bx u w.heap.size 28 #[.int .i64 m.b1, .slice A1 m.z1.length C1, .int .i64 m.b2, .slice A2 m.z2.length C2, .int .i64 m.b3, .slice A3 m.z3.length C3, .int .i64 m.p] := by rw [hu]; exact (Bx.new _ _ _).alloc _
  have by_ : Bx u (w.heap.size + 1) 28 #[.int .i64 n.b1, .slice D1 n.z1.length E1, .int .i64 n.b2, .slice D2 n.z2.length E2, .int .i64 n.b3, .slice D3 n.z3.length E3, .int .i64 n.p] := by rw [hu]; simpa using Bx.new (w.alloc (.cells #[.int .i64 m.b1, .slice A1 m.z1.length C1, .int .i64 m.b2, .slice A2 m.z2.length C2, .int .i64 m.b3, .slice A3 m.z3.length C3, .int .i64 m.p] 28)) #[.int .i64 n.b1, .slice D1 n.z1.length E1, .int .i64 n.b2, .slice D2 n.z2.length E2, .int .i64 n.b3, .slice D3 n.z3.length E3, .int .i64 n.p] 28
  have hbel : Below w.heap.size w u := by rw [hu]; exact (by repeat (first | exact Below.refl _ _ | refine Below.setCell ?_ (by first | omega | (simp <;> omega)) _ | refine Below.alloc ?_ (by first | omega | (simp <;> omega)) _ | refine Below.drew ?_))
  replace h := h.below hbel
  replace k := k.below hbel
  have H1 := Lib.hid (eqRegister_any m.b1 n.b1 A1 D1 C1 E1 m.z1 n.z1 u h.x k.x)
  have H2 := Lib.hid (fun (v : World) (hb : Below u.heap.size u v) => eqRegister_any m.b2 n.b2 A2 D2 C2 E2 m.z2 n.z2 v (h.y.below hb) (k.y.below hb))
  have H3 := Lib.hid (fun (v : World) (hb : Below u.heap.size u v) => eqRegister_any m.b3 n.b3 A3 D3 C3 E3 m.z3 n.z3 v (h.z.below hb) (k.z.below hb))
  have HE := Lib.hid (show macEqB m n = (regEqB m.b1 n.b1 m.z1 n.z1 && (regEqB m.b2 n.b2 m.z2 n.z2 && (regEqB m.b3 n.b3 m.z3 n.z3 && decide (m.p = n.p)))) from rfl)
  have HU := Lib.hid hu
  clear hu h k
  cases q1 : regEqB m.b1 n.b1 m.z1 n.z1 with
  | false =>
    rw [q1] at H1 HE
    go_enter Tryz.func17, Tryz.ntmps17
    go_wp2_with fail
    rw [← HU.out]
    refine H1.out.mono ?_
    rintro e w1 ⟨rfl, hb⟩
    go_wp2
    go_ret
    exact ⟨ret_bool (by rw [HE.out]; rfl), hbel.trans (hb.mono hbel.size)⟩
  | true =>
    rw [q1] at H1 HE
    cases q2 : regEqB m.b2 n.b2 m.z2 n.z2 with
    | false =>
      rw [q2] at H2 HE
      go_enter Tryz.func17, Tryz.ntmps17
      go_wp2_with fail
      rw [← HU.out]
      refine H1.out.mono ?_
      rintro e w1 ⟨rfl, hb⟩
      have c0 := (bx.below hb).at_ 2 rfl
      have c1 := (bx.below hb).at_ 3 rfl
      have d0 := (by_.below hb).at_ 2 rfl
      have d1 := (by_.below hb).at_ 3 rfl
      go_wp2_with fail
      refine (H2.out w1 hb).mono ?_
      rintro e w2 ⟨rfl, hb2⟩
      go_wp2
      go_ret
      exact ⟨ret_bool (by rw [HE.out]; rfl), hbel.trans ((hb.trans (hb2.mono hb.size)).mono hbel.size)⟩
    | true =>
      rw [q2] at H2 HE
      cases q3 : regEqB m.b3 n.b3 m.z3 n.z3 with
      | false =>
        rw [q3] at H3 HE
        go_enter Tryz.func17, Tryz.ntmps17
        go_wp2_with fail
        rw [← HU.out]
        refine H1.out.mono ?_
        rintro e w1 ⟨rfl, hb⟩
        have c0 := (bx.below hb).at_ 2 rfl
        have c1 := (bx.below hb).at_ 3 rfl
        have d0 := (by_.below hb).at_ 2 rfl
        have d1 := (by_.below hb).at_ 3 rfl
        go_wp2_with fail
        refine (H2.out w1 hb).mono ?_
        rintro e w2 ⟨rfl, hb2⟩
        replace hb := hb.trans (hb2.mono hb.size)
        clear hb2 c0 c1 d0 d1
        have c0 := (bx.below hb).at_ 4 rfl
        have c1 := (bx.below hb).at_ 5 rfl
        have d0 := (by_.below hb).at_ 4 rfl
        have d1 := (by_.below hb).at_ 5 rfl
        go_wp2_with fail
        refine (H3.out w2 hb).mono ?_
        rintro e w3 ⟨rfl, hb2⟩
        go_wp2
        go_ret
        exact ⟨ret_bool (by rw [HE.out]; rfl), hbel.trans ((hb.trans (hb2.mono hb.size)).mono hbel.size)⟩
      | true =>
        rw [q3] at H3 HE
        cases q4 : decide (m.p = n.p)
        all_goals
          have hbe : (m.p != n.p) = !(decide (m.p = n.p)) := rfl
          rw [q4] at HE hbe
          simp only [Bool.not_true, Bool.not_false] at hbe
          clear q1 q2 q3 q4
          go_enter Tryz.func17, Tryz.ntmps17
          go_wp2_with fail
          rw [← HU.out]
          refine H1.out.mono ?_
          rintro e w1 ⟨rfl, hb⟩
          have c0 := (bx.below hb).at_ 2 rfl
          have c1 := (bx.below hb).at_ 3 rfl
          have d0 := (by_.below hb).at_ 2 rfl
          have d1 := (by_.below hb).at_ 3 rfl
          go_wp2_with fail
          refine (H2.out w1 hb).mono ?_
          rintro e w2 ⟨rfl, hb2⟩
          replace hb := hb.trans (hb2.mono hb.size)
          clear hb2 c0 c1 d0 d1
          have c0 := (bx.below hb).at_ 4 rfl
          have c1 := (bx.below hb).at_ 5 rfl
          have d0 := (by_.below hb).at_ 4 rfl
          have d1 := (by_.below hb).at_ 5 rfl
          go_wp2_with fail
          refine (H3.out w2 hb).mono ?_
          rintro e w3 ⟨rfl, hb2⟩
          replace hb := hb.trans (hb2.mono hb.size)
          clear hb2 c0 c1 d0 d1
          have c0 := (bx.below hb).at_ 6 rfl
          have d0 := (by_.below hb).at_ 6 rfl
          go_wp2
          go_ret
          exact ⟨ret_bool (by rw [HE.out]; rfl), hbel.trans (hb.mono hbel.size)⟩

set_option maxHeartbeats 1000000 in
theorem markMachine_any (t : TypeId) (lo hi : Nat) (m : Mac) (A1 : Option Addr) (C1 : Nat) (A2 : Option Addr) (C2 : Nat) (A3 : Option Addr) (C3 : Nat) (k : Int) (w : World) (ho : Own3 t w lo hi (.slice A1 m.z1.length C1) m.z1 (.slice A2 m.z2.length C2) m.z2 (.slice A3 m.z3.length C3) m.z3) (h0 : 0 ≤ k) (h1 : k ≤ 900000000000) :
    Calls Tryz.prog 18 #[.agg #[.int .i64 m.b1, .slice A1 m.z1.length C1, .int .i64 m.b2, .slice A2 m.z2.length C2, .int .i64 m.b3, .slice A3 m.z3.length C3, .int .i64 m.p], .int .i64 k] w fun e w' => e = .returned (.int .i64 (k + ((m.z1.length : Int) + (m.z2.length : Int) + (m.z3.length : Int)))) ∧
      Own3 t w' lo hi (.slice A1 m.z1.length C1) (seqI k m.z1.length) (.slice A2 m.z2.length C2) (seqI (k + m.z1.length) m.z2.length) (.slice A3 m.z3.length C3) (seqI (k + m.z1.length + m.z2.length) m.z3.length) ∧ Touch lo hi w w' := by
  obtain ⟨l1, u1, l2, u2, l3, u3, o1, o2, o3, s1, s2, s3, s4, s5, s6, s7, s8, s9⟩ := ho.ex
  replace o1 := o1.tight
  replace o2 := o2.tight
  replace o3 := o3.tight
  obtain ⟨v1, hv1⟩ : ∃ v, v = min u1 w.heap.size := ⟨_, rfl⟩
  obtain ⟨v2, hv2⟩ : ∃ v, v = min u2 w.heap.size := ⟨_, rfl⟩
  obtain ⟨v3, hv3⟩ : ∃ v, v = min u3 w.heap.size := ⟨_, rfl⟩
  rw [← hv1] at o1
  rw [← hv2] at o2
  rw [← hv3] at o3
  have s2' : v1 ≤ hi := by omega
  have s4' : v2 ≤ hi := by omega
  have s6' : v3 ≤ hi := by omega
  have s7' : v1 ≤ l2 ∨ v2 ≤ l1 := by omega
  have s8' : v1 ≤ l3 ∨ v3 ≤ l1 := by omega
  have s9' : v2 ≤ l3 ∨ v3 ≤ l2 := by omega
  have t1 : v1 ≤ w.heap.size := by omega
  have t2 : v2 ≤ w.heap.size := by omega
  have e1 := o1.len
  have e2 := o2.len
  have e3 := o3.len
  clear hv1 hv2 hv3 s2 s4 s6 s7 s8 s9 ho
  obtain ⟨u, hu⟩ : ∃ u, u = w.alloc (.cells #[.int .i64 m.b1, .slice A1 m.z1.length C1, .int .i64 m.b2, .slice A2 m.z2.length C2, .int .i64 m.b3, .slice A3 m.z3.length C3, .int .i64 m.p] 28) := ⟨_, rfl⟩
  have bx : Bx u w.heap.size 28 #[.int .i64 m.b1, .slice A1 m.z1.length C1, .int .i64 m.b2, .slice A2 m.z2.length C2, .int .i64 m.b3, .slice A3 m.z3.length C3, .int .i64 m.p] := by rw [hu]; exact Bx.new _ _ _
  replace o1 : Own t u l1 v1 (.slice A1 m.z1.length C1) m.z1 := by rw [hu]; exact o1.alloc _
  replace o2 : Own t u l2 v2 (.slice A2 m.z2.length C2) m.z2 := by rw [hu]; exact o2.alloc _
  replace o3 : Own t u l3 v3 (.slice A3 m.z3.length C3) m.z3 := by rw [hu]; exact o3.alloc _
  have ht0 : Touch lo hi w u := by rw [hu]; exact (Touch.refl _ _ _).alloc _
  have HU := Lib.hid hu
  clear hu
  go_enter Tryz.func18, Tryz.ntmps18
  go_wp2_with fail
  rw [← HU.out]
  refine (markRegister_any t l1 v1 m.b1 A1 C1 k m.z1 u o1 h0 (by omega)).mono ?_
  rintro e w1 ⟨rfl, p1, ht1⟩
  have ht2 : Touch lo hi w w1 := ht0.trans (ht1.widen s1 s2')
  replace o2 := o2.touch ht1 (by omega)
  replace o3 := o3.touch ht1 (by omega)
  replace bx := bx.touch ht1 (.inr t1)
  have c2 := bx.at_ 2 rfl
  have c3 := bx.at_ 3 rfl
  clear ht0 ht1 o1
  go_wp2_with fail
  refine (markRegister_any t l2 v2 m.b2 A2 C2 (k + (m.z1.length : Int)) m.z2 w1 o2 (by omega) (by omega)).mono ?_
  rintro e w2 ⟨rfl, p2, ht3⟩
  replace p1 := p1.touch ht3 (by omega)
  replace o3 := o3.touch ht3 (by omega)
  replace bx := bx.touch ht3 (.inr t2)
  replace ht2 := ht2.trans (ht3.widen s3 s4')
  clear c2 c3 ht3 o2
  have c4 := bx.at_ 4 rfl
  have c5 := bx.at_ 5 rfl
  go_wp2_with fail
  refine (markRegister_any t l3 v3 m.b3 A3 C3 (k + (m.z1.length : Int) + (m.z2.length : Int)) m.z3 w2 o3 (by omega) (by omega)).mono ?_
  rintro e w3 ⟨rfl, p3, ht3⟩
  replace p1 := p1.touch ht3 (by omega)
  replace p2 := p2.touch ht3 (by omega)
  replace ht2 := ht2.trans (ht3.widen s5 s6')
  go_wp2
  go_ret
  exact ⟨ret_int (by omega), ⟨l1, v1, l2, v2, l3, v3, p1, p2, p3, s1, s2', s3, s4', s5, s6', s7', s8', s9'⟩, ht2⟩

set_option maxHeartbeats 1000000 in
theorem heldMachine_any (m : Mac) (A1 : Option Addr) (C1 : Nat) (A2 : Option Addr) (C2 : Nat) (A3 : Option Addr) (C3 : Nat) (k : Int) (n1 n2 n3 : Nat) (w : World) (ha : Rd3 w A1 (seqI k n1) A2 (seqI (k + n1) n2) A3 (seqI (k + n1 + n2) n3)) (h0 : 0 ≤ k) (h1 : k ≤ 900000000000) :
    Calls Tryz.prog 19 #[.agg #[.int .i64 m.b1, .slice A1 n1 C1, .int .i64 m.b2, .slice A2 n2 C2, .int .i64 m.b3, .slice A3 n3 C3, .int .i64 m.p], .int .i64 k] w fun e w' => e = .returned (.int .i64 (k + ((n1 : Int) + (n2 : Int) + (n3 : Int)))) ∧ Below w.heap.size w w' := by
  have hl := ha.len
  rw [seqI_len, seqI_len, seqI_len] at hl
  obtain ⟨u, hu⟩ : ∃ u, u = w.alloc (.cells #[.int .i64 m.b1, .slice A1 n1 C1, .int .i64 m.b2, .slice A2 n2 C2, .int .i64 m.b3, .slice A3 n3 C3, .int .i64 m.p] 28) := ⟨_, rfl⟩
  have bx : Bx u w.heap.size 28 #[.int .i64 m.b1, .slice A1 n1 C1, .int .i64 m.b2, .slice A2 n2 C2, .int .i64 m.b3, .slice A3 n3 C3, .int .i64 m.p] := by rw [hu]; exact Bx.new _ _ _
  have hbel : Below w.heap.size w u := by rw [hu]; exact (by repeat (first | exact Below.refl _ _ | refine Below.setCell ?_ (by first | omega | (simp <;> omega)) _ | refine Below.alloc ?_ (by first | omega | (simp <;> omega)) _ | refine Below.drew ?_))
  replace ha := ha.below hbel
  have HU := Lib.hid hu
  clear hu
  go_enter Tryz.func19, Tryz.ntmps19
  go_wp2_with fail
  rw [← HU.out]
  refine (heldRegister_any m.b1 A1 C1 k n1 u ha.x h0 (by omega)).mono ?_
  rintro e w1 ⟨rfl, hb⟩
  replace bx := bx.below hb
  replace ha := ha.below hb
  replace hbel := hbel.trans (hb.mono hbel.size)
  clear hb
  have c2 := bx.at_ 2 rfl
  have c3 := bx.at_ 3 rfl
  go_wp2_with fail
  refine (heldRegister_any m.b2 A2 C2 (k + n1) n2 w1 ha.y (by omega) (by omega)).mono ?_
  rintro e w2 ⟨rfl, hb⟩
  replace bx := bx.below hb
  replace ha := ha.below hb
  replace hbel := hbel.trans (hb.mono hbel.size)
  clear hb c2 c3
  have c4 := bx.at_ 4 rfl
  have c5 := bx.at_ 5 rfl
  go_wp2_with fail
  refine (heldRegister_any m.b3 A3 C3 (k + n1 + n2) n3 w2 ha.z (by omega) (by omega)).mono ?_
  rintro e w3 ⟨rfl, hb⟩
  go_wp2
  go_ret
  exact ⟨ret_int (by omega), hbel.trans (hb.mono hbel.size)⟩
end Go.Proofs.YtlahobdopmdfmaaGreatDoor

/- RegO -/
namespace Go.Proofs.YtlahobdopmdfmaaGreatDoor
open Go.RowKit

set_option maxHeartbeats 1000000 in
theorem l02Ok_off (p o : Nat) (b : Int) (a : Option Addr) (c : Nat) (zs : List Int) (w : World) (ha : Rd w a zs) (hp0 : w.cell? ⟨p, o, none⟩ = some (.int .i64 b)) (hp1 : w.cell? ⟨p, o + 1, none⟩ = some (.slice a zs.length c)) :
    Calls Tryz.prog 70 #[.pointer (some ⟨p, o, none⟩)] w fun e w' => e = .returned (.bool (okB b zs)) ∧ ∃ n, w' = w.drewN n := by
  cases hb : baseB b with
  | false =>
    have HO := Lib.hid (show okB b zs = false by simp [okB, hb])
    have HB := Lib.hid (show ∀ n, Calls Tryz.prog 108 #[.int .i64 b] (w.drewN n) fun e w' => e = .returned (.bool false) ∧ w' = w.drewN n from fun n => by rw [← hb]; exact l02Base_any b _)
    clear hb
    go_enter Tryz.func70, Tryz.ntmps70
    go_wp2
    go_quiet ((go_at_call 108; exact Calls.quiet_of_same (HB.out _)))
    go_wp2
    go_ret
    exact ⟨ret_bool (by rw [HO.out]), _, rfl⟩
  | true =>
    obtain ⟨hb1, hb2⟩ := baseB_true hb
    have HB := Lib.hid (show ∀ n, Calls Tryz.prog 108 #[.int .i64 b] (w.drewN n) fun e w' => e = .returned (.bool true) ∧ w' = w.drewN n from fun n => by rw [← hb]; exact l02Base_any b _)
    cases hd : digitsB b zs && widthB zs.length with
    | false =>
      have HO := Lib.hid (show okB b zs = false by simp at hd; simp [okB, hb]; intro h1 h2; rw [hd h2] at h1; cases h1)
      have HD2 := Lib.hid (show ∀ n, Calls Tryz.prog 109 #[.int .i64 b, .slice a zs.length c] (w.drewN n) fun e w' => e = .returned (.bool false) ∧ w' = w.drewN n from fun n => by rw [← hd]; exact l02Digits_any b a c zs _ (ha.drewN _) hb1 hb2)
      clear hb hd
      go_enter Tryz.func70, Tryz.ntmps70
      go_wp2
      go_quiet (first | (go_at_call 108; exact Calls.quiet_of_same (HB.out _)) | (go_at_call 109; exact Calls.quiet_of_same (HD2.out _)))
      go_wp2
      go_ret
      exact ⟨ret_bool (by rw [HO.out]), _, rfl⟩
    | true =>
      have HD : ∀ d ∈ zs, 0 ≤ d ∧ d < b := digitsB_true (by simp at hd; exact hd.1)
      have HO := Lib.hid (show okB b zs = decide (capV b zs ≤ 1000000000000) by simp at hd; simp [okB, hb, hd, capV_le hb1 HD])
      have HE := Lib.hid HD
      have HD2 := Lib.hid (show ∀ n, Calls Tryz.prog 109 #[.int .i64 b, .slice a zs.length c] (w.drewN n) fun e w' => e = .returned (.bool true) ∧ w' = w.drewN n from fun n => by rw [← hd]; exact l02Digits_any b a c zs _ (ha.drewN _) hb1 hb2)
      clear HD hb hd
      cases hv : decide (capV b zs ≤ 1000000000000)
      all_goals
        rw [hv] at HO
        go_enter Tryz.func70, Tryz.ntmps70
        go_wp2
        go_quiet (first | (go_at_call 108; exact Calls.quiet_of_same (HB.out _)) | (go_at_call 109; exact Calls.quiet_of_same (HD2.out _)) | (go_at_call 110; exact Calls.quiet_of_same (l02Value_any _ _ _ _ _ (ha.drewN _) hb1 hb2 HE.out)))
        go_wp2
        go_ret
        exact ⟨ret_bool (by rw [HO.out]), _, rfl⟩

set_option maxHeartbeats 400000 in
theorem l02Same_off (p o q r : Nat) (B D : Int) (a b : Option Addr) (c d : Nat) (xs ys : List Int) (w : World) (ha : Rd w a xs) (hb : Rd w b ys)
    (hp0 : w.cell? ⟨p, o, none⟩ = some (.int .i64 B)) (hp1 : w.cell? ⟨p, o + 1, none⟩ = some (.slice a xs.length c)) (hq0 : w.cell? ⟨q, r, none⟩ = some (.int .i64 D)) (hq1 : w.cell? ⟨q, r + 1, none⟩ = some (.slice b ys.length d)) :
    Calls Tryz.prog 73 #[.pointer (some ⟨p, o, none⟩), .pointer (some ⟨q, r, none⟩)] w fun e w' => e = .returned (.bool (regEqB B D xs ys)) ∧ ∃ n, w' = w.drewN n := by
  by_cases h : B = D
  · have hbe : (B == D) = true := by simp [h]
    have H := Lib.hid h
    clear h
    go_enter Tryz.func73, Tryz.ntmps73
    go_wp2
    go_quiet ((go_at_call 112; exact Calls.quiet_of (l00Same_any _ _ _ _ _ _ _ (ha.drewN _) (hb.drewN _))))
    go_wp2
    go_ret
    exact ⟨ret_bool (by simp [regEqB, H.out]), _, rfl⟩
  · have hbe : (B == D) = false := by simp [h]
    have H := Lib.hid h
    clear h
    go_enter Tryz.func73, Tryz.ntmps73
    go_wp2
    go_quiet (fail)
    go_wp2
    go_ret
    exact ⟨ret_bool (by simp [regEqB, H.out]), _, rfl⟩


theorem l02Ok_atO {v : Bool} (p o : Nat) (b : Int) (a : Option Addr) (c : Nat) (zs : List Int) (w : World) (hv : okB b zs = v) (ha : Rd w a zs) (hp0 : w.cell? ⟨p, o, none⟩ = some (.int .i64 b)) (hp1 : w.cell? ⟨p, o + 1, none⟩ = some (.slice a zs.length c)) :
    Calls Tryz.prog 70 #[.pointer (some ⟨p, o, none⟩)] w fun e w' => e = .returned (.bool v) ∧ Below w.heap.size w w' := by
  subst hv
  exact (l02Ok_off p o b a c zs w ha hp0 hp1).mono fun e w' ⟨h1, m, h2⟩ => ⟨h1, by rw [h2]; exact bel_drewN (Below.refl _ _) m⟩
theorem l02Same_atO {v : Bool} (p o q r : Nat) (B D : Int) (a b : Option Addr) (c d : Nat) (xs ys : List Int) (w : World) (hv : regEqB B D xs ys = v) (ha : Rd w a xs) (hb : Rd w b ys)
    (hp0 : w.cell? ⟨p, o, none⟩ = some (.int .i64 B)) (hp1 : w.cell? ⟨p, o + 1, none⟩ = some (.slice a xs.length c)) (hq0 : w.cell? ⟨q, r, none⟩ = some (.int .i64 D)) (hq1 : w.cell? ⟨q, r + 1, none⟩ = some (.slice b ys.length d)) :
    Calls Tryz.prog 73 #[.pointer (some ⟨p, o, none⟩), .pointer (some ⟨q, r, none⟩)] w fun e w' => e = .returned (.bool v) ∧ Below w.heap.size w w' := by
  subst hv
  exact (l02Same_off p o q r B D a b c d xs ys w ha hb hp0 hp1 hq0 hq1).mono fun e w' ⟨h1, m, h2⟩ => ⟨h1, by rw [h2]; exact bel_drewN (Below.refl _ _) m⟩
end Go.Proofs.YtlahobdopmdfmaaGreatDoor

/- FrameM -/
namespace Go.Proofs.YtlahobdopmdfmaaGreatDoor
open Go.ChangeShapes Go.WideShapes Go.ChangeAt Go.RowKit Go.Joins

theorem array7 {α : Type} {cs : Array α} (h : cs.size = 7) : ∃ c0 c1 c2 c3 c4 c5 c6, cs = #[c0, c1, c2, c3, c4, c5, c6] := by
  obtain ⟨l⟩ := cs
  match l, h with
  | [c0, c1, c2, c3, c4, c5, c6], _ => exact ⟨c0, c1, c2, c3, c4, c5, c6, rfl⟩

section
variable {H : Type} {enc : TypeId × Value → H} {W : World} {base : Nat} {v : Value} {d : DataW H} {p : List MemPlace}

end
end Go.Proofs.YtlahobdopmdfmaaGreatDoor

/- BoxMac -/
namespace Go.Proofs.YtlahobdopmdfmaaGreatDoor
open Go.RowKit

/-- s leads to a box that holds the machine; what it owns lies elsewhere. -/
def BoxMac (W : World) (m : Mac) (s : Value) (wx : World) : Prop := ∃ (g : Nat) (A1 : Option Addr) (C1 : Nat) (A2 : Option Addr) (C2 : Nat) (A3 : Option Addr) (C3 : Nat) (lo hi : Nat), s = .pointer (some ⟨g, 0, none⟩) ∧
  wx.cell? ⟨g, 0, none⟩ = some (.int .i64 m.b1) ∧ wx.cell? ⟨g, 1, none⟩ = some (.slice A1 m.z1.length C1) ∧ wx.cell? ⟨g, 2, none⟩ = some (.int .i64 m.b2) ∧ wx.cell? ⟨g, 3, none⟩ = some (.slice A2 m.z2.length C2) ∧ wx.cell? ⟨g, 4, none⟩ = some (.int .i64 m.b3) ∧ wx.cell? ⟨g, 5, none⟩ = some (.slice A3 m.z3.length C3) ∧ wx.cell? ⟨g, 6, none⟩ = some (.int .i64 m.p) ∧ Own3 2 wx lo hi (.slice A1 m.z1.length C1) m.z1 (.slice A2 m.z2.length C2) m.z2 (.slice A3 m.z3.length C3) m.z3 ∧
  Hid (g < lo ∨ hi ≤ g) ∧ Hid (W.heap.size ≤ lo) ∧ Hid (W.heap.size ≤ g) ∧ Hid (g < wx.heap.size) ∧ Hid (hi ≤ wx.heap.size) ∧ Below W.heap.size W wx
theorem boxMac_after {W u v : World} {m : Mac} {A1 : Option Addr} {C1 : Nat} {A2 : Option Addr} {C2 : Nat} {A3 : Option Addr} {C3 : Nat} {t : TypeId} (hk : Below W.heap.size W u) (hb : Below u.heap.size u v) (ow : Own3 2 v u.heap.size v.heap.size (.slice A1 m.z1.length C1) m.z1 (.slice A2 m.z2.length C2) m.z2 (.slice A3 m.z3.length C3) m.z3) :
    BoxMac W m (.pointer (some ⟨v.heap.size, 0, none⟩)) (v.alloc (.cells #[.int .i64 m.b1, .slice A1 m.z1.length C1, .int .i64 m.b2, .slice A2 m.z2.length C2, .int .i64 m.b3, .slice A3 m.z3.length C3, .int .i64 m.p] t)) := by
  have h1 := hk.size
  have h2 := hb.size
  have bx := Bx.new v #[.int .i64 m.b1, .slice A1 m.z1.length C1, .int .i64 m.b2, .slice A2 m.z2.length C2, .int .i64 m.b3, .slice A3 m.z3.length C3, .int .i64 m.p] t
  exact ⟨_, A1, C1, A2, C2, A3, C3, _, _, rfl, bx.at_ 0 rfl, bx.at_ 1 rfl, bx.at_ 2 rfl, bx.at_ 3 rfl, bx.at_ 4 rfl, bx.at_ 5 rfl, bx.at_ 6 rfl, ow.alloc _, Lib.hid (.inr (Nat.le_refl _)), Lib.hid h1, Lib.hid (by omega), Lib.hid (by simp), Lib.hid (by simp), (hk.trans (hb.mono h1)).alloc (by omega) _⟩
theorem boxMac_before {W u v : World} {m : Mac} {A1 : Option Addr} {C1 : Nat} {A2 : Option Addr} {C2 : Nat} {A3 : Option Addr} {C3 : Nat} {g : Nat} {t : TypeId} {c0 c1 c2 c3 c4 c5 c6 : Value} (hk : Below W.heap.size W u) (hb : Below u.heap.size u v)
    (ow : Own3 2 v u.heap.size v.heap.size (.slice A1 m.z1.length C1) m.z1 (.slice A2 m.z2.length C2) m.z2 (.slice A3 m.z3.length C3) m.z3) (bz : Bx v g t #[c0, c1, c2, c3, c4, c5, c6]) (h1 : Hid (W.heap.size ≤ g)) (h2 : Hid (g < u.heap.size)) :
    BoxMac W m (.pointer (some ⟨g, 0, none⟩)) (((((((v.setCell ⟨g, 0, none⟩ (.int .i64 m.b1)).setCell ⟨g, 1, none⟩ (.slice A1 m.z1.length C1)).setCell ⟨g, 2, none⟩ (.int .i64 m.b2)).setCell ⟨g, 3, none⟩ (.slice A2 m.z2.length C2)).setCell ⟨g, 4, none⟩ (.int .i64 m.b3)).setCell ⟨g, 5, none⟩ (.slice A3 m.z3.length C3)).setCell ⟨g, 6, none⟩ (.int .i64 m.p)) := by
  have h3 := hk.size
  have h4 := hb.size
  have h5 := h1.out
  have h6 := h2.out
  have bx : Bx (((((((v.setCell ⟨g, 0, none⟩ (.int .i64 m.b1)).setCell ⟨g, 1, none⟩ (.slice A1 m.z1.length C1)).setCell ⟨g, 2, none⟩ (.int .i64 m.b2)).setCell ⟨g, 3, none⟩ (.slice A2 m.z2.length C2)).setCell ⟨g, 4, none⟩ (.int .i64 m.b3)).setCell ⟨g, 5, none⟩ (.slice A3 m.z3.length C3)).setCell ⟨g, 6, none⟩ (.int .i64 m.p)) g t #[.int .i64 m.b1, .slice A1 m.z1.length C1, .int .i64 m.b2, .slice A2 m.z2.length C2, .int .i64 m.b3, .slice A3 m.z3.length C3, .int .i64 m.p] := bx_put7 bz
  refine ⟨_, A1, C1, A2, C2, A3, C3, _, _, rfl, bx.at_ 0 rfl, bx.at_ 1 rfl, bx.at_ 2 rfl, bx.at_ 3 rfl, bx.at_ 4 rfl, bx.at_ 5 rfl, bx.at_ 6 rfl, (((((((ow.setCell (p := ⟨g, 0, none⟩) (.inl h6) _).setCell (p := ⟨g, 1, none⟩) (.inl h6) _).setCell (p := ⟨g, 2, none⟩) (.inl h6) _).setCell (p := ⟨g, 3, none⟩) (.inl h6) _).setCell (p := ⟨g, 4, none⟩) (.inl h6) _).setCell (p := ⟨g, 5, none⟩) (.inl h6) _).setCell (p := ⟨g, 6, none⟩) (.inl h6) _), Lib.hid (.inl h6), Lib.hid h3, Lib.hid h5, Lib.hid (by simp; omega), Lib.hid (by simp), ?_⟩
  exact (((((((hk.trans (hb.mono h3)).setCell h5 _).setCell h5 _).setCell h5 _).setCell h5 _).setCell h5 _).setCell h5 _).setCell h5 _
end Go.Proofs.YtlahobdopmdfmaaGreatDoor

/- MacI -/
namespace Go.Proofs.YtlahobdopmdfmaaGreatDoor
open Go.RowKit Go.BigFrame

/-- All of a machine's numbers are int64. -/
def Mac64 (m : Mac) : Prop := (All64 m.z1 ∧ All64 m.z2 ∧ All64 m.z3) ∧ (I64 m.b1 ∧ I64 m.b2 ∧ I64 m.b3 ∧ I64 m.p)

theorem inB_eq {z lo hi : Int} : inB z lo hi = decide (lo ≤ z ∧ z ≤ hi) := by
  cases h : inB z lo hi with
  | true => exact (decide_eq_true (inB_true h)).symm
  | false => exact (decide_eq_false (by have := inB_false h; omega)).symm
theorem macB_impl {m : Mac} {a b c d e f : Bool} (h1 : okB m.b1 m.z1 = a) (h2 : accB m.b2 m.z2 = b) (h3 : accB m.b3 m.z3 = c) (h4 : (m.b2 == m.b1) = d) (h5 : (m.b3 == m.b1) = e) (h6 : inB m.p 0 (plcs m - 1) = f) :
    macB m = (a && (b && (c && (d && (e && f))))) := by
  subst h1 h2 h3 h4 h5 h6
  rw [inB_eq]
  unfold macB accB
  rw [Bool.eq_iff_iff]
  simp only [decide_eq_true_eq, Bool.and_eq_true, beq_iff_eq]
  constructor
  · rintro ⟨h1, h2, h3, e2, e3, f2, f3, hl, p0, p1⟩
    rw [e2] at f2
    rw [e3] at f3
    exact ⟨h1, ⟨h2, f2⟩, ⟨h3, f3⟩, e2.symm, e3.symm, p0, p1⟩
  · rintro ⟨h1, ⟨h2, f2⟩, ⟨h3, f3⟩, e2, e3, p0, p1⟩
    rw [e2] at f2
    rw [e3] at f3
    refine ⟨h1, h2, h3, e2.symm, e3.symm, f2, f3, ?_, p0, p1⟩
    unfold plcs at p1
    omega

set_option maxHeartbeats 1000000 in
theorem mBase_any (m : Mac) (A1 : Option Addr) (C1 : Nat) (A2 : Option Addr) (C2 : Nat) (A3 : Option Addr) (C3 : Nat) (w : World) :
    Calls Tryz.prog 60 #[.agg #[.int .i64 m.b1, .slice A1 m.z1.length C1, .int .i64 m.b2, .slice A2 m.z2.length C2, .int .i64 m.b3, .slice A3 m.z3.length C3, .int .i64 m.p]] w fun e w' => e = .returned (.int .i64 m.b1) ∧ Below w.heap.size w w' := by
  go_enter Tryz.func60, Tryz.ntmps60
  go_wp2
  go_ret
  exact ⟨rfl, (by repeat (first | exact Below.refl _ _ | refine Below.setCell ?_ (by first | omega | (simp <;> omega)) _ | refine Below.alloc ?_ (by first | omega | (simp <;> omega)) _ | refine Below.drew ?_))⟩

set_option maxHeartbeats 1000000 in
theorem places_any (m : Mac) (A1 : Option Addr) (C1 : Nat) (A2 : Option Addr) (C2 : Nat) (A3 : Option Addr) (C3 : Nat) (w : World) (h : m.z1.length ≤ 1000000000 ∧ m.z2.length ≤ 1000000000 ∧ m.z3.length ≤ 1000000000) :
    Calls Tryz.prog 35 #[.agg #[.int .i64 m.b1, .slice A1 m.z1.length C1, .int .i64 m.b2, .slice A2 m.z2.length C2, .int .i64 m.b3, .slice A3 m.z3.length C3, .int .i64 m.p]] w fun e w' => e = .returned (.int .i64 (plcs m)) ∧ Below w.heap.size w w' := by
  obtain ⟨h1, h2, h3⟩ := h
  have w1 : IntKind.i64.wrap ((m.z2.length : Int) - m.z1.length) = (m.z2.length : Int) - m.z1.length := IntWalk.i64_in _ (by omega)
  have w2 : IntKind.i64.wrap ((m.z2.length : Int) - m.z1.length + 1) = (m.z2.length : Int) - m.z1.length + 1 := IntWalk.i64_in _ (by omega)
  have HP := Lib.hid (show plcs m = min ((m.z2.length : Int) - m.z1.length + 1) m.z3.length from rfl)
  go_enter Tryz.func35, Tryz.ntmps35
  go_wp2
  go_ret
  exact ⟨ret_int HP.out.symm, (by repeat (first | exact Below.refl _ _ | refine Below.setCell ?_ (by first | omega | (simp <;> omega)) _ | refine Below.alloc ?_ (by first | omega | (simp <;> omega)) _ | refine Below.drew ?_))⟩

theorem plcs_bd {m : Mac} (h : m.z1.length ≤ 1000000000 ∧ m.z2.length ≤ 1000000000 ∧ m.z3.length ≤ 1000000000) : -1000000000 ≤ plcs m ∧ plcs m ≤ 1000000000 := by unfold plcs; omega

set_option maxHeartbeats 1000000 in
theorem hasPlace_any (m : Mac) (A1 : Option Addr) (C1 : Nat) (A2 : Option Addr) (C2 : Nat) (A3 : Option Addr) (C3 : Nat) (k : Int) (w : World) (h : m.z1.length ≤ 1000000000 ∧ m.z2.length ≤ 1000000000 ∧ m.z3.length ≤ 1000000000) :
    Calls Tryz.prog 61 #[.agg #[.int .i64 m.b1, .slice A1 m.z1.length C1, .int .i64 m.b2, .slice A2 m.z2.length C2, .int .i64 m.b3, .slice A3 m.z3.length C3, .int .i64 m.p], .int .i64 k] w fun e w' => e = .returned (.bool (inB k 0 (plcs m - 1))) ∧ Below w.heap.size w w' := by
  have hp := plcs_bd h
  obtain ⟨u, hu⟩ : ∃ u, u = w.alloc (.cells #[.int .i64 m.b1, .slice A1 m.z1.length C1, .int .i64 m.b2, .slice A2 m.z2.length C2, .int .i64 m.b3, .slice A3 m.z3.length C3, .int .i64 m.p] 28) := ⟨_, rfl⟩
  have hbel : Below w.heap.size w u := by rw [hu]; exact (by repeat (first | exact Below.refl _ _ | refine Below.setCell ?_ (by first | omega | (simp <;> omega)) _ | refine Below.alloc ?_ (by first | omega | (simp <;> omega)) _ | refine Below.drew ?_))
  have bx : Bx u w.heap.size 28 #[.int .i64 m.b1, .slice A1 m.z1.length C1, .int .i64 m.b2, .slice A2 m.z2.length C2, .int .i64 m.b3, .slice A3 m.z3.length C3, .int .i64 m.p] := by rw [hu]; exact Bx.new _ _ _
  have HU := Lib.hid hu
  have HP := Lib.hid (places_any m A1 C1 A2 C2 A3 C3 u h)
  obtain ⟨q, hq⟩ : ∃ q, q = plcs m := ⟨_, rfl⟩
  rw [← hq] at HP hp ⊢
  have w1 : IntKind.i64.wrap (q - 1) = q - 1 := IntWalk.i64_in _ (by omega)
  clear hu hq
  go_enter Tryz.func61, Tryz.ntmps61
  go_wp2_with fail
  rw [← HU.out]
  refine HP.out.mono ?_
  rintro e w1 ⟨rfl, hb⟩
  replace hbel := hbel.trans (hb.mono hbel.size)
  have hs := hbel.size
  clear hb
  go_wp2_with fail
  refine (within1_at 0 (q - 1) k _ w1.heap.size 1 (cell_new1 _ _ _)).mono ?_
  rintro e w2 ⟨rfl, hw⟩
  subst w2
  go_wp2
  go_ret
  exact ⟨rfl, hbel.alloc hs _⟩

set_option maxHeartbeats 2000000 in
theorem goes_any (xB : Int) (xA : Option Addr) (xC : Nat) (xZ : List Int) (w : World) (ha : Rd w xA xZ) (z : All64 xZ) (b : I64 xB) (hD : BellD w) :
    Calls Tryz.prog 59 #[.agg #[.int .i64 xB, .slice xA xZ.length xC]] w fun e w' => e = .returned (.bool (accB xB xZ)) ∧ Below w.heap.size w w' := by
  obtain ⟨a, hl⟩ := hD
  obtain ⟨u, hu⟩ : ∃ u, u = w.alloc (.cells #[.int .i64 xB, .slice xA xZ.length xC] 26) := ⟨_, rfl⟩
  have hbel : Below w.heap.size w u := by rw [hu]; exact (by repeat (first | exact Below.refl _ _ | refine Below.setCell ?_ (by first | omega | (simp <;> omega)) _ | refine Below.alloc ?_ (by first | omega | (simp <;> omega)) _ | refine Below.drew ?_))
  have HU := Lib.hid hu
  replace ha := ha.below hbel
  replace hl := hl.below hbel
  clear hu
  cases h : accB xB xZ with
  | false =>
    have HC := Lib.hid (accOf_no xB xA xC xZ u ha z b h)
    clear h
    go_enter Tryz.func59, Tryz.ntmps59
    go_wp2_with fail
    rw [← HU.out]
    refine HC.out.mono ?_
    rintro e w1 ⟨rfl, hb⟩
    replace hbel := hbel.trans (hb.mono hbel.size)
    have hs := hbel.size
    clear hb
    go_wp2
    go_ret
    exact ⟨rfl, (by repeat (first | with_reducible exact hbel | with_reducible refine Below.setCell ?_ (by first | omega | (simp <;> omega)) _ | with_reducible refine Below.alloc ?_ (by first | omega | (simp <;> omega)) _ | with_reducible refine Below.drew ?_))⟩
  | true =>
    have HC := Lib.hid (accOf_ok a xB xA xC xZ u ha z b h hl)
    clear h
    go_enter Tryz.func59, Tryz.ntmps59
    go_wp2_with fail
    rw [← HU.out]
    refine HC.out.mono ?_
    rintro e w1 ⟨rfl, hb⟩
    replace hbel := hbel.trans (hb.mono hbel.size)
    have hs := hbel.size
    clear hb
    go_wp2
    go_ret
    exact ⟨rfl, (by repeat (first | with_reducible exact hbel | with_reducible refine Below.setCell ?_ (by first | omega | (simp <;> omega)) _ | with_reducible refine Below.alloc ?_ (by first | omega | (simp <;> omega)) _ | with_reducible refine Below.drew ?_))⟩
end Go.Proofs.YtlahobdopmdfmaaGreatDoor

/- MavI -/
namespace Go.Proofs.YtlahobdopmdfmaaGreatDoor
open Go.RowKit Go.BigFrame

set_option maxHeartbeats 4000000 in
set_option maxRecDepth 100000 in
theorem implValidMachine (m : Mac) (A1 : Option Addr) (C1 : Nat) (A2 : Option Addr) (C2 : Nat) (A3 : Option Addr) (C3 : Nat) (w : World) (h : Rd3 w A1 m.z1 A2 m.z2 A3 m.z3) (z : All64 m.z1 ∧ All64 m.z2 ∧ All64 m.z3) (y : I64 m.b1 ∧ I64 m.b2 ∧ I64 m.b3 ∧ I64 m.p) (hD : BellD w) :
    Calls Tryz.prog 28 #[.agg #[.int .i64 m.b1, .slice A1 m.z1.length C1, .int .i64 m.b2, .slice A2 m.z2.length C2, .int .i64 m.b3, .slice A3 m.z3.length C3, .int .i64 m.p]] w fun e w' => e = .returned (.bool (macB m)) ∧ Below w.heap.size w w' := by
  have hlen := h.len
  obtain ⟨u, hu⟩ : ∃ u, u = w.alloc (.cells #[.int .i64 m.b1, .slice A1 m.z1.length C1, .int .i64 m.b2, .slice A2 m.z2.length C2, .int .i64 m.b3, .slice A3 m.z3.length C3, .int .i64 m.p] 28) := ⟨_, rfl⟩
  have hbel : Below w.heap.size w u := by rw [hu]; exact (by repeat (first | exact Below.refl _ _ | refine Below.setCell ?_ (by first | omega | (simp <;> omega)) _ | refine Below.alloc ?_ (by first | omega | (simp <;> omega)) _ | refine Below.drew ?_))
  have bx : Bx u w.heap.size 28 #[.int .i64 m.b1, .slice A1 m.z1.length C1, .int .i64 m.b2, .slice A2 m.z2.length C2, .int .i64 m.b3, .slice A3 m.z3.length C3, .int .i64 m.p] := by rw [hu]; exact Bx.new _ _ _
  replace h := h.below hbel
  replace hD := hD.below hbel
  obtain ⟨a, h1⟩ : ∃ a, okB m.b1 m.z1 = a := ⟨_, rfl⟩
  obtain ⟨b, h2⟩ : ∃ a, accB m.b2 m.z2 = a := ⟨_, rfl⟩
  obtain ⟨c, h3⟩ : ∃ a, accB m.b3 m.z3 = a := ⟨_, rfl⟩
  obtain ⟨d, h4⟩ : ∃ a, (m.b2 == m.b1) = a := ⟨_, rfl⟩
  obtain ⟨e, h5⟩ : ∃ a, (m.b3 == m.b1) = a := ⟨_, rfl⟩
  obtain ⟨f, h6⟩ : ∃ a, inB m.p 0 (plcs m - 1) = a := ⟨_, rfl⟩
  have HE := Lib.hid (macB_impl h1 h2 h3 h4 h5 h6)
  have H1 := Lib.hid (implValidRegister m.b1 A1 C1 m.z1 u h.x z.1 y.1)
  have H2 := Lib.hid (fun (v : World) (hb : Below u.heap.size u v) => goes_any m.b2 A2 C2 m.z2 v (h.y.below hb) z.2.1 y.2.1 (hD.below hb))
  have H3 := Lib.hid (fun (v : World) (hb : Below u.heap.size u v) => goes_any m.b3 A3 C3 m.z3 v (h.z.below hb) z.2.2 y.2.2.1 (hD.below hb))
  have HB := Lib.hid (fun v => mBase_any m A1 C1 A2 C2 A3 C3 v)
  have HP := Lib.hid (fun v => hasPlace_any m A1 C1 A2 C2 A3 C3 m.p v hlen)
  rw [h1] at H1
  rw [h2] at H2
  rw [h3] at H3
  rw [h6] at HP
  have HU := Lib.hid hu
  clear hu h h1 h2 h3 h6 hD z y hlen
  rw [HE.out]
  cases a
  · clear H2 H3 HB HP h4 h5
    go_enter Tryz.func28, Tryz.ntmps28
    go_wp2_with fail
    rw [← HU.out]
    refine H1.out.mono ?_
    rintro e w1 ⟨rfl, hb⟩
    go_wp2
    go_ret
    exact ⟨rfl, hbel.trans (hb.mono hbel.size)⟩
  cases b
  · clear H3 HB HP h4 h5
    go_enter Tryz.func28, Tryz.ntmps28
    go_wp2_with fail
    rw [← HU.out]
    refine H1.out.mono ?_
    rintro e w1 ⟨rfl, hb⟩
    have c0 := (bx.below hb).at_ 2 rfl
    have c1 := (bx.below hb).at_ 3 rfl
    go_wp2_with fail
    refine (H2.out _ hb).mono ?_
    rintro e w2 ⟨rfl, hbn⟩
    replace hb := hb.trans (hbn.mono hb.size)
    clear hbn
    go_wp2
    go_ret
    exact ⟨rfl, hbel.trans (hb.mono hbel.size)⟩
  cases c
  · clear HB HP h4 h5
    go_enter Tryz.func28, Tryz.ntmps28
    go_wp2_with fail
    rw [← HU.out]
    refine H1.out.mono ?_
    rintro e w1 ⟨rfl, hb⟩
    have c0 := (bx.below hb).at_ 2 rfl
    have c1 := (bx.below hb).at_ 3 rfl
    go_wp2_with fail
    refine (H2.out _ hb).mono ?_
    rintro e w2 ⟨rfl, hbn⟩
    replace hb := hb.trans (hbn.mono hb.size)
    clear hbn
    clear c0 c1
    have c0 := (bx.below hb).at_ 4 rfl
    have c1 := (bx.below hb).at_ 5 rfl
    go_wp2_with fail
    refine (H3.out _ hb).mono ?_
    rintro e w3 ⟨rfl, hbn⟩
    replace hb := hb.trans (hbn.mono hb.size)
    clear hbn
    go_wp2
    go_ret
    exact ⟨rfl, hbel.trans (hb.mono hbel.size)⟩
  cases d
  rotate_left
  cases e
  rotate_left
  all_goals
    go_enter Tryz.func28, Tryz.ntmps28
    go_wp2_with fail
    rw [← HU.out]
    refine H1.out.mono ?_
    rintro e w1 ⟨rfl, hb⟩
    have c0 := (bx.below hb).at_ 2 rfl
    have c1 := (bx.below hb).at_ 3 rfl
    go_wp2_with fail
    refine (H2.out _ hb).mono ?_
    rintro e w2 ⟨rfl, hbn⟩
    replace hb := hb.trans (hbn.mono hb.size)
    clear hbn
    clear c0 c1
    have c0 := (bx.below hb).at_ 4 rfl
    have c1 := (bx.below hb).at_ 5 rfl
    go_wp2_with fail
    refine (H3.out _ hb).mono ?_
    rintro e w3 ⟨rfl, hbn⟩
    replace hb := hb.trans (hbn.mono hb.size)
    clear hbn
    clear c0 c1
    replace bx := bx.below hb
    replace hbel := hbel.trans (hb.mono hbel.size)
    clear hb
    go_upto_region 3 with fail
    have k0 := kept_after (bx.at_ 0 rfl)
    have k1 := kept_after (bx.at_ 1 rfl)
    have k2 := kept_after (bx.at_ 2 rfl)
    have k3 := kept_after (bx.at_ 3 rfl)
    have k4 := kept_after (bx.at_ 4 rfl)
    have k5 := kept_after (bx.at_ 5 rfl)
    have k6 := kept_after (bx.at_ 6 rfl)
    clear bx
    refine wp_region_after (by kernel_rfl) (by kernel_rfl) ?_
    repeat (go_big_quiet_step (first | (go_at_call 60; with_reducible exact calls_after (HB.out _)) | (go_at_call 61; with_reducible exact calls_after (HP.out _))))
    refine wpQuiet_nil ?_
    intro u3
    go_wp2
    go_ret
    exact ⟨rfl, hbel.trans (u3.ok.mono hbel.size)⟩

theorem implPlacesOf (m : Mac) (A1 : Option Addr) (C1 : Nat) (A2 : Option Addr) (C2 : Nat) (A3 : Option Addr) (C3 : Nat) (w : World) (h : Rd3 w A1 m.z1 A2 m.z2 A3 m.z3) (z : All64 m.z1 ∧ All64 m.z2 ∧ All64 m.z3) (y : I64 m.b1 ∧ I64 m.b2 ∧ I64 m.b3 ∧ I64 m.p) (hD : BellD w) :
    Calls Tryz.prog 15 #[.agg #[.int .i64 m.b1, .slice A1 m.z1.length C1, .int .i64 m.b2, .slice A2 m.z2.length C2, .int .i64 m.b3, .slice A3 m.z3.length C3, .int .i64 m.p]] w fun e w' => e = .returned (.tuple #[.int .i64 (plR m).1, .int .i64 (plR m).2]) ∧ Below w.heap.size w w' := by
  have R := Tryz.results15
  have hlen := h.len
  obtain ⟨u, hu⟩ : ∃ u, u = w.alloc (.cells #[.int .i64 m.b1, .slice A1 m.z1.length C1, .int .i64 m.b2, .slice A2 m.z2.length C2, .int .i64 m.b3, .slice A3 m.z3.length C3, .int .i64 m.p] 28) := ⟨_, rfl⟩
  have hbel : Below w.heap.size w u := by rw [hu]; exact (by repeat (first | exact Below.refl _ _ | refine Below.setCell ?_ (by first | omega | (simp <;> omega)) _ | refine Below.alloc ?_ (by first | omega | (simp <;> omega)) _ | refine Below.drew ?_))
  have bx : Bx u w.heap.size 28 #[.int .i64 m.b1, .slice A1 m.z1.length C1, .int .i64 m.b2, .slice A2 m.z2.length C2, .int .i64 m.b3, .slice A3 m.z3.length C3, .int .i64 m.p] := by rw [hu]; exact Bx.new _ _ _
  have HV := Lib.hid (implValidMachine m A1 C1 A2 C2 A3 C3 u (h.below hbel) z y (hD.below hbel))
  have HP := Lib.hid (fun v => places_any m A1 C1 A2 C2 A3 C3 v hlen)
  have HU := Lib.hid hu
  clear hu h z y hD
  cases hm : macB m with
  | false =>
    have HR := Lib.hid (show plR m = (0, 1) by simp [plR, hm])
    rw [hm] at HV
    clear hm
    go_enter Tryz.func15, Tryz.ntmps15
    go_wp2_with fail
    rw [← HU.out]
    refine HV.out.mono ?_
    rintro e w1 ⟨rfl, hb⟩
    go_wp2
    exact bodyPost_ret (v := .tuple #[.int .i64 0, .int .i64 1]) (by simp [results, go_sem]) rfl ⟨by rw [HR.out], hbel.trans (hb.mono hbel.size)⟩
  | true =>
    have HR := Lib.hid (show plR m = (plcs m, 0) by simp [plR, hm])
    rw [hm] at HV
    clear hm
    go_enter Tryz.func15, Tryz.ntmps15
    go_wp2_with fail
    rw [← HU.out]
    refine HV.out.mono ?_
    rintro e w1 ⟨rfl, hb⟩
    replace bx := bx.below hb
    replace hbel := hbel.trans (hb.mono hbel.size)
    clear hb
    have k0 := bx.at_ 0 rfl
    have k1 := bx.at_ 1 rfl
    have k2 := bx.at_ 2 rfl
    have k3 := bx.at_ 3 rfl
    have k4 := bx.at_ 4 rfl
    have k5 := bx.at_ 5 rfl
    have k6 := bx.at_ 6 rfl
    go_wp2_with fail
    refine (HP.out w1).mono ?_
    rintro e w2 ⟨rfl, hb⟩
    go_wp2
    exact bodyPost_ret (v := .tuple #[.int .i64 (plcs m), .int .i64 0]) (by simp [results, go_sem]) rfl ⟨by rw [HR.out], hbel.trans (hb.mono hbel.size)⟩
end Go.Proofs.YtlahobdopmdfmaaGreatDoor

/- MacS -/
namespace Go.Proofs.YtlahobdopmdfmaaGreatDoor
open Go.RowKit Go.BigFrame

theorem macB_spec2 {m : Mac} {a b c d e f g i j : Bool} (h1 : okB m.b1 m.z1 = a) (h2 : okB m.b2 m.z2 = b) (h3 : okB m.b3 m.z3 = c) (h4 : (m.b1 != m.b2) = d) (h5 : (m.b1 != m.b3) = e)
    (h6 : decide (m.b1 ^ m.z2.length - 1 ≤ 1000000000000) = f) (h7 : decide (m.b1 ^ m.z3.length - 1 ≤ 1000000000000) = g) (h8 : decide ((m.z1.length : Int) ≤ m.z2.length) = i) (h9 : inB m.p 0 (plcs m - 1) = j) :
    macB m = (a && (b && (c && (!d && (!e && (f && (g && (i && j)))))))) := by
  subst h1 h2 h3 h4 h5 h6 h7 h8 h9
  rw [show inB m.p 0 (plcs m - 1) = decide (0 ≤ m.p ∧ m.p ≤ plcs m - 1) by
    cases h : inB m.p 0 (plcs m - 1) with
    | true => exact (decide_eq_true (inB_true h)).symm
    | false => exact (decide_eq_false (by have := inB_false h; omega)).symm]
  unfold macB
  rw [Bool.eq_iff_iff]
  simp only [decide_eq_true_eq, Bool.and_eq_true, Bool.not_eq_true', bne_eq_false_iff_eq, Int.ofNat_le]

set_option maxHeartbeats 1000000 in
theorem l10Places_any (p : Nat) (m : Mac) (A1 : Option Addr) (C1 : Nat) (A2 : Option Addr) (C2 : Nat) (A3 : Option Addr) (C3 : Nat) (w : World) (bp : Bx w p 28 #[.int .i64 m.b1, .slice A1 m.z1.length C1, .int .i64 m.b2, .slice A2 m.z2.length C2, .int .i64 m.b3, .slice A3 m.z3.length C3, .int .i64 m.p]) (h : m.z1.length ≤ 1000000000 ∧ m.z2.length ≤ 1000000000 ∧ m.z3.length ≤ 1000000000) :
    Calls Tryz.prog 47 #[.pointer (some ⟨p, 0, none⟩)] w fun e w' => e = .returned (.int .i64 (plcs m)) ∧ Below w.heap.size w w' := by
  obtain ⟨h1, h2, h3⟩ := h
  have w1 : IntKind.i64.wrap ((m.z2.length : Int) - m.z1.length) = (m.z2.length : Int) - m.z1.length := IntWalk.i64_in _ (by omega)
  have w2 : IntKind.i64.wrap ((m.z2.length : Int) - m.z1.length + 1) = (m.z2.length : Int) - m.z1.length + 1 := IntWalk.i64_in _ (by omega)
  have HP := Lib.hid (show min (m.z3.length : Int) ((m.z2.length : Int) - m.z1.length + 1) = plcs m by unfold plcs; omega)
  have k1 := kept_after (bp.at_ 1 rfl)
  have k3 := kept_after (bp.at_ 3 rfl)
  have k5 := kept_after (bp.at_ 5 rfl)
  clear bp
  go_enter Tryz.func47, Tryz.ntmps47
  go_wp2_with fail
  refine wp_region_after (by kernel_rfl) (by kernel_rfl) ?_
  repeat (go_big_quiet_step ((go_at_call 83; exact calls_after ((l00Min_any _ _ _).mono fun e w' ⟨x, y⟩ => ⟨x, (by rw [y]; exact Below.refl _ _)⟩))))
  refine wpQuiet_nil ?_
  intro u
  go_wp2
  go_ret
  exact ⟨ret_int HP.out, u.ok⟩

set_option maxHeartbeats 8000000 in
set_option maxRecDepth 100000 in
theorem l10Ok_any (p : Nat) (m : Mac) (A1 : Option Addr) (C1 : Nat) (A2 : Option Addr) (C2 : Nat) (A3 : Option Addr) (C3 : Nat) (w : World) (h : Rd3 w A1 m.z1 A2 m.z2 A3 m.z3) (bp : Bx w p 28 #[.int .i64 m.b1, .slice A1 m.z1.length C1, .int .i64 m.b2, .slice A2 m.z2.length C2, .int .i64 m.b3, .slice A3 m.z3.length C3, .int .i64 m.p]) :
    Calls Tryz.prog 32 #[.pointer (some ⟨p, 0, none⟩)] w fun e w' => e = .returned (.bool (macB m)) ∧ Below w.heap.size w w' := by
  have hlen := h.len
  obtain ⟨a, h1⟩ : ∃ a, okB m.b1 m.z1 = a := ⟨_, rfl⟩
  obtain ⟨b, h2⟩ : ∃ a, okB m.b2 m.z2 = a := ⟨_, rfl⟩
  obtain ⟨c, h3⟩ : ∃ a, okB m.b3 m.z3 = a := ⟨_, rfl⟩
  obtain ⟨d, h4⟩ : ∃ a, (m.b1 != m.b2) = a := ⟨_, rfl⟩
  obtain ⟨e, h5⟩ : ∃ a, (m.b1 != m.b3) = a := ⟨_, rfl⟩
  obtain ⟨f, h6⟩ : ∃ a, decide (m.b1 ^ m.z2.length - 1 ≤ 1000000000000) = a := ⟨_, rfl⟩
  obtain ⟨g, h7⟩ : ∃ a, decide (m.b1 ^ m.z3.length - 1 ≤ 1000000000000) = a := ⟨_, rfl⟩
  obtain ⟨i, h8⟩ : ∃ a, decide ((m.z1.length : Int) ≤ m.z2.length) = a := ⟨_, rfl⟩
  obtain ⟨j, h9⟩ : ∃ a, inB m.p 0 (plcs m - 1) = a := ⟨_, rfl⟩
  have h8n : decide (m.z1.length ≤ m.z2.length) = i := by rw [← h8]; exact decide_eq_decide.2 Int.ofNat_le.symm
  have HE := Lib.hid (macB_spec2 h1 h2 h3 h4 h5 h6 h7 h8 h9)
  have H1 : Hid (∀ v, Below w.heap.size w v → Calls Tryz.prog 70 #[.pointer (some ⟨p, 0, none⟩)] v fun e w' => e = .returned (.bool a) ∧ Below v.heap.size v w') :=
    Lib.hid fun v hb => l02Ok_atO p 0 m.b1 A1 C1 m.z1 v h1 (h.x.below hb) ((bp.below hb).at_ 0 rfl) ((bp.below hb).at_ 1 rfl)
  have H2 : Hid (∀ v, Below w.heap.size w v → Calls Tryz.prog 70 #[.pointer (some ⟨p, 2, none⟩)] v fun e w' => e = .returned (.bool b) ∧ Below v.heap.size v w') :=
    Lib.hid fun v hb => l02Ok_atO p 2 m.b2 A2 C2 m.z2 v h2 (h.y.below hb) ((bp.below hb).at_ 2 rfl) ((bp.below hb).at_ 3 rfl)
  have H3 : Hid (∀ v, Below w.heap.size w v → Calls Tryz.prog 70 #[.pointer (some ⟨p, 4, none⟩)] v fun e w' => e = .returned (.bool c) ∧ Below v.heap.size v w') :=
    Lib.hid fun v hb => l02Ok_atO p 4 m.b3 A3 C3 m.z3 v h3 (h.z.below hb) ((bp.below hb).at_ 4 rfl) ((bp.below hb).at_ 5 rfl)
  have k0 := kept_after (bp.at_ 0 rfl)
  have k2 := kept_after (bp.at_ 2 rfl)
  have k4 := kept_after (bp.at_ 4 rfl)
  rw [HE.out]
  have HX : Hid ((a && (b && (c && (!d && !e)))) = true → 2 ≤ m.b1 ∧ m.b1 ≤ 16 ∧ m.z2.length ≤ 16 ∧ m.z3.length ≤ 16) := Lib.hid (by
    simp only [Bool.and_eq_true]
    rintro ⟨ha, hb, hc, _⟩
    subst ha hb hc
    obtain ⟨q1, q2, _⟩ := okB_spec h1
    exact ⟨q1, q2, (okB_spec h2).2.2.2.1, (okB_spec h3).2.2.2.1⟩)
  clear h h1 h2 h3
  have HR : Hid ((a && (b && (c && (!d && !e)))) = true ∨ ((a && (b && (c && (!d && (!e && (f && (g && (i && j)))))))) = false)) := Lib.hid (by cases a <;> cases b <;> cases c <;> cases d <;> cases e <;> simp)
  cases hq : (a && (b && (c && (!d && !e)))) with
  | false =>
    have HF := Lib.hid (show (a && (b && (c && (!d && (!e && (f && (g && (i && j)))))))) = false from HR.out.resolve_left (by rw [hq]; simp))
    rw [HF.out]
    clear HX HR HF h6 h7 h8 h8n h9 hlen
    cases a
    rotate_left
    cases b
    rotate_left
    cases c
    rotate_left
    cases d
    cases e
    · cases hq
    all_goals
      clear hq
      go_enter Tryz.func32, Tryz.ntmps32
      go_wp2_with fail
      refine wp_region_after (by kernel_rfl) (by kernel_rfl) ?_
      repeat (go_big_quiet_step ((go_at_call 70; first | with_reducible exact calls_after (H1.out _ (After.ok _)) | with_reducible exact calls_after (H2.out _ (After.ok _)) | with_reducible exact calls_after (H3.out _ (After.ok _)))))
      refine wpQuiet_nil ?_
      intro u
      go_wp2
      go_ret
      exact ⟨rfl, u.ok⟩
  | true =>
    obtain ⟨x0, x1, x2, x3⟩ := HX.out hq
    obtain ⟨rfl, rfl, rfl, rfl, rfl⟩ : a = true ∧ b = true ∧ c = true ∧ d = false ∧ e = false := by revert hq; cases a <;> cases b <;> cases c <;> cases d <;> cases e <;> simp
    have HF2 := Lib.hid (fun v => l10Full_at (v := f) m.b1 m.z2.length v (by omega) x1 x2 h6)
    have HF3 := Lib.hid (fun v => l10Full_at (v := g) m.b1 m.z3.length v (by omega) x1 x3 h7)
    have HI := Lib.hid (fun v => l00In_b m.p 0 (plcs m - 1) v)
    rw [h9] at HI
    have HPl := Lib.hid (fun (v : World) (hb : Below w.heap.size w v) => l10Places_any p m A1 C1 A2 C2 A3 C3 v (bp.below hb) hlen)
    have hpb : -1000000000 ≤ plcs m ∧ plcs m ≤ 1000000000 := by unfold plcs; omega
    obtain ⟨q, hq2⟩ : ∃ q, q = plcs m := ⟨_, rfl⟩
    rw [← hq2] at HI HPl hpb
    have w1 : IntKind.i64.wrap (q - 1) = q - 1 := IntWalk.i64_in _ (by omega)
    clear HX HR hq h6 h7 h9 hq2 hlen x2 x3
    simp only [Bool.true_and, Bool.not_false]
    cases f
    rotate_left
    cases g
    rotate_left
    cases i
    rotate_left
    all_goals
      go_enter Tryz.func32, Tryz.ntmps32
      go_wp2_with fail
      refine wp_region_after (by kernel_rfl) (by kernel_rfl) ?_
      repeat (go_big_quiet_step ((go_at_call 70; first | with_reducible exact calls_after (H1.out _ (After.ok _)) | with_reducible exact calls_after (H2.out _ (After.ok _)) | with_reducible exact calls_after (H3.out _ (After.ok _)))))
      refine wpQuiet_nil ?_
      intro u
      clear k0 k2 k4
      obtain ⟨W, hW⟩ : ∃ W, W = u.now := ⟨_, rfl⟩
      have hbW : Below w.heap.size w W := by rw [hW]; exact u.ok
      rw [← hW]
      clear hW u
      have bW := bp.below hbW
      have c0 := bW.at_ 0 rfl
      have c1 := bW.at_ 1 rfl
      have c3 := bW.at_ 3 rfl
      have c5 := bW.at_ 5 rfl
      have c6 := bW.at_ 6 rfl
      go_wp2_with fail
      refine (HF2.out _).mono ?_
      rintro e w1 ⟨rfl, hw⟩
      subst w1
      first
      | (go_wp2; go_ret; exact ⟨rfl, hbW⟩)
      | (go_wp2_with fail
         refine (HF3.out _).mono ?_
         rintro e w2 ⟨rfl, hw⟩
         subst w2
         first
         | (go_wp2; go_ret; exact ⟨rfl, hbW⟩)
         | (go_wp2_with fail
            have k1 := kept_after c1
            have k3 := kept_after c3
            have k6 := kept_after c6
            have HPl2 := Lib.hid (fun (v : World) (hb : Below W.heap.size W v) => HPl.out v (hbW.trans (hb.mono hbW.size)))
            clear c0 c1 c3 c5 c6
            refine wp_region_after (by kernel_rfl) (by kernel_rfl) ?_
            repeat (go_big_quiet_step (first | (go_at_call 47; with_reducible exact calls_after (HPl2.out _ (After.ok _))) | (go_at_call 72; with_reducible exact calls_after (HI.out _))))
            refine wpQuiet_nil ?_
            intro u2
            go_wp2
            go_ret
            exact ⟨rfl, hbW.trans (u2.ok.mono hbW.size)⟩))
end Go.Proofs.YtlahobdopmdfmaaGreatDoor

/- MavS -/
namespace Go.Proofs.YtlahobdopmdfmaaGreatDoor
open Go.RowKit

theorem specValidMachine (m : Mac) (A1 : Option Addr) (C1 : Nat) (A2 : Option Addr) (C2 : Nat) (A3 : Option Addr) (C3 : Nat) (w : World) (h : Rd3 w A1 m.z1 A2 m.z2 A3 m.z3) (_ : All64 m.z1 ∧ All64 m.z2 ∧ All64 m.z3) (_ : I64 m.b1 ∧ I64 m.b2 ∧ I64 m.b3 ∧ I64 m.p) :
    Calls Tryz.prog 12 #[.agg #[.int .i64 m.b1, .slice A1 m.z1.length C1, .int .i64 m.b2, .slice A2 m.z2.length C2, .int .i64 m.b3, .slice A3 m.z3.length C3, .int .i64 m.p]] w fun e w' => e = .returned (.bool (macB m)) ∧ Below w.heap.size w w' := by
  obtain ⟨u, hu⟩ : ∃ u, u = w.alloc (.cells #[.int .i64 m.b1, .slice A1 m.z1.length C1, .int .i64 m.b2, .slice A2 m.z2.length C2, .int .i64 m.b3, .slice A3 m.z3.length C3, .int .i64 m.p] 28) := ⟨_, rfl⟩
  have hbel : Below w.heap.size w u := by rw [hu]; exact (by repeat (first | exact Below.refl _ _ | refine Below.setCell ?_ (by first | omega | (simp <;> omega)) _ | refine Below.alloc ?_ (by first | omega | (simp <;> omega)) _ | refine Below.drew ?_))
  have bx : Bx u w.heap.size 28 #[.int .i64 m.b1, .slice A1 m.z1.length C1, .int .i64 m.b2, .slice A2 m.z2.length C2, .int .i64 m.b3, .slice A3 m.z3.length C3, .int .i64 m.p] := by rw [hu]; exact Bx.new _ _ _
  have HU := Lib.hid hu
  clear hu
  go_enter Tryz.func12, Tryz.ntmps12
  go_wp2_with fail
  rw [← HU.out]
  refine (l10Ok_any w.heap.size m A1 C1 A2 C2 A3 C3 u (h.below hbel) bx).mono ?_
  rintro e w1 ⟨rfl, hb⟩
  go_wp2
  go_ret
  exact ⟨rfl, hbel.trans (hb.mono hbel.size)⟩

end Go.Proofs.YtlahobdopmdfmaaGreatDoor

/- RmM -/
namespace Go.Proofs.YtlahobdopmdfmaaGreatDoor
open Go Go.RowKit

theorem byteAt_drop (s : ByteArray) (a i : Nat) (h : i < s.size - a) : byteAt (s.extract a s.size) i = byteAt s (a + i) := by
  have h1 : i < (s.extract a s.size).size := by simp; omega
  have h2 : a + i < s.size := by omega
  rw [← byteAt_get h1, ← byteAt_get h2]
  simp only [ByteArray.getElem_extract]
theorem splitGo_drop {s : ByteArray} {c : UInt8} {a : Nat} (ha : a ≤ s.size) : ∀ (n i f : Nat), i + n = s.size - a → splitGo (s.extract a s.size) c n i f = splitGo s c n (a + i) (a + f)
  | 0, i, f, h => by
    simp only [splitGo]
    congr 1
    apply WideShapes.bytes_inj
    rw [Lib.extract_to_end, Lib.extract_to_end, Lib.extract_to_end, List.drop_drop]
  | n + 1, i, f, h => by
    have hb := byteAt_drop s a i (by omega)
    by_cases hc : byteAt s (a + i) = c
    · rw [splitGo_hit (hb.trans hc), splitGo_hit hc, splitGo_drop ha n (i + 1) (i + 1) (by omega)]
      congr 1
      apply WideShapes.bytes_inj
      rw [Lib.extract_data, Lib.extract_to_end, Lib.extract_data, List.drop_drop, show a + i - (a + f) = i - f by omega]
    · rw [splitGo_miss (fun e => hc (hb.symm.trans e)), splitGo_miss hc, splitGo_drop ha n (i + 1) f (by omega)]
      rfl
theorem splitL_none {s : ByteArray} {c : UInt8} (h : Lib.indexB s ⟨#[c]⟩ = -1) : splitL s c = [s] := by
  have hx : Lib.index s.data.toList [c] = -1 := h
  rcases Lib.index_spec s.data.toList [c] with ⟨h1, h2⟩ | ⟨i, h1, h2, h3, h4⟩
  · have hn : ∀ j, 0 ≤ j → j < s.size → ¬ byteAt s j = c := fun j _ hj hc => by
      have := h2 j (by have : s.data.toList.length = s.size := by simp
                       omega)
      rw [(occ_byte hj).2 hc] at this
      cases this
    unfold splitL
    rw [splitGo_none s.size 0 0 (by omega) hn]
    congr 1
    apply WideShapes.bytes_inj
    rw [Lib.extract_to_end]; rfl
  · omega
theorem splitL_hit {s : ByteArray} {c : UInt8} {i : Nat} (h : Lib.indexB s ⟨#[c]⟩ = i) : i < s.size ∧ byteAt s i = c ∧ splitL s c = s.extract 0 i :: splitL (s.extract (i + 1) s.size) c := by
  have hx : Lib.index s.data.toList [c] = i := h
  rcases Lib.index_spec s.data.toList [c] with ⟨h1, h2⟩ | ⟨i', h1, h2, h3, h4⟩
  · omega
  · obtain rfl : i' = i := by omega
    have hsz : s.data.toList.length = s.size := by simp
    have hi : i' < s.size := by
      rcases Lib.occAt_room h3 with h | h
      · simp at h; omega
      · cases h
    have hc : byteAt s i' = c := (occ_byte hi).1 h3
    have hn : ∀ j, 0 ≤ j → j < 0 + i' → ¬ byteAt s j = c := fun j _ hj hc => by
      have := h4 j (by omega)
      rw [(occ_byte (by omega)).2 hc] at this
      cases this
    refine ⟨hi, hc, ?_⟩
    have := splitGo_first (s := s) (c := c) i' (s.size - (i' + 1)) 0 0 hn (by rw [Nat.zero_add]; exact hc)
    rw [show i' + 1 + (s.size - (i' + 1)) = s.size by omega, Nat.zero_add] at this
    unfold splitL
    rw [this, splitGo_drop (by omega) _ 0 0 (by simp)]
    simp
theorem splitL_pos (s : ByteArray) (c : UInt8) : 1 ≤ (splitL s c).length := splitGo_pos _ _ _
/-- What cutting at the first k separators gives: all the parts, or so many and a rest that has a separator. -/
theorem splitB_tells (c : UInt8) : ∀ (k : Nat) (s : ByteArray), ((splitL s c).length ≤ k + 1 ∧ Lib.splitB ⟨#[c]⟩ 0 k s = splitL s c) ∨
    (k + 1 < (splitL s c).length ∧ ∃ l r, Lib.splitB ⟨#[c]⟩ 0 k s = l ++ [r] ∧ l.length = k ∧ ∃ j, j < r.size ∧ byteAt r j = c)
  | k, s => by
    rcases Lib.indexB_cases s ⟨#[c]⟩ with h | ⟨i, h, _⟩
    · rw [splitL_none h, Lib.splitB_miss _ _ _ _ h]
      exact .inl ⟨by simp, rfl⟩
    · obtain ⟨hi, hc, e⟩ := splitL_hit h
      have hp := splitL_pos (s.extract (i + 1) s.size) c
      match k with
      | 0 =>
        rw [Lib.splitB_zero, e]
        exact .inr ⟨by simp; omega, [], s, rfl, rfl, i, hi, hc⟩
      | k + 1 =>
        rw [Lib.splitB_hit _ _ _ _ _ h, e]
        rcases splitB_tells c k (s.extract (i + 1) s.size) with ⟨h1, h2⟩ | ⟨h1, l, r, h2, h3, h4⟩
        · exact .inl ⟨by simp; omega, congrArg _ h2⟩
        · exact .inr ⟨by simp; omega, s.extract 0 i :: l, r, congrArg _ h2, by simp [h3], h4⟩

theorem rdR_sp {s : ByteArray} {j : Nat} (hj : j < s.size) (h : byteAt s j = 32) : rdR s = (0, false) := by
  refine rdR_no ?_
  rintro ⟨v, hv⟩
  have hm : (32 : UInt8) ∈ s.data.toList := by
    rw [← h, ← byteAt_get hj]
    exact List.getElem_mem (l := s.data.toList) (by simpa using hj)
  have hd := fun c hc => dd_dig v.natAbs c hc
  rcases dec_list hv with ⟨_, e⟩ | ⟨_, e⟩ <;> rw [e] at hm
  · exact absurd (hd 32 hm) (by unfold isNum; decide)
  · rcases List.mem_cons.1 hm with h | h
    · cases h
    · exact absurd (hd 32 h) (by unfold isNum; decide)

theorem rgR_no {s : ByteArray} (h : (rgR s).2.2 = false) : rgR s = (0, [], false) := by
  unfold rgR at h ⊢
  generalize splitL s 58 = l at h ⊢
  match l, h with
  | [], _ => rfl
  | [_], _ => rfl
  | _ :: _ :: _ :: _, _ => rfl
  | [a, b], h =>
    simp only [rgL, rgT] at h ⊢
    split at h
    · cases h
    · next hx => rw [if_neg hx]

theorem rgR_ok {s : ByteArray} (h : (rgR s).2.2 = true) : okB (rgR s).1 (rgR s).2.1 = true := by
  unfold rgR at h ⊢
  generalize splitL s 58 = l at h ⊢
  match l, h with
  | [], h => cases h
  | [_], h => cases h
  | _ :: _ :: _ :: _, h => cases h
  | [a, b], h =>
    simp only [rgL, rgT] at h ⊢
    split at h
    · next hx => rw [if_pos hx]; exact hx.2.2
    · cases h
theorem rgR_64 (s : ByteArray) : I64 (rgR s).1 ∧ All64 (rgR s).2.1 := by
  cases h : (rgR s).2.2 with
  | false =>
    rw [rgR_no h]
    exact ⟨i64_at (by decide) (by decide), fun d hd => by cases hd⟩
  | true =>
    obtain ⟨b0, b1, _, _, hd, _⟩ := okB_spec (rgR_ok h)
    exact ⟨i64_at (by omega) (by omega), fun d hd2 => by have := hd d hd2; exact i64_at (by omega) (by omega)⟩

/-- The machine of four parts. -/
noncomputable def partM (a b c d : ByteArray) : Mac := ⟨(rgR a).1, (rgR a).2.1, (rgR b).1, (rgR b).2.1, (rgR c).1, (rgR c).2.1, (rdR d).1⟩
noncomputable def rmL : List ByteArray → Mac × Bool
  | [a, b, c, d] => if (rdR d).2 = true ∧ macB (partM a b c d) = true then (partM a b c d, true) else (mac0, false)
  | _ => (mac0, false)
/-- What reading a machine's text gives. -/
noncomputable def rmR (s : ByteArray) : Mac × Bool := rmL (splitL s 32)
theorem rmL_len {l : List ByteArray} (h : ¬ l.length = 4) : rmL l = (mac0, false) := by
  match l, h with
  | [], _ => rfl
  | [_], _ => rfl
  | [_, _], _ => rfl
  | [_, _, _], _ => rfl
  | _ :: _ :: _ :: _ :: _ :: _, _ => rfl
theorem rmL_four {l : List ByteArray} (h : l.length = 4) : ∃ a b c d, l = [a, b, c, d] := by
  match l, h with
  | [a, b, c, d], _ => exact ⟨a, b, c, d, rfl⟩
theorem okB_nil : okB 0 [] = false := by decide
/-- A part that is no text of a register makes no machine. -/
theorem macB_part {a b c d : ByteArray} (h : (rgR a).2.2 = false ∨ (rgR b).2.2 = false ∨ (rgR c).2.2 = false) : macB (partM a b c d) = false := by
  cases hm : macB (partM a b c d) with
  | false => rfl
  | true =>
    obtain ⟨h1, h2, h3, _⟩ := macB_spec hm
    unfold partM at h1 h2 h3
    rcases h with h | h | h
    · rw [rgR_no h, okB_nil] at h1; cases h1
    · rw [rgR_no h, okB_nil] at h2; cases h2
    · rw [rgR_no h, okB_nil] at h3; cases h3
/-- What the program's cut tells. -/
theorem rm_tells (s : ByteArray) : rmR s = rmL (Lib.splitB ⟨#[32]⟩ 0 (min 4 (s.size + 1) - 1) s) := by
  have hl := splitL_len s 32
  rcases splitB_tells 32 (min 4 (s.size + 1) - 1) s with ⟨_, h⟩ | ⟨h1, l, r, h2, h3, j, h4, h5⟩
  · rw [h]; rfl
  · have hk : min 4 (s.size + 1) - 1 = 3 := by omega
    rw [hk] at h1 h2 h3 ⊢
    unfold rmR
    rw [rmL_len (by omega), h2]
    match l, h3 with
    | [a, b, c], _ =>
      show _ = rmL [a, b, c, r]
      rw [rmL, if_neg (by rw [rdR_sp h4 h5]; simp)]
theorem splitB_size (sep : ByteArray) (sv : Nat) : ∀ (k : Nat) (s : ByteArray), ∀ x ∈ Lib.splitB sep sv k s, x.size ≤ s.size
  | 0, s, x, h => by rw [Lib.splitB_zero, List.mem_singleton] at h; subst h; exact Nat.le_refl _
  | k + 1, s, x, h => by
    unfold Lib.splitB at h
    split at h
    · rw [List.mem_singleton] at h; subst h; exact Nat.le_refl _
    · rcases List.mem_cons.1 h with rfl | h
      · (simp) <;> omega
      · exact Nat.le_trans (splitB_size sep sv k _ x h) (by (simp) <;> omega)
end Go.Proofs.YtlahobdopmdfmaaGreatDoor

/- TxtS -/
namespace Go.Proofs.YtlahobdopmdfmaaGreatDoor
open Go.RowKit

def signs : ByteArray := ⟨#[48, 49, 50, 51, 52, 53, 54, 55, 56, 57, 97, 98, 99, 100, 101, 102]⟩
theorem signs_at {n : Nat} (h : n ≤ 15) : signs.extract n (n + 1) = ⟨#[sgnD (n : Int)]⟩ := by
  have hall : ∀ j : Fin 16, signs.extract j.val (j.val + 1) = ⟨#[sgnD ((j.val : Nat) : Int)]⟩ := by decide +kernel
  exact hall ⟨n, by omega⟩
/-- The text down to the digit j. -/
def txJ (B : Int) (zs : List Int) (j : Nat) : ByteArray := ⟨((Lib.itoa B ++ [58]) ++ (zs.drop j).reverse.map sgnD).toArray⟩
theorem txJ_all (B : Int) (zs : List Int) : txJ B zs zs.length = ⟨(Lib.itoa B).toArray⟩ ++ ⟨#[58]⟩ := by
  unfold txJ
  rw [List.drop_of_length_le (Nat.le_refl _)]
  simp
  rfl
theorem txJ_zero (B : Int) (zs : List Int) : txJ B zs 0 = ⟨(txB B zs).toArray⟩ := rfl
theorem txJ_step {B : Int} {zs : List Int} {j : Nat} (h : j < zs.length) : txJ B zs j = txJ B zs (j + 1) ++ ⟨#[sgnD (nth zs j)]⟩ := by
  unfold txJ
  rw [drop_nth h, List.reverse_cons, List.map_append, ← List.append_assoc]
  exact bs_ext (by simp)
theorem txJ_size {B : Int} {zs : List Int} {j : Nat} (h0 : 0 ≤ B) (h1 : B ≤ 16) (hl : zs.length ≤ 16) : (txJ B zs j).size ≤ 40 := by
  have := itoa_len h0 h1
  unfold txJ
  show ((Lib.itoa B ++ [58]) ++ (zs.drop j).reverse.map sgnD).toArray.size ≤ 40
  simp
  omega

end Go.Proofs.YtlahobdopmdfmaaGreatDoor

/- MtxS -/
namespace Go.Proofs.YtlahobdopmdfmaaGreatDoor
open Go.RowKit

/-- The text of a machine. -/
def mtT (m : Mac) : ByteArray :=
  (((((⟨(txB m.b1 m.z1).toArray⟩ ++ ⟨#[32]⟩) ++ ⟨(txB m.b2 m.z2).toArray⟩) ++ ⟨#[32]⟩) ++ ⟨(txB m.b3 m.z3).toArray⟩) ++ ⟨#[32]⟩) ++ ⟨(Lib.itoa m.p).toArray⟩
def mtV (m : Mac) : ByteArray := if macB m = true then mtT m else ByteArray.empty
theorem txB_size {B : Int} {zs : List Int} (h0 : 0 ≤ B) (h1 : B ≤ 16) (hl : zs.length ≤ 16) : (⟨(txB B zs).toArray⟩ : ByteArray).size ≤ 40 := txJ_size (j := 0) h0 h1 hl

end Go.Proofs.YtlahobdopmdfmaaGreatDoor

/- RmT -/
namespace Go.Proofs.YtlahobdopmdfmaaGreatDoor
open Go Go.RowKit

theorem splitL_free {a : ByteArray} {c : UInt8} (ha : ∀ x ∈ a.data.toList, ¬ x = c) : splitL a c = [a] := by
  rcases Lib.indexB_cases a ⟨#[c]⟩ with h | ⟨i, h, _⟩
  · exact splitL_none h
  · obtain ⟨hi, hc, _⟩ := splitL_hit h
    refine absurd hc (ha _ ?_)
    rw [← byteAt_get hi]
    exact List.getElem_mem (l := a.data.toList) (by simpa using hi)
theorem splitL_app {a r : ByteArray} {c : UInt8} (ha : ∀ x ∈ a.data.toList, ¬ x = c) : splitL ((a ++ ⟨#[c]⟩) ++ r) c = a :: splitL r c := by
  have es : ((a ++ ⟨#[c]⟩) ++ r : ByteArray).data.toList = a.data.toList ++ c :: r.data.toList := by simp
  have hs : ((a ++ ⟨#[c]⟩) ++ r : ByteArray).size = a.size + 1 + r.size := by simp [ByteArray.size_append]; rfl
  have hl : a.data.toList.length = a.size := by simp
  have hi : Lib.indexB ((a ++ ⟨#[c]⟩) ++ r) ⟨#[c]⟩ = (a.size : Nat) := by
    show Lib.index ((a ++ ⟨#[c]⟩) ++ r : ByteArray).data.toList [c] = _
    rw [es, ← hl]
    refine Lib.index_first (by simp) (by simp [Lib.occAt]) fun j hj => ?_
    unfold Lib.occAt
    rw [List.drop_append_of_le_length (by omega), List.drop_eq_getElem_cons hj]
    have := ha _ (List.getElem_mem hj)
    rw [List.cons_append, List.isPrefixOf, beq_eq_false_iff_ne.2 (fun e => this e.symm), Bool.false_and]
  obtain ⟨_, _, e⟩ := splitL_hit hi
  rw [e]
  have e1 : ((a ++ ⟨#[c]⟩) ++ r : ByteArray).extract 0 a.size = a := by
    apply WideShapes.bytes_inj
    rw [Lib.extract_data, es, ← hl]; simp
  have e2 : ((a ++ ⟨#[c]⟩) ++ r : ByteArray).extract (a.size + 1) ((a ++ ⟨#[c]⟩) ++ r : ByteArray).size = r := by
    apply WideShapes.bytes_inj
    rw [Lib.extract_to_end, es, ← hl]
    generalize a.data.toList = l
    simp
  rw [e1, e2]
theorem itoa_sp (v : Int) : ∀ x ∈ Lib.itoa v, ¬ x = 32 := by
  have hd := fun u c hc => dd_dig u c hc
  intro x hx e
  subst e
  unfold Lib.itoa at hx
  split at hx
  · rcases List.mem_cons.1 hx with h | h
    · cases h
    · exact absurd (hd _ 32 h) (by unfold isNum; decide)
  · exact absurd (hd _ 32 hx) (by unfold isNum; decide)
theorem txB_sp {b : Int} {zs : List Int} (b1 : b ≤ 16) (hd : ∀ d ∈ zs, 0 ≤ d ∧ d < b) : ∀ x ∈ txB b zs, ¬ x = 32 := by
  intro x hx e
  simp only [txB, List.mem_append, List.mem_cons, List.not_mem_nil, or_false, List.mem_map, List.mem_reverse] at hx
  rcases hx with (h | h) | ⟨d, h, h2⟩
  · exact itoa_sp b x h e
  · rw [h] at e; cases e
  · have := hd d h
    have hs := sgnD_val (d := d) this.1 (by omega)
    rw [h2, e] at hs
    have h32 : ((32 : UInt8).toNat : Int) = 32 := rfl
    split at hs <;> omega
/-- What MachineText writes ReadMachine reads. -/
theorem rmR_back {m : Mac} (h : macB m = true) : rmR (mtV m) = (m, true) := by
  obtain ⟨h1, h2, h3, e2, e3, f2, f3, hl, p0, p1⟩ := macB_spec h
  obtain ⟨_, b1, _, _, d1, _⟩ := okB_spec h1
  obtain ⟨_, b2, _, _, d2, _⟩ := okB_spec h2
  obtain ⟨_, b3, _, n3, d3, _⟩ := okB_spec h3
  have r1 := rgR_back h1
  have r2 := rgR_back h2
  have r3 := rgR_back h3
  rw [txR_ok h1] at r1
  rw [txR_ok h2] at r2
  rw [txR_ok h3] at r3
  have rp : rdR ⟨(Lib.itoa m.p).toArray⟩ = (m.p, true) := rdR_yes ⟨by unfold plcs at p1; omega, rfl⟩
  have g1 := txB_sp b1 d1
  have g2 := txB_sp b2 d2
  have g3 := txB_sp b3 d3
  unfold rmR
  have e : mtT m = (⟨(txB m.b1 m.z1).toArray⟩ ++ ⟨#[32]⟩) ++ ((⟨(txB m.b2 m.z2).toArray⟩ ++ ⟨#[32]⟩) ++ ((⟨(txB m.b3 m.z3).toArray⟩ ++ ⟨#[32]⟩) ++ ⟨(Lib.itoa m.p).toArray⟩)) := by
    unfold mtT
    simp only [ByteArray.append_assoc]
  rw [mtV, if_pos h, e, splitL_app (by simpa using g1), splitL_app (by simpa using g2), splitL_app (by simpa using g3), splitL_free (by simpa using itoa_sp m.p)]
  have hp : partM ⟨(txB m.b1 m.z1).toArray⟩ ⟨(txB m.b2 m.z2).toArray⟩ ⟨(txB m.b3 m.z3).toArray⟩ ⟨(Lib.itoa m.p).toArray⟩ = m := by
    unfold partM; rw [r1, r2, r3, rp]
  show (if (rdR _).2 = true ∧ macB (partM _ _ _ _) = true then _ else _) = _
  rw [hp, rp, if_pos ⟨rfl, h⟩]
end Go.Proofs.YtlahobdopmdfmaaGreatDoor

/- Wid3 -/
namespace Go.Proofs.YtlahobdopmdfmaaGreatDoor
open Go.RowKit

set_option maxHeartbeats 1000000 in
theorem isWidth_any (n : Int) (w : World) : Calls Tryz.prog 99 #[.int .i64 n] w fun e w' => e = .returned (.bool (inB n 1 16)) ∧ w' = w := by
  cases h : inB n 1 16 with
  | true =>
    obtain ⟨h1, h2⟩ := inB_true h
    have d1 : decide (n ≥ 1) = true := decide_eq_true h1
    have d2 : decide (n ≤ 16) = true := decide_eq_true h2
    clear h
    go_enter Tryz.func99, Tryz.ntmps99
    go_wp2
    go_ret
    exact ⟨rfl, rfl⟩
  | false =>
    have hh := inB_false h
    clear h
    rcases Int.lt_or_le n 1 with h1 | h1
    · have d1 : decide (n ≥ 1) = false := decide_eq_false (by omega)
      have h1' : ¬ 1 ≤ n := by omega
      clear hh h1
      go_enter Tryz.func99, Tryz.ntmps99
      go_wp2
      go_ret
      exact ⟨rfl, rfl⟩
    · have d1 : decide (n ≥ 1) = true := decide_eq_true h1
      have d2 : decide (n ≤ 16) = false := decide_eq_false (by omega)
      have h2 : ¬ n ≤ 16 := by omega
      clear hh
      go_enter Tryz.func99, Tryz.ntmps99
      go_wp2
      go_ret
      exact ⟨rfl, rfl⟩
theorem isWidth_at {b : Bool} (n : Int) (w : World) (h : inB n 1 16 = b) : Calls Tryz.prog 99 #[.int .i64 n] w fun e w' => e = .returned (.bool b) ∧ w' = w := by
  subst h; exact isWidth_any n w

end Go.Proofs.YtlahobdopmdfmaaGreatDoor

/- CloneI -/
namespace Go.Proofs.YtlahobdopmdfmaaGreatDoor
open Go.RowKit

theorem rd_news {w : World} {b off : Nat} {zs : List Int} (h : Rd w (some ⟨b, off, none⟩) zs) : ∀ j u, (zs.map (Value.int .i64))[j]? = some u → w.cell? ((⟨b, off, none⟩ : Addr).add j) = some u := by
  intro j u hj
  rw [List.getElem?_map] at hj
  have hlt : j < zs.length := by
    rcases Nat.lt_or_ge j zs.length with h1 | h1
    · exact h1
    · rw [List.getElem?_eq_none h1] at hj; cases hj
  rw [List.getElem?_eq_getElem hlt, Option.map_some] at hj
  injection hj with hj
  subst hj
  obtain ⟨b', off', e, hc⟩ := h.cells (by rintro rfl; simp at hlt)
  injection e with e
  injection e with e1 e2 _
  subst e1 e2
  have := hc j hlt
  rw [nth_get hlt] at this
  have ea : (⟨b, off, none⟩ : Addr).add j = ⟨b, off + j, none⟩ := by
    by_cases h0 : j = 0
    · subst h0; rfl
    · simp [Addr.add, h0]
  rw [ea]; exact this

set_option maxHeartbeats 1000000 in
theorem clone_any (a : Option Addr) (c : Nat) (zs : List Int) (w : World) (ha : Rd w a zs) (hne : 0 < zs.length) :
    Calls Tryz.prog 87 #[.slice a zs.length c] w fun e w' => ∃ A C, e = .returned (.slice A zs.length C) ∧ Own 2 w' w.heap.size w'.heap.size (.slice A zs.length C) zs ∧ Below w.heap.size w w' := by
  have hx := ha.len
  obtain ⟨b, off, rfl, _⟩ := ha.cells (by rintro rfl; simp at hne)
  obtain ⟨u, hu⟩ : ∃ u, u = w.alloc (.cells #[] 2) := ⟨_, rfl⟩
  have hbel : Below w.heap.size w u := by rw [hu]; exact (by repeat (first | exact Below.refl _ _ | refine Below.setCell ?_ (by first | omega | (simp <;> omega)) _ | refine Below.alloc ?_ (by first | omega | (simp <;> omega)) _ | refine Below.drew ?_))
  have hrow : Row 2 1 u w.heap.size (w.heap.size + 1) (.slice (some ⟨w.heap.size, 0, none⟩) 0 0) 0 [] := by
    rw [hu]; simpa using row_new 2 1 w #[] 0 (by simp) (by omega)
  have hus : u.heap.size = w.heap.size + 1 := by rw [hu]; simp
  have hnew := rd_news (ha.below hbel)
  have hone : ∀ v ∈ zs.map (Value.int .i64), v.oneCell' = true := by intro v hv; obtain ⟨x, _, rfl⟩ := List.mem_map.1 hv; rfl
  have hnl := fun (w : World) => Lib.run_eql_slice_nil (P := Tryz.prog) w 24 2 (some ⟨b, off, none⟩) zs.length c 0 0 Tryz.underlying24
  have HU := Lib.hid hu
  clear hu
  go_enter Tryz.func87, Tryz.ntmps87
  go_wp2_with (at_builtin; rw [← HU.out]; refine wpList_appR rfl (.tmp 5) (.tmp 6) 24 2 rfl (.int .i64 0) 1 8 Tryz.underlying24 info_int64 rfl (by omega) (by omega) rfl hrow ⟨b, off, none⟩ zs.length c (zs.map (Value.int .i64)) rfl (by simp) hnew hone (by omega) (by omega) ?_; intro A' C' w1 hrow1 ht)
  have ow : Own 2 w1 w.heap.size w1.heap.size (.slice A' zs.length C') zs := own_of_row (n := zs.length) (by simpa using hrow1) rfl hx
  go_ret
  exact ⟨A', C', by simp, ow, hbel.trans (ht.below (by omega) (by omega))⟩

end Go.Proofs.YtlahobdopmdfmaaGreatDoor

/- Box -/
namespace Go.Proofs.YtlahobdopmdfmaaGreatDoor
open Go.RowKit

/-- s leads to a box that holds the register; what it owns lies elsewhere. -/
def BoxReg (W : World) (b : Int) (zs : List Int) (s : Value) (wx : World) : Prop := ∃ g A C lo hi, s = .pointer (some ⟨g, 0, none⟩) ∧
  wx.cell? ⟨g, 0, none⟩ = some (.int .i64 b) ∧ wx.cell? ⟨g, 1, none⟩ = some (.slice A zs.length C) ∧ Own 2 wx lo hi (.slice A zs.length C) zs ∧
  Hid (g < lo ∨ hi ≤ g) ∧ Hid (W.heap.size ≤ lo) ∧ Hid (W.heap.size ≤ g) ∧ Hid (g < wx.heap.size) ∧ Hid (hi ≤ wx.heap.size) ∧ Below W.heap.size W wx
theorem boxReg_after {W u v : World} {b : Int} {zs : List Int} {A : Option Addr} {C : Nat} {t : TypeId} (hk : Below W.heap.size W u) (hb : Below u.heap.size u v) (ow : Own 2 v u.heap.size v.heap.size (.slice A zs.length C) zs) :
    BoxReg W b zs (.pointer (some ⟨v.heap.size, 0, none⟩)) (v.alloc (.cells #[.int .i64 b, .slice A zs.length C] t)) := by
  have h1 := hk.size
  have h2 := hb.size
  refine ⟨_, A, C, _, _, rfl, ?_, ?_, ow.alloc _, Lib.hid (.inr (Nat.le_refl _)), Lib.hid h1, Lib.hid (by omega), Lib.hid (by simp), Lib.hid (by simp), (hk.trans (hb.mono h1)).alloc (by omega) _⟩
  · exact (Bx.new v #[.int .i64 b, .slice A zs.length C] t).at_ 0 rfl
  · exact (Bx.new v #[.int .i64 b, .slice A zs.length C] t).at_ 1 rfl
theorem boxReg_before {W u v : World} {b : Int} {zs : List Int} {A : Option Addr} {C g : Nat} {t : TypeId} {c0 c1 : Value} (hk : Below W.heap.size W u) (hb : Below u.heap.size u v)
    (ow : Own 2 v u.heap.size v.heap.size (.slice A zs.length C) zs) (bz : Bx v g t #[c0, c1]) (h1 : Hid (W.heap.size ≤ g)) (h2 : Hid (g < u.heap.size)) :
    BoxReg W b zs (.pointer (some ⟨g, 0, none⟩)) ((v.setCell ⟨g, 0, none⟩ (.int .i64 b)).setCell ⟨g, 1, none⟩ (.slice A zs.length C)) := by
  have h3 := hk.size
  have h4 := hb.size
  have h5 := h1.out
  have h6 := h2.out
  replace bz := ((bz.set_ 0 (.int .i64 b)).set_ 1 (.slice A zs.length C))
  refine ⟨_, A, C, _, _, rfl, bz.at_ 0 rfl, bz.at_ 1 rfl, (ow.setCell (.inl h6) _).setCell (.inl h6) _, Lib.hid (.inl h6), Lib.hid h3, Lib.hid h5, Lib.hid (by simp; omega), Lib.hid (by simp), ?_⟩
  exact ((hk.trans (hb.mono h3)).setCell h5 _).setCell h5 _
end Go.Proofs.YtlahobdopmdfmaaGreatDoor

/- MacMid -/
/- MnwI -/
namespace Go.Proofs.YtlahobdopmdfmaaGreatDoor
open Go.RowKit

end Go.Proofs.YtlahobdopmdfmaaGreatDoor

/- MnwS -/
namespace Go.Proofs.YtlahobdopmdfmaaGreatDoor
open Go.RowKit

/-- A machine of its own. -/
def MacV (m : Mac) (w : World) (e : Ending) (w' : World) : Prop := ∃ (A1 : Option Addr) (C1 : Nat) (A2 : Option Addr) (C2 : Nat) (A3 : Option Addr) (C3 : Nat),
  e = .returned (.agg #[.int .i64 m.b1, .slice A1 m.z1.length C1, .int .i64 m.b2, .slice A2 m.z2.length C2, .int .i64 m.b3, .slice A3 m.z3.length C3, .int .i64 m.p]) ∧ Own3 2 w' w.heap.size w'.heap.size (.slice A1 m.z1.length C1) m.z1 (.slice A2 m.z2.length C2) m.z2 (.slice A3 m.z3.length C3) m.z3 ∧ Below w.heap.size w w'

theorem inB_dec {z lo hi : Int} : inB z lo hi = decide (lo ≤ z ∧ z ≤ hi) := by
  cases h : inB z lo hi with
  | true => exact (decide_eq_true (inB_true h)).symm
  | false => exact (decide_eq_false (by have := inB_false h; omega)).symm
theorem specl02New_at (b : Int) (n : Nat) (w : World) (hb1 : 2 ≤ b) (hb2 : b ≤ 16) (hn : n ≤ 16) :
    Calls Tryz.prog 82 #[.int .i64 b, .int .i64 n, .int .i64 0] w fun e w' => ∃ A C,
      e = .returned (.tuple #[.agg #[.int .i64 b, .slice A (digsR b n 0).length C], .int .i64 (leftR b n 0)]) ∧ Own 2 w' w.heap.size w'.heap.size (.slice A (digsR b n 0).length C) (digsR b n 0) ∧ Below w.heap.size w w' := by
  have := specl02New_any b 0 n w hb1 hb2 hn (by omega) (by omega)
  rw [digsR_len]
  exact this

set_option maxHeartbeats 4000000 in
set_option maxRecDepth 100000 in
theorem l10New_any (b : Int) (n1 n2 n3 : Nat) (w : World) (b0 : 2 ≤ b) (b1 : b ≤ 16) (h1 : n1 ≤ 16) (h2 : n2 ≤ 16) (h3 : n3 ≤ 16) :
    Calls Tryz.prog 44 #[.int .i64 b, .int .i64 n1, .int .i64 n2, .int .i64 n3] w (MacV ⟨b, digsR b n1 0, b, digsR b n2 0, b, digsR b n3 0, 0⟩ w) := by
  have R := Tryz.results44
  have HN1 := Lib.hid (fun v => specl02New_at b n1 v b0 b1 h1)
  have HN2 := Lib.hid (fun v => specl02New_at b n2 v b0 b1 h2)
  have HN3 := Lib.hid (fun v => specl02New_at b n3 v b0 b1 h3)
  obtain ⟨Z1, hZ1⟩ : ∃ Z, Z = digsR b n1 0 := ⟨_, rfl⟩
  obtain ⟨Z2, hZ2⟩ : ∃ Z, Z = digsR b n2 0 := ⟨_, rfl⟩
  obtain ⟨Z3, hZ3⟩ : ∃ Z, Z = digsR b n3 0 := ⟨_, rfl⟩
  rw [← hZ1] at HN1 ⊢
  rw [← hZ2] at HN2 ⊢
  rw [← hZ3] at HN3 ⊢
  obtain ⟨g, hg⟩ : ∃ g, g = w.heap.size := ⟨_, rfl⟩
  obtain ⟨u, hu⟩ : ∃ u, u = w.alloc (.cells #[.int .i64 0, .slice none 0 0, .int .i64 0, .slice none 0 0, .int .i64 0, .slice none 0 0, .int .i64 0] 28) := ⟨_, rfl⟩
  have hbel : Below w.heap.size w u := by rw [hu]; exact (by repeat (first | exact Below.refl _ _ | refine Below.setCell ?_ (by first | omega | (simp <;> omega)) _ | refine Below.alloc ?_ (by first | omega | (simp <;> omega)) _ | refine Below.drew ?_))
  have br : Bx u g 28 #[.int .i64 0, .slice none 0 0, .int .i64 0, .slice none 0 0, .int .i64 0, .slice none 0 0, .int .i64 0] := by rw [hu, hg]; exact Bx.new _ _ _
  have hgu : g < u.heap.size := br.lt
  have HG := Lib.hid hg
  have HU := Lib.hid hu
  clear hu hZ1 hZ2 hZ3 b0 b1 h1 h2 h3
  go_enter Tryz.func44, Tryz.ntmps44
  go_wp2_with fail
  rw [← HU.out, ← hg]
  clear hg
  refine (HN1.out u).mono ?_
  rintro e w1 ⟨A1, C1, rfl, own1, hb⟩
  replace br := br.below hb
  have hz1 := hb.size
  replace hbel := hbel.trans (hb.mono hbel.size)
  clear hb
  go_wp2_with fail
  obtain ⟨g1, hg1⟩ : ∃ g, g = w1.heap.size := ⟨_, rfl⟩
  obtain ⟨V1, hV⟩ : ∃ V, V = w1.alloc (.cells #[.int .i64 b, .slice A1 Z1.length C1] 26) := ⟨_, rfl⟩
  try rw [← hg1, ← hV]
  have bx1 : Bx V1 g1 26 #[.int .i64 b, .slice A1 Z1.length C1] := by rw [hV, hg1]; exact Bx.new _ _ _
  have hb : Below w1.heap.size w1 V1 := by rw [hV]; exact (Below.refl _ _).alloc (Nat.le_refl _) _
  have hy1 := hb.size
  have hx1 : g1 < V1.heap.size := bx1.lt
  replace own1 := own1.below hb
  replace br := br.below hb
  replace hbel := hbel.trans (hb.mono hbel.size)
  clear hb hV hg1
  refine (HN2.out V1).mono ?_
  rintro e w2 ⟨A2, C2, rfl, own2, hb⟩
  replace own1 := own1.below hb
  replace bx1 := bx1.below hb
  replace br := br.below hb
  have hz2 := hb.size
  replace hbel := hbel.trans (hb.mono hbel.size)
  clear hb
  go_wp2_with fail
  obtain ⟨g2, hg2⟩ : ∃ g, g = w2.heap.size := ⟨_, rfl⟩
  obtain ⟨V2, hV⟩ : ∃ V, V = w2.alloc (.cells #[.int .i64 b, .slice A2 Z2.length C2] 26) := ⟨_, rfl⟩
  try rw [← hg2, ← hV]
  have bx2 : Bx V2 g2 26 #[.int .i64 b, .slice A2 Z2.length C2] := by rw [hV, hg2]; exact Bx.new _ _ _
  have hb : Below w2.heap.size w2 V2 := by rw [hV]; exact (Below.refl _ _).alloc (Nat.le_refl _) _
  have hy2 := hb.size
  have hx2 : g2 < V2.heap.size := bx2.lt
  replace own1 := own1.below hb
  replace own2 := own2.below hb
  replace bx1 := bx1.below hb
  replace br := br.below hb
  replace hbel := hbel.trans (hb.mono hbel.size)
  clear hb hV hg2
  refine (HN3.out V2).mono ?_
  rintro e w3 ⟨A3, C3, rfl, own3, hb⟩
  replace own1 := own1.below hb
  replace bx1 := bx1.below hb
  replace own2 := own2.below hb
  replace bx2 := bx2.below hb
  replace br := br.below hb
  have hz3 := hb.size
  replace hbel := hbel.trans (hb.mono hbel.size)
  clear hb
  go_upto_region 4 with fail
  obtain ⟨g3, hg3⟩ : ∃ g, g = w3.heap.size := ⟨_, rfl⟩
  obtain ⟨V3, hV⟩ : ∃ V, V = w3.alloc (.cells #[.int .i64 b, .slice A3 Z3.length C3] 26) := ⟨_, rfl⟩
  try rw [← hg3, ← hV]
  have bx3 : Bx V3 g3 26 #[.int .i64 b, .slice A3 Z3.length C3] := by rw [hV, hg3]; exact Bx.new _ _ _
  have hb : Below w3.heap.size w3 V3 := by rw [hV]; exact (Below.refl _ _).alloc (Nat.le_refl _) _
  have hy3 := hb.size
  have hx3 : g3 < V3.heap.size := bx3.lt
  replace own1 := own1.below hb
  replace own2 := own2.below hb
  replace own3 := own3.below hb
  replace bx1 := bx1.below hb
  replace bx2 := bx2.below hb
  replace br := br.below hb
  replace hbel := hbel.trans (hb.mono hbel.size)
  clear hb hV hg3
  have HO : Hid (Own3 2 V3 u.heap.size w3.heap.size (.slice A1 Z1.length C1) Z1 (.slice A2 Z2.length C2) Z2 (.slice A3 Z3.length C3) Z3) := Lib.hid ⟨_, _, _, _, _, _, own1, own2, own3, by omega⟩
  have HS := Lib.hid (show w.heap.size ≤ u.heap.size ∧ w3.heap.size ≤ V3.heap.size ∧ g < u.heap.size by have := HG.out; omega)
  have d0 := bx1.at_ 0 rfl
  have d1 := bx1.at_ 1 rfl
  have d2 := bx2.at_ 0 rfl
  have d3 := bx2.at_ 1 rfl
  have d4 := bx3.at_ 0 rfl
  have d5 := bx3.at_ 1 rfl
  clear own1 own2 own3 bx1 bx2 bx3 hz1 hz2 hz3 hy1 hy2 hy3 hx1 hx2 hx3
  have j0 := br.at_ 0 rfl
  have j1 := br.at_ 1 rfl
  have j2 := br.at_ 2 rfl
  have j3 := br.at_ 3 rfl
  have j4 := br.at_ 4 rfl
  have j5 := br.at_ 5 rfl
  have j6 := br.at_ 6 rfl
  have f0 := br.thaw 0
  have f1 := br.thaw 1
  have f2 := br.thaw 2
  have f3 := br.thaw 3
  have f4 := br.thaw 4
  have f5 := br.thaw 5
  have f6 := br.thaw 6
  have hl := br.lt
  have bz : Bx (((((((V3.setCell ⟨g, 0, none⟩ (.int .i64 b)).setCell ⟨g, 1, none⟩ (.slice A1 Z1.length C1)).setCell ⟨g, 2, none⟩ (.int .i64 b)).setCell ⟨g, 3, none⟩ (.slice A2 Z2.length C2)).setCell ⟨g, 4, none⟩ (.int .i64 b)).setCell ⟨g, 5, none⟩ (.slice A3 Z3.length C3)).setCell ⟨g, 6, none⟩ (.int .i64 0)) (g) 28 #[.int .i64 b, .slice A1 Z1.length C1, .int .i64 b, .slice A2 Z2.length C2, .int .i64 b, .slice A3 Z3.length C3, .int .i64 0] := bx_put7 br
  have r0 := bz.at_ 0 rfl
  have r1 := bz.at_ 1 rfl
  have r2 := bz.at_ 2 rfl
  have r3 := bz.at_ 3 rfl
  have r4 := bz.at_ 4 rfl
  have r5 := bz.at_ 5 rfl
  have r6 := bz.at_ 6 rfl
  clear bz
  go_wp2
  exact bodyPost_ret (v := .agg #[.int .i64 b, .slice A1 Z1.length C1, .int .i64 b, .slice A2 Z2.length C2, .int .i64 b, .slice A3 Z3.length C3, .int .i64 0]) (by simp [results, go_sem, r0, r1, r2, r3, r4, r5, r6]) rfl
    ⟨A1, C1, A2, C2, A3, C3, rfl, (show Own3 2 _ u.heap.size w3.heap.size (.slice A1 Z1.length C1) Z1 (.slice A2 Z2.length C2) Z2 (.slice A3 Z3.length C3) Z3 from (((((((HO.out.setCell (p := ⟨g, 0, none⟩) (.inl HS.out.2.2) _).setCell (p := ⟨g, 1, none⟩) (.inl HS.out.2.2) _).setCell (p := ⟨g, 2, none⟩) (.inl HS.out.2.2) _).setCell (p := ⟨g, 3, none⟩) (.inl HS.out.2.2) _).setCell (p := ⟨g, 4, none⟩) (.inl HS.out.2.2) _).setCell (p := ⟨g, 5, none⟩) (.inl HS.out.2.2) _).setCell (p := ⟨g, 6, none⟩) (.inl HS.out.2.2) _)).wide HS.out.1 (by have := HS.out; simp; omega), by have := HG.out; exact (by repeat (first | with_reducible exact hbel | with_reducible refine Below.setCell ?_ (by first | omega | (simp <;> omega)) _ | with_reducible refine Below.alloc ?_ (by first | omega | (simp <;> omega)) _ | with_reducible refine Below.drew ?_))⟩

end Go.Proofs.YtlahobdopmdfmaaGreatDoor

/- McpI -/
namespace Go.Proofs.YtlahobdopmdfmaaGreatDoor
open Go.RowKit

/-- A machine of its own. -/
def MacVI (m : Mac) (w : World) (e : Ending) (w' : World) : Prop := ∃ (A1 : Option Addr) (C1 : Nat) (A2 : Option Addr) (C2 : Nat) (A3 : Option Addr) (C3 : Nat),
  e = .returned (.agg #[.int .i64 m.b1, .slice A1 m.z1.length C1, .int .i64 m.b2, .slice A2 m.z2.length C2, .int .i64 m.b3, .slice A3 m.z3.length C3, .int .i64 m.p]) ∧ Own3 2 w' w.heap.size w'.heap.size (.slice A1 m.z1.length C1) m.z1 (.slice A2 m.z2.length C2) m.z2 (.slice A3 m.z3.length C3) m.z3 ∧ Below w.heap.size w w'

set_option maxRecDepth 100000 in
set_option maxHeartbeats 4000000 in
theorem copied_any (m : Mac) (A1 : Option Addr) (C1 : Nat) (A2 : Option Addr) (C2 : Nat) (A3 : Option Addr) (C3 : Nat) (w : World) (h : Rd3 w A1 m.z1 A2 m.z2 A3 m.z3) (n1 : 0 < m.z1.length) (n2 : 0 < m.z2.length) (n3 : 0 < m.z3.length) :
    Calls Tryz.prog 49 #[.agg #[.int .i64 m.b1, .slice A1 m.z1.length C1, .int .i64 m.b2, .slice A2 m.z2.length C2, .int .i64 m.b3, .slice A3 m.z3.length C3, .int .i64 m.p]] w (MacVI m w) := by
  have R := Tryz.results49
  obtain ⟨g, hg⟩ : ∃ g, g = w.heap.size := ⟨_, rfl⟩
  obtain ⟨u, hu⟩ : ∃ u, u = (w.alloc (.cells #[.int .i64 m.b1, .slice A1 m.z1.length C1, .int .i64 m.b2, .slice A2 m.z2.length C2, .int .i64 m.b3, .slice A3 m.z3.length C3, .int .i64 m.p] 28)).alloc (.cells #[.int .i64 0, .slice none 0 0, .int .i64 0, .slice none 0 0, .int .i64 0, .slice none 0 0, .int .i64 0] 28) := ⟨_, rfl⟩
  have hbel : Below w.heap.size w u := by rw [hu]; exact (by repeat (first | exact Below.refl _ _ | refine Below.setCell ?_ (by first | omega | (simp <;> omega)) _ | refine Below.alloc ?_ (by first | omega | (simp <;> omega)) _ | refine Below.drew ?_))
  have bm : Bx u g 28 #[.int .i64 m.b1, .slice A1 m.z1.length C1, .int .i64 m.b2, .slice A2 m.z2.length C2, .int .i64 m.b3, .slice A3 m.z3.length C3, .int .i64 m.p] := by rw [hu, hg]; exact (Bx.new _ _ _).alloc _
  have br : Bx u (g + 1) 28 #[.int .i64 0, .slice none 0 0, .int .i64 0, .slice none 0 0, .int .i64 0, .slice none 0 0, .int .i64 0] := by rw [hu, hg]; simpa using Bx.new (w.alloc (.cells #[.int .i64 m.b1, .slice A1 m.z1.length C1, .int .i64 m.b2, .slice A2 m.z2.length C2, .int .i64 m.b3, .slice A3 m.z3.length C3, .int .i64 m.p] 28)) #[.int .i64 0, .slice none 0 0, .int .i64 0, .slice none 0 0, .int .i64 0, .slice none 0 0, .int .i64 0] 28
  have hgu : g + 1 < u.heap.size := br.lt
  have HC1 := Lib.hid (fun (v : World) (hb : Below w.heap.size w v) => clone_any A1 C1 m.z1 v (h.x.below hb) n1)
  have HC2 := Lib.hid (fun (v : World) (hb : Below w.heap.size w v) => clone_any A2 C2 m.z2 v (h.y.below hb) n2)
  have HC3 := Lib.hid (fun (v : World) (hb : Below w.heap.size w v) => clone_any A3 C3 m.z3 v (h.z.below hb) n3)
  have HG := Lib.hid hg
  have HU := Lib.hid hu
  clear hu h n1 n2 n3
  go_enter Tryz.func49, Tryz.ntmps49
  go_wp2_with fail
  rw [← HU.out, ← hg]
  clear hg
  refine (HC1.out u hbel).mono ?_
  rintro e w1 ⟨D1, E1, rfl, own1, hb1⟩
  replace br := br.below hb1
  replace bm := bm.below hb1
  have hz1 := hb1.size
  replace hbel := hbel.trans (hb1.mono hbel.size)
  clear hb1
  have c1 := bm.at_ 1 rfl
  have f1 := bm.thaw 1
  have c2 := bm.at_ 3 rfl
  go_wp2_with fail
  obtain ⟨V1, hV⟩ : ∃ V, V = w1.setCell ⟨g, 1, none⟩ (.slice D1 m.z1.length E1) := ⟨_, rfl⟩
  try rw [← hV]
  replace own1 : Own 2 V1 u.heap.size w1.heap.size (.slice D1 m.z1.length E1) m.z1 := by rw [hV]; exact own1.setCell (.inl (by simp; omega)) _
  replace br : Bx V1 (g + 1) 28 #[.int .i64 0, .slice none 0 0, .int .i64 0, .slice none 0 0, .int .i64 0, .slice none 0 0, .int .i64 0] := by rw [hV]; exact br.far (by simp) _
  replace bm : Bx V1 g 28 #[.int .i64 m.b1, .slice D1 m.z1.length E1, .int .i64 m.b2, .slice A2 m.z2.length C2, .int .i64 m.b3, .slice A3 m.z3.length C3, .int .i64 m.p] := by rw [hV]; exact bm.set_ 1 _
  replace hbel : Below w.heap.size w V1 := by rw [hV]; have := HG.out; exact (by repeat (first | with_reducible exact hbel | with_reducible refine Below.setCell ?_ (by first | omega | (simp <;> omega)) _ | with_reducible refine Below.alloc ?_ (by first | omega | (simp <;> omega)) _ | with_reducible refine Below.drew ?_))
  have hy1 : V1.heap.size = w1.heap.size := by rw [hV]; simp
  clear hV c1 f1 c2
  refine (HC2.out V1 hbel).mono ?_
  rintro e w2 ⟨D2, E2, rfl, own2, hb2⟩
  replace own1 := own1.below hb2
  replace br := br.below hb2
  replace bm := bm.below hb2
  have hz2 := hb2.size
  replace hbel := hbel.trans (hb2.mono hbel.size)
  clear hb2
  have c1 := bm.at_ 3 rfl
  have f1 := bm.thaw 3
  have c2 := bm.at_ 5 rfl
  go_wp2_with fail
  obtain ⟨V2, hV⟩ : ∃ V, V = w2.setCell ⟨g, 3, none⟩ (.slice D2 m.z2.length E2) := ⟨_, rfl⟩
  try rw [← hV]
  replace own1 : Own 2 V2 u.heap.size w1.heap.size (.slice D1 m.z1.length E1) m.z1 := by rw [hV]; exact own1.setCell (.inl (by simp; omega)) _
  replace own2 : Own 2 V2 V1.heap.size w2.heap.size (.slice D2 m.z2.length E2) m.z2 := by rw [hV]; exact own2.setCell (.inl (by simp; omega)) _
  replace br : Bx V2 (g + 1) 28 #[.int .i64 0, .slice none 0 0, .int .i64 0, .slice none 0 0, .int .i64 0, .slice none 0 0, .int .i64 0] := by rw [hV]; exact br.far (by simp) _
  replace bm : Bx V2 g 28 #[.int .i64 m.b1, .slice D1 m.z1.length E1, .int .i64 m.b2, .slice D2 m.z2.length E2, .int .i64 m.b3, .slice A3 m.z3.length C3, .int .i64 m.p] := by rw [hV]; exact bm.set_ 3 _
  replace hbel : Below w.heap.size w V2 := by rw [hV]; have := HG.out; exact (by repeat (first | with_reducible exact hbel | with_reducible refine Below.setCell ?_ (by first | omega | (simp <;> omega)) _ | with_reducible refine Below.alloc ?_ (by first | omega | (simp <;> omega)) _ | with_reducible refine Below.drew ?_))
  have hy2 : V2.heap.size = w2.heap.size := by rw [hV]; simp
  clear hV c1 f1 c2
  refine (HC3.out V2 hbel).mono ?_
  rintro e w3 ⟨D3, E3, rfl, own3, hb3⟩
  replace own1 := own1.below hb3
  replace own2 := own2.below hb3
  replace br := br.below hb3
  replace bm := bm.below hb3
  have hz3 := hb3.size
  replace hbel := hbel.trans (hb3.mono hbel.size)
  clear hb3
  have c1 := bm.at_ 5 rfl
  have f1 := bm.thaw 5
  go_upto_region 4 with fail
  obtain ⟨V3, hV⟩ : ∃ V, V = w3.setCell ⟨g, 5, none⟩ (.slice D3 m.z3.length E3) := ⟨_, rfl⟩
  try rw [← hV]
  replace own1 : Own 2 V3 u.heap.size w1.heap.size (.slice D1 m.z1.length E1) m.z1 := by rw [hV]; exact own1.setCell (.inl (by simp; omega)) _
  replace own2 : Own 2 V3 V1.heap.size w2.heap.size (.slice D2 m.z2.length E2) m.z2 := by rw [hV]; exact own2.setCell (.inl (by simp; omega)) _
  replace own3 : Own 2 V3 V2.heap.size w3.heap.size (.slice D3 m.z3.length E3) m.z3 := by rw [hV]; exact own3.setCell (.inl (by simp; omega)) _
  replace br : Bx V3 (g + 1) 28 #[.int .i64 0, .slice none 0 0, .int .i64 0, .slice none 0 0, .int .i64 0, .slice none 0 0, .int .i64 0] := by rw [hV]; exact br.far (by simp) _
  replace bm : Bx V3 g 28 #[.int .i64 m.b1, .slice D1 m.z1.length E1, .int .i64 m.b2, .slice D2 m.z2.length E2, .int .i64 m.b3, .slice D3 m.z3.length E3, .int .i64 m.p] := by rw [hV]; exact bm.set_ 5 _
  replace hbel : Below w.heap.size w V3 := by rw [hV]; have := HG.out; exact (by repeat (first | with_reducible exact hbel | with_reducible refine Below.setCell ?_ (by first | omega | (simp <;> omega)) _ | with_reducible refine Below.alloc ?_ (by first | omega | (simp <;> omega)) _ | with_reducible refine Below.drew ?_))
  have hy3 : V3.heap.size = w3.heap.size := by rw [hV]; simp
  clear hV c1 f1
  have HO : Hid (Own3 2 V3 u.heap.size w3.heap.size (.slice D1 m.z1.length E1) m.z1 (.slice D2 m.z2.length E2) m.z2 (.slice D3 m.z3.length E3) m.z3) := Lib.hid ⟨_, _, _, _, _, _, own1, own2, own3, by omega⟩
  have HS := Lib.hid (show w.heap.size ≤ u.heap.size ∧ w3.heap.size ≤ V3.heap.size ∧ g + 1 < u.heap.size by have := HG.out; omega)
  clear own1 own2 own3 hz1 hz2 hz3 hy1 hy2 hy3 HC1 HC2 HC3
  have c0 := bm.at_ 0 rfl
  have c1 := bm.at_ 1 rfl
  have c2 := bm.at_ 2 rfl
  have c3 := bm.at_ 3 rfl
  have c4 := bm.at_ 4 rfl
  have c5 := bm.at_ 5 rfl
  have c6 := bm.at_ 6 rfl
  have j0 := br.at_ 0 rfl
  have j1 := br.at_ 1 rfl
  have j2 := br.at_ 2 rfl
  have j3 := br.at_ 3 rfl
  have j4 := br.at_ 4 rfl
  have j5 := br.at_ 5 rfl
  have j6 := br.at_ 6 rfl
  have f0 := br.thaw 0
  have f1 := br.thaw 1
  have f2 := br.thaw 2
  have f3 := br.thaw 3
  have f4 := br.thaw 4
  have f5 := br.thaw 5
  have f6 := br.thaw 6
  have hl := br.lt
  have bz : Bx (((((((V3.setCell ⟨g + 1, 0, none⟩ (.int .i64 m.b1)).setCell ⟨g + 1, 1, none⟩ (.slice D1 m.z1.length E1)).setCell ⟨g + 1, 2, none⟩ (.int .i64 m.b2)).setCell ⟨g + 1, 3, none⟩ (.slice D2 m.z2.length E2)).setCell ⟨g + 1, 4, none⟩ (.int .i64 m.b3)).setCell ⟨g + 1, 5, none⟩ (.slice D3 m.z3.length E3)).setCell ⟨g + 1, 6, none⟩ (.int .i64 m.p)) (g + 1) 28 #[.int .i64 m.b1, .slice D1 m.z1.length E1, .int .i64 m.b2, .slice D2 m.z2.length E2, .int .i64 m.b3, .slice D3 m.z3.length E3, .int .i64 m.p] := bx_put7 br
  have r0 := bz.at_ 0 rfl
  have r1 := bz.at_ 1 rfl
  have r2 := bz.at_ 2 rfl
  have r3 := bz.at_ 3 rfl
  have r4 := bz.at_ 4 rfl
  have r5 := bz.at_ 5 rfl
  have r6 := bz.at_ 6 rfl
  clear bz
  go_wp2
  exact bodyPost_ret (v := .agg #[.int .i64 m.b1, .slice D1 m.z1.length E1, .int .i64 m.b2, .slice D2 m.z2.length E2, .int .i64 m.b3, .slice D3 m.z3.length E3, .int .i64 m.p]) (by simp [results, go_sem, r0, r1, r2, r3, r4, r5, r6]) rfl
    ⟨D1, E1, D2, E2, D3, E3, rfl, (show Own3 2 _ u.heap.size w3.heap.size (.slice D1 m.z1.length E1) m.z1 (.slice D2 m.z2.length E2) m.z2 (.slice D3 m.z3.length E3) m.z3 from (((((((HO.out.setCell (p := ⟨g + 1, 0, none⟩) (.inl HS.out.2.2) _).setCell (p := ⟨g + 1, 1, none⟩) (.inl HS.out.2.2) _).setCell (p := ⟨g + 1, 2, none⟩) (.inl HS.out.2.2) _).setCell (p := ⟨g + 1, 3, none⟩) (.inl HS.out.2.2) _).setCell (p := ⟨g + 1, 4, none⟩) (.inl HS.out.2.2) _).setCell (p := ⟨g + 1, 5, none⟩) (.inl HS.out.2.2) _).setCell (p := ⟨g + 1, 6, none⟩) (.inl HS.out.2.2) _)).wide HS.out.1 (by have := HS.out; simp; omega), by have := HG.out; exact (by repeat (first | with_reducible exact hbel | with_reducible refine Below.setCell ?_ (by first | omega | (simp <;> omega)) _ | with_reducible refine Below.alloc ?_ (by first | omega | (simp <;> omega)) _ | with_reducible refine Below.drew ?_))⟩
end Go.Proofs.YtlahobdopmdfmaaGreatDoor

/- McpS -/
namespace Go.Proofs.YtlahobdopmdfmaaGreatDoor
open Go.RowKit

end Go.Proofs.YtlahobdopmdfmaaGreatDoor

/- MsvI -/
namespace Go.Proofs.YtlahobdopmdfmaaGreatDoor
open Go.RowKit

/-- A setting that has the value. -/
theorem nrR_in {b v : Int} {n : Nat} (b0 : 2 ≤ b) (b1 : b ≤ 16) (n0 : 1 ≤ n) (n1 : n ≤ 16) (hf : b ^ n - 1 ≤ 1000000000000) (h : 0 ≤ v ∧ v ≤ b ^ n - 1) : nrR b n v = (b, digsR b n v, 0) :=
  nrR_ok ⟨b0, b1, n0, n1, h.1, by omega⟩ (by rw [leftR_none (by omega) h.1 (by omega)]; omega)
theorem nrR_out {b v : Int} {n : Nat} (b0 : 2 ≤ b) (b1 : b ≤ 16) (n0 : 1 ≤ n) (n1 : n ≤ 16) (h : ¬ (0 ≤ v ∧ v ≤ b ^ n - 1)) : ∃ k, nrR b n v = (0, [], k) ∧ k ≠ 0 := by
  by_cases hv : 0 ≤ v ∧ v ≤ 1000000000000
  · refine ⟨5, nrR_full ⟨b0, b1, n0, n1, hv.1, hv.2⟩ ?_, by omega⟩
    have hp := pow_pos' (show 1 ≤ b by omega) n
    rw [leftR_div (by omega)]
    have := (Int.le_ediv_iff_mul_le (a := 1) (b := v) (show 0 < b ^ n by omega)).2 (by omega)
    omega
  · exact ⟨2, nrR_bad (by omega), by omega⟩

/-- The machine with another setting. -/
def svM (m : Mac) (v : Int) : Mac := ⟨m.b1, digsR m.b1 m.z1.length v, m.b2, m.z2, m.b3, m.z3, m.p⟩

end Go.Proofs.YtlahobdopmdfmaaGreatDoor

/- MsdI -/
namespace Go.Proofs.YtlahobdopmdfmaaGreatDoor
open Go.RowKit

theorem own_first {t : TypeId} {w : World} {lo hi n c : Nat} {A : Option Addr} {zs : List Int} (h : Own t w lo hi (.slice A n c) zs) (hn : 0 < zs.length) : ∃ p, A = some ⟨p, 0, none⟩ ∧ lo ≤ p ∧ p < hi := by
  rcases h.row.2 with ⟨_, h0⟩ | ⟨g, cap, cur, hv, _⟩
  · omega
  · injection hv with hA
    subst hA
    have := h.lo_le (k := g) rfl
    exact ⟨g, rfl, this.1, this.2.1⟩

/-- The machine with another digit of the setting. -/
def sdM (m : Mac) (k d : Int) : Mac := ⟨m.b1, m.z1.set k.toNat d, m.b2, m.z2, m.b3, m.z3, m.p⟩

end Go.Proofs.YtlahobdopmdfmaaGreatDoor

/- MsvS -/
namespace Go.Proofs.YtlahobdopmdfmaaGreatDoor
open Go.RowKit

theorem own_firstS {t : TypeId} {w : World} {lo hi n c : Nat} {A : Option Addr} {zs : List Int} (h : Own t w lo hi (.slice A n c) zs) (hn : 0 < zs.length) : ∃ p, A = some ⟨p, 0, none⟩ ∧ lo ≤ p ∧ p < hi := by
  rcases h.row.2 with ⟨_, h0⟩ | ⟨g, cap, cur, hv, _⟩
  · omega
  · injection hv with hA
    subst hA
    have := h.lo_le (k := g) rfl
    exact ⟨g, rfl, this.1, this.2.1⟩

end Go.Proofs.YtlahobdopmdfmaaGreatDoor
