/-
  Accumulators: the maths (no program).
-/
import Derived.Test.YtlahobdopmdfmaaDoorDigs
import Derived.Test.YtlahobdopmdfmaaDoorVal
import Derived.Test.YtlahobdopmdfmaaDoorAr
namespace Go.Proofs.YtlahobdopmdfmaaDoor
open Go.RowKit

/-- Are there accumulators with a base and a width? -/
def fullB (B n : Int) : Bool := decide (2 ≤ B ∧ B ≤ 16 ∧ 1 ≤ n ∧ n ≤ 16 ∧ B ^ n.toNat - 1 ≤ 1000000000000)
theorem fullB_spec {B n : Int} (h : fullB B n = true) : 2 ≤ B ∧ B ≤ 16 ∧ 1 ≤ n ∧ n ≤ 16 ∧ B ^ n.toNat - 1 ≤ 1000000000000 := by simpa [fullB] using h
/-- How many registers there are. -/
def cntA (B n : Int) : Int := B ^ n.toNat
/-- The power, as far as the model looks. -/
def capW (B : Int) (k : Nat) : Int := min 1000000000002 (B ^ k)
theorem pow_pos' {B : Int} (h : 1 ≤ B) (k : Nat) : 1 ≤ B ^ k := Int.pow_pos (by omega)
theorem pow_succ_le {B : Int} (h : 2 ≤ B) (k : Nat) : 2 * B ^ k ≤ B ^ (k + 1) := by
  rw [Int.pow_succ, Int.mul_comm 2]
  exact Int.mul_le_mul_of_nonneg_left h (by have := pow_pos' (show 1 ≤ B by omega) k; omega)
theorem pow_mono' {B : Int} (h : 2 ≤ B) {j k : Nat} (hjk : j ≤ k) : B ^ j ≤ B ^ k := by
  induction k with
  | zero => obtain rfl : j = 0 := by omega
            exact Int.le_refl _
  | succ k ih =>
    by_cases e : j = k + 1
    · subst e; exact Int.le_refl _
    · have := ih (by omega)
      have h2 := pow_succ_le h k
      have h3 := pow_pos' (show 1 ≤ B by omega) k
      omega
theorem capW_zero (B : Int) : capW B 0 = 1 := by simp [capW]; omega
theorem capW_bd {B : Int} (h : 1 ≤ B) (k : Nat) : 1 ≤ capW B k ∧ capW B k ≤ 1000000000002 := by
  have := pow_pos' h k
  unfold capW; omega
theorem capW_succ {B : Int} (h : 1 ≤ B) (k : Nat) : min 1000000000002 (capW B k * B) = capW B (k + 1) := by
  unfold capW
  rw [Int.pow_succ]
  have hp := pow_pos' h k
  by_cases hc : B ^ k ≤ 1000000000002
  · rw [Int.min_eq_right hc]
  · have h1 : (1000000000002 : Int) * 1 ≤ 1000000000002 * B := Int.mul_le_mul_of_nonneg_left h (by omega)
    have h2 : B ^ k * 1 ≤ B ^ k * B := Int.mul_le_mul_of_nonneg_left h (by omega)
    rw [Int.min_eq_left (show (1000000000002 : Int) ≤ B ^ k by omega), Int.min_eq_left (by omega), Int.min_eq_left (by omega)]
theorem capW_full {B : Int} {k : Nat} (h : B ^ k - 1 ≤ 1000000000000) : capW B k = B ^ k := by unfold capW; omega
theorem capW_test {B : Int} {k : Nat} : (capW B k - 1 ≤ 1000000000000) ↔ (B ^ k - 1 ≤ 1000000000000) := by unfold capW; omega

/-- Is a number one of those of an accumulator? -/
def inA (N x : Int) : Bool := decide (-(N / 2) ≤ x ∧ x ≤ N - 1 + -(N / 2))
/-- The number that is shown for x. -/
def shn (N x : Int) : Int := if N - 1 + -(N / 2) < x % N then x % N - N else x % N
theorem shn_in {N : Int} (hN : 1 ≤ N) (x : Int) : -(N / 2) ≤ shn N x ∧ shn N x ≤ N - 1 + -(N / 2) := by
  have h1 := Int.emod_nonneg x (show N ≠ 0 by omega)
  have h2 := Int.emod_lt_of_pos x (show 0 < N by omega)
  have h3 := Int.emod_nonneg N (show (2 : Int) ≠ 0 by omega)
  unfold shn; split <;> omega
theorem shn_mod {N : Int} (_ : 1 ≤ N) (x : Int) : shn N x % N = x % N := by
  unfold shn; split
  · rw [Int.sub_emod, Int.emod_self, Int.sub_zero, Int.emod_emod_of_dvd _ (Int.dvd_refl _), Int.emod_emod_of_dvd _ (Int.dvd_refl _)]
  · exact Int.emod_emod_of_dvd _ (Int.dvd_refl _)
theorem shn_self {N : Int} (_ : 1 ≤ N) {x : Int} (h : -(N / 2) ≤ x ∧ x ≤ N - 1 + -(N / 2)) : shn N x = x := by
  have h3 := Int.emod_nonneg N (show (2 : Int) ≠ 0 by omega)
  unfold shn
  by_cases hx : 0 ≤ x
  · rw [Int.emod_eq_of_lt hx (by omega), if_neg (by omega)]
  · have e : x % N = x + N := by
      rw [← Int.add_emod_right x N]; exact Int.emod_eq_of_lt (by omega) (by omega)
    rw [e, if_pos (by omega)]; omega
theorem shn_eq {N : Int} (hN : 1 ≤ N) (x : Int) : shn N x = x ↔ inA N x = true := by
  constructor
  · intro h; rw [← h]; have := shn_in hN x; simpa [inA] using this
  · intro h; exact shn_self hN (by simpa [inA] using h)
theorem shn_congr {N x y : Int} (h : x % N = y % N) : shn N x = shn N y := by unfold shn; rw [h]
theorem shn_add {N : Int} (hN : 1 ≤ N) (x y : Int) : (shn N x + y) % N = (x + y) % N := by
  rw [Int.add_emod, shn_mod hN, ← Int.add_emod]

/-- What is left of a number behind its lowest digits. -/
theorem leftR_div {b : Int} (hb : 1 ≤ b) : ∀ (n : Nat) (v : Int), leftR b n v = v / b ^ n
  | 0, v => by simp [leftR]
  | n + 1, v => by
    rw [leftR, leftR_div hb n, Int.pow_succ, Int.mul_comm, Int.ediv_ediv_of_nonneg (by omega)]
theorem leftR_none {b : Int} (hb : 1 ≤ b) {n : Nat} {v : Int} (h0 : 0 ≤ v) (h : v < b ^ n) : leftR b n v = 0 := by
  rw [leftR_div hb, Int.ediv_eq_zero_of_lt h0 h]
theorem valR_digs {b : Int} (hb : 1 ≤ b) : ∀ (n : Nat) (v : Int), 0 ≤ v → v < b ^ n → valR b (digsR b n v) = v
  | 0, v, h0, h => by simp at h; simp [digsR, valR]; omega
  | n + 1, v, h0, h => by
    rw [digsR, valR, valR_digs hb n (v / b) (Int.ediv_nonneg h0 (by omega)) (by rw [Int.pow_succ] at h; exact Int.ediv_lt_of_lt_mul (by omega) h)]
    exact Int.emod_add_mul_ediv v b
theorem valR_lt {b : Int} (hb : 1 ≤ b) : ∀ {zs : List Int}, (∀ d ∈ zs, 0 ≤ d ∧ d < b) → 0 ≤ valR b zs ∧ valR b zs < b ^ zs.length
  | [], _ => by simp [valR]
  | d :: ds, h => by
    have hd := h d (by simp)
    have ih := valR_lt hb (zs := ds) fun x hx => h x (by simp [hx])
    simp only [valR, List.length_cons, Int.pow_succ]
    have h1 : 0 ≤ b * valR b ds := Int.mul_nonneg (by omega) ih.1
    have h2 : b * (valR b ds + 1) ≤ b * b ^ ds.length := Int.mul_le_mul_of_nonneg_left (by omega) (by omega)
    rw [Int.mul_add, Int.mul_comm b (b ^ ds.length)] at h2
    omega
theorem digsR_back {b : Int} (hb : 1 ≤ b) : ∀ {zs : List Int}, (∀ d ∈ zs, 0 ≤ d ∧ d < b) → digsR b zs.length (valR b zs) = zs
  | [], _ => rfl
  | d :: ds, h => by
    have hd := h d (by simp)
    have ih := digsR_back hb (zs := ds) fun x hx => h x (by simp [hx])
    have e1 : (d + b * valR b ds) % b = d := by rw [Int.add_mul_emod_self_left]; exact Int.emod_eq_of_lt hd.1 hd.2
    have e2 : (d + b * valR b ds) / b = valR b ds := by rw [Int.add_mul_ediv_left _ _ (by omega), Int.ediv_eq_zero_of_lt hd.1 hd.2, Int.zero_add]
    simp only [List.length_cons, digsR, valR, e1, e2, ih]

/-- Is a register an accumulator? -/
def accB (B : Int) (zs : List Int) : Bool := okB B zs && decide (B ^ zs.length - 1 ≤ 1000000000000)
theorem accB_spec {B : Int} {zs : List Int} (h : accB B zs = true) : okB B zs = true ∧ B ^ zs.length - 1 ≤ 1000000000000 := by simpa [accB] using h
theorem accB_full {B : Int} {zs : List Int} (h : accB B zs = true) : fullB B (zs.length : Int) = true := by
  obtain ⟨h1, h2⟩ := accB_spec h
  obtain ⟨b0, b1, n0, n1, _, _⟩ := okB_spec h1
  simp only [fullB, Int.toNat_natCast, decide_eq_true_eq]
  exact ⟨b0, b1, by omega, by omega, h2⟩
theorem full_accB {B : Int} {zs : List Int} (h1 : okB B zs = true) (h2 : fullB B (zs.length : Int) = true) : accB B zs = true := by
  have := (fullB_spec h2).2.2.2.2
  rw [Int.toNat_natCast] at this
  simp [accB, h1, this]
theorem accB_of_full {B : Int} {zs : List Int} (h1 : okB B zs = true) : accB B zs = fullB B (zs.length : Int) := by
  cases h2 : fullB B (zs.length : Int) with
  | true => exact full_accB h1 h2
  | false =>
    cases h : accB B zs with
    | false => rfl
    | true => rw [accB_full h] at h2; cases h2

/-- AccumulatorRange. -/
def rngA (B n : Int) : Int × Int × Int := if fullB B n = true then (-(cntA B n / 2), cntA B n - 1 + -(cntA B n / 2), 0) else (0, 0, 2)
/-- The register that shows a number. -/
def setA (B n x : Int) : List Int := digsR B n.toNat (x % cntA B n)
/-- SetAccumulator. -/
def setAR (B n x : Int) : Int × List Int × Int := if fullB B n = true then (if inA (cntA B n) x = true then (B, setA B n x, 0) else (0, [], 5)) else (0, [], 2)
/-- The number of an accumulator. -/
def numA (B : Int) (zs : List Int) : Int := shn (cntA B (zs.length : Int)) (valR B zs)
/-- NumberOf. -/
def numR (B : Int) (zs : List Int) : Int × Int := if accB B zs = true then (numA B zs, 0) else (0, 1)
/-- NegateAccumulator. -/
def negR (B : Int) (zs : List Int) : Int × List Int × Int := if accB B zs = true then setAR B (zs.length : Int) (-(numA B zs)) else (0, [], 1)
/-- WidenAccumulator. -/
def widR (B : Int) (zs : List Int) (n : Int) : Int × List Int × Int :=
  if accB B zs = true then (if (zs.length : Int) ≤ n ∧ n ≤ 16 then (if fullB B n = true then (B, setA B n (numA B zs), 0) else (0, [], 5)) else (0, [], 2)) else (0, [], 1)
/-- ClearTurns. -/
def clrD (B : Int) (zs : List Int) (k : Nat) : Int := (-(nth zs k)) % B
def clrR (B : Int) (zs : List Int) : List Int × Int := if okB B zs = true then (tab (clrD B zs) zs.length, 0) else ([], 1)
/-- Adding number after number: what is shown, where the bell rings. -/
def runA (N s : Int) (l : List Int) : Nat → Int × List Int
  | 0 => (s, [])
  | k + 1 => (shn N ((runA N s l k).1 + nth l k), (runA N s l k).2 ++ (if inA N ((runA N s l k).1 + nth l k) = true then [] else [(k : Int)]))
/-- Can all numbers be added? -/
def mostB (l : List Int) : Bool := decide (∀ x ∈ l, -1000000000000 ≤ x ∧ x ≤ 1000000000000)
/-- AccumulateAll. -/
def accR (B : Int) (zs l : List Int) : Int × List Int × List Int × Int :=
  if accB B zs = true then (if mostB l = true then (B, setA B (zs.length : Int) (runA (cntA B (zs.length : Int)) (numA B zs) l l.length).1, (runA (cntA B (zs.length : Int)) (numA B zs) l l.length).2, 0) else (0, [], [], 2)) else (0, [], [], 1)

theorem cntA_bd {B n : Int} (h : fullB B n = true) : 2 ≤ cntA B n ∧ cntA B n ≤ 1000000000001 := by
  obtain ⟨h1, h2, h3, h4, h5⟩ := fullB_spec h
  have := pow_mono' h1 (show 1 ≤ n.toNat by omega)
  rw [Int.pow_one] at this
  unfold cntA; omega
theorem cntA_len {B : Int} {zs : List Int} : cntA B (zs.length : Int) = B ^ zs.length := by simp [cntA]
theorem modA_bd {B n : Int} (h : fullB B n = true) (x : Int) : 0 ≤ x % cntA B n ∧ x % cntA B n < cntA B n := by
  have := cntA_bd h
  exact ⟨Int.emod_nonneg _ (by omega), Int.emod_lt_of_pos _ (by omega)⟩
/-- NewRegister makes the register that shows a number. -/
theorem nrR_set {B n : Int} (h : fullB B n = true) (x : Int) : nrR B n (x % cntA B n) = (B, setA B n x, 0) := by
  obtain ⟨h1, h2, h3, h4, h5⟩ := fullB_spec h
  have hm := modA_bd h x
  have hc := cntA_bd h
  obtain ⟨m, rfl⟩ := Int.eq_ofNat_of_zero_le (show 0 ≤ n by omega)
  rw [setA, Int.toNat_natCast]
  refine nrR_ok ⟨h1, h2, by omega, by omega, hm.1, by omega⟩ ?_
  rw [leftR_none (by omega) hm.1 (by simpa [cntA] using hm.2)]; omega
theorem setA_len {B n : Int} (x : Int) : (setA B n x).length = n.toNat := digsR_len _ _ _
theorem setA_val {B n : Int} (h : fullB B n = true) (x : Int) : valR B (setA B n x) = x % cntA B n := by
  have hm := modA_bd h x
  exact valR_digs (by have := (fullB_spec h).1; omega) _ _ hm.1 hm.2
theorem setA_congr {B n x y : Int} (h : x % cntA B n = y % cntA B n) : setA B n x = setA B n y := by unfold setA; rw [h]
theorem numA_set {B n : Int} (h : fullB B n = true) (x : Int) : numA B (setA B n x) = shn (cntA B n) x := by
  have hn := (fullB_spec h).2.2.1
  unfold numA
  rw [setA_len, setA_val h, show ((n.toNat : Nat) : Int) = n by omega]
  exact shn_congr (Int.emod_emod_of_dvd _ (Int.dvd_refl _))
/-- What is shown at first. -/
theorem setA_num {B : Int} {zs : List Int} (h : accB B zs = true) : setA B (zs.length : Int) (numA B zs) = zs := by
  have hf := accB_full h
  have hc := cntA_bd hf
  obtain ⟨b0, b1, n0, n1, hd, _⟩ := okB_spec (accB_spec h).1
  have hv := valR_lt (show 1 ≤ B by omega) hd
  unfold setA numA
  rw [shn_mod (by omega), Int.toNat_natCast, Int.emod_eq_of_lt hv.1 (by rw [cntA_len]; exact hv.2)]
  exact digsR_back (by omega) hd
theorem numA_in {B : Int} {zs : List Int} (h : accB B zs = true) : -(cntA B (zs.length : Int) / 2) ≤ numA B zs ∧ numA B zs ≤ cntA B (zs.length : Int) - 1 + -(cntA B (zs.length : Int) / 2) :=
  shn_in (by have := cntA_bd (accB_full h); omega) _
theorem runA_in {N s : Int} (hN : 1 ≤ N) (h : -(N / 2) ≤ s ∧ s ≤ N - 1 + -(N / 2)) (l : List Int) : ∀ k, -(N / 2) ≤ (runA N s l k).1 ∧ (runA N s l k).1 ≤ N - 1 + -(N / 2)
  | 0 => h
  | _ + 1 => shn_in hN _
theorem numA_if {B : Int} {zs : List Int} (h : accB B zs = true) : numA B zs = if inA (cntA B (zs.length : Int)) (valR B zs) = true then valR B zs else valR B zs - cntA B (zs.length : Int) := by
  have hf := accB_full h
  have hc := cntA_bd hf
  obtain ⟨b0, b1, n0, n1, hd, _⟩ := okB_spec (accB_spec h).1
  have hv := valR_lt (show 1 ≤ B by omega) hd
  rw [← cntA_len] at hv
  unfold numA shn inA
  rw [Int.emod_eq_of_lt hv.1 hv.2]
  simp only [decide_eq_true_eq]
  by_cases hh : cntA B (zs.length : Int) - 1 + -(cntA B (zs.length : Int) / 2) < valR B zs
  · rw [if_pos hh, if_neg (by omega)]
  · rw [if_neg hh, if_pos (by omega)]
theorem valR_acc {B : Int} {zs : List Int} (h : accB B zs = true) : 0 ≤ valR B zs ∧ valR B zs ≤ 1000000000000 := by
  obtain ⟨b0, b1, n0, n1, hd, hv⟩ := okB_spec (accB_spec h).1
  exact ⟨(valR_lt (show 1 ≤ B by omega) hd).1, hv⟩
end Go.Proofs.YtlahobdopmdfmaaDoor
