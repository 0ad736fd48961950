/-
  Plain mathematics of abaci: rods, values, plain settings. No program.
-/
import Derived.Test.YtcfpfhlgcfmioaaFlat
import Derived.Test.YtcfpfhlgcfmioaaDigs
namespace Go.Proofs.Ytcfpfhlgcfmioaa

/-- What a rod shows. -/
def showR (W : Int) (r : Int × Int) : Int := r.1 * W + r.2
/-- The numbers of beads and the worth are as they must be. -/
def kindB (U L W : Int) : Bool := decide (0 ≤ U ∧ U ≤ 4 ∧ 1 ≤ L ∧ L ≤ 12 ∧ 1 ≤ W ∧ W ≤ 10 ∧ W - 1 ≤ L ∧ 9 ≤ U * W + L)
/-- There are as many beads as are at the bar. -/
def rodB (U L : Int) (r : Int × Int) : Bool := decide (0 ≤ r.1 ∧ r.1 ≤ U ∧ 0 ≤ r.2 ∧ r.2 ≤ L)
def rodsB (U L : Int) (rs : List (Int × Int)) : Bool := rs.all (rodB U L)
def numB (n : Nat) : Bool := decide (1 ≤ n ∧ n ≤ 10)
/-- An abacus is valid. -/
def abaB (U L W : Int) (rs : List (Int × Int)) : Bool := kindB U L W && numB rs.length && rodsB U L rs
def abaEqB (U L W U' L' W' : Int) (rs rs' : List (Int × Int)) : Bool := decide (U = U' ∧ L = L' ∧ W = W' ∧ rs = rs')
/-- The value of rods, the lowest one first. -/
def abaV (W : Int) : List (Int × Int) → Int
  | [] => 0
  | r :: rs => 10 * abaV W rs + showR W r

theorem kindB_true {U L W : Int} (h : kindB U L W = true) : 0 ≤ U ∧ U ≤ 4 ∧ 1 ≤ L ∧ L ≤ 12 ∧ 1 ≤ W ∧ W ≤ 10 ∧ W - 1 ≤ L ∧ 9 ≤ U * W + L := by simpa [kindB] using h
theorem kindB_false {U L W : Int} (h : kindB U L W = false) : U < 0 ∨ (0 ≤ U ∧ 4 < U) ∨ (0 ≤ U ∧ U ≤ 4 ∧ L < 1) ∨ (0 ≤ U ∧ U ≤ 4 ∧ 1 ≤ L ∧ 12 < L) ∨ (0 ≤ U ∧ U ≤ 4 ∧ 1 ≤ L ∧ L ≤ 12 ∧ W < 1) ∨ (0 ≤ U ∧ U ≤ 4 ∧ 1 ≤ L ∧ L ≤ 12 ∧ 1 ≤ W ∧ 10 < W) ∨
    (0 ≤ U ∧ U ≤ 4 ∧ 1 ≤ L ∧ L ≤ 12 ∧ 1 ≤ W ∧ W ≤ 10 ∧ L < W - 1) ∨ (0 ≤ U ∧ U ≤ 4 ∧ 1 ≤ L ∧ L ≤ 12 ∧ 1 ≤ W ∧ W ≤ 10 ∧ W - 1 ≤ L ∧ U * W + L < 9) := by
  have h1 : ¬ (0 ≤ U ∧ U ≤ 4 ∧ 1 ≤ L ∧ L ≤ 12 ∧ 1 ≤ W ∧ W ≤ 10 ∧ W - 1 ≤ L ∧ 9 ≤ U * W + L) := by simpa [kindB] using h
  omega
theorem rodB_true {U L : Int} {r : Int × Int} (h : rodB U L r = true) : 0 ≤ r.1 ∧ r.1 ≤ U ∧ 0 ≤ r.2 ∧ r.2 ≤ L := by simpa [rodB] using h
theorem rodB_false {U L : Int} {r : Int × Int} (h : rodB U L r = false) : r.1 < 0 ∨ (0 ≤ r.1 ∧ U < r.1) ∨ (0 ≤ r.1 ∧ r.1 ≤ U ∧ r.2 < 0) ∨ (0 ≤ r.1 ∧ r.1 ≤ U ∧ 0 ≤ r.2 ∧ L < r.2) := by
  have h1 : ¬ (0 ≤ r.1 ∧ r.1 ≤ U ∧ 0 ≤ r.2 ∧ r.2 ≤ L) := by simpa [rodB] using h
  omega
theorem rodB_mk {U L : Int} {r : Int × Int} (h1 : 0 ≤ r.1) (h2 : r.1 ≤ U) (h3 : 0 ≤ r.2) (h4 : r.2 ≤ L) : rodB U L r = true := by simp [rodB, *]
theorem rodsB_all {U L : Int} {rs : List (Int × Int)} (h : ∀ r ∈ rs, rodB U L r = true) : rodsB U L rs = true := List.all_eq_true.2 h
theorem rodsB_true {U L : Int} {rs : List (Int × Int)} (h : rodsB U L rs = true) : ∀ r ∈ rs, rodB U L r = true := List.all_eq_true.1 h
theorem rodsB_at {U L : Int} {rs : List (Int × Int)} (h : rodsB U L rs = true) {k : Nat} (hk : k < rs.length) : rodB U L (elt pairF rs k) = true := rodsB_true h _ (elt_mem hk)
theorem rodsB_bad {U L : Int} {rs : List (Int × Int)} {k : Nat} (hk : k < rs.length) (h : rodB U L (elt pairF rs k) = false) : rodsB U L rs = false := by
  cases h2 : rodsB U L rs with
  | false => rfl
  | true => rw [rodsB_at h2 hk] at h; cases h
theorem rodsB_allT {U L : Int} {rs : List (Int × Int)} (h : ∀ r ∈ rs.take rs.length, rodB U L r = true) : rodsB U L rs = true := by
  rw [List.take_of_length_le (Nat.le_refl _)] at h; exact rodsB_all h
theorem numB_true {n : Nat} (h : numB n = true) : 1 ≤ n ∧ n ≤ 10 := by simpa [numB] using h
theorem numB_false {n : Nat} (h : numB n = false) : n < 1 ∨ (1 ≤ n ∧ 10 < n) := by simp [numB] at h; omega
theorem abaB_true {U L W : Int} {rs : List (Int × Int)} (h : abaB U L W rs = true) : kindB U L W = true ∧ numB rs.length = true ∧ rodsB U L rs = true := by
  simp only [abaB, Bool.and_eq_true] at h; exact ⟨h.1.1, h.1.2, h.2⟩
theorem abaB_kind {U L W : Int} {rs : List (Int × Int)} (h : kindB U L W = false) : abaB U L W rs = false := by simp [abaB, h]
theorem abaB_num {U L W : Int} {rs : List (Int × Int)} (h : numB rs.length = false) : abaB U L W rs = false := by simp [abaB, h]
theorem abaB_rods {U L W : Int} {rs : List (Int × Int)} (h1 : kindB U L W = true) (h2 : numB rs.length = true) : abaB U L W rs = rodsB U L rs := by simp [abaB, h1, h2]
theorem abaEqB_self (U L W : Int) (rs : List (Int × Int)) : abaEqB U L W U L W rs rs = true := by simp [abaEqB]

/-- What is known of a valid abacus. -/
structure Aba (U L W : Int) (rs : List (Int × Int)) : Prop where
  u0 : 0 ≤ U
  u1 : U ≤ 4
  l0 : 1 ≤ L
  l1 : L ≤ 12
  w0 : 1 ≤ W
  w1 : W ≤ 10
  lw : W - 1 ≤ L
  n0 : 1 ≤ rs.length
  n1 : rs.length ≤ 10
  nine : 9 ≤ U * W + L
  rods : rodsB U L rs = true
theorem aba_of {U L W : Int} {rs : List (Int × Int)} (h : abaB U L W rs = true) : Aba U L W rs := by
  obtain ⟨h1, h2, h3⟩ := abaB_true h
  obtain ⟨a1, a2, a3, a4, a5, a6, a7, a8⟩ := kindB_true h1
  obtain ⟨b1, b2⟩ := numB_true h2
  exact ⟨a1, a2, a3, a4, a5, a6, a7, b1, b2, a8, h3⟩
/-- What a rod shows is at most 52. -/
theorem show_bd {U L W : Int} {r : Int × Int} (u1 : U ≤ 4) (l1 : L ≤ 12) (w0 : 1 ≤ W) (w1 : W ≤ 10) (h : rodB U L r = true) : 0 ≤ r.1 * W ∧ r.1 * W ≤ 40 ∧ 0 ≤ showR W r ∧ showR W r ≤ 52 := by
  obtain ⟨h1, h2, h3, h4⟩ := rodB_true h
  have m1 : 0 ≤ r.1 * W := Int.mul_nonneg h1 (by omega)
  have m2 : r.1 * W ≤ 4 * 10 := Int.mul_le_mul (by omega) w1 (by omega) (by omega)
  unfold showR
  omega
/-- The bound 52 * 11..1 for a number of rods. -/
def topV : Nat → Int
  | 0 => 0
  | n + 1 => 10 * topV n + 52
theorem abaV_bd {U L W : Int} (u1 : U ≤ 4) (l1 : L ≤ 12) (w0 : 1 ≤ W) (w1 : W ≤ 10) : ∀ {rs : List (Int × Int)}, (∀ r ∈ rs, rodB U L r = true) → 0 ≤ abaV W rs ∧ abaV W rs ≤ topV rs.length
  | [], _ => by simp [abaV, topV]
  | r :: rs, h => by
    have h1 := show_bd u1 l1 w0 w1 (h r (by simp))
    have h2 := abaV_bd u1 l1 w0 w1 (rs := rs) fun x hx => h x (by simp [hx])
    simp only [abaV, List.length_cons, topV]
    omega
theorem topV_le : ∀ {n : Nat}, n ≤ 10 → topV n ≤ 57777777772
  | 0, _ => by decide
  | 1, _ => by decide
  | 2, _ => by decide
  | 3, _ => by decide
  | 4, _ => by decide
  | 5, _ => by decide
  | 6, _ => by decide
  | 7, _ => by decide
  | 8, _ => by decide
  | 9, _ => by decide
  | 10, _ => by decide
theorem Aba.v {U L W : Int} {rs : List (Int × Int)} (h : Aba U L W rs) : 0 ≤ abaV W rs ∧ abaV W rs ≤ 57777777772 := by
  have := abaV_bd h.u1 h.l1 h.w0 h.w1 (rodsB_true h.rods)
  have := topV_le h.n1
  omega
theorem Aba.vdrop {U L W : Int} {rs : List (Int × Int)} (h : Aba U L W rs) (k : Nat) : 0 ≤ abaV W (rs.drop k) ∧ abaV W (rs.drop k) ≤ 57777777772 := by
  have := abaV_bd h.u1 h.l1 h.w0 h.w1 (rs := rs.drop k) fun r hr => rodsB_true h.rods r (List.mem_of_mem_drop hr)
  have := topV_le (n := (rs.drop k).length) (by rw [List.length_drop]; have := h.n1; omega)
  omega
theorem abaV_drop {W : Int} {rs : List (Int × Int)} {k : Nat} (hk : k < rs.length) : abaV W (rs.drop k) = 10 * abaV W (rs.drop (k + 1)) + showR W (elt pairF rs k) := by rw [dropE (F := pairF) hk]; rfl

/-- AbacusValue: value, code. -/
def avR (U L W : Int) (rs : List (Int × Int)) : Int × Int := if abaB U L W rs = true then (abaV W rs, 0) else (0, 1)
theorem avR_ok {U L W : Int} {rs : List (Int × Int)} (h : abaB U L W rs = true) : avR U L W rs = (abaV W rs, 0) := by rw [avR, if_pos h]
theorem avR_bad {U L W : Int} {rs : List (Int × Int)} (h : abaB U L W rs = false) : avR U L W rs = (0, 1) := by simp [avR, h]

/-- The plain setting of a rod for a digit. -/
def digP (U W d : Int) : Int × Int := (min U (d / W), d - min U (d / W) * W)
theorem show_digP (U W d : Int) : showR W (digP U W d) = d := by simp only [showR, digP]; omega
theorem digP_bd {U L W d : Int} (u0 : 0 ≤ U) (w0 : 1 ≤ W) (lw : W - 1 ≤ L) (nine : 9 ≤ U * W + L) (d0 : 0 ≤ d) (d1 : d ≤ 9) : rodB U L (digP U W d) = true := by
  have q0 : 0 ≤ d / W := Int.ediv_nonneg d0 (by omega)
  have e1 := Int.emod_add_mul_ediv d W
  have e2 := Int.emod_nonneg d (show W ≠ 0 by omega)
  have e3 := Int.emod_lt_of_pos d (show 0 < W by omega)
  apply rodB_mk
  · simp only [digP]; omega
  · simp only [digP]; omega
  · simp only [digP]
    rcases Int.le_total U (d / W) with h | h
    · rw [Int.min_eq_left h]
      have := Int.mul_le_mul_of_nonneg_right h (show 0 ≤ W by omega)
      rw [Int.mul_comm (d / W) W] at this
      omega
    · rw [Int.min_eq_right h, Int.mul_comm]; omega
  · simp only [digP]
    rcases Int.le_total U (d / W) with h | h
    · rw [Int.min_eq_left h]; omega
    · rw [Int.min_eq_right h, Int.mul_comm]; omega

/-- The plain setting of n rods. -/
def setP (U W : Int) (n : Nat) (v : Int) : List (Int × Int) := (digsR 10 n v).map (digP U W)
theorem setP_len (U W : Int) (n : Nat) (v : Int) : (setP U W n v).length = n := by rw [setP, List.length_map, digsR_len]
theorem setP_succ (U W : Int) (n : Nat) (v : Int) : setP U W (n + 1) v = setP U W n v ++ [digP U W (leftR 10 n v % 10)] := by simp [setP, digsR_succ]

/-- Digits of a value made of digits. -/
theorem digs_abaV {W : Int} : ∀ {rs : List (Int × Int)}, (∀ r ∈ rs, 0 ≤ showR W r ∧ showR W r ≤ 9) → digsR 10 rs.length (abaV W rs) = rs.map (showR W) ∧ leftR 10 rs.length (abaV W rs) = 0
  | [], _ => by simp [digsR, leftR, abaV]
  | r :: rs, h => by
    have h1 := h r (by simp)
    obtain ⟨i1, i2⟩ := digs_abaV (rs := rs) fun x hx => h x (by simp [hx])
    have e1 : (10 * abaV W rs + showR W r) % 10 = showR W r := by omega
    have e2 : (10 * abaV W rs + showR W r) / 10 = abaV W rs := by omega
    simp only [abaV, List.length_cons, digsR, leftR, List.map_cons, e1, e2, i1, i2, and_self]

/-- The value of a plain setting. -/
theorem abaV_setP (U W : Int) : ∀ (n : Nat) (v : Int), abaV W (setP U W n v) + 10 ^ n * leftR 10 n v = v
  | 0, v => by simp [setP, digsR, abaV, leftR]
  | n + 1, v => by
    have ih := abaV_setP U W n (v / 10)
    have e : setP U W (n + 1) v = digP U W (v % 10) :: setP U W n (v / 10) := rfl
    rw [e]
    simp only [abaV, show_digP, leftR]
    have p : (10 : Int) ^ (n + 1) * leftR 10 n (v / 10) = 10 * (10 ^ n * leftR 10 n (v / 10)) := by rw [Int.pow_succ, Int.mul_comm ((10 : Int) ^ n) 10, Int.mul_assoc]
    rw [p]
    omega

/-- Each rod shows a digit in the plain way. -/
def plainRodB (U W : Int) (r : Int × Int) : Bool := decide (showR W r ≤ 9) && decide (r = digP U W (showR W r))
def plainB (U L W : Int) (rs : List (Int × Int)) : Bool := abaB U L W rs && decide (leftR 10 rs.length (abaV W rs) = 0 ∧ setP U W rs.length (abaV W rs) = rs)

theorem plain_iff {U L W : Int} {rs : List (Int × Int)} (h : Aba U L W rs) : (∀ r ∈ rs, plainRodB U W r = true) ↔ (leftR 10 rs.length (abaV W rs) = 0 ∧ setP U W rs.length (abaV W rs) = rs) := by
  constructor
  · intro hp
    have hs : ∀ r ∈ rs, 0 ≤ showR W r ∧ showR W r ≤ 9 := fun r hr => by
      have h1 := (show_bd h.u1 h.l1 h.w0 h.w1 (rodsB_true h.rods r hr)).2.2.1
      have h2 := hp r hr
      simp only [plainRodB, Bool.and_eq_true, decide_eq_true_eq] at h2
      exact ⟨h1, h2.1⟩
    obtain ⟨e1, e2⟩ := digs_abaV hs
    refine ⟨e2, ?_⟩
    rw [setP, e1, List.map_map]
    conv => rhs; rw [← List.map_id rs]
    refine List.map_congr_left fun r hr => ?_
    have h2 := hp r hr
    simp only [plainRodB, Bool.and_eq_true, decide_eq_true_eq] at h2
    exact h2.2.symm
  · rintro ⟨_, e⟩ r hr
    rw [← e] at hr
    simp only [setP, List.mem_map] at hr
    obtain ⟨d, hd, rfl⟩ := hr
    have := digsR_bd (b := 10) (by omega) _ _ d hd
    simp only [plainRodB, show_digP, Bool.and_eq_true, decide_eq_true_eq]
    exact ⟨by omega, trivial⟩
theorem plainB_of {U L W : Int} {rs : List (Int × Int)} (h : abaB U L W rs = true) : plainB U L W rs = decide (∀ r ∈ rs, plainRodB U W r = true) := by
  rw [plainB, h, Bool.true_and, Bool.eq_iff_iff, decide_eq_true_eq, decide_eq_true_eq]
  exact (plain_iff (aba_of h)).symm
theorem plainB_bad {U L W : Int} {rs : List (Int × Int)} (h : abaB U L W rs = false) : plainB U L W rs = false := by simp [plainB, h]

/-- A setting: beads, worth, rods, code. -/
def setR (U L W : Int) (rs : List (Int × Int)) (v : Int) : Int × Int × Int × List (Int × Int) × Int :=
  if abaB U L W rs = true then (if 0 ≤ v ∧ v ≤ 1000000000000 then (if leftR 10 rs.length v = 0 then (U, L, W, setP U W rs.length v, 0) else (0, 0, 0, [], 5)) else (0, 0, 0, [], 2)) else (0, 0, 0, [], 1)
def plnR (U L W : Int) (rs : List (Int × Int)) : Int × Int × Int × List (Int × Int) × Int := setR U L W rs (abaV W rs)
theorem setR_bad {U L W : Int} {rs : List (Int × Int)} {v : Int} (h : abaB U L W rs = false) : setR U L W rs v = (0, 0, 0, [], 1) := by simp [setR, h]
theorem setR_range {U L W : Int} {rs : List (Int × Int)} {v : Int} (h : abaB U L W rs = true) (hv : ¬ (0 ≤ v ∧ v ≤ 1000000000000)) : setR U L W rs v = (0, 0, 0, [], 2) := by rw [setR, if_pos h, if_neg hv]
theorem setR_full {U L W : Int} {rs : List (Int × Int)} {v : Int} (h : abaB U L W rs = true) (hv : 0 ≤ v ∧ v ≤ 1000000000000) (hl : ¬ leftR 10 rs.length v = 0) : setR U L W rs v = (0, 0, 0, [], 5) := by rw [setR, if_pos h, if_pos hv, if_neg hl]
theorem setR_ok {U L W : Int} {rs : List (Int × Int)} {v : Int} (h : abaB U L W rs = true) (hv : 0 ≤ v ∧ v ≤ 1000000000000) (hl : leftR 10 rs.length v = 0) : setR U L W rs v = (U, L, W, setP U W rs.length v, 0) := by rw [setR, if_pos h, if_pos hv, if_pos hl]

/-- Numbers of beads that are moved between two settings. -/
def distR (r s : Int × Int) : Int := max (r.1 - s.1) (-(r.1 - s.1)) + max (r.2 - s.2) (-(r.2 - s.2))
def distL : List (Int × Int) → List (Int × Int) → Int
  | r :: rs, s :: ss => distR r s + distL rs ss
  | _, _ => 0
/-- BeadsBetween: number, code. -/
def btwR (U L W U' L' W' : Int) (rs ss : List (Int × Int)) : Int × Int :=
  if abaB U L W rs = true ∧ abaB U' L' W' ss = true then (if U = U' ∧ L = L' ∧ W = W' ∧ rs.length = ss.length then (distL rs ss, 0) else (0, 6)) else (0, 1)
theorem distL_snoc : ∀ {rs ss : List (Int × Int)} (r s : Int × Int), rs.length = ss.length → distL (rs ++ [r]) (ss ++ [s]) = distL rs ss + distR r s
  | [], [], r, s, _ => by simp [distL]
  | [], _ :: _, _, _, h => by simp at h
  | _ :: _, [], _, _, h => by simp at h
  | a :: rs, b :: ss, r, s, h => by
    simp only [List.cons_append, distL]
    rw [distL_snoc r s (by simpa using h)]
    omega
theorem distR_bd {U L : Int} {r s : Int × Int} (u1 : U ≤ 4) (l1 : L ≤ 12) (h : rodB U L r = true) (h' : rodB U L s = true) : 0 ≤ distR r s ∧ distR r s ≤ 16 := by
  obtain ⟨a1, a2, a3, a4⟩ := rodB_true h
  obtain ⟨b1, b2, b3, b4⟩ := rodB_true h'
  unfold distR
  omega

/-- A move is one of so many beads as a rod may have, on a rod that is there. -/
def moveB (n : Nat) (m : Int × Int × Int) : Bool := decide (0 ≤ m.1 ∧ m.1 < n ∧ -4 ≤ m.2.1 ∧ m.2.1 ≤ 4 ∧ -12 ≤ m.2.2 ∧ m.2.2 ≤ 12)
def movedRod (rs : List (Int × Int)) (m : Int × Int × Int) : Int × Int := ((elt pairF rs m.1.toNat).1 + m.2.1, (elt pairF rs m.1.toNat).2 + m.2.2)
/-- The code of a move. -/
def movC (U L : Int) (rs : List (Int × Int)) (m : Int × Int × Int) : Int := if moveB rs.length m = true then (if rodB U L (movedRod rs m) = true then 0 else 6) else 2
def movL (rs : List (Int × Int)) (m : Int × Int × Int) : List (Int × Int) := rs.set m.1.toNat (movedRod rs m)
/-- MoveBeads: beads, worth, rods, code. -/
def movR (U L W : Int) (rs : List (Int × Int)) (m : Int × Int × Int) : Int × Int × Int × List (Int × Int) × Int :=
  if abaB U L W rs = true then (if movC U L rs m = 0 then (U, L, W, movL rs m, 0) else (0, 0, 0, [], movC U L rs m)) else (0, 0, 0, [], 1)
/-- The rods behind moves up to the first one that cannot be made, and their number. -/
def repL (U L : Int) : List (Int × Int) → List (Int × Int × Int) → List (Int × Int) × Nat
  | rs, [] => (rs, 0)
  | rs, m :: ms => if movC U L rs m = 0 then ((repL U L (movL rs m) ms).1, (repL U L (movL rs m) ms).2 + 1) else (rs, 0)
end Go.Proofs.Ytcfpfhlgcfmioaa
