/-
  Machines: the maths (no program).
-/
import Derived.Test.YtmjeiagkdcfeiaaAccM
import Derived.Test.YtmjeiagkdcfeiaaOwn3
namespace Go.Proofs.Ytmjeiagkdcfeiaa
open Go.RowKit

/-! Digits of sums and differences. -/
theorem mval_app (b : Int) : ∀ xs ys : List Int, valR b (xs ++ ys) = valR b xs + b ^ xs.length * valR b ys
  | [], ys => by simp [valR]
  | x :: xs, ys => by
    simp only [List.cons_append, valR, mval_app b xs ys, List.length_cons, Int.pow_succ, Int.mul_add]
    rw [Int.mul_comm (b ^ xs.length) b, Int.mul_assoc]
    omega
theorem mval_zero (b : Int) : ∀ n : Nat, valR b (List.replicate n 0) = 0
  | 0 => rfl
  | n + 1 => by rw [List.replicate_succ, valR, mval_zero b n]; simp
theorem mval_snoc (b : Int) (zs : List Int) (d : Int) : valR b (zs ++ [d]) = valR b zs + d * b ^ zs.length := by
  rw [mval_app]; simp only [valR, Int.mul_zero, Int.add_zero]; rw [Int.mul_comm]
theorem mval_take {b : Int} {zs : List Int} {k : Nat} (h : k < zs.length) : valR b (zs.take (k + 1)) = valR b (zs.take k) + nth zs k * b ^ k := by
  rw [List.take_succ_eq_append_getElem h, ← nth_get h, mval_snoc, List.length_take, Nat.min_eq_left (by omega)]
theorem mval_tab (b : Int) (f : Nat → Int) (k : Nat) : valR b (tab f (k + 1)) = valR b (tab f k) + f k * b ^ k := by
  rw [tab_succ, mval_snoc, tab_len]
theorem msum_val {b : Int} {xs ys : List Int} (hl : ys.length = xs.length) : ∀ k, k ≤ xs.length → valR b (tab (sumD b xs ys) k) + cK b xs ys k * b ^ k = valR b (xs.take k) + valR b (ys.take k)
  | 0, _ => by simp [tab, valR, cK]
  | k + 1, hk => by
    have ih := msum_val (b := b) hl k (by omega)
    have ec : cK b xs ys (k + 1) = (nth xs k + nth ys k + cK b xs ys k) / b := rfl
    rw [mval_tab, mval_take (by omega), mval_take (by omega), ec, Int.pow_succ]
    have e := Int.emod_add_mul_ediv (nth xs k + nth ys k + cK b xs ys k) b
    have e2 : sumD b xs ys k = nth xs k + nth ys k + cK b xs ys k - b * ((nth xs k + nth ys k + cK b xs ys k) / b) := by unfold sumD; omega
    rw [e2]
    generalize (nth xs k + nth ys k + cK b xs ys k) / b = q
    rw [Int.sub_mul, Int.add_mul, Int.add_mul, show b * q * b ^ k = q * (b ^ k * b) by rw [Int.mul_comm b q, Int.mul_assoc, Int.mul_comm b]]
    omega
theorem msub_val {b : Int} {xs ys : List Int} (hl : ys.length = xs.length) : ∀ k, k ≤ xs.length → valR b (tab (subD b xs ys) k) - bK b xs ys k * b ^ k = valR b (xs.take k) - valR b (ys.take k)
  | 0, _ => by simp [tab, valR, bK]
  | k + 1, hk => by
    have ih := msub_val (b := b) hl k (by omega)
    rw [mval_tab, mval_take (by omega), mval_take (by omega), Int.pow_succ]
    simp only [subD, bK]
    split
    · rw [Int.add_mul, Int.sub_mul, Int.sub_mul, Int.one_mul, Int.mul_comm b (b ^ k)]
      omega
    · rw [Int.sub_mul, Int.sub_mul, Int.zero_mul]
      omega

/-- All are digits of the base. -/
def DigsM (b : Int) (zs : List Int) : Prop := ∀ d ∈ zs, 0 ≤ d ∧ d < b
theorem digsM_nth {b : Int} {zs : List Int} (h : DigsM b zs) {k : Nat} (hk : k < zs.length) : 0 ≤ nth zs k ∧ nth zs k < b := by
  rw [nth_get hk]; exact h _ (List.getElem_mem hk)
/-- The register after x has been added, modulo its size; whether it goes round. -/
def movZ (b : Int) (zs : List Int) (x : Int) : List Int := digsR b zs.length ((valR b zs + x) % b ^ zs.length)
def movO (b : Int) (zs : List Int) (x : Int) : Bool := !decide (0 ≤ valR b zs + x ∧ valR b zs + x ≤ b ^ zs.length - 1)
theorem movZ_len (b : Int) (zs : List Int) (x : Int) : (movZ b zs x).length = zs.length := digsR_len _ _ _
theorem movZ_val {b : Int} (b0 : 1 ≤ b) (zs : List Int) (x : Int) : valR b (movZ b zs x) = (valR b zs + x) % b ^ zs.length := by
  have hp := pow_pos' b0 zs.length
  exact valR_digs b0 _ _ (Int.emod_nonneg _ (by omega)) (Int.emod_lt_of_pos _ (by omega))
theorem movZ_digs {b : Int} (b0 : 1 ≤ b) (zs : List Int) (x : Int) : DigsM b (movZ b zs x) := digsR_bd b0 _ _
theorem sum_mov {b : Int} (b0 : 2 ≤ b) {xs ys : List Int} (hx : DigsM b xs) (hy : DigsM b ys) (hl : ys.length = xs.length) :
    tab (sumD b xs ys) xs.length = movZ b xs (valR b ys) ∧ decide (0 < cK b xs ys xs.length) = movO b xs (valR b ys) := by
  have hv := msum_val (b := b) hl xs.length (Nat.le_refl _)
  rw [List.take_length, List.take_of_length_le (by omega)] at hv
  have hd : DigsM b (tab (sumD b xs ys) xs.length) := tab_mem fun k _ => ⟨Int.emod_nonneg _ (by omega), Int.emod_lt_of_pos _ (by omega)⟩
  have hlt := valR_lt (show 1 ≤ b by omega) hd
  have hback := digsR_back (show 1 ≤ b by omega) hd
  rw [tab_len] at hlt hback
  have hx0 := valR_lt (show 1 ≤ b by omega) hx
  have hy0 := valR_lt (show 1 ≤ b by omega) hy
  have hc := cK_bd b0 (fun k hk => digsM_nth hx hk) (fun k hk => digsM_nth hy (k := k) (by omega)) xs.length (Nat.le_refl _)
  constructor
  · unfold movZ
    rw [← hv, Int.add_mul_emod_self_right, Int.emod_eq_of_lt hlt.1 hlt.2, hback]
  · unfold movO
    rw [← hv]
    rcases (show cK b xs ys xs.length = 0 ∨ cK b xs ys xs.length = 1 by omega) with h | h
    · rw [h]; simp; omega
    · rw [h]; simp; omega
theorem sub_mov {b : Int} (b0 : 2 ≤ b) {xs ys : List Int} (hx : DigsM b xs) (hy : DigsM b ys) (hl : ys.length = xs.length) :
    tab (subD b xs ys) xs.length = movZ b xs (-valR b ys) ∧ decide (0 < bK b xs ys xs.length) = movO b xs (-valR b ys) := by
  have hv := msub_val (b := b) hl xs.length (Nat.le_refl _)
  rw [List.take_length, List.take_of_length_le (by omega)] at hv
  have hd : DigsM b (tab (subD b xs ys) xs.length) := tab_mem fun k hk => by
    have h1 := digsM_nth hx hk
    have h2 := digsM_nth hy (k := k) (by omega)
    have h3 := bK_bd b xs ys k
    unfold subD; split <;> omega
  have hlt := valR_lt (show 1 ≤ b by omega) hd
  have hback := digsR_back (show 1 ≤ b by omega) hd
  rw [tab_len] at hlt hback
  have hx0 := valR_lt (show 1 ≤ b by omega) hx
  have hy0 := valR_lt (show 1 ≤ b by omega) hy
  have hc := bK_bd b xs ys xs.length
  have hs : valR b xs + -valR b ys = valR b (tab (subD b xs ys) xs.length) + (-bK b xs ys xs.length) * b ^ xs.length := by rw [Int.neg_mul]; omega
  constructor
  · unfold movZ
    rw [hs, Int.add_mul_emod_self_right, Int.emod_eq_of_lt hlt.1 hlt.2, hback]
  · unfold movO
    rw [hs]
    rcases (show bK b xs ys xs.length = 0 ∨ bK b xs ys xs.length = 1 by omega) with h | h
    · rw [h]; simp; omega
    · rw [h]; simp; omega

/-- Digits that stand above a register of n digits, from place p on. -/
def abvL (n p : Nat) (ds : List Int) : List Int := List.replicate p 0 ++ (ds ++ List.replicate (n - p - ds.length) 0)
theorem abvL_len {n p : Nat} {ds : List Int} (h : p + ds.length ≤ n) : (abvL n p ds).length = n := by simp [abvL]; omega
theorem abvL_val (b : Int) (n p : Nat) (ds : List Int) : valR b (abvL n p ds) = b ^ p * valR b ds := by
  rw [abvL, mval_app, mval_app, mval_zero, mval_zero, List.length_replicate]; simp
theorem abvL_digs {b : Int} (b0 : 1 ≤ b) {ds : List Int} (h : DigsM b ds) (n p : Nat) : DigsM b (abvL n p ds) := by
  intro d hd
  simp only [abvL, List.mem_append, List.mem_replicate] at hd
  rcases hd with ⟨_, rfl⟩ | hd | ⟨_, rfl⟩
  · omega
  · exact h d hd
  · omega

/-! Machines. -/
def mac0 : Mac := ⟨0, [], 0, [], 0, [], 0⟩
/-- How many places there are. -/
def plcs (m : Mac) : Int := min ((m.z2.length : Int) - m.z1.length + 1) m.z3.length
/-- A machine is valid. -/
def macB (m : Mac) : Bool := decide (okB m.b1 m.z1 = true ∧ okB m.b2 m.z2 = true ∧ okB m.b3 m.z3 = true ∧ m.b1 = m.b2 ∧ m.b1 = m.b3 ∧
  m.b1 ^ m.z2.length - 1 ≤ 1000000000000 ∧ m.b1 ^ m.z3.length - 1 ≤ 1000000000000 ∧ m.z1.length ≤ m.z2.length ∧ 0 ≤ m.p ∧ m.p ≤ plcs m - 1)
theorem macB_spec {m : Mac} (h : macB m = true) : okB m.b1 m.z1 = true ∧ okB m.b2 m.z2 = true ∧ okB m.b3 m.z3 = true ∧ m.b1 = m.b2 ∧ m.b1 = m.b3 ∧
    m.b1 ^ m.z2.length - 1 ≤ 1000000000000 ∧ m.b1 ^ m.z3.length - 1 ≤ 1000000000000 ∧ m.z1.length ≤ m.z2.length ∧ 0 ≤ m.p ∧ m.p ≤ plcs m - 1 := by simpa [macB] using h
theorem macB_acc {m : Mac} (h : macB m = true) : accB m.b2 m.z2 = true ∧ accB m.b3 m.z3 = true := by
  obtain ⟨h1, h2, h3, e2, e3, f2, f3, _⟩ := macB_spec h
  rw [e2] at f2
  rw [e3] at f3
  exact ⟨by simp [accB, h2, f2], by simp [accB, h3, f3]⟩
/-- The parts of a valid machine, as the walks want them. -/
theorem macB_facts {m : Mac} (h : macB m = true) : m.b2 = m.b1 ∧ m.b3 = m.b1 ∧ 2 ≤ m.b1 ∧ m.b1 ≤ 16 ∧ 1 ≤ m.z1.length ∧ m.z1.length ≤ m.z2.length ∧ m.z2.length ≤ 16 ∧ 1 ≤ m.z3.length ∧ m.z3.length ≤ 16 ∧
    0 ≤ m.p ∧ m.p + m.z1.length ≤ m.z2.length ∧ m.p < m.z3.length ∧ DigsM m.b1 m.z1 ∧ DigsM m.b1 m.z2 ∧ DigsM m.b1 m.z3 := by
  obtain ⟨h1, h2, h3, e2, e3, f2, f3, hl, p0, p1⟩ := macB_spec h
  obtain ⟨a0, a1, n0, n1, d1, _⟩ := okB_spec h1
  obtain ⟨_, _, n2, n3, d2, _⟩ := okB_spec h2
  obtain ⟨_, _, n4, n5, d3, _⟩ := okB_spec h3
  unfold plcs at p1
  rw [← e2] at d2
  rw [← e3] at d3
  exact ⟨e2.symm, e3.symm, a0, a1, n0, hl, n3, n4, n5, p0, by omega, by omega, d1, d2, d3⟩

/-- The power of the place. -/
def unitM (m : Mac) : Int := m.b1 ^ m.p.toNat
/-- The setting added s times at the place, whether the bell rings. -/
def trnM (m : Mac) (s : Int) : Mac × Bool :=
  (⟨m.b1, m.z1, m.b2, movZ m.b2 m.z2 (s * (unitM m * valR m.b1 m.z1)), m.b3, movZ m.b3 m.z3 (s * unitM m), m.p⟩, movO m.b2 m.z2 (s * (unitM m * valR m.b1 m.z1)))
/-- The carriage moved. -/
def shfM (m : Mac) (s : Int) : Mac × Bool := if 0 ≤ m.p + s ∧ m.p + s ≤ plcs m - 1 then (⟨m.b1, m.z1, m.b2, m.z2, m.b3, m.z3, m.p + s⟩, false) else (m, true)
/-- A stroke. -/
def doM (m : Mac) (k : Int) : Mac × Bool :=
  if k = 1 then trnM m 1 else if k = 2 then trnM m (-1) else if k = 3 then shfM m 1 else if k = 4 then shfM m (-1) else
  if k = 5 then (⟨m.b1, m.z1, m.b2, List.replicate m.z2.length 0, m.b3, List.replicate m.z3.length 0, m.p⟩, false) else
  (⟨m.b1, List.replicate m.z1.length 0, m.b2, m.z2, m.b3, m.z3, m.p⟩, false)
/-- DoStroke. -/
def dsR (m : Mac) (k : Int) : Mac × Bool × Int := if macB m = true then (if 1 ≤ k ∧ k ≤ 6 then ((doM m k).1, (doM m k).2, 0) else (mac0, false, 2)) else (mac0, false, 1)
/-- Strokes up to the first bell: the machine, how many. -/
def runM : Mac → List Int → Mac × Int
  | m, [] => (m, 0)
  | m, k :: ks => if (doM m k).2 = true then ((doM m k).1, 1) else ((runM (doM m k).1 ks).1, (runM (doM m k).1 ks).2 + 1)
def strB (l : List Int) : Bool := decide (∀ k ∈ l, 1 ≤ k ∧ k ≤ 6)
/-- DoStrokes. -/
def dssR (m : Mac) (l : List Int) : Mac × Int × Int :=
  if macB m = true then (if strB l = true then (if l.length ≤ 300 then ((runM m l).1, (runM m l).2, 0) else (mac0, 0, 5)) else (mac0, 0, 2)) else (mac0, 0, 1)
/-- PlacesOf, StrokeBack. -/
def plR (m : Mac) : Int × Int := if macB m = true then (plcs m, 0) else (0, 1)
def sbR (k : Int) : Int × Int := if k = 1 then (2, 0) else if k = 2 then (1, 0) else if k = 3 then (4, 0) else if k = 4 then (3, 0) else if k = 5 ∨ k = 6 then (0, 3) else (0, 2)
/-- The machine on which everything is 0. -/
def newM (b s r c : Int) : Mac := ⟨b, List.replicate s.toNat 0, b, List.replicate r.toNat 0, b, List.replicate c.toNat 0, 0⟩
/-- NewMachine. -/
def nmB (b s r c : Int) : Bool := decide (2 ≤ b ∧ b ≤ 16 ∧ 1 ≤ s ∧ s ≤ r ∧ r ≤ 16 ∧ 1 ≤ c ∧ c ≤ 16 ∧ b ^ r.toNat - 1 ≤ 1000000000000 ∧ b ^ c.toNat - 1 ≤ 1000000000000)
def nmR (b s r c : Int) : Mac × Int := if nmB b s r c = true then (newM b s r c, 0) else (mac0, 2)
/-- SetValue, SetDigit. -/
def svR (m : Mac) (v : Int) : Mac × Int :=
  if macB m = true then (if 0 ≤ v ∧ v ≤ m.b1 ^ m.z1.length - 1 then (⟨m.b1, digsR m.b1 m.z1.length v, m.b2, m.z2, m.b3, m.z3, m.p⟩, 0) else (mac0, 2)) else (mac0, 1)
def sdR (m : Mac) (k d : Int) : Mac × Int :=
  if macB m = true then (if (0 ≤ k ∧ k ≤ (m.z1.length : Int) - 1) ∧ 0 ≤ d ∧ d ≤ m.b1 - 1 then (⟨m.b1, m.z1.set k.toNat d, m.b2, m.z2, m.b3, m.z3, m.p⟩, 0) else (mac0, 2)) else (mac0, 1)
end Go.Proofs.Ytmjeiagkdcfeiaa
