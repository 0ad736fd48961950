/-
  Several texts in one: Own3, MacM, MacT, RegO, FrameM, BoxMac, MacI, MavI, MacS, MavS.
-/
import Derived.Test.YtlahobdopmdfmaaDoorOwn2
import Derived.Test.YtlahobdopmdfmaaDoorAccM
import Derived.Test.YtlahobdopmdfmaaDoorReg
import Derived.Test.YtlahobdopmdfmaaDoorOkS
import Derived.Test.YtlahobdopmdfmaaDoorSameReg
import Derived.Test.YtlahobdopmdfmaaDoorFrame
import Derived.Test.YtlahobdopmdfmaaDoorShnI
import Derived.Test.YtlahobdopmdfmaaDoorOkI
import Derived.Test.YtlahobdopmdfmaaDoorWithin
import Derived.Test.YtlahobdopmdfmaaDoorPowS
import Derived.Test.YtlahobdopmdfmaaDoorAccO
import Derived.Test.YtlahobdopmdfmaaDoorInB
import Derived.Deep.Cut
import Derived.Lib.MinMax
import Derived.BigQuiet

/- Own3 -/
namespace Go.Proofs.YtlahobdopmdfmaaDoor
open Go.RowKit

/-- A machine: setting, result, count, place. -/
structure Mac where
  b1 : Int
  z1 : List Int
  b2 : Int
  z2 : List Int
  b3 : Int
  z3 : List Int
  p : Int

/-- Three rows that can be read. -/
structure Rd3 (w : World) (a1 : Option Addr) (z1 : List Int) (a2 : Option Addr) (z2 : List Int) (a3 : Option Addr) (z3 : List Int) : Prop where
  x : Rd w a1 z1
  y : Rd w a2 z2
  z : Rd w a3 z3
section
variable {w w' : World} {a1 a2 a3 : Option Addr} {z1 z2 z3 : List Int}
theorem Rd3.below (h : Rd3 w a1 z1 a2 z2 a3 z3) (hb : Below w.heap.size w w') : Rd3 w' a1 z1 a2 z2 a3 z3 := ⟨h.x.below hb, h.y.below hb, h.z.below hb⟩
theorem Rd3.drewN (h : Rd3 w a1 z1 a2 z2 a3 z3) (n : Nat) : Rd3 (w.drewN n) a1 z1 a2 z2 a3 z3 := ⟨h.x.drewN n, h.y.drewN n, h.z.drewN n⟩
theorem Rd3.len (h : Rd3 w a1 z1 a2 z2 a3 z3) : z1.length ≤ 1000000000 ∧ z2.length ≤ 1000000000 ∧ z3.length ≤ 1000000000 := ⟨h.x.len, h.y.len, h.z.len⟩

/-- Three rows that came in: of whatever length. -/
structure Raw3 (w : World) (a1 : Option Addr) (z1 : List Int) (a2 : Option Addr) (z2 : List Int) (a3 : Option Addr) (z3 : List Int) : Prop where
  x : Raw w a1 z1
  y : Raw w a2 z2
  z : Raw w a3 z3
theorem Raw3.len (h : Raw3 w a1 z1 a2 z2 a3 z3) : z1.length ≤ 9223372036854775807 ∧ z2.length ≤ 9223372036854775807 ∧ z3.length ≤ 9223372036854775807 := ⟨h.x.len, h.y.len, h.z.len⟩
theorem Raw3.wf (h : Raw3 w a1 z1 a2 z2 a3 z3) : All64 z1 ∧ All64 z2 ∧ All64 z3 := ⟨h.x.wf, h.y.wf, h.z.wf⟩
theorem Raw3.rd (h : Raw3 w a1 z1 a2 z2 a3 z3) (hl : z1.length + z2.length + z3.length ≤ 1000000000) : Rd3 w a1 z1 a2 z2 a3 z3 := ⟨h.x.rd (by omega), h.y.rd (by omega), h.z.rd (by omega)⟩
end

/-- Three slices of the call's own, among the blocks lo .. hi - 1, apart from each other. -/
structure Own3 (t : TypeId) (w : World) (lo hi : Nat) (u1 : Value) (z1 : List Int) (u2 : Value) (z2 : List Int) (u3 : Value) (z3 : List Int) : Prop where
  ex : ∃ l1 h1 l2 h2 l3 h3, Own t w l1 h1 u1 z1 ∧ Own t w l2 h2 u2 z2 ∧ Own t w l3 h3 u3 z3 ∧ lo ≤ l1 ∧ h1 ≤ hi ∧ lo ≤ l2 ∧ h2 ≤ hi ∧ lo ≤ l3 ∧ h3 ≤ hi ∧ (h1 ≤ l2 ∨ h2 ≤ l1) ∧ (h1 ≤ l3 ∨ h3 ≤ l1) ∧ (h2 ≤ l3 ∨ h3 ≤ l2)
section
variable {t : TypeId} {w w' : World} {lo hi : Nat} {u1 u2 u3 : Value} {z1 z2 z3 : List Int}
theorem Own3.touch {a b : Nat} (h : Own3 t w lo hi u1 z1 u2 z2 u3 z3) (ht : Touch a b w w') (hd : hi ≤ a ∨ b ≤ lo) : Own3 t w' lo hi u1 z1 u2 z2 u3 z3 := by
  obtain ⟨l1, h1, l2, h2, l3, h3, o1, o2, o3, s⟩ := h.ex
  exact ⟨l1, h1, l2, h2, l3, h3, o1.touch ht (by omega), o2.touch ht (by omega), o3.touch ht (by omega), s⟩
theorem Own3.below (h : Own3 t w lo hi u1 z1 u2 z2 u3 z3) (hb : Below w.heap.size w w') : Own3 t w' lo hi u1 z1 u2 z2 u3 z3 := by
  obtain ⟨l1, h1, l2, h2, l3, h3, o1, o2, o3, s⟩ := h.ex
  exact ⟨l1, h1, l2, h2, l3, h3, o1.below hb, o2.below hb, o3.below hb, s⟩
theorem Own3.low {L : Nat} (h : Own3 t w lo hi u1 z1 u2 z2 u3 z3) (hb : Below L w w') (hg : hi ≤ L) : Own3 t w' lo hi u1 z1 u2 z2 u3 z3 := by
  obtain ⟨l1, h1, l2, h2, l3, h3, o1, o2, o3, s⟩ := h.ex
  exact ⟨l1, h1, l2, h2, l3, h3, Own.lo o1 hb (by omega), Own.lo o2 hb (by omega), Own.lo o3 hb (by omega), s⟩
theorem Own3.drewN (h : Own3 t w lo hi u1 z1 u2 z2 u3 z3) (n : Nat) : Own3 t (w.drewN n) lo hi u1 z1 u2 z2 u3 z3 := h.below (bel_drewN (Below.refl _ _) n)
theorem Own3.drew (h : Own3 t w lo hi u1 z1 u2 z2 u3 z3) : Own3 t w.drew lo hi u1 z1 u2 z2 u3 z3 := h.below ((Below.refl _ _).drew)
theorem Own3.alloc (h : Own3 t w lo hi u1 z1 u2 z2 u3 z3) (o : Obj) : Own3 t (w.alloc o) lo hi u1 z1 u2 z2 u3 z3 := h.below ((Below.refl _ _).alloc (Nat.le_refl _) o)
theorem Own3.setCell (h : Own3 t w lo hi u1 z1 u2 z2 u3 z3) {p : Addr} (hp : p.block < lo ∨ hi ≤ p.block) (x : Value) : Own3 t (w.setCell p x) lo hi u1 z1 u2 z2 u3 z3 := by
  obtain ⟨l1, h1, l2, h2, l3, h3, o1, o2, o3, s⟩ := h.ex
  exact ⟨l1, h1, l2, h2, l3, h3, o1.setCell (by omega) x, o2.setCell (by omega) x, o3.setCell (by omega) x, s⟩
theorem Own3.wide {lo' hi' : Nat} (h : Own3 t w lo hi u1 z1 u2 z2 u3 z3) (hl : lo' ≤ lo) (hh : hi ≤ hi') : Own3 t w lo' hi' u1 z1 u2 z2 u3 z3 := by
  obtain ⟨l1, h1, l2, h2, l3, h3, o1, o2, o3, s⟩ := h.ex
  exact ⟨l1, h1, l2, h2, l3, h3, o1, o2, o3, by omega⟩
theorem Own3.len (h : Own3 t w lo hi u1 z1 u2 z2 u3 z3) : z1.length ≤ 1000000000 ∧ z2.length ≤ 1000000000 ∧ z3.length ≤ 1000000000 := by
  obtain ⟨l1, h1, l2, h2, l3, h3, o1, o2, o3, s⟩ := h.ex
  exact ⟨o1.len, o2.len, o3.len⟩
theorem Own3.rd {a b d : Option Addr} {n c m e k f : Nat} (h : Own3 t w lo hi (.slice a n c) z1 (.slice b m e) z2 (.slice d k f) z3) : Rd3 w a z1 b z2 d z3 := by
  obtain ⟨l1, h1, l2, h2, l3, h3, o1, o2, o3, s⟩ := h.ex
  exact ⟨o1.rd, o2.rd, o3.rd⟩
theorem own3_nil (t : TypeId) (w : World) (lo hi : Nat) (hl : lo ≤ hi) : Own3 t w lo hi (.slice none 0 0) [] (.slice none 0 0) [] (.slice none 0 0) [] :=
  have n : Own t w lo lo (.slice none 0 0) [] := ⟨World.ownsRow_nil _ _ _ _, by simp [Value.ownBlock], by simp⟩
  ⟨lo, lo, lo, lo, lo, lo, n, n, n, by omega⟩
end

theorem bx_put7 {X : World} {G : Nat} {t : TypeId} {a0 a1 a2 a3 a4 a5 a6 b0 b1 b2 b3 b4 b5 b6 : Value} (h : Bx X G t #[a0, a1, a2, a3, a4, a5, a6]) :
    Bx (((((((X.setCell ⟨G, 0, none⟩ b0).setCell ⟨G, 1, none⟩ b1).setCell ⟨G, 2, none⟩ b2).setCell ⟨G, 3, none⟩ b3).setCell ⟨G, 4, none⟩ b4).setCell ⟨G, 5, none⟩ b5).setCell ⟨G, 6, none⟩ b6) G t #[b0, b1, b2, b3, b4, b5, b6] := by
  have h1 : Bx (X.setCell ⟨G, 0, none⟩ b0) G t #[b0, a1, a2, a3, a4, a5, a6] := h.set_ 0 b0
  have h2 : Bx ((X.setCell ⟨G, 0, none⟩ b0).setCell ⟨G, 1, none⟩ b1) G t #[b0, b1, a2, a3, a4, a5, a6] := h1.set_ 1 b1
  have h3 : Bx (((X.setCell ⟨G, 0, none⟩ b0).setCell ⟨G, 1, none⟩ b1).setCell ⟨G, 2, none⟩ b2) G t #[b0, b1, b2, a3, a4, a5, a6] := h2.set_ 2 b2
  have h4 : Bx ((((X.setCell ⟨G, 0, none⟩ b0).setCell ⟨G, 1, none⟩ b1).setCell ⟨G, 2, none⟩ b2).setCell ⟨G, 3, none⟩ b3) G t #[b0, b1, b2, b3, a4, a5, a6] := h3.set_ 3 b3
  have h5 : Bx (((((X.setCell ⟨G, 0, none⟩ b0).setCell ⟨G, 1, none⟩ b1).setCell ⟨G, 2, none⟩ b2).setCell ⟨G, 3, none⟩ b3).setCell ⟨G, 4, none⟩ b4) G t #[b0, b1, b2, b3, b4, a5, a6] := h4.set_ 4 b4
  have h6 : Bx ((((((X.setCell ⟨G, 0, none⟩ b0).setCell ⟨G, 1, none⟩ b1).setCell ⟨G, 2, none⟩ b2).setCell ⟨G, 3, none⟩ b3).setCell ⟨G, 4, none⟩ b4).setCell ⟨G, 5, none⟩ b5) G t #[b0, b1, b2, b3, b4, b5, a6] := h5.set_ 5 b5
  have h7 : Bx (((((((X.setCell ⟨G, 0, none⟩ b0).setCell ⟨G, 1, none⟩ b1).setCell ⟨G, 2, none⟩ b2).setCell ⟨G, 3, none⟩ b3).setCell ⟨G, 4, none⟩ b4).setCell ⟨G, 5, none⟩ b5).setCell ⟨G, 6, none⟩ b6) G t #[b0, b1, b2, b3, b4, b5, b6] := h6.set_ 6 b6
  exact h7

theorem touch_put7 (X : World) (G : Nat) {b0 b1 b2 b3 b4 b5 b6 : Value} : Touch G (G + 1) X (((((((X.setCell ⟨G, 0, none⟩ b0).setCell ⟨G, 1, none⟩ b1).setCell ⟨G, 2, none⟩ b2).setCell ⟨G, 3, none⟩ b3).setCell ⟨G, 4, none⟩ b4).setCell ⟨G, 5, none⟩ b5).setCell ⟨G, 6, none⟩ b6) :=
  ((((((((Touch.refl G (G + 1) X).setCell (p := ⟨G, 0, none⟩) (Nat.le_refl _) (Nat.lt_succ_self _) b0).setCell (p := ⟨G, 1, none⟩) (Nat.le_refl _) (Nat.lt_succ_self _) b1).setCell (p := ⟨G, 2, none⟩) (Nat.le_refl _) (Nat.lt_succ_self _) b2).setCell (p := ⟨G, 3, none⟩) (Nat.le_refl _) (Nat.lt_succ_self _) b3).setCell (p := ⟨G, 4, none⟩) (Nat.le_refl _) (Nat.lt_succ_self _) b4).setCell (p := ⟨G, 5, none⟩) (Nat.le_refl _) (Nat.lt_succ_self _) b5).setCell (p := ⟨G, 6, none⟩) (Nat.le_refl _) (Nat.lt_succ_self _) b6)

/-- Two machines are equal (a word that the walk does not open). -/
def macEqB (m n : Mac) : Bool := regEqB m.b1 n.b1 m.z1 n.z1 && (regEqB m.b2 n.b2 m.z2 n.z2 && (regEqB m.b3 n.b3 m.z3 n.z3 && decide (m.p = n.p)))
theorem macEqB_self (m : Mac) : macEqB m m = true := by simp [macEqB, regEqB]
end Go.Proofs.YtlahobdopmdfmaaDoor

/- MacM -/
namespace Go.Proofs.YtlahobdopmdfmaaDoor
open Go.RowKit

/-! Digits of sums and differences. -/
theorem mval_app (b : Int) : ∀ xs ys : List Int, valR b (xs ++ ys) = valR b xs + b ^ xs.length * valR b ys
  | [], ys => by simp [valR]
  | x :: xs, ys => by
    simp only [List.cons_append, valR, mval_app b xs ys, List.length_cons, Int.pow_succ, Int.mul_add]
    rw [Int.mul_comm (b ^ xs.length) b, Int.mul_assoc]
    omega
theorem mval_zero (b : Int) : ∀ n : Nat, valR b (List.replicate n 0) = 0
  | 0 => rfl
  | n + 1 => by rw [List.replicate_succ, valR, mval_zero b n]; simp
theorem mval_snoc (b : Int) (zs : List Int) (d : Int) : valR b (zs ++ [d]) = valR b zs + d * b ^ zs.length := by
  rw [mval_app]; simp only [valR, Int.mul_zero, Int.add_zero]; rw [Int.mul_comm]
theorem mval_take {b : Int} {zs : List Int} {k : Nat} (h : k < zs.length) : valR b (zs.take (k + 1)) = valR b (zs.take k) + nth zs k * b ^ k := by
  rw [List.take_succ_eq_append_getElem h, ← nth_get h, mval_snoc, List.length_take, Nat.min_eq_left (by omega)]
theorem mval_tab (b : Int) (f : Nat → Int) (k : Nat) : valR b (tab f (k + 1)) = valR b (tab f k) + f k * b ^ k := by
  rw [tab_succ, mval_snoc, tab_len]
theorem msum_val {b : Int} {xs ys : List Int} (hl : ys.length = xs.length) : ∀ k, k ≤ xs.length → valR b (tab (sumD b xs ys) k) + cK b xs ys k * b ^ k = valR b (xs.take k) + valR b (ys.take k)
  | 0, _ => by simp [tab, valR, cK]
  | k + 1, hk => by
    have ih := msum_val (b := b) hl k (by omega)
    have ec : cK b xs ys (k + 1) = (nth xs k + nth ys k + cK b xs ys k) / b := rfl
    rw [mval_tab, mval_take (by omega), mval_take (by omega), ec, Int.pow_succ]
    have e := Int.emod_add_mul_ediv (nth xs k + nth ys k + cK b xs ys k) b
    have e2 : sumD b xs ys k = nth xs k + nth ys k + cK b xs ys k - b * ((nth xs k + nth ys k + cK b xs ys k) / b) := by unfold sumD; omega
    rw [e2]
    generalize (nth xs k + nth ys k + cK b xs ys k) / b = q
    rw [Int.sub_mul, Int.add_mul, Int.add_mul, show b * q * b ^ k = q * (b ^ k * b) by rw [Int.mul_comm b q, Int.mul_assoc, Int.mul_comm b]]
    omega
theorem msub_val {b : Int} {xs ys : List Int} (hl : ys.length = xs.length) : ∀ k, k ≤ xs.length → valR b (tab (subD b xs ys) k) - bK b xs ys k * b ^ k = valR b (xs.take k) - valR b (ys.take k)
  | 0, _ => by simp [tab, valR, bK]
  | k + 1, hk => by
    have ih := msub_val (b := b) hl k (by omega)
    rw [mval_tab, mval_take (by omega), mval_take (by omega), Int.pow_succ]
    simp only [subD, bK]
    split
    · rw [Int.add_mul, Int.sub_mul, Int.sub_mul, Int.one_mul, Int.mul_comm b (b ^ k)]
      omega
    · rw [Int.sub_mul, Int.sub_mul, Int.zero_mul]
      omega

/-- All are digits of the base. -/
def DigsM (b : Int) (zs : List Int) : Prop := ∀ d ∈ zs, 0 ≤ d ∧ d < b
theorem digsM_nth {b : Int} {zs : List Int} (h : DigsM b zs) {k : Nat} (hk : k < zs.length) : 0 ≤ nth zs k ∧ nth zs k < b := by
  rw [nth_get hk]; exact h _ (List.getElem_mem hk)
/-- The register after x has been added, modulo its size; whether it goes round. -/
def movZ (b : Int) (zs : List Int) (x : Int) : List Int := digsR b zs.length ((valR b zs + x) % b ^ zs.length)
def movO (b : Int) (zs : List Int) (x : Int) : Bool := !decide (0 ≤ valR b zs + x ∧ valR b zs + x ≤ b ^ zs.length - 1)
theorem movZ_len (b : Int) (zs : List Int) (x : Int) : (movZ b zs x).length = zs.length := digsR_len _ _ _
theorem movZ_val {b : Int} (b0 : 1 ≤ b) (zs : List Int) (x : Int) : valR b (movZ b zs x) = (valR b zs + x) % b ^ zs.length := by
  have hp := pow_pos' b0 zs.length
  exact valR_digs b0 _ _ (Int.emod_nonneg _ (by omega)) (Int.emod_lt_of_pos _ (by omega))
theorem movZ_digs {b : Int} (b0 : 1 ≤ b) (zs : List Int) (x : Int) : DigsM b (movZ b zs x) := digsR_bd b0 _ _
theorem sum_mov {b : Int} (b0 : 2 ≤ b) {xs ys : List Int} (hx : DigsM b xs) (hy : DigsM b ys) (hl : ys.length = xs.length) :
    tab (sumD b xs ys) xs.length = movZ b xs (valR b ys) ∧ decide (0 < cK b xs ys xs.length) = movO b xs (valR b ys) := by
  have hv := msum_val (b := b) hl xs.length (Nat.le_refl _)
  rw [List.take_length, List.take_of_length_le (by omega)] at hv
  have hd : DigsM b (tab (sumD b xs ys) xs.length) := tab_mem fun k _ => ⟨Int.emod_nonneg _ (by omega), Int.emod_lt_of_pos _ (by omega)⟩
  have hlt := valR_lt (show 1 ≤ b by omega) hd
  have hback := digsR_back (show 1 ≤ b by omega) hd
  rw [tab_len] at hlt hback
  have hx0 := valR_lt (show 1 ≤ b by omega) hx
  have hy0 := valR_lt (show 1 ≤ b by omega) hy
  have hc := cK_bd b0 (fun k hk => digsM_nth hx hk) (fun k hk => digsM_nth hy (k := k) (by omega)) xs.length (Nat.le_refl _)
  constructor
  · unfold movZ
    rw [← hv, Int.add_mul_emod_self_right, Int.emod_eq_of_lt hlt.1 hlt.2, hback]
  · unfold movO
    rw [← hv]
    rcases (show cK b xs ys xs.length = 0 ∨ cK b xs ys xs.length = 1 by omega) with h | h
    · rw [h]; simp; omega
    · rw [h]; simp; omega
theorem sub_mov {b : Int} (b0 : 2 ≤ b) {xs ys : List Int} (hx : DigsM b xs) (hy : DigsM b ys) (hl : ys.length = xs.length) :
    tab (subD b xs ys) xs.length = movZ b xs (-valR b ys) ∧ decide (0 < bK b xs ys xs.length) = movO b xs (-valR b ys) := by
  have hv := msub_val (b := b) hl xs.length (Nat.le_refl _)
  rw [List.take_length, List.take_of_length_le (by omega)] at hv
  have hd : DigsM b (tab (subD b xs ys) xs.length) := tab_mem fun k hk => by
    have h1 := digsM_nth hx hk
    have h2 := digsM_nth hy (k := k) (by omega)
    have h3 := bK_bd b xs ys k
    unfold subD; split <;> omega
  have hlt := valR_lt (show 1 ≤ b by omega) hd
  have hback := digsR_back (show 1 ≤ b by omega) hd
  rw [tab_len] at hlt hback
  have hx0 := valR_lt (show 1 ≤ b by omega) hx
  have hy0 := valR_lt (show 1 ≤ b by omega) hy
  have hc := bK_bd b xs ys xs.length
  have hs : valR b xs + -valR b ys = valR b (tab (subD b xs ys) xs.length) + (-bK b xs ys xs.length) * b ^ xs.length := by rw [Int.neg_mul]; omega
  constructor
  · unfold movZ
    rw [hs, Int.add_mul_emod_self_right, Int.emod_eq_of_lt hlt.1 hlt.2, hback]
  · unfold movO
    rw [hs]
    rcases (show bK b xs ys xs.length = 0 ∨ bK b xs ys xs.length = 1 by omega) with h | h
    · rw [h]; simp; omega
    · rw [h]; simp; omega

/-- Digits that stand above a register of n digits, from place p on. -/
def abvL (n p : Nat) (ds : List Int) : List Int := List.replicate p 0 ++ (ds ++ List.replicate (n - p - ds.length) 0)
theorem abvL_len {n p : Nat} {ds : List Int} (h : p + ds.length ≤ n) : (abvL n p ds).length = n := by simp [abvL]; omega
theorem abvL_val (b : Int) (n p : Nat) (ds : List Int) : valR b (abvL n p ds) = b ^ p * valR b ds := by
  rw [abvL, mval_app, mval_app, mval_zero, mval_zero, List.length_replicate]; simp
theorem abvL_digs {b : Int} (b0 : 1 ≤ b) {ds : List Int} (h : DigsM b ds) (n p : Nat) : DigsM b (abvL n p ds) := by
  intro d hd
  simp only [abvL, List.mem_append, List.mem_replicate] at hd
  rcases hd with ⟨_, rfl⟩ | hd | ⟨_, rfl⟩
  · omega
  · exact h d hd
  · omega

/-! Machines. -/
def mac0 : Mac := ⟨0, [], 0, [], 0, [], 0⟩
/-- How many places there are. -/
def plcs (m : Mac) : Int := min ((m.z2.length : Int) - m.z1.length + 1) m.z3.length
/-- A machine is valid. -/
def macB (m : Mac) : Bool := decide (okB m.b1 m.z1 = true ∧ okB m.b2 m.z2 = true ∧ okB m.b3 m.z3 = true ∧ m.b1 = m.b2 ∧ m.b1 = m.b3 ∧
  m.b1 ^ m.z2.length - 1 ≤ 1000000000000 ∧ m.b1 ^ m.z3.length - 1 ≤ 1000000000000 ∧ m.z1.length ≤ m.z2.length ∧ 0 ≤ m.p ∧ m.p ≤ plcs m - 1)
theorem macB_spec {m : Mac} (h : macB m = true) : okB m.b1 m.z1 = true ∧ okB m.b2 m.z2 = true ∧ okB m.b3 m.z3 = true ∧ m.b1 = m.b2 ∧ m.b1 = m.b3 ∧
    m.b1 ^ m.z2.length - 1 ≤ 1000000000000 ∧ m.b1 ^ m.z3.length - 1 ≤ 1000000000000 ∧ m.z1.length ≤ m.z2.length ∧ 0 ≤ m.p ∧ m.p ≤ plcs m - 1 := by simpa [macB] using h
theorem macB_acc {m : Mac} (h : macB m = true) : accB m.b2 m.z2 = true ∧ accB m.b3 m.z3 = true := by
  obtain ⟨h1, h2, h3, e2, e3, f2, f3, _⟩ := macB_spec h
  rw [e2] at f2
  rw [e3] at f3
  exact ⟨by simp [accB, h2, f2], by simp [accB, h3, f3]⟩
/-- The parts of a valid machine, as the walks want them. -/
theorem macB_facts {m : Mac} (h : macB m = true) : m.b2 = m.b1 ∧ m.b3 = m.b1 ∧ 2 ≤ m.b1 ∧ m.b1 ≤ 16 ∧ 1 ≤ m.z1.length ∧ m.z1.length ≤ m.z2.length ∧ m.z2.length ≤ 16 ∧ 1 ≤ m.z3.length ∧ m.z3.length ≤ 16 ∧
    0 ≤ m.p ∧ m.p + m.z1.length ≤ m.z2.length ∧ m.p < m.z3.length ∧ DigsM m.b1 m.z1 ∧ DigsM m.b1 m.z2 ∧ DigsM m.b1 m.z3 := by
  obtain ⟨h1, h2, h3, e2, e3, f2, f3, hl, p0, p1⟩ := macB_spec h
  obtain ⟨a0, a1, n0, n1, d1, _⟩ := okB_spec h1
  obtain ⟨_, _, n2, n3, d2, _⟩ := okB_spec h2
  obtain ⟨_, _, n4, n5, d3, _⟩ := okB_spec h3
  unfold plcs at p1
  rw [← e2] at d2
  rw [← e3] at d3
  exact ⟨e2.symm, e3.symm, a0, a1, n0, hl, n3, n4, n5, p0, by omega, by omega, d1, d2, d3⟩

/-- The power of the place. -/
def unitM (m : Mac) : Int := m.b1 ^ m.p.toNat
/-- The setting added s times at the place, whether the bell rings. -/
def trnM (m : Mac) (s : Int) : Mac × Bool :=
  (⟨m.b1, m.z1, m.b2, movZ m.b2 m.z2 (s * (unitM m * valR m.b1 m.z1)), m.b3, movZ m.b3 m.z3 (s * unitM m), m.p⟩, movO m.b2 m.z2 (s * (unitM m * valR m.b1 m.z1)))
/-- The carriage moved. -/
def shfM (m : Mac) (s : Int) : Mac × Bool := if 0 ≤ m.p + s ∧ m.p + s ≤ plcs m - 1 then (⟨m.b1, m.z1, m.b2, m.z2, m.b3, m.z3, m.p + s⟩, false) else (m, true)
/-- A stroke. -/
def doM (m : Mac) (k : Int) : Mac × Bool :=
  if k = 1 then trnM m 1 else if k = 2 then trnM m (-1) else if k = 3 then shfM m 1 else if k = 4 then shfM m (-1) else
  if k = 5 then (⟨m.b1, m.z1, m.b2, List.replicate m.z2.length 0, m.b3, List.replicate m.z3.length 0, m.p⟩, false) else
  (⟨m.b1, List.replicate m.z1.length 0, m.b2, m.z2, m.b3, m.z3, m.p⟩, false)
/-- DoStroke. -/
def dsR (m : Mac) (k : Int) : Mac × Bool × Int := if macB m = true then (if 1 ≤ k ∧ k ≤ 6 then ((doM m k).1, (doM m k).2, 0) else (mac0, false, 2)) else (mac0, false, 1)
/-- Strokes up to the first bell: the machine, how many. -/
def runM : Mac → List Int → Mac × Int
  | m, [] => (m, 0)
  | m, k :: ks => if (doM m k).2 = true then ((doM m k).1, 1) else ((runM (doM m k).1 ks).1, (runM (doM m k).1 ks).2 + 1)
def strB (l : List Int) : Bool := decide (∀ k ∈ l, 1 ≤ k ∧ k ≤ 6)
/-- DoStrokes. -/
def dssR (m : Mac) (l : List Int) : Mac × Int × Int :=
  if macB m = true then (if strB l = true then (if l.length ≤ 300 then ((runM m l).1, (runM m l).2, 0) else (mac0, 0, 5)) else (mac0, 0, 2)) else (mac0, 0, 1)
/-- PlacesOf, StrokeBack. -/
def plR (m : Mac) : Int × Int := if macB m = true then (plcs m, 0) else (0, 1)
def sbR (k : Int) : Int × Int := if k = 1 then (2, 0) else if k = 2 then (1, 0) else if k = 3 then (4, 0) else if k = 4 then (3, 0) else if k = 5 ∨ k = 6 then (0, 3) else (0, 2)
/-- The machine that NewMachine makes out of what NewRegister gives. -/
def rawM (b s r c : Int) : Mac := ⟨(nrR b s 0).1, (nrR b s 0).2.1, (nrR b r 0).1, (nrR b r 0).2.1, (nrR b c 0).1, (nrR b c 0).2.1, 0⟩
/-- NewMachine. -/
def nmR (b s r c : Int) : Mac × Int := if macB (rawM b s r c) = true then (rawM b s r c, 0) else (mac0, 2)
/-- Base and widths are in range. -/
def nmB (b s r c : Int) : Bool := decide (2 ≤ b ∧ b ≤ 16 ∧ 1 ≤ s ∧ s ≤ 16 ∧ 1 ≤ r ∧ r ≤ 16 ∧ 1 ≤ c ∧ c ≤ 16)
theorem leftR_zero (b : Int) : ∀ n : Nat, leftR b n 0 = 0
  | 0 => rfl
  | n + 1 => by rw [leftR, Int.zero_ediv]; exact leftR_zero b n
theorem digsR_zero (b : Int) : ∀ n : Nat, digsR b n 0 = List.replicate n 0
  | 0 => rfl
  | n + 1 => by rw [digsR, Int.zero_emod, Int.zero_ediv, digsR_zero b n, List.replicate_succ]
theorem nrR_zero {b n : Int} (h : 2 ≤ b ∧ b ≤ 16 ∧ 1 ≤ n ∧ n ≤ 16) : nrR b n 0 = (b, digsR b n.toNat 0, 0) := by
  obtain ⟨m, rfl⟩ := Int.eq_ofNat_of_zero_le (show 0 ≤ n by omega)
  rw [Int.toNat_natCast]
  exact nrR_ok ⟨h.1, h.2.1, by omega, by omega, by omega, by omega⟩ (by rw [leftR_zero]; omega)
theorem nrR_none {b n : Int} (h : ¬ (2 ≤ b ∧ b ≤ 16 ∧ 1 ≤ n ∧ n ≤ 16)) : nrR b n 0 = (0, [], 2) := nrR_bad (by omega)
theorem nrR_wf {b n : Int} (h : I64 b) : I64 (nrR b n 0).1 ∧ All64 (nrR b n 0).2.1 := by
  by_cases k : 2 ≤ b ∧ b ≤ 16 ∧ 1 ≤ n ∧ n ≤ 16
  · rw [nrR_zero k]
    refine ⟨h, fun z hz => ?_⟩
    rw [digsR_zero, List.mem_replicate] at hz
    rw [hz.2]; unfold I64; decide
  · rw [nrR_none k]
    exact ⟨by unfold I64; decide, fun z hz => by cases hz⟩
theorem okB_none : okB 0 [] = false := by decide
/-- Where base or widths are out of range there is no machine. -/
theorem rawM_bad {b s r c : Int} (h : nmB b s r c = false) : macB (rawM b s r c) = false := by
  have h' : ¬ (2 ≤ b ∧ b ≤ 16 ∧ 1 ≤ s ∧ s ≤ 16) ∨ ¬ (2 ≤ b ∧ b ≤ 16 ∧ 1 ≤ r ∧ r ≤ 16) ∨ ¬ (2 ≤ b ∧ b ≤ 16 ∧ 1 ≤ c ∧ c ≤ 16) := by
    simp only [nmB, decide_eq_false_iff_not] at h; omega
  cases hm : macB (rawM b s r c) with
  | false => rfl
  | true =>
    obtain ⟨h1, h2, h3, _⟩ := macB_spec hm
    unfold rawM at h1 h2 h3
    rcases h' with k | k | k
    · simp only [nrR_none k] at h1; rw [okB_none] at h1; cases h1
    · simp only [nrR_none k] at h2; rw [okB_none] at h2; cases h2
    · simp only [nrR_none k] at h3; rw [okB_none] at h3; cases h3
theorem rawM_good {b s r c : Int} (h : nmB b s r c = true) : rawM b s r c = ⟨b, digsR b s.toNat 0, b, digsR b r.toNat 0, b, digsR b c.toNat 0, 0⟩ := by
  simp only [nmB, decide_eq_true_eq] at h
  obtain ⟨b0, b1, s0, s1, r0, r1, c0, c1⟩ := h
  rw [rawM, nrR_zero ⟨b0, b1, s0, s1⟩, nrR_zero ⟨b0, b1, r0, r1⟩, nrR_zero ⟨b0, b1, c0, c1⟩]
/-- SetValue, SetDigit. -/
def svR (m : Mac) (v : Int) : Mac × Int :=
  if macB m = true then (if 0 ≤ v ∧ v ≤ m.b1 ^ m.z1.length - 1 then (⟨m.b1, digsR m.b1 m.z1.length v, m.b2, m.z2, m.b3, m.z3, m.p⟩, 0) else (mac0, 2)) else (mac0, 1)
def sdR (m : Mac) (k d : Int) : Mac × Int :=
  if macB m = true then (if (0 ≤ k ∧ k ≤ (m.z1.length : Int) - 1) ∧ 0 ≤ d ∧ d ≤ m.b1 - 1 then (⟨m.b1, m.z1.set k.toNat d, m.b2, m.z2, m.b3, m.z3, m.p⟩, 0) else (mac0, 2)) else (mac0, 1)

/-- A machine of its own and a code. -/
def MacC (R : Mac × Int) (w : World) (e : Ending) (w' : World) : Prop := ∃ (A1 : Option Addr) (C1 : Nat) (A2 : Option Addr) (C2 : Nat) (A3 : Option Addr) (C3 : Nat),
  e = .returned (.tuple #[.agg #[.int .i64 R.1.b1, .slice A1 R.1.z1.length C1, .int .i64 R.1.b2, .slice A2 R.1.z2.length C2, .int .i64 R.1.b3, .slice A3 R.1.z3.length C3, .int .i64 R.1.p], .int .i64 R.2]) ∧ Own3 2 w' w.heap.size w'.heap.size (.slice A1 R.1.z1.length C1) R.1.z1 (.slice A2 R.1.z2.length C2) R.1.z2 (.slice A3 R.1.z3.length C3) R.1.z3 ∧ Below w.heap.size w w'
theorem macC_err {R : Mac × Int} {c : Int} {w w' : World} {e : Ending} (h : R = (mac0, c)) (he : e = .returned (.tuple #[.agg #[.int .i64 0, .slice none 0 0, .int .i64 0, .slice none 0 0, .int .i64 0, .slice none 0 0, .int .i64 0], .int .i64 c])) (hb : Below w.heap.size w w') : MacC R w e w' := by
  subst h
  exact ⟨none, 0, none, 0, none, 0, he, own3_nil _ _ _ _ hb.size, hb⟩
theorem macC_ok {R : Mac × Int} {m : Mac} {w w' : World} {A1 : Option Addr} {C1 : Nat} {A2 : Option Addr} {C2 : Nat} {A3 : Option Addr} {C3 : Nat} {lo hi : Nat} {e : Ending} (h : R = (m, 0)) (he : e = .returned (.tuple #[.agg #[.int .i64 m.b1, .slice A1 m.z1.length C1, .int .i64 m.b2, .slice A2 m.z2.length C2, .int .i64 m.b3, .slice A3 m.z3.length C3, .int .i64 m.p], .int .i64 0]))
    (ho : Own3 2 w' lo hi (.slice A1 m.z1.length C1) m.z1 (.slice A2 m.z2.length C2) m.z2 (.slice A3 m.z3.length C3) m.z3) (hl : w.heap.size ≤ lo) (hh : hi ≤ w'.heap.size) (hb : Below w.heap.size w w') : MacC R w e w' := by
  subst h
  exact ⟨A1, C1, A2, C2, A3, C3, he, ho.wide hl hh, hb⟩
end Go.Proofs.YtlahobdopmdfmaaDoor

/- MacT -/
namespace Go.Proofs.YtlahobdopmdfmaaDoor
open Go.RowKit

set_option maxHeartbeats 2000000 in
set_option maxRecDepth 100000 in
theorem toMachine_any (m : Mac) (A1 : Option Addr) (C1 : Nat) (A2 : Option Addr) (C2 : Nat) (A3 : Option Addr) (C3 : Nat) (w : World) (h : Rd3 w A1 m.z1 A2 m.z2 A3 m.z3) :
    Calls Tryd.prog 64 #[.agg #[.int .i64 m.b1, .slice A1 m.z1.length C1, .int .i64 m.b2, .slice A2 m.z2.length C2, .int .i64 m.b3, .slice A3 m.z3.length C3, .int .i64 m.p]] w fun e w' => ∃ D1 E1 D2 E2 D3 E3, e = .returned (.agg #[.int .i64 m.b1, .slice D1 m.z1.length E1, .int .i64 m.b2, .slice D2 m.z2.length E2, .int .i64 m.b3, .slice D3 m.z3.length E3, .int .i64 m.p]) ∧
      Own3 2 w' w.heap.size w'.heap.size (.slice D1 m.z1.length E1) m.z1 (.slice D2 m.z2.length E2) m.z2 (.slice D3 m.z3.length E3) m.z3 ∧ Below w.heap.size w w' := by
  obtain ⟨u, hu⟩ : ∃ u, u = ((w.alloc (.cells #[.int .i64 m.b1, .slice A1 m.z1.length C1, .int .i64 m.b2, .slice A2 m.z2.length C2, .int .i64 m.b3, .slice A3 m.z3.length C3, .int .i64 m.p] 72)).alloc (.cells #[.int .i64 0, .slice none 0 0, .int .i64 0, .slice none 0 0, .int .i64 0, .slice none 0 0, .int .i64 0] 28)).alloc (.cells #[.int .i64 0, .slice none 0 0, .int .i64 0, .slice none 0 0, .int .i64 0, .slice none 0 0, .int .i64 0] 28) := ⟨_, rfl⟩
  have hb0 : Below w.heap.size w u := by rw [hu]; exact (by repeat (first | exact Below.refl _ _ | refine Below.setCell ?_ (by first | omega | (simp <;> omega)) _ | refine Below.alloc ?_ (by first | omega | (simp <;> omega)) _ | refine Below.drew ?_))
  have HU := Lib.hid hu
  have b0 : Bx u w.heap.size 72 #[.int .i64 m.b1, .slice A1 m.z1.length C1, .int .i64 m.b2, .slice A2 m.z2.length C2, .int .i64 m.b3, .slice A3 m.z3.length C3, .int .i64 m.p] := by rw [hu]; exact ((Bx.new _ _ _).alloc _).alloc _
  have b1 : Bx u (w.heap.size + 1) 28 #[.int .i64 0, .slice none 0 0, .int .i64 0, .slice none 0 0, .int .i64 0, .slice none 0 0, .int .i64 0] := by
    rw [hu]; simpa using (Bx.new (w.alloc (.cells #[.int .i64 m.b1, .slice A1 m.z1.length C1, .int .i64 m.b2, .slice A2 m.z2.length C2, .int .i64 m.b3, .slice A3 m.z3.length C3, .int .i64 m.p] 72)) #[.int .i64 0, .slice none 0 0, .int .i64 0, .slice none 0 0, .int .i64 0, .slice none 0 0, .int .i64 0] 28).alloc (.cells #[.int .i64 0, .slice none 0 0, .int .i64 0, .slice none 0 0, .int .i64 0, .slice none 0 0, .int .i64 0] 28)
  have b2 : Bx u (w.heap.size + 1 + 1) 28 #[.int .i64 0, .slice none 0 0, .int .i64 0, .slice none 0 0, .int .i64 0, .slice none 0 0, .int .i64 0] := by
    rw [hu]; simpa using Bx.new ((w.alloc (.cells #[.int .i64 m.b1, .slice A1 m.z1.length C1, .int .i64 m.b2, .slice A2 m.z2.length C2, .int .i64 m.b3, .slice A3 m.z3.length C3, .int .i64 m.p] 72)).alloc (.cells #[.int .i64 0, .slice none 0 0, .int .i64 0, .slice none 0 0, .int .i64 0, .slice none 0 0, .int .i64 0] 28)) #[.int .i64 0, .slice none 0 0, .int .i64 0, .slice none 0 0, .int .i64 0, .slice none 0 0, .int .i64 0] 28
  have hz : u.heap.size = w.heap.size + 1 + 1 + 1 := by rw [hu]; simp
  have hx1 := h.x.below hb0
  have hy1 := h.y
  have hz1 := h.z
  clear hu h
  go_enter Tryd.func64, Tryd.ntmps64
  go_wp2_with fail
  rw [← HU.out]
  refine (toRegister_any m.b1 A1 C1 m.z1 u hx1).mono ?_
  rintro e w1 ⟨D1, E1, rfl, o1, hb1⟩
  replace b0 := b0.below hb1
  replace b1 := b1.below hb1
  replace b2 := b2.below hb1
  have hs1 := hb1.size
  have hbw := hb0.trans (hb1.mono hb0.size)
  clear hb1 hx1
  have e0 := b0.at_ 2 rfl
  have e1 := b0.at_ 3 rfl
  have g0 := b2.at_ 0 rfl
  have g1 := b2.at_ 1 rfl
  have g0f := b2.thaw 0
  have g1f := b2.thaw 1
  go_wp2_with fail
  obtain ⟨V, hV⟩ : ∃ V, V = (w1.setCell ⟨w.heap.size + 1 + 1, 0, none⟩ (.int .i64 m.b1)).setCell ⟨w.heap.size + 1 + 1, 1, none⟩ (.slice D1 m.z1.length E1) := ⟨_, rfl⟩
  rw [← hV]
  have p1 : Own 2 V u.heap.size w1.heap.size (.slice D1 m.z1.length E1) m.z1 := by rw [hV]; exact (o1.setCell (.inl (by simp; omega)) _).setCell (.inl (by simp; omega)) _
  have c0 : Bx V w.heap.size 72 #[.int .i64 m.b1, .slice A1 m.z1.length C1, .int .i64 m.b2, .slice A2 m.z2.length C2, .int .i64 m.b3, .slice A3 m.z3.length C3, .int .i64 m.p] := by rw [hV]; exact (b0.far (by simp <;> omega) _).far (by simp <;> omega) _
  have c1 : Bx V (w.heap.size + 1) 28 #[.int .i64 0, .slice none 0 0, .int .i64 0, .slice none 0 0, .int .i64 0, .slice none 0 0, .int .i64 0] := by rw [hV]; exact (b1.far (by simp) _).far (by simp) _
  have c2 : Bx V (w.heap.size + 1 + 1) 28 #[.int .i64 m.b1, .slice D1 m.z1.length E1, .int .i64 0, .slice none 0 0, .int .i64 0, .slice none 0 0, .int .i64 0] := by rw [hV]; exact (b2.set_ 0 _).set_ 1 _
  have hbV : Below w.heap.size w V := by rw [hV]; exact (by repeat (first | with_reducible exact hbw | with_reducible refine Below.setCell ?_ (by first | omega | (simp <;> omega)) _ | with_reducible refine Below.alloc ?_ (by first | omega | (simp <;> omega)) _ | with_reducible refine Below.drew ?_))
  have hzV : V.heap.size = w1.heap.size := by rw [hV]; simp
  clear hV o1 b0 b1 b2 e0 e1 g0 g1 g0f g1f hbw
  refine (toRegister_any m.b2 A2 C2 m.z2 V (hy1.below hbV)).mono ?_
  rintro e w2 ⟨D2, E2, rfl, o2, hb2⟩
  replace p1 := p1.below hb2
  replace c0 := c0.below hb2
  replace c1 := c1.below hb2
  replace c2 := c2.below hb2
  have hs2 := hb2.size
  have hbw := hbV.trans (hb2.mono hbV.size)
  clear hb2 hbV
  have e0 := c0.at_ 4 rfl
  have e1 := c0.at_ 5 rfl
  have g0 := c2.at_ 2 rfl
  have g1 := c2.at_ 3 rfl
  have g0f := c2.thaw 2
  have g1f := c2.thaw 3
  go_wp2_with fail
  obtain ⟨V2, hV⟩ : ∃ V2, V2 = (w2.setCell ⟨w.heap.size + 1 + 1, 2, none⟩ (.int .i64 m.b2)).setCell ⟨w.heap.size + 1 + 1, 3, none⟩ (.slice D2 m.z2.length E2) := ⟨_, rfl⟩
  rw [← hV]
  replace p1 : Own 2 V2 u.heap.size w1.heap.size (.slice D1 m.z1.length E1) m.z1 := by rw [hV]; exact (p1.setCell (.inl (by simp; omega)) _).setCell (.inl (by simp; omega)) _
  have p2 : Own 2 V2 V.heap.size w2.heap.size (.slice D2 m.z2.length E2) m.z2 := by rw [hV]; exact (o2.setCell (.inl (by simp; omega)) _).setCell (.inl (by simp; omega)) _
  have d0 : Bx V2 w.heap.size 72 #[.int .i64 m.b1, .slice A1 m.z1.length C1, .int .i64 m.b2, .slice A2 m.z2.length C2, .int .i64 m.b3, .slice A3 m.z3.length C3, .int .i64 m.p] := by rw [hV]; exact (c0.far (by simp <;> omega) _).far (by simp <;> omega) _
  have d1 : Bx V2 (w.heap.size + 1) 28 #[.int .i64 0, .slice none 0 0, .int .i64 0, .slice none 0 0, .int .i64 0, .slice none 0 0, .int .i64 0] := by rw [hV]; exact (c1.far (by simp) _).far (by simp) _
  have d2 : Bx V2 (w.heap.size + 1 + 1) 28 #[.int .i64 m.b1, .slice D1 m.z1.length E1, .int .i64 m.b2, .slice D2 m.z2.length E2, .int .i64 0, .slice none 0 0, .int .i64 0] := by rw [hV]; exact (c2.set_ 2 _).set_ 3 _
  have hbV : Below w.heap.size w V2 := by rw [hV]; exact (by repeat (first | with_reducible exact hbw | with_reducible refine Below.setCell ?_ (by first | omega | (simp <;> omega)) _ | with_reducible refine Below.alloc ?_ (by first | omega | (simp <;> omega)) _ | with_reducible refine Below.drew ?_))
  have hzV2 : V2.heap.size = w2.heap.size := by rw [hV]; simp
  clear hV o2 c0 c1 c2 e0 e1 g0 g1 g0f g1f hbw
  refine (toRegister_any m.b3 A3 C3 m.z3 V2 (hz1.below hbV)).mono ?_
  rintro e w3 ⟨D3, E3, rfl, o3, hb3⟩
  replace p1 := p1.below hb3
  replace p2 := p2.below hb3
  replace d0 := d0.below hb3
  replace d1 := d1.below hb3
  replace d2 := d2.below hb3
  have hs3 := hb3.size
  have hbw := hbV.trans (hb3.mono hbV.size)
  clear hb3 hbV
  have e0 := d0.at_ 6 rfl
  have g0 := d2.at_ 4 rfl
  have g1 := d2.at_ 5 rfl
  have g2 := d2.at_ 6 rfl
  have g0f := d2.thaw 4
  have g1f := d2.thaw 5
  have g2f := d2.thaw 6
  go_upto_region 5 with fail
  obtain ⟨V3, hV⟩ : ∃ V3, V3 = (w3.setCell ⟨w.heap.size + 1 + 1, 4, none⟩ (.int .i64 m.b3)).setCell ⟨w.heap.size + 1 + 1, 5, none⟩ (.slice D3 m.z3.length E3) := ⟨_, rfl⟩
  try rw [← hV]
  replace p1 : Own 2 V3 u.heap.size w1.heap.size (.slice D1 m.z1.length E1) m.z1 := by rw [hV]; exact (p1.setCell (.inl (by simp; omega)) _).setCell (.inl (by simp; omega)) _
  replace p2 : Own 2 V3 V.heap.size w2.heap.size (.slice D2 m.z2.length E2) m.z2 := by rw [hV]; exact (p2.setCell (.inl (by simp; omega)) _).setCell (.inl (by simp; omega)) _
  have p3 : Own 2 V3 V2.heap.size w3.heap.size (.slice D3 m.z3.length E3) m.z3 := by rw [hV]; exact (o3.setCell (.inl (by simp; omega)) _).setCell (.inl (by simp; omega)) _
  replace d0 : Bx V3 w.heap.size 72 #[.int .i64 m.b1, .slice A1 m.z1.length C1, .int .i64 m.b2, .slice A2 m.z2.length C2, .int .i64 m.b3, .slice A3 m.z3.length C3, .int .i64 m.p] := by rw [hV]; exact (d0.far (by simp <;> omega) _).far (by simp <;> omega) _
  replace d1 : Bx V3 (w.heap.size + 1) 28 #[.int .i64 0, .slice none 0 0, .int .i64 0, .slice none 0 0, .int .i64 0, .slice none 0 0, .int .i64 0] := by rw [hV]; exact (d1.far (by simp) _).far (by simp) _
  replace d2 : Bx V3 (w.heap.size + 1 + 1) 28 #[.int .i64 m.b1, .slice D1 m.z1.length E1, .int .i64 m.b2, .slice D2 m.z2.length E2, .int .i64 m.b3, .slice D3 m.z3.length E3, .int .i64 0] := by rw [hV]; exact (d2.set_ 4 _).set_ 5 _
  have hbV : Below w.heap.size w V3 := by rw [hV]; exact (by repeat (first | with_reducible exact hbw | with_reducible refine Below.setCell ?_ (by first | omega | (simp <;> omega)) _ | with_reducible refine Below.alloc ?_ (by first | omega | (simp <;> omega)) _ | with_reducible refine Below.drew ?_))
  have hzV3 : V3.heap.size = w3.heap.size := by rw [hV]; simp
  clear hV o3 e0 g0 g1 g2 g0f g1f g2f hbw
  have e0 := d0.at_ 6 rfl
  have g0 := d2.at_ 6 rfl
  have g0f := d2.thaw 6
  go_upto_region 6 with fail
  obtain ⟨V4, hV⟩ : ∃ V4, V4 = V3.setCell ⟨w.heap.size + 1 + 1, 6, none⟩ (.int .i64 m.p) := ⟨_, rfl⟩
  try rw [← hV]
  replace p1 : Own 2 V4 u.heap.size w1.heap.size (.slice D1 m.z1.length E1) m.z1 := by rw [hV]; exact p1.setCell (.inl (by simp; omega)) _
  replace p2 : Own 2 V4 V.heap.size w2.heap.size (.slice D2 m.z2.length E2) m.z2 := by rw [hV]; exact p2.setCell (.inl (by simp; omega)) _
  replace p3 : Own 2 V4 V2.heap.size w3.heap.size (.slice D3 m.z3.length E3) m.z3 := by rw [hV]; exact p3.setCell (.inl (by simp; omega)) _
  replace d1 : Bx V4 (w.heap.size + 1) 28 #[.int .i64 0, .slice none 0 0, .int .i64 0, .slice none 0 0, .int .i64 0, .slice none 0 0, .int .i64 0] := by rw [hV]; exact d1.far (by simp) _
  replace d2 : Bx V4 (w.heap.size + 1 + 1) 28 #[.int .i64 m.b1, .slice D1 m.z1.length E1, .int .i64 m.b2, .slice D2 m.z2.length E2, .int .i64 m.b3, .slice D3 m.z3.length E3, .int .i64 m.p] := by rw [hV]; exact d2.set_ 6 _
  replace hbV : Below w.heap.size w V4 := by rw [hV]; exact (by repeat (first | with_reducible exact hbV | with_reducible refine Below.setCell ?_ (by first | omega | (simp <;> omega)) _ | with_reducible refine Below.alloc ?_ (by first | omega | (simp <;> omega)) _ | with_reducible refine Below.drew ?_))
  have hzV4 : V4.heap.size = V3.heap.size := by rw [hV]; simp
  clear hV e0 g0 g0f
  have k0 := d2.at_ 0 rfl
  have k1 := d2.at_ 1 rfl
  have k2 := d2.at_ 2 rfl
  have k3 := d2.at_ 3 rfl
  have k4 := d2.at_ 4 rfl
  have k5 := d2.at_ 5 rfl
  have k6 := d2.at_ 6 rfl
  have j0 := d1.at_ 0 rfl
  have j1 := d1.at_ 1 rfl
  have j2 := d1.at_ 2 rfl
  have j3 := d1.at_ 3 rfl
  have j4 := d1.at_ 4 rfl
  have j5 := d1.at_ 5 rfl
  have j6 := d1.at_ 6 rfl
  have f0 := d1.thaw 0
  have f1 := d1.thaw 1
  have f2 := d1.thaw 2
  have f3 := d1.thaw 3
  have f4 := d1.thaw 4
  have f5 := d1.thaw 5
  have f6 := d1.thaw 6
  have hl := d1.lt
  have z0 : u.heap.size ≤ w1.heap.size := by omega
  have q0 : w.heap.size + 1 < u.heap.size := by omega
  have q1 : w.heap.size + 1 < V.heap.size := by omega
  have q2 : w.heap.size + 1 < V2.heap.size := by omega
  have HQ := Lib.hid (show w.heap.size ≤ u.heap.size ∧ w.heap.size ≤ V.heap.size ∧ w.heap.size ≤ V2.heap.size ∧ w1.heap.size ≤ V4.heap.size ∧ w2.heap.size ≤ V4.heap.size ∧ w3.heap.size ≤ V4.heap.size ∧ w1.heap.size ≤ V.heap.size ∧ V.heap.size ≤ w2.heap.size ∧ w2.heap.size ≤ V2.heap.size by omega)
  clear hz hzV hzV2 hzV3 hzV4 hs1 hs2 hs3 z0
  have bz : Bx (((((((V4.setCell ⟨w.heap.size + 1, 0, none⟩ (.int .i64 m.b1)).setCell ⟨w.heap.size + 1, 1, none⟩ (.slice D1 m.z1.length E1)).setCell ⟨w.heap.size + 1, 2, none⟩ (.int .i64 m.b2)).setCell ⟨w.heap.size + 1, 3, none⟩ (.slice D2 m.z2.length E2)).setCell ⟨w.heap.size + 1, 4, none⟩ (.int .i64 m.b3)).setCell ⟨w.heap.size + 1, 5, none⟩ (.slice D3 m.z3.length E3)).setCell ⟨w.heap.size + 1, 6, none⟩ (.int .i64 m.p)) (w.heap.size + 1) 28 #[.int .i64 m.b1, .slice D1 m.z1.length E1, .int .i64 m.b2, .slice D2 m.z2.length E2, .int .i64 m.b3, .slice D3 m.z3.length E3, .int .i64 m.p] := bx_put7 d1
  have r0 := bz.at_ 0 rfl
  have r1 := bz.at_ 1 rfl
  have r2 := bz.at_ 2 rfl
  have r3 := bz.at_ 3 rfl
  have r4 := bz.at_ 4 rfl
  have r5 := bz.at_ 5 rfl
  have r6 := bz.at_ 6 rfl
  clear bz
  go_wp2
  exact bodyPost_ret (v := .agg #[.int .i64 m.b1, .slice D1 m.z1.length E1, .int .i64 m.b2, .slice D2 m.z2.length E2, .int .i64 m.b3, .slice D3 m.z3.length E3, .int .i64 m.p]) (by simp [results, Tryd.results64, go_sem, r0, r1, r2, r3, r4, r5, r6]) rfl
    ⟨D1, E1, D2, E2, D3, E3, rfl, ⟨u.heap.size, w1.heap.size, V.heap.size, w2.heap.size, V2.heap.size, w3.heap.size, (((((((p1.setCell (p := ⟨w.heap.size + 1, 0, none⟩) (.inl (by assumption)) _).setCell (p := ⟨w.heap.size + 1, 1, none⟩) (.inl (by assumption)) _).setCell (p := ⟨w.heap.size + 1, 2, none⟩) (.inl (by assumption)) _).setCell (p := ⟨w.heap.size + 1, 3, none⟩) (.inl (by assumption)) _).setCell (p := ⟨w.heap.size + 1, 4, none⟩) (.inl (by assumption)) _).setCell (p := ⟨w.heap.size + 1, 5, none⟩) (.inl (by assumption)) _).setCell (p := ⟨w.heap.size + 1, 6, none⟩) (.inl (by assumption)) _), (((((((p2.setCell (p := ⟨w.heap.size + 1, 0, none⟩) (.inl (by assumption)) _).setCell (p := ⟨w.heap.size + 1, 1, none⟩) (.inl (by assumption)) _).setCell (p := ⟨w.heap.size + 1, 2, none⟩) (.inl (by assumption)) _).setCell (p := ⟨w.heap.size + 1, 3, none⟩) (.inl (by assumption)) _).setCell (p := ⟨w.heap.size + 1, 4, none⟩) (.inl (by assumption)) _).setCell (p := ⟨w.heap.size + 1, 5, none⟩) (.inl (by assumption)) _).setCell (p := ⟨w.heap.size + 1, 6, none⟩) (.inl (by assumption)) _), (((((((p3.setCell (p := ⟨w.heap.size + 1, 0, none⟩) (.inl (by assumption)) _).setCell (p := ⟨w.heap.size + 1, 1, none⟩) (.inl (by assumption)) _).setCell (p := ⟨w.heap.size + 1, 2, none⟩) (.inl (by assumption)) _).setCell (p := ⟨w.heap.size + 1, 3, none⟩) (.inl (by assumption)) _).setCell (p := ⟨w.heap.size + 1, 4, none⟩) (.inl (by assumption)) _).setCell (p := ⟨w.heap.size + 1, 5, none⟩) (.inl (by assumption)) _).setCell (p := ⟨w.heap.size + 1, 6, none⟩) (.inl (by assumption)) _), by have := HQ.out; simp; omega⟩, (by repeat (first | with_reducible exact hbV | with_reducible refine Below.setCell ?_ (by first | omega | (simp <;> omega)) _ | with_reducible refine Below.alloc ?_ (by first | omega | (simp <;> omega)) _ | with_reducible refine Below.drew ?_))⟩

set_option maxHeartbeats 1000000 in
theorem szMachine_any (b1 : Int) (a1 : Option Addr) (n1 c1 : Nat) (b2 : Int) (a2 : Option Addr) (n2 c2 : Nat) (b3 : Int) (a3 : Option Addr) (n3 c3 : Nat) (p left : Int) (w : World) (hn : n1 ≤ 9223372036854775807 ∧ n2 ≤ 9223372036854775807 ∧ n3 ≤ 9223372036854775807) (hl : 0 ≤ left) (hl' : left ≤ 1048576) :
    Calls Tryd.prog 63 #[.agg #[.int .i64 b1, .slice a1 n1 c1, .int .i64 b2, .slice a2 n2 c2, .int .i64 b3, .slice a3 n3 c3, .int .i64 p], .int .i64 left] w fun e w' => e = .returned (.int .i64 (leftOf (n1 + n2 + n3) left)) ∧ Below w.heap.size w w' := by
  obtain ⟨u, hu⟩ : ∃ u, u = w.alloc (.cells #[.int .i64 b1, .slice a1 n1 c1, .int .i64 b2, .slice a2 n2 c2, .int .i64 b3, .slice a3 n3 c3, .int .i64 p] 72) := ⟨_, rfl⟩
  have bx : Bx u w.heap.size 72 #[.int .i64 b1, .slice a1 n1 c1, .int .i64 b2, .slice a2 n2 c2, .int .i64 b3, .slice a3 n3 c3, .int .i64 p] := by rw [hu]; exact Bx.new _ _ _
  have hbel : Below w.heap.size w u := by rw [hu]; exact (by repeat (first | exact Below.refl _ _ | refine Below.setCell ?_ (by first | omega | (simp <;> omega)) _ | refine Below.alloc ?_ (by first | omega | (simp <;> omega)) _ | refine Below.drew ?_))
  have HU := Lib.hid hu
  clear hu
  rcases Int.lt_or_le (left - (n1 : Int)) 0 with h | h
  · have HN := Lib.hid (szRegister_any b1 a1 n1 c1 left u hn.1 hl hl')
    rw [show leftOf n1 left = -1 by rw [leftOf, if_pos h]] at HN
    have HE := Lib.hid (show leftOf (n1 + n2 + n3) left = -1 by rw [leftOf, if_pos (by omega)])
    go_enter Tryd.func63, Tryd.ntmps63
    go_wp2_with fail
    rw [← HU.out]
    refine HN.out.mono ?_
    rintro e w1 ⟨rfl, hb⟩
    go_wp2
    go_ret
    exact ⟨ret_int HE.out.symm, hbel.trans (hb.mono hbel.size)⟩
  · have HN := Lib.hid (szRegister_any b1 a1 n1 c1 left u hn.1 hl hl')
    rw [show leftOf n1 left = left - n1 by rw [leftOf, if_neg (by omega)]] at HN
    rcases Int.lt_or_le (left - (n1 : Int) - (n2 : Int)) 0 with h2 | h2
    · have HM := Lib.hid (fun v => szRegister_any b2 a2 n2 c2 (left - n1) v hn.2.1 h (by omega))
      rw [show leftOf n2 (left - n1) = -1 by rw [leftOf, if_pos h2]] at HM
      have HE := Lib.hid (show leftOf (n1 + n2 + n3) left = -1 by rw [leftOf, if_pos (by omega)])
      go_enter Tryd.func63, Tryd.ntmps63
      go_wp2_with fail
      rw [← HU.out]
      refine HN.out.mono ?_
      rintro e w1 ⟨rfl, hb⟩
      replace bx := bx.below hb
      replace hbel := hbel.trans (hb.mono hbel.size)
      clear hb
      have c2 := bx.at_ 2 rfl
      have c3 := bx.at_ 3 rfl
      go_wp2_with fail
      refine (HM.out w1).mono ?_
      rintro e w2 ⟨rfl, hb⟩
      go_wp2
      go_ret
      exact ⟨ret_int HE.out.symm, hbel.trans (hb.mono hbel.size)⟩
    · have HM := Lib.hid (fun v => szRegister_any b2 a2 n2 c2 (left - n1) v hn.2.1 h (by omega))
      rw [show leftOf n2 (left - n1) = left - n1 - n2 by rw [leftOf, if_neg (by omega)]] at HM
      have HK := Lib.hid (fun v => szRegister_any b3 a3 n3 c3 (left - n1 - n2) v hn.2.2 h2 (by omega))
      have HE := Lib.hid (show leftOf n3 (left - n1 - n2) = leftOf (n1 + n2 + n3) left by unfold leftOf; split <;> split <;> omega)
      rw [HE.out] at HK
      rcases Int.lt_or_le (leftOf (n1 + n2 + n3) left) 0 with h3 | h3
      all_goals
        have HF := Lib.hid (show leftOf (n1 + n2 + n3) left < 0 → leftOf (n1 + n2 + n3) left = -1 by unfold leftOf; split <;> omega)
        go_enter Tryd.func63, Tryd.ntmps63
        go_wp2_with fail
        rw [← HU.out]
        refine HN.out.mono ?_
        rintro e w1 ⟨rfl, hb⟩
        replace bx := bx.below hb
        replace hbel := hbel.trans (hb.mono hbel.size)
        clear hb
        have c2 := bx.at_ 2 rfl
        have c3 := bx.at_ 3 rfl
        go_wp2_with fail
        refine (HM.out w1).mono ?_
        rintro e w2 ⟨rfl, hb⟩
        replace bx := bx.below hb
        replace hbel := hbel.trans (hb.mono hbel.size)
        clear hb c2 c3
        have c4 := bx.at_ 4 rfl
        have c5 := bx.at_ 5 rfl
        go_wp2_with fail
        refine (HK.out w2).mono ?_
        rintro e w3 ⟨rfl, hb⟩
        go_wp2
        go_ret
        exact ⟨ret_int (by first | exact rfl | exact (HF.out h3).symm), hbel.trans (hb.mono hbel.size)⟩

set_option maxHeartbeats 2000000 in
theorem eqMachine_any (m n : Mac) (A1 : Option Addr) (C1 : Nat) (A2 : Option Addr) (C2 : Nat) (A3 : Option Addr) (C3 : Nat) (D1 : Option Addr) (E1 : Nat) (D2 : Option Addr) (E2 : Nat) (D3 : Option Addr) (E3 : Nat) (w : World) (h : Rd3 w A1 m.z1 A2 m.z2 A3 m.z3) (k : Rd3 w D1 n.z1 D2 n.z2 D3 n.z3) :
    Calls Tryd.prog 60 #[.agg #[.int .i64 m.b1, .slice A1 m.z1.length C1, .int .i64 m.b2, .slice A2 m.z2.length C2, .int .i64 m.b3, .slice A3 m.z3.length C3, .int .i64 m.p], .agg #[.int .i64 n.b1, .slice D1 n.z1.length E1, .int .i64 n.b2, .slice D2 n.z2.length E2, .int .i64 n.b3, .slice D3 n.z3.length E3, .int .i64 n.p]] w fun e w' => e = .returned (.bool (macEqB m n)) ∧ Below w.heap.size w w' := by
  obtain ⟨u, hu⟩ : ∃ u, u = (w.alloc (.cells #[.int .i64 m.b1, .slice A1 m.z1.length C1, .int .i64 m.b2, .slice A2 m.z2.length C2, .int .i64 m.b3, .slice A3 m.z3.length C3, .int .i64 m.p] 28)).alloc (.cells #[.int .i64 n.b1, .slice D1 n.z1.length E1, .int .i64 n.b2, .slice D2 n.z2.length E2, .int .i64 n.b3, .slice D3 n.z3.length E3, .int .i64 n.p] 28) := ⟨_, rfl⟩
  have bx : Bx u w.heap.size 28 #[.int .i64 m.b1, .slice A1 m.z1.length C1, .int .i64 m.b2, .slice A2 m.z2.length C2, .int .i64 m.b3, .slice A3 m.z3.length C3, .int .i64 m.p] := by rw [hu]; exact (Bx.new _ _ _).alloc _
  have by_ : Bx u (w.heap.size + 1) 28 #[.int .i64 n.b1, .slice D1 n.z1.length E1, .int .i64 n.b2, .slice D2 n.z2.length E2, .int .i64 n.b3, .slice D3 n.z3.length E3, .int .i64 n.p] := by rw [hu]; simpa using Bx.new (w.alloc (.cells #[.int .i64 m.b1, .slice A1 m.z1.length C1, .int .i64 m.b2, .slice A2 m.z2.length C2, .int .i64 m.b3, .slice A3 m.z3.length C3, .int .i64 m.p] 28)) #[.int .i64 n.b1, .slice D1 n.z1.length E1, .int .i64 n.b2, .slice D2 n.z2.length E2, .int .i64 n.b3, .slice D3 n.z3.length E3, .int .i64 n.p] 28
  have hbel : Below w.heap.size w u := by rw [hu]; exact (by repeat (first | exact Below.refl _ _ | refine Below.setCell ?_ (by first | omega | (simp <;> omega)) _ | refine Below.alloc ?_ (by first | omega | (simp <;> omega)) _ | refine Below.drew ?_))
  replace h := h.below hbel
  replace k := k.below hbel
  have H1 := Lib.hid (eqRegister_any m.b1 n.b1 A1 D1 C1 E1 m.z1 n.z1 u h.x k.x)
  have H2 := Lib.hid (fun (v : World) (hb : Below u.heap.size u v) => eqRegister_any m.b2 n.b2 A2 D2 C2 E2 m.z2 n.z2 v (h.y.below hb) (k.y.below hb))
  have H3 := Lib.hid (fun (v : World) (hb : Below u.heap.size u v) => eqRegister_any m.b3 n.b3 A3 D3 C3 E3 m.z3 n.z3 v (h.z.below hb) (k.z.below hb))
  have HE := Lib.hid (show macEqB m n = (regEqB m.b1 n.b1 m.z1 n.z1 && (regEqB m.b2 n.b2 m.z2 n.z2 && (regEqB m.b3 n.b3 m.z3 n.z3 && decide (m.p = n.p)))) from rfl)
  have HU := Lib.hid hu
  clear hu h k
  cases q1 : regEqB m.b1 n.b1 m.z1 n.z1 with
  | false =>
    rw [q1] at H1 HE
    go_enter Tryd.func60, Tryd.ntmps60
    go_wp2_with fail
    rw [← HU.out]
    refine H1.out.mono ?_
    rintro e w1 ⟨rfl, hb⟩
    go_wp2
    go_ret
    exact ⟨ret_bool (by rw [HE.out]; rfl), hbel.trans (hb.mono hbel.size)⟩
  | true =>
    rw [q1] at H1 HE
    cases q2 : regEqB m.b2 n.b2 m.z2 n.z2 with
    | false =>
      rw [q2] at H2 HE
      go_enter Tryd.func60, Tryd.ntmps60
      go_wp2_with fail
      rw [← HU.out]
      refine H1.out.mono ?_
      rintro e w1 ⟨rfl, hb⟩
      have c0 := (bx.below hb).at_ 2 rfl
      have c1 := (bx.below hb).at_ 3 rfl
      have d0 := (by_.below hb).at_ 2 rfl
      have d1 := (by_.below hb).at_ 3 rfl
      go_wp2_with fail
      refine (H2.out w1 hb).mono ?_
      rintro e w2 ⟨rfl, hb2⟩
      go_wp2
      go_ret
      exact ⟨ret_bool (by rw [HE.out]; rfl), hbel.trans ((hb.trans (hb2.mono hb.size)).mono hbel.size)⟩
    | true =>
      rw [q2] at H2 HE
      cases q3 : regEqB m.b3 n.b3 m.z3 n.z3 with
      | false =>
        rw [q3] at H3 HE
        go_enter Tryd.func60, Tryd.ntmps60
        go_wp2_with fail
        rw [← HU.out]
        refine H1.out.mono ?_
        rintro e w1 ⟨rfl, hb⟩
        have c0 := (bx.below hb).at_ 2 rfl
        have c1 := (bx.below hb).at_ 3 rfl
        have d0 := (by_.below hb).at_ 2 rfl
        have d1 := (by_.below hb).at_ 3 rfl
        go_wp2_with fail
        refine (H2.out w1 hb).mono ?_
        rintro e w2 ⟨rfl, hb2⟩
        replace hb := hb.trans (hb2.mono hb.size)
        clear hb2 c0 c1 d0 d1
        have c0 := (bx.below hb).at_ 4 rfl
        have c1 := (bx.below hb).at_ 5 rfl
        have d0 := (by_.below hb).at_ 4 rfl
        have d1 := (by_.below hb).at_ 5 rfl
        go_wp2_with fail
        refine (H3.out w2 hb).mono ?_
        rintro e w3 ⟨rfl, hb2⟩
        go_wp2
        go_ret
        exact ⟨ret_bool (by rw [HE.out]; rfl), hbel.trans ((hb.trans (hb2.mono hb.size)).mono hbel.size)⟩
      | true =>
        rw [q3] at H3 HE
        cases q4 : decide (m.p = n.p)
        all_goals
          have hbe : (m.p != n.p) = !(decide (m.p = n.p)) := rfl
          rw [q4] at HE hbe
          simp only [Bool.not_true, Bool.not_false] at hbe
          clear q1 q2 q3 q4
          go_enter Tryd.func60, Tryd.ntmps60
          go_wp2_with fail
          rw [← HU.out]
          refine H1.out.mono ?_
          rintro e w1 ⟨rfl, hb⟩
          have c0 := (bx.below hb).at_ 2 rfl
          have c1 := (bx.below hb).at_ 3 rfl
          have d0 := (by_.below hb).at_ 2 rfl
          have d1 := (by_.below hb).at_ 3 rfl
          go_wp2_with fail
          refine (H2.out w1 hb).mono ?_
          rintro e w2 ⟨rfl, hb2⟩
          replace hb := hb.trans (hb2.mono hb.size)
          clear hb2 c0 c1 d0 d1
          have c0 := (bx.below hb).at_ 4 rfl
          have c1 := (bx.below hb).at_ 5 rfl
          have d0 := (by_.below hb).at_ 4 rfl
          have d1 := (by_.below hb).at_ 5 rfl
          go_wp2_with fail
          refine (H3.out w2 hb).mono ?_
          rintro e w3 ⟨rfl, hb2⟩
          replace hb := hb.trans (hb2.mono hb.size)
          clear hb2 c0 c1 d0 d1
          have c0 := (bx.below hb).at_ 6 rfl
          have d0 := (by_.below hb).at_ 6 rfl
          go_wp2
          go_ret
          exact ⟨ret_bool (by rw [HE.out]; rfl), hbel.trans (hb.mono hbel.size)⟩

set_option maxHeartbeats 1000000 in
theorem markMachine_any (t : TypeId) (lo hi : Nat) (m : Mac) (A1 : Option Addr) (C1 : Nat) (A2 : Option Addr) (C2 : Nat) (A3 : Option Addr) (C3 : Nat) (k : Int) (w : World) (ho : Own3 t w lo hi (.slice A1 m.z1.length C1) m.z1 (.slice A2 m.z2.length C2) m.z2 (.slice A3 m.z3.length C3) m.z3) (h0 : 0 ≤ k) (h1 : k ≤ 900000000000) :
    Calls Tryd.prog 61 #[.agg #[.int .i64 m.b1, .slice A1 m.z1.length C1, .int .i64 m.b2, .slice A2 m.z2.length C2, .int .i64 m.b3, .slice A3 m.z3.length C3, .int .i64 m.p], .int .i64 k] w fun e w' => e = .returned (.int .i64 (k + ((m.z1.length : Int) + (m.z2.length : Int) + (m.z3.length : Int)))) ∧
      Own3 t w' lo hi (.slice A1 m.z1.length C1) (seqI k m.z1.length) (.slice A2 m.z2.length C2) (seqI (k + m.z1.length) m.z2.length) (.slice A3 m.z3.length C3) (seqI (k + m.z1.length + m.z2.length) m.z3.length) ∧ Touch lo hi w w' := by
  obtain ⟨l1, u1, l2, u2, l3, u3, o1, o2, o3, s1, s2, s3, s4, s5, s6, s7, s8, s9⟩ := ho.ex
  replace o1 := o1.tight
  replace o2 := o2.tight
  replace o3 := o3.tight
  obtain ⟨v1, hv1⟩ : ∃ v, v = min u1 w.heap.size := ⟨_, rfl⟩
  obtain ⟨v2, hv2⟩ : ∃ v, v = min u2 w.heap.size := ⟨_, rfl⟩
  obtain ⟨v3, hv3⟩ : ∃ v, v = min u3 w.heap.size := ⟨_, rfl⟩
  rw [← hv1] at o1
  rw [← hv2] at o2
  rw [← hv3] at o3
  have s2' : v1 ≤ hi := by omega
  have s4' : v2 ≤ hi := by omega
  have s6' : v3 ≤ hi := by omega
  have s7' : v1 ≤ l2 ∨ v2 ≤ l1 := by omega
  have s8' : v1 ≤ l3 ∨ v3 ≤ l1 := by omega
  have s9' : v2 ≤ l3 ∨ v3 ≤ l2 := by omega
  have t1 : v1 ≤ w.heap.size := by omega
  have t2 : v2 ≤ w.heap.size := by omega
  have e1 := o1.len
  have e2 := o2.len
  have e3 := o3.len
  clear hv1 hv2 hv3 s2 s4 s6 s7 s8 s9 ho
  obtain ⟨u, hu⟩ : ∃ u, u = w.alloc (.cells #[.int .i64 m.b1, .slice A1 m.z1.length C1, .int .i64 m.b2, .slice A2 m.z2.length C2, .int .i64 m.b3, .slice A3 m.z3.length C3, .int .i64 m.p] 28) := ⟨_, rfl⟩
  have bx : Bx u w.heap.size 28 #[.int .i64 m.b1, .slice A1 m.z1.length C1, .int .i64 m.b2, .slice A2 m.z2.length C2, .int .i64 m.b3, .slice A3 m.z3.length C3, .int .i64 m.p] := by rw [hu]; exact Bx.new _ _ _
  replace o1 : Own t u l1 v1 (.slice A1 m.z1.length C1) m.z1 := by rw [hu]; exact o1.alloc _
  replace o2 : Own t u l2 v2 (.slice A2 m.z2.length C2) m.z2 := by rw [hu]; exact o2.alloc _
  replace o3 : Own t u l3 v3 (.slice A3 m.z3.length C3) m.z3 := by rw [hu]; exact o3.alloc _
  have ht0 : Touch lo hi w u := by rw [hu]; exact (Touch.refl _ _ _).alloc _
  have HU := Lib.hid hu
  clear hu
  go_enter Tryd.func61, Tryd.ntmps61
  go_wp2_with fail
  rw [← HU.out]
  refine (markRegister_any t l1 v1 m.b1 A1 C1 k m.z1 u o1 h0 (by omega)).mono ?_
  rintro e w1 ⟨rfl, p1, ht1⟩
  have ht2 : Touch lo hi w w1 := ht0.trans (ht1.widen s1 s2')
  replace o2 := o2.touch ht1 (by omega)
  replace o3 := o3.touch ht1 (by omega)
  replace bx := bx.touch ht1 (.inr t1)
  have c2 := bx.at_ 2 rfl
  have c3 := bx.at_ 3 rfl
  clear ht0 ht1 o1
  go_wp2_with fail
  refine (markRegister_any t l2 v2 m.b2 A2 C2 (k + (m.z1.length : Int)) m.z2 w1 o2 (by omega) (by omega)).mono ?_
  rintro e w2 ⟨rfl, p2, ht3⟩
  replace p1 := p1.touch ht3 (by omega)
  replace o3 := o3.touch ht3 (by omega)
  replace bx := bx.touch ht3 (.inr t2)
  replace ht2 := ht2.trans (ht3.widen s3 s4')
  clear c2 c3 ht3 o2
  have c4 := bx.at_ 4 rfl
  have c5 := bx.at_ 5 rfl
  go_wp2_with fail
  refine (markRegister_any t l3 v3 m.b3 A3 C3 (k + (m.z1.length : Int) + (m.z2.length : Int)) m.z3 w2 o3 (by omega) (by omega)).mono ?_
  rintro e w3 ⟨rfl, p3, ht3⟩
  replace p1 := p1.touch ht3 (by omega)
  replace p2 := p2.touch ht3 (by omega)
  replace ht2 := ht2.trans (ht3.widen s5 s6')
  go_wp2
  go_ret
  exact ⟨ret_int (by omega), ⟨l1, v1, l2, v2, l3, v3, p1, p2, p3, s1, s2', s3, s4', s5, s6', s7', s8', s9'⟩, ht2⟩

set_option maxHeartbeats 1000000 in
theorem heldMachine_any (m : Mac) (A1 : Option Addr) (C1 : Nat) (A2 : Option Addr) (C2 : Nat) (A3 : Option Addr) (C3 : Nat) (k : Int) (n1 n2 n3 : Nat) (w : World) (ha : Rd3 w A1 (seqI k n1) A2 (seqI (k + n1) n2) A3 (seqI (k + n1 + n2) n3)) (h0 : 0 ≤ k) (h1 : k ≤ 900000000000) :
    Calls Tryd.prog 62 #[.agg #[.int .i64 m.b1, .slice A1 n1 C1, .int .i64 m.b2, .slice A2 n2 C2, .int .i64 m.b3, .slice A3 n3 C3, .int .i64 m.p], .int .i64 k] w fun e w' => e = .returned (.int .i64 (k + ((n1 : Int) + (n2 : Int) + (n3 : Int)))) ∧ Below w.heap.size w w' := by
  have hl := ha.len
  rw [seqI_len, seqI_len, seqI_len] at hl
  obtain ⟨u, hu⟩ : ∃ u, u = w.alloc (.cells #[.int .i64 m.b1, .slice A1 n1 C1, .int .i64 m.b2, .slice A2 n2 C2, .int .i64 m.b3, .slice A3 n3 C3, .int .i64 m.p] 28) := ⟨_, rfl⟩
  have bx : Bx u w.heap.size 28 #[.int .i64 m.b1, .slice A1 n1 C1, .int .i64 m.b2, .slice A2 n2 C2, .int .i64 m.b3, .slice A3 n3 C3, .int .i64 m.p] := by rw [hu]; exact Bx.new _ _ _
  have hbel : Below w.heap.size w u := by rw [hu]; exact (by repeat (first | exact Below.refl _ _ | refine Below.setCell ?_ (by first | omega | (simp <;> omega)) _ | refine Below.alloc ?_ (by first | omega | (simp <;> omega)) _ | refine Below.drew ?_))
  replace ha := ha.below hbel
  have HU := Lib.hid hu
  clear hu
  go_enter Tryd.func62, Tryd.ntmps62
  go_wp2_with fail
  rw [← HU.out]
  refine (heldRegister_any m.b1 A1 C1 k n1 u ha.x h0 (by omega)).mono ?_
  rintro e w1 ⟨rfl, hb⟩
  replace bx := bx.below hb
  replace ha := ha.below hb
  replace hbel := hbel.trans (hb.mono hbel.size)
  clear hb
  have c2 := bx.at_ 2 rfl
  have c3 := bx.at_ 3 rfl
  go_wp2_with fail
  refine (heldRegister_any m.b2 A2 C2 (k + n1) n2 w1 ha.y (by omega) (by omega)).mono ?_
  rintro e w2 ⟨rfl, hb⟩
  replace bx := bx.below hb
  replace ha := ha.below hb
  replace hbel := hbel.trans (hb.mono hbel.size)
  clear hb c2 c3
  have c4 := bx.at_ 4 rfl
  have c5 := bx.at_ 5 rfl
  go_wp2_with fail
  refine (heldRegister_any m.b3 A3 C3 (k + n1 + n2) n3 w2 ha.z (by omega) (by omega)).mono ?_
  rintro e w3 ⟨rfl, hb⟩
  go_wp2
  go_ret
  exact ⟨ret_int (by omega), hbel.trans (hb.mono hbel.size)⟩
end Go.Proofs.YtlahobdopmdfmaaDoor

/- RegO -/
namespace Go.Proofs.YtlahobdopmdfmaaDoor
open Go.RowKit

set_option maxHeartbeats 1000000 in
theorem l02Ok_off (p o : Nat) (b : Int) (a : Option Addr) (c : Nat) (zs : List Int) (w : World) (ha : Rd w a zs) (hp0 : w.cell? ⟨p, o, none⟩ = some (.int .i64 b)) (hp1 : w.cell? ⟨p, o + 1, none⟩ = some (.slice a zs.length c)) :
    Calls Tryd.prog 96 #[.pointer (some ⟨p, o, none⟩)] w fun e w' => e = .returned (.bool (okB b zs)) ∧ ∃ n, w' = w.drewN n := by
  cases hb : baseB b with
  | false =>
    have HO := Lib.hid (show okB b zs = false by simp [okB, hb])
    have HB := Lib.hid (show ∀ n, Calls Tryd.prog 133 #[.int .i64 b] (w.drewN n) fun e w' => e = .returned (.bool false) ∧ w' = w.drewN n from fun n => by rw [← hb]; exact l02Base_any b _)
    clear hb
    go_enter Tryd.func96, Tryd.ntmps96
    go_wp2
    go_quiet ((go_at_call 133; exact Calls.quiet_of_same (HB.out _)))
    go_wp2
    go_ret
    exact ⟨ret_bool (by rw [HO.out]), _, rfl⟩
  | true =>
    obtain ⟨hb1, hb2⟩ := baseB_true hb
    have HB := Lib.hid (show ∀ n, Calls Tryd.prog 133 #[.int .i64 b] (w.drewN n) fun e w' => e = .returned (.bool true) ∧ w' = w.drewN n from fun n => by rw [← hb]; exact l02Base_any b _)
    cases hd : digitsB b zs && widthB zs.length with
    | false =>
      have HO := Lib.hid (show okB b zs = false by simp at hd; simp [okB, hb]; intro h1 h2; rw [hd h2] at h1; cases h1)
      have HD2 := Lib.hid (show ∀ n, Calls Tryd.prog 157 #[.int .i64 b, .slice a zs.length c] (w.drewN n) fun e w' => e = .returned (.bool false) ∧ w' = w.drewN n from fun n => by rw [← hd]; exact l02Digits_any b a c zs _ (ha.drewN _) hb1 hb2)
      clear hb hd
      go_enter Tryd.func96, Tryd.ntmps96
      go_wp2
      go_quiet (first | (go_at_call 133; exact Calls.quiet_of_same (HB.out _)) | (go_at_call 157; exact Calls.quiet_of_same (HD2.out _)))
      go_wp2
      go_ret
      exact ⟨ret_bool (by rw [HO.out]), _, rfl⟩
    | true =>
      have HD : ∀ d ∈ zs, 0 ≤ d ∧ d < b := digitsB_true (by simp at hd; exact hd.1)
      have HO := Lib.hid (show okB b zs = decide (capV b zs ≤ 1000000000000) by simp at hd; simp [okB, hb, hd, capV_le hb1 HD])
      have HE := Lib.hid HD
      have HD2 := Lib.hid (show ∀ n, Calls Tryd.prog 157 #[.int .i64 b, .slice a zs.length c] (w.drewN n) fun e w' => e = .returned (.bool true) ∧ w' = w.drewN n from fun n => by rw [← hd]; exact l02Digits_any b a c zs _ (ha.drewN _) hb1 hb2)
      clear HD hb hd
      cases hv : decide (capV b zs ≤ 1000000000000)
      all_goals
        rw [hv] at HO
        go_enter Tryd.func96, Tryd.ntmps96
        go_wp2
        go_quiet (first | (go_at_call 133; exact Calls.quiet_of_same (HB.out _)) | (go_at_call 157; exact Calls.quiet_of_same (HD2.out _)) | (go_at_call 97; exact Calls.quiet_of_same (l02Value_any _ _ _ _ _ (ha.drewN _) hb1 hb2 HE.out)))
        go_wp2
        go_ret
        exact ⟨ret_bool (by rw [HO.out]), _, rfl⟩

set_option maxHeartbeats 400000 in
theorem l02Same_off (p o q r : Nat) (B D : Int) (a b : Option Addr) (c d : Nat) (xs ys : List Int) (w : World) (ha : Rd w a xs) (hb : Rd w b ys)
    (hp0 : w.cell? ⟨p, o, none⟩ = some (.int .i64 B)) (hp1 : w.cell? ⟨p, o + 1, none⟩ = some (.slice a xs.length c)) (hq0 : w.cell? ⟨q, r, none⟩ = some (.int .i64 D)) (hq1 : w.cell? ⟨q, r + 1, none⟩ = some (.slice b ys.length d)) :
    Calls Tryd.prog 120 #[.pointer (some ⟨p, o, none⟩), .pointer (some ⟨q, r, none⟩)] w fun e w' => e = .returned (.bool (regEqB B D xs ys)) ∧ ∃ n, w' = w.drewN n := by
  by_cases h : B = D
  · have hbe : (B == D) = true := by simp [h]
    have H := Lib.hid h
    clear h
    go_enter Tryd.func120, Tryd.ntmps120
    go_wp2
    go_quiet ((go_at_call 165; exact Calls.quiet_of (l00Same_any _ _ _ _ _ _ _ (ha.drewN _) (hb.drewN _))))
    go_wp2
    go_ret
    exact ⟨ret_bool (by simp [regEqB, H.out]), _, rfl⟩
  · have hbe : (B == D) = false := by simp [h]
    have H := Lib.hid h
    clear h
    go_enter Tryd.func120, Tryd.ntmps120
    go_wp2
    go_quiet (fail)
    go_wp2
    go_ret
    exact ⟨ret_bool (by simp [regEqB, H.out]), _, rfl⟩


theorem l02Ok_atO {v : Bool} (p o : Nat) (b : Int) (a : Option Addr) (c : Nat) (zs : List Int) (w : World) (hv : okB b zs = v) (ha : Rd w a zs) (hp0 : w.cell? ⟨p, o, none⟩ = some (.int .i64 b)) (hp1 : w.cell? ⟨p, o + 1, none⟩ = some (.slice a zs.length c)) :
    Calls Tryd.prog 96 #[.pointer (some ⟨p, o, none⟩)] w fun e w' => e = .returned (.bool v) ∧ Below w.heap.size w w' := by
  subst hv
  exact (l02Ok_off p o b a c zs w ha hp0 hp1).mono fun e w' ⟨h1, m, h2⟩ => ⟨h1, by rw [h2]; exact bel_drewN (Below.refl _ _) m⟩
theorem l02Same_atO {v : Bool} (p o q r : Nat) (B D : Int) (a b : Option Addr) (c d : Nat) (xs ys : List Int) (w : World) (hv : regEqB B D xs ys = v) (ha : Rd w a xs) (hb : Rd w b ys)
    (hp0 : w.cell? ⟨p, o, none⟩ = some (.int .i64 B)) (hp1 : w.cell? ⟨p, o + 1, none⟩ = some (.slice a xs.length c)) (hq0 : w.cell? ⟨q, r, none⟩ = some (.int .i64 D)) (hq1 : w.cell? ⟨q, r + 1, none⟩ = some (.slice b ys.length d)) :
    Calls Tryd.prog 120 #[.pointer (some ⟨p, o, none⟩), .pointer (some ⟨q, r, none⟩)] w fun e w' => e = .returned (.bool v) ∧ Below w.heap.size w w' := by
  subst hv
  exact (l02Same_off p o q r B D a b c d xs ys w ha hb hp0 hp1 hq0 hq1).mono fun e w' ⟨h1, m, h2⟩ => ⟨h1, by rw [h2]; exact bel_drewN (Below.refl _ _) m⟩
end Go.Proofs.YtlahobdopmdfmaaDoor

/- FrameM -/
namespace Go.Proofs.YtlahobdopmdfmaaDoor
open Go.ChangeShapes Go.WideShapes Go.ChangeAt Go.RowKit Go.Joins

theorem array7 {α : Type} {cs : Array α} (h : cs.size = 7) : ∃ c0 c1 c2 c3 c4 c5 c6, cs = #[c0, c1, c2, c3, c4, c5, c6] := by
  obtain ⟨l⟩ := cs
  match l, h with
  | [c0, c1, c2, c3, c4, c5, c6], _ => exact ⟨c0, c1, c2, c3, c4, c5, c6, rfl⟩

section
variable {H : Type} {enc : TypeId × Value → H} {W : World} {base : Nat} {v : Value} {d : DataW H} {p : List MemPlace}

set_option maxRecDepth 100000 in
theorem reg_of_trod {fuel : Nat} {c0 c1 : Value} {y : DataW H × List MemPlace} (h : DataW.trod enc Tryd.prog W 0 (fun _ => true) true fuel 70 [c0, c1] = some y) :
    ∃ B A C Z, c0 = .int .i64 B ∧ c1 = .slice A (List.length Z) C ∧ Raw W A Z ∧ I64 B := by
  obtain ⟨y0, y1, n, _, _, h0, h1⟩ := trod_struct2 Tryd.underlying70 h
  rw [cells_int64] at h0
  rw [show Tryd.prog.cellsOf 24 = 1 by kernel_rfl] at h1
  obtain ⟨B, e0, rfl, wB⟩ := DataW.trod_int Tryd.underlying2 h0
  obtain ⟨A, C, Z, e1, hr⟩ := raw_of_trod (v := c1) (by simpa using h1)
  simp at e0
  exact ⟨B, A, C, Z, e0, e1, hr, wB⟩

set_option maxRecDepth 100000 in
theorem open_Machine (hval : Value.okWide Tryd.prog W .any base 72 v) (h : DataW.Trod enc Tryd.prog W 0 (fun _ => true) true 72 v d p) :
    ∃ (m : Mac) (A1 : Option Addr) (C1 : Nat) (A2 : Option Addr) (C2 : Nat) (A3 : Option Addr) (C3 : Nat), v = .agg #[.int .i64 m.b1, .slice A1 m.z1.length C1, .int .i64 m.b2, .slice A2 m.z2.length C2, .int .i64 m.b3, .slice A3 m.z3.length C3, .int .i64 m.p] ∧ Raw3 W A1 m.z1 A2 m.z2 A3 m.z3 ∧ (I64 m.b1 ∧ I64 m.b2 ∧ I64 m.b3 ∧ I64 m.p) := by
  obtain ⟨cs, rfl, hsz⟩ := okWide_struct Tryd.underlying72 hval
  obtain ⟨c0, c1, c2, c3, c4, c5, c6, rfl⟩ := array7 (hsz.trans (by kernel_rfl))
  obtain ⟨fuel, hf⟩ := h
  obtain ⟨y0, y1, y2, y3, n, _, _, h0, h1, h2, h3⟩ := trod_struct4 Tryd.underlying72 hf
  rw [cells_Register] at h0 h1 h2
  rw [cells_int64] at h3
  obtain ⟨B1, A1, C1, Z1, rfl, rfl, r1, w1⟩ := reg_of_trod (c0 := c0) (c1 := c1) (by simpa [Value.cells] using h0)
  obtain ⟨B2, A2, C2, Z2, rfl, rfl, r2, w2⟩ := reg_of_trod (c0 := c2) (c1 := c3) (by simpa [Value.cells] using h1)
  obtain ⟨B3, A3, C3, Z3, rfl, rfl, r3, w3⟩ := reg_of_trod (c0 := c4) (c1 := c5) (by simpa [Value.cells] using h2)
  obtain ⟨P, e0, _, wP⟩ := DataW.trod_int Tryd.underlying2 h3
  simp [Value.cells] at e0
  subst e0
  exact ⟨⟨B1, Z1, B2, Z2, B3, Z3, P⟩, A1, C1, A2, C2, A3, C3, rfl, ⟨r1, r2, r3⟩, w1, w2, w3, wP⟩
end
end Go.Proofs.YtlahobdopmdfmaaDoor

/- BoxMac -/
namespace Go.Proofs.YtlahobdopmdfmaaDoor
open Go.RowKit

/-- s leads to a box that holds the machine; what it owns lies elsewhere. -/
def BoxMac (W : World) (m : Mac) (s : Value) (wx : World) : Prop := ∃ (g : Nat) (A1 : Option Addr) (C1 : Nat) (A2 : Option Addr) (C2 : Nat) (A3 : Option Addr) (C3 : Nat) (lo hi : Nat), s = .pointer (some ⟨g, 0, none⟩) ∧
  wx.cell? ⟨g, 0, none⟩ = some (.int .i64 m.b1) ∧ wx.cell? ⟨g, 1, none⟩ = some (.slice A1 m.z1.length C1) ∧ wx.cell? ⟨g, 2, none⟩ = some (.int .i64 m.b2) ∧ wx.cell? ⟨g, 3, none⟩ = some (.slice A2 m.z2.length C2) ∧ wx.cell? ⟨g, 4, none⟩ = some (.int .i64 m.b3) ∧ wx.cell? ⟨g, 5, none⟩ = some (.slice A3 m.z3.length C3) ∧ wx.cell? ⟨g, 6, none⟩ = some (.int .i64 m.p) ∧ Own3 2 wx lo hi (.slice A1 m.z1.length C1) m.z1 (.slice A2 m.z2.length C2) m.z2 (.slice A3 m.z3.length C3) m.z3 ∧
  Hid (g < lo ∨ hi ≤ g) ∧ Hid (W.heap.size ≤ lo) ∧ Hid (W.heap.size ≤ g) ∧ Hid (g < wx.heap.size) ∧ Hid (hi ≤ wx.heap.size) ∧ Below W.heap.size W wx
theorem boxMac_after {W u v : World} {m : Mac} {A1 : Option Addr} {C1 : Nat} {A2 : Option Addr} {C2 : Nat} {A3 : Option Addr} {C3 : Nat} {t : TypeId} (hk : Below W.heap.size W u) (hb : Below u.heap.size u v) (ow : Own3 2 v u.heap.size v.heap.size (.slice A1 m.z1.length C1) m.z1 (.slice A2 m.z2.length C2) m.z2 (.slice A3 m.z3.length C3) m.z3) :
    BoxMac W m (.pointer (some ⟨v.heap.size, 0, none⟩)) (v.alloc (.cells #[.int .i64 m.b1, .slice A1 m.z1.length C1, .int .i64 m.b2, .slice A2 m.z2.length C2, .int .i64 m.b3, .slice A3 m.z3.length C3, .int .i64 m.p] t)) := by
  have h1 := hk.size
  have h2 := hb.size
  have bx := Bx.new v #[.int .i64 m.b1, .slice A1 m.z1.length C1, .int .i64 m.b2, .slice A2 m.z2.length C2, .int .i64 m.b3, .slice A3 m.z3.length C3, .int .i64 m.p] t
  exact ⟨_, A1, C1, A2, C2, A3, C3, _, _, rfl, bx.at_ 0 rfl, bx.at_ 1 rfl, bx.at_ 2 rfl, bx.at_ 3 rfl, bx.at_ 4 rfl, bx.at_ 5 rfl, bx.at_ 6 rfl, ow.alloc _, Lib.hid (.inr (Nat.le_refl _)), Lib.hid h1, Lib.hid (by omega), Lib.hid (by simp), Lib.hid (by simp), (hk.trans (hb.mono h1)).alloc (by omega) _⟩
theorem boxMac_before {W u v : World} {m : Mac} {A1 : Option Addr} {C1 : Nat} {A2 : Option Addr} {C2 : Nat} {A3 : Option Addr} {C3 : Nat} {g : Nat} {t : TypeId} {c0 c1 c2 c3 c4 c5 c6 : Value} (hk : Below W.heap.size W u) (hb : Below u.heap.size u v)
    (ow : Own3 2 v u.heap.size v.heap.size (.slice A1 m.z1.length C1) m.z1 (.slice A2 m.z2.length C2) m.z2 (.slice A3 m.z3.length C3) m.z3) (bz : Bx v g t #[c0, c1, c2, c3, c4, c5, c6]) (h1 : Hid (W.heap.size ≤ g)) (h2 : Hid (g < u.heap.size)) :
    BoxMac W m (.pointer (some ⟨g, 0, none⟩)) (((((((v.setCell ⟨g, 0, none⟩ (.int .i64 m.b1)).setCell ⟨g, 1, none⟩ (.slice A1 m.z1.length C1)).setCell ⟨g, 2, none⟩ (.int .i64 m.b2)).setCell ⟨g, 3, none⟩ (.slice A2 m.z2.length C2)).setCell ⟨g, 4, none⟩ (.int .i64 m.b3)).setCell ⟨g, 5, none⟩ (.slice A3 m.z3.length C3)).setCell ⟨g, 6, none⟩ (.int .i64 m.p)) := by
  have h3 := hk.size
  have h4 := hb.size
  have h5 := h1.out
  have h6 := h2.out
  have bx : Bx (((((((v.setCell ⟨g, 0, none⟩ (.int .i64 m.b1)).setCell ⟨g, 1, none⟩ (.slice A1 m.z1.length C1)).setCell ⟨g, 2, none⟩ (.int .i64 m.b2)).setCell ⟨g, 3, none⟩ (.slice A2 m.z2.length C2)).setCell ⟨g, 4, none⟩ (.int .i64 m.b3)).setCell ⟨g, 5, none⟩ (.slice A3 m.z3.length C3)).setCell ⟨g, 6, none⟩ (.int .i64 m.p)) g t #[.int .i64 m.b1, .slice A1 m.z1.length C1, .int .i64 m.b2, .slice A2 m.z2.length C2, .int .i64 m.b3, .slice A3 m.z3.length C3, .int .i64 m.p] := bx_put7 bz
  refine ⟨_, A1, C1, A2, C2, A3, C3, _, _, rfl, bx.at_ 0 rfl, bx.at_ 1 rfl, bx.at_ 2 rfl, bx.at_ 3 rfl, bx.at_ 4 rfl, bx.at_ 5 rfl, bx.at_ 6 rfl, (((((((ow.setCell (p := ⟨g, 0, none⟩) (.inl h6) _).setCell (p := ⟨g, 1, none⟩) (.inl h6) _).setCell (p := ⟨g, 2, none⟩) (.inl h6) _).setCell (p := ⟨g, 3, none⟩) (.inl h6) _).setCell (p := ⟨g, 4, none⟩) (.inl h6) _).setCell (p := ⟨g, 5, none⟩) (.inl h6) _).setCell (p := ⟨g, 6, none⟩) (.inl h6) _), Lib.hid (.inl h6), Lib.hid h3, Lib.hid h5, Lib.hid (by simp; omega), Lib.hid (by simp), ?_⟩
  exact (((((((hk.trans (hb.mono h3)).setCell h5 _).setCell h5 _).setCell h5 _).setCell h5 _).setCell h5 _).setCell h5 _).setCell h5 _
end Go.Proofs.YtlahobdopmdfmaaDoor

/- MacI -/
namespace Go.Proofs.YtlahobdopmdfmaaDoor
open Go.RowKit Go.BigFrame

/-- All of a machine's numbers are int64. -/
def Mac64 (m : Mac) : Prop := (All64 m.z1 ∧ All64 m.z2 ∧ All64 m.z3) ∧ (I64 m.b1 ∧ I64 m.b2 ∧ I64 m.b3 ∧ I64 m.p)

theorem inB_eq {z lo hi : Int} : inB z lo hi = decide (lo ≤ z ∧ z ≤ hi) := by
  cases h : inB z lo hi with
  | true => exact (decide_eq_true (inB_true h)).symm
  | false => exact (decide_eq_false (by have := inB_false h; omega)).symm
theorem macB_impl {m : Mac} {a b c d e f : Bool} (h1 : okB m.b1 m.z1 = a) (h2 : accB m.b2 m.z2 = b) (h3 : accB m.b3 m.z3 = c) (h4 : (m.b2 == m.b1) = d) (h5 : (m.b3 == m.b1) = e) (h6 : inB m.p 0 (plcs m - 1) = f) :
    macB m = (a && (b && (c && (d && (e && f))))) := by
  subst h1 h2 h3 h4 h5 h6
  rw [inB_eq]
  unfold macB accB
  rw [Bool.eq_iff_iff]
  simp only [decide_eq_true_eq, Bool.and_eq_true, beq_iff_eq]
  constructor
  · rintro ⟨h1, h2, h3, e2, e3, f2, f3, hl, p0, p1⟩
    rw [e2] at f2
    rw [e3] at f3
    exact ⟨h1, ⟨h2, f2⟩, ⟨h3, f3⟩, e2.symm, e3.symm, p0, p1⟩
  · rintro ⟨h1, ⟨h2, f2⟩, ⟨h3, f3⟩, e2, e3, p0, p1⟩
    rw [e2] at f2
    rw [e3] at f3
    refine ⟨h1, h2, h3, e2.symm, e3.symm, f2, f3, ?_, p0, p1⟩
    unfold plcs at p1
    omega

set_option maxHeartbeats 1000000 in
theorem mBase_any (m : Mac) (A1 : Option Addr) (C1 : Nat) (A2 : Option Addr) (C2 : Nat) (A3 : Option Addr) (C3 : Nat) (w : World) :
    Calls Tryd.prog 138 #[.agg #[.int .i64 m.b1, .slice A1 m.z1.length C1, .int .i64 m.b2, .slice A2 m.z2.length C2, .int .i64 m.b3, .slice A3 m.z3.length C3, .int .i64 m.p]] w fun e w' => e = .returned (.int .i64 m.b1) ∧ Below w.heap.size w w' := by
  go_enter Tryd.func138, Tryd.ntmps138
  go_wp2
  go_ret
  exact ⟨rfl, (by repeat (first | exact Below.refl _ _ | refine Below.setCell ?_ (by first | omega | (simp <;> omega)) _ | refine Below.alloc ?_ (by first | omega | (simp <;> omega)) _ | refine Below.drew ?_))⟩

set_option maxHeartbeats 1000000 in
theorem places_any (m : Mac) (A1 : Option Addr) (C1 : Nat) (A2 : Option Addr) (C2 : Nat) (A3 : Option Addr) (C3 : Nat) (w : World) (h : m.z1.length ≤ 1000000000 ∧ m.z2.length ≤ 1000000000 ∧ m.z3.length ≤ 1000000000) :
    Calls Tryd.prog 143 #[.agg #[.int .i64 m.b1, .slice A1 m.z1.length C1, .int .i64 m.b2, .slice A2 m.z2.length C2, .int .i64 m.b3, .slice A3 m.z3.length C3, .int .i64 m.p]] w fun e w' => e = .returned (.int .i64 (plcs m)) ∧ Below w.heap.size w w' := by
  obtain ⟨h1, h2, h3⟩ := h
  have w1 : IntKind.i64.wrap ((m.z2.length : Int) - m.z1.length) = (m.z2.length : Int) - m.z1.length := IntWalk.i64_in _ (by omega)
  have w2 : IntKind.i64.wrap ((m.z2.length : Int) - m.z1.length + 1) = (m.z2.length : Int) - m.z1.length + 1 := IntWalk.i64_in _ (by omega)
  have HP := Lib.hid (show plcs m = min ((m.z2.length : Int) - m.z1.length + 1) m.z3.length from rfl)
  go_enter Tryd.func143, Tryd.ntmps143
  go_wp2
  go_ret
  exact ⟨ret_int HP.out.symm, (by repeat (first | exact Below.refl _ _ | refine Below.setCell ?_ (by first | omega | (simp <;> omega)) _ | refine Below.alloc ?_ (by first | omega | (simp <;> omega)) _ | refine Below.drew ?_))⟩

theorem plcs_bd {m : Mac} (h : m.z1.length ≤ 1000000000 ∧ m.z2.length ≤ 1000000000 ∧ m.z3.length ≤ 1000000000) : -1000000000 ≤ plcs m ∧ plcs m ≤ 1000000000 := by unfold plcs; omega

set_option maxHeartbeats 1000000 in
theorem hasPlace_any (m : Mac) (A1 : Option Addr) (C1 : Nat) (A2 : Option Addr) (C2 : Nat) (A3 : Option Addr) (C3 : Nat) (k : Int) (w : World) (h : m.z1.length ≤ 1000000000 ∧ m.z2.length ≤ 1000000000 ∧ m.z3.length ≤ 1000000000) :
    Calls Tryd.prog 139 #[.agg #[.int .i64 m.b1, .slice A1 m.z1.length C1, .int .i64 m.b2, .slice A2 m.z2.length C2, .int .i64 m.b3, .slice A3 m.z3.length C3, .int .i64 m.p], .int .i64 k] w fun e w' => e = .returned (.bool (inB k 0 (plcs m - 1))) ∧ Below w.heap.size w w' := by
  have hp := plcs_bd h
  obtain ⟨u, hu⟩ : ∃ u, u = w.alloc (.cells #[.int .i64 m.b1, .slice A1 m.z1.length C1, .int .i64 m.b2, .slice A2 m.z2.length C2, .int .i64 m.b3, .slice A3 m.z3.length C3, .int .i64 m.p] 28) := ⟨_, rfl⟩
  have hbel : Below w.heap.size w u := by rw [hu]; exact (by repeat (first | exact Below.refl _ _ | refine Below.setCell ?_ (by first | omega | (simp <;> omega)) _ | refine Below.alloc ?_ (by first | omega | (simp <;> omega)) _ | refine Below.drew ?_))
  have bx : Bx u w.heap.size 28 #[.int .i64 m.b1, .slice A1 m.z1.length C1, .int .i64 m.b2, .slice A2 m.z2.length C2, .int .i64 m.b3, .slice A3 m.z3.length C3, .int .i64 m.p] := by rw [hu]; exact Bx.new _ _ _
  have HU := Lib.hid hu
  have HP := Lib.hid (places_any m A1 C1 A2 C2 A3 C3 u h)
  obtain ⟨q, hq⟩ : ∃ q, q = plcs m := ⟨_, rfl⟩
  rw [← hq] at HP hp ⊢
  have w1 : IntKind.i64.wrap (q - 1) = q - 1 := IntWalk.i64_in _ (by omega)
  clear hu hq
  go_enter Tryd.func139, Tryd.ntmps139
  go_wp2_with fail
  rw [← HU.out]
  refine HP.out.mono ?_
  rintro e w1 ⟨rfl, hb⟩
  replace hbel := hbel.trans (hb.mono hbel.size)
  have hs := hbel.size
  clear hb
  go_wp2_with fail
  refine (within1_at 0 (q - 1) k _ w1.heap.size 1 (cell_new1 _ _ _)).mono ?_
  rintro e w2 ⟨rfl, hw⟩
  subst w2
  go_wp2
  go_ret
  exact ⟨rfl, hbel.alloc hs _⟩

set_option maxHeartbeats 2000000 in
theorem goes_any (xB : Int) (xA : Option Addr) (xC : Nat) (xZ : List Int) (w : World) (ha : Rd w xA xZ) (z : All64 xZ) (b : I64 xB) (hD : BellD w) :
    Calls Tryd.prog 137 #[.agg #[.int .i64 xB, .slice xA xZ.length xC]] w fun e w' => e = .returned (.bool (accB xB xZ)) ∧ Below w.heap.size w w' := by
  obtain ⟨a, hl⟩ := hD
  obtain ⟨u, hu⟩ : ∃ u, u = w.alloc (.cells #[.int .i64 xB, .slice xA xZ.length xC] 26) := ⟨_, rfl⟩
  have hbel : Below w.heap.size w u := by rw [hu]; exact (by repeat (first | exact Below.refl _ _ | refine Below.setCell ?_ (by first | omega | (simp <;> omega)) _ | refine Below.alloc ?_ (by first | omega | (simp <;> omega)) _ | refine Below.drew ?_))
  have HU := Lib.hid hu
  replace ha := ha.below hbel
  replace hl := hl.below hbel
  clear hu
  cases h : accB xB xZ with
  | false =>
    have HC := Lib.hid (accOf_no xB xA xC xZ u ha z b h)
    clear h
    go_enter Tryd.func137, Tryd.ntmps137
    go_wp2_with fail
    rw [← HU.out]
    refine HC.out.mono ?_
    rintro e w1 ⟨rfl, hb⟩
    replace hbel := hbel.trans (hb.mono hbel.size)
    have hs := hbel.size
    clear hb
    go_wp2
    go_ret
    exact ⟨rfl, (by repeat (first | with_reducible exact hbel | with_reducible refine Below.setCell ?_ (by first | omega | (simp <;> omega)) _ | with_reducible refine Below.alloc ?_ (by first | omega | (simp <;> omega)) _ | with_reducible refine Below.drew ?_))⟩
  | true =>
    have HC := Lib.hid (accOf_ok a xB xA xC xZ u ha z b h hl)
    clear h
    go_enter Tryd.func137, Tryd.ntmps137
    go_wp2_with fail
    rw [← HU.out]
    refine HC.out.mono ?_
    rintro e w1 ⟨rfl, hb⟩
    replace hbel := hbel.trans (hb.mono hbel.size)
    have hs := hbel.size
    clear hb
    go_wp2
    go_ret
    exact ⟨rfl, (by repeat (first | with_reducible exact hbel | with_reducible refine Below.setCell ?_ (by first | omega | (simp <;> omega)) _ | with_reducible refine Below.alloc ?_ (by first | omega | (simp <;> omega)) _ | with_reducible refine Below.drew ?_))⟩
end Go.Proofs.YtlahobdopmdfmaaDoor

/- MavI -/
namespace Go.Proofs.YtlahobdopmdfmaaDoor
open Go.RowKit Go.BigFrame

set_option maxHeartbeats 4000000 in
set_option maxRecDepth 100000 in
theorem implValidMachine (m : Mac) (A1 : Option Addr) (C1 : Nat) (A2 : Option Addr) (C2 : Nat) (A3 : Option Addr) (C3 : Nat) (w : World) (h : Rd3 w A1 m.z1 A2 m.z2 A3 m.z3) (z : All64 m.z1 ∧ All64 m.z2 ∧ All64 m.z3) (y : I64 m.b1 ∧ I64 m.b2 ∧ I64 m.b3 ∧ I64 m.p) (hD : BellD w) :
    Calls Tryd.prog 65 #[.agg #[.int .i64 m.b1, .slice A1 m.z1.length C1, .int .i64 m.b2, .slice A2 m.z2.length C2, .int .i64 m.b3, .slice A3 m.z3.length C3, .int .i64 m.p]] w fun e w' => e = .returned (.bool (macB m)) ∧ Below w.heap.size w w' := by
  have hlen := h.len
  obtain ⟨u, hu⟩ : ∃ u, u = w.alloc (.cells #[.int .i64 m.b1, .slice A1 m.z1.length C1, .int .i64 m.b2, .slice A2 m.z2.length C2, .int .i64 m.b3, .slice A3 m.z3.length C3, .int .i64 m.p] 28) := ⟨_, rfl⟩
  have hbel : Below w.heap.size w u := by rw [hu]; exact (by repeat (first | exact Below.refl _ _ | refine Below.setCell ?_ (by first | omega | (simp <;> omega)) _ | refine Below.alloc ?_ (by first | omega | (simp <;> omega)) _ | refine Below.drew ?_))
  have bx : Bx u w.heap.size 28 #[.int .i64 m.b1, .slice A1 m.z1.length C1, .int .i64 m.b2, .slice A2 m.z2.length C2, .int .i64 m.b3, .slice A3 m.z3.length C3, .int .i64 m.p] := by rw [hu]; exact Bx.new _ _ _
  replace h := h.below hbel
  replace hD := hD.below hbel
  obtain ⟨a, h1⟩ : ∃ a, okB m.b1 m.z1 = a := ⟨_, rfl⟩
  obtain ⟨b, h2⟩ : ∃ a, accB m.b2 m.z2 = a := ⟨_, rfl⟩
  obtain ⟨c, h3⟩ : ∃ a, accB m.b3 m.z3 = a := ⟨_, rfl⟩
  obtain ⟨d, h4⟩ : ∃ a, (m.b2 == m.b1) = a := ⟨_, rfl⟩
  obtain ⟨e, h5⟩ : ∃ a, (m.b3 == m.b1) = a := ⟨_, rfl⟩
  obtain ⟨f, h6⟩ : ∃ a, inB m.p 0 (plcs m - 1) = a := ⟨_, rfl⟩
  have HE := Lib.hid (macB_impl h1 h2 h3 h4 h5 h6)
  have H1 := Lib.hid (implValidRegister m.b1 A1 C1 m.z1 u h.x z.1 y.1)
  have H2 := Lib.hid (fun (v : World) (hb : Below u.heap.size u v) => goes_any m.b2 A2 C2 m.z2 v (h.y.below hb) z.2.1 y.2.1 (hD.below hb))
  have H3 := Lib.hid (fun (v : World) (hb : Below u.heap.size u v) => goes_any m.b3 A3 C3 m.z3 v (h.z.below hb) z.2.2 y.2.2.1 (hD.below hb))
  have HB := Lib.hid (fun v => mBase_any m A1 C1 A2 C2 A3 C3 v)
  have HP := Lib.hid (fun v => hasPlace_any m A1 C1 A2 C2 A3 C3 m.p v hlen)
  rw [h1] at H1
  rw [h2] at H2
  rw [h3] at H3
  rw [h6] at HP
  have HU := Lib.hid hu
  clear hu h h1 h2 h3 h6 hD z y hlen
  rw [HE.out]
  cases a
  · clear H2 H3 HB HP h4 h5
    go_enter Tryd.func65, Tryd.ntmps65
    go_wp2_with fail
    rw [← HU.out]
    refine H1.out.mono ?_
    rintro e w1 ⟨rfl, hb⟩
    go_wp2
    go_ret
    exact ⟨rfl, hbel.trans (hb.mono hbel.size)⟩
  cases b
  · clear H3 HB HP h4 h5
    go_enter Tryd.func65, Tryd.ntmps65
    go_wp2_with fail
    rw [← HU.out]
    refine H1.out.mono ?_
    rintro e w1 ⟨rfl, hb⟩
    have c0 := (bx.below hb).at_ 2 rfl
    have c1 := (bx.below hb).at_ 3 rfl
    go_wp2_with fail
    refine (H2.out _ hb).mono ?_
    rintro e w2 ⟨rfl, hbn⟩
    replace hb := hb.trans (hbn.mono hb.size)
    clear hbn
    go_wp2
    go_ret
    exact ⟨rfl, hbel.trans (hb.mono hbel.size)⟩
  cases c
  · clear HB HP h4 h5
    go_enter Tryd.func65, Tryd.ntmps65
    go_wp2_with fail
    rw [← HU.out]
    refine H1.out.mono ?_
    rintro e w1 ⟨rfl, hb⟩
    have c0 := (bx.below hb).at_ 2 rfl
    have c1 := (bx.below hb).at_ 3 rfl
    go_wp2_with fail
    refine (H2.out _ hb).mono ?_
    rintro e w2 ⟨rfl, hbn⟩
    replace hb := hb.trans (hbn.mono hb.size)
    clear hbn
    clear c0 c1
    have c0 := (bx.below hb).at_ 4 rfl
    have c1 := (bx.below hb).at_ 5 rfl
    go_wp2_with fail
    refine (H3.out _ hb).mono ?_
    rintro e w3 ⟨rfl, hbn⟩
    replace hb := hb.trans (hbn.mono hb.size)
    clear hbn
    go_wp2
    go_ret
    exact ⟨rfl, hbel.trans (hb.mono hbel.size)⟩
  cases d
  rotate_left
  cases e
  rotate_left
  all_goals
    go_enter Tryd.func65, Tryd.ntmps65
    go_wp2_with fail
    rw [← HU.out]
    refine H1.out.mono ?_
    rintro e w1 ⟨rfl, hb⟩
    have c0 := (bx.below hb).at_ 2 rfl
    have c1 := (bx.below hb).at_ 3 rfl
    go_wp2_with fail
    refine (H2.out _ hb).mono ?_
    rintro e w2 ⟨rfl, hbn⟩
    replace hb := hb.trans (hbn.mono hb.size)
    clear hbn
    clear c0 c1
    have c0 := (bx.below hb).at_ 4 rfl
    have c1 := (bx.below hb).at_ 5 rfl
    go_wp2_with fail
    refine (H3.out _ hb).mono ?_
    rintro e w3 ⟨rfl, hbn⟩
    replace hb := hb.trans (hbn.mono hb.size)
    clear hbn
    clear c0 c1
    replace bx := bx.below hb
    replace hbel := hbel.trans (hb.mono hbel.size)
    clear hb
    go_upto_region 3 with fail
    have k0 := kept_after (bx.at_ 0 rfl)
    have k1 := kept_after (bx.at_ 1 rfl)
    have k2 := kept_after (bx.at_ 2 rfl)
    have k3 := kept_after (bx.at_ 3 rfl)
    have k4 := kept_after (bx.at_ 4 rfl)
    have k5 := kept_after (bx.at_ 5 rfl)
    have k6 := kept_after (bx.at_ 6 rfl)
    clear bx
    refine wp_region_after (by kernel_rfl) (by kernel_rfl) ?_
    repeat (go_big_quiet_step (first | (go_at_call 138; with_reducible exact calls_after (HB.out _)) | (go_at_call 139; with_reducible exact calls_after (HP.out _))))
    refine wpQuiet_nil ?_
    intro u3
    go_wp2
    go_ret
    exact ⟨rfl, hbel.trans (u3.ok.mono hbel.size)⟩

theorem implPlacesOf (m : Mac) (A1 : Option Addr) (C1 : Nat) (A2 : Option Addr) (C2 : Nat) (A3 : Option Addr) (C3 : Nat) (w : World) (h : Rd3 w A1 m.z1 A2 m.z2 A3 m.z3) (z : All64 m.z1 ∧ All64 m.z2 ∧ All64 m.z3) (y : I64 m.b1 ∧ I64 m.b2 ∧ I64 m.b3 ∧ I64 m.p) (hD : BellD w) :
    Calls Tryd.prog 76 #[.agg #[.int .i64 m.b1, .slice A1 m.z1.length C1, .int .i64 m.b2, .slice A2 m.z2.length C2, .int .i64 m.b3, .slice A3 m.z3.length C3, .int .i64 m.p]] w fun e w' => e = .returned (.tuple #[.int .i64 (plR m).1, .int .i64 (plR m).2]) ∧ Below w.heap.size w w' := by
  have R := Tryd.results76
  have hlen := h.len
  obtain ⟨u, hu⟩ : ∃ u, u = w.alloc (.cells #[.int .i64 m.b1, .slice A1 m.z1.length C1, .int .i64 m.b2, .slice A2 m.z2.length C2, .int .i64 m.b3, .slice A3 m.z3.length C3, .int .i64 m.p] 28) := ⟨_, rfl⟩
  have hbel : Below w.heap.size w u := by rw [hu]; exact (by repeat (first | exact Below.refl _ _ | refine Below.setCell ?_ (by first | omega | (simp <;> omega)) _ | refine Below.alloc ?_ (by first | omega | (simp <;> omega)) _ | refine Below.drew ?_))
  have bx : Bx u w.heap.size 28 #[.int .i64 m.b1, .slice A1 m.z1.length C1, .int .i64 m.b2, .slice A2 m.z2.length C2, .int .i64 m.b3, .slice A3 m.z3.length C3, .int .i64 m.p] := by rw [hu]; exact Bx.new _ _ _
  have HV := Lib.hid (implValidMachine m A1 C1 A2 C2 A3 C3 u (h.below hbel) z y (hD.below hbel))
  have HP := Lib.hid (fun v => places_any m A1 C1 A2 C2 A3 C3 v hlen)
  have HU := Lib.hid hu
  clear hu h z y hD
  cases hm : macB m with
  | false =>
    have HR := Lib.hid (show plR m = (0, 1) by simp [plR, hm])
    rw [hm] at HV
    clear hm
    go_enter Tryd.func76, Tryd.ntmps76
    go_wp2_with fail
    rw [← HU.out]
    refine HV.out.mono ?_
    rintro e w1 ⟨rfl, hb⟩
    go_wp2
    exact bodyPost_ret (v := .tuple #[.int .i64 0, .int .i64 1]) (by simp [results, go_sem]) rfl ⟨by rw [HR.out], hbel.trans (hb.mono hbel.size)⟩
  | true =>
    have HR := Lib.hid (show plR m = (plcs m, 0) by simp [plR, hm])
    rw [hm] at HV
    clear hm
    go_enter Tryd.func76, Tryd.ntmps76
    go_wp2_with fail
    rw [← HU.out]
    refine HV.out.mono ?_
    rintro e w1 ⟨rfl, hb⟩
    replace bx := bx.below hb
    replace hbel := hbel.trans (hb.mono hbel.size)
    clear hb
    have k0 := bx.at_ 0 rfl
    have k1 := bx.at_ 1 rfl
    have k2 := bx.at_ 2 rfl
    have k3 := bx.at_ 3 rfl
    have k4 := bx.at_ 4 rfl
    have k5 := bx.at_ 5 rfl
    have k6 := bx.at_ 6 rfl
    go_wp2_with fail
    refine (HP.out w1).mono ?_
    rintro e w2 ⟨rfl, hb⟩
    go_wp2
    exact bodyPost_ret (v := .tuple #[.int .i64 (plcs m), .int .i64 0]) (by simp [results, go_sem]) rfl ⟨by rw [HR.out], hbel.trans (hb.mono hbel.size)⟩
end Go.Proofs.YtlahobdopmdfmaaDoor

/- MacS -/
namespace Go.Proofs.YtlahobdopmdfmaaDoor
open Go.RowKit Go.BigFrame

theorem macB_spec2 {m : Mac} {a b c d e f g i j : Bool} (h1 : okB m.b1 m.z1 = a) (h2 : okB m.b2 m.z2 = b) (h3 : okB m.b3 m.z3 = c) (h4 : (m.b1 != m.b2) = d) (h5 : (m.b1 != m.b3) = e)
    (h6 : decide (m.b1 ^ m.z2.length - 1 ≤ 1000000000000) = f) (h7 : decide (m.b1 ^ m.z3.length - 1 ≤ 1000000000000) = g) (h8 : decide ((m.z1.length : Int) ≤ m.z2.length) = i) (h9 : inB m.p 0 (plcs m - 1) = j) :
    macB m = (a && (b && (c && (!d && (!e && (f && (g && (i && j)))))))) := by
  subst h1 h2 h3 h4 h5 h6 h7 h8 h9
  rw [show inB m.p 0 (plcs m - 1) = decide (0 ≤ m.p ∧ m.p ≤ plcs m - 1) by
    cases h : inB m.p 0 (plcs m - 1) with
    | true => exact (decide_eq_true (inB_true h)).symm
    | false => exact (decide_eq_false (by have := inB_false h; omega)).symm]
  unfold macB
  rw [Bool.eq_iff_iff]
  simp only [decide_eq_true_eq, Bool.and_eq_true, Bool.not_eq_true', bne_eq_false_iff_eq, Int.ofNat_le]

set_option maxHeartbeats 1000000 in
theorem l10Places_any (p : Nat) (m : Mac) (A1 : Option Addr) (C1 : Nat) (A2 : Option Addr) (C2 : Nat) (A3 : Option Addr) (C3 : Nat) (w : World) (bp : Bx w p 28 #[.int .i64 m.b1, .slice A1 m.z1.length C1, .int .i64 m.b2, .slice A2 m.z2.length C2, .int .i64 m.b3, .slice A3 m.z3.length C3, .int .i64 m.p]) (h : m.z1.length ≤ 1000000000 ∧ m.z2.length ≤ 1000000000 ∧ m.z3.length ≤ 1000000000) :
    Calls Tryd.prog 142 #[.pointer (some ⟨p, 0, none⟩)] w fun e w' => e = .returned (.int .i64 (plcs m)) ∧ Below w.heap.size w w' := by
  obtain ⟨h1, h2, h3⟩ := h
  have w1 : IntKind.i64.wrap ((m.z2.length : Int) - m.z1.length) = (m.z2.length : Int) - m.z1.length := IntWalk.i64_in _ (by omega)
  have w2 : IntKind.i64.wrap ((m.z2.length : Int) - m.z1.length + 1) = (m.z2.length : Int) - m.z1.length + 1 := IntWalk.i64_in _ (by omega)
  have HP := Lib.hid (show min (m.z3.length : Int) ((m.z2.length : Int) - m.z1.length + 1) = plcs m by unfold plcs; omega)
  have k1 := kept_after (bp.at_ 1 rfl)
  have k3 := kept_after (bp.at_ 3 rfl)
  have k5 := kept_after (bp.at_ 5 rfl)
  clear bp
  go_enter Tryd.func142, Tryd.ntmps142
  go_wp2_with fail
  refine wp_region_after (by kernel_rfl) (by kernel_rfl) ?_
  repeat (go_big_quiet_step ((go_at_call 158; exact calls_after ((l00Min_any _ _ _).mono fun e w' ⟨x, y⟩ => ⟨x, (by rw [y]; exact Below.refl _ _)⟩))))
  refine wpQuiet_nil ?_
  intro u
  go_wp2
  go_ret
  exact ⟨ret_int HP.out, u.ok⟩

set_option maxHeartbeats 8000000 in
set_option maxRecDepth 100000 in
theorem l10Ok_any (p : Nat) (m : Mac) (A1 : Option Addr) (C1 : Nat) (A2 : Option Addr) (C2 : Nat) (A3 : Option Addr) (C3 : Nat) (w : World) (h : Rd3 w A1 m.z1 A2 m.z2 A3 m.z3) (bp : Bx w p 28 #[.int .i64 m.b1, .slice A1 m.z1.length C1, .int .i64 m.b2, .slice A2 m.z2.length C2, .int .i64 m.b3, .slice A3 m.z3.length C3, .int .i64 m.p]) :
    Calls Tryd.prog 88 #[.pointer (some ⟨p, 0, none⟩)] w fun e w' => e = .returned (.bool (macB m)) ∧ Below w.heap.size w w' := by
  have hlen := h.len
  obtain ⟨a, h1⟩ : ∃ a, okB m.b1 m.z1 = a := ⟨_, rfl⟩
  obtain ⟨b, h2⟩ : ∃ a, okB m.b2 m.z2 = a := ⟨_, rfl⟩
  obtain ⟨c, h3⟩ : ∃ a, okB m.b3 m.z3 = a := ⟨_, rfl⟩
  obtain ⟨d, h4⟩ : ∃ a, (m.b1 != m.b2) = a := ⟨_, rfl⟩
  obtain ⟨e, h5⟩ : ∃ a, (m.b1 != m.b3) = a := ⟨_, rfl⟩
  obtain ⟨f, h6⟩ : ∃ a, decide (m.b1 ^ m.z2.length - 1 ≤ 1000000000000) = a := ⟨_, rfl⟩
  obtain ⟨g, h7⟩ : ∃ a, decide (m.b1 ^ m.z3.length - 1 ≤ 1000000000000) = a := ⟨_, rfl⟩
  obtain ⟨i, h8⟩ : ∃ a, decide ((m.z1.length : Int) ≤ m.z2.length) = a := ⟨_, rfl⟩
  obtain ⟨j, h9⟩ : ∃ a, inB m.p 0 (plcs m - 1) = a := ⟨_, rfl⟩
  have h8n : decide (m.z1.length ≤ m.z2.length) = i := by rw [← h8]; exact decide_eq_decide.2 Int.ofNat_le.symm
  have HE := Lib.hid (macB_spec2 h1 h2 h3 h4 h5 h6 h7 h8 h9)
  have H1 : Hid (∀ v, Below w.heap.size w v → Calls Tryd.prog 96 #[.pointer (some ⟨p, 0, none⟩)] v fun e w' => e = .returned (.bool a) ∧ Below v.heap.size v w') :=
    Lib.hid fun v hb => l02Ok_atO p 0 m.b1 A1 C1 m.z1 v h1 (h.x.below hb) ((bp.below hb).at_ 0 rfl) ((bp.below hb).at_ 1 rfl)
  have H2 : Hid (∀ v, Below w.heap.size w v → Calls Tryd.prog 96 #[.pointer (some ⟨p, 2, none⟩)] v fun e w' => e = .returned (.bool b) ∧ Below v.heap.size v w') :=
    Lib.hid fun v hb => l02Ok_atO p 2 m.b2 A2 C2 m.z2 v h2 (h.y.below hb) ((bp.below hb).at_ 2 rfl) ((bp.below hb).at_ 3 rfl)
  have H3 : Hid (∀ v, Below w.heap.size w v → Calls Tryd.prog 96 #[.pointer (some ⟨p, 4, none⟩)] v fun e w' => e = .returned (.bool c) ∧ Below v.heap.size v w') :=
    Lib.hid fun v hb => l02Ok_atO p 4 m.b3 A3 C3 m.z3 v h3 (h.z.below hb) ((bp.below hb).at_ 4 rfl) ((bp.below hb).at_ 5 rfl)
  have k0 := kept_after (bp.at_ 0 rfl)
  have k2 := kept_after (bp.at_ 2 rfl)
  have k4 := kept_after (bp.at_ 4 rfl)
  rw [HE.out]
  have HX : Hid ((a && (b && (c && (!d && !e)))) = true → 2 ≤ m.b1 ∧ m.b1 ≤ 16 ∧ m.z2.length ≤ 16 ∧ m.z3.length ≤ 16) := Lib.hid (by
    simp only [Bool.and_eq_true]
    rintro ⟨ha, hb, hc, _⟩
    subst ha hb hc
    obtain ⟨q1, q2, _⟩ := okB_spec h1
    exact ⟨q1, q2, (okB_spec h2).2.2.2.1, (okB_spec h3).2.2.2.1⟩)
  clear h h1 h2 h3
  have HR : Hid ((a && (b && (c && (!d && !e)))) = true ∨ ((a && (b && (c && (!d && (!e && (f && (g && (i && j)))))))) = false)) := Lib.hid (by cases a <;> cases b <;> cases c <;> cases d <;> cases e <;> simp)
  cases hq : (a && (b && (c && (!d && !e)))) with
  | false =>
    have HF := Lib.hid (show (a && (b && (c && (!d && (!e && (f && (g && (i && j)))))))) = false from HR.out.resolve_left (by rw [hq]; simp))
    rw [HF.out]
    clear HX HR HF h6 h7 h8 h8n h9 hlen
    cases a
    rotate_left
    cases b
    rotate_left
    cases c
    rotate_left
    cases d
    cases e
    · cases hq
    all_goals
      clear hq
      go_enter Tryd.func88, Tryd.ntmps88
      go_wp2_with fail
      refine wp_region_after (by kernel_rfl) (by kernel_rfl) ?_
      repeat (go_big_quiet_step ((go_at_call 96; first | with_reducible exact calls_after (H1.out _ (After.ok _)) | with_reducible exact calls_after (H2.out _ (After.ok _)) | with_reducible exact calls_after (H3.out _ (After.ok _)))))
      refine wpQuiet_nil ?_
      intro u
      go_wp2
      go_ret
      exact ⟨rfl, u.ok⟩
  | true =>
    obtain ⟨x0, x1, x2, x3⟩ := HX.out hq
    obtain ⟨rfl, rfl, rfl, rfl, rfl⟩ : a = true ∧ b = true ∧ c = true ∧ d = false ∧ e = false := by revert hq; cases a <;> cases b <;> cases c <;> cases d <;> cases e <;> simp
    have HF2 := Lib.hid (fun v => l10Full_at (v := f) m.b1 m.z2.length v (by omega) x1 x2 h6)
    have HF3 := Lib.hid (fun v => l10Full_at (v := g) m.b1 m.z3.length v (by omega) x1 x3 h7)
    have HI := Lib.hid (fun v => l00In_b m.p 0 (plcs m - 1) v)
    rw [h9] at HI
    have HPl := Lib.hid (fun (v : World) (hb : Below w.heap.size w v) => l10Places_any p m A1 C1 A2 C2 A3 C3 v (bp.below hb) hlen)
    have hpb : -1000000000 ≤ plcs m ∧ plcs m ≤ 1000000000 := by unfold plcs; omega
    obtain ⟨q, hq2⟩ : ∃ q, q = plcs m := ⟨_, rfl⟩
    rw [← hq2] at HI HPl hpb
    have w1 : IntKind.i64.wrap (q - 1) = q - 1 := IntWalk.i64_in _ (by omega)
    clear HX HR hq h6 h7 h9 hq2 hlen x2 x3
    simp only [Bool.true_and, Bool.not_false]
    cases f
    rotate_left
    cases g
    rotate_left
    cases i
    rotate_left
    all_goals
      go_enter Tryd.func88, Tryd.ntmps88
      go_wp2_with fail
      refine wp_region_after (by kernel_rfl) (by kernel_rfl) ?_
      repeat (go_big_quiet_step ((go_at_call 96; first | with_reducible exact calls_after (H1.out _ (After.ok _)) | with_reducible exact calls_after (H2.out _ (After.ok _)) | with_reducible exact calls_after (H3.out _ (After.ok _)))))
      refine wpQuiet_nil ?_
      intro u
      clear k0 k2 k4
      obtain ⟨W, hW⟩ : ∃ W, W = u.now := ⟨_, rfl⟩
      have hbW : Below w.heap.size w W := by rw [hW]; exact u.ok
      rw [← hW]
      clear hW u
      have bW := bp.below hbW
      have c0 := bW.at_ 0 rfl
      have c1 := bW.at_ 1 rfl
      have c3 := bW.at_ 3 rfl
      have c5 := bW.at_ 5 rfl
      have c6 := bW.at_ 6 rfl
      go_wp2_with fail
      refine (HF2.out _).mono ?_
      rintro e w1 ⟨rfl, hw⟩
      subst w1
      first
      | (go_wp2; go_ret; exact ⟨rfl, hbW⟩)
      | (go_wp2_with fail
         refine (HF3.out _).mono ?_
         rintro e w2 ⟨rfl, hw⟩
         subst w2
         first
         | (go_wp2; go_ret; exact ⟨rfl, hbW⟩)
         | (go_wp2_with fail
            have k1 := kept_after c1
            have k3 := kept_after c3
            have k6 := kept_after c6
            have HPl2 := Lib.hid (fun (v : World) (hb : Below W.heap.size W v) => HPl.out v (hbW.trans (hb.mono hbW.size)))
            clear c0 c1 c3 c5 c6
            refine wp_region_after (by kernel_rfl) (by kernel_rfl) ?_
            repeat (go_big_quiet_step (first | (go_at_call 142; with_reducible exact calls_after (HPl2.out _ (After.ok _))) | (go_at_call 118; with_reducible exact calls_after (HI.out _))))
            refine wpQuiet_nil ?_
            intro u2
            go_wp2
            go_ret
            exact ⟨rfl, hbW.trans (u2.ok.mono hbW.size)⟩))
end Go.Proofs.YtlahobdopmdfmaaDoor

/- MavS -/
namespace Go.Proofs.YtlahobdopmdfmaaDoor
open Go.RowKit

theorem specValidMachine (m : Mac) (A1 : Option Addr) (C1 : Nat) (A2 : Option Addr) (C2 : Nat) (A3 : Option Addr) (C3 : Nat) (w : World) (h : Rd3 w A1 m.z1 A2 m.z2 A3 m.z3) (_ : All64 m.z1 ∧ All64 m.z2 ∧ All64 m.z3) (_ : I64 m.b1 ∧ I64 m.b2 ∧ I64 m.b3 ∧ I64 m.p) :
    Calls Tryd.prog 21 #[.agg #[.int .i64 m.b1, .slice A1 m.z1.length C1, .int .i64 m.b2, .slice A2 m.z2.length C2, .int .i64 m.b3, .slice A3 m.z3.length C3, .int .i64 m.p]] w fun e w' => e = .returned (.bool (macB m)) ∧ Below w.heap.size w w' := by
  obtain ⟨u, hu⟩ : ∃ u, u = w.alloc (.cells #[.int .i64 m.b1, .slice A1 m.z1.length C1, .int .i64 m.b2, .slice A2 m.z2.length C2, .int .i64 m.b3, .slice A3 m.z3.length C3, .int .i64 m.p] 28) := ⟨_, rfl⟩
  have hbel : Below w.heap.size w u := by rw [hu]; exact (by repeat (first | exact Below.refl _ _ | refine Below.setCell ?_ (by first | omega | (simp <;> omega)) _ | refine Below.alloc ?_ (by first | omega | (simp <;> omega)) _ | refine Below.drew ?_))
  have bx : Bx u w.heap.size 28 #[.int .i64 m.b1, .slice A1 m.z1.length C1, .int .i64 m.b2, .slice A2 m.z2.length C2, .int .i64 m.b3, .slice A3 m.z3.length C3, .int .i64 m.p] := by rw [hu]; exact Bx.new _ _ _
  have HU := Lib.hid hu
  clear hu
  go_enter Tryd.func21, Tryd.ntmps21
  go_wp2_with fail
  rw [← HU.out]
  refine (l10Ok_any w.heap.size m A1 C1 A2 C2 A3 C3 u (h.below hbel) bx).mono ?_
  rintro e w1 ⟨rfl, hb⟩
  go_wp2
  go_ret
  exact ⟨rfl, hbel.trans (hb.mono hbel.size)⟩

theorem specPlacesOf (m : Mac) (A1 : Option Addr) (C1 : Nat) (A2 : Option Addr) (C2 : Nat) (A3 : Option Addr) (C3 : Nat) (w : World) (h : Rd3 w A1 m.z1 A2 m.z2 A3 m.z3) (_ : All64 m.z1 ∧ All64 m.z2 ∧ All64 m.z3) (_ : I64 m.b1 ∧ I64 m.b2 ∧ I64 m.b3 ∧ I64 m.p) :
    Calls Tryd.prog 75 #[.agg #[.int .i64 m.b1, .slice A1 m.z1.length C1, .int .i64 m.b2, .slice A2 m.z2.length C2, .int .i64 m.b3, .slice A3 m.z3.length C3, .int .i64 m.p]] w fun e w' => e = .returned (.tuple #[.int .i64 (plR m).1, .int .i64 (plR m).2]) ∧ Below w.heap.size w w' := by
  have R := Tryd.results75
  have hlen := h.len
  obtain ⟨u, hu⟩ : ∃ u, u = w.alloc (.cells #[.int .i64 m.b1, .slice A1 m.z1.length C1, .int .i64 m.b2, .slice A2 m.z2.length C2, .int .i64 m.b3, .slice A3 m.z3.length C3, .int .i64 m.p] 28) := ⟨_, rfl⟩
  have hbel : Below w.heap.size w u := by rw [hu]; exact (by repeat (first | exact Below.refl _ _ | refine Below.setCell ?_ (by first | omega | (simp <;> omega)) _ | refine Below.alloc ?_ (by first | omega | (simp <;> omega)) _ | refine Below.drew ?_))
  have bx : Bx u w.heap.size 28 #[.int .i64 m.b1, .slice A1 m.z1.length C1, .int .i64 m.b2, .slice A2 m.z2.length C2, .int .i64 m.b3, .slice A3 m.z3.length C3, .int .i64 m.p] := by rw [hu]; exact Bx.new _ _ _
  have HV := Lib.hid (l10Ok_any w.heap.size m A1 C1 A2 C2 A3 C3 u (h.below hbel) bx)
  have HU := Lib.hid hu
  clear hu h
  cases hm : macB m with
  | false =>
    have HR := Lib.hid (show plR m = (0, 1) by simp [plR, hm])
    rw [hm] at HV
    clear hm
    go_enter Tryd.func75, Tryd.ntmps75
    go_wp2_with fail
    rw [← HU.out]
    refine HV.out.mono ?_
    rintro e w1 ⟨rfl, hb⟩
    go_wp2
    exact bodyPost_ret (v := .tuple #[.int .i64 0, .int .i64 1]) (by simp [results, go_sem]) rfl ⟨by rw [HR.out], hbel.trans (hb.mono hbel.size)⟩
  | true =>
    have HR := Lib.hid (show plR m = (plcs m, 0) by simp [plR, hm])
    rw [hm] at HV
    clear hm
    go_enter Tryd.func75, Tryd.ntmps75
    go_wp2_with fail
    rw [← HU.out]
    refine HV.out.mono ?_
    rintro e w1 ⟨rfl, hb⟩
    replace bx := bx.below hb
    replace hbel := hbel.trans (hb.mono hbel.size)
    clear hb
    go_wp2_with fail
    refine (l10Places_any w.heap.size m A1 C1 A2 C2 A3 C3 w1 bx hlen).mono ?_
    rintro e w2 ⟨rfl, hb⟩
    go_wp2
    exact bodyPost_ret (v := .tuple #[.int .i64 (plcs m), .int .i64 0]) (by simp [results, go_sem]) rfl ⟨by rw [HR.out], hbel.trans (hb.mono hbel.size)⟩
end Go.Proofs.YtlahobdopmdfmaaDoor
