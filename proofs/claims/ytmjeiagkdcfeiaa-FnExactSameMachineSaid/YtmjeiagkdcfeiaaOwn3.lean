/-
  Three rows of int64 that belong to one value; machines.
-/
import Derived.Test.YtmjeiagkdcfeiaaOwn2
namespace Go.Proofs.Ytmjeiagkdcfeiaa
open Go.RowKit

/-- A machine: setting, result, count, place. -/
structure Mac where
  b1 : Int
  z1 : List Int
  b2 : Int
  z2 : List Int
  b3 : Int
  z3 : List Int
  p : Int

/-- Three rows that can be read. -/
structure Rd3 (w : World) (a1 : Option Addr) (z1 : List Int) (a2 : Option Addr) (z2 : List Int) (a3 : Option Addr) (z3 : List Int) : Prop where
  x : Rd w a1 z1
  y : Rd w a2 z2
  z : Rd w a3 z3
section
variable {w w' : World} {a1 a2 a3 : Option Addr} {z1 z2 z3 : List Int}
theorem Rd3.below (h : Rd3 w a1 z1 a2 z2 a3 z3) (hb : Below w.heap.size w w') : Rd3 w' a1 z1 a2 z2 a3 z3 := ⟨h.x.below hb, h.y.below hb, h.z.below hb⟩
theorem Rd3.drewN (h : Rd3 w a1 z1 a2 z2 a3 z3) (n : Nat) : Rd3 (w.drewN n) a1 z1 a2 z2 a3 z3 := ⟨h.x.drewN n, h.y.drewN n, h.z.drewN n⟩
theorem Rd3.len (h : Rd3 w a1 z1 a2 z2 a3 z3) : z1.length ≤ 1000000000 ∧ z2.length ≤ 1000000000 ∧ z3.length ≤ 1000000000 := ⟨h.x.len, h.y.len, h.z.len⟩

/-- Three rows that came in: of whatever length. -/
structure Raw3 (w : World) (a1 : Option Addr) (z1 : List Int) (a2 : Option Addr) (z2 : List Int) (a3 : Option Addr) (z3 : List Int) : Prop where
  x : Raw w a1 z1
  y : Raw w a2 z2
  z : Raw w a3 z3
theorem Raw3.len (h : Raw3 w a1 z1 a2 z2 a3 z3) : z1.length ≤ 9223372036854775807 ∧ z2.length ≤ 9223372036854775807 ∧ z3.length ≤ 9223372036854775807 := ⟨h.x.len, h.y.len, h.z.len⟩
theorem Raw3.wf (h : Raw3 w a1 z1 a2 z2 a3 z3) : All64 z1 ∧ All64 z2 ∧ All64 z3 := ⟨h.x.wf, h.y.wf, h.z.wf⟩
theorem Raw3.rd (h : Raw3 w a1 z1 a2 z2 a3 z3) (hl : z1.length + z2.length + z3.length ≤ 1000000000) : Rd3 w a1 z1 a2 z2 a3 z3 := ⟨h.x.rd (by omega), h.y.rd (by omega), h.z.rd (by omega)⟩
end

/-- Three slices of the call's own, among the blocks lo .. hi - 1, apart from each other. -/
structure Own3 (t : TypeId) (w : World) (lo hi : Nat) (u1 : Value) (z1 : List Int) (u2 : Value) (z2 : List Int) (u3 : Value) (z3 : List Int) : Prop where
  ex : ∃ l1 h1 l2 h2 l3 h3, Own t w l1 h1 u1 z1 ∧ Own t w l2 h2 u2 z2 ∧ Own t w l3 h3 u3 z3 ∧ lo ≤ l1 ∧ h1 ≤ hi ∧ lo ≤ l2 ∧ h2 ≤ hi ∧ lo ≤ l3 ∧ h3 ≤ hi ∧ (h1 ≤ l2 ∨ h2 ≤ l1) ∧ (h1 ≤ l3 ∨ h3 ≤ l1) ∧ (h2 ≤ l3 ∨ h3 ≤ l2)
section
variable {t : TypeId} {w w' : World} {lo hi : Nat} {u1 u2 u3 : Value} {z1 z2 z3 : List Int}
theorem Own3.touch {a b : Nat} (h : Own3 t w lo hi u1 z1 u2 z2 u3 z3) (ht : Touch a b w w') (hd : hi ≤ a ∨ b ≤ lo) : Own3 t w' lo hi u1 z1 u2 z2 u3 z3 := by
  obtain ⟨l1, h1, l2, h2, l3, h3, o1, o2, o3, s⟩ := h.ex
  exact ⟨l1, h1, l2, h2, l3, h3, o1.touch ht (by omega), o2.touch ht (by omega), o3.touch ht (by omega), s⟩
theorem Own3.below (h : Own3 t w lo hi u1 z1 u2 z2 u3 z3) (hb : Below w.heap.size w w') : Own3 t w' lo hi u1 z1 u2 z2 u3 z3 := by
  obtain ⟨l1, h1, l2, h2, l3, h3, o1, o2, o3, s⟩ := h.ex
  exact ⟨l1, h1, l2, h2, l3, h3, o1.below hb, o2.below hb, o3.below hb, s⟩
theorem Own3.low {L : Nat} (h : Own3 t w lo hi u1 z1 u2 z2 u3 z3) (hb : Below L w w') (hg : hi ≤ L) : Own3 t w' lo hi u1 z1 u2 z2 u3 z3 := by
  obtain ⟨l1, h1, l2, h2, l3, h3, o1, o2, o3, s⟩ := h.ex
  exact ⟨l1, h1, l2, h2, l3, h3, Own.lo o1 hb (by omega), Own.lo o2 hb (by omega), Own.lo o3 hb (by omega), s⟩
theorem Own3.drewN (h : Own3 t w lo hi u1 z1 u2 z2 u3 z3) (n : Nat) : Own3 t (w.drewN n) lo hi u1 z1 u2 z2 u3 z3 := h.below (bel_drewN (Below.refl _ _) n)
theorem Own3.drew (h : Own3 t w lo hi u1 z1 u2 z2 u3 z3) : Own3 t w.drew lo hi u1 z1 u2 z2 u3 z3 := h.below ((Below.refl _ _).drew)
theorem Own3.alloc (h : Own3 t w lo hi u1 z1 u2 z2 u3 z3) (o : Obj) : Own3 t (w.alloc o) lo hi u1 z1 u2 z2 u3 z3 := h.below ((Below.refl _ _).alloc (Nat.le_refl _) o)
theorem Own3.setCell (h : Own3 t w lo hi u1 z1 u2 z2 u3 z3) {p : Addr} (hp : p.block < lo ∨ hi ≤ p.block) (x : Value) : Own3 t (w.setCell p x) lo hi u1 z1 u2 z2 u3 z3 := by
  obtain ⟨l1, h1, l2, h2, l3, h3, o1, o2, o3, s⟩ := h.ex
  exact ⟨l1, h1, l2, h2, l3, h3, o1.setCell (by omega) x, o2.setCell (by omega) x, o3.setCell (by omega) x, s⟩
theorem Own3.wide {lo' hi' : Nat} (h : Own3 t w lo hi u1 z1 u2 z2 u3 z3) (hl : lo' ≤ lo) (hh : hi ≤ hi') : Own3 t w lo' hi' u1 z1 u2 z2 u3 z3 := by
  obtain ⟨l1, h1, l2, h2, l3, h3, o1, o2, o3, s⟩ := h.ex
  exact ⟨l1, h1, l2, h2, l3, h3, o1, o2, o3, by omega⟩
theorem Own3.len (h : Own3 t w lo hi u1 z1 u2 z2 u3 z3) : z1.length ≤ 1000000000 ∧ z2.length ≤ 1000000000 ∧ z3.length ≤ 1000000000 := by
  obtain ⟨l1, h1, l2, h2, l3, h3, o1, o2, o3, s⟩ := h.ex
  exact ⟨o1.len, o2.len, o3.len⟩
theorem Own3.rd {a b d : Option Addr} {n c m e k f : Nat} (h : Own3 t w lo hi (.slice a n c) z1 (.slice b m e) z2 (.slice d k f) z3) : Rd3 w a z1 b z2 d z3 := by
  obtain ⟨l1, h1, l2, h2, l3, h3, o1, o2, o3, s⟩ := h.ex
  exact ⟨o1.rd, o2.rd, o3.rd⟩
theorem own3_nil (t : TypeId) (w : World) (lo hi : Nat) (hl : lo ≤ hi) : Own3 t w lo hi (.slice none 0 0) [] (.slice none 0 0) [] (.slice none 0 0) [] :=
  have n : Own t w lo lo (.slice none 0 0) [] := ⟨World.ownsRow_nil _ _ _ _, by simp [Value.ownBlock], by simp⟩
  ⟨lo, lo, lo, lo, lo, lo, n, n, n, by omega⟩
end

theorem bx_put7 {X : World} {G : Nat} {t : TypeId} {a0 a1 a2 a3 a4 a5 a6 b0 b1 b2 b3 b4 b5 b6 : Value} (h : Bx X G t #[a0, a1, a2, a3, a4, a5, a6]) :
    Bx (((((((X.setCell ⟨G, 0, none⟩ b0).setCell ⟨G, 1, none⟩ b1).setCell ⟨G, 2, none⟩ b2).setCell ⟨G, 3, none⟩ b3).setCell ⟨G, 4, none⟩ b4).setCell ⟨G, 5, none⟩ b5).setCell ⟨G, 6, none⟩ b6) G t #[b0, b1, b2, b3, b4, b5, b6] := by
  have h1 : Bx (X.setCell ⟨G, 0, none⟩ b0) G t #[b0, a1, a2, a3, a4, a5, a6] := h.set_ 0 b0
  have h2 : Bx ((X.setCell ⟨G, 0, none⟩ b0).setCell ⟨G, 1, none⟩ b1) G t #[b0, b1, a2, a3, a4, a5, a6] := h1.set_ 1 b1
  have h3 : Bx (((X.setCell ⟨G, 0, none⟩ b0).setCell ⟨G, 1, none⟩ b1).setCell ⟨G, 2, none⟩ b2) G t #[b0, b1, b2, a3, a4, a5, a6] := h2.set_ 2 b2
  have h4 : Bx ((((X.setCell ⟨G, 0, none⟩ b0).setCell ⟨G, 1, none⟩ b1).setCell ⟨G, 2, none⟩ b2).setCell ⟨G, 3, none⟩ b3) G t #[b0, b1, b2, b3, a4, a5, a6] := h3.set_ 3 b3
  have h5 : Bx (((((X.setCell ⟨G, 0, none⟩ b0).setCell ⟨G, 1, none⟩ b1).setCell ⟨G, 2, none⟩ b2).setCell ⟨G, 3, none⟩ b3).setCell ⟨G, 4, none⟩ b4) G t #[b0, b1, b2, b3, b4, a5, a6] := h4.set_ 4 b4
  have h6 : Bx ((((((X.setCell ⟨G, 0, none⟩ b0).setCell ⟨G, 1, none⟩ b1).setCell ⟨G, 2, none⟩ b2).setCell ⟨G, 3, none⟩ b3).setCell ⟨G, 4, none⟩ b4).setCell ⟨G, 5, none⟩ b5) G t #[b0, b1, b2, b3, b4, b5, a6] := h5.set_ 5 b5
  have h7 : Bx (((((((X.setCell ⟨G, 0, none⟩ b0).setCell ⟨G, 1, none⟩ b1).setCell ⟨G, 2, none⟩ b2).setCell ⟨G, 3, none⟩ b3).setCell ⟨G, 4, none⟩ b4).setCell ⟨G, 5, none⟩ b5).setCell ⟨G, 6, none⟩ b6) G t #[b0, b1, b2, b3, b4, b5, b6] := h6.set_ 6 b6
  exact h7

/-- Two machines are equal (a word that the walk does not open). -/
def macEqB (m n : Mac) : Bool := regEqB m.b1 n.b1 m.z1 n.z1 && (regEqB m.b2 n.b2 m.z2 n.z2 && (regEqB m.b3 n.b3 m.z3 n.z3 && decide (m.p = n.p)))
theorem macEqB_self (m : Mac) : macEqB m m = true := by simp [macEqB, regEqB]
end Go.Proofs.Ytmjeiagkdcfeiaa
