/-
  Two rows of int64 that belong to one value.
-/
import Derived.Test.YtgfopieojpjddaaDoorBase
namespace Go.Proofs.YtgfopieojpjddaaDoor
open Go.RowKit

theorem Touch.widen {lo hi lo' hi' : Nat} {w w' : World} (h : Touch lo hi w w') (h1 : lo' ≤ lo) (h2 : hi ≤ hi') : Touch lo' hi' w w' :=
  ⟨h.os, h.tape, h.output, h.size, fun k hk ho => h.block k hk (by omega)⟩
theorem Touch.then_ {a b lo hi : Nat} {w w1 w2 : World} (h : Touch a b w w1) (k : Touch lo hi w1 w2) (hl : w.heap.size ≤ lo) : Touch a b w w2 :=
  ⟨k.os.trans h.os, k.tape.trans h.tape, k.output.trans h.output, Nat.le_trans h.size k.size, fun i hi ho => (k.block i (by have := h.size; omega) (.inl (by omega))).trans (h.block i hi ho)⟩
/-- What is owned lies below the heap's size. -/
theorem Own.tight {t : TypeId} {w : World} {lo hi : Nat} {v : Value} {zs : List Int} (h : Own t w lo hi v zs) : Own t w lo (min hi w.heap.size) v zs :=
  ⟨h.row, fun k hk => by have := h.lo_le hk; omega, h.len⟩

/-- Two rows that can be read. -/
structure Rd2 (w : World) (a : Option Addr) (z1 : List Int) (b : Option Addr) (z2 : List Int) : Prop where
  p : Rd w a z1
  q : Rd w b z2
theorem Rd2.below {w w' : World} {a b : Option Addr} {z1 z2 : List Int} (h : Rd2 w a z1 b z2) (hb : Below w.heap.size w w') : Rd2 w' a z1 b z2 := ⟨h.p.below hb, h.q.below hb⟩
theorem Rd2.drewN {w : World} {a b : Option Addr} {z1 z2 : List Int} (h : Rd2 w a z1 b z2) (n : Nat) : Rd2 (w.drewN n) a z1 b z2 := ⟨h.p.drewN n, h.q.drewN n⟩
theorem Rd2.len {w : World} {a b : Option Addr} {z1 z2 : List Int} (h : Rd2 w a z1 b z2) : z1.length ≤ 1000000000 ∧ z2.length ≤ 1000000000 := ⟨h.p.len, h.q.len⟩

/-- Two rows that came in: of whatever length. -/
structure Raw2 (w : World) (a : Option Addr) (z1 : List Int) (b : Option Addr) (z2 : List Int) : Prop where
  p : Raw w a z1
  q : Raw w b z2
theorem Raw2.len {w : World} {a b : Option Addr} {z1 z2 : List Int} (h : Raw2 w a z1 b z2) : z1.length ≤ 9223372036854775807 ∧ z2.length ≤ 9223372036854775807 := ⟨h.p.len, h.q.len⟩
theorem Raw2.wf {w : World} {a b : Option Addr} {z1 z2 : List Int} (h : Raw2 w a z1 b z2) : All64 z1 ∧ All64 z2 := ⟨h.p.wf, h.q.wf⟩
theorem Raw2.rd {w : World} {a b : Option Addr} {z1 z2 : List Int} (h : Raw2 w a z1 b z2) (hl : z1.length + z2.length ≤ 1000000000) : Rd2 w a z1 b z2 := ⟨h.p.rd (by omega), h.q.rd (by omega)⟩

/-- Two slices of the call's own, among the blocks lo .. hi - 1, apart from each other. -/
structure Own2 (t : TypeId) (w : World) (lo hi : Nat) (u : Value) (z1 : List Int) (v : Value) (z2 : List Int) : Prop where
  ex : ∃ l1 h1 l2 h2, Own t w l1 h1 u z1 ∧ Own t w l2 h2 v z2 ∧ lo ≤ l1 ∧ h1 ≤ hi ∧ lo ≤ l2 ∧ h2 ≤ hi ∧ (h1 ≤ l2 ∨ h2 ≤ l1)
section
variable {t : TypeId} {w w' : World} {lo hi : Nat} {u v : Value} {z1 z2 : List Int}
theorem Own2.touch {a b : Nat} (h : Own2 t w lo hi u z1 v z2) (ht : Touch a b w w') (hd : hi ≤ a ∨ b ≤ lo) : Own2 t w' lo hi u z1 v z2 := by
  obtain ⟨l1, h1, l2, h2, o1, o2, s⟩ := h.ex
  exact ⟨l1, h1, l2, h2, o1.touch ht (by omega), o2.touch ht (by omega), s⟩
theorem Own2.below (h : Own2 t w lo hi u z1 v z2) (hb : Below w.heap.size w w') : Own2 t w' lo hi u z1 v z2 := by
  obtain ⟨l1, h1, l2, h2, o1, o2, s⟩ := h.ex
  exact ⟨l1, h1, l2, h2, o1.below hb, o2.below hb, s⟩
theorem Own2.low {L : Nat} (h : Own2 t w lo hi u z1 v z2) (hb : Below L w w') (hg : hi ≤ L) : Own2 t w' lo hi u z1 v z2 := by
  obtain ⟨l1, h1, l2, h2, o1, o2, s⟩ := h.ex
  exact ⟨l1, h1, l2, h2, Own.lo o1 hb (by omega), Own.lo o2 hb (by omega), s⟩
theorem Own2.drewN (h : Own2 t w lo hi u z1 v z2) (n : Nat) : Own2 t (w.drewN n) lo hi u z1 v z2 := h.below (bel_drewN (Below.refl _ _) n)
theorem Own2.drew (h : Own2 t w lo hi u z1 v z2) : Own2 t w.drew lo hi u z1 v z2 := h.below ((Below.refl _ _).drew)
theorem Own2.alloc (h : Own2 t w lo hi u z1 v z2) (o : Obj) : Own2 t (w.alloc o) lo hi u z1 v z2 := h.below ((Below.refl _ _).alloc (Nat.le_refl _) o)
theorem Own2.setCell (h : Own2 t w lo hi u z1 v z2) {p : Addr} (hp : p.block < lo ∨ hi ≤ p.block) (x : Value) : Own2 t (w.setCell p x) lo hi u z1 v z2 := by
  obtain ⟨l1, h1, l2, h2, o1, o2, s⟩ := h.ex
  exact ⟨l1, h1, l2, h2, o1.setCell (by omega) x, o2.setCell (by omega) x, s⟩
theorem Own2.wide {lo' hi' : Nat} (h : Own2 t w lo hi u z1 v z2) (hl : lo' ≤ lo) (hh : hi ≤ hi') : Own2 t w lo' hi' u z1 v z2 := by
  obtain ⟨l1, h1, l2, h2, o1, o2, s⟩ := h.ex
  exact ⟨l1, h1, l2, h2, o1, o2, by omega⟩
theorem Own2.len (h : Own2 t w lo hi u z1 v z2) : z1.length ≤ 1000000000 ∧ z2.length ≤ 1000000000 := by
  obtain ⟨l1, h1, l2, h2, o1, o2, s⟩ := h.ex
  exact ⟨o1.len, o2.len⟩
theorem Own2.rd {a b : Option Addr} {n c m d : Nat} (h : Own2 t w lo hi (.slice a n c) z1 (.slice b m d) z2) : Rd2 w a z1 b z2 := by
  obtain ⟨l1, h1, l2, h2, o1, o2, s⟩ := h.ex
  exact ⟨o1.rd, o2.rd⟩
theorem own2_nil (lo hi : Nat) (hl : lo ≤ hi) : Own2 t w lo hi (.slice none 0 0) [] (.slice none 0 0) [] :=
  ⟨lo, lo, lo, lo, ⟨World.ownsRow_nil _ _ _ _, by simp [Value.ownBlock], by simp⟩, ⟨World.ownsRow_nil _ _ _ _, by simp [Value.ownBlock], by simp⟩, by omega⟩
end
end Go.Proofs.YtgfopieojpjddaaDoor
