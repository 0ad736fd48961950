/-
  Two registers of a function's own, in any order of their memory; rows of one and two numbers.
-/
import Derived.Test.YtmdngcoccekdgaaTabM
import Derived.Test.YtmdngcoccekdgaaFwI
import Derived.Test.YtmdngcoccekdgaaApp
namespace Go.Proofs.Ytmdngcoccekdgaa
open Go.RowKit

/-- Two registers of its own, apart from each other, and a code. -/
def TwoAny (R : Int × List Int × Int × List Int × Int) (w : World) (e : Ending) (w' : World) : Prop := ∃ (A : Option Addr) (C : Nat) (D : Option Addr) (E : Nat) (m : (Nat × Nat) × (Nat × Nat)),
  e = .returned (.tuple #[.agg #[.int .i64 R.1, .slice A R.2.1.length C], .agg #[.int .i64 R.2.2.1, .slice D R.2.2.2.1.length E], .int .i64 R.2.2.2.2]) ∧
  Own 2 w' m.1.1 m.1.2 (.slice A R.2.1.length C) R.2.1 ∧ Own 2 w' m.2.1 m.2.2 (.slice D R.2.2.2.1.length E) R.2.2.2.1 ∧ (w.heap.size ≤ m.1.1 ∧ w.heap.size ≤ m.2.1 ∧ m.1.2 ≤ w'.heap.size ∧ m.2.2 ≤ w'.heap.size) ∧ (m.1.2 ≤ m.2.1 ∨ m.2.2 ≤ m.1.1) ∧ Below w.heap.size w w'
theorem twoAny_err {R : Int × List Int × Int × List Int × Int} {c : Int} {w w' : World} {e : Ending} (h : R = (0, [], 0, [], c)) (he : e = .returned (.tuple #[.agg #[.int .i64 0, .slice none 0 0], .agg #[.int .i64 0, .slice none 0 0], .int .i64 c])) (hb : Below w.heap.size w w') : TwoAny R w e w' := by
  subst h
  exact ⟨none, 0, none, 0, ((w.heap.size, w.heap.size), (w.heap.size, w.heap.size)), he, own_nil _ _ _ _, own_nil _ _ _ _, ⟨Nat.le_refl _, Nat.le_refl _, hb.size, hb.size⟩, .inl (Nat.le_refl _), hb⟩
theorem twoAny_ok {R : Int × List Int × Int × List Int × Int} {b : Int} {xs ys : List Int} {w w' : World} {e : Ending} {A D : Option Addr} {C E n k l1 h1 l2 h2 : Nat} (h : R = (b, xs, b, ys, 0)) (hn : xs.length = n) (hk : ys.length = k)
    (he : e = .returned (.tuple #[.agg #[.int .i64 b, .slice A n C], .agg #[.int .i64 b, .slice D k E], .int .i64 0])) (o1 : Own 2 w' l1 h1 (.slice A n C) xs) (o2 : Own 2 w' l2 h2 (.slice D k E) ys)
    (b1 : w.heap.size ≤ l1) (b2 : w.heap.size ≤ l2) (b3 : h1 ≤ w'.heap.size) (b4 : h2 ≤ w'.heap.size) (hd : h1 ≤ l2 ∨ h2 ≤ l1) (hb : Below w.heap.size w w') : TwoAny R w e w' := by
  subst h hn hk
  exact ⟨A, C, D, E, ((l1, h1), (l2, h2)), he, o1, o2, ⟨b1, b2, b3, b4⟩, hd, hb⟩
theorem own_of_cells (e : TypeId) (w : World) (zs : List Int) (hz : zs.length ≤ 1000000) (hne : 0 < zs.length) : Own e (w.alloc (.cells (zs.map (Value.int .i64)).toArray e)) w.heap.size (w.heap.size + 1) (.slice (some ⟨w.heap.size, 0, none⟩) zs.length zs.length) zs := by
  refine ⟨⟨by simp, .inr ⟨w.heap.size, zs.length, (zs.map (Value.int .i64)).toArray, rfl, Nat.le_refl _, heap_alloc_new w _, Nat.le_refl _, by unfold maxLen; omega, by simp, by simpa using List.take_of_length_le (by simp)⟩⟩, ?_, by omega⟩
  intro k hk
  simp [Value.ownBlock] at hk
  omega
theorem own_lit1' (e : TypeId) (w : World) (z : Int) : Own e (w.alloc (.cells #[.int .i64 z] e)) w.heap.size (w.heap.size + 1) (.slice (some ⟨w.heap.size, 0, none⟩) 1 1) [z] := by simpa using own_of_cells e w [z] (by simp) (by simp)
theorem own_lit2 (e : TypeId) (w : World) (z y : Int) : Own e (w.alloc (.cells #[.int .i64 z, .int .i64 y] e)) w.heap.size (w.heap.size + 1) (.slice (some ⟨w.heap.size, 0, none⟩) 2 2) [z, y] := by simpa using own_of_cells e w [z, y] (by simp) (by simp)
theorem twR_code {b : Int} {rs : List Row5} (h : ¬ (tfR b rs).2 = 0) : twR b rs = (0, [], 0, [], (tfR b rs).2) := by rw [twR, if_neg h]
theorem twR_none {b : Int} {rs : List Row5} (h : (tfR b rs).2 = 0) (h2 : (tfR b rs).1 < 0) : twR b rs = (0, [], 0, [], 3) := by rw [twR, if_pos h, if_pos h2]
theorem twR_in {b : Int} {rs : List Row5} {j : Nat} (h : (tfR b rs).2 = 0) (h2 : (tfR b rs).1 = (j : Int)) (h3 : (elt quinF rs j).1 = 1) : twR b rs = (b, [b - 1, (elt quinF rs j).2.1], b, [1, (elt quinF rs j).2.2.1], 0) := by
  rw [twR, if_pos h, if_neg (by omega), h2, Int.toNat_natCast, if_pos h3]
theorem twR_out {b : Int} {rs : List Row5} {j : Nat} (h : (tfR b rs).2 = 0) (h2 : (tfR b rs).1 = (j : Int)) (h3 : ¬ (elt quinF rs j).1 = 1) : twR b rs = (b, [(elt quinF rs j).2.1], b, [(elt quinF rs j).2.2.1], 0) := by
  rw [twR, if_pos h, if_neg (by omega), h2, Int.toNat_natCast, if_neg h3]
theorem tfR_idx {b : Int} {rs : List Row5} (h : (tfR b rs).2 = 0) (h2 : ¬ (tfR b rs).1 < 0) : 2 ≤ b ∧ b ≤ 16 ∧ ∃ j : Nat, j < rs.length ∧ (tfR b rs).1 = (j : Int) := by
  cases hb : baseB b with
  | false => rw [tfR, hb] at h; simp at h
  | true =>
    have hbb := baseB_true hb
    have h3 : (tfR b rs).1 < (rs.length : Int) := by
      unfold tfR at h h2 ⊢
      rw [if_pos hb] at h h2 ⊢
      split at h
      · rw [if_pos (by assumption)] at h2 ⊢
        exact (wrongTo_bd _ _ _).2
      · simp at h
    exact ⟨hbb.1, hbb.2, (tfR b rs).1.toNat, by omega, by omega⟩
end Go.Proofs.Ytmdngcoccekdgaa
