/-
  impl.AddRegisters, SubRegisters.
-/
import Derived.Test.YtiogbpnnnpodkaaDoorFin
import Derived.Test.YtiogbpnnnpodkaaDoorArS
namespace Go.Proofs.YtiogbpnnnpodkaaDoor
open Go.RowKit

/-- A box of two cells that is written, and then a new block. -/
theorem Bx.put2 {w : World} {g : Nat} {t : TypeId} {a b : Value} (h : Bx w g t #[a, b]) (u v : Value) (o : Obj) :
    (((w.setCell ⟨g, 0, none⟩ u).setCell ⟨g, 1, none⟩ v).alloc o).cell? ⟨g, 0, none⟩ = some u ∧ (((w.setCell ⟨g, 0, none⟩ u).setCell ⟨g, 1, none⟩ v).alloc o).cell? ⟨g, 1, none⟩ = some v := by
  have := ((h.set_ 0 u).set_ 1 v).alloc o
  exact ⟨this.at_ 0 rfl, this.at_ 1 rfl⟩
theorem i64_small {z : Int} (h1 : -1000000000000000000 ≤ z) (h2 : z ≤ 1000000000000000000) : I64 z := by
  have e1 : IntKind.i64.min = -9223372036854775808 := by decide
  have e2 : IntKind.i64.max = 9223372036854775807 := by decide
  simp [I64, Lit.wf, e1, e2]
  omega
theorem all64_tab {B : Int} {f : Nat → Int} {n : Nat} (hB : B ≤ 16) (h : ∀ k, k < n → 0 ≤ f k ∧ f k < B) : All64 (tab f n) := by
  intro z hz
  obtain ⟨k, hk, rfl⟩ := List.getElem_of_mem hz
  rw [tab_len] at hk
  have e := tab_nth (f := f) (n := n) (i := k) hk
  rw [nth_get (by rw [tab_len]; exact hk)] at e
  rw [e]
  have := h k hk
  exact i64_small (by omega) (by omega)
theorem sumD_bd {B : Int} {xs ys : List Int} (hB : 2 ≤ B) (_ : ∀ k, k < xs.length → 0 ≤ nth xs k ∧ nth xs k < B) (_ : ∀ k, k < xs.length → 0 ≤ nth ys k ∧ nth ys k < B) : ∀ k, k < xs.length → 0 ≤ sumD B xs ys k ∧ sumD B xs ys k < B :=
  fun _ _ => ⟨Int.emod_nonneg _ (by omega), Int.emod_lt_of_pos _ (by omega)⟩
theorem subD_bd {B : Int} {xs ys : List Int} (_ : 2 ≤ B) (hx : ∀ k, k < xs.length → 0 ≤ nth xs k ∧ nth xs k < B) (hy : ∀ k, k < xs.length → 0 ≤ nth ys k ∧ nth ys k < B) : ∀ k, k < xs.length → 0 ≤ subD B xs ys k ∧ subD B xs ys k < B := by
  intro k hk
  have h1 := hx k hk
  have h2 := hy k hk
  have h3 := bK_bd B xs ys k
  unfold subD
  split <;> omega

end Go.Proofs.YtiogbpnnnpodkaaDoor
