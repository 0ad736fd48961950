/-
  laws: Signal and []Signal: copies, equality, sizes, marks.
-/
import Derived.Test.YtiogbpnnnpodkaaDoorProg
import Derived.Test.YtiogbpnnnpodkaaDoorFlat
import Derived.Test.YtiogbpnnnpodkaaDoorLeft
import Derived.IntWalk
namespace Go.Proofs.YtiogbpnnnpodkaaDoor
open Go.RowKit

/-- A struct of two bools. -/
def sigF : Flat (Bool × Bool) := ⟨2, fun z => [.bool z.1, .bool z.2], (false, false), fun _ => rfl, fun _ v hv => by simp at hv; rcases hv with rfl | rfl <;> rfl, by omega⟩
section
variable {t : TypeId} {w : World} {lo hi g n c k : Nat}
theorem RdF.atS {a : Option Addr} {xs : List (Bool × Bool)} (h : RdF sigF w a xs) (hk : k < xs.length) :
    ∃ b off, a = some ⟨b, off, none⟩ ∧ w.cell? ⟨b, off + k * 2, none⟩ = some (.bool (elt sigF xs k).1) ∧ w.cell? ⟨b, off + k * 2 + 1, none⟩ = some (.bool (elt sigF xs k).2) := by
  obtain ⟨b, off, rfl, hc⟩ := h.at_ hk
  exact ⟨b, off, rfl, hc 0 _ rfl, hc 1 _ rfl⟩
theorem OwnF.getS {xs : List (Bool × Bool)} (h : OwnF sigF t w lo hi (.slice (some ⟨g, 0, none⟩) n c) xs) (hk : k < xs.length) :
    w.cell? ⟨g, k * 2, none⟩ = some (.bool (elt sigF xs k).1) ∧ w.cell? ⟨g, k * 2 + 1, none⟩ = some (.bool (elt sigF xs k).2) :=
  ⟨h.get (j := 0) hk rfl, h.get (j := 1) hk rfl⟩
theorem OwnF.putS {xs : List (Bool × Bool)} (h : OwnF sigF t w lo hi (.slice (some ⟨g, 0, none⟩) n c) xs) (hk : k < xs.length) (x : Bool × Bool) :
    OwnF sigF t ((w.setCell ⟨g, k * 2, none⟩ (.bool x.1)).setCell ⟨g, k * 2 + 1, none⟩ (.bool x.2)) lo hi (.slice (some ⟨g, 0, none⟩) n c) (xs.set k x) := by
  have h1 := h.put (j := 0) hk (y := (x.1, (elt sigF xs k).2)) (u := .bool x.1) (by decide) rfl
  have h2 := h1.put (k := k) (j := 1) (by simpa using hk) (y := (x.1, x.2)) (u := .bool x.2) (by decide) (by rw [elt_set_eq hk]; rfl)
  rwa [List.set_set] at h2
end
/-- A mark. -/
def m3 (z : Int) : Bool := z.tmod 3 == 0
/-- Marks from k on, two for an element. -/
def seqS (k : Int) (n : Nat) : List (Bool × Bool) := (List.range n).map fun i : Nat => (m3 (k + 2 * (i : Int)), m3 (k + 2 * (i : Int) + 1))
theorem seqS_len (k : Int) (n : Nat) : (seqS k n).length = n := by simp [seqS]
theorem seqS_at {k : Int} {n i : Nat} (h : i < n) : elt sigF (seqS k n) i = (m3 (k + 2 * (i : Int)), m3 (k + 2 * (i : Int) + 1)) := elt_range h

theorem m3_name (z : Int) : ∃ r : Int, z.tmod 3 = r ∧ (r == 0) = m3 z ∧ -3 < r ∧ r < 3 := by
  refine ⟨_, rfl, rfl, ?_, ?_⟩ <;> rcases Int.le_total 0 z with h | h
  · rw [Int.tmod_eq_emod_of_nonneg h]; omega
  · obtain ⟨m, rfl⟩ : ∃ m : Nat, z = -(m : Int) := ⟨z.natAbs, by omega⟩
    rw [Int.neg_tmod, Int.tmod_eq_emod_of_nonneg (by omega)]; omega
  · rw [Int.tmod_eq_emod_of_nonneg h]; omega
  · obtain ⟨m, rfl⟩ : ∃ m : Nat, z = -(m : Int) := ⟨z.natAbs, by omega⟩
    rw [Int.neg_tmod, Int.tmod_eq_emod_of_nonneg (by omega)]; omega

end Go.Proofs.YtiogbpnnnpodkaaDoor
