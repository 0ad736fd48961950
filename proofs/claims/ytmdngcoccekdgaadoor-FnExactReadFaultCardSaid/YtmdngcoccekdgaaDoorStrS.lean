/-
  laws: []string: equality, marks.
-/
import Derived.Test.YtmdngcoccekdgaaDoorFlat
import Derived.Test.YtmdngcoccekdgaaDoorMarkT
import Derived.Test.YtmdngcoccekdgaaDoorLeft
import Derived.Lib.SmallJoins
import Derived.Lib.Strings
namespace Go.Proofs.YtmdngcoccekdgaaDoor
open Go.RowKit Go.BigFrame

theorem info_string : (Tryd.prog.info? 9).map (fun i => (i.zero, i.size, i.bytes)) = some (some (.string ByteArray.empty), 1, 16) := by kernel_rfl
/-- The texts of marks from k on. -/
def seqT (k : Int) (n : Nat) : List ByteArray := (List.range n).map fun i : Nat => mtx (k + (i : Int))
theorem seqT_len (k : Int) (n : Nat) : (seqT k n).length = n := by simp [seqT]
theorem seqT_at {k : Int} {n i : Nat} (h : i < n) : elt textF (seqT k n) i = mtx (k + (i : Int)) := elt_range h
section
variable {w : World} {t : TypeId} {lo hi g n c k : Nat}
theorem RdF.atT {a : Option Addr} {xs : List ByteArray} (h : RdF textF w a xs) (hk : k < xs.length) : ∃ b off, a = some ⟨b, off, none⟩ ∧ w.cell? ⟨b, off + k, none⟩ = some (.string (elt textF xs k)) := by
  obtain ⟨b, off, rfl, hc⟩ := h.at_ hk
  refine ⟨b, off, rfl, ?_⟩
  have := hc 0 (.string (elt textF xs k)) rfl
  simpa [textF] using this
theorem OwnF.getT {xs : List ByteArray} (h : OwnF textF t w lo hi (.slice (some ⟨g, 0, none⟩) n c) xs) (hk : k < xs.length) : w.cell? ⟨g, k, none⟩ = some (.string (elt textF xs k)) := by
  have := h.get (k := k) (j := 0) (u := .string (elt textF xs k)) hk rfl
  simpa [textF] using this
theorem OwnF.putT {xs : List ByteArray} (h : OwnF textF t w lo hi (.slice (some ⟨g, 0, none⟩) n c) xs) (hk : k < xs.length) (x : ByteArray) : OwnF textF t (w.setCell ⟨g, k, none⟩ (.string x)) lo hi (.slice (some ⟨g, 0, none⟩) n c) (xs.set k x) := by
  have := h.put (k := k) (j := 0) (y := x) (u := .string x) hk (by decide) rfl
  simpa [textF] using this
end
theorem str_eqB {a b : ByteArray} (h : a = b) : (a.toList == b.toList) = true := by rw [h]; simp
theorem str_neB {a b : ByteArray} (h : ¬ a = b) : (a.toList == b.toList) = false := by
  rw [beq_eq_false_iff_ne]
  intro e
  rw [Lib.toList_data, Lib.toList_data] at e
  exact h (bs_ext e)

end Go.Proofs.YtmdngcoccekdgaaDoor
