/-
  Rows of bytes; slices.Reverse at []byte; bytes as a string.
-/
import Derived.Test.YtgfopieojpjddaaDoorProg
import Derived.Test.YtgfopieojpjddaaDoorFlat
import Derived.Test.YtgfopieojpjddaaDoorGrow
import Derived.Lib.Hide
import Derived.Laws.IdiomStrings
namespace Go.Proofs.YtgfopieojpjddaaDoor
open Go.RowKit

def byteF : Flat UInt8 := ⟨1, fun b => [.int .u8 (b.toNat : Int)], 0, fun _ => rfl, fun _ v hv => by simp at hv; subst hv; rfl, by omega⟩
theorem info_byte : (Tryd.prog.info? 5).map (fun i => (i.zero, i.size, i.bytes)) = some (some (.int .u8 0), 1, 1) := by kernel_rfl
section
variable {w : World} {t : TypeId} {lo hi g n c k : Nat} {xs : List UInt8}
theorem OwnF.getB (h : OwnF byteF t w lo hi (.slice (some ⟨g, 0, none⟩) n c) xs) (hk : k < xs.length) : w.cell? ⟨g, k, none⟩ = some (.int .u8 ((elt byteF xs k).toNat : Int)) := by
  have := h.get (k := k) (j := 0) (u := .int .u8 ((elt byteF xs k).toNat : Int)) hk rfl
  simpa [byteF] using this
theorem OwnF.putB (h : OwnF byteF t w lo hi (.slice (some ⟨g, 0, none⟩) n c) xs) (hk : k < xs.length) (x : UInt8) : OwnF byteF t (w.setCell ⟨g, k, none⟩ (.int .u8 (x.toNat : Int))) lo hi (.slice (some ⟨g, 0, none⟩) n c) (xs.set k x) := by
  have := h.put (k := k) (j := 0) (y := x) (u := .int .u8 (x.toNat : Int)) hk (by decide) rfl
  simpa [byteF] using this
theorem flat_byte (xs : List UInt8) : flat byteF xs = xs.map fun b => Value.int .u8 (b.toNat : Int) := by
  unfold flat
  rw [List.map_eq_flatMap]
  rfl
/-- Bytes of its own, read as a string. -/
theorem OwnF.text {A : Option Addr} {P : Program} (h : OwnF byteF t w lo hi (.slice A n c) xs) (hne : 0 < xs.length) (src dst e : TypeId) (hs : P.underlying src = some (.slice e)) (he : P.underlying e = some (.int .u8)) (hd : P.underlying dst = some .string) :
    (convert src dst (.slice A n c)).run P w = .ok (.string ⟨xs.toArray⟩) w := by
  obtain ⟨g, rfl, _, _, _⟩ := h.head hne
  have hn := h.num
  subst hn
  refine run_convert_bytes_back w src dst e ⟨g, 0, none⟩ c xs hs he hd fun j hj => ?_
  have := h.getB (k := j) hj
  rw [elt_get hj] at this
  rw [show (⟨g, 0, none⟩ : Addr).add j = ⟨g, j, none⟩ by simp [Addr.add]; exact fun e => e.symm]
  exact this
end

/-- The list when k pairs have been exchanged. -/
def rvK (xs : List UInt8) (k : Nat) : List UInt8 := (List.range xs.length).map fun i => if i < k ∨ xs.length ≤ i + k then elt byteF xs (xs.length - 1 - i) else elt byteF xs i
theorem rvK_len (xs : List UInt8) (k : Nat) : (rvK xs k).length = xs.length := by simp [rvK]
theorem rvK_at {xs : List UInt8} {k i : Nat} (h : i < xs.length) : elt byteF (rvK xs k) i = if i < k ∨ xs.length ≤ i + k then elt byteF xs (xs.length - 1 - i) else elt byteF xs i := elt_range h
theorem rvK_zero (xs : List UInt8) : rvK xs 0 = xs := by
  refine List.ext_getElem (rvK_len _ _) fun i h1 h2 => ?_
  have := rvK_at (k := 0) h2
  rw [elt_get h1, if_neg (by omega), elt_get h2] at this
  exact this
theorem rvK_all {xs : List UInt8} {k : Nat} (h : xs.length ≤ 2 * k + 1) : rvK xs k = xs.reverse := by
  refine List.ext_getElem (by rw [rvK_len, List.length_reverse]) fun i h1 h2 => ?_
  have hi : i < xs.length := by rwa [rvK_len] at h1
  have := rvK_at (k := k) hi
  rw [elt_get h1] at this
  rw [this, List.getElem_reverse]
  split
  · rw [elt_get (by omega)]
  · have e : xs.length - 1 - i = i := by omega
    rw [elt_get hi]
    congr 1
    exact e.symm
theorem rvK_step {xs : List UInt8} {k : Nat} (h : 2 * k + 1 < xs.length) : ((rvK xs k).set k (elt byteF xs (xs.length - 1 - k))).set (xs.length - 1 - k) (elt byteF xs k) = rvK xs (k + 1) := by
  refine List.ext_getElem (by simp [rvK_len]) fun i h1 h2 => ?_
  have hi : i < xs.length := by rwa [rvK_len] at h2
  have e1 := rvK_at (k := k + 1) hi
  rw [elt_get h2] at e1
  rw [e1, List.getElem_set, List.getElem_set]
  have e0 := rvK_at (k := k) hi
  rw [elt_get (by rw [rvK_len]; exact hi)] at e0
  by_cases c1 : xs.length - 1 - k = i
  · rw [if_pos c1, if_pos (by omega)]
    congr 1
    omega
  · rw [if_neg c1]
    by_cases c2 : k = i
    · rw [if_pos c2, if_pos (by omega), c2]
    · rw [if_neg c2, e0]
      by_cases c3 : i < k ∨ xs.length ≤ i + k
      · rw [if_pos c3, if_pos (by omega)]
      · rw [if_neg c3, if_neg (by omega)]

end Go.Proofs.YtgfopieojpjddaaDoor
