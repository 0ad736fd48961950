/-
  Copies of numbers: slices.Clone, spec.l00Own; spec.l00Max, l00Min.
-/
import Derived.Test.YtcfpfhlgcfmioaaRow
import Derived.Test.YtcfpfhlgcfmioaaApp
import Derived.Test.YtcfpfhlgcfmioaaToI
import Derived.Lib.SliceRun
namespace Go.Proofs.Ytcfpfhlgcfmioaa
open Go.RowKit

theorem rd_news {w : World} {b off : Nat} {zs : List Int} (h : Rd w (some ⟨b, off, none⟩) zs) : ∀ j u, (zs.map (Value.int .i64))[j]? = some u → w.cell? ((⟨b, off, none⟩ : Addr).add j) = some u := by
  intro j u hj
  rw [List.getElem?_map] at hj
  have hlt : j < zs.length := by
    rcases Nat.lt_or_ge j zs.length with h1 | h1
    · exact h1
    · rw [List.getElem?_eq_none h1] at hj; cases hj
  rw [List.getElem?_eq_getElem hlt, Option.map_some] at hj
  injection hj with hj
  subst hj
  obtain ⟨b', off', e, hc⟩ := h.cells (by rintro rfl; simp at hlt)
  injection e with e
  injection e with e1 e2 _
  subst e1 e2
  have := hc j hlt
  rw [nth_get hlt] at this
  have ea : (⟨b, off, none⟩ : Addr).add j = ⟨b, off + j, none⟩ := by
    by_cases h0 : j = 0
    · subst h0; rfl
    · simp [Addr.add, h0]
  rw [ea]; exact this

end Go.Proofs.Ytcfpfhlgcfmioaa
