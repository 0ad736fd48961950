/-
  spec.l01Split, SplitWords.
-/
import Derived.Test.YtcfpfhlgcfmioaaDoorSplitM
import Derived.Test.YtcfpfhlgcfmioaaDoorStrS
import Derived.Test.YtcfpfhlgcfmioaaDoorInS
import Derived.Deep.Cut
namespace Go.Proofs.YtcfpfhlgcfmioaaDoor
open Go.RowKit

theorem news_text (w : World) (x : ByteArray) (e : TypeId) : ∀ i u, (flat textF [x])[i]? = some u → (w.alloc (.cells #[.string x] e)).cell? ((⟨w.heap.size, 0, none⟩ : Addr).add i) = some u := by
  intro i u hu
  match i, hu with
  | 0, hu => simp [flat, textF] at hu; subst hu; exact cell_new1 w _ _

/-- The parts that are not empty, among the first k. -/
theorem wordsL_step {xs : List ByteArray} {k : Nat} (hk : k < xs.length) : (xs.take (k + 1)).filter someB = (xs.take k).filter someB ++ (if (elt textF xs k).data.toList = [] then [] else [elt textF xs k]) := by
  rw [takeE_succ (F := textF) hk, List.filter_append]
  congr 1
  by_cases h : (elt textF xs k).data.toList = []
  · have hb : someB (elt textF xs k) = false := decide_eq_false (by simpa using h)
    rw [if_pos h, List.filter_cons, hb]; rfl
  · have hb : someB (elt textF xs k) = true := decide_eq_true h
    rw [if_neg h, List.filter_cons, hb]; rfl

end Go.Proofs.YtcfpfhlgcfmioaaDoor
