/-
  spec.l02Carries, l02Add, l02Sub.
-/
import Derived.Test.YtcfpfhlgcfmioaaDoorTwoS
import Derived.Test.YtcfpfhlgcfmioaaDoorToI
import Derived.Test.YtcfpfhlgcfmioaaDoorApp
import Derived.Test.YtcfpfhlgcfmioaaDoorOrd
namespace Go.Proofs.YtcfpfhlgcfmioaaDoor
open Go.RowKit

theorem own_lit1 (e : TypeId) (w : World) (z : Int) : Own e (w.alloc (.cells #[.int .i64 z] e)) w.heap.size (w.heap.size + 1) (.slice (some ⟨w.heap.size, 0, none⟩) 1 1) [z] := by
  refine ⟨⟨by simp, .inr ⟨w.heap.size, 1, #[.int .i64 z], rfl, Nat.le_refl _, heap_alloc_new w _, Nat.le_refl _, by unfold maxLen; omega, by simp, by simp⟩⟩, ?_, by simp⟩
  intro k hk
  simp [Value.ownBlock] at hk
  omega

end Go.Proofs.YtcfpfhlgcfmioaaDoor
