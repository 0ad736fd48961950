/-
  From a run of one goroutine to a row that says 'leaving'.
-/
import Derived.Conc.Holds
import Derived.Leaving
namespace Go.Proofs.Ytcfpfhlgcfmioaa

theorem leaving_of_handed {a : Assume} {C : Checked} {os : Os} {f : FuncId} {r : Reach} {Pre : World → Array Value → Prop} {Post : World → Array Value → Value → World → Prop}
    (h : ReturnsInHanded a C os f r Pre Post) : ReturnsInLeavingWide a C os f r Pre Post := fun enter => by
  obtain ⟨k1, k2, k3, k4, k5⟩ := h enter
  refine ⟨k1, k2, k3, k4, fun w tape i hf => ?_⟩
  obtain ⟨n, v, w', e1, e2, e3, e4, ⟨j, last, l1, l2, l3⟩, e5⟩ := k5 w tape i hf
  exact ⟨n, v, w', e1, e2, e3, e4, ⟨j, last, l1, l2, l3.2.1, onlyLeaving_of_quiet l3.1, l3.2.2⟩, e5⟩
end Go.Proofs.Ytcfpfhlgcfmioaa
