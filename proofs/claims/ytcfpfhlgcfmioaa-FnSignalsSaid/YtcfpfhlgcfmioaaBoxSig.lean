/-
  A signal that a region lays into a box of its own making, before or behind the call that gives it.
-/
import Derived.Test.YtcfpfhlgcfmioaaSignalS
import Derived.Deep.Cut
namespace Go.Proofs.Ytcfpfhlgcfmioaa
open Go.RowKit

/-- s leads to a box that holds the signal. -/
def BoxSig (W : World) (x : Bool × Bool) (s : Value) (wx : World) : Prop := ∃ g, s = .pointer (some ⟨g, 0, none⟩) ∧
  wx.cell? ⟨g, 0, none⟩ = some (.bool x.1) ∧ wx.cell? ⟨g, 1, none⟩ = some (.bool x.2) ∧ Hid (W.heap.size ≤ g) ∧ Hid (g < wx.heap.size) ∧ Below W.heap.size W wx
theorem boxSig_after {W u v : World} {x : Bool × Bool} {t : TypeId} (hk : Below W.heap.size W u) (hb : Below u.heap.size u v) :
    BoxSig W x (.pointer (some ⟨v.heap.size, 0, none⟩)) (v.alloc (.cells #[.bool x.1, .bool x.2] t)) := by
  have h1 := hk.size
  have h2 := hb.size
  refine ⟨_, rfl, ?_, ?_, Lib.hid (by omega), Lib.hid (by simp), (hk.trans (hb.mono h1)).alloc (by omega) _⟩
  · exact (Bx.new v #[.bool x.1, .bool x.2] t).at_ 0 rfl
  · exact (Bx.new v #[.bool x.1, .bool x.2] t).at_ 1 rfl
theorem boxSig_before {W u v : World} {x : Bool × Bool} {g : Nat} {t : TypeId} {c0 c1 : Value} (hk : Below W.heap.size W u) (hb : Below u.heap.size u v)
    (bz : Bx v g t #[c0, c1]) (h1 : Hid (W.heap.size ≤ g)) (h2 : Hid (g < u.heap.size)) :
    BoxSig W x (.pointer (some ⟨g, 0, none⟩)) ((v.setCell ⟨g, 0, none⟩ (.bool x.1)).setCell ⟨g, 1, none⟩ (.bool x.2)) := by
  have h3 := hk.size
  have h4 := hb.size
  have h5 := h1.out
  have h6 := h2.out
  replace bz := ((bz.set_ 0 (.bool x.1)).set_ 1 (.bool x.2))
  refine ⟨_, rfl, bz.at_ 0 rfl, bz.at_ 1 rfl, Lib.hid h5, Lib.hid (by simp; omega), ?_⟩
  exact ((hk.trans (hb.mono h3)).setCell h5 _).setCell h5 _
end Go.Proofs.Ytcfpfhlgcfmioaa
