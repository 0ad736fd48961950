/-
  An abacus that a region lays into a box of its own making, before or behind the call that gives it.
-/
import Derived.Test.YtcfpfhlgcfmioaaAbaL
import Derived.Deep.Cut
namespace Go.Proofs.Ytcfpfhlgcfmioaa
open Go.RowKit

/-- s leads to a box that holds the abacus; what it owns lies elsewhere. -/
def BoxAba (W : World) (U L Wo : Int) (rs : List (Int × Int)) (s : Value) (wx : World) : Prop := ∃ g A C lo hi, s = .pointer (some ⟨g, 0, none⟩) ∧
  wx.cell? ⟨g, 0, none⟩ = some (.int .i64 U) ∧ wx.cell? ⟨g, 1, none⟩ = some (.int .i64 L) ∧ wx.cell? ⟨g, 2, none⟩ = some (.int .i64 Wo) ∧ wx.cell? ⟨g, 3, none⟩ = some (.slice A rs.length C) ∧ OwnF pairF 102 wx lo hi (.slice A rs.length C) rs ∧
  Hid (g < lo ∨ hi ≤ g) ∧ Hid (W.heap.size ≤ lo) ∧ Hid (W.heap.size ≤ g) ∧ Hid (g < wx.heap.size) ∧ Hid (hi ≤ wx.heap.size) ∧ Below W.heap.size W wx
theorem boxAba_after {W u v : World} {U L Wo : Int} {rs : List (Int × Int)} {A : Option Addr} {C : Nat} {t : TypeId} (hk : Below W.heap.size W u) (hb : Below u.heap.size u v) (ow : OwnF pairF 102 v u.heap.size v.heap.size (.slice A rs.length C) rs) :
    BoxAba W U L Wo rs (.pointer (some ⟨v.heap.size, 0, none⟩)) (v.alloc (.cells #[.int .i64 U, .int .i64 L, .int .i64 Wo, .slice A rs.length C] t)) := by
  have h1 := hk.size
  have h2 := hb.size
  have bx := Bx.new v #[.int .i64 U, .int .i64 L, .int .i64 Wo, .slice A rs.length C] t
  exact ⟨_, A, C, _, _, rfl, bx.at_ 0 rfl, bx.at_ 1 rfl, bx.at_ 2 rfl, bx.at_ 3 rfl, ow.alloc _, Lib.hid (.inr (Nat.le_refl _)), Lib.hid h1, Lib.hid (by omega), Lib.hid (by simp), Lib.hid (by simp), (hk.trans (hb.mono h1)).alloc (by omega) _⟩
theorem boxAba_before {W u v : World} {U L Wo : Int} {rs : List (Int × Int)} {A : Option Addr} {C g : Nat} {t : TypeId} {c0 c1 c2 c3 : Value} (hk : Below W.heap.size W u) (hb : Below u.heap.size u v)
    (ow : OwnF pairF 102 v u.heap.size v.heap.size (.slice A rs.length C) rs) (bz : Bx v g t #[c0, c1, c2, c3]) (h1 : Hid (W.heap.size ≤ g)) (h2 : Hid (g < u.heap.size)) :
    BoxAba W U L Wo rs (.pointer (some ⟨g, 0, none⟩)) ((((v.setCell ⟨g, 0, none⟩ (.int .i64 U)).setCell ⟨g, 1, none⟩ (.int .i64 L)).setCell ⟨g, 2, none⟩ (.int .i64 Wo)).setCell ⟨g, 3, none⟩ (.slice A rs.length C)) := by
  have h3 := hk.size
  have h4 := hb.size
  have h5 := h1.out
  have h6 := h2.out
  replace bz := ((((bz.set_ 0 (.int .i64 U)).set_ 1 (.int .i64 L)).set_ 2 (.int .i64 Wo)).set_ 3 (.slice A rs.length C))
  refine ⟨_, A, C, _, _, rfl, bz.at_ 0 rfl, bz.at_ 1 rfl, bz.at_ 2 rfl, bz.at_ 3 rfl, (((ow.setCell (.inl h6) _).setCell (.inl h6) _).setCell (.inl h6) _).setCell (.inl h6) _, Lib.hid (.inl h6), Lib.hid h3, Lib.hid h5, Lib.hid (by simp; omega), Lib.hid (by simp), ?_⟩
  exact ((((hk.trans (hb.mono h3)).setCell h5 _).setCell h5 _).setCell h5 _).setCell h5 _
end Go.Proofs.Ytcfpfhlgcfmioaa
