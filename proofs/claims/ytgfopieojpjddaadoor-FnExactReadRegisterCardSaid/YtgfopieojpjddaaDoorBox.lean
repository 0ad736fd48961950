/-
  A register that a region lays into a box of its own making, before or behind the call that gives it.
-/
import Derived.Test.YtgfopieojpjddaaDoorReg
import Derived.Deep.Cut
namespace Go.Proofs.YtgfopieojpjddaaDoor
open Go.RowKit

/-- s leads to a box that holds the register; what it owns lies elsewhere. -/
def BoxReg (W : World) (b : Int) (zs : List Int) (s : Value) (wx : World) : Prop := ∃ g A C lo hi, s = .pointer (some ⟨g, 0, none⟩) ∧
  wx.cell? ⟨g, 0, none⟩ = some (.int .i64 b) ∧ wx.cell? ⟨g, 1, none⟩ = some (.slice A zs.length C) ∧ Own 2 wx lo hi (.slice A zs.length C) zs ∧
  Hid (g < lo ∨ hi ≤ g) ∧ Hid (W.heap.size ≤ lo) ∧ Hid (W.heap.size ≤ g) ∧ Hid (g < wx.heap.size) ∧ Hid (hi ≤ wx.heap.size) ∧ Below W.heap.size W wx
theorem boxReg_after {W u v : World} {b : Int} {zs : List Int} {A : Option Addr} {C : Nat} {t : TypeId} (hk : Below W.heap.size W u) (hb : Below u.heap.size u v) (ow : Own 2 v u.heap.size v.heap.size (.slice A zs.length C) zs) :
    BoxReg W b zs (.pointer (some ⟨v.heap.size, 0, none⟩)) (v.alloc (.cells #[.int .i64 b, .slice A zs.length C] t)) := by
  have h1 := hk.size
  have h2 := hb.size
  refine ⟨_, A, C, _, _, rfl, ?_, ?_, ow.alloc _, Lib.hid (.inr (Nat.le_refl _)), Lib.hid h1, Lib.hid (by omega), Lib.hid (by simp), Lib.hid (by simp), (hk.trans (hb.mono h1)).alloc (by omega) _⟩
  · exact (Bx.new v #[.int .i64 b, .slice A zs.length C] t).at_ 0 rfl
  · exact (Bx.new v #[.int .i64 b, .slice A zs.length C] t).at_ 1 rfl
theorem boxReg_before {W u v : World} {b : Int} {zs : List Int} {A : Option Addr} {C g : Nat} {t : TypeId} {c0 c1 : Value} (hk : Below W.heap.size W u) (hb : Below u.heap.size u v)
    (ow : Own 2 v u.heap.size v.heap.size (.slice A zs.length C) zs) (bz : Bx v g t #[c0, c1]) (h1 : Hid (W.heap.size ≤ g)) (h2 : Hid (g < u.heap.size)) :
    BoxReg W b zs (.pointer (some ⟨g, 0, none⟩)) ((v.setCell ⟨g, 0, none⟩ (.int .i64 b)).setCell ⟨g, 1, none⟩ (.slice A zs.length C)) := by
  have h3 := hk.size
  have h4 := hb.size
  have h5 := h1.out
  have h6 := h2.out
  replace bz := ((bz.set_ 0 (.int .i64 b)).set_ 1 (.slice A zs.length C))
  refine ⟨_, A, C, _, _, rfl, bz.at_ 0 rfl, bz.at_ 1 rfl, (ow.setCell (.inl h6) _).setCell (.inl h6) _, Lib.hid (.inl h6), Lib.hid h3, Lib.hid h5, Lib.hid (by simp; omega), Lib.hid (by simp), ?_⟩
  exact ((hk.trans (hb.mono h3)).setCell h5 _).setCell h5 _
end Go.Proofs.YtgfopieojpjddaaDoor
