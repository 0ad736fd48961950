/-
  Words for ranges over slices.Backward, whatever the elements are: what has come when k rounds are over.
-/
import Derived.RangeFuncNested
import Derived.RangeFuncBound
import Derived.RangeFuncCalls
import Derived.RangeFuncLeaves
import Derived.RangeFuncBox
import Derived.Shelf.Abstract
import Derived.Shelf.RegionOpen
import Derived.OwnWalkIn
import Derived.TacticsInMore
import Derived.LoopNIn
import Derived.LoopIn
import Derived.Test.YtmdngcoccekdgaaFlat
namespace Go.Proofs.Ytmdngcoccekdgaa
open Go.RowKit Go.Shelf

section
variable {α : Type} (F : Flat α)
/-- An element of which p is known, with its index. -/
abbrev EntF (p : α → Prop) := Nat × { d : α // p d }
/-- The first k entries from the end of zs on. -/
def bwdF {p : α → Prop} (zs : List α) (h : ∀ d ∈ zs, p d) : Nat → List (EntF p)
  | 0 => []
  | k + 1 => if hk : k < zs.length then bwdF zs h k ++ [(zs.length - 1 - k, ⟨zs[zs.length - 1 - k], h _ (List.getElem_mem _)⟩)] else bwdF zs h k
theorem bwdF_succ {p : α → Prop} {zs : List α} {h : ∀ d ∈ zs, p d} {k : Nat} (hk : k < zs.length) :
    bwdF zs h (k + 1) = bwdF zs h k ++ [(zs.length - 1 - k, ⟨zs[zs.length - 1 - k], h _ (List.getElem_mem _)⟩)] := by rw [bwdF, dif_pos hk]
variable {F}
theorem bwdF_step {p : α → Prop} {zs : List α} {h : ∀ d ∈ zs, p d} {k j : Nat} (hj : k + (j + 1) = zs.length) (hpj : p (elt F zs j)) : bwdF zs h (k + 1) = bwdF zs h k ++ [(j, ⟨elt F zs j, hpj⟩)] := by
  have e : zs.length - 1 - k = j := by omega
  rw [bwdF_succ (by omega)]
  congr 2
  have hg : elt F zs j = zs[zs.length - 1 - k] := by rw [elt_get (by omega)]; congr 1; exact e.symm
  simp [e, hg]
theorem bwdF_len {p : α → Prop} {zs : List α} {h : ∀ d ∈ zs, p d} : ∀ {k : Nat}, k ≤ zs.length → (bwdF zs h k).length = k
  | 0, _ => rfl
  | k + 1, hk => by rw [bwdF_succ (by omega), List.length_append, bwdF_len (by omega)]; rfl
/-- A fold over what has come is a fold over the end of the list. -/
theorem bwdF_fold {p : α → Prop} {β : Type} (f : β → α → β) (s : β) {zs : List α} {h : ∀ d ∈ zs, p d} : ∀ {k : Nat}, k ≤ zs.length → (bwdF zs h k).foldl (fun t x => f t x.2.1) s = (zs.drop (zs.length - k)).foldr (fun x t => f t x) s
  | 0, _ => by simp [bwdF]
  | k + 1, hk => by
    rw [bwdF_succ (by omega), List.foldl_append, bwdF_fold f s (by omega), List.drop_eq_getElem_cons (show zs.length - (k + 1) < zs.length by omega)]
    have e1 : zs.length - (k + 1) + 1 = zs.length - k := by omega
    have e3 : zs[zs.length - 1 - k] = zs[zs.length - (k + 1)] := by congr 1; omega
    simp [e1, e3]
end

/-- What a round must keep: what lay below n₀, and the box of the slice that is ranged over. -/
def KeepF (n₀ Bs : Nat) (W W' : World) : Prop := Below n₀ W W' ∧ W'.heap[Bs]? = W.heap[Bs]?
theorem KeepF.refl (n₀ Bs : Nat) (W : World) : KeepF n₀ Bs W W := ⟨Below.refl _ _, rfl⟩
theorem keepF_t {n₀ Bs : Nat} {A B C : World} (h : KeepF n₀ Bs A B) (k : KeepF n₀ Bs B C) : KeepF n₀ Bs A C := ⟨h.1.trans k.1, k.2.trans h.2⟩
theorem keepF_b {n₀ Bs : Nat} {w : World} (hn : n₀ ≤ w.heap.size) (hB : Bs < w.heap.size) (W : World) (l : Nat) (o o' : Obj) (hl : w.heap.size ≤ l) (h : W.heap[l]? = some o) (_ : o.isCells = false) (_ : o.isWalk = false) : KeepF n₀ Bs W (W.putObj l o') :=
  ⟨belowK_b hn W l o o' hl h ‹_› ‹_›, (grownBy_putObj' W l o').block Bs (by have := (Array.getElem?_eq_some_iff.1 h).1; omega) (by intro e; cases e; omega)⟩
theorem KeepF.cell {n₀ Bs : Nat} {W W' : World} (h : KeepF n₀ Bs W W') {o : Nat} {v : Value} (hc : W.cell? ⟨Bs, o, none⟩ = some v) : W'.cell? ⟨Bs, o, none⟩ = some v := (World.cell?_of_block h.2).trans hc
theorem KeepF.set_ {n₀ Bs : Nat} (W : World) {p : Addr} (h1 : n₀ ≤ p.block) (h2 : p.block ≠ Bs) (u : Value) : KeepF n₀ Bs W (W.setCell p u) :=
  ⟨(Below.refl _ _).setCell h1 _, Below.heap_setCell _ _ _ _ (by omega)⟩
theorem KeepF.of_below {n₀ Bs : Nat} {W W' : World} (h : Below W.heap.size W W') (hn : n₀ ≤ W.heap.size) (hB : Bs < W.heap.size) : KeepF n₀ Bs W W' := ⟨h.mono hn, h.block Bs hB⟩
theorem KeepF.alloc_ {n₀ Bs : Nat} (W : World) (hn : n₀ ≤ W.heap.size) (hB : Bs < W.heap.size) (o : Obj) : KeepF n₀ Bs W (W.alloc o) := ⟨(Below.refl _ _).alloc hn _, Below.heap_alloc _ _ _ hB⟩
theorem KeepF.drew_ {n₀ Bs : Nat} (W : World) : KeepF n₀ Bs W W.drew := ⟨(Below.refl _ _).drew, rfl⟩
end Go.Proofs.Ytmdngcoccekdgaa
