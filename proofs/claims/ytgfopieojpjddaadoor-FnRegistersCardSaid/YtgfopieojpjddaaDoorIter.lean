/-
  Words for ranges over slices.Backward: what has come when k rounds are over.
-/
import Derived.RangeFuncNested
import Derived.RangeFuncBound
import Derived.RangeFuncCalls
import Derived.RangeFuncLeaves
import Derived.RangeFuncBox
import Derived.Shelf.Abstract
import Derived.Shelf.RegionOpen
import Derived.OwnWalkIn
import Derived.TacticsInMore
import Derived.LoopNIn
import Derived.LoopIn
import Derived.Test.YtgfopieojpjddaaDoorVal
namespace Go.Proofs.YtgfopieojpjddaaDoor
open Go.RowKit Go.Shelf

/-- A number of which p is known, with its index. -/
abbrev Ent (p : Int → Prop) := Nat × { d : Int // p d }
/-- The first k entries from the end of zs on. -/
def bwd {p : Int → Prop} (zs : List Int) (h : ∀ d ∈ zs, p d) : Nat → List (Ent p)
  | 0 => []
  | k + 1 => if hk : k < zs.length then bwd zs h k ++ [(zs.length - 1 - k, ⟨zs[zs.length - 1 - k], h _ (List.getElem_mem _)⟩)] else bwd zs h k
theorem bwd_succ {p : Int → Prop} {zs : List Int} {h : ∀ d ∈ zs, p d} {k : Nat} (hk : k < zs.length) :
    bwd zs h (k + 1) = bwd zs h k ++ [(zs.length - 1 - k, ⟨zs[zs.length - 1 - k], h _ (List.getElem_mem _)⟩)] := by rw [bwd, dif_pos hk]
theorem bwd_step {p : Int → Prop} {zs : List Int} {h : ∀ d ∈ zs, p d} {k j : Nat} (hj : k + (j + 1) = zs.length) (hpj : p (nth zs j)) : bwd zs h (k + 1) = bwd zs h k ++ [(j, ⟨nth zs j, hpj⟩)] := by
  have e : zs.length - 1 - k = j := by omega
  rw [bwd_succ (by omega)]
  congr 2
  have hg : nth zs j = zs[zs.length - 1 - k] := by rw [nth_get (by omega)]; congr 1; exact e.symm
  simp [e, hg]
theorem bwd_len {p : Int → Prop} {zs : List Int} {h : ∀ d ∈ zs, p d} : ∀ {k : Nat}, k ≤ zs.length → (bwd zs h k).length = k
  | 0, _ => rfl
  | k + 1, hk => by rw [bwd_succ (by omega), List.length_append, bwd_len (by omega)]; rfl
/-- Horner's sum of what has come. -/
def hor {p : Int → Prop} (b : Int) (pre : List (Ent p)) : Int := pre.foldl (fun s x => s * b + x.2.1) 0
theorem hor_snoc {p : Int → Prop} (b : Int) (pre : List (Ent p)) (x : Ent p) : hor b (pre ++ [x]) = hor b pre * b + x.2.1 := by simp [hor]
theorem hor_bwd {p : Int → Prop} (b : Int) {zs : List Int} {h : ∀ d ∈ zs, p d} : ∀ {k : Nat}, k ≤ zs.length → hor b (bwd zs h k) = valR b (zs.drop (zs.length - k))
  | 0, _ => by simp [hor, bwd, valR]
  | k + 1, hk => by
    rw [bwd_succ (by omega), hor_snoc, hor_bwd b (by omega)]
    rw [List.drop_eq_getElem_cons (show zs.length - (k + 1) < zs.length by omega)]
    have e1 : zs.length - (k + 1) + 1 = zs.length - k := by omega
    have e2 : valR b (zs[zs.length - (k + 1)] :: zs.drop (zs.length - (k + 1) + 1)) = zs[zs.length - (k + 1)] + b * valR b (zs.drop (zs.length - (k + 1) + 1)) := rfl
    rw [e2, e1, Int.mul_comm]
    have e3 : zs[zs.length - 1 - k] = zs[zs.length - (k + 1)] := by congr 1; omega
    simp only [e3]
    omega
/-- A sum of highest digits is not greater than the value. -/
theorem valR_drop_le {b : Int} (hb : 1 ≤ b) : ∀ (zs : List Int) (k : Nat), (∀ d ∈ zs, 0 ≤ d ∧ d < b) → valR b (zs.drop k) ≤ valR b zs
  | [], k, _ => by simp [valR]
  | d :: ds, 0, _ => by simp
  | d :: ds, k + 1, h => by
    have h1 := h d (by simp)
    have hds : ∀ x ∈ ds, 0 ≤ x ∧ x < b := fun x hx => h x (by simp [hx])
    have ih := valR_drop_le hb ds k hds
    have h2 := valR_nonneg (by omega : 0 ≤ b) hds
    have h3 : 1 * valR b ds ≤ b * valR b ds := Int.mul_le_mul_of_nonneg_right hb h2
    have e : valR b (d :: ds) = d + b * valR b ds := rfl
    rw [List.drop_succ_cons, e]
    omega

/-- What a round must keep: what lay below n₀, and the box of the slice that is ranged over. -/
def KeepB (n₀ Bs : Nat) (W W' : World) : Prop := Below n₀ W W' ∧ W'.heap[Bs]? = W.heap[Bs]?
theorem KeepB.refl (n₀ Bs : Nat) (W : World) : KeepB n₀ Bs W W := ⟨Below.refl _ _, rfl⟩
theorem keepB_t {n₀ Bs : Nat} {A B C : World} (h : KeepB n₀ Bs A B) (k : KeepB n₀ Bs B C) : KeepB n₀ Bs A C := ⟨h.1.trans k.1, k.2.trans h.2⟩
theorem keepB_b {n₀ Bs : Nat} {w : World} (hn : n₀ ≤ w.heap.size) (hB : Bs < w.heap.size) (W : World) (l : Nat) (o o' : Obj) (hl : w.heap.size ≤ l) (h : W.heap[l]? = some o) (_ : o.isCells = false) (_ : o.isWalk = false) : KeepB n₀ Bs W (W.putObj l o') :=
  ⟨belowK_b hn W l o o' hl h ‹_› ‹_›, (grownBy_putObj' W l o').block Bs (by have := (Array.getElem?_eq_some_iff.1 h).1; omega) (by intro e; cases e; omega)⟩
theorem KeepB.cell {n₀ Bs : Nat} {W W' : World} (h : KeepB n₀ Bs W W') {o : Nat} {v : Value} (hc : W.cell? ⟨Bs, o, none⟩ = some v) : W'.cell? ⟨Bs, o, none⟩ = some v := (World.cell?_of_block h.2).trans hc
theorem KeepB.set_ {n₀ Bs : Nat} (W : World) {p : Addr} (h1 : n₀ ≤ p.block) (h2 : p.block ≠ Bs) (u : Value) : KeepB n₀ Bs W (W.setCell p u) :=
  ⟨(Below.refl _ _).setCell h1 _, Below.heap_setCell _ _ _ _ (by omega)⟩
end Go.Proofs.YtgfopieojpjddaaDoor
