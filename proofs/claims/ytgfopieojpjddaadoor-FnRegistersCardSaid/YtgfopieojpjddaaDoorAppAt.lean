/-
  One number more, appended to a row that has its block for itself: it lies in the same block, or in a new one.
-/
import Derived.Test.YtgfopieojpjddaaDoorApp
namespace Go.Proofs.YtgfopieojpjddaaDoor
open Go.RowKit

section
variable {P : Program} {ops : Array Oper} {rest : List Oper} {o : Oper} {a : Act} {Q : Exit → Act → World → Prop} {w : World}
theorem wp_appAt {K : Act → World → Prop} (s x : Operand) (t e : TypeId) (ho : o.op = .call { callee := .builtin .append, args := #[s, x], argTypes := #[t, t] })
    (ht : P.underlying t = some (.slice e)) (hinfo : (P.info? e).map (fun i => (i.zero, i.size, i.bytes)) = some (some (.int .i64 0), 1, 8)) {g n : Nat} {A : Option Addr} {C : Nat} {zs : List Int}
    (hs : a.eval s = .slice A n C) (hown : Own e w g (g + 1) (.slice A n C) zs) (hl : zs.length = n)
    (ad : Addr) (c : Nat) (z : Int) (hx : a.eval x = .slice (some ad) 1 c) (hc : w.cell? (ad.add 0) = some (.int .i64 z)) (hn : n < 1000000000) (hlo : g ≤ w.heap.size)
    (h : ∀ g' C' w', g' = g ∨ g' = w.heap.size → Own e w' g' (g' + 1) (.slice (some ⟨g', 0, none⟩) (n + 1) C') (zs ++ [z]) → Touch g (g + 1) w w' → K (a.put o.dst (.slice (some ⟨g', 0, none⟩) (n + 1) C')) w') :
    o.wp P a w K Q := by
  obtain ⟨i, hi1, hi2, hi3, hi4⟩ := info_parts hinfo
  have row := hown.row
  rw [hl] at row
  obtain ⟨v', w', hr, h2, h3, _, h5⟩ := run_append_own_at (P := P) w g t o.type e i _ 1 8 ht hi1 hi2 hi3 hi4 rfl (by omega) _ n _ row ad 1 c [.int .i64 z] rfl (by
    intro j v hj
    match j, hj with
    | 0, hj => simp at hj; subst hj; exact hc) (by intro u hu; simp at hu; subst hu; rfl) (by unfold maxLen; omega) (by omega) hlo
  unfold Oper.wp execOp
  simp only [ho, resolve, invoke, builtin, Sem.run_bind, Sem.run_pure, Result.andThen_ok, List.map_toArray, List.map_cons, List.map_nil, hs, hx, hr]
  rcases h2.2 with ⟨_, h0⟩ | ⟨g', cap, cur, hv, hg, r⟩
  · omega
  · subst hv
    have hk : g' = g ∨ g' = w.heap.size := by
      rcases h5 with h5 | h5
      · rw [show (Value.slice (some ⟨g', 0, none⟩) (n + 1) cap).ownBlock = some g' from rfl] at h5
        have := hown.lo_le h5.symm
        exact .inl (by omega)
      · rw [show (Value.slice (some ⟨g', 0, none⟩) (n + 1) cap).ownBlock = some g' from rfl] at h5
        injection h5 with h5
        exact .inr h5
    have hT : Touch g (g + 1) w w' := ⟨h3.os, h3.tape, h3.output, h3.size, fun k hk' ho' => h3.block k hk' (by
      intro he
      have := hown.lo_le he.symm
      omega)⟩
    refine h g' cap w' hk ⟨⟨by simp [hl], .inr ⟨g', cap, cur, by simp [hl], Nat.le_refl _, ?_⟩⟩, ?_, by simp; omega⟩ hT
    · simpa [hl] using r
    · intro k hk'
      simp [Value.ownBlock] at hk'
      omega
theorem wpList_appAt (hgd : o.guard = none) (s x : Operand) (t e : TypeId) (ho : o.op = .call { callee := .builtin .append, args := #[s, x], argTypes := #[t, t] })
    (ht : P.underlying t = some (.slice e)) (hinfo : (P.info? e).map (fun i => (i.zero, i.size, i.bytes)) = some (some (.int .i64 0), 1, 8)) {g n : Nat} {A : Option Addr} {C : Nat} {zs : List Int}
    (hs : a.eval s = .slice A n C) (hown : Own e w g (g + 1) (.slice A n C) zs) (hl : zs.length = n)
    (ad : Addr) (c : Nat) (z : Int) (hx : a.eval x = .slice (some ad) 1 c) (hc : w.cell? (ad.add 0) = some (.int .i64 z)) (hn : n < 1000000000) (hlo : g ≤ w.heap.size)
    (h : ∀ g' C' w', g' = g ∨ g' = w.heap.size → Own e w' g' (g' + 1) (.slice (some ⟨g', 0, none⟩) (n + 1) C') (zs ++ [z]) → Touch g (g + 1) w w' → wpList P ops Q rest (a.put o.dst (.slice (some ⟨g', 0, none⟩) (n + 1) C')) w') :
    wpList P ops Q (o :: rest) a w :=
  wpList_plain hgd fun _ hK => wp_appAt s x t e ho ht hinfo hs hown hl ad c z hx hc hn hlo fun g' C' w' h0 h1 h2 => hK _ _ (h g' C' w' h0 h1 h2)
end
end Go.Proofs.YtgfopieojpjddaaDoor
