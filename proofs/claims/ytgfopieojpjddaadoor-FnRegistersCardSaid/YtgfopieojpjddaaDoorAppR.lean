/-
  Elements that can be read, appended to a row of the call's own: one operation of a region that draws.
-/
import Derived.Test.YtgfopieojpjddaaDoorFlat
namespace Go.Proofs.YtgfopieojpjddaaDoor
open Go.RowKit

section
variable {P : Program} {ops : Array Oper} {rest : List Oper} {o : Oper} {a : Act} {Q : Exit → Act → World → Prop} {w : World}
/-- Elements that can be read, appended to a row of the call's own (one operation). -/
theorem wp_appR {K : Act → World → Prop} (x y : Operand) (t e : TypeId) (ho : o.op = .call { callee := .builtin .append, args := #[x, y], argTypes := #[t, t] }) (z0 : Value) (s bytes : Nat)
    (ht : P.underlying t = some (.slice e)) (hinfo : (P.info? e).map (fun i => (i.zero, i.size, i.bytes)) = some (some z0, s, bytes)) (hz1 : z0.cells.size = s) (hs0 : 0 < s) (hby : bytes ≤ 128) {lo hi n : Nat} {A : Option Addr} {C : Nat} {cs : List Value}
    (hx : a.eval x = .slice A n C) (row : Row e s w lo hi (.slice A n C) n cs)
    (ad : Addr) (m c : Nat) (news : List Value) (hy : a.eval y = .slice (some ad) m c) (hl : news.length = m * s) (hc : ∀ j u, news[j]? = some u → w.cell? (ad.add j) = some u) (h1 : ∀ u ∈ news, u.oneCell' = true) (hn : n + m ≤ 1000000000) (hlo : lo ≤ w.heap.size)
    (h : ∀ A' C' w', Row e s w' lo w'.heap.size (.slice A' (n + m) C') (n + m) (cs ++ news) → Touch lo hi w w' → K (a.put o.dst (.slice A' (n + m) C')) w') :
    o.wp P a w K Q := by
  obtain ⟨i, hi1, hi2, hi3, hi4⟩ := info_parts hinfo
  refine wp_append_own w x y t ho lo e i z0 s bytes ht hi1 hi2 hi3 hi4 hz1 hs0 _ n cs hx row.row ad m c news hy hl hc h1 (by unfold maxLen; omega) ?_ hlo ?_
  · have : (n + m) * bytes ≤ 1000000000 * 128 := Nat.mul_le_mul hn hby
    omega
  · intro v' w' hown hg _
    have hT : Touch lo hi w w' := ⟨hg.os, hg.tape, hg.output, hg.size, fun k hk ho' => hg.block k hk (by
      intro he
      have := row.lo_le he.symm
      omega)⟩
    have hform : ∃ A' C', v' = .slice A' (n + m) C' := by
      rcases hown.2 with ⟨h0, h0'⟩ | ⟨g, cap, cur, hv, _⟩
      · exact ⟨none, 0, by rw [h0, h0']⟩
      · exact ⟨_, _, hv⟩
    obtain ⟨A', C', rfl⟩ := hform
    exact h A' C' w' ⟨hown, fun k hk => (hown.lt k hk).2⟩ hT
end
end Go.Proofs.YtgfopieojpjddaaDoor
