/-
  Rows of cells that a call owns, whatever their elements are; rows that can be read.
-/
import Derived.Test.YtgfopieojpjddaaBase
import Derived.Maps.AppendAt
import Derived.StillTailTactics
namespace Go.Proofs.Ytgfopieojpjddaa
open Go.RowKit

/-- v is a slice of the call's own: n elements of s cells each, which hold cs; it lies among the blocks lo .. hi - 1. -/
structure Row (t : TypeId) (s : Nat) (w : World) (lo hi : Nat) (v : Value) (n : Nat) (cs : List Value) : Prop where
  row : w.ownsRow lo t s v n cs
  top : ∀ k, v.ownBlock = some k → k < hi

section
variable {t : TypeId} {s : Nat} {w w' : World} {lo hi n : Nat} {v : Value} {cs : List Value}
theorem Row.lo_le (h : Row t s w lo hi v n cs) {k : Nat} (hk : v.ownBlock = some k) : lo ≤ k ∧ k < hi ∧ k < w.heap.size := ⟨(h.row.lt k hk).1, h.top k hk, (h.row.lt k hk).2⟩
theorem Row.touch {a b : Nat} (h : Row t s w lo hi v n cs) (ht : Touch a b w w') (hd : hi ≤ a ∨ b ≤ lo) : Row t s w' lo hi v n cs :=
  ⟨ownsRow_same h.row fun k hk => ht.block k (h.lo_le hk).2.2 (by have := h.lo_le hk; omega), h.top⟩
theorem Row.below (h : Row t s w lo hi v n cs) (hb : Below w.heap.size w w') : Row t s w' lo hi v n cs :=
  ⟨ownsRow_same h.row fun k hk => hb.block k (h.lo_le hk).2.2, h.top⟩
theorem Row.drewN (h : Row t s w lo hi v n cs) (k : Nat) : Row t s (w.drewN k) lo hi v n cs := ⟨h.row, h.top⟩
theorem Row.drew (h : Row t s w lo hi v n cs) : Row t s w.drew lo hi v n cs := ⟨h.row, h.top⟩
theorem Row.alloc (h : Row t s w lo hi v n cs) (o : Obj) : Row t s (w.alloc o) lo hi v n cs := ⟨h.row.alloc o, h.top⟩
theorem Row.setCell (h : Row t s w lo hi v n cs) {p : Addr} (hp : p.block < lo ∨ hi ≤ p.block) (u : Value) : Row t s (w.setCell p u) lo hi v n cs :=
  ⟨ownsRow_same h.row fun k hk => Below.heap_setCell _ _ _ _ (by have := h.lo_le hk; omega), h.top⟩
theorem Row.wide {lo' hi' : Nat} (h : Row t s w lo hi v n cs) (hl : lo' ≤ lo) (hh : hi ≤ hi') : Row t s w lo' hi' v n cs := by
  obtain ⟨⟨h1, h2⟩, h3⟩ := h
  refine ⟨⟨h1, ?_⟩, fun k hk => Nat.lt_of_lt_of_le (h3 k hk) hh⟩
  rcases h2 with h2 | ⟨g, cap, cur, rfl, hg, r⟩
  · exact .inl h2
  · exact .inr ⟨g, cap, cur, rfl, by omega, r⟩
theorem Row.form (h : Row t s w lo hi v n cs) : ∃ a c, v = .slice a n c := by
  rcases h.row.2 with ⟨rfl, hn⟩ | ⟨g, cap, cur, rfl, _⟩
  · exact ⟨none, 0, by rw [hn]⟩
  · exact ⟨_, _, rfl⟩
theorem row_nil (t : TypeId) (s : Nat) (w : World) (lo hi : Nat) : Row t s w lo hi (.slice none 0 0) 0 [] := ⟨World.ownsRow_nil _ _ _ _, by simp [Value.ownBlock]⟩
/-- A new block whose cells are all of its elements. -/
theorem row_new (t : TypeId) (s : Nat) (w : World) (cs : Array Value) (n : Nat) (hn : cs.size = n * s) (hm : n ≤ 1000000000) : Row t s (w.alloc (.cells cs t)) w.heap.size (w.heap.size + 1) (.slice (some ⟨w.heap.size, 0, none⟩) n n) n cs.toList := by
  refine ⟨⟨by simpa using hn, .inr ⟨w.heap.size, n, cs, rfl, Nat.le_refl _, heap_alloc_new w _, Nat.le_refl _, by unfold maxLen; omega, hn, ?_⟩⟩, fun k hk => ?_⟩
  · rw [List.take_of_length_le (by simpa using Nat.le_of_eq hn)]
  · simp [Value.ownBlock] at hk; omega
/-- The cells of an owned row. -/
theorem Row.cell {a : Addr} {c : Nat} (h : Row t s w lo hi (.slice (some a) n c) n cs) {j : Nat} {u : Value} (hj : cs[j]? = some u) : w.cell? (a.add j) = some u := by
  rcases h.row.2 with ⟨hv, _⟩ | ⟨g, cap, cur, hv, hg, hh, _, _, _, htk⟩
  · cases hv
  · injection hv with ha _ _
    injection ha with ha
    subst ha
    have hj2 : j < n * s := by
      have := h.row.1
      rcases Nat.lt_or_ge j cs.length with h1 | h1
      · omega
      · rw [List.getElem?_eq_none h1] at hj; cases hj
    have e : (cur.toList.take (n * s))[j]? = some u := by rw [htk]; exact hj
    rw [List.getElem?_take_of_lt hj2, Array.getElem?_toList] at e
    have ea : (⟨g, 0, none⟩ : Addr).add j = ⟨g, j, none⟩ := by
      by_cases h0 : j = 0
      · subst h0; rfl
      · simp [Addr.add, h0]
    rw [ea, cell_of_row w g j cur t (0, 0) hh]
    exact e
theorem Row.none_ {c : Nat} (h : Row t s w lo hi (.slice none n c) n cs) : n = 0 ∧ c = 0 ∧ cs = [] := by
  rcases h.row.2 with ⟨hv, hn⟩ | ⟨g, cap, cur, hv, _⟩
  · injection hv with _ _ hc
    exact ⟨hn, hc, List.eq_nil_of_length_eq_zero (by rw [h.row.1, hn, Nat.zero_mul])⟩
  · cases hv
theorem Row.len (h : Row t s w lo hi v n cs) : cs.length = n * s := h.row.1

section
variable {P : Program} {ops : Array Oper} {rest : List Oper} {o : Oper} {a : Act} {Q : Exit → Act → World → Prop}
/-- Elements that can be read, appended to a row of the call's own. -/
theorem wpList_appR (hgd : o.guard = none) (x y : Operand) (t e : TypeId) (ho : o.op = .call { callee := .builtin .append, args := #[x, y], argTypes := #[t, t] }) (z0 : Value) (s bytes : Nat)
    (ht : P.underlying t = some (.slice e)) (hinfo : (P.info? e).map (fun i => (i.zero, i.size, i.bytes)) = some (some z0, s, bytes)) (hz1 : z0.cells.size = s) (hs0 : 0 < s) (hby : bytes ≤ 128) {lo hi n : Nat} {A : Option Addr} {C : Nat} {cs : List Value}
    (hx : a.eval x = .slice A n C) (row : Row e s w lo hi (.slice A n C) n cs)
    (ad : Addr) (m c : Nat) (news : List Value) (hy : a.eval y = .slice (some ad) m c) (hl : news.length = m * s) (hc : ∀ j u, news[j]? = some u → w.cell? (ad.add j) = some u) (h1 : ∀ u ∈ news, u.oneCell' = true) (hn : n + m ≤ 1000000000) (hlo : lo ≤ w.heap.size)
    (h : ∀ A' C' w', Row e s w' lo w'.heap.size (.slice A' (n + m) C') (n + m) (cs ++ news) → Touch lo hi w w' → wpList P ops Q rest (a.put o.dst (.slice A' (n + m) C')) w') :
    wpList P ops Q (o :: rest) a w := by
  obtain ⟨i, hi1, hi2, hi3, hi4⟩ := info_parts hinfo
  refine wpList_append_own w hgd x y t ho lo e i z0 s bytes ht hi1 hi2 hi3 hi4 hz1 hs0 _ n cs hx row.row ad m c news hy hl hc h1 (by unfold maxLen; omega) ?_ hlo ?_
  · have : (n + m) * bytes ≤ 1000000000 * 128 := Nat.mul_le_mul hn hby
    omega
  · intro v' w' hown hg _
    have hT : Touch lo hi w w' := ⟨hg.os, hg.tape, hg.output, hg.size, fun k hk ho' => hg.block k hk (by
      intro he
      have := row.lo_le he.symm
      omega)⟩
    have hform : ∃ A' C', v' = .slice A' (n + m) C' := by
      rcases hown.2 with ⟨h0, h0'⟩ | ⟨g, cap, cur, hv, _⟩
      · exact ⟨none, 0, by rw [h0, h0']⟩
      · exact ⟨_, _, hv⟩
    obtain ⟨A', C', rfl⟩ := hform
    exact h A' C' w' ⟨hown, fun k hk => (hown.lt k hk).2⟩ hT
end
end
theorem own_of_row {t : TypeId} {w : World} {lo hi n : Nat} {v : Value} {zs : List Int} (h : Row t 1 w lo hi v n (zs.map (Value.int .i64))) (hn : n = zs.length) (hl : zs.length ≤ 1000000000) : Own t w lo hi v zs := by
  subst hn; exact ⟨h.row, h.top, hl⟩
end Go.Proofs.Ytgfopieojpjddaa
