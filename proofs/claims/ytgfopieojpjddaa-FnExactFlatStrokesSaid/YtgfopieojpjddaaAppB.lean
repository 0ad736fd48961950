/-
  Rows of the call's own that grow, as one block: behind an append it is the old block, or a new one.
-/
import Derived.Test.YtgfopieojpjddaaRow
import Derived.Laws.AppendOwnNone
namespace Go.Proofs.Ytgfopieojpjddaa
open Go.RowKit

/-- A row of its own: nothing, or just block lo. -/
structure Blk (t : TypeId) (s : Nat) (w : World) (lo : Nat) (v : Value) (n : Nat) (cs : List Value) : Prop where
  row : Row t s w lo (lo + 1) v n cs
  le : lo ≤ w.heap.size
section
variable {t : TypeId} {s lo n : Nat} {w w' : World} {v : Value} {cs : List Value}
theorem Blk.below (h : Blk t s w lo v n cs) (hb : Below w.heap.size w w') : Blk t s w' lo v n cs := ⟨h.row.below hb, Nat.le_trans h.le hb.size⟩
theorem Blk.alloc (h : Blk t s w lo v n cs) (o : Obj) : Blk t s (w.alloc o) lo v n cs := h.below ((Below.refl _ _).alloc (Nat.le_refl _) o)
theorem Blk.wide {L : Nat} (h : Blk t s w lo v n cs) (hL : L ≤ lo) : Row t s w L w.heap.size v n cs :=
  ⟨(h.row.wide hL (Nat.le_refl _)).row, fun _ hk => (h.row.lo_le hk).2.2⟩
theorem Blk.touch {a b : Nat} (h : Blk t s w lo v n cs) (ht : Touch a b w w') (hd : lo < a ∨ b ≤ lo) : Blk t s w' lo v n cs := ⟨h.row.touch ht (by omega), Nat.le_trans h.le ht.size⟩
end
section
variable {P : Program} {ops : Array Oper} {rest : List Oper} {o : Oper} {a : Act} {Q : Exit → Act → World → Prop} {w : World}
theorem append_block {t ty e : TypeId} {i : TypeInfo} {z v' : Value} {w' : World} (ht : P.underlying t = some (.slice e)) (hi : P.info? e = some i) (hz : i.zero = some z) {lo n : Nat} {A : Option Addr} {C : Nat} {cs : List Value} (hown : w.ownsRow lo e i.size (.slice A n C) n cs)
    {ad : Addr} {m c : Nat} {news : List Value} (hl : news.length = m * i.size) (hc : ∀ j u, news[j]? = some u → w.cell? (ad.add j) = some u) (h1 : ∀ u ∈ news, u.oneCell' = true) (hn : n + m ≤ 1000000000) (hby : (n + m) * i.bytes ≤ 140737488355328)
    (hr : (Builtin.append_ #[t, t] ty #[.slice A n C, .slice (some ad) m c]).run P w = .ok v' w') : v'.ownBlock = (Value.slice A n C).ownBlock ∨ v'.ownBlock = some w.heap.size := by
  rcases hown.2 with ⟨hv, h0⟩ | ⟨g, cap, cur, hv, hbg, hg, hnc, hcm, hcs, htake⟩
  · injection hv with e1 e2 e3
    subst e1 e2 e3
    by_cases hm : m = 0
    · subst hm
      have hr2 : (Builtin.append_ #[t, t] ty #[.slice none 0 0, .slice (some ad) 0 c]).run P w = .ok (.slice none 0 0) w := by
        simp [Builtin.append_, run_underlying ht, sizeOf, typeInfo, hi, Builtin.lenOf, Builtin.firstCells, loadCells, loadCellsFrom]
      rw [hr] at hr2
      injection hr2 with h2 _
      rw [h2]
      exact .inl rfl
    · have hr2 := run_append_nil (P := P) w t ty e i z ht hi hz ad m c news hl hc (by omega) (by omega) (by rw [Nat.zero_add] at hby; omega)
      rw [hr] at hr2
      injection hr2 with h2 _
      rw [h2]
      exact .inr rfl
  · injection hv with e1 e2 e3
    subst e1 e3
    by_cases hroom : n + m ≤ C
    · have hfit : n * i.size + news.length ≤ cur.size := by rw [hl, hcs, ← Nat.add_mul]; exact Nat.mul_le_mul_right _ hroom
      have hr2 := run_append_room (P := P) w t ty e i ht hi g n C cur hg ad m c news hl hc h1 hroom hfit
      rw [hr] at hr2
      injection hr2 with h2 _
      rw [h2]
      exact .inl rfl
    · have hr2 := run_append_grow (P := P) w t ty e i z ht hi hz ⟨g, 0, none⟩ n C cs hown.1 (hown.cells (g := g) rfl) ad m c news hl hc (by omega) (by omega) (growslice_fits (by omega) hby)
      rw [hr] at hr2
      injection hr2 with h2 _
      rw [h2]
      exact .inr rfl

/-- Elements that can be read, appended. -/
theorem wpList_appB (hgd : o.guard = none) (x y : Operand) (t e : TypeId) (ho : o.op = .call { callee := .builtin .append, args := #[x, y], argTypes := #[t, t] }) (z0 : Value) (s bytes : Nat)
    (ht : P.underlying t = some (.slice e)) (hinfo : (P.info? e).map (fun i => (i.zero, i.size, i.bytes)) = some (some z0, s, bytes)) (hz1 : z0.cells.size = s) (hs0 : 0 < s) (hby : bytes ≤ 128) {lo n : Nat} {A : Option Addr} {C : Nat} {cs : List Value}
    (hx : a.eval x = .slice A n C) (row : Blk e s w lo (.slice A n C) n cs)
    (ad : Addr) (m c : Nat) (news : List Value) (hy : a.eval y = .slice (some ad) m c) (hl : news.length = m * s) (hc : ∀ j u, news[j]? = some u → w.cell? (ad.add j) = some u) (h1 : ∀ u ∈ news, u.oneCell' = true) (hn : n + m ≤ 1000000000)
    (h : ∀ A' C' w' lo', (lo' = lo ∨ w.heap.size ≤ lo') → lo ≤ lo' → (lo < w.heap.size → lo' < w'.heap.size) → Blk e s w' lo' (.slice A' (n + m) C') (n + m) (cs ++ news) → Touch lo (lo + 1) w w' → wpList P ops Q rest (a.put o.dst (.slice A' (n + m) C')) w') :
    wpList P ops Q (o :: rest) a w := by
  obtain ⟨i, hi1, hi2, hi3, hi4⟩ := info_parts hinfo
  subst hi3
  have hb2 : (n + m) * i.bytes ≤ 140737488355328 := by
    have : (n + m) * i.bytes ≤ 1000000000 * 128 := Nat.mul_le_mul hn (by omega)
    omega
  refine wpList_plain hgd fun K hK => ?_
  obtain ⟨v', w', hr, r1, r2, _⟩ := run_append_own (P := P) w lo t o.type e i z0 i.size bytes ht hi1 hi2 rfl hi4 hz1 hs0 _ n cs row.row.row ad m c news hl hc h1 (by unfold maxLen; omega) (by rw [← hi4]; exact hb2) row.le
  have hblk := append_block ht hi1 hi2 row.row.row hl hc h1 hn hb2 hr
  have hT : Touch lo (lo + 1) w w' := ⟨r2.os, r2.tape, r2.output, r2.size, fun k hk ho' => r2.block k hk (by
    intro he
    have := row.row.lo_le he.symm
    omega)⟩
  have hsz := r2.size
  have fin : ∀ A' C' lo', v' = .slice A' (n + m) C' → (lo' = lo ∨ w.heap.size ≤ lo') → lo ≤ lo' → (lo < w.heap.size → lo' < w'.heap.size) → Blk e i.size w' lo' (.slice A' (n + m) C') (n + m) (cs ++ news) → o.wp P a w K Q := by
    rintro A' C' lo' rfl q1 q2 q3 q4
    unfold Oper.wp
    simp [execOp, ho, resolve, invoke, builtin, hx, hy, hr, Result.andThen]
    exact hK _ _ (h A' C' w' lo' q1 q2 q3 q4 hT)
  rcases r1.2 with ⟨hv, h0⟩ | ⟨g, cap, cur, hv, hg0, r⟩
  · have e0 : n + m = 0 := h0
    refine fin none 0 lo (by rw [hv, e0]) (.inl rfl) (Nat.le_refl _) (fun q => by omega) ⟨⟨⟨r1.1, .inl ⟨by rw [e0], h0⟩⟩, fun k hk => by simp [Value.ownBlock] at hk⟩, Nat.le_trans row.le hsz⟩
  · have hob : v'.ownBlock = some g := by rw [hv]; rfl
    have hlt := r1.lt g hob
    have hgl : g = lo ∨ w.heap.size ≤ g := by
      rcases hblk with h2 | h2
      · rw [hob] at h2
        have := row.row.lo_le h2.symm
        left; omega
      · rw [hob] at h2; injection h2 with h2; right; omega
    refine fin _ _ g hv hgl hg0 (fun _ => hlt.2) ⟨⟨⟨r1.1, .inr ⟨g, cap, cur, rfl, Nat.le_refl _, r⟩⟩, fun k hk => by simp [Value.ownBlock] at hk; omega⟩, by omega⟩
end
end Go.Proofs.Ytgfopieojpjddaa
