/-
  One element more, appended to a slice of the call's own.
-/
import Derived.Test.YtgfopieojpjddaaBase
import Derived.Maps.AppendAt
import Derived.StillTailTactics
namespace Go.Proofs.Ytgfopieojpjddaa
open Go.RowKit

section
variable {P : Program} {ops : Array Oper} {rest : List Oper} {o : Oper} {a : Act} {Q : Exit → Act → World → Prop} {w : World}

/-- One cell more, appended to a row of the call's own. -/
theorem wp_app1 {K : Act → World → Prop} (s x : Operand) (t e : TypeId) (ho : o.op = .call { callee := .builtin .append, args := #[s, x], argTypes := #[t, t] }) (z0 : Value) (bytes : Nat)
    (ht : P.underlying t = some (.slice e)) (hinfo : (P.info? e).map (fun i => (i.zero, i.size, i.bytes)) = some (some z0, 1, bytes)) (hz1 : z0.cells.size = 1) (hby : bytes ≤ 64) {lo hi n : Nat} {A : Option Addr} {C : Nat} {cs : List Value}
    (hs : a.eval s = .slice A n C) (row : w.ownsRow lo e 1 (.slice A n C) n cs) (top : ∀ k, (Value.slice A n C).ownBlock = some k → k < hi)
    (ad : Addr) (c : Nat) (u : Value) (hx : a.eval x = .slice (some ad) 1 c) (hc : w.cell? (ad.add 0) = some u) (h1 : u.oneCell' = true) (hn : n ≤ 2000000000) (hlo : lo ≤ w.heap.size)
    (h : ∀ A' C' w', w'.ownsRow lo e 1 (.slice A' (n + 1) C') (n + 1) (cs ++ [u]) → (∀ k, (Value.slice A' (n + 1) C').ownBlock = some k → k < w'.heap.size) → Touch lo hi w w' → K (a.put o.dst (.slice A' (n + 1) C')) w') :
    o.wp P a w K Q := by
  obtain ⟨i, hi1, hi2, hi3, hi4⟩ := info_parts hinfo
  refine wp_append_own w s x t ho lo e i z0 1 bytes ht hi1 hi2 hi3 hi4 hz1 (by omega) _ n cs hs row ad 1 c [u] hx rfl ?_ (by simpa using h1) (by unfold maxLen; omega) ?_ hlo ?_
  · intro j v hj
    match j, hj with
    | 0, hj => simp at hj; subst hj; exact hc
  · have : (n + 1) * bytes ≤ 2000000001 * 64 := Nat.mul_le_mul (by omega) hby
    omega
  · intro v' w' hown hg _
    have hT : Touch lo hi w w' := ⟨hg.os, hg.tape, hg.output, hg.size, fun k hk ho' => hg.block k hk (by
      intro he
      have h2 := top k he.symm
      have h3 := (row.lt k he.symm).1
      omega)⟩
    have hform : ∃ A' C', v' = .slice A' (n + 1) C' := by
      rcases hown.2 with ⟨_, h0⟩ | ⟨g, cap, cur, hv, _⟩
      · omega
      · exact ⟨_, _, hv⟩
    obtain ⟨A', C', rfl⟩ := hform
    exact h A' C' w' hown (fun k hk => (hown.lt k hk).2) hT

/-- The same for numbers. -/
theorem wp_appI {K : Act → World → Prop} (s x : Operand) (t e : TypeId) (ho : o.op = .call { callee := .builtin .append, args := #[s, x], argTypes := #[t, t] })
    (ht : P.underlying t = some (.slice e)) (hinfo : (P.info? e).map (fun i => (i.zero, i.size, i.bytes)) = some (some (.int .i64 0), 1, 8)) {lo hi n : Nat} {A : Option Addr} {C : Nat} {zs : List Int}
    (hs : a.eval s = .slice A n C) (hown : Own e w lo hi (.slice A n C) zs) (hl : zs.length = n)
    (ad : Addr) (c : Nat) (z : Int) (hx : a.eval x = .slice (some ad) 1 c) (hc : w.cell? (ad.add 0) = some (.int .i64 z)) (hn : n < 1000000000) (hlo : lo ≤ w.heap.size)
    (h : ∀ A' C' w', Own e w' lo w'.heap.size (.slice A' (n + 1) C') (zs ++ [z]) → Touch lo hi w w' → K (a.put o.dst (.slice A' (n + 1) C')) w') :
    o.wp P a w K Q :=
  wp_app1 s x t e ho _ 8 ht hinfo rfl (by omega) hs (by have := hown.row; rwa [hl] at this) hown.top ad c _ hx hc rfl (by omega) hlo fun A' C' w' hr ht' hT =>
    h A' C' w' ⟨by simpa [hl] using hr, ht', by simp; omega⟩ hT

theorem wpList_appI (hgd : o.guard = none) (s x : Operand) (t e : TypeId) (ho : o.op = .call { callee := .builtin .append, args := #[s, x], argTypes := #[t, t] })
    (ht : P.underlying t = some (.slice e)) (hinfo : (P.info? e).map (fun i => (i.zero, i.size, i.bytes)) = some (some (.int .i64 0), 1, 8)) {lo hi n : Nat} {A : Option Addr} {C : Nat} {zs : List Int}
    (hs : a.eval s = .slice A n C) (hown : Own e w lo hi (.slice A n C) zs) (hl : zs.length = n)
    (ad : Addr) (c : Nat) (z : Int) (hx : a.eval x = .slice (some ad) 1 c) (hc : w.cell? (ad.add 0) = some (.int .i64 z)) (hn : n < 1000000000) (hlo : lo ≤ w.heap.size)
    (h : ∀ A' C' w', Own e w' lo w'.heap.size (.slice A' (n + 1) C') (zs ++ [z]) → Touch lo hi w w' → wpList P ops Q rest (a.put o.dst (.slice A' (n + 1) C')) w') :
    wpList P ops Q (o :: rest) a w :=
  wpList_plain hgd fun _ hK => wp_appI s x t e ho ht hinfo hs hown hl ad c z hx hc hn hlo fun A' C' w' h1 h2 => hK _ _ (h A' C' w' h1 h2)
end

theorem own_nil (e : TypeId) (w : World) (lo hi : Nat) : Own e w lo hi (.slice none 0 0) [] := ⟨World.ownsRow_nil _ _ _ _, by simp [Value.ownBlock], by simp⟩

section
variable {t : TypeId} {w : World} {lo hi g n c : Nat} {zs : List Int}
theorem Own.get (h : Own t w lo hi (.slice (some ⟨g, 0, none⟩) n c) zs) {j : Nat} (hj : j < zs.length) : w.cell? ⟨g, j, none⟩ = some (.int .i64 (nth zs j)) := by
  have hn : n = zs.length := by
    rcases h.row.2 with ⟨h0, _⟩ | ⟨_, _, _, hv, _⟩
    · cases h0
    · injection hv
  subst hn
  rw [h.row.cellAt j (by omega), List.getElem?_map, List.getElem?_eq_getElem hj, nth_get hj]
  rfl
theorem Own.thaw (h : Own t w lo hi (.slice (some ⟨g, 0, none⟩) n c) zs) (j : Nat) : w.frozen? ⟨g, j, none⟩ = false := by
  have hn : n = zs.length := by
    rcases h.row.2 with ⟨h0, _⟩ | ⟨_, _, _, hv, _⟩
    · cases h0
    · injection hv
  subst hn
  exact h.row.frozenAt j
theorem Own.put (h : Own t w lo hi (.slice (some ⟨g, 0, none⟩) n c) zs) (j : Nat) (z : Int) : Own t (w.setCell ⟨g, j, none⟩ (.int .i64 z)) lo hi (.slice (some ⟨g, 0, none⟩) n c) (zs.set j z) := by
  have hn : n = zs.length := by
    rcases h.row.2 with ⟨h0, _⟩ | ⟨_, _, _, hv, _⟩
    · cases h0
    · injection hv
  subst hn
  have hs := (h.row.stored j (.int .i64 z)).1
  rw [← List.map_set] at hs
  exact ⟨by simpa using hs, h.top, by simpa using h.len⟩
theorem Own.block (h : Own t w lo hi (.slice (some ⟨g, 0, none⟩) n c) zs) : lo ≤ g ∧ g < hi ∧ g < w.heap.size := h.lo_le rfl
end

/-- Numbers with noughts behind them, up to n. -/
def pad (n : Nat) (zs : List Int) : List Int := zs ++ List.replicate (n - zs.length) 0
theorem pad_len {n : Nat} {zs : List Int} (h : zs.length ≤ n) : (pad n zs).length = n := by simp [pad]; omega
theorem pad_nil (n : Nat) : pad n [] = List.replicate n 0 := by simp [pad]
theorem pad_set {n : Nat} {zs : List Int} (h : zs.length < n) (z : Int) : (pad n zs).set zs.length z = pad n (zs ++ [z]) := by
  unfold pad
  rw [List.set_append_right _ _ (Nat.le_refl _), Nat.sub_self]
  have : n - zs.length = (n - (zs ++ [z]).length) + 1 := by simp; omega
  rw [this, List.replicate_succ, List.set_cons_zero, List.append_assoc, List.singleton_append]
theorem pad_all {n : Nat} {zs : List Int} (h : zs.length = n) : pad n zs = zs := by simp [pad, h]

/-- make([]int64, n). -/
theorem wpList_makeI {P : Program} {w : World} {ops : Array Oper} {rest : List Oper} {o : Oper} {a : Act} {Q : Exit → Act → World → Prop}
    (hg : o.guard = none) (l c : Operand) (t e : TypeId) (hop : o.op = Op.makeSlice t l c) (h1 : P.underlying t = some (.slice e))
    (hinfo : (P.info? e).map (fun i => (i.zero, i.size, i.bytes)) = some (some (.int .i64 0), 1, 8))
    (n : Nat) (hl : a.eval l = .int .i64 n) (hc : a.eval c = .int .i64 n) (hn : n ≤ 1000000000)
    (hK : ∀ w', Own e w' w.heap.size w'.heap.size (.slice (some ⟨w.heap.size, 0, none⟩) n n) (pad n []) → Below w.heap.size w w' → wpList P ops Q rest (a.put o.dst (.slice (some ⟨w.heap.size, 0, none⟩) n n)) w') :
    wpList P ops Q (o :: rest) a w := by
  obtain ⟨i, hi1, hi2, hi3, hi4⟩ := info_parts hinfo
  refine wpList_make_full w hg l c t hop w.heap.size e i _ 1 h1 hi1 hi2 hi3 .i64 .i64 n n n hl hc rfl rfl (by rw [hi4]; omega) (by unfold maxLen; omega) (Nat.le_refl _) fun w' hown hgr => ?_
  have hrow : w'.ownsRow w.heap.size e 1 (.slice (some ⟨w.heap.size, 0, none⟩) n n) (pad n []).length ((pad n []).map (Value.int .i64)) := by
    rw [pad_len (by simp)]
    simpa [pad_nil, toList_madeCells_one, Value.cells] using hown
  exact hK w' ⟨hrow, fun k hk => (hown.lt k hk).2, by rw [pad_len (by simp)]; exact hn⟩ ((Below.refl _ _).grown hgr (Nat.le_refl _) (by simp))
end Go.Proofs.Ytgfopieojpjddaa
