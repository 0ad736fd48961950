/-
  Rows of the call's own that grow by whole lists: append(xs, ys...), in a range over a function's round and elsewhere.
-/
import Derived.Test.YtgfopieojpjddaaDoorAppR
import Derived.OwnWalkIn
import Derived.RangeFuncOwn
import Derived.RangeFuncWrites
import Derived.Laws.OwnMore
import Derived.Laws.AppendOwnNone
namespace Go.Proofs.YtgfopieojpjddaaDoor
open Go.RowKit

/-- A row of its own that grows: nothing, or one block. -/
def GrowF {α : Type} (F : Flat α) (t : TypeId) (L : Nat) (w : World) (A : Option Addr) (C : Nat) (ms : List α) : Prop := (ms = [] ∧ A = none ∧ C = 0) ∨ ∃ g, A = some ⟨g, 0, none⟩ ∧ L ≤ g ∧ OwnF F t w g (g + 1) (.slice A ms.length C) ms
/-- Below L nothing has turned, and nothing that is no row of e's. -/
def Grows (e : TypeId) (L : Nat) (w w' : World) : Prop := Below L w w' ∧ ∀ (k : Nat) (o : Obj), w.heap[k]? = some o → (∀ cur fz, o ≠ .cells cur e fz) → w'.heap[k]? = some o
theorem Grows.refl (e : TypeId) (L : Nat) (w : World) : Grows e L w w := ⟨Below.refl _ _, fun _ _ h _ => h⟩
theorem no_row {o : Obj} {e : TypeId} (h : o.isCells = false) : ∀ cur fz, o ≠ .cells cur e fz := by
  rintro cur fz rfl
  simp [Obj.isCells] at h
section
variable {α : Type} {F : Flat α} {t : TypeId} {L : Nat} {w w' : World} {A : Option Addr} {C : Nat} {ms : List α}
theorem growF_nil (F : Flat α) (t : TypeId) (L : Nat) (w : World) : GrowF F t L w none 0 [] := .inl ⟨rfl, rfl, rfl⟩
theorem GrowF.own (h : GrowF F t L w A C ms) (_ : L ≤ w.heap.size) : OwnF F t w L w.heap.size (.slice A ms.length C) ms := by
  rcases h with ⟨rfl, rfl, rfl⟩ | ⟨g, rfl, hg, ow⟩
  · exact ownF_nil _ _ _ _ _
  · exact ow.wide hg ow.blk.2.2
theorem OwnF.narrowF {lo hi n : Nat} (h : OwnF F t w lo hi (.slice A n C) ms) : (ms = [] ∧ A = none ∧ n = 0 ∧ C = 0) ∨ ∃ g, A = some ⟨g, 0, none⟩ ∧ lo ≤ g ∧ g < hi ∧ OwnF F t w g (g + 1) (.slice A n C) ms := by
  rcases h.row.row.2 with ⟨hv, h0⟩ | ⟨g, cap, cur, hv, hg, r⟩
  · injection hv with h1 h2 h3
    exact .inl ⟨List.eq_nil_of_length_eq_zero h0, h1, h2, h3⟩
  · injection hv with ha hn hc
    subst ha
    have hlt := h.row.top g rfl
    refine .inr ⟨g, rfl, hg, hlt, ⟨⟨⟨h.row.row.1, .inr ⟨g, cap, cur, by rw [hn, hc], Nat.le_refl _, r⟩⟩, fun k hk => ?_⟩, h.len⟩⟩
    simp [Value.ownBlock] at hk; omega
theorem OwnF.cellsF {g lo hi n : Nat} (h : OwnF F t w lo hi (.slice (some ⟨g, 0, none⟩) n C) ms) : ∃ cur, w.heap[g]? = some (.cells cur t (0, 0)) := by
  rcases h.row.row.2 with ⟨hv, _⟩ | ⟨g', cap, cur, hv, _, hh, _⟩
  · cases hv
  · injection hv with ha _ _
    injection ha with ha
    injection ha with ha
    subst ha
    exact ⟨cur, hh⟩
theorem OwnF.same {lo hi n : Nat} (h : OwnF F t w lo hi (.slice A n C) ms) (hs : ∀ (k : Nat) (o : Obj), lo ≤ k → k < hi → w.heap[k]? = some o → o.isCells = true → w'.heap[k]? = w.heap[k]?) : OwnF F t w' lo hi (.slice A n C) ms := by
  refine ⟨⟨ownsRow_same h.row.row fun k hk => ?_, h.row.top⟩, h.len⟩
  have hb := h.lo_le hk
  rcases h.row.row.2 with ⟨hv, _⟩ | ⟨g', cap, cur, hv, _, hh, _⟩
  · rw [hv] at hk; cases hk
  · rw [hv] at hk
    simp [Value.ownBlock] at hk
    subst hk
    exact hs _ _ hb.1 hb.2.1 hh rfl
theorem GrowF.same (h : GrowF F t L w A C ms) (hs : ∀ (k : Nat) (o : Obj), L ≤ k → w.heap[k]? = some o → o.isCells = true → w'.heap[k]? = w.heap[k]?) : GrowF F t L w' A C ms := by
  rcases h with h | ⟨g, rfl, hg, ow⟩
  · exact .inl h
  · exact .inr ⟨g, rfl, hg, ow.same fun k o h1 _ => hs k o (by omega)⟩
theorem GrowF.row (h : GrowF F t L w A C ms) (hL : L ≤ w.heap.size) :
    ∃ lo hi, L ≤ lo ∧ hi ≤ lo + 1 ∧ lo ≤ w.heap.size ∧ Row t F.sz w lo hi (.slice A ms.length C) ms.length (flat F ms) ∧ ∀ k, lo ≤ k → k < hi → ∃ cur, w.heap[k]? = some (.cells cur t (0, 0)) := by
  rcases h with ⟨rfl, rfl, rfl⟩ | ⟨g, rfl, hg, ow⟩
  · exact ⟨L, L, Nat.le_refl _, by omega, hL, row_nil _ _ _ _ _, fun k h1 h2 => by omega⟩
  · refine ⟨g, g + 1, hg, Nat.le_refl _, by have := ow.blk; omega, ow.row, fun k h1 h2 => ?_⟩
    obtain rfl : k = g := by omega
    exact ow.cellsF
end

section
variable {α : Type} {F : Flat α} {P : Program} {ops : Array Oper} {rest : List Oper} {o : Oper} {a : Act} {Q : Exit → Act → World → Prop} {w : World}
/-- What an append leaves, of a row that grows and a list of its own. -/
theorem run_appGrow (t e ty : TypeId) (z0 : Value) (bytes : Nat) (ht : P.underlying t = some (.slice e)) (hinfo : (P.info? e).map (fun i => (i.zero, i.size, i.bytes)) = some (some z0, F.sz, bytes)) (hz1 : z0.cells.size = F.sz) (hby : bytes ≤ 128)
    {L lo hi m D : Nat} {A B : Option Addr} {C : Nat} {ms ys : List α} (hg : GrowF F e L w A C ms) (hL : L ≤ w.heap.size) (hy : OwnF F e w lo hi (.slice B m D) ys) (hn : ms.length + m ≤ 1000000000) :
    ∃ A' C' w', (Builtin.append_ #[t, t] ty #[.slice A ms.length C, .slice B m D]).run P w = .ok (.slice A' (ms.length + m) C') w' ∧ GrowF F e L w' A' C' (ms ++ ys) ∧ Grows e L w w' := by
  obtain ⟨i, hi1, hi2, hi3, hi4⟩ := info_parts hinfo
  obtain ⟨l1, h1, hl1, hh1, hlw, row, hcells⟩ := hg.row hL
  rcases hy.narrowF with ⟨rfl, rfl, rfl, rfl⟩ | ⟨g, rfl, hg1, hg2, nar⟩
  · refine ⟨A, C, w, ?_, by simpa using hg, Grows.refl _ _ _⟩
    simpa using run_append_owned_none (P := P) (w := w) l1 t ty e i F.sz ht hi1 _ ms.length (flat F ms) row.row
  · have hm : m = ys.length := hy.num
    subst hm
    obtain ⟨v', w', hrun, r1, r2, r3⟩ := run_append_own (P := P) w l1 t ty e i z0 F.sz bytes ht hi1 hi2 hi3 hi4 hz1 F.pos _ ms.length (flat F ms) row.row ⟨g, 0, none⟩ ys.length D (flat F ys) (flat_len ..) nar.rd.news flat_mem (by unfold maxLen; omega)
      (by have : (ms.length + ys.length) * bytes ≤ 1000000000 * 128 := Nat.mul_le_mul hn hby
          omega) hlw
    have hform : ∃ A' C', v' = .slice A' (ms.length + ys.length) C' := by
      rcases r1.2 with ⟨h0, h0'⟩ | ⟨g, cap, cur, hv, _⟩
      · exact ⟨none, 0, by rw [h0, h0']⟩
      · exact ⟨_, _, hv⟩
    obtain ⟨A', C', rfl⟩ := hform
    have ow : OwnF F e w' l1 w'.heap.size (.slice A' (ms.length + ys.length) C') (ms ++ ys) := ownF_row (n := ms.length + ys.length) ⟨by rw [flat_append]; exact r1, fun k hk => (r1.lt k hk).2⟩ (by simp) (by simp; omega)
    have hblk : ∀ k, k < w.heap.size → k < l1 ∨ h1 ≤ k → w'.heap[k]? = w.heap[k]? := fun k hk ho => r2.block k hk (by
      intro he
      have := row.lo_le he.symm
      omega)
    refine ⟨A', C', w', hrun, ?_, ⟨r2.os, r2.tape, r2.output, by have := r2.size; omega, fun k hk => hblk k (by omega) (.inl (by omega))⟩, fun k o hk hc => ?_⟩
    · rcases ow.narrowF with ⟨e1, e2, _, e3⟩ | ⟨g', rfl, q1, _, nar'⟩
      · exact .inl ⟨e1, e2, e3⟩
      · refine .inr ⟨g', rfl, by omega, ?_⟩
        rw [List.length_append]
        exact nar'
    · refine (hblk k (Array.getElem?_eq_some_iff.1 hk).1 ?_).trans hk
      rcases Nat.lt_or_ge k l1 with q | q
      · exact .inl q
      · rcases Nat.lt_or_ge k h1 with q2 | q2
        · obtain ⟨cur, hcur⟩ := hcells k q q2
          rw [hcur] at hk
          injection hk with hk
          exact absurd hk.symm (hc _ _)
        · exact .inr q2
/-- The same as an operation of a round's walk. -/
theorem wpListIn_appGrow {Fe : Fence} {n : Nat} (F : Flat α) (hgd : o.guard = none) (x y : Operand) (t e : TypeId) (ho : o.op = .call { callee := .builtin .append, args := #[x, y], argTypes := #[t, t] }) (z0 : Value) (bytes : Nat)
    (ht : P.underlying t = some (.slice e)) (hinfo : (P.info? e).map (fun i => (i.zero, i.size, i.bytes)) = some (some z0, F.sz, bytes)) (hz1 : z0.cells.size = F.sz) (hby : bytes ≤ 128) {L lo hi m D : Nat} {A B : Option Addr} {C : Nat} {ms ys : List α}
    (hx : a.eval x = .slice A ms.length C) (hg : GrowF F e L w A C ms) (hL : L ≤ w.heap.size) (hy : a.eval y = .slice B m D) (hw : OwnF F e w lo hi (.slice B m D) ys) (hn : ms.length + m ≤ 1000000000)
    (h : ∀ A' C' w', GrowF F e L w' A' C' (ms ++ ys) → Grows e L w w' → wpListIn Fe n P ops Q rest (a.put o.dst (.slice A' (ms.length + m) C')) w') : wpListIn Fe n P ops Q (o :: rest) a w := by
  refine wpListIn_plain hgd fun K hK => ?_
  obtain ⟨A', C', w', hrun, r1, r2⟩ := run_appGrow (F := F) t e o.type z0 bytes ht hinfo hz1 hby hg hL hw hn
  unfold Oper.wpIn
  refine ⟨?_, ?_⟩
  · simp [Oper.about, ho, resolve, Target.leads, Sem.run_pure]
  · rw [Oper.semAt_plain Fe _ _ (by rw [ho]; intro c hc'; cases hc')]
    simp [execOp, ho, resolve, invoke, builtin, hx, hy, hrun, Result.andThen]
    exact hK _ _ (h A' C' w' r1 r2)
/-- The same as an operation of a plain walk. -/
theorem wpList_appGrow (F : Flat α) (hgd : o.guard = none) (x y : Operand) (t e : TypeId) (ho : o.op = .call { callee := .builtin .append, args := #[x, y], argTypes := #[t, t] }) (z0 : Value) (bytes : Nat)
    (ht : P.underlying t = some (.slice e)) (hinfo : (P.info? e).map (fun i => (i.zero, i.size, i.bytes)) = some (some z0, F.sz, bytes)) (hz1 : z0.cells.size = F.sz) (hby : bytes ≤ 128) {L lo hi m D : Nat} {A B : Option Addr} {C : Nat} {ms ys : List α}
    (hx : a.eval x = .slice A ms.length C) (hg : GrowF F e L w A C ms) (hL : L ≤ w.heap.size) (hy : a.eval y = .slice B m D) (hw : OwnF F e w lo hi (.slice B m D) ys) (hn : ms.length + m ≤ 1000000000)
    (h : ∀ A' C' w', GrowF F e L w' A' C' (ms ++ ys) → Grows e L w w' → wpList P ops Q rest (a.put o.dst (.slice A' (ms.length + m) C')) w') : wpList P ops Q (o :: rest) a w := by
  refine wpList_plain hgd fun K hK => ?_
  obtain ⟨A', C', w', hrun, r1, r2⟩ := run_appGrow (F := F) t e o.type z0 bytes ht hinfo hz1 hby hg hL hw hn
  unfold Oper.wp
  simp [execOp, ho, resolve, invoke, builtin, hx, hy, hrun, Result.andThen]
  exact hK _ _ (h A' C' w' r1 r2)
end
end Go.Proofs.YtgfopieojpjddaaDoor
