/-
  Several texts in one: AppR, Grow, ByteF, Bld, BackD, Dec, DecI, MarkT, TxtI, TxtS, MtxS, MtxI.
-/
import Derived.Test.YtlahobdopmdfmaaDoorFlat
import Derived.Test.YtlahobdopmdfmaaDoorProg
import Derived.Test.YtlahobdopmdfmaaDoorShBld
import Derived.Test.YtlahobdopmdfmaaDoorIter
import Derived.Test.YtlahobdopmdfmaaDoorRow
import Derived.Test.YtlahobdopmdfmaaDoorShFmt
import Derived.Test.YtlahobdopmdfmaaDoorBase
import Derived.Test.YtlahobdopmdfmaaDoorOkI
import Derived.Test.YtlahobdopmdfmaaDoorOkS
import Derived.Test.YtlahobdopmdfmaaDoorTwoS
import Derived.Test.YtlahobdopmdfmaaDoorMacLow
import Derived.Test.YtlahobdopmdfmaaDoorShJn
import Derived.OwnWalkIn
import Derived.RangeFuncOwn
import Derived.RangeFuncWrites
import Derived.Laws.OwnMore
import Derived.Laws.AppendOwnNone
import Derived.Lib.Hide
import Derived.Laws.IdiomStrings
import Derived.Lib.AppendStr
import Derived.Laws.BitsLemmas
import Derived.Lib.ItoaNum
import Derived.Lib.LaidTab
import Derived.KernelRfl
import Derived.Lib.AppendIntMem
import Derived.Sort.CutIn
import Derived.Laws.Concat

/- AppR -/
namespace Go.Proofs.YtlahobdopmdfmaaDoor
open Go.RowKit

section
variable {P : Program} {ops : Array Oper} {rest : List Oper} {o : Oper} {a : Act} {Q : Exit → Act → World → Prop} {w : World}
/-- Elements that can be read, appended to a row of the call's own (one operation). -/
theorem wp_appR {K : Act → World → Prop} (x y : Operand) (t e : TypeId) (ho : o.op = .call { callee := .builtin .append, args := #[x, y], argTypes := #[t, t] }) (z0 : Value) (s bytes : Nat)
    (ht : P.underlying t = some (.slice e)) (hinfo : (P.info? e).map (fun i => (i.zero, i.size, i.bytes)) = some (some z0, s, bytes)) (hz1 : z0.cells.size = s) (hs0 : 0 < s) (hby : bytes ≤ 128) {lo hi n : Nat} {A : Option Addr} {C : Nat} {cs : List Value}
    (hx : a.eval x = .slice A n C) (row : Row e s w lo hi (.slice A n C) n cs)
    (ad : Addr) (m c : Nat) (news : List Value) (hy : a.eval y = .slice (some ad) m c) (hl : news.length = m * s) (hc : ∀ j u, news[j]? = some u → w.cell? (ad.add j) = some u) (h1 : ∀ u ∈ news, u.oneCell' = true) (hn : n + m ≤ 1000000000) (hlo : lo ≤ w.heap.size)
    (h : ∀ A' C' w', Row e s w' lo w'.heap.size (.slice A' (n + m) C') (n + m) (cs ++ news) → Touch lo hi w w' → K (a.put o.dst (.slice A' (n + m) C')) w') :
    o.wp P a w K Q := by
  obtain ⟨i, hi1, hi2, hi3, hi4⟩ := info_parts hinfo
  refine wp_append_own w x y t ho lo e i z0 s bytes ht hi1 hi2 hi3 hi4 hz1 hs0 _ n cs hx row.row ad m c news hy hl hc h1 (by unfold maxLen; omega) ?_ hlo ?_
  · have : (n + m) * bytes ≤ 1000000000 * 128 := Nat.mul_le_mul hn hby
    omega
  · intro v' w' hown hg _
    have hT : Touch lo hi w w' := ⟨hg.os, hg.tape, hg.output, hg.size, fun k hk ho' => hg.block k hk (by
      intro he
      have := row.lo_le he.symm
      omega)⟩
    have hform : ∃ A' C', v' = .slice A' (n + m) C' := by
      rcases hown.2 with ⟨h0, h0'⟩ | ⟨g, cap, cur, hv, _⟩
      · exact ⟨none, 0, by rw [h0, h0']⟩
      · exact ⟨_, _, hv⟩
    obtain ⟨A', C', rfl⟩ := hform
    exact h A' C' w' ⟨hown, fun k hk => (hown.lt k hk).2⟩ hT
end
end Go.Proofs.YtlahobdopmdfmaaDoor

/- Grow -/
namespace Go.Proofs.YtlahobdopmdfmaaDoor
open Go.RowKit

/-- A row of its own that grows: nothing, or one block. -/
def GrowF {α : Type} (F : Flat α) (t : TypeId) (L : Nat) (w : World) (A : Option Addr) (C : Nat) (ms : List α) : Prop := (ms = [] ∧ A = none ∧ C = 0) ∨ ∃ g, A = some ⟨g, 0, none⟩ ∧ L ≤ g ∧ OwnF F t w g (g + 1) (.slice A ms.length C) ms
/-- Below L nothing has turned, and nothing that is no row of e's. -/
def Grows (e : TypeId) (L : Nat) (w w' : World) : Prop := Below L w w' ∧ ∀ (k : Nat) (o : Obj), w.heap[k]? = some o → (∀ cur fz, o ≠ .cells cur e fz) → w'.heap[k]? = some o
theorem Grows.refl (e : TypeId) (L : Nat) (w : World) : Grows e L w w := ⟨Below.refl _ _, fun _ _ h _ => h⟩
theorem no_row {o : Obj} {e : TypeId} (h : o.isCells = false) : ∀ cur fz, o ≠ .cells cur e fz := by
  rintro cur fz rfl
  simp [Obj.isCells] at h
section
variable {α : Type} {F : Flat α} {t : TypeId} {L : Nat} {w w' : World} {A : Option Addr} {C : Nat} {ms : List α}
theorem growF_nil (F : Flat α) (t : TypeId) (L : Nat) (w : World) : GrowF F t L w none 0 [] := .inl ⟨rfl, rfl, rfl⟩
theorem GrowF.own (h : GrowF F t L w A C ms) (_ : L ≤ w.heap.size) : OwnF F t w L w.heap.size (.slice A ms.length C) ms := by
  rcases h with ⟨rfl, rfl, rfl⟩ | ⟨g, rfl, hg, ow⟩
  · exact ownF_nil _ _ _ _ _
  · exact ow.wide hg ow.blk.2.2
theorem OwnF.narrowF {lo hi n : Nat} (h : OwnF F t w lo hi (.slice A n C) ms) : (ms = [] ∧ A = none ∧ n = 0 ∧ C = 0) ∨ ∃ g, A = some ⟨g, 0, none⟩ ∧ lo ≤ g ∧ g < hi ∧ OwnF F t w g (g + 1) (.slice A n C) ms := by
  rcases h.row.row.2 with ⟨hv, h0⟩ | ⟨g, cap, cur, hv, hg, r⟩
  · injection hv with h1 h2 h3
    exact .inl ⟨List.eq_nil_of_length_eq_zero h0, h1, h2, h3⟩
  · injection hv with ha hn hc
    subst ha
    have hlt := h.row.top g rfl
    refine .inr ⟨g, rfl, hg, hlt, ⟨⟨⟨h.row.row.1, .inr ⟨g, cap, cur, by rw [hn, hc], Nat.le_refl _, r⟩⟩, fun k hk => ?_⟩, h.len⟩⟩
    simp [Value.ownBlock] at hk; omega
theorem OwnF.cellsF {g lo hi n : Nat} (h : OwnF F t w lo hi (.slice (some ⟨g, 0, none⟩) n C) ms) : ∃ cur, w.heap[g]? = some (.cells cur t (0, 0)) := by
  rcases h.row.row.2 with ⟨hv, _⟩ | ⟨g', cap, cur, hv, _, hh, _⟩
  · cases hv
  · injection hv with ha _ _
    injection ha with ha
    injection ha with ha
    subst ha
    exact ⟨cur, hh⟩
theorem OwnF.same {lo hi n : Nat} (h : OwnF F t w lo hi (.slice A n C) ms) (hs : ∀ (k : Nat) (o : Obj), lo ≤ k → k < hi → w.heap[k]? = some o → o.isCells = true → w'.heap[k]? = w.heap[k]?) : OwnF F t w' lo hi (.slice A n C) ms := by
  refine ⟨⟨ownsRow_same h.row.row fun k hk => ?_, h.row.top⟩, h.len⟩
  have hb := h.lo_le hk
  rcases h.row.row.2 with ⟨hv, _⟩ | ⟨g', cap, cur, hv, _, hh, _⟩
  · rw [hv] at hk; cases hk
  · rw [hv] at hk
    simp [Value.ownBlock] at hk
    subst hk
    exact hs _ _ hb.1 hb.2.1 hh rfl
theorem GrowF.same (h : GrowF F t L w A C ms) (hs : ∀ (k : Nat) (o : Obj), L ≤ k → w.heap[k]? = some o → o.isCells = true → w'.heap[k]? = w.heap[k]?) : GrowF F t L w' A C ms := by
  rcases h with h | ⟨g, rfl, hg, ow⟩
  · exact .inl h
  · exact .inr ⟨g, rfl, hg, ow.same fun k o h1 _ => hs k o (by omega)⟩
theorem GrowF.row (h : GrowF F t L w A C ms) (hL : L ≤ w.heap.size) :
    ∃ lo hi, L ≤ lo ∧ hi ≤ lo + 1 ∧ lo ≤ w.heap.size ∧ Row t F.sz w lo hi (.slice A ms.length C) ms.length (flat F ms) ∧ ∀ k, lo ≤ k → k < hi → ∃ cur, w.heap[k]? = some (.cells cur t (0, 0)) := by
  rcases h with ⟨rfl, rfl, rfl⟩ | ⟨g, rfl, hg, ow⟩
  · exact ⟨L, L, Nat.le_refl _, by omega, hL, row_nil _ _ _ _ _, fun k h1 h2 => by omega⟩
  · refine ⟨g, g + 1, hg, Nat.le_refl _, by have := ow.blk; omega, ow.row, fun k h1 h2 => ?_⟩
    obtain rfl : k = g := by omega
    exact ow.cellsF
end

section
variable {α : Type} {F : Flat α} {P : Program} {ops : Array Oper} {rest : List Oper} {o : Oper} {a : Act} {Q : Exit → Act → World → Prop} {w : World}
/-- What an append leaves, of a row that grows and a list of its own. -/
theorem run_appGrow (t e ty : TypeId) (z0 : Value) (bytes : Nat) (ht : P.underlying t = some (.slice e)) (hinfo : (P.info? e).map (fun i => (i.zero, i.size, i.bytes)) = some (some z0, F.sz, bytes)) (hz1 : z0.cells.size = F.sz) (hby : bytes ≤ 128)
    {L lo hi m D : Nat} {A B : Option Addr} {C : Nat} {ms ys : List α} (hg : GrowF F e L w A C ms) (hL : L ≤ w.heap.size) (hy : OwnF F e w lo hi (.slice B m D) ys) (hn : ms.length + m ≤ 1000000000) :
    ∃ A' C' w', (Builtin.append_ #[t, t] ty #[.slice A ms.length C, .slice B m D]).run P w = .ok (.slice A' (ms.length + m) C') w' ∧ GrowF F e L w' A' C' (ms ++ ys) ∧ Grows e L w w' := by
  obtain ⟨i, hi1, hi2, hi3, hi4⟩ := info_parts hinfo
  obtain ⟨l1, h1, hl1, hh1, hlw, row, hcells⟩ := hg.row hL
  rcases hy.narrowF with ⟨rfl, rfl, rfl, rfl⟩ | ⟨g, rfl, hg1, hg2, nar⟩
  · refine ⟨A, C, w, ?_, by simpa using hg, Grows.refl _ _ _⟩
    simpa using run_append_owned_none (P := P) (w := w) l1 t ty e i F.sz ht hi1 _ ms.length (flat F ms) row.row
  · have hm : m = ys.length := hy.num
    subst hm
    obtain ⟨v', w', hrun, r1, r2, r3⟩ := run_append_own (P := P) w l1 t ty e i z0 F.sz bytes ht hi1 hi2 hi3 hi4 hz1 F.pos _ ms.length (flat F ms) row.row ⟨g, 0, none⟩ ys.length D (flat F ys) (flat_len ..) nar.rd.news flat_mem (by unfold maxLen; omega)
      (by have : (ms.length + ys.length) * bytes ≤ 1000000000 * 128 := Nat.mul_le_mul hn hby
          omega) hlw
    have hform : ∃ A' C', v' = .slice A' (ms.length + ys.length) C' := by
      rcases r1.2 with ⟨h0, h0'⟩ | ⟨g, cap, cur, hv, _⟩
      · exact ⟨none, 0, by rw [h0, h0']⟩
      · exact ⟨_, _, hv⟩
    obtain ⟨A', C', rfl⟩ := hform
    have ow : OwnF F e w' l1 w'.heap.size (.slice A' (ms.length + ys.length) C') (ms ++ ys) := ownF_row (n := ms.length + ys.length) ⟨by rw [flat_append]; exact r1, fun k hk => (r1.lt k hk).2⟩ (by simp) (by simp; omega)
    have hblk : ∀ k, k < w.heap.size → k < l1 ∨ h1 ≤ k → w'.heap[k]? = w.heap[k]? := fun k hk ho => r2.block k hk (by
      intro he
      have := row.lo_le he.symm
      omega)
    refine ⟨A', C', w', hrun, ?_, ⟨r2.os, r2.tape, r2.output, by have := r2.size; omega, fun k hk => hblk k (by omega) (.inl (by omega))⟩, fun k o hk hc => ?_⟩
    · rcases ow.narrowF with ⟨e1, e2, _, e3⟩ | ⟨g', rfl, q1, _, nar'⟩
      · exact .inl ⟨e1, e2, e3⟩
      · refine .inr ⟨g', rfl, by omega, ?_⟩
        rw [List.length_append]
        exact nar'
    · refine (hblk k (Array.getElem?_eq_some_iff.1 hk).1 ?_).trans hk
      rcases Nat.lt_or_ge k l1 with q | q
      · exact .inl q
      · rcases Nat.lt_or_ge k h1 with q2 | q2
        · obtain ⟨cur, hcur⟩ := hcells k q q2
          rw [hcur] at hk
          injection hk with hk
          exact absurd hk.symm (hc _ _)
        · exact .inr q2
/-- The same as an operation of a round's walk. -/
theorem wpListIn_appGrow {Fe : Fence} {n : Nat} (F : Flat α) (hgd : o.guard = none) (x y : Operand) (t e : TypeId) (ho : o.op = .call { callee := .builtin .append, args := #[x, y], argTypes := #[t, t] }) (z0 : Value) (bytes : Nat)
    (ht : P.underlying t = some (.slice e)) (hinfo : (P.info? e).map (fun i => (i.zero, i.size, i.bytes)) = some (some z0, F.sz, bytes)) (hz1 : z0.cells.size = F.sz) (hby : bytes ≤ 128) {L lo hi m D : Nat} {A B : Option Addr} {C : Nat} {ms ys : List α}
    (hx : a.eval x = .slice A ms.length C) (hg : GrowF F e L w A C ms) (hL : L ≤ w.heap.size) (hy : a.eval y = .slice B m D) (hw : OwnF F e w lo hi (.slice B m D) ys) (hn : ms.length + m ≤ 1000000000)
    (h : ∀ A' C' w', GrowF F e L w' A' C' (ms ++ ys) → Grows e L w w' → wpListIn Fe n P ops Q rest (a.put o.dst (.slice A' (ms.length + m) C')) w') : wpListIn Fe n P ops Q (o :: rest) a w := by
  refine wpListIn_plain hgd fun K hK => ?_
  obtain ⟨A', C', w', hrun, r1, r2⟩ := run_appGrow (F := F) t e o.type z0 bytes ht hinfo hz1 hby hg hL hw hn
  unfold Oper.wpIn
  refine ⟨?_, ?_⟩
  · simp [Oper.about, ho, resolve, Target.leads, Sem.run_pure]
  · rw [Oper.semAt_plain Fe _ _ (by rw [ho]; intro c hc'; cases hc')]
    simp [execOp, ho, resolve, invoke, builtin, hx, hy, hrun, Result.andThen]
    exact hK _ _ (h A' C' w' r1 r2)
/-- The same as an operation of a plain walk. -/
theorem wpList_appGrow (F : Flat α) (hgd : o.guard = none) (x y : Operand) (t e : TypeId) (ho : o.op = .call { callee := .builtin .append, args := #[x, y], argTypes := #[t, t] }) (z0 : Value) (bytes : Nat)
    (ht : P.underlying t = some (.slice e)) (hinfo : (P.info? e).map (fun i => (i.zero, i.size, i.bytes)) = some (some z0, F.sz, bytes)) (hz1 : z0.cells.size = F.sz) (hby : bytes ≤ 128) {L lo hi m D : Nat} {A B : Option Addr} {C : Nat} {ms ys : List α}
    (hx : a.eval x = .slice A ms.length C) (hg : GrowF F e L w A C ms) (hL : L ≤ w.heap.size) (hy : a.eval y = .slice B m D) (hw : OwnF F e w lo hi (.slice B m D) ys) (hn : ms.length + m ≤ 1000000000)
    (h : ∀ A' C' w', GrowF F e L w' A' C' (ms ++ ys) → Grows e L w w' → wpList P ops Q rest (a.put o.dst (.slice A' (ms.length + m) C')) w') : wpList P ops Q (o :: rest) a w := by
  refine wpList_plain hgd fun K hK => ?_
  obtain ⟨A', C', w', hrun, r1, r2⟩ := run_appGrow (F := F) t e o.type z0 bytes ht hinfo hz1 hby hg hL hw hn
  unfold Oper.wp
  simp [execOp, ho, resolve, invoke, builtin, hx, hy, hrun, Result.andThen]
  exact hK _ _ (h A' C' w' r1 r2)
end
end Go.Proofs.YtlahobdopmdfmaaDoor

/- ByteF -/
namespace Go.Proofs.YtlahobdopmdfmaaDoor
open Go.RowKit

def byteF : Flat UInt8 := ⟨1, fun b => [.int .u8 (b.toNat : Int)], 0, fun _ => rfl, fun _ v hv => by simp at hv; subst hv; rfl, by omega⟩
theorem info_byte : (Tryd.prog.info? 5).map (fun i => (i.zero, i.size, i.bytes)) = some (some (.int .u8 0), 1, 1) := by kernel_rfl
section
variable {w : World} {t : TypeId} {lo hi g n c k : Nat} {xs : List UInt8}
theorem OwnF.getB (h : OwnF byteF t w lo hi (.slice (some ⟨g, 0, none⟩) n c) xs) (hk : k < xs.length) : w.cell? ⟨g, k, none⟩ = some (.int .u8 ((elt byteF xs k).toNat : Int)) := by
  have := h.get (k := k) (j := 0) (u := .int .u8 ((elt byteF xs k).toNat : Int)) hk rfl
  simpa [byteF] using this
theorem OwnF.putB (h : OwnF byteF t w lo hi (.slice (some ⟨g, 0, none⟩) n c) xs) (hk : k < xs.length) (x : UInt8) : OwnF byteF t (w.setCell ⟨g, k, none⟩ (.int .u8 (x.toNat : Int))) lo hi (.slice (some ⟨g, 0, none⟩) n c) (xs.set k x) := by
  have := h.put (k := k) (j := 0) (y := x) (u := .int .u8 (x.toNat : Int)) hk (by decide) rfl
  simpa [byteF] using this
theorem flat_byte (xs : List UInt8) : flat byteF xs = xs.map fun b => Value.int .u8 (b.toNat : Int) := by
  unfold flat
  rw [List.map_eq_flatMap]
  rfl
/-- Bytes of its own, read as a string. -/
theorem OwnF.text {A : Option Addr} {P : Program} (h : OwnF byteF t w lo hi (.slice A n c) xs) (hne : 0 < xs.length) (src dst e : TypeId) (hs : P.underlying src = some (.slice e)) (he : P.underlying e = some (.int .u8)) (hd : P.underlying dst = some .string) :
    (convert src dst (.slice A n c)).run P w = .ok (.string ⟨xs.toArray⟩) w := by
  obtain ⟨g, rfl, _, _, _⟩ := h.head hne
  have hn := h.num
  subst hn
  refine run_convert_bytes_back w src dst e ⟨g, 0, none⟩ c xs hs he hd fun j hj => ?_
  have := h.getB (k := j) hj
  rw [elt_get hj] at this
  rw [show (⟨g, 0, none⟩ : Addr).add j = ⟨g, j, none⟩ by simp [Addr.add]; exact fun e => e.symm]
  exact this
end

/-- The list when k pairs have been exchanged. -/
def rvK (xs : List UInt8) (k : Nat) : List UInt8 := (List.range xs.length).map fun i => if i < k ∨ xs.length ≤ i + k then elt byteF xs (xs.length - 1 - i) else elt byteF xs i
theorem rvK_len (xs : List UInt8) (k : Nat) : (rvK xs k).length = xs.length := by simp [rvK]
theorem rvK_at {xs : List UInt8} {k i : Nat} (h : i < xs.length) : elt byteF (rvK xs k) i = if i < k ∨ xs.length ≤ i + k then elt byteF xs (xs.length - 1 - i) else elt byteF xs i := elt_range h
theorem rvK_zero (xs : List UInt8) : rvK xs 0 = xs := by
  refine List.ext_getElem (rvK_len _ _) fun i h1 h2 => ?_
  have := rvK_at (k := 0) h2
  rw [elt_get h1, if_neg (by omega), elt_get h2] at this
  exact this
theorem rvK_all {xs : List UInt8} {k : Nat} (h : xs.length ≤ 2 * k + 1) : rvK xs k = xs.reverse := by
  refine List.ext_getElem (by rw [rvK_len, List.length_reverse]) fun i h1 h2 => ?_
  have hi : i < xs.length := by rwa [rvK_len] at h1
  have := rvK_at (k := k) hi
  rw [elt_get h1] at this
  rw [this, List.getElem_reverse]
  split
  · rw [elt_get (by omega)]
  · have e : xs.length - 1 - i = i := by omega
    rw [elt_get hi]
    congr 1
    exact e.symm
theorem rvK_step {xs : List UInt8} {k : Nat} (h : 2 * k + 1 < xs.length) : ((rvK xs k).set k (elt byteF xs (xs.length - 1 - k))).set (xs.length - 1 - k) (elt byteF xs k) = rvK xs (k + 1) := by
  refine List.ext_getElem (by simp [rvK_len]) fun i h1 h2 => ?_
  have hi : i < xs.length := by rwa [rvK_len] at h2
  have e1 := rvK_at (k := k + 1) hi
  rw [elt_get h2] at e1
  rw [e1, List.getElem_set, List.getElem_set]
  have e0 := rvK_at (k := k) hi
  rw [elt_get (by rw [rvK_len]; exact hi)] at e0
  by_cases c1 : xs.length - 1 - k = i
  · rw [if_pos c1, if_pos (by omega)]
    congr 1
    omega
  · rw [if_neg c1]
    by_cases c2 : k = i
    · rw [if_pos c2, if_pos (by omega), c2]
    · rw [if_neg c2, e0]
      by_cases c3 : i < k ∨ xs.length ≤ i + k
      · rw [if_pos c3, if_pos (by omega)]
      · rw [if_neg c3, if_neg (by omega)]

end Go.Proofs.YtlahobdopmdfmaaDoor

/- Bld -/
namespace Go.Proofs.YtlahobdopmdfmaaDoor
open Go.RowKit

/-- A builder in the box b that holds these bytes; its row lies at L or behind it. -/
def Bld (L : Nat) (w : World) (b : Nat) (xs : List UInt8) : Prop := ∃ p A C, (p = none ∨ p = some ⟨b, 0, none⟩) ∧ Bx w b 167 #[.pointer p, .slice A xs.length C] ∧ GrowF byteF 5 L w A C xs
theorem bld_new {L : Nat} {w : World} {b : Nat} (h : Bx w b 167 #[.pointer none, .slice none 0 0]) : Bld L w b [] := ⟨none, none, 0, .inl rfl, h, growF_nil _ _ _ _⟩
theorem Bld.same {L : Nat} {w w' : World} {b : Nat} {xs : List UInt8} (h : Bld L w b xs) (hs : ∀ (k : Nat) (o : Obj), k = b ∨ L ≤ k → w.heap[k]? = some o → o.isCells = true → w'.heap[k]? = w.heap[k]?) : Bld L w' b xs := by
  obtain ⟨p, A, C, h1, h2, h3⟩ := h
  exact ⟨p, A, C, h1, (hs b _ (.inl rfl) h2 rfl).trans h2, h3.same fun k o hk => hs k o (.inr hk)⟩
theorem Bld.lt {L : Nat} {w : World} {b : Nat} {xs : List UInt8} (h : Bld L w b xs) : b < w.heap.size := by
  obtain ⟨_, _, _, _, h2, _⟩ := h
  exact h2.lt
theorem Bld.below {L : Nat} {w w' : World} {b : Nat} {xs : List UInt8} (h : Bld L w b xs) (hb : Below w.heap.size w w') : Bld L w' b xs := h.same fun k _ _ h1 _ => hb.block k (Array.getElem?_eq_some_iff.1 h1).1
/-- Outside the box b, below L nothing has turned, and nothing that is no row of bytes. -/
structure BTouch (b L : Nat) (w w' : World) : Prop where
  os : w'.os = w.os
  tape : w'.tape = w.tape
  output : w'.output = w.output
  size : w.heap.size ≤ w'.heap.size
  block : ∀ k, k < L → k ≠ b → w'.heap[k]? = w.heap[k]?
  others : ∀ (k : Nat) (o : Obj), k ≠ b → w.heap[k]? = some o → (∀ cur fz, o ≠ .cells cur 5 fz) → w'.heap[k]? = some o
theorem BTouch.refl (b L : Nat) (w : World) : BTouch b L w w := ⟨rfl, rfl, rfl, Nat.le_refl _, fun _ _ _ => rfl, fun _ _ _ h _ => h⟩
theorem BTouch.trans {b L : Nat} {u v w : World} (h : BTouch b L u v) (k : BTouch b L v w) : BTouch b L u w :=
  ⟨k.os.trans h.os, k.tape.trans h.tape, k.output.trans h.output, Nat.le_trans h.size k.size, fun i h1 h2 => (k.block i h1 h2).trans (h.block i h1 h2), fun i o h1 h2 h3 => k.others i o h1 (h.others i o h1 h2 h3) h3⟩
theorem BTouch.setCell {b L : Nat} {u w : World} (h : BTouch b L u w) (o : Nat) (v : Value) : BTouch b L u (w.setCell ⟨b, o, none⟩ v) :=
  ⟨h.os, h.tape, h.output, by simpa using h.size, fun k h1 h2 => (Below.heap_setCell _ _ _ _ h2).trans (h.block k h1 h2), fun k o h1 h2 h3 => (Below.heap_setCell _ _ _ _ h1).trans (h.others k o h1 h2 h3)⟩
theorem BTouch.of_grows {b L : Nat} {w w' : World} (h : Grows 5 L w w') : BTouch b L w w' := ⟨h.1.os, h.1.tape, h.1.output, h.1.size, fun k h1 _ => h.1.block k h1, fun k o _ h2 h3 => h.2 k o h2 h3⟩
theorem BTouch.alloc {b L : Nat} {u w : World} (h : BTouch b L u w) (hL : L ≤ w.heap.size) (o : Obj) : BTouch b L u (w.alloc o) :=
  ⟨h.os, h.tape, h.output, by have := h.size; simp; omega, fun k h1 h2 => (Below.heap_alloc _ _ _ (by omega)).trans (h.block k h1 h2), fun k o' h1 h2 h3 => by
    have h4 := h.others k o' h1 h2 h3
    exact (Below.heap_alloc _ _ _ (Array.getElem?_eq_some_iff.1 h4).1).trans h4⟩
theorem BTouch.below {b L B : Nat} {w w' : World} (h : BTouch b L w w') (h1 : B ≤ L) (h2 : B ≤ b) (_ : B ≤ w.heap.size) : Below B w w' :=
  ⟨h.os, h.tape, h.output, h.size, fun k hk => h.block k (by omega) (by omega)⟩

set_option maxRecDepth 100000 in
set_option maxHeartbeats 2000000 in
theorem copyCheck_fresh (b : Nat) (v : Value) (w : World) (h : Bx w b 167 #[.pointer none, v]) :
    Calls Tryd.prog 189 #[.pointer (some ⟨b, 0, none⟩)] w fun e w' => e = .returned (.tuple #[]) ∧ w' = w.setCell ⟨b, 0, none⟩ (.pointer (some ⟨b, 0, none⟩)) := by
  obtain ⟨j, hj, hjs⟩ := Option.map_eq_some_iff.1 Tryd.Builder_Extra_169.sizeBuilder
  have h0 := h.at_ 0 rfl
  have hfz := h.thaw 0
  have hsh : w.shape? b = some (167, 2) := by
    have hb : w.heap[b]? = some (.cells #[.pointer none, v] 167 (0, 0)) := h
    simp [World.shape?, hb]
  go_enter Tryd.func189, Tryd.ntmps189
  go_wp2
  rw [Lib.run_to_unsafe w ⟨b, 0, none⟩ Tryd.underlying165 Tryd.underlying207 hj (by rw [hjs]; decide) hsh (Nat.zero_lt_succ 1)]
  simp only [Result.andThen]
  rw [Oper.upon_value]
  go_wp2
  rw [run_callFunc_extern Tryd.func198 (by kernel_rfl) (by kernel_rfl) (by kernel_rfl) (e := Extern.AbiNoEscape.same) (by kernel_rfl)]
  rw [Lib.run_noEscape]
  simp only [Result.andThen]
  rw [Oper.upon_value]
  go_wp2
  rw [Lib.run_from_unsafe w ⟨b, 0, none⟩ Tryd.underlying207 Tryd.underlying165 hj hsh Tryd.Builder_Extra_169.liesBuilder]
  simp only [Result.andThen]
  rw [Oper.upon_value]
  go_wp2
  go_end0
  exact ⟨rfl, rfl⟩

set_option maxRecDepth 100000 in
set_option maxHeartbeats 2000000 in
theorem copyCheck_used (b : Nat) (v : Value) (w : World) (h : Bx w b 167 #[.pointer (some ⟨b, 0, none⟩), v]) :
    Calls Tryd.prog 189 #[.pointer (some ⟨b, 0, none⟩)] w fun e w' => e = .returned (.tuple #[]) ∧ w' = w := by
  have h0 := h.at_ 0 rfl
  obtain ⟨j, hj, _⟩ := Option.map_eq_some_iff.1 Tryd.Builder_Extra_169.sizeBuilder
  go_enter Tryd.func189, Tryd.ntmps189
  go_wp2
  rw [Lib.run_neq_ptr_same w _ Tryd.underlying165 hj]
  go_wp2
  go_end0
  exact ⟨rfl, rfl⟩
theorem copyCheck_any {L b : Nat} {xs : List UInt8} {w : World} (h : Bld L w b xs) (hb : b < L) :
    Calls Tryd.prog 189 #[.pointer (some ⟨b, 0, none⟩)] w fun e w' => e = .returned (.tuple #[]) ∧ (∃ A C, Bx w' b 167 #[.pointer (some ⟨b, 0, none⟩), .slice A xs.length C] ∧ GrowF byteF 5 L w' A C xs) ∧ BTouch b L w w' := by
  obtain ⟨p, A, C, hp, bx, gr⟩ := h
  rcases hp with rfl | rfl
  · refine (copyCheck_fresh b _ w bx).mono ?_
    rintro e w' ⟨rfl, rfl⟩
    exact ⟨rfl, ⟨A, C, by simpa using bx.set_ 0 (.pointer (some ⟨b, 0, none⟩)), gr.same fun k o h1 _ _ => Below.heap_setCell _ _ _ _ (by simp; omega)⟩, (BTouch.refl _ _ _).setCell 0 _⟩
  · refine (copyCheck_used b _ w bx).mono ?_
    rintro e w' ⟨rfl, rfl⟩
    exact ⟨rfl, ⟨A, C, bx, gr⟩, BTouch.refl _ _ _⟩

theorem flat_str (s : ByteArray) : flat byteF s.data.toList = Lib.strCells s := by
  rw [flat_byte]; rfl
theorem run_appGrowStr {P : Program} {w : World} (t u e ty : TypeId) (ht : P.underlying t = some (.slice e)) (hu : P.underlying u = some .string) (hinfo : (P.info? e).map (fun i => (i.zero, i.size, i.bytes)) = some (some (.int .u8 0), 1, 1))
    {L : Nat} {A : Option Addr} {C : Nat} {xs : List UInt8} (hg : GrowF byteF e L w A C xs) (hL : L ≤ w.heap.size) (s : ByteArray) (hn : xs.length + s.size ≤ 1000000000) :
    ∃ A' C' w', (Builtin.append_ #[t, u] ty #[.slice A xs.length C, .string s]).run P w = .ok (.slice A' (xs.length + s.size) C') w' ∧ GrowF byteF e L w' A' C' (xs ++ s.data.toList) ∧ Grows e L w w' := by
  obtain ⟨i, hi1, hi2, hi3, hi4⟩ := info_parts hinfo
  obtain ⟨l1, h1, hl1, hh1, hlw, row, hcells⟩ := hg.row hL
  obtain ⟨v', w', hrun, r1, r2, r3⟩ := Lib.run_append_own_string (P := P) (w := w) l1 t u ty e i ht hu hi1 hi2 hi3 hi4 _ xs.length (flat byteF xs) row.row s (by unfold maxLen; omega) (by omega) hlw
  have hform : ∃ A' C', v' = .slice A' (xs.length + s.size) C' := by
    rcases r1.2 with ⟨h0, h0'⟩ | ⟨g, cap, cur, hv, _⟩
    · exact ⟨none, 0, by rw [h0, h0']⟩
    · exact ⟨_, _, hv⟩
  obtain ⟨A', C', rfl⟩ := hform
  have hsz : s.data.toList.length = s.size := by rw [Array.length_toList]; rfl
  have ow : OwnF byteF e w' l1 w'.heap.size (.slice A' (xs.length + s.size) C') (xs ++ s.data.toList) := ownF_row (n := xs.length + s.size) ⟨by rw [flat_append, flat_str]; exact r1, fun k hk => (r1.lt k hk).2⟩ (by simp [hsz]) (by simp [hsz]; omega)
  have hblk : ∀ k, k < w.heap.size → k < l1 ∨ h1 ≤ k → w'.heap[k]? = w.heap[k]? := fun k hk ho => r2.block k hk (by
    intro he
    have := row.lo_le he.symm
    omega)
  refine ⟨A', C', w', hrun, ?_, ⟨r2.os, r2.tape, r2.output, by have := r2.size; omega, fun k hk => hblk k (by omega) (.inl (by omega))⟩, fun k o hk hc => ?_⟩
  · rcases ow.narrowF with ⟨e1, e2, _, e3⟩ | ⟨g', rfl, q1, _, nar'⟩
    · exact .inl ⟨e1, e2, e3⟩
    · refine .inr ⟨g', rfl, by omega, ?_⟩
      rw [List.length_append, hsz]
      exact nar'
  · refine (hblk k (Array.getElem?_eq_some_iff.1 hk).1 ?_).trans hk
    rcases Nat.lt_or_ge k l1 with q | q
    · exact .inl q
    · rcases Nat.lt_or_ge k h1 with q2 | q2
      · obtain ⟨cur, hcur⟩ := hcells k q q2
        rw [hcur] at hk
        injection hk with hk
        exact absurd hk.symm (hc _ _)
      · exact .inr q2
theorem wpList_appGrowStr {P : Program} {ops : Array Oper} {rest : List Oper} {o : Oper} {a : Act} {Q : Exit → Act → World → Prop} {w : World} (hgd : o.guard = none) (x y : Operand) (t u e : TypeId) (ho : o.op = .call { callee := .builtin .append, args := #[x, y], argTypes := #[t, u] })
    (ht : P.underlying t = some (.slice e)) (hu : P.underlying u = some .string) (hinfo : (P.info? e).map (fun i => (i.zero, i.size, i.bytes)) = some (some (.int .u8 0), 1, 1))
    {L : Nat} {A : Option Addr} {C : Nat} {xs : List UInt8} (hx : a.eval x = .slice A xs.length C) (hg : GrowF byteF e L w A C xs) (hL : L ≤ w.heap.size) (s : ByteArray) (hy : a.eval y = .string s) (hn : xs.length + s.size ≤ 1000000000)
    (h : ∀ A' C' w', GrowF byteF e L w' A' C' (xs ++ s.data.toList) → Grows e L w w' → wpList P ops Q rest (a.put o.dst (.slice A' (xs.length + s.size) C')) w') : wpList P ops Q (o :: rest) a w := by
  refine wpList_plain hgd fun K hK => ?_
  obtain ⟨A', C', w', hrun, r1, r2⟩ := run_appGrowStr t u e o.type ht hu hinfo hg hL s hn
  unfold Oper.wp
  simp [execOp, ho, resolve, invoke, builtin, hx, hy, hrun, Result.andThen]
  exact hK _ _ (h A' C' w' r1 r2)

set_option maxRecDepth 100000 in
set_option maxHeartbeats 2000000 in
theorem writeString_any {L b : Nat} {xs : List UInt8} (s : ByteArray) (w : World) (h : Bld L w b xs) (hb : b < L) (hL : L ≤ w.heap.size) (hn : xs.length + s.size ≤ 1000000000) :
    Calls Tryd.prog 176 #[.pointer (some ⟨b, 0, none⟩), .string s] w fun e w' => e = .returned (.tuple #[.int .i64 (s.size : Nat), .nilIface]) ∧ Bld L w' b (xs ++ s.data.toList) ∧ BTouch b L w w' := by
  go_enter Tryd.func176, Tryd.ntmps176
  go_wp2_with fail
  refine (copyCheck_any h hb).mono ?_
  rintro e w1 ⟨rfl, ⟨A, C, bx, gr⟩, ht⟩
  have c1 := bx.at_ 1 rfl
  have hz := ht.size
  have hsz : s.data.toList.length = s.size := by rw [Array.length_toList]; rfl
  go_wp2_with (at_builtin; go_must (refine wpList_appGrowStr rfl (.tmp 12) (.tmp 13) 22 9 5 rfl Tryd.underlying22 Tryd.underlying9 info_byte rfl gr (by omega) s rfl hn ?_); intro A' C' w2 gr2 hg2; have bx2 := bx.lo hg2.1 hb; have c1' := bx2.at_ 1 rfl; have f1' := bx2.thaw 1)
  go_ret2
  refine ⟨rfl, ⟨some ⟨b, 0, none⟩, A', C', .inr rfl, ?_, gr2.same fun k o h1 _ _ => Below.heap_setCell _ _ _ _ (by simp; omega)⟩, (ht.trans (BTouch.of_grows hg2)).setCell 1 _⟩
  rw [List.length_append, hsz]
  simpa using bx2.set_ 1 (.slice A' (xs.length + s.size) C')
theorem grows_alloc {e : TypeId} {L : Nat} {w w' : World} {o : Obj} (hL : L ≤ w.heap.size) (h : Grows e L (w.alloc o) w') : Grows e L w w' :=
  ⟨((Below.refl _ _).alloc hL o).trans h.1, fun k o' h1 h2 => h.2 k o' ((Below.heap_alloc w o k (Array.getElem?_eq_some_iff.1 h1).1).trans h1) h2⟩
theorem own_one (w : World) (c : UInt8) : OwnF byteF 5 (w.alloc (.cells #[.int .u8 (c.toNat : Int)] 5)) w.heap.size (w.heap.size + 1) (.slice (some ⟨w.heap.size, 0, none⟩) 1 1) [c] :=
  ownF_row (n := 1) (row_new 5 1 w #[.int .u8 (c.toNat : Int)] 1 (by simp) (by omega)) rfl (by simp)

set_option maxRecDepth 100000 in
set_option maxHeartbeats 2000000 in
theorem writeByte_any {L b : Nat} {xs : List UInt8} (c : UInt8) (z : Int) (hz : z = (c.toNat : Int)) (w : World) (h : Bld L w b xs) (hb : b < L) (hL : L ≤ w.heap.size) (hn : xs.length + 1 ≤ 1000000000) :
    Calls Tryd.prog 178 #[.pointer (some ⟨b, 0, none⟩), .int .u8 z] w fun e w' => e = .returned .nilIface ∧ Bld L w' b (xs ++ [c]) ∧ BTouch b L w w' := by
  subst hz
  go_enter Tryd.func178, Tryd.ntmps178
  go_wp2_with fail
  refine (copyCheck_any h hb).mono ?_
  rintro e w1 ⟨rfl, ⟨A, C, bx, gr⟩, ht⟩
  have c1 := bx.at_ 1 rfl
  have hz := ht.size
  have gr1 := gr.same (w' := w1.alloc (.cells #[.int .u8 (c.toNat : Int)] 5)) fun k o h1 h2 _ => Below.heap_alloc _ _ _ (Array.getElem?_eq_some_iff.1 h2).1
  go_wp2_with (at_builtin; go_must (refine wpList_appGrow byteF rfl (.tmp 11) (.tmp 13) 22 5 rfl (.int .u8 0) 1 Tryd.underlying22 info_byte rfl (by omega) rfl gr1 (by simp; omega) rfl (own_one w1 c) (by omega) ?_); intro A' C' w2 gr2 hg2; have bx2 := (bx.alloc (.cells #[.int .u8 (c.toNat : Int)] 5)).lo hg2.1 hb; have c1' := bx2.at_ 1 rfl; have f1' := bx2.thaw 1)
  go_ret
  refine ⟨rfl, ⟨some ⟨b, 0, none⟩, A', C', .inr rfl, ?_, gr2.same fun k o h1 _ _ => Below.heap_setCell _ _ _ _ (by simp; omega)⟩, ((ht.alloc (by omega) _).trans (BTouch.of_grows hg2)).setCell 1 _⟩
  rw [List.length_append]
  simpa using bx2.set_ 1 (.slice A' (xs.length + 1) C')

set_option maxRecDepth 100000 in
set_option maxHeartbeats 2000000 in
theorem appendRune_any {L : Nat} {A : Option Addr} {C : Nat} {xs : List UInt8} (c : UInt8) (z : Int) (hz : z = (c.toNat : Int)) (hc : z ≤ 127) (w : World) (gr : GrowF byteF 5 L w A C xs) (hL : L ≤ w.heap.size) (hn : xs.length + 1 ≤ 1000000000) :
    Calls Tryd.prog 192 #[.slice A xs.length C, .int .i32 z] w fun e w' => ∃ A' C', e = .returned (.slice A' (xs.length + 1) C') ∧ GrowF byteF 5 L w' A' C' (xs ++ [c]) ∧ Grows 5 L w w' := by
  subst hz
  have h0 : (0 : Int) ≤ (c.toNat : Int) := by omega
  have hw1 : IntKind.u32.wrap (c.toNat : Int) = (c.toNat : Int) := by rw [IntKind.wrap_u32]; omega
  have hw2 : IntKind.u8.wrap (c.toNat : Int) = (c.toNat : Int) := by rw [IntKind.wrap_u8]; omega
  have gr1 := gr.same (w' := w.alloc (.cells #[.int .u8 (c.toNat : Int)] 5)) fun k o h1 h2 _ => Below.heap_alloc _ _ _ (Array.getElem?_eq_some_iff.1 h2).1
  go_enter Tryd.func192, Tryd.ntmps192
  go_wp2_with (at_builtin; go_must (refine wpList_appGrow byteF rfl (.tmp 8) (.tmp 11) 22 5 rfl (.int .u8 0) 1 Tryd.underlying22 info_byte rfl (by omega) rfl gr1 (by simp; omega) rfl (own_one w c) (by omega) ?_); intro A' C' w2 gr2 hg2)
  go_ret
  exact ⟨A', C', rfl, gr2, grows_alloc hL hg2⟩

set_option maxRecDepth 100000 in
set_option maxHeartbeats 2000000 in
theorem writeRune_any {L b : Nat} {xs : List UInt8} (c : UInt8) (z : Int) (hz : z = (c.toNat : Int)) (hc : z ≤ 127) (w : World) (h : Bld L w b xs) (hb : b < L) (hL : L ≤ w.heap.size) (hn : xs.length + 1 ≤ 1000000000) :
    Calls Tryd.prog 180 #[.pointer (some ⟨b, 0, none⟩), .int .i32 z] w fun e w' => e = .returned (.tuple #[.int .i64 1, .nilIface]) ∧ Bld L w' b (xs ++ [c]) ∧ BTouch b L w w' := by
  subst hz
  go_enter Tryd.func180, Tryd.ntmps180
  go_wp2_with fail
  refine (copyCheck_any h hb).mono ?_
  rintro e w1 ⟨rfl, ⟨A, C, bx, gr⟩, ht⟩
  have c1 := bx.at_ 1 rfl
  have hz1 := ht.size
  go_wp2_with fail
  refine (appendRune_any c _ rfl hc w1 gr (by omega) hn).mono ?_
  rintro e w2 ⟨A', C', rfl, gr2, hg2⟩
  have bx2 := bx.lo hg2.1 hb
  have c1' := bx2.at_ 1 rfl
  have f1' := bx2.thaw 1
  have hw : IntKind.i64.wrap (((xs.length : Nat) : Int) + 1 - (xs.length : Nat)) = 1 := by rw [show ((xs.length : Nat) : Int) + 1 - (xs.length : Nat) = 1 by omega]; exact IntWalk.i64_in 1 (by omega)
  clear c1
  go_wp2
  go_ret2
  refine ⟨?_, ⟨some ⟨b, 0, none⟩, A', C', .inr rfl, ?_, gr2.same fun k o h1 _ _ => Below.heap_setCell _ _ _ _ (by simp; omega)⟩, (ht.trans (BTouch.of_grows hg2)).setCell 1 _⟩
  · congr 3
  · rw [List.length_append]
    simpa using bx2.set_ 1 (.slice A' (xs.length + 1) C')

/-- String(): the bytes. -/
theorem string_any {L b : Nat} {xs : List UInt8} (w : World) (h : Bld L w b xs) (hb : b < L) (hL : L ≤ w.heap.size) :
    Calls Tryd.prog 177 #[.pointer (some ⟨b, 0, none⟩)] w fun e w' => e = .returned (.string ⟨xs.toArray⟩) ∧ Below b w w' ∧ ∀ (k : Nat) (o : Obj), k ≠ b → w.heap[k]? = some o → (∀ cur fz, o ≠ .cells cur 5 fz) → w'.heap[k]? = some o := by
  obtain ⟨p, A, C, hp, bx, gr⟩ := h
  have hrow : w.ownsRow b 5 1 (.slice A xs.length C) xs.length (flat byteF xs) := ((gr.own hL).wide (lo' := b) (by omega) (Nat.le_refl _)).row.row
  have hne : (Value.slice A xs.length C).ownBlock ≠ some b := by
    intro e
    have := (gr.own hL).lo_le e
    omega
  have hat : ∀ q, Bx w b 167 #[q, .slice A xs.length C] → Lib.BuilderAtF 167 5 b b q (Lib.byteCells xs) w := fun q hq => by
    refine ⟨Nat.le_refl _, _, hq, ?_, hne⟩
    have hf : Lib.byteCells xs = flat byteF xs := by rw [flat_byte]; rfl
    rw [hf, show (flat byteF xs).length = xs.length by rw [flat_len]; exact Nat.mul_one _]
    exact World.ownsRowF_of hrow
  have hI : Lib.IsBuilderF 167 5 b b (Lib.byteCells xs) w := by
    rcases hp with rfl | rfl
    · exact .inl (hat _ bx)
    · exact .inr (hat _ bx)
  refine (Tryd.Builder_String_any_k b b xs w hI (by omega)).mono ?_
  rintro e w' ⟨he, _, hb', hk⟩
  exact ⟨he, hb', fun k o h1 h2 h3 => hk k o h2 (fun e => h1 (Option.some.inj e)) h3⟩
end Go.Proofs.YtlahobdopmdfmaaDoor

/- BackD -/
namespace Go.Proofs.YtlahobdopmdfmaaDoor
open Go.RowKit Go.Shelf

attribute [local go_sem] Oper.semAt_some

set_option maxRecDepth 100000 in
set_option maxHeartbeats 2000000 in
theorem backD1_in {p : Int → Prop} (F : Fence) (n : Nat) (hF : F.fn 191) (hro : F.round = none) (hn : 1 ≤ n) (l Bs n₀ : Nat) (a : Option Addr) (cap : Nat) (zs : List Int) (hp : ∀ d ∈ zs, p d)
    (J Jx : List (Ent p) → World → Prop)
    (hY : ∀ pre x W, J pre W → pre.length < zs.length → YieldAt F (n - 1) Tryd.prog l #[.int .i64 (x.1 : Int), .int .i64 x.2.1] W fun e W' =>
      (e = .returned (.bool true) ∧ J (pre ++ [x]) W' ∧ KeepB n₀ Bs W W') ∨ (e = .returned (.bool false) ∧ Jx (pre ++ [x]) W'))
    (W : World) (hBs : W.cell? ⟨Bs, 0, none⟩ = some (.slice a zs.length cap)) (hR : Rd W a zs) (hRn : zs ≠ [] → ∀ b off, a = some ⟨b, off, none⟩ → b < n₀) (h0 : J [] W) :
    CallsIn F n Tryd.prog 191 #[.func (.yield l) #[] #[], .pointer (some ⟨Bs, 0, none⟩)] W fun e W' => (∃ v, e = .returned v) ∧
      ((∃ ys, ys = bwd zs hp zs.length ∧ J ys W') ∨ (∃ pre, (∃ k, k ≤ zs.length ∧ pre = bwd zs hp k) ∧ Jx pre W')) := by
  have hlen := hR.len
  refine callsIn_of_wp Tryd.func191 rfl hF ?_ hro
  simp only [Tryd.ntmps191, List.size_toArray, List.length_cons, List.length_nil, Nat.reduceAdd, Nat.reduceSub, Array.replicate_succ, Array.replicate_zero, List.push_toArray, List.append_toArray, List.nil_append, List.cons_append]
  gi_wp2
  gi_loopw [3] (fun i wr => ∃ (j k : Nat), k + j = zs.length ∧ i = .int .i64 ((j : Int) - 1) ∧ J (bwd zs hp k) wr ∧ KeepB n₀ Bs W wr) (fun i _ => (intOf i + 1).toNat)
  case atStart => exact ⟨zs.length, 0, by omega, by go_num, h0, KeepB.refl _ _ _⟩
  case round =>
    obtain ⟨j, k, hk, hi, hJs, hnx⟩ := hrel
    subst hi
    have hBr := hnx.cell hBs
    cases j with
    | zero =>
      have hkl : k = zs.length := by omega
      gi_wp2
      go_end0
      exact ⟨⟨_, rfl⟩, .inl ⟨_, rfl, by rw [← hkl]; exact hJs⟩⟩
    | succ j =>
      rw [show ((j + 1 : Nat) : Int) - 1 = (j : Int) from by omega]
      have hjl : j < zs.length := by omega
      obtain ⟨q, off, rfl, hc⟩ := hR.at_ hjl
      have hq : q < n₀ := hRn (by rintro rfl; simp at hjl) q off rfl
      have hcr := (hnx.1.cell (p := ⟨q, off + j, none⟩) hq).trans hc
      have hpj : p (nth zs j) := by rw [nth_get hjl]; exact hp _ (List.getElem_mem _)
      obtain ⟨fn, tmps, assign, body, hy, hYR⟩ := hY _ (j, ⟨nth zs j, hpj⟩) wr hJs (by rw [bwd_len (by omega)]; omega)
      dsimp only at hy
      have HK := Lib.hid hk
      clear hk
      gi_wp2
      refine hYR.mono ?_
      rintro e W3 (⟨rfl, hJ3, hk3⟩ | ⟨rfl, hJx3⟩)
      · gi_wp2
        go_roundw
        case rel => exact ⟨j, k + 1, by have := HK.out; omega, by go_num, by rw [bwd_step HK.out hpj]; exact hJ3, keepB_t hnx hk3⟩
        case measure => (simp [intOf]) <;> omega
      · gi_wp2
        refine bodyPost_ret (results_none rfl _ _ _) rfl ?_
        exact ⟨⟨_, rfl⟩, .inr ⟨_, ⟨k + 1, by have := HK.out; omega, (bwd_step HK.out hpj).symm⟩, hJx3⟩⟩

set_option maxHeartbeats 1000000 in
theorem backD_in (F : Fence) (n : Nat) (hF : F.fn 179) (hro : F.round = none) (a : Option Addr) (len cap : Nat) (w : World) :
    CallsIn F n Tryd.prog 179 #[.slice a len cap] w fun e w' => e = .returned (.func (.func 191) #[] #[.pointer (some ⟨w.heap.size, 0, none⟩)]) ∧ w' = w.alloc (.cells #[.slice a len cap] 24) := by
  refine callsIn_of_wp Tryd.func179 rfl hF ?_ hro
  simp only [Tryd.ntmps179, List.size_toArray, List.length_cons, List.length_nil, Nat.reduceAdd, Nat.reduceSub, Array.replicate_succ, Array.replicate_zero, List.push_toArray, List.append_toArray, List.nil_append, List.cons_append]
  gi_wp2
  go_ret
  exact ⟨rfl, rfl⟩

theorem backD_stops {p : Int → Prop} (F : Fence) (n : Nat) (hF : F.fn 191) (hro : F.round = none) (hn : 1 ≤ n) (Bs n₀ : Nat) (a : Option Addr) (cap : Nat) (zs : List Int) (hp : ∀ d ∈ zs, p d) (w : World) (hBs : Bs < w.heap.size)
    (hc : w.cell? ⟨Bs, 0, none⟩ = some (.slice a zs.length cap)) (hR : Rd w a zs) (hRn : zs ≠ [] → ∀ b off, a = some ⟨b, off, none⟩ → b < n₀) :
    SeqStopsK F n Tryd.prog 191 #[.pointer (some ⟨Bs, 0, none⟩)] (fun x : Ent p => #[Value.int .i64 (x.1 : Int), Value.int .i64 x.2.1]) (KeepB n₀ Bs) (fun ys => ys = bwd zs hp zs.length)
      (fun pre => ∃ k, k ≤ zs.length ∧ pre = bwd zs hp k) zs.length w := fun l J Jx W hW _ _ hY h0 =>
  backD1_in F n hF hro hn l Bs n₀ a cap zs hp J Jx hY W ((hW.cell (p := ⟨Bs, 0, none⟩) hBs).trans hc) (hR.below hW) hRn h0
end Go.Proofs.YtlahobdopmdfmaaDoor

/- Dec -/
namespace Go.Proofs.YtlahobdopmdfmaaDoor
open Go.RowKit

/-- The decimal digits of a number, none for 0. -/
def dg (u : Nat) : List UInt8 :=
  if _ : u = 0 then [] else dg (u / 10) ++ [UInt8.ofNat (48 + u % 10)]
termination_by u
decreasing_by omega
theorem dg_zero : dg 0 = [] := by rw [dg, dif_pos rfl]
theorem dg_pos {u : Nat} (h : u ≠ 0) : dg u = dg (u / 10) ++ [UInt8.ofNat (48 + u % 10)] := by rw [dg, dif_neg h]
theorem dg_ne {u : Nat} (h : u ≠ 0) : dg u ≠ [] := by rw [dg_pos h]; simp
theorem dg_dec : ∀ {u : Nat}, u ≠ 0 → dg u = Lib.decDigits u := by
  intro u
  induction u using Nat.strongRecOn with
  | _ u ih =>
    intro h
    rw [dg_pos h, Lib.decDigits]
    by_cases h10 : u < 10
    · rw [dif_pos h10, show u / 10 = 0 by omega, dg_zero, List.nil_append, show u % 10 = u by omega]
    · rw [dif_neg h10, ih (u / 10) (by omega) (by omega)]
theorem dg_len : ∀ (k u : Nat), u < 10 ^ k → (dg u).length ≤ k := by
  intro k
  induction k with
  | zero => intro u h; have : u = 0 := by simpa using h
            rw [this, dg_zero]; simp
  | succ k ih =>
    intro u h
    by_cases h0 : u = 0
    · rw [h0, dg_zero]; simp
    · rw [dg_pos h0]
      have := ih (u / 10) (by rw [Nat.pow_succ] at h; omega)
      simp; omega
theorem itoa_zero : Lib.itoa 0 = [48] := by unfold Lib.itoa; rw [if_neg (by omega)]; rw [Lib.decDigits, dif_pos (by decide)]; rfl
theorem itoa_neg {n : Int} (h : n < 0) : Lib.itoa n = 45 :: dg n.natAbs := by unfold Lib.itoa; rw [if_pos h, dg_dec (by omega)]
theorem itoa_pos {n : Int} (h : 0 < n) : Lib.itoa n = dg n.natAbs := by unfold Lib.itoa; rw [if_neg (by omega), dg_dec (by omega)]; congr 1; omega

/-- Bytes as cells. -/
def u8s (l : List UInt8) : List Value := l.map fun b => Value.int .u8 (b.toNat : Int)
theorem u8s_cons (b : UInt8) (l : List UInt8) : u8s (b :: l) = [Value.int .u8 (b.toNat : Int)] ++ u8s l := rfl
theorem u8s_len (l : List UInt8) : (u8s l).length = l.length := by simp [u8s]
theorem u8s_at {l : List UInt8} {j : Nat} (h : j < l.length) : (u8s l)[j]? = some (.int .u8 (l[j].toNat : Int)) := by simp [u8s, List.getElem?_map, List.getElem?_eq_getElem h]
theorem info_u8 : (Tryd.prog.info? 5).map (fun i => (i.zero, i.size, i.bytes)) = some (some (.int .u8 0), 1, 1) := by kernel_rfl

theorem td10 (j : Int) : ∃ q r : Int, j.tdiv 10 = q ∧ j.tmod 10 = r ∧ q.natAbs = j.natAbs / 10 ∧ r.natAbs = j.natAbs % 10 ∧ (0 ≤ j → 0 ≤ q ∧ 0 ≤ r) ∧ (j ≤ 0 → q ≤ 0 ∧ r ≤ 0) := by
  rcases Int.le_total 0 j with h | h
  · refine ⟨j / 10, j % 10, Int.tdiv_eq_ediv_of_nonneg h, Int.tmod_eq_emod_of_nonneg h, by omega, by omega, fun _ => by omega, fun _ => by omega⟩
  · obtain ⟨m, rfl⟩ : ∃ m : Nat, j = -(m : Int) := ⟨j.natAbs, by omega⟩
    refine ⟨-((m : Int) / 10), -((m : Int) % 10), ?_, ?_, by omega, by omega, fun _ => by omega, fun _ => by omega⟩
    · rw [Int.neg_tdiv, Int.tdiv_eq_ediv_of_nonneg (by omega)]
    · rw [Int.neg_tmod, Int.tmod_eq_emod_of_nonneg (by omega)]
/-- The next digit. -/
theorem dg_next {j q r n : Int} {l : List UInt8} (h : dg j.natAbs ++ l = dg n.natAbs) (hj : j ≠ 0) (hq : q.natAbs = j.natAbs / 10) (hr : r.natAbs = j.natAbs % 10) : dg q.natAbs ++ (UInt8.ofNat (48 + r.natAbs) :: l) = dg n.natAbs := by
  rw [← h, dg_pos (u := j.natAbs) (by omega), hq, hr]; simp
theorem u8_val {r : Int} (h1 : -9 ≤ r) (h2 : r ≤ 9) : ((UInt8.ofNat (48 + r.natAbs)).toNat : Int) = 48 + (r.natAbs : Int) := by
  rw [UInt8.toNat_ofNat']; omega

theorem u8s_one {l : List UInt8} : ∀ u ∈ u8s l, u.oneCell' = true := by
  intro u hu
  obtain ⟨b, _, rfl⟩ := List.mem_map.1 hu
  rfl

/-- What has been written so far, and what is left. -/
def DecRel (n : Int) (w : World) (o k : Value) (wr : World) : Prop := ∃ (j : Int) (l : List UInt8) (A : Addr) (C : Nat), k = .int .i64 j ∧ o = .slice (some A) l.length C ∧
  Hid (dg j.natAbs ++ l = dg n.natAbs) ∧ Hid (0 ≤ n ∧ 0 ≤ j ∨ n ≤ 0 ∧ j ≤ 0) ∧ -9223372036854775808 ≤ j ∧ j ≤ 9223372036854775807 ∧ l.length ≤ 20 ∧ Row 5 1 wr w.heap.size wr.heap.size (.slice (some A) l.length C) l.length (u8s l) ∧ Below w.heap.size w wr

set_option maxRecDepth 100000 in
set_option maxHeartbeats 4000000 in
theorem l01Dec_any (n : Int) (w : World) (h0 : -9223372036854775808 ≤ n) (h1 : n ≤ 9223372036854775807) :
    Calls Tryd.prog 122 #[.int .i64 n] w fun e w' => e = .returned (.string ⟨(Lib.itoa n).toArray⟩) ∧ Below w.heap.size w w' := by
  have HH : Hid ((dg n.natAbs).length ≤ 20) := Lib.hid (dg_len 20 n.natAbs (by omega))
  go_enter Tryd.func122, Tryd.ntmps122
  go_wp2
  go_loopw [3, 4] (fun o k wr => DecRel n w o k wr) (fun _ k _ => (intOf k).natAbs)
  case atStart =>
    refine ⟨n, [], _, _, rfl, rfl, Lib.hid (by simp), Lib.hid (by omega), h0, h1, by simp, ?_, (Below.refl _ _).alloc (Nat.le_refl _) _⟩
    have := row_new 5 1 w #[] 0 rfl (by omega)
    simpa [u8s] using this
  case round =>
    obtain ⟨j, l, A, C, rfl, rfl, hd, hsg, hj3, hj4, hl, row, hbel⟩ := hrel
    by_cases hj : j = 0
    · subst hj
      have hd0 : l = dg n.natAbs := by have := hd.out; rw [show (0 : Int).natAbs = 0 from rfl, dg_zero, List.nil_append] at this; exact this
      have hcv := run_convert_bytes_back (P := Tryd.prog) wr 22 9 5 A C l Tryd.underlying22 Tryd.underlying5 Tryd.underlying9 (fun j hj => row.cell (u8s_at hj))
      clear hd hsg row
      rcases Int.lt_trichotomy n 0 with hn | hn | hn
      · have HI : Hid (Lib.itoa n = 45 :: l) := Lib.hid (by rw [itoa_neg hn, hd0])
        have hlp : 0 < l.length := by
          rw [hd0]; exact List.length_pos_iff.2 (dg_ne (by omega))
        clear hd0
        go_wp2
        go_ret
        exact ⟨by rw [HI.out]; rfl, hbel⟩
      · subst hn
        have hl0 : l = [] := by rw [hd0]; exact dg_zero
        subst hl0
        have HI := Lib.hid itoa_zero
        clear hd0
        go_wp2
        go_ret
        exact ⟨by rw [HI.out]; rfl, hbel⟩
      · have HI : Hid (Lib.itoa n = l) := Lib.hid (by rw [itoa_pos hn, hd0])
        have hlp : 0 < l.length := by
          rw [hd0]; exact List.length_pos_iff.2 (dg_ne (by omega))
        clear hd0
        go_wp2
        go_ret
        exact ⟨by rw [HI.out]; rfl, hbel⟩
    · obtain ⟨q, r, hq, hr, hqa, hra, hp, hn⟩ := td10 j
      have hr1 : -9 ≤ r := by omega
      have hr2 : r ≤ 9 := by omega
      have hq1 : -9223372036854775808 ≤ q := by omega
      have hq2 : q ≤ 9223372036854775807 := by omega
      have hqw : wrap64 q = q := IntWalk.wrap64_in _ ⟨by omega, by omega⟩
      have HD := Lib.hid (dg_next hd.out hj hqa hra)
      have hl2 : l.length + 1 ≤ 20 := by have := HH.out; rw [← HD.out] at this; simp at this; omega
      have HS : Hid (0 ≤ n ∧ 0 ≤ q ∨ n ≤ 0 ∧ q ≤ 0) := Lib.hid (by rcases hsg.out with h | h; exact .inl ⟨h.1, (hp h.2).1⟩; exact .inr ⟨h.1, (hn h.2).1⟩)
      have hm : Hid (q.natAbs < j.natAbs) := Lib.hid (by omega)
      have HB := Lib.hid (u8_val hr1 hr2)
      have hrow := row.alloc (.cells #[.int .u8 (48 + (r.natAbs : Int))] 5)
      have hnew := row_new 5 1 wr #[.int .u8 (48 + (r.natAbs : Int))] 1 rfl (by omega)
      clear hd hsg hqa hra hp hn row
      by_cases hr0 : r < 0
      · have hab : (r.natAbs : Int) = -r := by omega
        rw [hab] at hrow hnew HB
        clear hab
        go_wp2_with (at_builtin; go_must (refine wpList_appR rfl (.tmp 21) (.tmp 22) 22 5 rfl (.int .u8 0) 1 1 Tryd.underlying22 info_u8 rfl (by omega) (by omega) rfl hnew A l.length C (u8s l) rfl (by simp [u8s_len]) (fun j u h => hrow.cell h) u8s_one (by omega) (by simp) ?_); intro A' C' w1 row1 ht1)
        have hb1 : Below w.heap.size w w1 := (hbel.alloc (by have := hbel.size; omega) _).trans (ht1.below hbel.size (by have := hbel.size; simp; omega))
        obtain ⟨A2, rfl⟩ : ∃ A2, A' = some A2 := by
          cases A' with
          | none => have := row1.none_.1; omega
          | some A2 => exact ⟨A2, rfl⟩
        go_roundw
        case rel =>
          refine ⟨q, _ :: l, A2, C', rfl, ?_, HD, HS, hq1, hq2, by simpa using hl2, ?_, hb1⟩
          · simp [Nat.add_comm]
          · rw [u8s_cons, HB.out]
            have := row1.wide (lo' := w.heap.size) hbel.size (Nat.le_refl _)
            simpa [Nat.add_comm] using this
        case measure => have := hm.out; simp [intOf]; omega
      · have hab : (r.natAbs : Int) = r := by omega
        rw [hab] at hrow hnew HB
        clear hab
        have hr3 : 0 ≤ r := by omega
        go_wp2_with (at_builtin; go_must (refine wpList_appR rfl (.tmp 21) (.tmp 22) 22 5 rfl (.int .u8 0) 1 1 Tryd.underlying22 info_u8 rfl (by omega) (by omega) rfl hnew A l.length C (u8s l) rfl (by simp [u8s_len]) (fun j u h => hrow.cell h) u8s_one (by omega) (by simp) ?_); intro A' C' w1 row1 ht1)
        have hb1 : Below w.heap.size w w1 := (hbel.alloc (by have := hbel.size; omega) _).trans (ht1.below hbel.size (by have := hbel.size; simp; omega))
        obtain ⟨A2, rfl⟩ : ∃ A2, A' = some A2 := by
          cases A' with
          | none => have := row1.none_.1; omega
          | some A2 => exact ⟨A2, rfl⟩
        go_roundw
        case rel =>
          refine ⟨q, _ :: l, A2, C', rfl, ?_, HD, HS, hq1, hq2, by simpa using hl2, ?_, hb1⟩
          · simp [Nat.add_comm]
          · rw [u8s_cons, HB.out]
            have := row1.wide (lo' := w.heap.size) hbel.size (Nat.le_refl _)
            simpa [Nat.add_comm] using this
        case measure => have := hm.out; simp [intOf]; omega
end Go.Proofs.YtlahobdopmdfmaaDoor

/- DecI -/
namespace Go.Proofs.YtlahobdopmdfmaaDoor
open Go.RowKit

/-- The library's table of powers of ten, as its text lays it. -/
def PowTab (w : World) : Prop := Lib.TabIs Tryd.prog w "internal/strconv.uint64pow10" .u64 Lib.pow10Tab
theorem tabIs_below {n : String} {g : Nat} {k : IntKind} {zs : List Int} {w w' : World} (hg : Tryd.prog.globalNamed n = some g) (h : Lib.TabIs Tryd.prog w n k zs) (hb : Below w.heap.size w w') : Lib.TabIs Tryd.prog w' n k zs := by
  unfold Lib.TabIs World.var? at h ⊢
  rw [hg] at h ⊢
  simp only [Option.bind_some] at h ⊢
  have hl : g < w.heap.size := by
    rcases Nat.lt_or_ge g w.heap.size with h1 | h1
    · exact h1
    · rw [Array.getElem?_eq_none h1] at h; cases h
  rw [hb.block g hl]
  exact h
theorem powTab_below {w w' : World} (h : PowTab w) (hb : Below w.heap.size w w') : PowTab w' := tabIs_below (g := 2) (by kernel_rfl) h hb

theorem i64_bd {n : Int} (h : I64 n) : -9223372036854775808 ≤ n ∧ n ≤ 9223372036854775807 := by
  unfold I64 at h
  simp [Lit.wf, IntKind.min, IntKind.max, IntKind.signed, IntKind.bits] at h
  exact h

theorem implDecimal (n : Int) (w : World) (b : I64 n) (hD : PowTab w) :
    Calls Tryd.prog 121 #[.int .i64 n] w fun e w' => e = .returned (.string ⟨(Lib.itoa n).toArray⟩) ∧ Below w.heap.size w w' := by
  obtain ⟨h0, h1⟩ := i64_bd b
  have c := fun w => Tryd.strconv_FormatInt_10 n h0 h1 w
  have c1 := c w hD
  clear c hD b
  go_enter Tryd.func121, Tryd.ntmps121
  go_wp2_with (go_at_call 166; refine c1.mono ?_; rintro e w' ⟨rfl, hg⟩)
  obtain ⟨k, os, rfl⟩ := hg
  go_ret
  exact ⟨rfl, Lib.below_grow _ _ (Nat.le_refl _) _ _⟩
end Go.Proofs.YtlahobdopmdfmaaDoor

/- MarkT -/
namespace Go.Proofs.YtlahobdopmdfmaaDoor
open Go.RowKit

/-- What markText makes of a number, ahead of what it has made. -/
def mtL (n : Nat) (acc : List UInt8) : List UInt8 := if h : n = 0 then acc else mtL (n / 10) (UInt8.ofNat (48 + n % 10) :: acc)
termination_by n
decreasing_by omega
theorem mtL_zero (acc : List UInt8) : mtL 0 acc = acc := by rw [mtL, dif_pos rfl]
theorem mtL_step {n : Nat} (h : n ≠ 0) (acc : List UInt8) : mtL n acc = mtL (n / 10) (UInt8.ofNat (48 + n % 10) :: acc) := by rw [mtL, dif_neg h]
def mtx (k : Int) : ByteArray := if k ≤ 0 then ⟨#[109, 48]⟩ else ⟨(109 :: mtL k.toNat []).toArray⟩
theorem bs_ext {a b : ByteArray} (h : a.data.toList = b.data.toList) : a = b := by
  obtain ⟨a⟩ := a
  obtain ⟨b⟩ := b
  simp only at h
  congr 1
  exact Array.toList_inj.1 h

end Go.Proofs.YtlahobdopmdfmaaDoor

/- TxtI -/
namespace Go.Proofs.YtlahobdopmdfmaaDoor
open Go.RowKit Go.Shelf

attribute [local go_sem] Oper.semAt_some

/-- The character of a digit. -/
def sgnD (d : Int) : UInt8 := if d < 10 then UInt8.ofNat (48 + d.toNat) else UInt8.ofNat (87 + d.toNat)
theorem sgnD_val {d : Int} (h0 : 0 ≤ d) (h1 : d ≤ 15) : ((sgnD d).toNat : Int) = if d < 10 then 48 + d else 87 + d := by
  unfold sgnD
  by_cases h : d < 10
  · rw [if_pos h, if_pos h, UInt8.toNat_ofNat']; omega
  · rw [if_neg h, if_neg h, UInt8.toNat_ofNat']; omega
theorem sgnD_le {d : Int} (h0 : 0 ≤ d) (h1 : d ≤ 15) : ((sgnD d).toNat : Int) ≤ 127 := by
  rw [sgnD_val h0 h1]
  split <;> omega
/-- The bytes of a register's text. -/
def txB (B : Int) (zs : List Int) : List UInt8 := (Lib.itoa B ++ [58]) ++ zs.reverse.map sgnD
def txR (B : Int) (zs : List Int) : ByteArray := if okB B zs = true then ⟨(txB B zs).toArray⟩ else ByteArray.empty
theorem txR_bad {B : Int} {zs : List Int} (h : okB B zs = false) : txR B zs = ByteArray.empty := by rw [txR, if_neg (by rw [h]; decide)]
theorem txR_ok {B : Int} {zs : List Int} (h : okB B zs = true) : txR B zs = ⟨(txB B zs).toArray⟩ := by rw [txR, if_pos h]
/-- The characters of what has come. -/
def chrs {p : Int → Prop} (pre : List (Ent p)) : List UInt8 := pre.map fun x => sgnD x.2.1
theorem chrs_snoc {p : Int → Prop} (pre : List (Ent p)) (x : Ent p) : chrs (pre ++ [x]) = chrs pre ++ [sgnD x.2.1] := by simp [chrs]
theorem chrs_bwd {p : Int → Prop} {zs : List Int} {h : ∀ d ∈ zs, p d} : ∀ {k : Nat}, k ≤ zs.length → chrs (bwd zs h k) = (zs.drop (zs.length - k)).reverse.map sgnD
  | 0, _ => by simp [chrs, bwd]
  | k + 1, hk => by
    rw [bwd_succ (by omega), chrs_snoc, chrs_bwd (by omega), List.drop_eq_getElem_cons (show zs.length - (k + 1) < zs.length by omega), List.reverse_cons, List.map_append]
    have e1 : zs.length - (k + 1) + 1 = zs.length - k := by omega
    have e3 : zs[zs.length - 1 - k] = zs[zs.length - (k + 1)] := by congr 1; omega
    simp only [e1, e3, List.map_cons, List.map_nil]
theorem chrs_all {p : Int → Prop} {zs : List Int} {h : ∀ d ∈ zs, p d} : chrs (bwd zs h zs.length) = zs.reverse.map sgnD := by
  rw [chrs_bwd (Nat.le_refl _), Nat.sub_self, List.drop_zero]

theorem digitSign_any (d : Int) (h0 : 0 ≤ d) (h1 : d ≤ 15) (w : World) : Calls Tryd.prog 181 #[.int .i64 d] w fun e w' => e = .returned (.int .i32 ((sgnD d).toNat : Int)) ∧ w' = w := by
  have hv := sgnD_val h0 h1
  by_cases h : d < 10
  · rw [if_pos h] at hv
    have HV := Lib.hid hv
    have w1 : IntKind.i32.wrap d = d := by simp [IntKind.wrap, IntKind.bits, IntKind.signed]; omega
    have w2 : IntKind.i32.wrap (48 + d) = 48 + d := by simp [IntKind.wrap, IntKind.bits, IntKind.signed]; omega
    clear hv
    go_enter Tryd.func181, Tryd.ntmps181
    go_wp2
    go_ret
    exact ⟨by rw [HV.out]; rfl, rfl⟩
  · rw [if_neg h] at hv
    have HV := Lib.hid hv
    have w0 : IntKind.i64.wrap (d - 10) = d - 10 := IntWalk.i64_in _ (by omega)
    have w1 : IntKind.i32.wrap (d - 10) = d - 10 := by simp [IntKind.wrap, IntKind.bits, IntKind.signed]; omega
    have w2 : IntKind.i32.wrap (97 + (d - 10)) = 97 + (d - 10) := by simp [IntKind.wrap, IntKind.bits, IntKind.signed]; omega
    clear hv
    go_enter Tryd.func181, Tryd.ntmps181
    go_wp2
    go_ret
    exact ⟨ret_int (by rw [HV.out]; omega), rfl⟩

theorem itoa_len {n : Int} (h0 : 0 ≤ n) (h1 : n ≤ 16) : (Lib.itoa n).length ≤ 20 := by
  obtain ⟨k, rfl⟩ : ∃ k : Nat, n = k := ⟨n.toNat, by omega⟩
  have : k ≤ 16 := by omega
  have hall : ∀ j : Fin 17, (Lib.itoa ((j.val : Nat) : Int)).length ≤ 20 := by decide +kernel
  exact hall ⟨k, by omega⟩

set_option maxRecDepth 100000 in
set_option maxHeartbeats 4000000 in
theorem implRegisterText (B : Int) (a : Option Addr) (c : Nat) (zs : List Int) (w : World) (ha : Rd w a zs) (z : All64 zs) (bB : I64 B) (hD : PowTab w) :
    Calls Tryd.prog 146 #[.agg #[.int .i64 B, .slice a zs.length c]] w fun e w' => e = .returned (.string (txR B zs)) ∧ Below w.heap.size w w' := by
  refine (callsIn_wide (n := 3)).1 ?_
  have hro : Fence.wide.round = none := rfl
  have hf1 : Fence.wide.fn 131 := trivial
  have hf2 : Fence.wide.fn 121 := trivial
  have hf3 : Fence.wide.fn 176 := trivial
  have hf4 : Fence.wide.fn 178 := trivial
  have hf5 : Fence.wide.fn 180 := trivial
  have hf6 : Fence.wide.fn 177 := trivial
  have hf7 : Fence.wide.fn 179 := trivial
  have hf8 : Fence.wide.fn 181 := trivial
  refine callsIn_of_wp_marks Tryd.func146 rfl trivial ?_ hro
  simp only [Tryd.ntmps146, List.size_toArray, List.length_cons, List.length_nil, Nat.reduceAdd, Nat.reduceSub, Array.replicate_succ, Array.replicate_zero, List.push_toArray, List.append_toArray, List.nil_append, List.cons_append]
  have hxl := ha.len
  obtain ⟨u, hu⟩ : ∃ u, u = w.alloc (.cells #[.int .i64 B, .slice a zs.length c] 26) := ⟨_, rfl⟩
  have hbel : Below w.heap.size w u := by rw [hu]; exact (by repeat (first | exact Below.refl _ _ | refine Below.setCell ?_ (by first | omega | (simp <;> omega)) _ | refine Below.alloc ?_ (by first | omega | (simp <;> omega)) _ | refine Below.drew ?_))
  have bx : Bx u w.heap.size 26 #[.int .i64 B, .slice a zs.length c] := by rw [hu]; exact Bx.new _ _ _
  have HU := Lib.hid hu
  clear hu
  have HV := Lib.hid (implValidRegister B a c zs u (ha.below hbel) z bB)
  cases h : okB B zs with
  | false =>
    have HR := Lib.hid (txR_bad h)
    rw [h] at HV
    clear h
    gi_wp2_with (gi_at_call 131; rw [← HU.out]; refine (callsIn_wide.2 HV.out).mono ?_; rintro e w1 ⟨rfl, hb1⟩)
    exact ⟨.string ByteArray.empty, by simp [results, Tryd.f146, go_sem]; rfl, by rw [HR.out], hbel.trans (hb1.mono hbel.size)⟩
  | true =>
    have HR := Lib.hid (txR_ok h)
    obtain ⟨o1, o2, o3, o4, o5, _⟩ := okB_spec h
    rw [h] at HV
    clear h
    gi_upto_region 4 with (gi_at_call 131; rw [← HU.out]; refine (callsIn_wide.2 HV.out).mono ?_; rintro e w1 ⟨rfl, hb1⟩)
    obtain ⟨V, hVV⟩ : ∃ V, V = w1.alloc (.cells #[.pointer none, .slice none 0 0] 167) := ⟨_, rfl⟩
    rw [← hVV]
    have hbV : Below w1.heap.size w1 V := by rw [hVV]; exact (by repeat (first | exact Below.refl _ _ | refine Below.setCell ?_ (by first | omega | (simp <;> omega)) _ | refine Below.alloc ?_ (by first | omega | (simp <;> omega)) _ | refine Below.drew ?_))
    have hsV : V.heap.size = w1.heap.size + 1 := by rw [hVV]; simp
    have bl0 : Bld (w1.heap.size + 1) V w1.heap.size [] := bld_new (by rw [hVV]; exact Bx.new _ _ _)
    have hzw : w.heap.size < w1.heap.size := by have := bx.lt; have := hb1.size; omega
    replace bx := (bx.below hb1).below hbV
    replace hbel := (hbel.trans (hb1.mono hbel.size)).trans (hbV.mono (by have := (hbel.trans (hb1.mono hbel.size)).size; omega))
    have hil := itoa_len (n := B) (by omega) (by omega)
    clear hVV hbV hb1 HV HU
    have e0 := bx.at_ 0 rfl
    gi_upto_region 5 with (first | (gi_at_call 121; refine (callsIn_wide.2 (implDecimal B V bB (powTab_below hD hbel))).mono ?_; rintro e v2 ⟨rfl, hb2⟩; have bl2 := bl0.below hb2; have hz2 := hb2.size) | (gi_at_call 176; refine (callsIn_wide.2 (writeString_any ⟨(Lib.itoa B).toArray⟩ _ bl2 (Nat.lt_succ_self _) (by omega) (by show 0 + (Lib.itoa B).toArray.size ≤ _; simp; omega))).mono ?_; rintro e v3 ⟨rfl, bl3, ht3⟩))
    have hz3 := ht3.size
    have bl3' : Bld (w1.heap.size + 1) v3 w1.heap.size (Lib.itoa B) := by simpa using bl3
    have hbx3 : Below (w1.heap.size + 1) V v2 := hb2.mono (by omega)
    have bx3 : Bx v3 w.heap.size 26 #[.int .i64 B, .slice a zs.length c] := (ht3.block _ (by omega) (by omega)).trans (bx.below hb2)
    have hbel3 : Below w.heap.size w v3 := (hbel.trans (hb2.mono (by have := hbel.size; omega))).trans (ht3.below (by omega) (by omega) (by have := hbel.size; omega))
    clear bl0 bl2 bl3 hb2 ht3 hbx3 bx hbel e0
    gi_upto_region 6 with (gi_at_call 178; refine (callsIn_wide.2 (writeByte_any 58 _ rfl _ bl3' (Nat.lt_succ_self _) (by omega) (by omega))).mono ?_; rintro e v4 ⟨rfl, bl4, ht4⟩)
    have hz4 := ht4.size
    have bx4 : Bx v4 w.heap.size 26 #[.int .i64 B, .slice a zs.length c] := (ht4.block _ (by omega) (by omega)).trans bx3
    have hbel4 : Below w.heap.size w v4 := hbel3.trans (ht4.below (by omega) (by omega) (by omega))
    have e1 := bx4.at_ 1 rfl
    clear bl3' ht4 bx3 hbel3
    gi_wp2_with (gi_at_call 179; refine (backD_in Fence.wide _ trivial rfl _ _ _ _).mono ?_; rintro e w' ⟨rfl, rfl⟩)
    obtain ⟨W0, hW0⟩ : ∃ W0, W0 = v4.alloc (.cells #[.slice a zs.length c] 24) := ⟨_, rfl⟩
    rw [← hW0]
    have bs : Bx W0 v4.heap.size 24 #[.slice a zs.length c] := by rw [hW0]; exact Bx.new _ _ _
    have hbW : Below v4.heap.size v4 W0 := by rw [hW0]; exact (by repeat (first | exact Below.refl _ _ | refine Below.setCell ?_ (by first | omega | (simp <;> omega)) _ | refine Below.alloc ?_ (by first | omega | (simp <;> omega)) _ | refine Below.drew ?_))
    have hsW : W0.heap.size = v4.heap.size + 1 := by rw [hW0]; simp
    have bl5 := bl4.below hbW
    have hbel5 : Below w.heap.size w W0 := hbel4.trans (hbW.mono (by omega))
    have ha5 := ha.below hbel5
    have hAr : ∀ d ∈ zs, isDig 16 d := fun d hd => ⟨(o5 d hd).1, by have := (o5 d hd).2; omega⟩
    clear hW0 hbW bl4 hbel4 bx4 e1
    refine wpIn_rangeFunc_ownH hro (by omega) (gf := 191) (lb := #[.pointer (some ⟨v4.heap.size, 0, none⟩)]) rfl trivial (enters_of Tryd.func191 (by kernel_rfl) rfl)
      (backD_stops Fence.wide _ trivial rfl (by omega) v4.heap.size w.heap.size a c zs hAr W0 (by omega) (bs.at_ 0 rfl) ha5 (fun hne b' off hab => by
        obtain ⟨b'', off', e, hc⟩ := ha.cells hne
        rw [hab] at e
        cases e
        exact World.block_lt_of_cell? _ _ (hc 0 (List.length_pos_iff.2 hne)))) keepB_t (keepB_b (by omega) (by omega)) (Below.refl _ _) (fun _ => rfl)
      (fun pre X => (Bld (w1.heap.size + 1) X w1.heap.size ((Lib.itoa B ++ [58]) ++ chrs pre) ∧ W0.heap.size ≤ X.heap.size ∧ Bx X v4.heap.size 24 #[.slice a zs.length c] ∧ pre.length ≤ 1000) ∧ Below w.heap.size w X)
      (fun _ _ _ => False)
      (OwnFrom.and (Own.from (fun s A0 B0 row hs hg hr => ⟨hs.1.same fun k o _ h1 h2 => grownBy_keeps_cells hg hr h1 h2, Nat.le_trans hs.2.1 hg.size, (grownBy_keeps_cells hg hr hs.2.2.1 rfl).trans hs.2.2.1, hs.2.2.2⟩) _) (ownFrom_below (Nat.le_refl _) (by omega)))
      (fun _ _ _ _ _ hs _ _ => hs)
      ⟨⟨by simpa [chrs] using bl5, Nat.le_refl _, bs, by simp⟩, hbel5⟩
      (fun x a' _ => a' = { tmps := #[.agg #[.int .i64 B, .slice a zs.length c], .pointer (some ⟨w.heap.size, 0, none⟩), .string ⟨#[]⟩, .pointer (some ⟨w1.heap.size, 0, none⟩), undef, .int .i64 x.2.1, .agg #[.int .i64 B, .slice a zs.length c], .bool true, .bool false,
        .pointer (some ⟨w.heap.size, 0, none⟩), .int .i64 B, .string ⟨(Lib.itoa B).toArray⟩, .tuple #[.int .i64 ((Lib.itoa B).length : Nat), .nilIface], .nilIface, .pointer (some ⟨w.heap.size, 1, none⟩), .slice a zs.length c,
        .func (.func 191) #[] #[.pointer (some ⟨v4.heap.size, 0, none⟩)], .int .i64 (x.1 : Int), .int .i64 x.2.1, undef, undef, undef, undef], defers := [] })
      (fun _ _ _ _ _ _ hs _ _ => hs) ?assign ?body ?done ?stop
    case assign =>
      intro l pre x X K hI hK
      gi_wp2
      exact hK _ _ ((KeepsOthers.refl _).from _) (KeepB.refl _ _ _) hI rfl
    case body =>
      rintro l pre x a' X hl ⟨r, hr⟩ ⟨⟨bl, hXs, bs', hpl⟩, hB⟩ rfl hlen
      obtain ⟨hd0, hd1⟩ := x.2.2
      have hchl : (chrs pre).length = pre.length := by simp [chrs]
      gi_wp2_with (first | (gi_at_call 181; refine (CallsIn.inRound l (callsIn_wide.2 (digitSign_any x.2.1 hd0 (by omega) _))).mono ?_; rintro e w5 ⟨rfl, hw5⟩; subst w5) | (gi_at_call 180; refine (CallsIn.inRound l (callsIn_wide.2 (writeRune_any (sgnD x.2.1) _ rfl (sgnD_le hd0 (by omega)) X bl (Nat.lt_succ_self _) (by omega) (by simp only [List.length_append, List.length_singleton, hchl]; omega)))).mono ?_; rintro e w6 ⟨rfl, bl6, ht6⟩))
      have hoth : ∀ (k : Nat) (o : Obj), k ≠ w1.heap.size → X.heap[k]? = some o → (∀ cur fz, o ≠ .cells cur 5 fz) → w6.heap[k]? = some o := ht6.others
      have hs6 : w6.heap[v4.heap.size]? = some (.cells #[.slice a zs.length c] 24 (0, 0)) := hoth _ _ (by omega) bs' (by
        intro cur fz h
        injection h with _ h2
        exact absurd h2 (by decide))
      refine ⟨⟨ht6.size, fun k o hk hko hno => hoth k o (by omega) hko (no_row hno)⟩, ⟨ht6.below (by omega) (by omega) hB.size, hs6.trans bs'.symm⟩, ⟨⟨?_, Nat.le_trans hXs ht6.size, hs6, by simp; omega⟩, hB.trans (ht6.below (by omega) (by omega) hB.size)⟩⟩
      rw [chrs_snoc, ← List.append_assoc]
      exact bl6
    case done =>
      rintro Dd ys X hDd rfl ⟨⟨bl, hXs, bs', hpl⟩, hB⟩ hK
      rw [chrs_all] at bl
      gi_wp2_with (gi_at_call 177; refine (callsIn_wide.2 (string_any X bl (Nat.lt_succ_self _) (by omega))).mono ?_; rintro e w7 ⟨rfl, hb7, hk7⟩)
      have hK7 : w7.heap[Dd]? = some (.deferred (some [])) := hk7 Dd _ (by omega) hK (by intro cur fz h; cases h)
      have hz7 := hb7.size
      refine ⟨by simp, .inl ⟨_, _, rfl, run_takeDeferred hK7, ?_⟩⟩
      have hb8 : Below w.heap.size w w7 := hB.trans (hb7.mono (by omega))
      exact ⟨.string ⟨(txB B zs).toArray⟩, by simp [results, Tryd.f146, go_sem, txB], by rw [HR.out], hb8.trans (belowK_b (w := w) (Nat.le_refl _) w7 Dd _ _ (by omega) hK7 rfl rfl)⟩
    case stop =>
      rintro Dd c pre X hDd _ hF
      exact hF.elim
end Go.Proofs.YtlahobdopmdfmaaDoor

/- TxtS -/
namespace Go.Proofs.YtlahobdopmdfmaaDoor
open Go.RowKit

def signs : ByteArray := ⟨#[48, 49, 50, 51, 52, 53, 54, 55, 56, 57, 97, 98, 99, 100, 101, 102]⟩
theorem signs_at {n : Nat} (h : n ≤ 15) : signs.extract n (n + 1) = ⟨#[sgnD (n : Int)]⟩ := by
  have hall : ∀ j : Fin 16, signs.extract j.val (j.val + 1) = ⟨#[sgnD ((j.val : Nat) : Int)]⟩ := by decide +kernel
  exact hall ⟨n, by omega⟩
/-- The text down to the digit j. -/
def txJ (B : Int) (zs : List Int) (j : Nat) : ByteArray := ⟨((Lib.itoa B ++ [58]) ++ (zs.drop j).reverse.map sgnD).toArray⟩
theorem txJ_all (B : Int) (zs : List Int) : txJ B zs zs.length = ⟨(Lib.itoa B).toArray⟩ ++ ⟨#[58]⟩ := by
  unfold txJ
  rw [List.drop_of_length_le (Nat.le_refl _)]
  simp
  rfl
theorem txJ_zero (B : Int) (zs : List Int) : txJ B zs 0 = ⟨(txB B zs).toArray⟩ := rfl
theorem txJ_step {B : Int} {zs : List Int} {j : Nat} (h : j < zs.length) : txJ B zs j = txJ B zs (j + 1) ++ ⟨#[sgnD (nth zs j)]⟩ := by
  unfold txJ
  rw [drop_nth h, List.reverse_cons, List.map_append, ← List.append_assoc]
  exact bs_ext (by simp)
theorem txJ_size {B : Int} {zs : List Int} {j : Nat} (h0 : 0 ≤ B) (h1 : B ≤ 16) (hl : zs.length ≤ 16) : (txJ B zs j).size ≤ 40 := by
  have := itoa_len h0 h1
  unfold txJ
  show ((Lib.itoa B ++ [58]) ++ (zs.drop j).reverse.map sgnD).toArray.size ≤ 40
  simp
  omega

set_option maxRecDepth 100000 in
set_option maxHeartbeats 4000000 in
theorem l02Text_any (p : Nat) (B : Int) (a : Option Addr) (c : Nat) (zs : List Int) (w : World) (ha : Rd w a zs) (hp0 : w.cell? ⟨p, 0, none⟩ = some (.int .i64 B)) (hp1 : w.cell? ⟨p, 1, none⟩ = some (.slice a zs.length c))
    (o1 : 2 ≤ B) (o2 : B ≤ 16) (o4 : zs.length ≤ 16) (o5 : ∀ d ∈ zs, 0 ≤ d ∧ d < B) :
    Calls Tryd.prog 174 #[.pointer (some ⟨p, 0, none⟩)] w fun e w' => e = .returned (.string ⟨(txB B zs).toArray⟩) ∧ Below w.heap.size w w' := by
  have HO := Lib.hid o5
  clear o5
  go_enter Tryd.func174, Tryd.ntmps174
  go_wp2_with fail
  refine (l01Dec_any B w (by omega) (by omega)).mono ?_
  rintro e w1 ⟨rfl, hb1⟩
  have ha1 := ha.below hb1
  have c0 := kept hb1 hp0
  have c1 := kept hb1 hp1
  obtain ⟨S, hS⟩ : ∃ S, S = signs := ⟨_, rfl⟩
  have hSs : S.size = 16 := by rw [hS]; rfl
  have HSG := Lib.hid hS
  unfold signs at hS
  rw [← hS]
  have hil := itoa_len (n := B) (by omega) (by omega)
  have hadd0 := run_string_add_sum (P := Tryd.prog) w1 ⟨(Lib.itoa B).toArray⟩ ⟨#[58]⟩ (by show (Lib.itoa B).toArray.size + 1 ≤ _; simp; omega)
  rw [← txJ_all B zs] at hadd0
  obtain ⟨y0, hy0⟩ : ∃ y, y = txJ B zs zs.length := ⟨_, rfl⟩
  rw [← hy0] at hadd0
  have HY0 := Lib.hid hy0
  clear hS hy0 hp0 hp1 ha
  go_wp2
  clear hadd0
  go_loopw [4, 5] (fun o i wr => ∃ (j m : Nat) (acc : ByteArray), j ≤ zs.length ∧ i = .int .i64 ((j : Int) - 1) ∧ o = .string acc ∧ Hid (acc = txJ B zs j) ∧ acc.size ≤ 40 ∧ Hid (wr = w1.drewN m)) (fun _ i _ => (intOf i + 1).toNat)
  case atStart => exact ⟨zs.length, 0, y0, Nat.le_refl _, by go_num, rfl, HY0, by rw [HY0.out]; exact txJ_size (by omega) o2 o4, Lib.hid rfl⟩
  case round =>
    obtain ⟨j, m, acc, hj, rfl, rfl, HA, hsz, HW⟩ := hrel
    have hbw : Below w1.heap.size w1 wr := by rw [HW.out]; exact bel_drewN (Below.refl _ _) m
    have e0 := kept hbw c0
    have e1 := kept hbw c1
    cases j with
    | zero =>
      rw [txJ_zero] at HA
      go_wp2
      go_ret
      exact ⟨by first | rfl | (rw [HA.out]; rfl), hb1.trans (hbw.mono hb1.size)⟩
    | succ j =>
      rw [show ((j + 1 : Nat) : Int) - 1 = (j : Int) from by omega]
      have hjl : j < zs.length := by omega
      obtain ⟨b, off, rfl, hc⟩ := (ha1.below hbw).at_ hjl
      have hd := HO.out (nth zs j) (by rw [nth_get hjl]; exact List.getElem_mem _)
      obtain ⟨d, hdn⟩ : ∃ d : Nat, nth zs j = (d : Int) := ⟨(nth zs j).toNat, by omega⟩
      have HDN := Lib.hid hdn
      have hd15 : d ≤ 15 := by omega
      rw [hdn] at hc
      have hx := signs_at hd15
      rw [← HSG.out] at hx
      have hadd := fun w => run_string_add_sum (P := Tryd.prog) w acc (S.extract d (d + 1)) (by rw [hx]; show acc.size + 1 ≤ _; omega)
      obtain ⟨y, hy⟩ : ∃ y, y = acc ++ S.extract d (d + 1) := ⟨_, rfl⟩
      rw [← hy] at hadd
      have HY := Lib.hid (show y = txJ B zs j by rw [hy, hx, HA.out, txJ_step hjl, HDN.out])
      have hys : y.size ≤ 40 := by rw [HY.out]; exact txJ_size (by omega) o2 o4
      have hw1 : IntKind.i64.wrap ((d : Int) + 1) = (d : Int) + 1 := IntWalk.i64_in _ (by omega)
      clear hx hy hdn hd
      go_wp2
      go_quiet (fail)
      go_wp2
      go_roundw
      case rel => exact ⟨j, _, y, by omega, by go_num, rfl, HY, hys, Lib.hid (by rw [HW.out, drewN_drewN])⟩
      case measure => (simp [intOf]) <;> omega

end Go.Proofs.YtlahobdopmdfmaaDoor

/- MtxS -/
namespace Go.Proofs.YtlahobdopmdfmaaDoor
open Go.RowKit

set_option maxRecDepth 100000 in
set_option maxHeartbeats 4000000 in
theorem l02Text_off (p o : Nat) (B : Int) (a : Option Addr) (c : Nat) (zs : List Int) (w : World) (ha : Rd w a zs) (hp0 : w.cell? ⟨p, o, none⟩ = some (.int .i64 B)) (hp1 : w.cell? ⟨p, o + 1, none⟩ = some (.slice a zs.length c))
    (o1 : 2 ≤ B) (o2 : B ≤ 16) (o4 : zs.length ≤ 16) (o5 : ∀ d ∈ zs, 0 ≤ d ∧ d < B) :
    Calls Tryd.prog 174 #[.pointer (some ⟨p, o, none⟩)] w fun e w' => e = .returned (.string ⟨(txB B zs).toArray⟩) ∧ Below w.heap.size w w' := by
  have HO := Lib.hid o5
  clear o5
  go_enter Tryd.func174, Tryd.ntmps174
  go_wp2_with fail
  refine (l01Dec_any B w (by omega) (by omega)).mono ?_
  rintro e w1 ⟨rfl, hb1⟩
  have ha1 := ha.below hb1
  have c0 := kept hb1 hp0
  have c1 := kept hb1 hp1
  obtain ⟨S, hS⟩ : ∃ S, S = signs := ⟨_, rfl⟩
  have hSs : S.size = 16 := by rw [hS]; rfl
  have HSG := Lib.hid hS
  unfold signs at hS
  rw [← hS]
  have hil := itoa_len (n := B) (by omega) (by omega)
  have hadd0 := run_string_add_sum (P := Tryd.prog) w1 ⟨(Lib.itoa B).toArray⟩ ⟨#[58]⟩ (by show (Lib.itoa B).toArray.size + 1 ≤ _; simp; omega)
  rw [← txJ_all B zs] at hadd0
  obtain ⟨y0, hy0⟩ : ∃ y, y = txJ B zs zs.length := ⟨_, rfl⟩
  rw [← hy0] at hadd0
  have HY0 := Lib.hid hy0
  clear hS hy0 hp0 hp1 ha
  go_wp2
  clear hadd0
  go_loopw [4, 5] (fun o i wr => ∃ (j m : Nat) (acc : ByteArray), j ≤ zs.length ∧ i = .int .i64 ((j : Int) - 1) ∧ o = .string acc ∧ Hid (acc = txJ B zs j) ∧ acc.size ≤ 40 ∧ Hid (wr = w1.drewN m)) (fun _ i _ => (intOf i + 1).toNat)
  case atStart => exact ⟨zs.length, 0, y0, Nat.le_refl _, by go_num, rfl, HY0, by rw [HY0.out]; exact txJ_size (by omega) o2 o4, Lib.hid rfl⟩
  case round =>
    obtain ⟨j, m, acc, hj, rfl, rfl, HA, hsz, HW⟩ := hrel
    have hbw : Below w1.heap.size w1 wr := by rw [HW.out]; exact bel_drewN (Below.refl _ _) m
    have e0 := kept hbw c0
    have e1 := kept hbw c1
    cases j with
    | zero =>
      rw [txJ_zero] at HA
      go_wp2
      go_ret
      exact ⟨by first | rfl | (rw [HA.out]; rfl), hb1.trans (hbw.mono hb1.size)⟩
    | succ j =>
      rw [show ((j + 1 : Nat) : Int) - 1 = (j : Int) from by omega]
      have hjl : j < zs.length := by omega
      obtain ⟨b, off, rfl, hc⟩ := (ha1.below hbw).at_ hjl
      have hd := HO.out (nth zs j) (by rw [nth_get hjl]; exact List.getElem_mem _)
      obtain ⟨d, hdn⟩ : ∃ d : Nat, nth zs j = (d : Int) := ⟨(nth zs j).toNat, by omega⟩
      have HDN := Lib.hid hdn
      have hd15 : d ≤ 15 := by omega
      rw [hdn] at hc
      have hx := signs_at hd15
      rw [← HSG.out] at hx
      have hadd := fun w => run_string_add_sum (P := Tryd.prog) w acc (S.extract d (d + 1)) (by rw [hx]; show acc.size + 1 ≤ _; omega)
      obtain ⟨y, hy⟩ : ∃ y, y = acc ++ S.extract d (d + 1) := ⟨_, rfl⟩
      rw [← hy] at hadd
      have HY := Lib.hid (show y = txJ B zs j by rw [hy, hx, HA.out, txJ_step hjl, HDN.out])
      have hys : y.size ≤ 40 := by rw [HY.out]; exact txJ_size (by omega) o2 o4
      have hw1 : IntKind.i64.wrap ((d : Int) + 1) = (d : Int) + 1 := IntWalk.i64_in _ (by omega)
      clear hx hy hdn hd
      go_wp2
      go_quiet (fail)
      go_wp2
      go_roundw
      case rel => exact ⟨j, _, y, by omega, by go_num, rfl, HY, hys, Lib.hid (by rw [HW.out, drewN_drewN])⟩
      case measure => (simp [intOf]) <;> omega


/-- The text of a machine. -/
def mtT (m : Mac) : ByteArray :=
  (((((⟨(txB m.b1 m.z1).toArray⟩ ++ ⟨#[32]⟩) ++ ⟨(txB m.b2 m.z2).toArray⟩) ++ ⟨#[32]⟩) ++ ⟨(txB m.b3 m.z3).toArray⟩) ++ ⟨#[32]⟩) ++ ⟨(Lib.itoa m.p).toArray⟩
def mtV (m : Mac) : ByteArray := if macB m = true then mtT m else ByteArray.empty
theorem txB_size {B : Int} {zs : List Int} (h0 : 0 ≤ B) (h1 : B ≤ 16) (hl : zs.length ≤ 16) : (⟨(txB B zs).toArray⟩ : ByteArray).size ≤ 40 := txJ_size (j := 0) h0 h1 hl

set_option maxRecDepth 100000 in
set_option maxHeartbeats 4000000 in
theorem l10Text_any (p : Nat) (m : Mac) (A1 : Option Addr) (C1 : Nat) (A2 : Option Addr) (C2 : Nat) (A3 : Option Addr) (C3 : Nat) (w : World) (h : Rd3 w A1 m.z1 A2 m.z2 A3 m.z3) (bp : Bx w p 28 #[.int .i64 m.b1, .slice A1 m.z1.length C1, .int .i64 m.b2, .slice A2 m.z2.length C2, .int .i64 m.b3, .slice A3 m.z3.length C3, .int .i64 m.p]) (hm : macB m = true) :
    Calls Tryd.prog 144 #[.pointer (some ⟨p, 0, none⟩)] w fun e w' => e = .returned (.string (mtT m)) ∧ Below w.heap.size w w' := by
  obtain ⟨e2, e3, b0, b1, n0, n12, n2, n3, n4, p0, p1, p2, d1, d2, d3⟩ := macB_facts hm
  have H1 := Lib.hid (fun (v : World) (hb : Below w.heap.size w v) => l02Text_off p 0 m.b1 A1 C1 m.z1 v (h.below hb).x (kept hb (bp.at_ 0 rfl)) (kept hb (bp.at_ 1 rfl)) (by omega) (by omega) (by omega) d1)
  have H2 := Lib.hid (fun (v : World) (hb : Below w.heap.size w v) => l02Text_off p 2 m.b2 A2 C2 m.z2 v (h.below hb).y (kept hb (bp.at_ 2 rfl)) (kept hb (bp.at_ 3 rfl)) (by omega) (by omega) (by omega) (by rw [e2]; exact d2))
  have H3 := Lib.hid (fun (v : World) (hb : Below w.heap.size w v) => l02Text_off p 4 m.b3 A3 C3 m.z3 v (h.below hb).z (kept hb (bp.at_ 4 rfl)) (kept hb (bp.at_ 5 rfl)) (by omega) (by omega) (by omega) (by rw [e3]; exact d3))
  have H4 := Lib.hid (fun (v : World) => l01Dec_any m.p v (by omega) (by omega))
  have n1 := txB_size (zs := m.z1) (show 0 ≤ m.b1 by omega) b1 (by omega)
  have n2' := txB_size (zs := m.z2) (show 0 ≤ m.b2 by omega) (by omega) n2
  have n3' := txB_size (zs := m.z3) (show 0 ≤ m.b3 by omega) (by omega) n4
  have n4' : (⟨(Lib.itoa m.p).toArray⟩ : ByteArray).size ≤ 20 := itoa_len (n := m.p) p0 (by omega)
  have q := bp.at_ 6 rfl
  have HC : Hid (∀ v, Below w.heap.size w v → v.cell? ⟨p, 6, none⟩ = some (.int .i64 m.p)) := Lib.hid (fun v hb => kept hb q)
  obtain ⟨S1, hS1⟩ : ∃ S : ByteArray, S = ⟨(txB m.b1 m.z1).toArray⟩ := ⟨_, rfl⟩
  obtain ⟨S2, hS2⟩ : ∃ S : ByteArray, S = ⟨(txB m.b2 m.z2).toArray⟩ := ⟨_, rfl⟩
  obtain ⟨S3, hS3⟩ : ∃ S : ByteArray, S = ⟨(txB m.b3 m.z3).toArray⟩ := ⟨_, rfl⟩
  obtain ⟨S4, hS4⟩ : ∃ S : ByteArray, S = ⟨(Lib.itoa m.p).toArray⟩ := ⟨_, rfl⟩
  rw [← hS1] at n1 H1
  rw [← hS2] at n2' H2
  rw [← hS3] at n3' H3
  rw [← hS4] at n4' H4
  have HR := Lib.hid (show mtT m = (((((S1 ++ ⟨#[32]⟩) ++ S2) ++ ⟨#[32]⟩) ++ S3) ++ ⟨#[32]⟩) ++ S4 by rw [hS1, hS2, hS3, hS4]; rfl)
  clear hS1 hS2 hS3 hS4 e2 e3 b0 b1 n0 n12 n2 n3 n4 p0 p1 p2 d1 d2 d3 q hm
  have sz : ∀ a b : ByteArray, (a ++ b).size = a.size + b.size := fun a b => by simp
  have z1 : (⟨#[32]⟩ : ByteArray).size = 1 := rfl
  obtain ⟨A1', hA1⟩ : ∃ A, A = S1 ++ ⟨#[32]⟩ := ⟨_, rfl⟩
  have s1 : A1'.size ≤ 41 := by rw [hA1, sz, z1]; omega
  have P1 := fun w => run_string_add_sum (P := Tryd.prog) w S1 ⟨#[32]⟩ (by rw [z1]; omega)
  obtain ⟨A2', hA2⟩ : ∃ A, A = A1' ++ S2 := ⟨_, rfl⟩
  have s2 : A2'.size ≤ 81 := by rw [hA2, sz]; omega
  have P2 := fun w => run_string_add_sum (P := Tryd.prog) w A1' S2 (by omega)
  obtain ⟨A3', hA3⟩ : ∃ A, A = A2' ++ ⟨#[32]⟩ := ⟨_, rfl⟩
  have s3 : A3'.size ≤ 82 := by rw [hA3, sz, z1]; omega
  have P3 := fun w => run_string_add_sum (P := Tryd.prog) w A2' ⟨#[32]⟩ (by rw [z1]; omega)
  obtain ⟨A4', hA4⟩ : ∃ A, A = A3' ++ S3 := ⟨_, rfl⟩
  have s4 : A4'.size ≤ 122 := by rw [hA4, sz]; omega
  have P4 := fun w => run_string_add_sum (P := Tryd.prog) w A3' S3 (by omega)
  obtain ⟨A5', hA5⟩ : ∃ A, A = A4' ++ ⟨#[32]⟩ := ⟨_, rfl⟩
  have s5 : A5'.size ≤ 123 := by rw [hA5, sz, z1]; omega
  have P5 := fun w => run_string_add_sum (P := Tryd.prog) w A4' ⟨#[32]⟩ (by rw [z1]; omega)
  obtain ⟨A6', hA6⟩ : ∃ A, A = A5' ++ S4 := ⟨_, rfl⟩
  have P6 := fun w => run_string_add_sum (P := Tryd.prog) w A5' S4 (by omega)
  rw [← hA1] at P1 HR
  rw [← hA2] at P2 HR
  rw [← hA3] at P3 HR
  rw [← hA4] at P4 HR
  rw [← hA5] at P5 HR
  rw [← hA6] at P6 HR
  clear hA1 hA2 hA3 hA4 hA5 hA6 sz z1 n1 n2' n3' n4' s1 s2 s3 s4 s5 h bp
  go_enter Tryd.func144, Tryd.ntmps144
  go_upto_region 1 with fail
  refine wp_region_marked (fun w' => Below w.heap.size w w') 23 (by kernel_rfl) ?_
  have hS : Below w.heap.size w w.drew := (Below.refl _ _).drew
  refine wpAnyM_take (i := 0) (v := ?_) rfl (by kernel_rfl) (by kernel_rfl) (by kernel_rfl) (by kernel_rfl) (by kernel_rfl) (fun _ _ _ h => h) hS (.inl ⟨by rfl, ?_⟩) ?_
  rotate_left 1
  · intro w' hS'; go_simp; try with_reducible rfl
  simp only [Act.put, List.setIfInBounds_toArray]
  refine wpAnyM_take (i := 1) (v := ?_) rfl (by kernel_rfl) (by kernel_rfl) (by kernel_rfl) (by kernel_rfl) (by kernel_rfl) (fun _ _ _ h => h) hS (.inl ⟨by rfl, ?_⟩) ?_
  rotate_left 1
  · intro w' hS'; go_simp; try with_reducible rfl
  simp only [Act.put]
  refine wpAnyM_take (i := 2) (v := ?_) rfl (by kernel_rfl) (by kernel_rfl) (by kernel_rfl) (by kernel_rfl) (by kernel_rfl) (fun _ _ _ h => h) hS (.inl ⟨by rfl, ?_⟩) ?_
  rotate_left 1
  · intro w' hS'; go_simp; try with_reducible rfl
  simp only [Act.put]
  refine wpAnyM_take (i := 5) (v := ?_) rfl (by kernel_rfl) (by kernel_rfl) (by kernel_rfl) (by kernel_rfl) (by kernel_rfl) (fun _ _ _ h => h) hS (.inl ⟨by rfl, ?_⟩) ?_
  rotate_left 1
  · intro w' hS'; go_simp; try with_reducible rfl
  simp only [Act.put]
  refine wpAnyM_take (i := 6) (v := ?_) rfl (by kernel_rfl) (by kernel_rfl) (by kernel_rfl) (by kernel_rfl) (by kernel_rfl) (fun _ _ _ h => h) hS (.inl ⟨by rfl, ?_⟩) ?_
  rotate_left 1
  · intro w' hS'; go_simp; try with_reducible rfl
  simp only [Act.put]
  refine wpAnyM_take (i := 7) (v := ?_) rfl (by kernel_rfl) (by kernel_rfl) (by kernel_rfl) (by kernel_rfl) (by kernel_rfl) (fun _ _ _ h => h) hS (.inl ⟨by rfl, ?_⟩) ?_
  rotate_left 1
  · intro w' hS'; go_simp; try with_reducible rfl
  simp only [Act.put]
  refine wpAnyM_take (i := 11) (v := ?_) rfl (by kernel_rfl) (by kernel_rfl) (by kernel_rfl) (by kernel_rfl) (by kernel_rfl) (fun _ _ _ h => h) hS (.inl ⟨by rfl, ?_⟩) ?_
  rotate_left 1
  · intro w' hS'; go_simp; try with_reducible rfl
  simp only [Act.put]
  refine wpAnyM_take (i := 12) (v := ?_) rfl (by kernel_rfl) (by kernel_rfl) (by kernel_rfl) (by kernel_rfl) (by kernel_rfl) (fun _ _ _ h => h) hS (.inl ⟨by rfl, ?_⟩) ?_
  rotate_left 1
  · intro w' hS'; go_simp; try with_reducible rfl
  simp only [Act.put]
  refine wpAnyM_take (i := 13) (v := ?_) rfl (by kernel_rfl) (by kernel_rfl) (by kernel_rfl) (by kernel_rfl) (by kernel_rfl) (fun _ _ _ h => h) hS (.inl ⟨by rfl, ?_⟩) ?_
  rotate_left 1
  · intro w' hS'; go_simp; try with_reducible rfl
  simp only [Act.put]
  refine wpAnyM_take (i := 17) (v := ?_) rfl (by kernel_rfl) (by kernel_rfl) (by kernel_rfl) (by kernel_rfl) (by kernel_rfl) (fun _ _ _ h => h) hS (.inl ⟨by rfl, ?_⟩) ?_
  rotate_left 1
  · intro w' hS'; go_simp; try with_reducible rfl
  simp only [Act.put]
  refine wpAnyM_take (i := 18) (v := ?_) rfl (by kernel_rfl) (by kernel_rfl) (by kernel_rfl) (by kernel_rfl) (by kernel_rfl) (fun _ _ _ h => h) hS (.inl ⟨by rfl, ?_⟩) ?_
  rotate_left 1
  · intro w' hS'; go_simp; try with_reducible rfl
  simp only [Act.put]
  refine wpAnyM_take (i := 19) (v := ?_) rfl (by kernel_rfl) (by kernel_rfl) (by kernel_rfl) (by kernel_rfl) (by kernel_rfl) (fun _ _ _ h => h) hS (.inl ⟨by rfl, ?_⟩) ?_
  rotate_left 1
  · intro w' hS'; go_simp; try with_reducible rfl
  simp only [Act.put]
  refine wpAnyM_take (i := 20) (v := ?_) rfl (by kernel_rfl) (by kernel_rfl) (by kernel_rfl) (by kernel_rfl) (by kernel_rfl) (fun _ _ _ h => h) hS (.inl ⟨by rfl, ?_⟩) ?_
  rotate_left 1
  · intro w' hS'; have q := HC.out w' hS'; go_simp; try with_reducible rfl
  simp only [Act.put]
  refine wpAnyM_one (i := 3) (by kernel_rfl) rfl (by rfl) (fun K hK => ?_)
  go_simp
  refine (H1.out _ hS).mono ?_
  rintro e v1 ⟨rfl, hb⟩
  replace hS := hS.trans (hb.mono hS.size)
  clear hb
  refine hK _ _ (.inr hS) ?_
  clear hK K
  try simp only [Act.put, List.setIfInBounds_toArray]
  refine wpAnyM_take (i := 4) (v := ?_) rfl (by kernel_rfl) (by kernel_rfl) (by kernel_rfl) (by kernel_rfl) (by kernel_rfl) (fun _ _ _ h => h) hS (.inl ⟨by rfl, ?_⟩) ?_
  rotate_left 1
  · intro w' hS'; go_simp; try with_reducible rfl
  simp only [Act.put, List.setIfInBounds_toArray]
  refine wpAnyM_one (i := 8) (by kernel_rfl) rfl (by rfl) (fun K hK => ?_)
  go_simp
  refine (H2.out _ hS).mono ?_
  rintro e v2 ⟨rfl, hb⟩
  replace hS := hS.trans (hb.mono hS.size)
  clear hb
  refine hK _ _ (.inr hS) ?_
  clear hK K
  try simp only [Act.put, List.setIfInBounds_toArray]
  refine wpAnyM_take (i := 9) (v := ?_) rfl (by kernel_rfl) (by kernel_rfl) (by kernel_rfl) (by kernel_rfl) (by kernel_rfl) (fun _ _ _ h => h) hS (.inl ⟨by rfl, ?_⟩) ?_
  rotate_left 1
  · intro w' hS'; go_simp; try with_reducible rfl
  simp only [Act.put, List.setIfInBounds_toArray]
  refine wpAnyM_take (i := 10) (v := ?_) rfl (by kernel_rfl) (by kernel_rfl) (by kernel_rfl) (by kernel_rfl) (by kernel_rfl) (fun _ _ _ h => h) hS (.inl ⟨by rfl, ?_⟩) ?_
  rotate_left 1
  · intro w' hS'; go_simp; try with_reducible rfl
  simp only [Act.put]
  refine wpAnyM_one (i := 14) (by kernel_rfl) rfl (by rfl) (fun K hK => ?_)
  go_simp
  refine (H3.out _ hS).mono ?_
  rintro e v3 ⟨rfl, hb⟩
  replace hS := hS.trans (hb.mono hS.size)
  clear hb
  refine hK _ _ (.inr hS) ?_
  clear hK K
  try simp only [Act.put, List.setIfInBounds_toArray]
  refine wpAnyM_take (i := 15) (v := ?_) rfl (by kernel_rfl) (by kernel_rfl) (by kernel_rfl) (by kernel_rfl) (by kernel_rfl) (fun _ _ _ h => h) hS (.inl ⟨by rfl, ?_⟩) ?_
  rotate_left 1
  · intro w' hS'; go_simp; try with_reducible rfl
  simp only [Act.put, List.setIfInBounds_toArray]
  refine wpAnyM_take (i := 16) (v := ?_) rfl (by kernel_rfl) (by kernel_rfl) (by kernel_rfl) (by kernel_rfl) (by kernel_rfl) (fun _ _ _ h => h) hS (.inl ⟨by rfl, ?_⟩) ?_
  rotate_left 1
  · intro w' hS'; go_simp; try with_reducible rfl
  simp only [Act.put]
  refine wpAnyM_one (i := 21) (by kernel_rfl) rfl (by rfl) (fun K hK => ?_)
  go_simp
  refine (H4.out v3).mono ?_
  rintro e v4 ⟨rfl, hb⟩
  replace hS := hS.trans (hb.mono hS.size)
  clear hb
  refine hK _ _ (.inr hS) ?_
  clear hK K
  try simp only [Act.put, List.setIfInBounds_toArray]
  refine wpAnyM_take (i := 22) (v := ?_) rfl (by kernel_rfl) (by kernel_rfl) (by kernel_rfl) (by kernel_rfl) (by kernel_rfl) (fun _ _ _ h => h) hS (.inl ⟨by rfl, ?_⟩) ?_
  rotate_left 1
  · intro w' hS'; go_simp; try with_reducible rfl
  simp only [Act.put, List.setIfInBounds_toArray]
  refine wpAnyM_one (i := 23) (by kernel_rfl) rfl (by rfl) (fun K hK => ?_)
  go_simp
  refine hK _ _ (.inl rfl) ?_
  clear hK K
  refine wpAnyM_done (by kernel_rfl) ?_ _
  go_wp2
  go_ret
  exact ⟨by first | (rw [HR.out]; done) | (rw [HR.out]; rfl), hS⟩

set_option maxRecDepth 100000 in
set_option maxHeartbeats 4000000 in
theorem specMachineText (m : Mac) (A1 : Option Addr) (C1 : Nat) (A2 : Option Addr) (C2 : Nat) (A3 : Option Addr) (C3 : Nat) (w : World) (h : Rd3 w A1 m.z1 A2 m.z2 A3 m.z3) (_ : All64 m.z1 ∧ All64 m.z2 ∧ All64 m.z3) (_ : I64 m.b1 ∧ I64 m.b2 ∧ I64 m.b3 ∧ I64 m.p) :
    Calls Tryd.prog 77 #[.agg #[.int .i64 m.b1, .slice A1 m.z1.length C1, .int .i64 m.b2, .slice A2 m.z2.length C2, .int .i64 m.b3, .slice A3 m.z3.length C3, .int .i64 m.p]] w fun e w' => e = .returned (.string (mtV m)) ∧ Below w.heap.size w w' := by
  obtain ⟨u, hu⟩ : ∃ u, u = w.alloc (.cells #[.int .i64 m.b1, .slice A1 m.z1.length C1, .int .i64 m.b2, .slice A2 m.z2.length C2, .int .i64 m.b3, .slice A3 m.z3.length C3, .int .i64 m.p] 28) := ⟨_, rfl⟩
  have hbel : Below w.heap.size w u := by rw [hu]; exact (by repeat (first | exact Below.refl _ _ | refine Below.setCell ?_ (by first | omega | (simp <;> omega)) _ | refine Below.alloc ?_ (by first | omega | (simp <;> omega)) _ | refine Below.drew ?_))
  have bx : Bx u w.heap.size 28 #[.int .i64 m.b1, .slice A1 m.z1.length C1, .int .i64 m.b2, .slice A2 m.z2.length C2, .int .i64 m.b3, .slice A3 m.z3.length C3, .int .i64 m.p] := by rw [hu]; exact Bx.new _ _ _
  have HV := Lib.hid (l10Ok_any w.heap.size m A1 C1 A2 C2 A3 C3 u (h.below hbel) bx)
  have HU := Lib.hid hu
  replace h := h.below hbel
  clear hu
  cases hm : macB m with
  | false =>
    have HR := Lib.hid (show mtV m = ByteArray.empty by simp [mtV, hm])
    rw [hm] at HV
    clear hm
    go_enter Tryd.func77, Tryd.ntmps77
    go_wp2_with fail
    rw [← HU.out]
    refine HV.out.mono ?_
    rintro e w1 ⟨rfl, hb⟩
    go_wp2
    go_ret
    exact ⟨by rw [HR.out]; rfl, hbel.trans (hb.mono hbel.size)⟩
  | true =>
    have HR := Lib.hid (show mtV m = mtT m by simp [mtV, hm])
    have HT := Lib.hid (fun (v : World) (hb : Below u.heap.size u v) => l10Text_any w.heap.size m A1 C1 A2 C2 A3 C3 v (h.below hb) (bx.below hb) hm)
    rw [hm] at HV
    clear hm
    go_enter Tryd.func77, Tryd.ntmps77
    go_wp2_with fail
    rw [← HU.out]
    refine HV.out.mono ?_
    rintro e w1 ⟨rfl, hb⟩
    go_wp2_with fail
    refine (HT.out w1 hb).mono ?_
    rintro e w2 ⟨rfl, hb2⟩
    go_wp2
    go_ret
    exact ⟨by first | (rw [HR.out]; done) | (rw [HR.out]; rfl), hbel.trans ((hb.trans (hb2.mono hb.size)).mono hbel.size)⟩
end Go.Proofs.YtlahobdopmdfmaaDoor

/- MtxI -/
namespace Go.Proofs.YtlahobdopmdfmaaDoor
open Go.RowKit

set_option maxRecDepth 100000 in
set_option maxHeartbeats 8000000 in
theorem implMachineText (m : Mac) (A1 : Option Addr) (C1 : Nat) (A2 : Option Addr) (C2 : Nat) (A3 : Option Addr) (C3 : Nat) (w : World) (h : Rd3 w A1 m.z1 A2 m.z2 A3 m.z3) (z : All64 m.z1 ∧ All64 m.z2 ∧ All64 m.z3) (y : I64 m.b1 ∧ I64 m.b2 ∧ I64 m.b3 ∧ I64 m.p) (hD : PowTab w ∧ BellD w) :
    Calls Tryd.prog 78 #[.agg #[.int .i64 m.b1, .slice A1 m.z1.length C1, .int .i64 m.b2, .slice A2 m.z2.length C2, .int .i64 m.b3, .slice A3 m.z3.length C3, .int .i64 m.p]] w fun e w' => e = .returned (.string (mtV m)) ∧ Below w.heap.size w w' := by
  obtain ⟨u, hu⟩ : ∃ u, u = w.alloc (.cells #[.int .i64 m.b1, .slice A1 m.z1.length C1, .int .i64 m.b2, .slice A2 m.z2.length C2, .int .i64 m.b3, .slice A3 m.z3.length C3, .int .i64 m.p] 28) := ⟨_, rfl⟩
  have hbel : Below w.heap.size w u := by rw [hu]; exact (by repeat (first | exact Below.refl _ _ | refine Below.setCell ?_ (by first | omega | (simp <;> omega)) _ | refine Below.alloc ?_ (by first | omega | (simp <;> omega)) _ | refine Below.drew ?_))
  have bx : Bx u w.heap.size 28 #[.int .i64 m.b1, .slice A1 m.z1.length C1, .int .i64 m.b2, .slice A2 m.z2.length C2, .int .i64 m.b3, .slice A3 m.z3.length C3, .int .i64 m.p] := by rw [hu]; exact Bx.new _ _ _
  obtain ⟨hP, hL⟩ := hD
  replace h := h.below hbel
  replace hP := powTab_below hP hbel
  have HV := Lib.hid (implValidMachine m A1 C1 A2 C2 A3 C3 u h z y (hL.below hbel))
  have HU := Lib.hid hu
  clear hu hL
  have c0 := bx.at_ 0 rfl
  have c1 := bx.at_ 1 rfl
  have c2 := bx.at_ 2 rfl
  have c3 := bx.at_ 3 rfl
  have c4 := bx.at_ 4 rfl
  have c5 := bx.at_ 5 rfl
  have c6 := bx.at_ 6 rfl
  cases hm : macB m with
  | false =>
    have HR := Lib.hid (show mtV m = ByteArray.empty by simp [mtV, hm])
    rw [hm] at HV
    clear hm
    go_enter Tryd.func78, Tryd.ntmps78
    go_wp2_with fail
    rw [← HU.out]
    refine HV.out.mono ?_
    rintro e w1 ⟨rfl, hb⟩
    go_wp2
    go_ret
    exact ⟨by rw [HR.out]; rfl, hbel.trans (hb.mono hbel.size)⟩
  | true =>
    obtain ⟨o1, o2, o3, o4⟩ := macB_spec hm
    obtain ⟨e2, e3, b0, b1, n0, n12, n2, n3, n4, p0, p1, p2, d1, d2, d3⟩ := macB_facts hm
    have H1 := Lib.hid (fun (v : World) (hb : Below u.heap.size u v) => implRegisterText m.b1 A1 C1 m.z1 v (h.below hb).x z.1 y.1 (powTab_below hP hb))
    have H2 := Lib.hid (fun (v : World) (hb : Below u.heap.size u v) => implRegisterText m.b2 A2 C2 m.z2 v (h.below hb).y z.2.1 y.2.1 (powTab_below hP hb))
    have H3 := Lib.hid (fun (v : World) (hb : Below u.heap.size u v) => implRegisterText m.b3 A3 C3 m.z3 v (h.below hb).z z.2.2 y.2.2.1 (powTab_below hP hb))
    have H4 := Lib.hid (fun (v : World) (hb : Below u.heap.size u v) => implDecimal m.p v y.2.2.2 (powTab_below hP hb))
    rw [txR_ok o1] at H1
    rw [txR_ok o2] at H2
    rw [txR_ok o3] at H3
    have n1 := txB_size (zs := m.z1) (show 0 ≤ m.b1 by omega) b1 (by omega)
    have n2' := txB_size (zs := m.z2) (show 0 ≤ m.b2 by omega) (by omega) n2
    have n3' := txB_size (zs := m.z3) (show 0 ≤ m.b3 by omega) (by omega) n4
    have n4' : (⟨(Lib.itoa m.p).toArray⟩ : ByteArray).size ≤ 20 := itoa_len (n := m.p) p0 (by omega)
    have HR := Lib.hid (show mtV m = mtT m by simp [mtV, hm])
    have HC1 : Hid (∀ v, Below u.heap.size u v → v.cell? ⟨w.heap.size, 0, none⟩ = some (.int .i64 m.b1) ∧ v.cell? ⟨w.heap.size, 1, none⟩ = some (.slice A1 m.z1.length C1)) := Lib.hid (fun v hb => ⟨kept hb c0, kept hb c1⟩)
    have HC2 : Hid (∀ v, Below u.heap.size u v → v.cell? ⟨w.heap.size, 2, none⟩ = some (.int .i64 m.b2) ∧ v.cell? ⟨w.heap.size, 3, none⟩ = some (.slice A2 m.z2.length C2)) := Lib.hid (fun v hb => ⟨kept hb c2, kept hb c3⟩)
    have HC3 : Hid (∀ v, Below u.heap.size u v → v.cell? ⟨w.heap.size, 4, none⟩ = some (.int .i64 m.b3) ∧ v.cell? ⟨w.heap.size, 5, none⟩ = some (.slice A3 m.z3.length C3)) := Lib.hid (fun v hb => ⟨kept hb c4, kept hb c5⟩)
    have HC4 : Hid (∀ v, Below u.heap.size u v → v.cell? ⟨w.heap.size, 6, none⟩ = some (.int .i64 m.p) ∧ True) := Lib.hid (fun v hb => ⟨kept hb c6, trivial⟩)
    obtain ⟨S1, hS1⟩ : ∃ S : ByteArray, S = ⟨(txB m.b1 m.z1).toArray⟩ := ⟨_, rfl⟩
    obtain ⟨S2, hS2⟩ : ∃ S : ByteArray, S = ⟨(txB m.b2 m.z2).toArray⟩ := ⟨_, rfl⟩
    obtain ⟨S3, hS3⟩ : ∃ S : ByteArray, S = ⟨(txB m.b3 m.z3).toArray⟩ := ⟨_, rfl⟩
    obtain ⟨S4, hS4⟩ : ∃ S : ByteArray, S = ⟨(Lib.itoa m.p).toArray⟩ := ⟨_, rfl⟩
    rw [← hS1] at n1 H1
    rw [← hS2] at n2' H2
    rw [← hS3] at n3' H3
    rw [← hS4] at n4' H4
    replace HR := Lib.hid (HR.out.trans (show mtT m = (((((S1 ++ ⟨#[32]⟩) ++ S2) ++ ⟨#[32]⟩) ++ S3) ++ ⟨#[32]⟩) ++ S4 by rw [hS1, hS2, hS3, hS4]; rfl))
    have hjn : (⟨(Lib.join ([S1, S2, S3, S4].map (·.data.toList)) (⟨#[32]⟩ : ByteArray).data.toList).toArray⟩ : ByteArray) = (((((S1 ++ ⟨#[32]⟩) ++ S2) ++ ⟨#[32]⟩) ++ S3) ++ ⟨#[32]⟩) ++ S4 := by
      exact bs_ext (by simp [Lib.join, List.intercalate])
    have hjl : (Lib.join ([S1, S2, S3, S4].map (·.data.toList)) (⟨#[32]⟩ : ByteArray).data.toList).length ≤ 140737488355328 := by
      have z1 : S1.data.size ≤ 40 := n1
      have z2 : S2.data.size ≤ 40 := n2'
      have z3 : S3.data.size ≤ 40 := n3'
      have z4 : S4.data.size ≤ 20 := n4'
      simp [Lib.join, List.intercalate]
      omega
    rw [← hjn] at HR
    have HL := Lib.hid hjl
    rw [hm] at HV
    clear hS1 hS2 hS3 hS4 e2 e3 b0 b1 n0 n12 n2 n3 n4 p0 p1 p2 d1 d2 d3 hm h n1 n2' n3' n4' hjn hjl o1 o2 o3 o4 z y hP bx c1 c2 c3 c4 c5 c6
    go_enter Tryd.func78, Tryd.ntmps78
    go_wp2_with fail
    rw [← HU.out]
    refine HV.out.mono ?_
    rintro e w1 ⟨rfl, hb⟩
    go_upto_region 3 with fail
    refine wp_region_marked (fun w' => Below u.heap.size u w') 14 (by kernel_rfl) ?_
    have hS : Below u.heap.size u w1.drew := hb.drew
    refine wpAnyM_take (i := 0) (v := ?_) rfl (by kernel_rfl) (by kernel_rfl) (by kernel_rfl) (by kernel_rfl) (by kernel_rfl) (fun _ _ _ h => h) hS (.inl ⟨by rfl, ?_⟩) ?_
    rotate_left 1
    · intro w' hS'; go_simp; try with_reducible rfl
    simp only [Act.put, List.setIfInBounds_toArray]
    refine wpAnyM_take (i := 1) (v := ?_) rfl (by kernel_rfl) (by kernel_rfl) (by kernel_rfl) (by kernel_rfl) (by kernel_rfl) (fun _ _ _ h => h) hS (.inl ⟨by rfl, ?_⟩) ?_
    rotate_left 1
    · intro w' hS'; obtain ⟨q1, q2⟩ := HC1.out w' hS'; go_simp; try with_reducible rfl
    simp only [Act.put]
    refine wpAnyM_take (i := 3) (v := ?_) rfl (by kernel_rfl) (by kernel_rfl) (by kernel_rfl) (by kernel_rfl) (by kernel_rfl) (fun _ _ _ h => h) hS (.inl ⟨by rfl, ?_⟩) ?_
    rotate_left 1
    · intro w' hS'; go_simp; try with_reducible rfl
    simp only [Act.put]
    refine wpAnyM_take (i := 4) (v := ?_) rfl (by kernel_rfl) (by kernel_rfl) (by kernel_rfl) (by kernel_rfl) (by kernel_rfl) (fun _ _ _ h => h) hS (.inl ⟨by rfl, ?_⟩) ?_
    rotate_left 1
    · intro w' hS'; obtain ⟨q1, q2⟩ := HC2.out w' hS'; go_simp; try with_reducible rfl
    simp only [Act.put]
    refine wpAnyM_take (i := 6) (v := ?_) rfl (by kernel_rfl) (by kernel_rfl) (by kernel_rfl) (by kernel_rfl) (by kernel_rfl) (fun _ _ _ h => h) hS (.inl ⟨by rfl, ?_⟩) ?_
    rotate_left 1
    · intro w' hS'; go_simp; try with_reducible rfl
    simp only [Act.put]
    refine wpAnyM_take (i := 7) (v := ?_) rfl (by kernel_rfl) (by kernel_rfl) (by kernel_rfl) (by kernel_rfl) (by kernel_rfl) (fun _ _ _ h => h) hS (.inl ⟨by rfl, ?_⟩) ?_
    rotate_left 1
    · intro w' hS'; obtain ⟨q1, q2⟩ := HC3.out w' hS'; go_simp; try with_reducible rfl
    simp only [Act.put]
    refine wpAnyM_take (i := 9) (v := ?_) rfl (by kernel_rfl) (by kernel_rfl) (by kernel_rfl) (by kernel_rfl) (by kernel_rfl) (fun _ _ _ h => h) hS (.inl ⟨by rfl, ?_⟩) ?_
    rotate_left 1
    · intro w' hS'; go_simp; try with_reducible rfl
    simp only [Act.put]
    refine wpAnyM_take (i := 10) (v := ?_) rfl (by kernel_rfl) (by kernel_rfl) (by kernel_rfl) (by kernel_rfl) (by kernel_rfl) (fun _ _ _ h => h) hS (.inl ⟨by rfl, ?_⟩) ?_
    rotate_left 1
    · intro w' hS'; obtain ⟨q1, q2⟩ := HC4.out w' hS'; go_simp; try with_reducible rfl
    simp only [Act.put]
    refine wpAnyM_one (i := 2) (by kernel_rfl) rfl (by rfl) (fun K hK => ?_)
    go_simp
    refine (H1.out _ hS).mono ?_
    rintro e v1 ⟨rfl, hb1⟩
    replace hS := hS.trans (hb1.mono hS.size)
    clear hb1
    refine hK _ _ (.inr hS) ?_
    clear hK K
    try simp only [Act.put, List.setIfInBounds_toArray]
    refine wpAnyM_one (i := 5) (by kernel_rfl) rfl (by rfl) (fun K hK => ?_)
    go_simp
    refine (H2.out _ hS).mono ?_
    rintro e v2 ⟨rfl, hb2⟩
    replace hS := hS.trans (hb2.mono hS.size)
    clear hb2
    refine hK _ _ (.inr hS) ?_
    clear hK K
    try simp only [Act.put, List.setIfInBounds_toArray]
    refine wpAnyM_one (i := 8) (by kernel_rfl) rfl (by rfl) (fun K hK => ?_)
    go_simp
    refine (H3.out _ hS).mono ?_
    rintro e v3 ⟨rfl, hb3⟩
    replace hS := hS.trans (hb3.mono hS.size)
    clear hb3
    refine hK _ _ (.inr hS) ?_
    clear hK K
    try simp only [Act.put, List.setIfInBounds_toArray]
    refine wpAnyM_one (i := 11) (by kernel_rfl) rfl (by rfl) (fun K hK => ?_)
    go_simp
    refine (H4.out _ hS).mono ?_
    rintro e v4 ⟨rfl, hb4⟩
    replace hS := hS.trans (hb4.mono hS.size)
    clear hb4
    refine hK _ _ (.inr hS) ?_
    clear hK K
    try simp only [Act.put, List.setIfInBounds_toArray]
    refine wpAnyM_one (i := 12) (by kernel_rfl) rfl (by rfl) (fun K hK => ?_)
    go_simp
    obtain ⟨V, hV⟩ : ∃ V, V = v4.alloc (.cells #[.string S1, .string S2, .string S3, .string S4] 9) := ⟨_, rfl⟩
    have bS : Bx V v4.heap.size 9 #[.string S1, .string S2, .string S3, .string S4] := by rw [hV]; exact Bx.new _ _ _
    rw [← hV]
    replace hS : Below u.heap.size u V := by rw [hV]; exact hS.alloc hS.size _
    obtain ⟨g, hg⟩ : ∃ g, g = v4.heap.size := ⟨_, rfl⟩
    rw [← hg] at bS
    rw [← hg]
    clear hV hg
    refine hK _ _ (.inr hS) ?_
    clear hK K
    try simp only [Act.put, List.setIfInBounds_toArray]
    refine wpAnyM_one (i := 13) (by kernel_rfl) rfl (by rfl) (fun K hK => ?_)
    go_simp
    have hcells : ∀ (j : Nat) x, [S1, S2, S3, S4][j]? = some x → V.cell? ⟨g, 0 + j, none⟩ = some (.string x) := by
      intro j x hx
      match j, hx with
      | 0, hx => obtain rfl := Option.some.inj hx; exact bS.at_ 0 rfl
      | 1, hx => obtain rfl := Option.some.inj hx; exact bS.at_ 1 rfl
      | 2, hx => obtain rfl := Option.some.inj hx; exact bS.at_ 2 rfl
      | 3, hx => obtain rfl := Option.some.inj hx; exact bS.at_ 3 rfl
      | j + 4, hx => simp at hx
    refine (Tryd.strings_Join g 0 4 [S1, S2, S3, S4] ⟨#[32]⟩ V hcells bS.lt (by simp) (by simp) HL.out).mono ?_
    rintro e v5 ⟨rfl, hb5⟩
    replace hS := hS.trans (hb5.mono hS.size)
    clear hb5 hcells
    refine hK _ _ (.inr hS) ?_
    clear hK K
    try simp only []
    refine wpAnyM_one (i := 14) (by kernel_rfl) rfl (by rfl) (fun K hK => ?_)
    go_simp
    refine hK _ _ (.inl rfl) ?_
    clear hK K
    refine wpAnyM_done (by kernel_rfl) ?_ _
    go_wp2
    go_ret
    exact ⟨by first | (rw [HR.out]; done) | (rw [HR.out]; rfl), hbel.trans (hS.mono hbel.size)⟩
end Go.Proofs.YtlahobdopmdfmaaDoor
