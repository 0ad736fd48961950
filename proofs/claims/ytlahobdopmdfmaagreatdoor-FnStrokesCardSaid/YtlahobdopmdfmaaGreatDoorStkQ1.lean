/-
  Several texts in one: Row, Flat, AppR, Grow, ByteF, Bld, Val, Iter, BackD, Back, Value, OkS, OkI, Dec, DecI, TxtI, SplitM, Num, RgM, RgB, ReadI, App, ToI, RgI, ReadS, MarkT, Left, StrS, InS, SplitS, Ord, RgS, Own2.
-/
import Derived.Test.YtlahobdopmdfmaaGreatDoorBase
import Derived.Test.YtlahobdopmdfmaaGreatDoorProg
import Derived.Test.YtlahobdopmdfmaaGreatDoorShBld
import Derived.Test.YtlahobdopmdfmaaGreatDoorShFmt
import Derived.Test.YtlahobdopmdfmaaGreatDoorShNum
import Derived.Test.YtlahobdopmdfmaaGreatDoorShCut
import Derived.Maps.AppendAt
import Derived.StillTailTactics
import Derived.OwnWalkIn
import Derived.RangeFuncOwn
import Derived.RangeFuncWrites
import Derived.Laws.OwnMore
import Derived.Laws.AppendOwnNone
import Derived.Lib.Hide
import Derived.Laws.IdiomStrings
import Derived.Lib.AppendStr
import Derived.Laws.BitsLemmas
import Derived.RangeFuncNested
import Derived.RangeFuncBound
import Derived.RangeFuncCalls
import Derived.RangeFuncLeaves
import Derived.RangeFuncBox
import Derived.Shelf.Abstract
import Derived.Shelf.RegionOpen
import Derived.TacticsInMore
import Derived.LoopNIn
import Derived.LoopIn
import Derived.Lib.ItoaNum
import Derived.Lib.LaidTab
import Derived.KernelRfl
import Derived.Lib.AppendIntMem
import Derived.Sort.CutIn
import Derived.WalkKit
import Derived.Lib.ParseIntB
import Derived.Lib.IndexMore
import Derived.Lib.Strings
import Derived.Lib.SmallJoins
import Derived.Laws.RangeAny
import Derived.Deep.Cut
import Derived.OrdersHeld

/- Row -/
namespace Go.Proofs.YtlahobdopmdfmaaGreatDoor
open Go.RowKit

/-- v is a slice of the call's own: n elements of s cells each, which hold cs; it lies among the blocks lo .. hi - 1. -/
structure Row (t : TypeId) (s : Nat) (w : World) (lo hi : Nat) (v : Value) (n : Nat) (cs : List Value) : Prop where
  row : w.ownsRow lo t s v n cs
  top : ∀ k, v.ownBlock = some k → k < hi

section
variable {t : TypeId} {s : Nat} {w w' : World} {lo hi n : Nat} {v : Value} {cs : List Value}
theorem Row.lo_le (h : Row t s w lo hi v n cs) {k : Nat} (hk : v.ownBlock = some k) : lo ≤ k ∧ k < hi ∧ k < w.heap.size := ⟨(h.row.lt k hk).1, h.top k hk, (h.row.lt k hk).2⟩
theorem Row.touch {a b : Nat} (h : Row t s w lo hi v n cs) (ht : Touch a b w w') (hd : hi ≤ a ∨ b ≤ lo) : Row t s w' lo hi v n cs :=
  ⟨ownsRow_same h.row fun k hk => ht.block k (h.lo_le hk).2.2 (by have := h.lo_le hk; omega), h.top⟩
theorem Row.below (h : Row t s w lo hi v n cs) (hb : Below w.heap.size w w') : Row t s w' lo hi v n cs :=
  ⟨ownsRow_same h.row fun k hk => hb.block k (h.lo_le hk).2.2, h.top⟩
theorem Row.drewN (h : Row t s w lo hi v n cs) (k : Nat) : Row t s (w.drewN k) lo hi v n cs := ⟨h.row, h.top⟩
theorem Row.drew (h : Row t s w lo hi v n cs) : Row t s w.drew lo hi v n cs := ⟨h.row, h.top⟩
theorem Row.alloc (h : Row t s w lo hi v n cs) (o : Obj) : Row t s (w.alloc o) lo hi v n cs := ⟨h.row.alloc o, h.top⟩
theorem Row.setCell (h : Row t s w lo hi v n cs) {p : Addr} (hp : p.block < lo ∨ hi ≤ p.block) (u : Value) : Row t s (w.setCell p u) lo hi v n cs :=
  ⟨ownsRow_same h.row fun k hk => Below.heap_setCell _ _ _ _ (by have := h.lo_le hk; omega), h.top⟩
theorem Row.wide {lo' hi' : Nat} (h : Row t s w lo hi v n cs) (hl : lo' ≤ lo) (hh : hi ≤ hi') : Row t s w lo' hi' v n cs := by
  obtain ⟨⟨h1, h2⟩, h3⟩ := h
  refine ⟨⟨h1, ?_⟩, fun k hk => Nat.lt_of_lt_of_le (h3 k hk) hh⟩
  rcases h2 with h2 | ⟨g, cap, cur, rfl, hg, r⟩
  · exact .inl h2
  · exact .inr ⟨g, cap, cur, rfl, by omega, r⟩
theorem Row.form (h : Row t s w lo hi v n cs) : ∃ a c, v = .slice a n c := by
  rcases h.row.2 with ⟨rfl, hn⟩ | ⟨g, cap, cur, rfl, _⟩
  · exact ⟨none, 0, by rw [hn]⟩
  · exact ⟨_, _, rfl⟩
theorem row_nil (t : TypeId) (s : Nat) (w : World) (lo hi : Nat) : Row t s w lo hi (.slice none 0 0) 0 [] := ⟨World.ownsRow_nil _ _ _ _, by simp [Value.ownBlock]⟩
/-- A new block whose cells are all of its elements. -/
theorem row_new (t : TypeId) (s : Nat) (w : World) (cs : Array Value) (n : Nat) (hn : cs.size = n * s) (hm : n ≤ 1000000000) : Row t s (w.alloc (.cells cs t)) w.heap.size (w.heap.size + 1) (.slice (some ⟨w.heap.size, 0, none⟩) n n) n cs.toList := by
  refine ⟨⟨by simpa using hn, .inr ⟨w.heap.size, n, cs, rfl, Nat.le_refl _, heap_alloc_new w _, Nat.le_refl _, by unfold maxLen; omega, hn, ?_⟩⟩, fun k hk => ?_⟩
  · rw [List.take_of_length_le (by simpa using Nat.le_of_eq hn)]
  · simp [Value.ownBlock] at hk; omega
/-- The cells of an owned row. -/
theorem Row.cell {a : Addr} {c : Nat} (h : Row t s w lo hi (.slice (some a) n c) n cs) {j : Nat} {u : Value} (hj : cs[j]? = some u) : w.cell? (a.add j) = some u := by
  rcases h.row.2 with ⟨hv, _⟩ | ⟨g, cap, cur, hv, hg, hh, _, _, _, htk⟩
  · cases hv
  · injection hv with ha _ _
    injection ha with ha
    subst ha
    have hj2 : j < n * s := by
      have := h.row.1
      rcases Nat.lt_or_ge j cs.length with h1 | h1
      · omega
      · rw [List.getElem?_eq_none h1] at hj; cases hj
    have e : (cur.toList.take (n * s))[j]? = some u := by rw [htk]; exact hj
    rw [List.getElem?_take_of_lt hj2, Array.getElem?_toList] at e
    have ea : (⟨g, 0, none⟩ : Addr).add j = ⟨g, j, none⟩ := by
      by_cases h0 : j = 0
      · subst h0; rfl
      · simp [Addr.add, h0]
    rw [ea, cell_of_row w g j cur t (0, 0) hh]
    exact e
theorem Row.none_ {c : Nat} (h : Row t s w lo hi (.slice none n c) n cs) : n = 0 ∧ c = 0 ∧ cs = [] := by
  rcases h.row.2 with ⟨hv, hn⟩ | ⟨g, cap, cur, hv, _⟩
  · injection hv with _ _ hc
    exact ⟨hn, hc, List.eq_nil_of_length_eq_zero (by rw [h.row.1, hn, Nat.zero_mul])⟩
  · cases hv
theorem Row.len (h : Row t s w lo hi v n cs) : cs.length = n * s := h.row.1

section
variable {P : Program} {ops : Array Oper} {rest : List Oper} {o : Oper} {a : Act} {Q : Exit → Act → World → Prop}
/-- Elements that can be read, appended to a row of the call's own. -/
theorem wpList_appR (hgd : o.guard = none) (x y : Operand) (t e : TypeId) (ho : o.op = .call { callee := .builtin .append, args := #[x, y], argTypes := #[t, t] }) (z0 : Value) (s bytes : Nat)
    (ht : P.underlying t = some (.slice e)) (hinfo : (P.info? e).map (fun i => (i.zero, i.size, i.bytes)) = some (some z0, s, bytes)) (hz1 : z0.cells.size = s) (hs0 : 0 < s) (hby : bytes ≤ 128) {lo hi n : Nat} {A : Option Addr} {C : Nat} {cs : List Value}
    (hx : a.eval x = .slice A n C) (row : Row e s w lo hi (.slice A n C) n cs)
    (ad : Addr) (m c : Nat) (news : List Value) (hy : a.eval y = .slice (some ad) m c) (hl : news.length = m * s) (hc : ∀ j u, news[j]? = some u → w.cell? (ad.add j) = some u) (h1 : ∀ u ∈ news, u.oneCell' = true) (hn : n + m ≤ 1000000000) (hlo : lo ≤ w.heap.size)
    (h : ∀ A' C' w', Row e s w' lo w'.heap.size (.slice A' (n + m) C') (n + m) (cs ++ news) → Touch lo hi w w' → wpList P ops Q rest (a.put o.dst (.slice A' (n + m) C')) w') :
    wpList P ops Q (o :: rest) a w := by
  obtain ⟨i, hi1, hi2, hi3, hi4⟩ := info_parts hinfo
  refine wpList_append_own w hgd x y t ho lo e i z0 s bytes ht hi1 hi2 hi3 hi4 hz1 hs0 _ n cs hx row.row ad m c news hy hl hc h1 (by unfold maxLen; omega) ?_ hlo ?_
  · have : (n + m) * bytes ≤ 1000000000 * 128 := Nat.mul_le_mul hn hby
    omega
  · intro v' w' hown hg _
    have hT : Touch lo hi w w' := ⟨hg.os, hg.tape, hg.output, hg.size, fun k hk ho' => hg.block k hk (by
      intro he
      have := row.lo_le he.symm
      omega)⟩
    have hform : ∃ A' C', v' = .slice A' (n + m) C' := by
      rcases hown.2 with ⟨h0, h0'⟩ | ⟨g, cap, cur, hv, _⟩
      · exact ⟨none, 0, by rw [h0, h0']⟩
      · exact ⟨_, _, hv⟩
    obtain ⟨A', C', rfl⟩ := hform
    exact h A' C' w' ⟨hown, fun k hk => (hown.lt k hk).2⟩ hT
end
end
theorem own_of_row {t : TypeId} {w : World} {lo hi n : Nat} {v : Value} {zs : List Int} (h : Row t 1 w lo hi v n (zs.map (Value.int .i64))) (hn : n = zs.length) (hl : zs.length ≤ 1000000000) : Own t w lo hi v zs := by
  subst hn; exact ⟨h.row, h.top, hl⟩
end Go.Proofs.YtlahobdopmdfmaaGreatDoor

/- Flat -/
namespace Go.Proofs.YtlahobdopmdfmaaGreatDoor
open Go.RowKit

/-- How an element lies in cells. -/
structure Flat (α : Type) where
  sz : Nat
  cells : α → List Value
  zero : α
  len : ∀ x, (cells x).length = sz
  one : ∀ x, ∀ v ∈ cells x, v.oneCell' = true
  pos : 0 < sz

def pairF : Flat (Int × Int) := ⟨2, fun z => [.int .i64 z.1, .int .i64 z.2], (0, 0), fun _ => rfl, fun _ v hv => by simp at hv; rcases hv with rfl | rfl <;> rfl, by omega⟩
def tripF : Flat (Int × Int × Int) := ⟨3, fun z => [.int .i64 z.1, .int .i64 z.2.1, .int .i64 z.2.2], (0, 0, 0), fun _ => rfl, fun _ v hv => by simp at hv; rcases hv with rfl | rfl | rfl <;> rfl, by omega⟩
def textF : Flat ByteArray := ⟨1, fun s => [.string s], ByteArray.empty, fun _ => rfl, fun _ v hv => by simp at hv; subst hv; rfl, by omega⟩

section
variable {α : Type} (F : Flat α)
/-- The cells of a row, one element behind the other. -/
def flat (xs : List α) : List Value := xs.flatMap F.cells
/-- The k-th element (a word that the walk does not open). -/
def elt (xs : List α) (k : Nat) : α := xs[k]?.getD F.zero
variable {F}
theorem elt_get {xs : List α} {k : Nat} (h : k < xs.length) : elt F xs k = xs[k] := by simp [elt, h]
theorem elt_some {xs : List α} {k : Nat} (h : k < xs.length) : xs[k]? = some (elt F xs k) := by rw [elt_get h]; exact List.getElem?_eq_getElem h
theorem flat_len (xs : List α) : (flat F xs).length = xs.length * F.sz := by
  induction xs with
  | nil => simp [flat]
  | cons x xs ih => simp only [flat, List.flatMap_cons, List.length_append, F.len, List.length_cons] at ih ⊢; rw [ih, Nat.succ_mul, Nat.add_comm]
theorem flat_nil : flat F ([] : List α) = [] := rfl
theorem flat_append (xs ys : List α) : flat F (xs ++ ys) = flat F xs ++ flat F ys := by simp [flat]
theorem flat_one (x : α) : flat F [x] = F.cells x := by simp [flat]
theorem flat_cons (x : α) (xs : List α) : flat F (x :: xs) = F.cells x ++ flat F xs := by simp [flat]
theorem flat_get {xs : List α} {i j : Nat} {x : α} {v : Value} (h : xs[i]? = some x) (hj : (F.cells x)[j]? = some v) : (flat F xs)[i * F.sz + j]? = some v := by
  induction xs generalizing i with
  | nil => simp at h
  | cons y ys ih =>
    rw [flat_cons]
    have hj' : j < F.sz := by have := (List.getElem?_eq_some_iff.1 hj).1; rwa [F.len] at this
    cases i with
    | zero =>
      simp only [List.getElem?_cons_zero, Option.some.injEq] at h
      subst h
      rw [Nat.zero_mul, Nat.zero_add, List.getElem?_append_left (by rw [F.len]; exact hj')]
      exact hj
    | succ i =>
      rw [List.getElem?_append_right (by rw [F.len, Nat.succ_mul]; omega), F.len, show (i + 1) * F.sz + j - F.sz = i * F.sz + j by rw [Nat.succ_mul]; omega]
      exact ih (by simpa using h)
theorem flat_mem {xs : List α} : ∀ v ∈ flat F xs, v.oneCell' = true := by
  intro v hv
  simp only [flat, List.mem_flatMap] at hv
  obtain ⟨x, _, hx⟩ := hv
  exact F.one x v hx
/-- One cell of an element is written. -/
theorem flat_set {xs : List α} {i j : Nat} {x y : α} {v : Value} (h : xs[i]? = some x) (hj : j < F.sz) (hy : F.cells y = (F.cells x).set j v) : (flat F xs).set (i * F.sz + j) v = flat F (xs.set i y) := by
  induction xs generalizing i with
  | nil => simp at h
  | cons z zs ih =>
    cases i with
    | zero =>
      simp only [List.getElem?_cons_zero, Option.some.injEq] at h
      subst h
      rw [flat_cons, List.set_cons_zero, flat_cons, Nat.zero_mul, Nat.zero_add, List.set_append_left _ _ (by rw [F.len]; exact hj), hy]
    | succ i =>
      rw [flat_cons, List.set_cons_succ, flat_cons, List.set_append_right _ _ (by rw [F.len, Nat.succ_mul]; omega), F.len, show (i + 1) * F.sz + j - F.sz = i * F.sz + j by rw [Nat.succ_mul]; omega, ih (by simpa using h)]

theorem list_ext_elt {xs ys : List α} (hl : xs.length = ys.length) (h : ∀ k, k < xs.length → elt F xs k = elt F ys k) : xs = ys := by
  apply List.ext_getElem hl
  intro k h1 h2
  have := h k h1
  rwa [elt_get h1, elt_get h2] at this
theorem takeE_snoc {xs ys : List α} {k : Nat} (hk : k < xs.length) (hl : xs.length = ys.length) (h : xs.take k = ys.take k) (he : elt F xs k = elt F ys k) : xs.take (k + 1) = ys.take (k + 1) := by
  have hk' : k < ys.length := by omega
  rw [elt_get hk, elt_get hk'] at he
  rw [List.take_succ_eq_append_getElem hk, List.take_succ_eq_append_getElem hk', h, he]
theorem neE_of_at {xs ys : List α} {k : Nat} (he : ¬ elt F xs k = elt F ys k) : ¬ xs = ys := by rintro rfl; exact he rfl
theorem takeE_all {xs ys : List α} (hl : xs.length = ys.length) (h : xs.take xs.length = ys.take xs.length) : xs = ys := by
  rw [List.take_of_length_le (Nat.le_refl _), hl, List.take_of_length_le (Nat.le_refl _)] at h
  exact h
theorem takeE_succ {xs : List α} {k : Nat} (hk : k < xs.length) : xs.take (k + 1) = xs.take k ++ [elt F xs k] := by rw [List.take_succ_eq_append_getElem hk, elt_get hk]
theorem dropE {xs : List α} {k : Nat} (hk : k < xs.length) : xs.drop k = elt F xs k :: xs.drop (k + 1) := by rw [List.drop_eq_getElem_cons hk, elt_get hk]
theorem elt_mem {xs : List α} {k : Nat} (hk : k < xs.length) : elt F xs k ∈ xs := by rw [elt_get hk]; exact List.getElem_mem _
theorem allE_succ {p : α → Prop} {xs : List α} {k : Nat} (hk : k < xs.length) (h : ∀ x ∈ xs.take k, p x) (he : p (elt F xs k)) : ∀ x ∈ xs.take (k + 1), p x := by
  rw [takeE_succ (F := F) hk]
  intro x hx
  rcases List.mem_append.1 hx with h1 | h1
  · exact h x h1
  · rw [List.mem_singleton] at h1; subst h1; exact he
theorem elt_set_eq {xs : List α} {k : Nat} (hk : k < xs.length) (x : α) : elt F (xs.set k x) k = x := by simp [elt, hk]
theorem elt_set_ne {xs : List α} {k j : Nat} (h : j ≠ k) (x : α) : elt F (xs.set j x) k = elt F xs k := by simp [elt, List.getElem?_set_ne h]
theorem elt_append_left {xs ys : List α} {k : Nat} (h : k < xs.length) : elt F (xs ++ ys) k = elt F xs k := by simp [elt, List.getElem?_append_left h]

/-- The cells from this address on read as these elements, which are not too many. -/
structure RdF (F : Flat α) (w : World) (a : Option Addr) (xs : List α) : Prop where
  len : xs.length ≤ 1000000000
  cells : xs ≠ [] → ∃ b off, a = some ⟨b, off, none⟩ ∧ ∀ (i : Nat) (x : α), xs[i]? = some x → ∀ (j : Nat) (v : Value), (F.cells x)[j]? = some v → w.cell? ⟨b, off + i * F.sz + j, none⟩ = some v

theorem RdF.at_ {w : World} {a : Option Addr} {xs : List α} (h : RdF F w a xs) {k : Nat} (hk : k < xs.length) :
    ∃ b off, a = some ⟨b, off, none⟩ ∧ ∀ (j : Nat) (v : Value), (F.cells (elt F xs k))[j]? = some v → w.cell? ⟨b, off + k * F.sz + j, none⟩ = some v := by
  obtain ⟨b, off, rfl, hc⟩ := h.cells (by rintro rfl; simp at hk)
  exact ⟨b, off, rfl, fun j v hv => hc k _ (elt_some hk) j v hv⟩
theorem RdF.drewN {w : World} {a : Option Addr} {xs : List α} (h : RdF F w a xs) (n : Nat) : RdF F (w.drewN n) a xs := ⟨h.len, h.cells⟩
theorem RdF.drew {w : World} {a : Option Addr} {xs : List α} (h : RdF F w a xs) : RdF F w.drew a xs := ⟨h.len, h.cells⟩
theorem RdF.below {w w' : World} {a : Option Addr} {xs : List α} (h : RdF F w a xs) (hb : Below w.heap.size w w') : RdF F w' a xs := by
  refine ⟨h.len, fun hne => ?_⟩
  obtain ⟨b, off, rfl, hc⟩ := h.cells hne
  exact ⟨b, off, rfl, fun i x hx j v hv => (hb.cell (p := ⟨b, _, none⟩) (World.block_lt_of_cell? _ _ (hc i x hx j v hv))).trans (hc i x hx j v hv)⟩

/-- All numbers fit an int64. -/
def All2 (xs : List (Int × Int)) : Prop := ∀ x ∈ xs, I64 x.1 ∧ I64 x.2
def All3 (xs : List (Int × Int × Int)) : Prop := ∀ x ∈ xs, I64 x.1 ∧ I64 x.2.1 ∧ I64 x.2.2
/-- Elements that came in: of whatever number. -/
structure RawF (F : Flat α) (p : α → Prop) (w : World) (a : Option Addr) (xs : List α) : Prop where
  len : xs.length ≤ 9223372036854775807
  wf : ∀ x ∈ xs, p x
  cells : xs ≠ [] → ∃ b off, a = some ⟨b, off, none⟩ ∧ ∀ (i : Nat) (x : α), xs[i]? = some x → ∀ (j : Nat) (v : Value), (F.cells x)[j]? = some v → w.cell? ⟨b, off + i * F.sz + j, none⟩ = some v
theorem RawF.rd {p : α → Prop} {w : World} {a : Option Addr} {xs : List α} (h : RawF F p w a xs) (hl : xs.length ≤ 1000000000) : RdF F w a xs := ⟨hl, h.cells⟩

/-- v is a slice of the call's own that holds these elements; it lies among the blocks lo .. hi - 1. -/
structure OwnF (F : Flat α) (t : TypeId) (w : World) (lo hi : Nat) (v : Value) (xs : List α) : Prop where
  row : Row t F.sz w lo hi v xs.length (flat F xs)
  len : xs.length ≤ 1000000000

section
variable {t : TypeId} {w w' : World} {lo hi : Nat} {v : Value} {xs : List α}
theorem OwnF.lo_le (h : OwnF F t w lo hi v xs) {k : Nat} (hk : v.ownBlock = some k) : lo ≤ k ∧ k < hi ∧ k < w.heap.size := h.row.lo_le hk
theorem OwnF.touch {a b : Nat} (h : OwnF F t w lo hi v xs) (ht : Touch a b w w') (hd : hi ≤ a ∨ b ≤ lo) : OwnF F t w' lo hi v xs := ⟨h.row.touch ht hd, h.len⟩
theorem OwnF.below (h : OwnF F t w lo hi v xs) (hb : Below w.heap.size w w') : OwnF F t w' lo hi v xs := ⟨h.row.below hb, h.len⟩
theorem OwnF.drewN (h : OwnF F t w lo hi v xs) (n : Nat) : OwnF F t (w.drewN n) lo hi v xs := ⟨h.row.drewN n, h.len⟩
theorem OwnF.drew (h : OwnF F t w lo hi v xs) : OwnF F t w.drew lo hi v xs := ⟨h.row.drew, h.len⟩
theorem OwnF.alloc (h : OwnF F t w lo hi v xs) (o : Obj) : OwnF F t (w.alloc o) lo hi v xs := ⟨h.row.alloc o, h.len⟩
theorem OwnF.setCell (h : OwnF F t w lo hi v xs) {p : Addr} (hp : p.block < lo ∨ hi ≤ p.block) (u : Value) : OwnF F t (w.setCell p u) lo hi v xs := ⟨h.row.setCell hp u, h.len⟩
theorem OwnF.wide {lo' hi' : Nat} (h : OwnF F t w lo hi v xs) (hl : lo' ≤ lo) (hh : hi ≤ hi') : OwnF F t w lo' hi' v xs := ⟨h.row.wide hl hh, h.len⟩
theorem OwnF.form (h : OwnF F t w lo hi v xs) : ∃ a c, v = .slice a xs.length c := h.row.form
theorem OwnF.low {L : Nat} (h : OwnF F t w lo hi v xs) (hb : Below L w w') (hg : hi ≤ L) : OwnF F t w' lo hi v xs :=
  ⟨⟨ownsRow_same h.row.row fun k hk => hb.block k (by have := h.lo_le hk; omega), h.row.top⟩, h.len⟩
theorem ownF_nil (F : Flat α) (t : TypeId) (w : World) (lo hi : Nat) : OwnF F t w lo hi (.slice none 0 0) [] := ⟨row_nil _ _ _ _ _, by simp⟩
/-- What is owned can be read. -/
theorem OwnF.rd {a : Option Addr} {n c : Nat} (h : OwnF F t w lo hi (.slice a n c) xs) : RdF F w a xs := by
  refine ⟨h.len, fun hne => ?_⟩
  have hn : n = xs.length := by
    obtain ⟨a', c', e⟩ := h.form
    injection e
  subst hn
  rcases h.row.row.2 with ⟨_, h0⟩ | ⟨g, cap, cur, hv, hg, hh, hc, _, _, htk⟩
  · exact absurd (List.eq_nil_of_length_eq_zero h0) hne
  · injection hv with ha _ _
    subst ha
    refine ⟨g, 0, rfl, fun i x hx j v hv => ?_⟩
    have h1 := flat_get hx hv
    have hi : i * F.sz + j < xs.length * F.sz := by rw [← flat_len (F := F)]; exact (List.getElem?_eq_some_iff.1 h1).1
    rw [Nat.zero_add, h.row.row.cellAt _ hi, h1]
theorem OwnF.blk {g n c : Nat} (h : OwnF F t w lo hi (.slice (some ⟨g, 0, none⟩) n c) xs) : lo ≤ g ∧ g < hi ∧ g < w.heap.size := h.lo_le rfl
theorem OwnF.num {a : Option Addr} {n c : Nat} (h : OwnF F t w lo hi (.slice a n c) xs) : n = xs.length := by
  obtain ⟨a', c', e⟩ := h.form
  injection e
/-- A row that is not empty begins a block. -/
theorem OwnF.head {a : Option Addr} {n c : Nat} (h : OwnF F t w lo hi (.slice a n c) xs) (hne : 0 < xs.length) : ∃ g, a = some ⟨g, 0, none⟩ ∧ lo ≤ g ∧ g < hi ∧ g < w.heap.size := by
  rcases h.row.row.2 with ⟨_, h0⟩ | ⟨g, cap, cur, hv, _⟩
  · omega
  · injection hv with ha _ _
    subst ha
    exact ⟨g, rfl, h.lo_le rfl⟩
theorem OwnF.get {g n c : Nat} (h : OwnF F t w lo hi (.slice (some ⟨g, 0, none⟩) n c) xs) {k j : Nat} {u : Value} (hk : k < xs.length) (hv : (F.cells (elt F xs k))[j]? = some u) : w.cell? ⟨g, k * F.sz + j, none⟩ = some u := by
  obtain ⟨b, off, e, hc⟩ := h.rd.at_ hk
  have h1 := flat_get (F := F) (elt_some (F := F) hk) hv
  obtain rfl := h.num
  rw [h.row.row.cellAt _ (by rw [← flat_len (F := F)]; exact (List.getElem?_eq_some_iff.1 h1).1), h1]
theorem OwnF.thaw {g n c : Nat} (h : OwnF F t w lo hi (.slice (some ⟨g, 0, none⟩) n c) xs) (j : Nat) : w.frozen? ⟨g, j, none⟩ = false := by
  obtain rfl := h.num
  exact h.row.row.frozenAt j
/-- One cell of an element is written. -/
theorem OwnF.put {g n c : Nat} (h : OwnF F t w lo hi (.slice (some ⟨g, 0, none⟩) n c) xs) {k j : Nat} {y : α} {u : Value} (hk : k < xs.length) (hj : j < F.sz) (hy : F.cells y = (F.cells (elt F xs k)).set j u) :
    OwnF F t (w.setCell ⟨g, k * F.sz + j, none⟩ u) lo hi (.slice (some ⟨g, 0, none⟩) n c) (xs.set k y) := by
  obtain rfl := h.num
  have hs := (h.row.row.stored (k * F.sz + j) u).1
  rw [flat_set (elt_some hk) hj hy] at hs
  exact ⟨⟨by simpa using hs, by simpa using h.row.top⟩, by simpa using h.len⟩
theorem ownF_first {n c : Nat} (h : OwnF F t w lo hi (.slice (some ⟨lo, 0, none⟩) n c) xs) : OwnF F t w lo (lo + 1) (.slice (some ⟨lo, 0, none⟩) n c) xs :=
  ⟨⟨h.row.row, fun k hk => by simp [Value.ownBlock] at hk; omega⟩, h.len⟩
end
end

/-- Elements with empty ones behind them, up to n. -/
def padF {α : Type} (F : Flat α) (n : Nat) (xs : List α) : List α := xs ++ List.replicate (n - xs.length) F.zero
section
variable {α : Type} {F : Flat α}
theorem padF_len {n : Nat} {xs : List α} (h : xs.length ≤ n) : (padF F n xs).length = n := by simp [padF]; omega
theorem padF_set {n : Nat} {xs : List α} (h : xs.length < n) (x : α) : (padF F n xs).set xs.length x = padF F n (xs ++ [x]) := by
  unfold padF
  rw [List.set_append_right _ _ (Nat.le_refl _), Nat.sub_self]
  have : n - xs.length = (n - (xs ++ [x]).length) + 1 := by simp; omega
  rw [this, List.replicate_succ, List.set_cons_zero, List.append_assoc, List.singleton_append]
theorem padF_all {n : Nat} {xs : List α} (h : xs.length = n) : padF F n xs = xs := by simp [padF, h]
theorem elt_padF {n : Nat} {xs : List α} (h : xs.length < n) : elt F (padF F n xs) xs.length = F.zero := by
  unfold elt padF
  rw [List.getElem?_append_right (Nat.le_refl _), Nat.sub_self, List.getElem?_replicate, if_pos (by omega)]; rfl

theorem made_flat (F : Flat α) (z : Array Value) (n : Nat) (hz : z.toList = F.cells F.zero) : (madeCells z (n * F.sz)).toList = flat F (padF F n []) := by
  have hs : z.size = F.sz := by rw [← F.len F.zero, ← hz, Array.length_toList]
  apply List.ext_getElem?
  intro j
  by_cases hj : j < n * F.sz
  · have hq : j / F.sz < n := (Nat.div_lt_iff_lt_mul F.pos).2 hj
    have hr : j % F.sz < F.sz := Nat.mod_lt _ F.pos
    have h0 : (padF F n [])[j / F.sz]? = some F.zero := by simp [padF, hq]
    have hc : (F.cells F.zero)[j % F.sz]? = some (z[j % F.sz]'(by omega)) := by
      rw [← hz, Array.getElem?_toList]; exact Array.getElem?_eq_getElem (by omega)
    have := flat_get (F := F) h0 hc
    rw [show j / F.sz * F.sz + j % F.sz = j by rw [Nat.mul_comm]; exact Nat.div_add_mod j F.sz] at this
    rw [this]
    have hb : z[j % z.size]! = z[j % F.sz]'(by omega) := by
      have e : z[j % z.size]! = z[j % z.size]'(by rw [hs]; omega) := getElem!_pos z _ _
      rw [e]
      congr 1
      rw [hs]
    simp [madeCells, hj, hb]
  · rw [List.getElem?_eq_none (by rw [Array.length_toList, size_madeCells]; omega), List.getElem?_eq_none (by rw [flat_len, padF_len (by simp)]; omega)]

/-- make([]T, n). -/
theorem wpList_makeF (F : Flat α) {P : Program} {w : World} {ops : Array Oper} {rest : List Oper} {o : Oper} {a : Act} {Q : Exit → Act → World → Prop}
    (hg : o.guard = none) (l c : Operand) (t e : TypeId) (hop : o.op = Op.makeSlice t l c) (h1 : P.underlying t = some (.slice e)) (z0 : Value) (bytes : Nat)
    (hinfo : (P.info? e).map (fun i => (i.zero, i.size, i.bytes)) = some (some z0, F.sz, bytes)) (hz0 : z0.cells.toList = F.cells F.zero) (hby : bytes ≤ 128)
    (n : Nat) (hl : a.eval l = .int .i64 n) (hc : a.eval c = .int .i64 n) (hn : n ≤ 1000000000)
    (hK : ∀ w', OwnF F e w' w.heap.size w'.heap.size (.slice (some ⟨w.heap.size, 0, none⟩) n n) (padF F n []) → Below w.heap.size w w' → wpList P ops Q rest (a.put o.dst (.slice (some ⟨w.heap.size, 0, none⟩) n n)) w') :
    wpList P ops Q (o :: rest) a w := by
  obtain ⟨i, hi1, hi2, hi3, hi4⟩ := info_parts hinfo
  have hb : i.bytes * n ≤ 128 * 1000000000 := Nat.mul_le_mul (by omega) hn
  refine wpList_make_full w hg l c t hop w.heap.size e i _ F.sz h1 hi1 hi2 hi3 .i64 .i64 n n n hl hc rfl rfl (by omega) (by unfold maxLen; omega) (Nat.le_refl _) fun w' hown hgr => ?_
  rw [made_flat F _ n hz0] at hown
  exact hK w' ⟨⟨by rw [padF_len (by simp)]; exact hown, fun k hk => (hown.lt k hk).2⟩, by rw [padF_len (by simp)]; exact hn⟩ ((Below.refl _ _).grown hgr (Nat.le_refl _) (by simp))
end

theorem flat_split {α : Type} {F : Flat α} {xs : List α} {j : Nat} {v : Value} (h : (flat F xs)[j]? = some v) : ∃ x, xs[j / F.sz]? = some x ∧ (F.cells x)[j % F.sz]? = some v := by
  have hj : j < xs.length * F.sz := by rw [← flat_len (F := F)]; exact (List.getElem?_eq_some_iff.1 h).1
  have hq : j / F.sz < xs.length := (Nat.div_lt_iff_lt_mul F.pos).2 hj
  have hr : j % F.sz < (F.cells xs[j / F.sz]).length := by rw [F.len]; exact Nat.mod_lt _ F.pos
  refine ⟨xs[j / F.sz], List.getElem?_eq_getElem hq, ?_⟩
  have h2 := flat_get (F := F) (List.getElem?_eq_getElem hq) (List.getElem?_eq_getElem hr)
  rw [show j / F.sz * F.sz + j % F.sz = j by rw [Nat.mul_comm]; exact Nat.div_add_mod j F.sz, h] at h2
  rw [List.getElem?_eq_getElem hr]
  exact h2.symm
/-- All cells of a row that can be read. -/
theorem RdF.news {α : Type} {F : Flat α} {w : World} {b off : Nat} {xs : List α} (h : RdF F w (some ⟨b, off, none⟩) xs) : ∀ j u, (flat F xs)[j]? = some u → w.cell? ((⟨b, off, none⟩ : Addr).add j) = some u := by
  intro j u hj
  obtain ⟨x, hx, hv⟩ := flat_split hj
  have hne : xs ≠ [] := by rintro rfl; simp at hx
  obtain ⟨b', off', e, hc⟩ := h.cells hne
  injection e with e
  injection e with e1 e2 _
  subst e1 e2
  have := hc _ x hx _ u hv
  rw [show off + j / F.sz * F.sz + j % F.sz = off + j by rw [Nat.add_assoc, Nat.mul_comm (j / F.sz), Nat.div_add_mod]] at this
  have ea : (⟨b, off, none⟩ : Addr).add j = ⟨b, off + j, none⟩ := by
    by_cases h0 : j = 0
    · subst h0; rfl
    · simp [Addr.add, h0]
  rw [ea]
  exact this
section
variable {t : TypeId} {w : World} {lo hi g n c k : Nat}
theorem RdF.at2 {a : Option Addr} {xs : List (Int × Int)} (h : RdF pairF w a xs) (hk : k < xs.length) :
    ∃ b off, a = some ⟨b, off, none⟩ ∧ w.cell? ⟨b, off + k * 2, none⟩ = some (.int .i64 (elt pairF xs k).1) ∧ w.cell? ⟨b, off + k * 2 + 1, none⟩ = some (.int .i64 (elt pairF xs k).2) := by
  obtain ⟨b, off, rfl, hc⟩ := h.at_ hk
  exact ⟨b, off, rfl, hc 0 _ rfl, hc 1 _ rfl⟩
theorem RdF.at3 {a : Option Addr} {xs : List (Int × Int × Int)} (h : RdF tripF w a xs) (hk : k < xs.length) :
    ∃ b off, a = some ⟨b, off, none⟩ ∧ w.cell? ⟨b, off + k * 3, none⟩ = some (.int .i64 (elt tripF xs k).1) ∧ w.cell? ⟨b, off + k * 3 + 1, none⟩ = some (.int .i64 (elt tripF xs k).2.1) ∧
      w.cell? ⟨b, off + k * 3 + 2, none⟩ = some (.int .i64 (elt tripF xs k).2.2) := by
  obtain ⟨b, off, rfl, hc⟩ := h.at_ hk
  exact ⟨b, off, rfl, hc 0 _ rfl, hc 1 _ rfl, hc 2 _ rfl⟩
theorem OwnF.get2 {xs : List (Int × Int)} (h : OwnF pairF t w lo hi (.slice (some ⟨g, 0, none⟩) n c) xs) (hk : k < xs.length) :
    w.cell? ⟨g, k * 2, none⟩ = some (.int .i64 (elt pairF xs k).1) ∧ w.cell? ⟨g, k * 2 + 1, none⟩ = some (.int .i64 (elt pairF xs k).2) :=
  ⟨h.get (j := 0) hk rfl, h.get (j := 1) hk rfl⟩
theorem OwnF.get3 {xs : List (Int × Int × Int)} (h : OwnF tripF t w lo hi (.slice (some ⟨g, 0, none⟩) n c) xs) (hk : k < xs.length) :
    w.cell? ⟨g, k * 3, none⟩ = some (.int .i64 (elt tripF xs k).1) ∧ w.cell? ⟨g, k * 3 + 1, none⟩ = some (.int .i64 (elt tripF xs k).2.1) ∧ w.cell? ⟨g, k * 3 + 2, none⟩ = some (.int .i64 (elt tripF xs k).2.2) :=
  ⟨h.get (j := 0) hk rfl, h.get (j := 1) hk rfl, h.get (j := 2) hk rfl⟩
theorem OwnF.put20 {xs : List (Int × Int)} (h : OwnF pairF t w lo hi (.slice (some ⟨g, 0, none⟩) n c) xs) (hk : k < xs.length) (u : Int) :
    OwnF pairF t (w.setCell ⟨g, k * 2, none⟩ (.int .i64 u)) lo hi (.slice (some ⟨g, 0, none⟩) n c) (xs.set k (u, (elt pairF xs k).2)) := h.put (j := 0) hk (by decide) rfl
theorem OwnF.put21 {xs : List (Int × Int)} (h : OwnF pairF t w lo hi (.slice (some ⟨g, 0, none⟩) n c) xs) (hk : k < xs.length) (u : Int) :
    OwnF pairF t (w.setCell ⟨g, k * 2 + 1, none⟩ (.int .i64 u)) lo hi (.slice (some ⟨g, 0, none⟩) n c) (xs.set k ((elt pairF xs k).1, u)) := h.put (j := 1) hk (by decide) rfl
theorem OwnF.put30 {xs : List (Int × Int × Int)} (h : OwnF tripF t w lo hi (.slice (some ⟨g, 0, none⟩) n c) xs) (hk : k < xs.length) (u : Int) :
    OwnF tripF t (w.setCell ⟨g, k * 3, none⟩ (.int .i64 u)) lo hi (.slice (some ⟨g, 0, none⟩) n c) (xs.set k (u, (elt tripF xs k).2)) := h.put (j := 0) hk (by decide) rfl
theorem OwnF.put31 {xs : List (Int × Int × Int)} (h : OwnF tripF t w lo hi (.slice (some ⟨g, 0, none⟩) n c) xs) (hk : k < xs.length) (u : Int) :
    OwnF tripF t (w.setCell ⟨g, k * 3 + 1, none⟩ (.int .i64 u)) lo hi (.slice (some ⟨g, 0, none⟩) n c) (xs.set k ((elt tripF xs k).1, u, (elt tripF xs k).2.2)) := h.put (j := 1) hk (by decide) rfl
theorem OwnF.put32 {xs : List (Int × Int × Int)} (h : OwnF tripF t w lo hi (.slice (some ⟨g, 0, none⟩) n c) xs) (hk : k < xs.length) (u : Int) :
    OwnF tripF t (w.setCell ⟨g, k * 3 + 2, none⟩ (.int .i64 u)) lo hi (.slice (some ⟨g, 0, none⟩) n c) (xs.set k ((elt tripF xs k).1, (elt tripF xs k).2.1, u)) := h.put (j := 2) hk (by decide) rfl
/-- All cells of an element are written. -/
theorem OwnF.put2 {xs : List (Int × Int)} (h : OwnF pairF t w lo hi (.slice (some ⟨g, 0, none⟩) n c) xs) (hk : k < xs.length) (x : Int × Int) :
    OwnF pairF t ((w.setCell ⟨g, k * 2, none⟩ (.int .i64 x.1)).setCell ⟨g, k * 2 + 1, none⟩ (.int .i64 x.2)) lo hi (.slice (some ⟨g, 0, none⟩) n c) (xs.set k x) := by
  have := (h.put20 hk x.1).put21 (k := k) (by simpa using hk) x.2
  rwa [elt_set_eq hk, List.set_set] at this
theorem OwnF.put3 {xs : List (Int × Int × Int)} (h : OwnF tripF t w lo hi (.slice (some ⟨g, 0, none⟩) n c) xs) (hk : k < xs.length) (x : Int × Int × Int) :
    OwnF tripF t (((w.setCell ⟨g, k * 3, none⟩ (.int .i64 x.1)).setCell ⟨g, k * 3 + 1, none⟩ (.int .i64 x.2.1)).setCell ⟨g, k * 3 + 2, none⟩ (.int .i64 x.2.2)) lo hi (.slice (some ⟨g, 0, none⟩) n c) (xs.set k x) := by
  have := ((h.put30 hk x.1).put31 (k := k) (by simpa using hk) x.2.1).put32 (k := k) (by simpa using hk) x.2.2
  simpa only [List.set_set, elt_set_eq (F := tripF) hk] using this
end
theorem padF_copy {α : Type} {F : Flat α} {xs : List α} {k : Nat} (hk : k < xs.length) : (padF F xs.length (xs.take k)).set k (elt F xs k) = padF F xs.length (xs.take (k + 1)) := by
  have hl : (xs.take k).length = k := by rw [List.length_take]; omega
  have := padF_set (F := F) (n := xs.length) (xs := xs.take k) (by omega) (elt F xs k)
  rw [hl] at this
  rw [this, takeE_succ (F := F) hk]
theorem padF_copied {α : Type} {F : Flat α} {xs : List α} : padF F xs.length (xs.take xs.length) = xs := by rw [List.take_of_length_le (Nat.le_refl _)]; exact padF_all rfl
theorem padF_take_len {α : Type} {F : Flat α} {xs : List α} {k : Nat} (hk : k ≤ xs.length) : (padF F xs.length (xs.take k)).length = xs.length := padF_len (by rw [List.length_take]; omega)

/-- The first j elements marked, the others as they were. -/
def mrkF {α : Type} (f : Nat → α) (xs : List α) (j : Nat) : List α := (List.range j).map f ++ xs.drop j
section
variable {α : Type} {F : Flat α} {f : Nat → α} {xs : List α} {j : Nat}
theorem mrkF_len (h : j ≤ xs.length) : (mrkF f xs j).length = xs.length := by simp [mrkF]; omega
theorem mrkF_zero : mrkF f xs 0 = xs := by simp [mrkF]
theorem mrkF_all : mrkF f xs xs.length = (List.range xs.length).map f := by simp [mrkF]
theorem mrkF_set (h : j < xs.length) : (mrkF f xs j).set j (f j) = mrkF f xs (j + 1) := by
  unfold mrkF
  rw [List.set_append_right _ _ (by simp), List.length_map, List.length_range, Nat.sub_self, List.drop_eq_getElem_cons h, List.set_cons_zero, List.range_succ, List.map_append, List.map_singleton, List.append_assoc, List.singleton_append]
theorem elt_range {n : Nat} (h : j < n) : elt F ((List.range n).map f) j = f j := by rw [elt_get (by simpa using h)]; simp
end
/-- Marks from k on, two for an element. -/
def seq2 (k : Int) (n : Nat) : List (Int × Int) := (List.range n).map fun i : Nat => (k + 2 * (i : Int), k + 2 * (i : Int) + 1)
def seq3 (k : Int) (n : Nat) : List (Int × Int × Int) := (List.range n).map fun i : Nat => (k + 3 * (i : Int), k + 3 * (i : Int) + 1, k + 3 * (i : Int) + 1 + 1)
theorem seq2_len (k : Int) (n : Nat) : (seq2 k n).length = n := by simp [seq2]
theorem seq3_len (k : Int) (n : Nat) : (seq3 k n).length = n := by simp [seq3]
theorem seq2_at {k : Int} {n i : Nat} (h : i < n) : elt pairF (seq2 k n) i = (k + 2 * (i : Int), k + 2 * (i : Int) + 1) := elt_range h
theorem seq3_at {k : Int} {n i : Nat} (h : i < n) : elt tripF (seq3 k n) i = (k + 3 * (i : Int), k + 3 * (i : Int) + 1, k + 3 * (i : Int) + 1 + 1) := elt_range h
theorem ownF_row {α : Type} {F : Flat α} {t : TypeId} {w : World} {lo hi n : Nat} {v : Value} {xs : List α} (h : Row t F.sz w lo hi v n (flat F xs)) (hn : n = xs.length) (hl : xs.length ≤ 1000000000) : OwnF F t w lo hi v xs := by
  subst hn; exact ⟨h, hl⟩
end Go.Proofs.YtlahobdopmdfmaaGreatDoor

/- AppR -/
namespace Go.Proofs.YtlahobdopmdfmaaGreatDoor
open Go.RowKit

section
variable {P : Program} {ops : Array Oper} {rest : List Oper} {o : Oper} {a : Act} {Q : Exit → Act → World → Prop} {w : World}
/-- Elements that can be read, appended to a row of the call's own (one operation). -/
theorem wp_appR {K : Act → World → Prop} (x y : Operand) (t e : TypeId) (ho : o.op = .call { callee := .builtin .append, args := #[x, y], argTypes := #[t, t] }) (z0 : Value) (s bytes : Nat)
    (ht : P.underlying t = some (.slice e)) (hinfo : (P.info? e).map (fun i => (i.zero, i.size, i.bytes)) = some (some z0, s, bytes)) (hz1 : z0.cells.size = s) (hs0 : 0 < s) (hby : bytes ≤ 128) {lo hi n : Nat} {A : Option Addr} {C : Nat} {cs : List Value}
    (hx : a.eval x = .slice A n C) (row : Row e s w lo hi (.slice A n C) n cs)
    (ad : Addr) (m c : Nat) (news : List Value) (hy : a.eval y = .slice (some ad) m c) (hl : news.length = m * s) (hc : ∀ j u, news[j]? = some u → w.cell? (ad.add j) = some u) (h1 : ∀ u ∈ news, u.oneCell' = true) (hn : n + m ≤ 1000000000) (hlo : lo ≤ w.heap.size)
    (h : ∀ A' C' w', Row e s w' lo w'.heap.size (.slice A' (n + m) C') (n + m) (cs ++ news) → Touch lo hi w w' → K (a.put o.dst (.slice A' (n + m) C')) w') :
    o.wp P a w K Q := by
  obtain ⟨i, hi1, hi2, hi3, hi4⟩ := info_parts hinfo
  refine wp_append_own w x y t ho lo e i z0 s bytes ht hi1 hi2 hi3 hi4 hz1 hs0 _ n cs hx row.row ad m c news hy hl hc h1 (by unfold maxLen; omega) ?_ hlo ?_
  · have : (n + m) * bytes ≤ 1000000000 * 128 := Nat.mul_le_mul hn hby
    omega
  · intro v' w' hown hg _
    have hT : Touch lo hi w w' := ⟨hg.os, hg.tape, hg.output, hg.size, fun k hk ho' => hg.block k hk (by
      intro he
      have := row.lo_le he.symm
      omega)⟩
    have hform : ∃ A' C', v' = .slice A' (n + m) C' := by
      rcases hown.2 with ⟨h0, h0'⟩ | ⟨g, cap, cur, hv, _⟩
      · exact ⟨none, 0, by rw [h0, h0']⟩
      · exact ⟨_, _, hv⟩
    obtain ⟨A', C', rfl⟩ := hform
    exact h A' C' w' ⟨hown, fun k hk => (hown.lt k hk).2⟩ hT
end
end Go.Proofs.YtlahobdopmdfmaaGreatDoor

/- Grow -/
namespace Go.Proofs.YtlahobdopmdfmaaGreatDoor
open Go.RowKit

/-- A row of its own that grows: nothing, or one block. -/
def GrowF {α : Type} (F : Flat α) (t : TypeId) (L : Nat) (w : World) (A : Option Addr) (C : Nat) (ms : List α) : Prop := (ms = [] ∧ A = none ∧ C = 0) ∨ ∃ g, A = some ⟨g, 0, none⟩ ∧ L ≤ g ∧ OwnF F t w g (g + 1) (.slice A ms.length C) ms
/-- Below L nothing has turned, and nothing that is no row of e's. -/
def Grows (e : TypeId) (L : Nat) (w w' : World) : Prop := Below L w w' ∧ ∀ (k : Nat) (o : Obj), w.heap[k]? = some o → (∀ cur fz, o ≠ .cells cur e fz) → w'.heap[k]? = some o
theorem Grows.refl (e : TypeId) (L : Nat) (w : World) : Grows e L w w := ⟨Below.refl _ _, fun _ _ h _ => h⟩
theorem no_row {o : Obj} {e : TypeId} (h : o.isCells = false) : ∀ cur fz, o ≠ .cells cur e fz := by
  rintro cur fz rfl
  simp [Obj.isCells] at h
section
variable {α : Type} {F : Flat α} {t : TypeId} {L : Nat} {w w' : World} {A : Option Addr} {C : Nat} {ms : List α}
theorem growF_nil (F : Flat α) (t : TypeId) (L : Nat) (w : World) : GrowF F t L w none 0 [] := .inl ⟨rfl, rfl, rfl⟩
theorem GrowF.own (h : GrowF F t L w A C ms) (_ : L ≤ w.heap.size) : OwnF F t w L w.heap.size (.slice A ms.length C) ms := by
  rcases h with ⟨rfl, rfl, rfl⟩ | ⟨g, rfl, hg, ow⟩
  · exact ownF_nil _ _ _ _ _
  · exact ow.wide hg ow.blk.2.2
theorem OwnF.narrowF {lo hi n : Nat} (h : OwnF F t w lo hi (.slice A n C) ms) : (ms = [] ∧ A = none ∧ n = 0 ∧ C = 0) ∨ ∃ g, A = some ⟨g, 0, none⟩ ∧ lo ≤ g ∧ g < hi ∧ OwnF F t w g (g + 1) (.slice A n C) ms := by
  rcases h.row.row.2 with ⟨hv, h0⟩ | ⟨g, cap, cur, hv, hg, r⟩
  · injection hv with h1 h2 h3
    exact .inl ⟨List.eq_nil_of_length_eq_zero h0, h1, h2, h3⟩
  · injection hv with ha hn hc
    subst ha
    have hlt := h.row.top g rfl
    refine .inr ⟨g, rfl, hg, hlt, ⟨⟨⟨h.row.row.1, .inr ⟨g, cap, cur, by rw [hn, hc], Nat.le_refl _, r⟩⟩, fun k hk => ?_⟩, h.len⟩⟩
    simp [Value.ownBlock] at hk; omega
theorem OwnF.cellsF {g lo hi n : Nat} (h : OwnF F t w lo hi (.slice (some ⟨g, 0, none⟩) n C) ms) : ∃ cur, w.heap[g]? = some (.cells cur t (0, 0)) := by
  rcases h.row.row.2 with ⟨hv, _⟩ | ⟨g', cap, cur, hv, _, hh, _⟩
  · cases hv
  · injection hv with ha _ _
    injection ha with ha
    injection ha with ha
    subst ha
    exact ⟨cur, hh⟩
theorem OwnF.same {lo hi n : Nat} (h : OwnF F t w lo hi (.slice A n C) ms) (hs : ∀ (k : Nat) (o : Obj), lo ≤ k → k < hi → w.heap[k]? = some o → o.isCells = true → w'.heap[k]? = w.heap[k]?) : OwnF F t w' lo hi (.slice A n C) ms := by
  refine ⟨⟨ownsRow_same h.row.row fun k hk => ?_, h.row.top⟩, h.len⟩
  have hb := h.lo_le hk
  rcases h.row.row.2 with ⟨hv, _⟩ | ⟨g', cap, cur, hv, _, hh, _⟩
  · rw [hv] at hk; cases hk
  · rw [hv] at hk
    simp [Value.ownBlock] at hk
    subst hk
    exact hs _ _ hb.1 hb.2.1 hh rfl
theorem GrowF.same (h : GrowF F t L w A C ms) (hs : ∀ (k : Nat) (o : Obj), L ≤ k → w.heap[k]? = some o → o.isCells = true → w'.heap[k]? = w.heap[k]?) : GrowF F t L w' A C ms := by
  rcases h with h | ⟨g, rfl, hg, ow⟩
  · exact .inl h
  · exact .inr ⟨g, rfl, hg, ow.same fun k o h1 _ => hs k o (by omega)⟩
theorem GrowF.row (h : GrowF F t L w A C ms) (hL : L ≤ w.heap.size) :
    ∃ lo hi, L ≤ lo ∧ hi ≤ lo + 1 ∧ lo ≤ w.heap.size ∧ Row t F.sz w lo hi (.slice A ms.length C) ms.length (flat F ms) ∧ ∀ k, lo ≤ k → k < hi → ∃ cur, w.heap[k]? = some (.cells cur t (0, 0)) := by
  rcases h with ⟨rfl, rfl, rfl⟩ | ⟨g, rfl, hg, ow⟩
  · exact ⟨L, L, Nat.le_refl _, by omega, hL, row_nil _ _ _ _ _, fun k h1 h2 => by omega⟩
  · refine ⟨g, g + 1, hg, Nat.le_refl _, by have := ow.blk; omega, ow.row, fun k h1 h2 => ?_⟩
    obtain rfl : k = g := by omega
    exact ow.cellsF
end

section
variable {α : Type} {F : Flat α} {P : Program} {ops : Array Oper} {rest : List Oper} {o : Oper} {a : Act} {Q : Exit → Act → World → Prop} {w : World}
/-- What an append leaves, of a row that grows and a list of its own. -/
theorem run_appGrow (t e ty : TypeId) (z0 : Value) (bytes : Nat) (ht : P.underlying t = some (.slice e)) (hinfo : (P.info? e).map (fun i => (i.zero, i.size, i.bytes)) = some (some z0, F.sz, bytes)) (hz1 : z0.cells.size = F.sz) (hby : bytes ≤ 128)
    {L lo hi m D : Nat} {A B : Option Addr} {C : Nat} {ms ys : List α} (hg : GrowF F e L w A C ms) (hL : L ≤ w.heap.size) (hy : OwnF F e w lo hi (.slice B m D) ys) (hn : ms.length + m ≤ 1000000000) :
    ∃ A' C' w', (Builtin.append_ #[t, t] ty #[.slice A ms.length C, .slice B m D]).run P w = .ok (.slice A' (ms.length + m) C') w' ∧ GrowF F e L w' A' C' (ms ++ ys) ∧ Grows e L w w' := by
  obtain ⟨i, hi1, hi2, hi3, hi4⟩ := info_parts hinfo
  obtain ⟨l1, h1, hl1, hh1, hlw, row, hcells⟩ := hg.row hL
  rcases hy.narrowF with ⟨rfl, rfl, rfl, rfl⟩ | ⟨g, rfl, hg1, hg2, nar⟩
  · refine ⟨A, C, w, ?_, by simpa using hg, Grows.refl _ _ _⟩
    simpa using run_append_owned_none (P := P) (w := w) l1 t ty e i F.sz ht hi1 _ ms.length (flat F ms) row.row
  · have hm : m = ys.length := hy.num
    subst hm
    obtain ⟨v', w', hrun, r1, r2, r3⟩ := run_append_own (P := P) w l1 t ty e i z0 F.sz bytes ht hi1 hi2 hi3 hi4 hz1 F.pos _ ms.length (flat F ms) row.row ⟨g, 0, none⟩ ys.length D (flat F ys) (flat_len ..) nar.rd.news flat_mem (by unfold maxLen; omega)
      (by have : (ms.length + ys.length) * bytes ≤ 1000000000 * 128 := Nat.mul_le_mul hn hby
          omega) hlw
    have hform : ∃ A' C', v' = .slice A' (ms.length + ys.length) C' := by
      rcases r1.2 with ⟨h0, h0'⟩ | ⟨g, cap, cur, hv, _⟩
      · exact ⟨none, 0, by rw [h0, h0']⟩
      · exact ⟨_, _, hv⟩
    obtain ⟨A', C', rfl⟩ := hform
    have ow : OwnF F e w' l1 w'.heap.size (.slice A' (ms.length + ys.length) C') (ms ++ ys) := ownF_row (n := ms.length + ys.length) ⟨by rw [flat_append]; exact r1, fun k hk => (r1.lt k hk).2⟩ (by simp) (by simp; omega)
    have hblk : ∀ k, k < w.heap.size → k < l1 ∨ h1 ≤ k → w'.heap[k]? = w.heap[k]? := fun k hk ho => r2.block k hk (by
      intro he
      have := row.lo_le he.symm
      omega)
    refine ⟨A', C', w', hrun, ?_, ⟨r2.os, r2.tape, r2.output, by have := r2.size; omega, fun k hk => hblk k (by omega) (.inl (by omega))⟩, fun k o hk hc => ?_⟩
    · rcases ow.narrowF with ⟨e1, e2, _, e3⟩ | ⟨g', rfl, q1, _, nar'⟩
      · exact .inl ⟨e1, e2, e3⟩
      · refine .inr ⟨g', rfl, by omega, ?_⟩
        rw [List.length_append]
        exact nar'
    · refine (hblk k (Array.getElem?_eq_some_iff.1 hk).1 ?_).trans hk
      rcases Nat.lt_or_ge k l1 with q | q
      · exact .inl q
      · rcases Nat.lt_or_ge k h1 with q2 | q2
        · obtain ⟨cur, hcur⟩ := hcells k q q2
          rw [hcur] at hk
          injection hk with hk
          exact absurd hk.symm (hc _ _)
        · exact .inr q2
/-- The same as an operation of a round's walk. -/
theorem wpListIn_appGrow {Fe : Fence} {n : Nat} (F : Flat α) (hgd : o.guard = none) (x y : Operand) (t e : TypeId) (ho : o.op = .call { callee := .builtin .append, args := #[x, y], argTypes := #[t, t] }) (z0 : Value) (bytes : Nat)
    (ht : P.underlying t = some (.slice e)) (hinfo : (P.info? e).map (fun i => (i.zero, i.size, i.bytes)) = some (some z0, F.sz, bytes)) (hz1 : z0.cells.size = F.sz) (hby : bytes ≤ 128) {L lo hi m D : Nat} {A B : Option Addr} {C : Nat} {ms ys : List α}
    (hx : a.eval x = .slice A ms.length C) (hg : GrowF F e L w A C ms) (hL : L ≤ w.heap.size) (hy : a.eval y = .slice B m D) (hw : OwnF F e w lo hi (.slice B m D) ys) (hn : ms.length + m ≤ 1000000000)
    (h : ∀ A' C' w', GrowF F e L w' A' C' (ms ++ ys) → Grows e L w w' → wpListIn Fe n P ops Q rest (a.put o.dst (.slice A' (ms.length + m) C')) w') : wpListIn Fe n P ops Q (o :: rest) a w := by
  refine wpListIn_plain hgd fun K hK => ?_
  obtain ⟨A', C', w', hrun, r1, r2⟩ := run_appGrow (F := F) t e o.type z0 bytes ht hinfo hz1 hby hg hL hw hn
  unfold Oper.wpIn
  refine ⟨?_, ?_⟩
  · simp [Oper.about, ho, resolve, Target.leads, Sem.run_pure]
  · rw [Oper.semAt_plain Fe _ _ (by rw [ho]; intro c hc'; cases hc')]
    simp [execOp, ho, resolve, invoke, builtin, hx, hy, hrun, Result.andThen]
    exact hK _ _ (h A' C' w' r1 r2)
/-- The same as an operation of a plain walk. -/
theorem wpList_appGrow (F : Flat α) (hgd : o.guard = none) (x y : Operand) (t e : TypeId) (ho : o.op = .call { callee := .builtin .append, args := #[x, y], argTypes := #[t, t] }) (z0 : Value) (bytes : Nat)
    (ht : P.underlying t = some (.slice e)) (hinfo : (P.info? e).map (fun i => (i.zero, i.size, i.bytes)) = some (some z0, F.sz, bytes)) (hz1 : z0.cells.size = F.sz) (hby : bytes ≤ 128) {L lo hi m D : Nat} {A B : Option Addr} {C : Nat} {ms ys : List α}
    (hx : a.eval x = .slice A ms.length C) (hg : GrowF F e L w A C ms) (hL : L ≤ w.heap.size) (hy : a.eval y = .slice B m D) (hw : OwnF F e w lo hi (.slice B m D) ys) (hn : ms.length + m ≤ 1000000000)
    (h : ∀ A' C' w', GrowF F e L w' A' C' (ms ++ ys) → Grows e L w w' → wpList P ops Q rest (a.put o.dst (.slice A' (ms.length + m) C')) w') : wpList P ops Q (o :: rest) a w := by
  refine wpList_plain hgd fun K hK => ?_
  obtain ⟨A', C', w', hrun, r1, r2⟩ := run_appGrow (F := F) t e o.type z0 bytes ht hinfo hz1 hby hg hL hw hn
  unfold Oper.wp
  simp [execOp, ho, resolve, invoke, builtin, hx, hy, hrun, Result.andThen]
  exact hK _ _ (h A' C' w' r1 r2)
end
end Go.Proofs.YtlahobdopmdfmaaGreatDoor

/- ByteF -/
namespace Go.Proofs.YtlahobdopmdfmaaGreatDoor
open Go.RowKit

def byteF : Flat UInt8 := ⟨1, fun b => [.int .u8 (b.toNat : Int)], 0, fun _ => rfl, fun _ v hv => by simp at hv; subst hv; rfl, by omega⟩
theorem info_byte : (Tryz.prog.info? 5).map (fun i => (i.zero, i.size, i.bytes)) = some (some (.int .u8 0), 1, 1) := by kernel_rfl
section
variable {w : World} {t : TypeId} {lo hi g n c k : Nat} {xs : List UInt8}
theorem OwnF.getB (h : OwnF byteF t w lo hi (.slice (some ⟨g, 0, none⟩) n c) xs) (hk : k < xs.length) : w.cell? ⟨g, k, none⟩ = some (.int .u8 ((elt byteF xs k).toNat : Int)) := by
  have := h.get (k := k) (j := 0) (u := .int .u8 ((elt byteF xs k).toNat : Int)) hk rfl
  simpa [byteF] using this
theorem OwnF.putB (h : OwnF byteF t w lo hi (.slice (some ⟨g, 0, none⟩) n c) xs) (hk : k < xs.length) (x : UInt8) : OwnF byteF t (w.setCell ⟨g, k, none⟩ (.int .u8 (x.toNat : Int))) lo hi (.slice (some ⟨g, 0, none⟩) n c) (xs.set k x) := by
  have := h.put (k := k) (j := 0) (y := x) (u := .int .u8 (x.toNat : Int)) hk (by decide) rfl
  simpa [byteF] using this
theorem flat_byte (xs : List UInt8) : flat byteF xs = xs.map fun b => Value.int .u8 (b.toNat : Int) := by
  unfold flat
  rw [List.map_eq_flatMap]
  rfl
/-- Bytes of its own, read as a string. -/
theorem OwnF.text {A : Option Addr} {P : Program} (h : OwnF byteF t w lo hi (.slice A n c) xs) (hne : 0 < xs.length) (src dst e : TypeId) (hs : P.underlying src = some (.slice e)) (he : P.underlying e = some (.int .u8)) (hd : P.underlying dst = some .string) :
    (convert src dst (.slice A n c)).run P w = .ok (.string ⟨xs.toArray⟩) w := by
  obtain ⟨g, rfl, _, _, _⟩ := h.head hne
  have hn := h.num
  subst hn
  refine run_convert_bytes_back w src dst e ⟨g, 0, none⟩ c xs hs he hd fun j hj => ?_
  have := h.getB (k := j) hj
  rw [elt_get hj] at this
  rw [show (⟨g, 0, none⟩ : Addr).add j = ⟨g, j, none⟩ by simp [Addr.add]; exact fun e => e.symm]
  exact this
end

/-- The list when k pairs have been exchanged. -/
def rvK (xs : List UInt8) (k : Nat) : List UInt8 := (List.range xs.length).map fun i => if i < k ∨ xs.length ≤ i + k then elt byteF xs (xs.length - 1 - i) else elt byteF xs i
theorem rvK_len (xs : List UInt8) (k : Nat) : (rvK xs k).length = xs.length := by simp [rvK]
theorem rvK_at {xs : List UInt8} {k i : Nat} (h : i < xs.length) : elt byteF (rvK xs k) i = if i < k ∨ xs.length ≤ i + k then elt byteF xs (xs.length - 1 - i) else elt byteF xs i := elt_range h
theorem rvK_zero (xs : List UInt8) : rvK xs 0 = xs := by
  refine List.ext_getElem (rvK_len _ _) fun i h1 h2 => ?_
  have := rvK_at (k := 0) h2
  rw [elt_get h1, if_neg (by omega), elt_get h2] at this
  exact this
theorem rvK_all {xs : List UInt8} {k : Nat} (h : xs.length ≤ 2 * k + 1) : rvK xs k = xs.reverse := by
  refine List.ext_getElem (by rw [rvK_len, List.length_reverse]) fun i h1 h2 => ?_
  have hi : i < xs.length := by rwa [rvK_len] at h1
  have := rvK_at (k := k) hi
  rw [elt_get h1] at this
  rw [this, List.getElem_reverse]
  split
  · rw [elt_get (by omega)]
  · have e : xs.length - 1 - i = i := by omega
    rw [elt_get hi]
    congr 1
    exact e.symm
theorem rvK_step {xs : List UInt8} {k : Nat} (h : 2 * k + 1 < xs.length) : ((rvK xs k).set k (elt byteF xs (xs.length - 1 - k))).set (xs.length - 1 - k) (elt byteF xs k) = rvK xs (k + 1) := by
  refine List.ext_getElem (by simp [rvK_len]) fun i h1 h2 => ?_
  have hi : i < xs.length := by rwa [rvK_len] at h2
  have e1 := rvK_at (k := k + 1) hi
  rw [elt_get h2] at e1
  rw [e1, List.getElem_set, List.getElem_set]
  have e0 := rvK_at (k := k) hi
  rw [elt_get (by rw [rvK_len]; exact hi)] at e0
  by_cases c1 : xs.length - 1 - k = i
  · rw [if_pos c1, if_pos (by omega)]
    congr 1
    omega
  · rw [if_neg c1]
    by_cases c2 : k = i
    · rw [if_pos c2, if_pos (by omega), c2]
    · rw [if_neg c2, e0]
      by_cases c3 : i < k ∨ xs.length ≤ i + k
      · rw [if_pos c3, if_pos (by omega)]
      · rw [if_neg c3, if_neg (by omega)]

end Go.Proofs.YtlahobdopmdfmaaGreatDoor

/- Bld -/
namespace Go.Proofs.YtlahobdopmdfmaaGreatDoor
open Go.RowKit

/-- A builder in the box b that holds these bytes; its row lies at L or behind it. -/
def Bld (L : Nat) (w : World) (b : Nat) (xs : List UInt8) : Prop := ∃ p A C, (p = none ∨ p = some ⟨b, 0, none⟩) ∧ Bx w b 94 #[.pointer p, .slice A xs.length C] ∧ GrowF byteF 5 L w A C xs
theorem bld_new {L : Nat} {w : World} {b : Nat} (h : Bx w b 94 #[.pointer none, .slice none 0 0]) : Bld L w b [] := ⟨none, none, 0, .inl rfl, h, growF_nil _ _ _ _⟩
theorem Bld.same {L : Nat} {w w' : World} {b : Nat} {xs : List UInt8} (h : Bld L w b xs) (hs : ∀ (k : Nat) (o : Obj), k = b ∨ L ≤ k → w.heap[k]? = some o → o.isCells = true → w'.heap[k]? = w.heap[k]?) : Bld L w' b xs := by
  obtain ⟨p, A, C, h1, h2, h3⟩ := h
  exact ⟨p, A, C, h1, (hs b _ (.inl rfl) h2 rfl).trans h2, h3.same fun k o hk => hs k o (.inr hk)⟩
theorem Bld.lt {L : Nat} {w : World} {b : Nat} {xs : List UInt8} (h : Bld L w b xs) : b < w.heap.size := by
  obtain ⟨_, _, _, _, h2, _⟩ := h
  exact h2.lt
theorem Bld.below {L : Nat} {w w' : World} {b : Nat} {xs : List UInt8} (h : Bld L w b xs) (hb : Below w.heap.size w w') : Bld L w' b xs := h.same fun k _ _ h1 _ => hb.block k (Array.getElem?_eq_some_iff.1 h1).1
/-- Outside the box b, below L nothing has turned, and nothing that is no row of bytes. -/
structure BTouch (b L : Nat) (w w' : World) : Prop where
  os : w'.os = w.os
  tape : w'.tape = w.tape
  output : w'.output = w.output
  size : w.heap.size ≤ w'.heap.size
  block : ∀ k, k < L → k ≠ b → w'.heap[k]? = w.heap[k]?
  others : ∀ (k : Nat) (o : Obj), k ≠ b → w.heap[k]? = some o → (∀ cur fz, o ≠ .cells cur 5 fz) → w'.heap[k]? = some o
theorem BTouch.refl (b L : Nat) (w : World) : BTouch b L w w := ⟨rfl, rfl, rfl, Nat.le_refl _, fun _ _ _ => rfl, fun _ _ _ h _ => h⟩
theorem BTouch.trans {b L : Nat} {u v w : World} (h : BTouch b L u v) (k : BTouch b L v w) : BTouch b L u w :=
  ⟨k.os.trans h.os, k.tape.trans h.tape, k.output.trans h.output, Nat.le_trans h.size k.size, fun i h1 h2 => (k.block i h1 h2).trans (h.block i h1 h2), fun i o h1 h2 h3 => k.others i o h1 (h.others i o h1 h2 h3) h3⟩
theorem BTouch.setCell {b L : Nat} {u w : World} (h : BTouch b L u w) (o : Nat) (v : Value) : BTouch b L u (w.setCell ⟨b, o, none⟩ v) :=
  ⟨h.os, h.tape, h.output, by simpa using h.size, fun k h1 h2 => (Below.heap_setCell _ _ _ _ h2).trans (h.block k h1 h2), fun k o h1 h2 h3 => (Below.heap_setCell _ _ _ _ h1).trans (h.others k o h1 h2 h3)⟩
theorem BTouch.of_grows {b L : Nat} {w w' : World} (h : Grows 5 L w w') : BTouch b L w w' := ⟨h.1.os, h.1.tape, h.1.output, h.1.size, fun k h1 _ => h.1.block k h1, fun k o _ h2 h3 => h.2 k o h2 h3⟩
theorem BTouch.alloc {b L : Nat} {u w : World} (h : BTouch b L u w) (hL : L ≤ w.heap.size) (o : Obj) : BTouch b L u (w.alloc o) :=
  ⟨h.os, h.tape, h.output, by have := h.size; simp; omega, fun k h1 h2 => (Below.heap_alloc _ _ _ (by omega)).trans (h.block k h1 h2), fun k o' h1 h2 h3 => by
    have h4 := h.others k o' h1 h2 h3
    exact (Below.heap_alloc _ _ _ (Array.getElem?_eq_some_iff.1 h4).1).trans h4⟩
theorem BTouch.below {b L B : Nat} {w w' : World} (h : BTouch b L w w') (h1 : B ≤ L) (h2 : B ≤ b) (_ : B ≤ w.heap.size) : Below B w w' :=
  ⟨h.os, h.tape, h.output, h.size, fun k hk => h.block k (by omega) (by omega)⟩

set_option maxRecDepth 100000 in
set_option maxHeartbeats 2000000 in
theorem copyCheck_fresh (b : Nat) (v : Value) (w : World) (h : Bx w b 94 #[.pointer none, v]) :
    Calls Tryz.prog 103 #[.pointer (some ⟨b, 0, none⟩)] w fun e w' => e = .returned (.tuple #[]) ∧ w' = w.setCell ⟨b, 0, none⟩ (.pointer (some ⟨b, 0, none⟩)) := by
  obtain ⟨j, hj, hjs⟩ := Option.map_eq_some_iff.1 Tryz.Builder_Extra_169.sizeBuilder
  have h0 := h.at_ 0 rfl
  have hfz := h.thaw 0
  have hsh : w.shape? b = some (94, 2) := by
    have hb : w.heap[b]? = some (.cells #[.pointer none, v] 94 (0, 0)) := h
    simp [World.shape?, hb]
  go_enter Tryz.func103, Tryz.ntmps103
  go_wp2
  rw [Lib.run_to_unsafe w ⟨b, 0, none⟩ Tryz.underlying92 Tryz.underlying160 hj (by rw [hjs]; decide) hsh (Nat.zero_lt_succ 1)]
  simp only [Result.andThen]
  rw [Oper.upon_value]
  go_wp2
  rw [run_callFunc_extern Tryz.func127 (by kernel_rfl) (by kernel_rfl) (by kernel_rfl) (e := Extern.AbiNoEscape.same) (by kernel_rfl)]
  rw [Lib.run_noEscape]
  simp only [Result.andThen]
  rw [Oper.upon_value]
  go_wp2
  rw [Lib.run_from_unsafe w ⟨b, 0, none⟩ Tryz.underlying160 Tryz.underlying92 hj hsh Tryz.Builder_Extra_169.liesBuilder]
  simp only [Result.andThen]
  rw [Oper.upon_value]
  go_wp2
  go_end0
  exact ⟨rfl, rfl⟩

set_option maxRecDepth 100000 in
set_option maxHeartbeats 2000000 in
theorem copyCheck_used (b : Nat) (v : Value) (w : World) (h : Bx w b 94 #[.pointer (some ⟨b, 0, none⟩), v]) :
    Calls Tryz.prog 103 #[.pointer (some ⟨b, 0, none⟩)] w fun e w' => e = .returned (.tuple #[]) ∧ w' = w := by
  have h0 := h.at_ 0 rfl
  obtain ⟨j, hj, _⟩ := Option.map_eq_some_iff.1 Tryz.Builder_Extra_169.sizeBuilder
  go_enter Tryz.func103, Tryz.ntmps103
  go_wp2
  rw [Lib.run_neq_ptr_same w _ Tryz.underlying92 hj]
  go_wp2
  go_end0
  exact ⟨rfl, rfl⟩
theorem copyCheck_any {L b : Nat} {xs : List UInt8} {w : World} (h : Bld L w b xs) (hb : b < L) :
    Calls Tryz.prog 103 #[.pointer (some ⟨b, 0, none⟩)] w fun e w' => e = .returned (.tuple #[]) ∧ (∃ A C, Bx w' b 94 #[.pointer (some ⟨b, 0, none⟩), .slice A xs.length C] ∧ GrowF byteF 5 L w' A C xs) ∧ BTouch b L w w' := by
  obtain ⟨p, A, C, hp, bx, gr⟩ := h
  rcases hp with rfl | rfl
  · refine (copyCheck_fresh b _ w bx).mono ?_
    rintro e w' ⟨rfl, rfl⟩
    exact ⟨rfl, ⟨A, C, by simpa using bx.set_ 0 (.pointer (some ⟨b, 0, none⟩)), gr.same fun k o h1 _ _ => Below.heap_setCell _ _ _ _ (by simp; omega)⟩, (BTouch.refl _ _ _).setCell 0 _⟩
  · refine (copyCheck_used b _ w bx).mono ?_
    rintro e w' ⟨rfl, rfl⟩
    exact ⟨rfl, ⟨A, C, bx, gr⟩, BTouch.refl _ _ _⟩

theorem flat_str (s : ByteArray) : flat byteF s.data.toList = Lib.strCells s := by
  rw [flat_byte]; rfl
theorem run_appGrowStr {P : Program} {w : World} (t u e ty : TypeId) (ht : P.underlying t = some (.slice e)) (hu : P.underlying u = some .string) (hinfo : (P.info? e).map (fun i => (i.zero, i.size, i.bytes)) = some (some (.int .u8 0), 1, 1))
    {L : Nat} {A : Option Addr} {C : Nat} {xs : List UInt8} (hg : GrowF byteF e L w A C xs) (hL : L ≤ w.heap.size) (s : ByteArray) (hn : xs.length + s.size ≤ 1000000000) :
    ∃ A' C' w', (Builtin.append_ #[t, u] ty #[.slice A xs.length C, .string s]).run P w = .ok (.slice A' (xs.length + s.size) C') w' ∧ GrowF byteF e L w' A' C' (xs ++ s.data.toList) ∧ Grows e L w w' := by
  obtain ⟨i, hi1, hi2, hi3, hi4⟩ := info_parts hinfo
  obtain ⟨l1, h1, hl1, hh1, hlw, row, hcells⟩ := hg.row hL
  obtain ⟨v', w', hrun, r1, r2, r3⟩ := Lib.run_append_own_string (P := P) (w := w) l1 t u ty e i ht hu hi1 hi2 hi3 hi4 _ xs.length (flat byteF xs) row.row s (by unfold maxLen; omega) (by omega) hlw
  have hform : ∃ A' C', v' = .slice A' (xs.length + s.size) C' := by
    rcases r1.2 with ⟨h0, h0'⟩ | ⟨g, cap, cur, hv, _⟩
    · exact ⟨none, 0, by rw [h0, h0']⟩
    · exact ⟨_, _, hv⟩
  obtain ⟨A', C', rfl⟩ := hform
  have hsz : s.data.toList.length = s.size := by rw [Array.length_toList]; rfl
  have ow : OwnF byteF e w' l1 w'.heap.size (.slice A' (xs.length + s.size) C') (xs ++ s.data.toList) := ownF_row (n := xs.length + s.size) ⟨by rw [flat_append, flat_str]; exact r1, fun k hk => (r1.lt k hk).2⟩ (by simp [hsz]) (by simp [hsz]; omega)
  have hblk : ∀ k, k < w.heap.size → k < l1 ∨ h1 ≤ k → w'.heap[k]? = w.heap[k]? := fun k hk ho => r2.block k hk (by
    intro he
    have := row.lo_le he.symm
    omega)
  refine ⟨A', C', w', hrun, ?_, ⟨r2.os, r2.tape, r2.output, by have := r2.size; omega, fun k hk => hblk k (by omega) (.inl (by omega))⟩, fun k o hk hc => ?_⟩
  · rcases ow.narrowF with ⟨e1, e2, _, e3⟩ | ⟨g', rfl, q1, _, nar'⟩
    · exact .inl ⟨e1, e2, e3⟩
    · refine .inr ⟨g', rfl, by omega, ?_⟩
      rw [List.length_append, hsz]
      exact nar'
  · refine (hblk k (Array.getElem?_eq_some_iff.1 hk).1 ?_).trans hk
    rcases Nat.lt_or_ge k l1 with q | q
    · exact .inl q
    · rcases Nat.lt_or_ge k h1 with q2 | q2
      · obtain ⟨cur, hcur⟩ := hcells k q q2
        rw [hcur] at hk
        injection hk with hk
        exact absurd hk.symm (hc _ _)
      · exact .inr q2
theorem wpList_appGrowStr {P : Program} {ops : Array Oper} {rest : List Oper} {o : Oper} {a : Act} {Q : Exit → Act → World → Prop} {w : World} (hgd : o.guard = none) (x y : Operand) (t u e : TypeId) (ho : o.op = .call { callee := .builtin .append, args := #[x, y], argTypes := #[t, u] })
    (ht : P.underlying t = some (.slice e)) (hu : P.underlying u = some .string) (hinfo : (P.info? e).map (fun i => (i.zero, i.size, i.bytes)) = some (some (.int .u8 0), 1, 1))
    {L : Nat} {A : Option Addr} {C : Nat} {xs : List UInt8} (hx : a.eval x = .slice A xs.length C) (hg : GrowF byteF e L w A C xs) (hL : L ≤ w.heap.size) (s : ByteArray) (hy : a.eval y = .string s) (hn : xs.length + s.size ≤ 1000000000)
    (h : ∀ A' C' w', GrowF byteF e L w' A' C' (xs ++ s.data.toList) → Grows e L w w' → wpList P ops Q rest (a.put o.dst (.slice A' (xs.length + s.size) C')) w') : wpList P ops Q (o :: rest) a w := by
  refine wpList_plain hgd fun K hK => ?_
  obtain ⟨A', C', w', hrun, r1, r2⟩ := run_appGrowStr t u e o.type ht hu hinfo hg hL s hn
  unfold Oper.wp
  simp [execOp, ho, resolve, invoke, builtin, hx, hy, hrun, Result.andThen]
  exact hK _ _ (h A' C' w' r1 r2)

set_option maxRecDepth 100000 in
set_option maxHeartbeats 2000000 in
theorem writeString_any {L b : Nat} {xs : List UInt8} (s : ByteArray) (w : World) (h : Bld L w b xs) (hb : b < L) (hL : L ≤ w.heap.size) (hn : xs.length + s.size ≤ 1000000000) :
    Calls Tryz.prog 63 #[.pointer (some ⟨b, 0, none⟩), .string s] w fun e w' => e = .returned (.tuple #[.int .i64 (s.size : Nat), .nilIface]) ∧ Bld L w' b (xs ++ s.data.toList) ∧ BTouch b L w w' := by
  go_enter Tryz.func63, Tryz.ntmps63
  go_wp2_with fail
  refine (copyCheck_any h hb).mono ?_
  rintro e w1 ⟨rfl, ⟨A, C, bx, gr⟩, ht⟩
  have c1 := bx.at_ 1 rfl
  have hz := ht.size
  have hsz : s.data.toList.length = s.size := by rw [Array.length_toList]; rfl
  go_wp2_with (at_builtin; go_must (refine wpList_appGrowStr rfl (.tmp 12) (.tmp 13) 22 9 5 rfl Tryz.underlying22 Tryz.underlying9 info_byte rfl gr (by omega) s rfl hn ?_); intro A' C' w2 gr2 hg2; have bx2 := bx.lo hg2.1 hb; have c1' := bx2.at_ 1 rfl; have f1' := bx2.thaw 1)
  go_ret2
  refine ⟨rfl, ⟨some ⟨b, 0, none⟩, A', C', .inr rfl, ?_, gr2.same fun k o h1 _ _ => Below.heap_setCell _ _ _ _ (by simp; omega)⟩, (ht.trans (BTouch.of_grows hg2)).setCell 1 _⟩
  rw [List.length_append, hsz]
  simpa using bx2.set_ 1 (.slice A' (xs.length + s.size) C')
theorem grows_alloc {e : TypeId} {L : Nat} {w w' : World} {o : Obj} (hL : L ≤ w.heap.size) (h : Grows e L (w.alloc o) w') : Grows e L w w' :=
  ⟨((Below.refl _ _).alloc hL o).trans h.1, fun k o' h1 h2 => h.2 k o' ((Below.heap_alloc w o k (Array.getElem?_eq_some_iff.1 h1).1).trans h1) h2⟩
theorem own_one (w : World) (c : UInt8) : OwnF byteF 5 (w.alloc (.cells #[.int .u8 (c.toNat : Int)] 5)) w.heap.size (w.heap.size + 1) (.slice (some ⟨w.heap.size, 0, none⟩) 1 1) [c] :=
  ownF_row (n := 1) (row_new 5 1 w #[.int .u8 (c.toNat : Int)] 1 (by simp) (by omega)) rfl (by simp)

set_option maxRecDepth 100000 in
set_option maxHeartbeats 2000000 in
theorem writeByte_any {L b : Nat} {xs : List UInt8} (c : UInt8) (z : Int) (hz : z = (c.toNat : Int)) (w : World) (h : Bld L w b xs) (hb : b < L) (hL : L ≤ w.heap.size) (hn : xs.length + 1 ≤ 1000000000) :
    Calls Tryz.prog 65 #[.pointer (some ⟨b, 0, none⟩), .int .u8 z] w fun e w' => e = .returned .nilIface ∧ Bld L w' b (xs ++ [c]) ∧ BTouch b L w w' := by
  subst hz
  go_enter Tryz.func65, Tryz.ntmps65
  go_wp2_with fail
  refine (copyCheck_any h hb).mono ?_
  rintro e w1 ⟨rfl, ⟨A, C, bx, gr⟩, ht⟩
  have c1 := bx.at_ 1 rfl
  have hz := ht.size
  have gr1 := gr.same (w' := w1.alloc (.cells #[.int .u8 (c.toNat : Int)] 5)) fun k o h1 h2 _ => Below.heap_alloc _ _ _ (Array.getElem?_eq_some_iff.1 h2).1
  go_wp2_with (at_builtin; go_must (refine wpList_appGrow byteF rfl (.tmp 11) (.tmp 13) 22 5 rfl (.int .u8 0) 1 Tryz.underlying22 info_byte rfl (by omega) rfl gr1 (by simp; omega) rfl (own_one w1 c) (by omega) ?_); intro A' C' w2 gr2 hg2; have bx2 := (bx.alloc (.cells #[.int .u8 (c.toNat : Int)] 5)).lo hg2.1 hb; have c1' := bx2.at_ 1 rfl; have f1' := bx2.thaw 1)
  go_ret
  refine ⟨rfl, ⟨some ⟨b, 0, none⟩, A', C', .inr rfl, ?_, gr2.same fun k o h1 _ _ => Below.heap_setCell _ _ _ _ (by simp; omega)⟩, ((ht.alloc (by omega) _).trans (BTouch.of_grows hg2)).setCell 1 _⟩
  rw [List.length_append]
  simpa using bx2.set_ 1 (.slice A' (xs.length + 1) C')

set_option maxRecDepth 100000 in
set_option maxHeartbeats 2000000 in
theorem appendRune_any {L : Nat} {A : Option Addr} {C : Nat} {xs : List UInt8} (c : UInt8) (z : Int) (hz : z = (c.toNat : Int)) (hc : z ≤ 127) (w : World) (gr : GrowF byteF 5 L w A C xs) (hL : L ≤ w.heap.size) (hn : xs.length + 1 ≤ 1000000000) :
    Calls Tryz.prog 106 #[.slice A xs.length C, .int .i32 z] w fun e w' => ∃ A' C', e = .returned (.slice A' (xs.length + 1) C') ∧ GrowF byteF 5 L w' A' C' (xs ++ [c]) ∧ Grows 5 L w w' := by
  subst hz
  have h0 : (0 : Int) ≤ (c.toNat : Int) := by omega
  have hw1 : IntKind.u32.wrap (c.toNat : Int) = (c.toNat : Int) := by rw [IntKind.wrap_u32]; omega
  have hw2 : IntKind.u8.wrap (c.toNat : Int) = (c.toNat : Int) := by rw [IntKind.wrap_u8]; omega
  have gr1 := gr.same (w' := w.alloc (.cells #[.int .u8 (c.toNat : Int)] 5)) fun k o h1 h2 _ => Below.heap_alloc _ _ _ (Array.getElem?_eq_some_iff.1 h2).1
  go_enter Tryz.func106, Tryz.ntmps106
  go_wp2_with (at_builtin; go_must (refine wpList_appGrow byteF rfl (.tmp 8) (.tmp 11) 22 5 rfl (.int .u8 0) 1 Tryz.underlying22 info_byte rfl (by omega) rfl gr1 (by simp; omega) rfl (own_one w c) (by omega) ?_); intro A' C' w2 gr2 hg2)
  go_ret
  exact ⟨A', C', rfl, gr2, grows_alloc hL hg2⟩

set_option maxRecDepth 100000 in
set_option maxHeartbeats 2000000 in
theorem writeRune_any {L b : Nat} {xs : List UInt8} (c : UInt8) (z : Int) (hz : z = (c.toNat : Int)) (hc : z ≤ 127) (w : World) (h : Bld L w b xs) (hb : b < L) (hL : L ≤ w.heap.size) (hn : xs.length + 1 ≤ 1000000000) :
    Calls Tryz.prog 67 #[.pointer (some ⟨b, 0, none⟩), .int .i32 z] w fun e w' => e = .returned (.tuple #[.int .i64 1, .nilIface]) ∧ Bld L w' b (xs ++ [c]) ∧ BTouch b L w w' := by
  subst hz
  go_enter Tryz.func67, Tryz.ntmps67
  go_wp2_with fail
  refine (copyCheck_any h hb).mono ?_
  rintro e w1 ⟨rfl, ⟨A, C, bx, gr⟩, ht⟩
  have c1 := bx.at_ 1 rfl
  have hz1 := ht.size
  go_wp2_with fail
  refine (appendRune_any c _ rfl hc w1 gr (by omega) hn).mono ?_
  rintro e w2 ⟨A', C', rfl, gr2, hg2⟩
  have bx2 := bx.lo hg2.1 hb
  have c1' := bx2.at_ 1 rfl
  have f1' := bx2.thaw 1
  have hw : IntKind.i64.wrap (((xs.length : Nat) : Int) + 1 - (xs.length : Nat)) = 1 := by rw [show ((xs.length : Nat) : Int) + 1 - (xs.length : Nat) = 1 by omega]; exact IntWalk.i64_in 1 (by omega)
  clear c1
  go_wp2
  go_ret2
  refine ⟨?_, ⟨some ⟨b, 0, none⟩, A', C', .inr rfl, ?_, gr2.same fun k o h1 _ _ => Below.heap_setCell _ _ _ _ (by simp; omega)⟩, (ht.trans (BTouch.of_grows hg2)).setCell 1 _⟩
  · congr 3
  · rw [List.length_append]
    simpa using bx2.set_ 1 (.slice A' (xs.length + 1) C')

/-- String(): the bytes. -/
theorem string_any {L b : Nat} {xs : List UInt8} (w : World) (h : Bld L w b xs) (hb : b < L) (hL : L ≤ w.heap.size) :
    Calls Tryz.prog 64 #[.pointer (some ⟨b, 0, none⟩)] w fun e w' => e = .returned (.string ⟨xs.toArray⟩) ∧ Below b w w' ∧ ∀ (k : Nat) (o : Obj), k ≠ b → w.heap[k]? = some o → (∀ cur fz, o ≠ .cells cur 5 fz) → w'.heap[k]? = some o := by
  obtain ⟨p, A, C, hp, bx, gr⟩ := h
  have hrow : w.ownsRow b 5 1 (.slice A xs.length C) xs.length (flat byteF xs) := ((gr.own hL).wide (lo' := b) (by omega) (Nat.le_refl _)).row.row
  have hne : (Value.slice A xs.length C).ownBlock ≠ some b := by
    intro e
    have := (gr.own hL).lo_le e
    omega
  have hat : ∀ q, Bx w b 94 #[q, .slice A xs.length C] → Lib.BuilderAtF 94 5 b b q (Lib.byteCells xs) w := fun q hq => by
    refine ⟨Nat.le_refl _, _, hq, ?_, hne⟩
    have hf : Lib.byteCells xs = flat byteF xs := by rw [flat_byte]; rfl
    rw [hf, show (flat byteF xs).length = xs.length by rw [flat_len]; exact Nat.mul_one _]
    exact World.ownsRowF_of hrow
  have hI : Lib.IsBuilderF 94 5 b b (Lib.byteCells xs) w := by
    rcases hp with rfl | rfl
    · exact .inl (hat _ bx)
    · exact .inr (hat _ bx)
  refine (Tryz.Builder_String_any_k b b xs w hI (by omega)).mono ?_
  rintro e w' ⟨he, _, hb', hk⟩
  exact ⟨he, hb', fun k o h1 h2 h3 => hk k o h2 (fun e => h1 (Option.some.inj e)) h3⟩
end Go.Proofs.YtlahobdopmdfmaaGreatDoor

/- Val -/
namespace Go.Proofs.YtlahobdopmdfmaaGreatDoor

/-- The value of digits, the lowest one first. -/
def valR (b : Int) : List Int → Int
  | [] => 0
  | d :: ds => d + b * valR b ds
/-- The value; 10^12 + 1 where it is greater than 10^12. -/
def capV (b : Int) : List Int → Int
  | [] => 0
  | d :: ds => if 1000000000001 < capV b ds * b + d then 1000000000001 else capV b ds * b + d
def baseB (b : Int) : Bool := decide (2 ≤ b ∧ b ≤ 16)
/-- All digits are digits of the base. -/
def digitsB (b : Int) (zs : List Int) : Bool := decide (∀ d ∈ zs, 0 ≤ d ∧ d < b)
def widthB (n : Nat) : Bool := decide (1 ≤ n ∧ n ≤ 16)
/-- A register is valid. -/
def okB (b : Int) (zs : List Int) : Bool := baseB b && widthB zs.length && digitsB b zs && decide (valR b zs ≤ 1000000000000)

theorem baseB_true {b : Int} (h : baseB b = true) : 2 ≤ b ∧ b ≤ 16 := by simpa [baseB] using h
theorem baseB_false {b : Int} (h : baseB b = false) : b < 2 ∨ (2 ≤ b ∧ 16 < b) := by simp [baseB] at h; omega
theorem digitsB_true {b : Int} {zs : List Int} (h : digitsB b zs = true) : ∀ d ∈ zs, 0 ≤ d ∧ d < b := by simpa [digitsB] using h
theorem digitsB_nth {b : Int} {zs : List Int} (h : digitsB b zs = true) {k : Nat} (hk : k < zs.length) : 0 ≤ nth zs k ∧ nth zs k < b := by
  rw [nth_get hk]; exact digitsB_true h _ (List.getElem_mem hk)
theorem widthB_true {n : Nat} (h : widthB n = true) : 1 ≤ n ∧ n ≤ 16 := by simpa [widthB] using h
theorem widthB_false {n : Nat} (h : widthB n = false) : n < 1 ∨ 16 < n := by simp [widthB] at h; omega

theorem valR_nonneg {b : Int} (hb : 0 ≤ b) : ∀ {zs : List Int}, (∀ d ∈ zs, 0 ≤ d ∧ d < b) → 0 ≤ valR b zs
  | [], _ => by simp [valR]
  | d :: ds, h => by
    have h1 := h d (by simp)
    have h2 := valR_nonneg hb (zs := ds) fun x hx => h x (by simp [hx])
    have := Int.mul_nonneg hb h2
    simp only [valR]; omega
theorem capV_val {b : Int} (hb : 2 ≤ b) : ∀ {zs : List Int}, (∀ d ∈ zs, 0 ≤ d ∧ d < b) → capV b zs = if 1000000000001 < valR b zs then 1000000000001 else valR b zs
  | [], _ => by simp [capV, valR]
  | d :: ds, h => by
    have h1 := h d (by simp)
    have hds : ∀ x ∈ ds, 0 ≤ x ∧ x < b := fun x hx => h x (by simp [hx])
    have h2 := valR_nonneg (by omega : 0 ≤ b) hds
    have ih := capV_val hb (zs := ds) hds
    have e1 : capV b (d :: ds) = if 1000000000001 < capV b ds * b + d then 1000000000001 else capV b ds * b + d := rfl
    have e2 : valR b (d :: ds) = d + b * valR b ds := rfl
    rw [e1, e2, ih]
    by_cases hc : 1000000000001 < valR b ds
    · rw [if_pos hc]
      have h3 : 1000000000001 * 2 ≤ 1000000000001 * b := Int.mul_le_mul_of_nonneg_left hb (by omega)
      have h4 : b * 1000000000001 ≤ b * valR b ds := Int.mul_le_mul_of_nonneg_left (by omega) (by omega)
      rw [Int.mul_comm b 1000000000001] at h4
      rw [if_pos (by omega), if_pos (by omega)]
    · rw [if_neg hc, Int.mul_comm (valR b ds) b]
      rw [show b * valR b ds + d = d + b * valR b ds by omega]
theorem capV_bd {b : Int} (hb : 2 ≤ b) {zs : List Int} (h : ∀ d ∈ zs, 0 ≤ d ∧ d < b) : 0 ≤ capV b zs ∧ capV b zs ≤ 1000000000001 := by
  rw [capV_val hb h]
  have := valR_nonneg (by omega : 0 ≤ b) h
  split <;> omega
theorem capV_le {b : Int} (hb : 2 ≤ b) {zs : List Int} (h : ∀ d ∈ zs, 0 ≤ d ∧ d < b) : decide (capV b zs ≤ 1000000000000) = decide (valR b zs ≤ 1000000000000) := by
  rw [capV_val hb h]
  split
  · rw [decide_eq_false (by omega), decide_eq_false (by omega)]
  · rfl
theorem capV_ok {b : Int} (hb : 2 ≤ b) {zs : List Int} (h : ∀ d ∈ zs, 0 ≤ d ∧ d < b) (hv : valR b zs ≤ 1000000000000) : capV b zs = valR b zs := by
  rw [capV_val hb h, if_neg (by omega)]

theorem drop_nth {zs : List Int} {k : Nat} (h : k < zs.length) : zs.drop k = nth zs k :: zs.drop (k + 1) := by
  rw [List.drop_eq_getElem_cons h, nth_get h]
theorem all_drop {zs : List Int} {p : Int → Prop} (h : ∀ d ∈ zs, p d) (k : Nat) : ∀ d ∈ zs.drop k, p d := fun d hd => h d (List.mem_of_mem_drop hd)
theorem all_take_succ {zs : List Int} {p : Int → Prop} {k : Nat} (hk : k < zs.length) (h : ∀ d ∈ zs.take k, p d) (hn : p (nth zs k)) : ∀ d ∈ zs.take (k + 1), p d := by
  intro d hd
  rw [List.take_succ_eq_append_getElem hk, List.mem_append, List.mem_singleton] at hd
  rcases hd with hd | rfl
  · exact h d hd
  · rw [nth_get hk] at hn; exact hn

theorem okB_spec {b : Int} {zs : List Int} (h : okB b zs = true) : 2 ≤ b ∧ b ≤ 16 ∧ 1 ≤ zs.length ∧ zs.length ≤ 16 ∧ (∀ d ∈ zs, 0 ≤ d ∧ d < b) ∧ valR b zs ≤ 1000000000000 := by
  unfold okB at h
  simp only [Bool.and_eq_true, decide_eq_true_eq] at h
  obtain ⟨⟨⟨h1, h2⟩, h3⟩, h4⟩ := h
  exact ⟨(baseB_true h1).1, (baseB_true h1).2, (widthB_true h2).1, (widthB_true h2).2, digitsB_true h3, h4⟩

/-- What the program's own method gives: the value and true, or 0 and false. -/
def valOr (b : Int) (zs : List Int) : Int := if valR b zs ≤ 1000000000000 then valR b zs else 0
def valOk (b : Int) (zs : List Int) : Bool := decide (valR b zs ≤ 1000000000000)
theorem valOr_le {b : Int} {zs : List Int} (h : valR b zs ≤ 1000000000000) : valOr b zs = valR b zs := if_pos h
theorem valOk_le {b : Int} {zs : List Int} (h : valR b zs ≤ 1000000000000) : valOk b zs = true := decide_eq_true h
theorem valOr_gt {b : Int} {zs : List Int} (h : 1000000000000 < valR b zs) : valOr b zs = 0 := if_neg (by omega)
theorem valOk_gt {b : Int} {zs : List Int} (h : 1000000000000 < valR b zs) : valOk b zs = false := decide_eq_false (by omega)
end Go.Proofs.YtlahobdopmdfmaaGreatDoor

/- Iter -/
namespace Go.Proofs.YtlahobdopmdfmaaGreatDoor
open Go.RowKit Go.Shelf

/-- A number of which p is known, with its index. -/
abbrev Ent (p : Int → Prop) := Nat × { d : Int // p d }
/-- The first k entries from the end of zs on. -/
def bwd {p : Int → Prop} (zs : List Int) (h : ∀ d ∈ zs, p d) : Nat → List (Ent p)
  | 0 => []
  | k + 1 => if hk : k < zs.length then bwd zs h k ++ [(zs.length - 1 - k, ⟨zs[zs.length - 1 - k], h _ (List.getElem_mem _)⟩)] else bwd zs h k
theorem bwd_succ {p : Int → Prop} {zs : List Int} {h : ∀ d ∈ zs, p d} {k : Nat} (hk : k < zs.length) :
    bwd zs h (k + 1) = bwd zs h k ++ [(zs.length - 1 - k, ⟨zs[zs.length - 1 - k], h _ (List.getElem_mem _)⟩)] := by rw [bwd, dif_pos hk]
theorem bwd_step {p : Int → Prop} {zs : List Int} {h : ∀ d ∈ zs, p d} {k j : Nat} (hj : k + (j + 1) = zs.length) (hpj : p (nth zs j)) : bwd zs h (k + 1) = bwd zs h k ++ [(j, ⟨nth zs j, hpj⟩)] := by
  have e : zs.length - 1 - k = j := by omega
  rw [bwd_succ (by omega)]
  congr 2
  have hg : nth zs j = zs[zs.length - 1 - k] := by rw [nth_get (by omega)]; congr 1; exact e.symm
  simp [e, hg]
theorem bwd_len {p : Int → Prop} {zs : List Int} {h : ∀ d ∈ zs, p d} : ∀ {k : Nat}, k ≤ zs.length → (bwd zs h k).length = k
  | 0, _ => rfl
  | k + 1, hk => by rw [bwd_succ (by omega), List.length_append, bwd_len (by omega)]; rfl
/-- Horner's sum of what has come. -/
def hor {p : Int → Prop} (b : Int) (pre : List (Ent p)) : Int := pre.foldl (fun s x => s * b + x.2.1) 0
theorem hor_snoc {p : Int → Prop} (b : Int) (pre : List (Ent p)) (x : Ent p) : hor b (pre ++ [x]) = hor b pre * b + x.2.1 := by simp [hor]
theorem hor_bwd {p : Int → Prop} (b : Int) {zs : List Int} {h : ∀ d ∈ zs, p d} : ∀ {k : Nat}, k ≤ zs.length → hor b (bwd zs h k) = valR b (zs.drop (zs.length - k))
  | 0, _ => by simp [hor, bwd, valR]
  | k + 1, hk => by
    rw [bwd_succ (by omega), hor_snoc, hor_bwd b (by omega)]
    rw [List.drop_eq_getElem_cons (show zs.length - (k + 1) < zs.length by omega)]
    have e1 : zs.length - (k + 1) + 1 = zs.length - k := by omega
    have e2 : valR b (zs[zs.length - (k + 1)] :: zs.drop (zs.length - (k + 1) + 1)) = zs[zs.length - (k + 1)] + b * valR b (zs.drop (zs.length - (k + 1) + 1)) := rfl
    rw [e2, e1, Int.mul_comm]
    have e3 : zs[zs.length - 1 - k] = zs[zs.length - (k + 1)] := by congr 1; omega
    simp only [e3]
    omega
/-- A sum of highest digits is not greater than the value. -/
theorem valR_drop_le {b : Int} (hb : 1 ≤ b) : ∀ (zs : List Int) (k : Nat), (∀ d ∈ zs, 0 ≤ d ∧ d < b) → valR b (zs.drop k) ≤ valR b zs
  | [], k, _ => by simp [valR]
  | d :: ds, 0, _ => by simp
  | d :: ds, k + 1, h => by
    have h1 := h d (by simp)
    have hds : ∀ x ∈ ds, 0 ≤ x ∧ x < b := fun x hx => h x (by simp [hx])
    have ih := valR_drop_le hb ds k hds
    have h2 := valR_nonneg (by omega : 0 ≤ b) hds
    have h3 : 1 * valR b ds ≤ b * valR b ds := Int.mul_le_mul_of_nonneg_right hb h2
    have e : valR b (d :: ds) = d + b * valR b ds := rfl
    rw [List.drop_succ_cons, e]
    omega

/-- What a round must keep: what lay below n₀, and the box of the slice that is ranged over. -/
def KeepB (n₀ Bs : Nat) (W W' : World) : Prop := Below n₀ W W' ∧ W'.heap[Bs]? = W.heap[Bs]?
theorem KeepB.refl (n₀ Bs : Nat) (W : World) : KeepB n₀ Bs W W := ⟨Below.refl _ _, rfl⟩
theorem keepB_t {n₀ Bs : Nat} {A B C : World} (h : KeepB n₀ Bs A B) (k : KeepB n₀ Bs B C) : KeepB n₀ Bs A C := ⟨h.1.trans k.1, k.2.trans h.2⟩
theorem keepB_b {n₀ Bs : Nat} {w : World} (hn : n₀ ≤ w.heap.size) (hB : Bs < w.heap.size) (W : World) (l : Nat) (o o' : Obj) (hl : w.heap.size ≤ l) (h : W.heap[l]? = some o) (_ : o.isCells = false) (_ : o.isWalk = false) : KeepB n₀ Bs W (W.putObj l o') :=
  ⟨belowK_b hn W l o o' hl h ‹_› ‹_›, (grownBy_putObj' W l o').block Bs (by have := (Array.getElem?_eq_some_iff.1 h).1; omega) (by intro e; cases e; omega)⟩
theorem KeepB.cell {n₀ Bs : Nat} {W W' : World} (h : KeepB n₀ Bs W W') {o : Nat} {v : Value} (hc : W.cell? ⟨Bs, o, none⟩ = some v) : W'.cell? ⟨Bs, o, none⟩ = some v := (World.cell?_of_block h.2).trans hc
theorem KeepB.set_ {n₀ Bs : Nat} (W : World) {p : Addr} (h1 : n₀ ≤ p.block) (h2 : p.block ≠ Bs) (u : Value) : KeepB n₀ Bs W (W.setCell p u) :=
  ⟨(Below.refl _ _).setCell h1 _, Below.heap_setCell _ _ _ _ (by omega)⟩
end Go.Proofs.YtlahobdopmdfmaaGreatDoor

/- BackD -/
namespace Go.Proofs.YtlahobdopmdfmaaGreatDoor
open Go.RowKit Go.Shelf

attribute [local go_sem] Oper.semAt_some

set_option maxRecDepth 100000 in
set_option maxHeartbeats 2000000 in
theorem backD1_in {p : Int → Prop} (F : Fence) (n : Nat) (hF : F.fn 105) (hro : F.round = none) (hn : 1 ≤ n) (l Bs n₀ : Nat) (a : Option Addr) (cap : Nat) (zs : List Int) (hp : ∀ d ∈ zs, p d)
    (J Jx : List (Ent p) → World → Prop)
    (hY : ∀ pre x W, J pre W → pre.length < zs.length → YieldAt F (n - 1) Tryz.prog l #[.int .i64 (x.1 : Int), .int .i64 x.2.1] W fun e W' =>
      (e = .returned (.bool true) ∧ J (pre ++ [x]) W' ∧ KeepB n₀ Bs W W') ∨ (e = .returned (.bool false) ∧ Jx (pre ++ [x]) W'))
    (W : World) (hBs : W.cell? ⟨Bs, 0, none⟩ = some (.slice a zs.length cap)) (hR : Rd W a zs) (hRn : zs ≠ [] → ∀ b off, a = some ⟨b, off, none⟩ → b < n₀) (h0 : J [] W) :
    CallsIn F n Tryz.prog 105 #[.func (.yield l) #[] #[], .pointer (some ⟨Bs, 0, none⟩)] W fun e W' => (∃ v, e = .returned v) ∧
      ((∃ ys, ys = bwd zs hp zs.length ∧ J ys W') ∨ (∃ pre, (∃ k, k ≤ zs.length ∧ pre = bwd zs hp k) ∧ Jx pre W')) := by
  have hlen := hR.len
  refine callsIn_of_wp Tryz.func105 rfl hF ?_ hro
  simp only [Tryz.ntmps105, List.size_toArray, List.length_cons, List.length_nil, Nat.reduceAdd, Nat.reduceSub, Array.replicate_succ, Array.replicate_zero, List.push_toArray, List.append_toArray, List.nil_append, List.cons_append]
  gi_wp2
  gi_loopw [3] (fun i wr => ∃ (j k : Nat), k + j = zs.length ∧ i = .int .i64 ((j : Int) - 1) ∧ J (bwd zs hp k) wr ∧ KeepB n₀ Bs W wr) (fun i _ => (intOf i + 1).toNat)
  case atStart => exact ⟨zs.length, 0, by omega, by go_num, h0, KeepB.refl _ _ _⟩
  case round =>
    obtain ⟨j, k, hk, hi, hJs, hnx⟩ := hrel
    subst hi
    have hBr := hnx.cell hBs
    cases j with
    | zero =>
      have hkl : k = zs.length := by omega
      gi_wp2
      go_end0
      exact ⟨⟨_, rfl⟩, .inl ⟨_, rfl, by rw [← hkl]; exact hJs⟩⟩
    | succ j =>
      rw [show ((j + 1 : Nat) : Int) - 1 = (j : Int) from by omega]
      have hjl : j < zs.length := by omega
      obtain ⟨q, off, rfl, hc⟩ := hR.at_ hjl
      have hq : q < n₀ := hRn (by rintro rfl; simp at hjl) q off rfl
      have hcr := (hnx.1.cell (p := ⟨q, off + j, none⟩) hq).trans hc
      have hpj : p (nth zs j) := by rw [nth_get hjl]; exact hp _ (List.getElem_mem _)
      obtain ⟨fn, tmps, assign, body, hy, hYR⟩ := hY _ (j, ⟨nth zs j, hpj⟩) wr hJs (by rw [bwd_len (by omega)]; omega)
      dsimp only at hy
      have HK := Lib.hid hk
      clear hk
      gi_wp2
      refine hYR.mono ?_
      rintro e W3 (⟨rfl, hJ3, hk3⟩ | ⟨rfl, hJx3⟩)
      · gi_wp2
        go_roundw
        case rel => exact ⟨j, k + 1, by have := HK.out; omega, by go_num, by rw [bwd_step HK.out hpj]; exact hJ3, keepB_t hnx hk3⟩
        case measure => (simp [intOf]) <;> omega
      · gi_wp2
        refine bodyPost_ret (results_none rfl _ _ _) rfl ?_
        exact ⟨⟨_, rfl⟩, .inr ⟨_, ⟨k + 1, by have := HK.out; omega, (bwd_step HK.out hpj).symm⟩, hJx3⟩⟩

set_option maxHeartbeats 1000000 in
theorem backD_in (F : Fence) (n : Nat) (hF : F.fn 66) (hro : F.round = none) (a : Option Addr) (len cap : Nat) (w : World) :
    CallsIn F n Tryz.prog 66 #[.slice a len cap] w fun e w' => e = .returned (.func (.func 105) #[] #[.pointer (some ⟨w.heap.size, 0, none⟩)]) ∧ w' = w.alloc (.cells #[.slice a len cap] 24) := by
  refine callsIn_of_wp Tryz.func66 rfl hF ?_ hro
  simp only [Tryz.ntmps66, List.size_toArray, List.length_cons, List.length_nil, Nat.reduceAdd, Nat.reduceSub, Array.replicate_succ, Array.replicate_zero, List.push_toArray, List.append_toArray, List.nil_append, List.cons_append]
  gi_wp2
  go_ret
  exact ⟨rfl, rfl⟩

theorem backD_stops {p : Int → Prop} (F : Fence) (n : Nat) (hF : F.fn 105) (hro : F.round = none) (hn : 1 ≤ n) (Bs n₀ : Nat) (a : Option Addr) (cap : Nat) (zs : List Int) (hp : ∀ d ∈ zs, p d) (w : World) (hBs : Bs < w.heap.size)
    (hc : w.cell? ⟨Bs, 0, none⟩ = some (.slice a zs.length cap)) (hR : Rd w a zs) (hRn : zs ≠ [] → ∀ b off, a = some ⟨b, off, none⟩ → b < n₀) :
    SeqStopsK F n Tryz.prog 105 #[.pointer (some ⟨Bs, 0, none⟩)] (fun x : Ent p => #[Value.int .i64 (x.1 : Int), Value.int .i64 x.2.1]) (KeepB n₀ Bs) (fun ys => ys = bwd zs hp zs.length)
      (fun pre => ∃ k, k ≤ zs.length ∧ pre = bwd zs hp k) zs.length w := fun l J Jx W hW _ _ hY h0 =>
  backD1_in F n hF hro hn l Bs n₀ a cap zs hp J Jx hY W ((hW.cell (p := ⟨Bs, 0, none⟩) hBs).trans hc) (hR.below hW) hRn h0
end Go.Proofs.YtlahobdopmdfmaaGreatDoor

/- Back -/
namespace Go.Proofs.YtlahobdopmdfmaaGreatDoor
open Go.RowKit Go.Shelf

attribute [local go_sem] Oper.semAt_some

set_option maxRecDepth 100000 in
set_option maxHeartbeats 2000000 in
theorem back1_in {p : Int → Prop} (F : Fence) (n : Nat) (hF : F.fn 144) (hro : F.round = none) (hn : 1 ≤ n) (l Bs n₀ : Nat) (a : Option Addr) (cap : Nat) (zs : List Int) (hp : ∀ d ∈ zs, p d)
    (J Jx : List (Ent p) → World → Prop)
    (hY : ∀ pre x W, J pre W → pre.length < zs.length → YieldAt F (n - 1) Tryz.prog l #[.int .i64 (x.1 : Int), .int .i64 x.2.1] W fun e W' =>
      (e = .returned (.bool true) ∧ J (pre ++ [x]) W' ∧ KeepB n₀ Bs W W') ∨ (e = .returned (.bool false) ∧ Jx (pre ++ [x]) W'))
    (W : World) (hBs : W.cell? ⟨Bs, 0, none⟩ = some (.slice a zs.length cap)) (hR : Rd W a zs) (hRn : zs ≠ [] → ∀ b off, a = some ⟨b, off, none⟩ → b < n₀) (h0 : J [] W) :
    CallsIn F n Tryz.prog 144 #[.func (.yield l) #[] #[], .pointer (some ⟨Bs, 0, none⟩)] W fun e W' => (∃ v, e = .returned v) ∧
      ((∃ ys, ys = bwd zs hp zs.length ∧ J ys W') ∨ (∃ pre, (∃ k, k ≤ zs.length ∧ pre = bwd zs hp k) ∧ Jx pre W')) := by
  have hlen := hR.len
  refine callsIn_of_wp Tryz.func144 rfl hF ?_ hro
  simp only [Tryz.ntmps144, List.size_toArray, List.length_cons, List.length_nil, Nat.reduceAdd, Nat.reduceSub, Array.replicate_succ, Array.replicate_zero, List.push_toArray, List.append_toArray, List.nil_append, List.cons_append]
  gi_wp2
  gi_loopw [3] (fun i wr => ∃ (j k : Nat), k + j = zs.length ∧ i = .int .i64 ((j : Int) - 1) ∧ J (bwd zs hp k) wr ∧ KeepB n₀ Bs W wr) (fun i _ => (intOf i + 1).toNat)
  case atStart => exact ⟨zs.length, 0, by omega, by go_num, h0, KeepB.refl _ _ _⟩
  case round =>
    obtain ⟨j, k, hk, hi, hJs, hnx⟩ := hrel
    subst hi
    have hBr := hnx.cell hBs
    cases j with
    | zero =>
      have hkl : k = zs.length := by omega
      gi_wp2
      go_end0
      exact ⟨⟨_, rfl⟩, .inl ⟨_, rfl, by rw [← hkl]; exact hJs⟩⟩
    | succ j =>
      rw [show ((j + 1 : Nat) : Int) - 1 = (j : Int) from by omega]
      have hjl : j < zs.length := by omega
      obtain ⟨q, off, rfl, hc⟩ := hR.at_ hjl
      have hq : q < n₀ := hRn (by rintro rfl; simp at hjl) q off rfl
      have hcr := (hnx.1.cell (p := ⟨q, off + j, none⟩) hq).trans hc
      have hpj : p (nth zs j) := by rw [nth_get hjl]; exact hp _ (List.getElem_mem _)
      obtain ⟨fn, tmps, assign, body, hy, hYR⟩ := hY _ (j, ⟨nth zs j, hpj⟩) wr hJs (by rw [bwd_len (by omega)]; omega)
      dsimp only at hy
      have HK := Lib.hid hk
      clear hk
      gi_wp2
      refine hYR.mono ?_
      rintro e W3 (⟨rfl, hJ3, hk3⟩ | ⟨rfl, hJx3⟩)
      · gi_wp2
        go_roundw
        case rel => exact ⟨j, k + 1, by have := HK.out; omega, by go_num, by rw [bwd_step HK.out hpj]; exact hJ3, keepB_t hnx hk3⟩
        case measure => (simp [intOf]) <;> omega
      · gi_wp2
        refine bodyPost_ret (results_none rfl _ _ _) rfl ?_
        exact ⟨⟨_, rfl⟩, .inr ⟨_, ⟨k + 1, by have := HK.out; omega, (bwd_step HK.out hpj).symm⟩, hJx3⟩⟩

set_option maxHeartbeats 1000000 in
theorem backward_in (F : Fence) (n : Nat) (hF : F.fn 123) (hro : F.round = none) (a : Option Addr) (len cap : Nat) (w : World) :
    CallsIn F n Tryz.prog 123 #[.slice a len cap] w fun e w' => e = .returned (.func (.func 144) #[] #[.pointer (some ⟨w.heap.size, 0, none⟩)]) ∧ w' = w.alloc (.cells #[.slice a len cap] 122) := by
  refine callsIn_of_wp Tryz.func123 rfl hF ?_ hro
  simp only [Tryz.ntmps123, List.size_toArray, List.length_cons, List.length_nil, Nat.reduceAdd, Nat.reduceSub, Array.replicate_succ, Array.replicate_zero, List.push_toArray, List.append_toArray, List.nil_append, List.cons_append]
  gi_wp2
  go_ret
  exact ⟨rfl, rfl⟩

theorem backward_stops {p : Int → Prop} (F : Fence) (n : Nat) (hF : F.fn 144) (hro : F.round = none) (hn : 1 ≤ n) (Bs n₀ : Nat) (a : Option Addr) (cap : Nat) (zs : List Int) (hp : ∀ d ∈ zs, p d) (w : World) (hBs : Bs < w.heap.size)
    (hc : w.cell? ⟨Bs, 0, none⟩ = some (.slice a zs.length cap)) (hR : Rd w a zs) (hRn : zs ≠ [] → ∀ b off, a = some ⟨b, off, none⟩ → b < n₀) :
    SeqStopsK F n Tryz.prog 144 #[.pointer (some ⟨Bs, 0, none⟩)] (fun x : Ent p => #[Value.int .i64 (x.1 : Int), Value.int .i64 x.2.1]) (KeepB n₀ Bs) (fun ys => ys = bwd zs hp zs.length)
      (fun pre => ∃ k, k ≤ zs.length ∧ pre = bwd zs hp k) zs.length w := fun l J Jx W hW _ _ hY h0 =>
  back1_in F n hF hro hn l Bs n₀ a cap zs hp J Jx hY W ((hW.cell (p := ⟨Bs, 0, none⟩) hBs).trans hc) (hR.below hW) hRn h0
end Go.Proofs.YtlahobdopmdfmaaGreatDoor

/- Value -/
namespace Go.Proofs.YtlahobdopmdfmaaGreatDoor
open Go.RowKit Go.Shelf

attribute [local go_sem] Oper.semAt_some

/-- A digit of a base up to 16. -/
def isDig (b d : Int) : Prop := 0 ≤ d ∧ d < b

set_option maxRecDepth 100000 in
set_option maxHeartbeats 2000000 in
theorem value_in (F : Fence) (n : Nat) (hf : F.fn 101) (hf1 : F.fn 123) (hf2 : F.fn 144) (hro : F.round = none) (hn : 3 ≤ n)
    (b : Int) (a : Option Addr) (cap : Nat) (zs : List Int) (w : World) (hb1 : 2 ≤ b) (hb2 : b ≤ 16) (hd : ∀ d ∈ zs, isDig b d) (hR : Rd w a zs) :
    CallsIn F n Tryz.prog 101 #[.slice a zs.length cap, .int .i64 b] w fun e W' =>
      e = .returned (.tuple #[.int .i64 (valOr b zs), .bool (valOk b zs)]) ∧ Below w.heap.size w W' := by
  have h1 : 1 ≤ n := by omega
  refine callsIn_of_wp_marks Tryz.func101 rfl hf ?_ hro
  simp only [Tryz.ntmps101, List.size_toArray, List.length_cons, List.length_nil, Nat.reduceAdd, Nat.reduceSub, Array.replicate_succ, Array.replicate_zero, List.push_toArray, List.append_toArray, List.nil_append, List.cons_append]
  gi_wp2_with (gi_at_call 123; refine (backward_in F (n - 1) hf1 hro _ _ _ _).mono ?_; rintro e w' ⟨rfl, rfl⟩)
  obtain ⟨W0, hW0⟩ : ∃ W0, W0 = ((((w.alloc (.cells #[.int .i64 b] 2)).alloc (.cells #[.int .i64 0] 2)).alloc (.cells #[.bool false] 4)).alloc (.cells #[.int .i64 0] 2)).alloc (.cells #[.slice a zs.length cap] 122) := ⟨_, rfl⟩
  rw [← hW0]
  have bx0 : Bx W0 w.heap.size 2 #[.int .i64 b] := by rw [hW0]; exact ((((Bx.new _ _ _).alloc _).alloc _).alloc _).alloc _
  have bx1 : Bx W0 (w.heap.size + 1) 2 #[.int .i64 0] := by rw [hW0]; exact ((by simpa using Bx.new (w.alloc (.cells #[.int .i64 b] 2)) #[.int .i64 0] 2 : Bx _ (w.heap.size + 1) _ _).alloc _).alloc _ |>.alloc _
  have bx2 : Bx W0 (w.heap.size + 1 + 1) 4 #[.bool false] := by rw [hW0]; exact ((by simpa using Bx.new ((w.alloc (.cells #[.int .i64 b] 2)).alloc (.cells #[.int .i64 0] 2)) #[.bool false] 4 : Bx _ (w.heap.size + 1 + 1) _ _).alloc _).alloc _
  have bx3 : Bx W0 (w.heap.size + 1 + 1 + 1) 2 #[.int .i64 0] := by rw [hW0]; exact (by simpa using Bx.new (((w.alloc (.cells #[.int .i64 b] 2)).alloc (.cells #[.int .i64 0] 2)).alloc (.cells #[.bool false] 4)) #[.int .i64 0] 2 : Bx _ (w.heap.size + 1 + 1 + 1) _ _).alloc _
  have bx4 : Bx W0 (w.heap.size + 1 + 1 + 1 + 1) 122 #[.slice a zs.length cap] := by rw [hW0]; simpa using Bx.new ((((w.alloc (.cells #[.int .i64 b] 2)).alloc (.cells #[.int .i64 0] 2)).alloc (.cells #[.bool false] 4)).alloc (.cells #[.int .i64 0] 2)) #[.slice a zs.length cap] 122
  have hB0 : Below w.heap.size w W0 := by rw [hW0]; exact (by repeat (first | exact Below.refl _ _ | refine Below.setCell ?_ (by first | omega | (simp <;> omega)) _ | refine Below.alloc ?_ (by first | omega | (simp <;> omega)) _ | refine Below.drew ?_))
  have hsz : W0.heap.size = w.heap.size + 5 := by rw [hW0]; simp
  clear hW0
  refine wpIn_rangeFunc_ownF hro h1 (gf := 144) (lb := #[.pointer (some ⟨w.heap.size + 1 + 1 + 1 + 1, 0, none⟩)]) rfl hf2 (enters_of Tryz.func144 (by kernel_rfl) rfl)
    (backward_stops F (n - 1) hf2 hro (by omega) (w.heap.size + 1 + 1 + 1 + 1) w.heap.size a cap zs hd W0 (by omega) (bx4.at_ 0 rfl) (hR.below hB0) (fun hne b' off ha => by
      obtain ⟨b'', off', e, hc⟩ := hR.cells hne
      rw [ha] at e
      cases e
      exact World.block_lt_of_cell? _ _ (hc 0 (List.length_pos_iff.2 hne)))) keepB_t (keepB_b (by omega) (by omega)) (Below.refl _ _) (fun _ => rfl)
    (fun pre W => ((0 ≤ hor b pre ∧ hor b pre ≤ 1000000000000) ∧ W.cell? ⟨w.heap.size, 0, none⟩ = some (.int .i64 b) ∧ W.cell? ⟨w.heap.size + 1, 0, none⟩ = some (.int .i64 0) ∧ W.frozen? ⟨w.heap.size + 1, 0, none⟩ = false ∧ W.cell? ⟨w.heap.size + 1 + 1, 0, none⟩ = some (.bool false) ∧ W.frozen? ⟨w.heap.size + 1 + 1, 0, none⟩ = false ∧
        W.cell? ⟨w.heap.size + 1 + 1 + 1, 0, none⟩ = some (.int .i64 (hor b pre)) ∧ W.frozen? ⟨w.heap.size + 1 + 1 + 1, 0, none⟩ = false) ∧ Below w.heap.size w W)
    (fun c pre W => (c = .ret ∧ 1000000000000 < hor b pre ∧ W.cell? ⟨w.heap.size + 1, 0, none⟩ = some (.int .i64 0) ∧ W.cell? ⟨w.heap.size + 1 + 1, 0, none⟩ = some (.bool false)) ∧ Below w.heap.size w W)
    (OwnFrom.and (Own.from (fun s A B row hs hg hr => ⟨hs.1, cell_kept hs.2.1 hg hr, cell_kept hs.2.2.1 hg hr, (frozen_kept hs.2.2.1 hg hr).trans hs.2.2.2.1, cell_kept hs.2.2.2.2.1 hg hr, (frozen_kept hs.2.2.2.2.1 hg hr).trans hs.2.2.2.2.2.1, cell_kept hs.2.2.2.2.2.2.1 hg hr, (frozen_kept hs.2.2.2.2.2.2.1 hg hr).trans hs.2.2.2.2.2.2.2⟩) _) (ownFrom_below (Nat.le_refl _) (by omega)))
    (fun c => OwnFrom.and (Own.from (fun s A B row hs hg hr => ⟨hs.1, hs.2.1, cell_kept hs.2.2.1 hg hr, cell_kept hs.2.2.2 hg hr⟩) _) (ownFrom_below (Nat.le_refl _) (by omega)))
    ⟨⟨⟨by simp [hor], by simp [hor]⟩, bx0.at_ 0 rfl, bx1.at_ 0 rfl, bx1.thaw 0, bx2.at_ 0 rfl, bx2.thaw 0, by simpa [hor] using bx3.at_ 0 rfl, bx3.thaw 0⟩, hB0⟩
    (fun x => { tmps := #[.slice a zs.length cap, .int .i64 b, undef, .pointer (some ⟨w.heap.size, 0, none⟩), .pointer (some ⟨w.heap.size + 1, 0, none⟩), .pointer (some ⟨w.heap.size + 1 + 1, 0, none⟩), .pointer (some ⟨w.heap.size + 1 + 1 + 1, 0, none⟩), undef, .int .i64 x.2.1, .slice a zs.length cap,
        .func (.func 144) #[] #[.pointer (some ⟨w.heap.size + 1 + 1 + 1 + 1, 0, none⟩)], .int .i64 (x.1 : Int), .int .i64 x.2.1, undef, undef, undef, undef, undef, undef, undef, undef], defers := [] }) ?assign ?body ?done ?stop
  case assign =>
    intro l x W K hK
    gi_wp2
    exact hK
  case body =>
    rintro l pre x W ⟨⟨⟨hl1, hl2⟩, c0, c1, f1, c2, f2, c3, f3⟩, hB⟩ _
    obtain ⟨x1, x2, hx1, hx2⟩ := x
    have hm1 : 0 ≤ hor b pre * b := Int.mul_nonneg hl1 (by omega)
    have hm2 : hor b pre * b ≤ 1000000000000 * 16 := Int.mul_le_mul hl2 hb2 (by omega) (by omega)
    by_cases hc : hor b pre * b + x2 ≤ 1000000000000
    · gi_wp2
      exact ⟨KeepsOthers.setCell _ _ _, KeepB.set_ W (by simp <;> omega) (by simp) _, ⟨by rw [hor_snoc]; exact ⟨by simp <;> omega, hc⟩, cell_far c0 (by simp <;> omega) _, cell_far c1 (by simp <;> omega) _, thaw_set f1 _ _, cell_far c2 (by simp) _, thaw_set f2 _ _,
        by rw [hor_snoc]; exact cell_put c3 _, thaw_set f3 _ _⟩, hB.setCell (by simp <;> omega) _⟩
    · gi_wp2
      refine ⟨((KeepsOthers.setCell _ _ _).trans (KeepsOthers.setCell _ _ _)).trans (KeepsOthers.setCell _ _ _), ⟨rfl, by rw [hor_snoc]; show 1000000000000 < hor b pre * b + x2; omega, ?_, ?_⟩, (by repeat (first | exact hB | refine Below.setCell ?_ (by first | omega | (simp <;> omega)) _ | refine Below.alloc ?_ (by first | omega | (simp <;> omega)) _ | refine Below.drew ?_))⟩
      · exact cell_far (cell_put (cell_far c1 (by simp <;> omega) _) _) (by simp) _
      · exact cell_put (cell_far (cell_far c2 (by simp) _) (by simp) _) _
  case done =>
    rintro D ys W hD rfl ⟨⟨⟨hl1, hl2⟩, c0, c1, f1, c2, f2, c3, f3⟩, hB⟩ hK
    rw [hor_bwd b (Nat.le_refl _), Nat.sub_self, List.drop_zero] at hl1 hl2 c3
    have HO := Lib.hid (valOr_le hl2)
    have HK := Lib.hid (valOk_le hl2)
    gi_wp2
    have hK' := (((KeepsOthers.setCell W ⟨w.heap.size + 1, 0, none⟩ (.int .i64 (valR b zs))).trans (KeepsOthers.setCell _ ⟨w.heap.size + 1 + 1, 0, none⟩ (.bool true)))).same D _ hK rfl
    refine ⟨by simp, .inl ⟨_, _, rfl, run_takeDeferred hK', ?_⟩⟩
    have r1 := cell_kept (cell_far (cell_put c1 (.int .i64 (valR b zs))) (p := ⟨w.heap.size + 1 + 1, 0, none⟩) (by simp) (.bool true)) (grownBy_putObj' _ D (.deferred none)) (fun r e => by cases e; exact ⟨_, hK', rfl⟩)
    have r2 := cell_kept (cell_put (cell_far c2 (p := ⟨w.heap.size + 1, 0, none⟩) (by simp) (.int .i64 (valR b zs))) (.bool true)) (grownBy_putObj' _ D (.deferred none)) (fun r e => by cases e; exact ⟨_, hK', rfl⟩)
    refine ⟨.tuple #[.int .i64 (valR b zs), .bool true], ?_, by rw [HO.out, HK.out], ((hB.setCell (p := ⟨w.heap.size + 1, 0, none⟩) (by simp) _).setCell (p := ⟨w.heap.size + 1 + 1, 0, none⟩) (by simp <;> omega) _).trans (belowK_b (w := w) (Nat.le_refl _) _ D _ _ (by omega) hK' rfl rfl)⟩
    simp [results, Tryz.f101, go_sem, r1, r2]
  case stop =>
    rintro D c pre W hD ⟨k, hk, rfl⟩ ⟨⟨rfl, hlt, c1, c2⟩, hB⟩ hK
    rw [hor_bwd b hk] at hlt
    have hgt := Int.lt_of_lt_of_le hlt (valR_drop_le (by omega : 1 ≤ b) zs (zs.length - k) hd)
    have HO := Lib.hid (valOr_gt hgt)
    have HK := Lib.hid (valOk_gt hgt)
    gi_wp2
    refine ⟨by simp, .inl ⟨_, _, rfl, run_takeDeferred hK, ?_⟩⟩
    have r1 := cell_kept c1 (grownBy_putObj' _ D (.deferred none)) (fun r e => by cases e; exact ⟨_, hK, rfl⟩)
    have r2 := cell_kept c2 (grownBy_putObj' _ D (.deferred none)) (fun r e => by cases e; exact ⟨_, hK, rfl⟩)
    refine ⟨.tuple #[.int .i64 0, .bool false], ?_, by rw [HO.out, HK.out], hB.trans (belowK_b (w := w) (Nat.le_refl _) W D _ _ (by omega) hK rfl rfl)⟩
    simp [results, Tryz.f101, go_sem, r1, r2]

theorem value_any (b : Int) (a : Option Addr) (cap : Nat) (zs : List Int) (w : World) (hb1 : 2 ≤ b) (hb2 : b ≤ 16) (hd : ∀ d ∈ zs, 0 ≤ d ∧ d < b) (hR : Rd w a zs) :
    Calls Tryz.prog 101 #[.slice a zs.length cap, .int .i64 b] w fun e W' =>
      e = .returned (.tuple #[.int .i64 (valOr b zs), .bool (valOk b zs)]) ∧ Below w.heap.size w W' :=
  callsIn_wide.1 (value_in Fence.wide 3 trivial trivial trivial rfl (Nat.le_refl _) b a cap zs w hb1 hb2 hd hR)
end Go.Proofs.YtlahobdopmdfmaaGreatDoor

/- OkS -/
namespace Go.Proofs.YtlahobdopmdfmaaGreatDoor
open Go.RowKit

set_option maxHeartbeats 400000 in
theorem l02Base_any (b : Int) (w : World) : Calls Tryz.prog 108 #[.int .i64 b] w fun e w' => e = .returned (.bool (baseB b)) ∧ w' = w := by
  cases hb : baseB b with
  | true =>
    obtain ⟨h1, h2⟩ := baseB_true hb
    have HB := Lib.hid hb
    clear hb
    go_enter Tryz.func108, Tryz.ntmps108
    go_wp2
    go_ret
    exact ⟨ret_bool (by simp []), rfl⟩
  | false =>
    have HB := Lib.hid hb
    rcases baseB_false hb with h1 | ⟨h1, h2⟩
    all_goals
      clear hb
      go_enter Tryz.func108, Tryz.ntmps108
      go_wp2
      go_ret
      exact ⟨ret_bool (by simp <;> omega), rfl⟩

set_option maxHeartbeats 400000 in
theorem l02Digits_any (b : Int) (a : Option Addr) (c : Nat) (zs : List Int) (w : World) (ha : Rd w a zs) (hb1 : 2 ≤ b) (hb2 : b ≤ 16) :
    Calls Tryz.prog 109 #[.int .i64 b, .slice a zs.length c] w fun e w' => e = .returned (.bool (digitsB b zs && widthB zs.length)) ∧ w' = w := by
  have hx := ha.len
  go_enter Tryz.func109, Tryz.ntmps109
  go_wp2
  go_loop [5] (fun i => ∃ k : Nat, k ≤ zs.length ∧ i = .int .i64 k ∧ Hid (∀ d ∈ zs.take k, 0 ≤ d ∧ d < b)) (fun i => zs.length - (intOf i).toNat)
  case atStart => exact ⟨0, Nat.zero_le _, rfl, Lib.hid (by simp)⟩
  case round =>
    obtain ⟨k, hk, rfl, HT⟩ := hrel
    by_cases hlt : k < zs.length
    · obtain ⟨p, off, rfl, hc⟩ := ha.at_ hlt
      by_cases hd : 0 ≤ nth zs k ∧ nth zs k < b
      · obtain ⟨hd1, hd2⟩ := hd
        have hd3 : decide (nth zs k ≤ b - 1) = true := decide_eq_true (by omega)
        go_wp2
        go_round
        case rel => exact ⟨k + 1, by omega, by go_num, Lib.hid (all_take_succ (p := fun d => 0 ≤ d ∧ d < b) hlt HT.out ⟨hd1, hd2⟩)⟩
        case measure => (simp [intOf]) <;> omega
      · have hf : digitsB b zs = false := by
          cases h : digitsB b zs with
          | false => rfl
          | true => exact absurd (digitsB_nth h hlt) hd
        have HF := Lib.hid hf
        have hd' : nth zs k < 0 ∨ (0 ≤ nth zs k ∧ b - 1 < nth zs k) := by omega
        clear hf hd
        rcases hd' with h1 | ⟨h1, h2⟩
        all_goals
          try have hd3 : decide (nth zs k ≤ b - 1) = false := decide_eq_false (by omega)
          go_wp2
          go_ret
          exact ⟨ret_bool (by rw [HF.out]; rfl), rfl⟩
    · obtain rfl : k = zs.length := by omega
      have ht : digitsB b zs = true := by
        rw [digitsB, decide_eq_true_eq]
        have := HT.out
        rwa [List.take_of_length_le (Nat.le_refl _)] at this
      have HD := Lib.hid ht
      clear ht
      cases hw : widthB zs.length with
      | true =>
        obtain ⟨h1, h2⟩ := widthB_true hw
        have HW := Lib.hid hw
        clear hw
        go_wp2
        go_ret
        exact ⟨ret_bool (by rw [HD.out, HW.out]; simp <;> omega), rfl⟩
      | false =>
        have HW := Lib.hid hw
        rcases widthB_false hw with h1 | h1
        all_goals
          clear hw
          go_wp2
          go_ret
          exact ⟨ret_bool (by rw [HD.out, HW.out]; simp <;> omega), rfl⟩

set_option maxHeartbeats 400000 in
theorem l02Value_any (b : Int) (a : Option Addr) (c : Nat) (zs : List Int) (w : World) (ha : Rd w a zs) (hb1 : 2 ≤ b) (hb2 : b ≤ 16) (hd : ∀ d ∈ zs, 0 ≤ d ∧ d < b) :
    Calls Tryz.prog 110 #[.int .i64 b, .slice a zs.length c] w fun e w' => e = .returned (.int .i64 (capV b zs)) ∧ w' = w := by
  have hx := ha.len
  have HD := Lib.hid hd
  clear hd
  go_enter Tryz.func110, Tryz.ntmps110
  go_wp2
  go_loop [5, 6] (fun s i => ∃ k : Nat, k ≤ zs.length ∧ i = .int .i64 ((k : Int) - 1) ∧ s = .int .i64 (capV b (zs.drop k))) (fun _ i => (intOf i + 1).toNat)
  case atStart => exact ⟨zs.length, Nat.le_refl _, by go_num, by simp [capV]⟩
  case round =>
    obtain ⟨k, hk, hi, rfl⟩ := hrel
    cases k with
    | zero =>
      subst hi
      go_wp2
      go_ret
      exact ⟨rfl, rfl⟩
    | succ k =>
      subst hi
      rw [show ((k + 1 : Nat) : Int) - 1 = (k : Int) from by omega]
      obtain ⟨p, off, rfl, hc⟩ := ha.at_ (k := k) (by omega)
      have hcb := capV_bd hb1 (all_drop HD.out (k + 1))
      have hdn := HD.out (nth zs k) (by rw [nth_get (by omega)]; exact List.getElem_mem _)
      have hstep : capV b (zs.drop k) = if 1000000000001 < capV b (zs.drop (k + 1)) * b + nth zs k then 1000000000001 else capV b (zs.drop (k + 1)) * b + nth zs k := by rw [drop_nth (by omega)]; rfl
      have hm1 : 0 ≤ capV b (zs.drop (k + 1)) * b := Int.mul_nonneg hcb.1 (by omega)
      have hm2 : capV b (zs.drop (k + 1)) * b ≤ 1000000000001 * 16 := Int.mul_le_mul hcb.2 hb2 (by omega) (by omega)
      by_cases hc1 : 1000000000001 < capV b (zs.drop (k + 1)) * b + nth zs k
      · rw [if_pos hc1] at hstep
        have HS := Lib.hid hstep
        clear hstep
        go_wp2
        go_round
        case rel => exact ⟨k, by omega, by go_num, by rw [HS.out]; rfl⟩
        case measure => (simp [intOf]) <;> omega
      · rw [if_neg hc1] at hstep
        have HS := Lib.hid hstep
        clear hstep
        go_wp2
        go_round
        case rel => exact ⟨k, by omega, by go_num, by rw [HS.out]; rfl⟩
        case measure => (simp [intOf]) <;> omega

set_option maxHeartbeats 1000000 in
theorem l02Ok_any (p : Nat) (b : Int) (a : Option Addr) (c : Nat) (zs : List Int) (w : World) (ha : Rd w a zs) (hp0 : w.cell? ⟨p, 0, none⟩ = some (.int .i64 b)) (hp1 : w.cell? ⟨p, 1, none⟩ = some (.slice a zs.length c)) :
    Calls Tryz.prog 70 #[.pointer (some ⟨p, 0, none⟩)] w fun e w' => e = .returned (.bool (okB b zs)) ∧ ∃ n, w' = w.drewN n := by
  cases hb : baseB b with
  | false =>
    have HO := Lib.hid (show okB b zs = false by simp [okB, hb])
    have HB := Lib.hid (show ∀ n, Calls Tryz.prog 108 #[.int .i64 b] (w.drewN n) fun e w' => e = .returned (.bool false) ∧ w' = w.drewN n from fun n => by rw [← hb]; exact l02Base_any b _)
    clear hb
    go_enter Tryz.func70, Tryz.ntmps70
    go_wp2
    go_quiet ((go_at_call 108; exact Calls.quiet_of_same (HB.out _)))
    go_wp2
    go_ret
    exact ⟨ret_bool (by rw [HO.out]), _, rfl⟩
  | true =>
    obtain ⟨hb1, hb2⟩ := baseB_true hb
    have HB := Lib.hid (show ∀ n, Calls Tryz.prog 108 #[.int .i64 b] (w.drewN n) fun e w' => e = .returned (.bool true) ∧ w' = w.drewN n from fun n => by rw [← hb]; exact l02Base_any b _)
    cases hd : digitsB b zs && widthB zs.length with
    | false =>
      have HO := Lib.hid (show okB b zs = false by simp at hd; simp [okB, hb]; intro h1 h2; rw [hd h2] at h1; cases h1)
      have HD2 := Lib.hid (show ∀ n, Calls Tryz.prog 109 #[.int .i64 b, .slice a zs.length c] (w.drewN n) fun e w' => e = .returned (.bool false) ∧ w' = w.drewN n from fun n => by rw [← hd]; exact l02Digits_any b a c zs _ (ha.drewN _) hb1 hb2)
      clear hb hd
      go_enter Tryz.func70, Tryz.ntmps70
      go_wp2
      go_quiet (first | (go_at_call 108; exact Calls.quiet_of_same (HB.out _)) | (go_at_call 109; exact Calls.quiet_of_same (HD2.out _)))
      go_wp2
      go_ret
      exact ⟨ret_bool (by rw [HO.out]), _, rfl⟩
    | true =>
      have HD : ∀ d ∈ zs, 0 ≤ d ∧ d < b := digitsB_true (by simp at hd; exact hd.1)
      have HO := Lib.hid (show okB b zs = decide (capV b zs ≤ 1000000000000) by simp at hd; simp [okB, hb, hd, capV_le hb1 HD])
      have HE := Lib.hid HD
      have HD2 := Lib.hid (show ∀ n, Calls Tryz.prog 109 #[.int .i64 b, .slice a zs.length c] (w.drewN n) fun e w' => e = .returned (.bool true) ∧ w' = w.drewN n from fun n => by rw [← hd]; exact l02Digits_any b a c zs _ (ha.drewN _) hb1 hb2)
      clear HD hb hd
      cases hv : decide (capV b zs ≤ 1000000000000)
      all_goals
        rw [hv] at HO
        go_enter Tryz.func70, Tryz.ntmps70
        go_wp2
        go_quiet (first | (go_at_call 108; exact Calls.quiet_of_same (HB.out _)) | (go_at_call 109; exact Calls.quiet_of_same (HD2.out _)) | (go_at_call 110; exact Calls.quiet_of_same (l02Value_any _ _ _ _ _ (ha.drewN _) hb1 hb2 HE.out)))
        go_wp2
        go_ret
        exact ⟨ret_bool (by rw [HO.out]), _, rfl⟩
end Go.Proofs.YtlahobdopmdfmaaGreatDoor

/- OkI -/
namespace Go.Proofs.YtlahobdopmdfmaaGreatDoor
open Go.RowKit

set_option maxHeartbeats 400000 in
theorem areBelow_any (b : Int) (a : Option Addr) (c : Nat) (zs : List Int) (w : World) (ha : Rd w a zs) :
    Calls Tryz.prog 100 #[.slice a zs.length c, .int .i64 b] w fun e w' => e = .returned (.bool (digitsB b zs)) ∧ w' = w := by
  have hx := ha.len
  go_enter Tryz.func100, Tryz.ntmps100
  go_wp2
  go_loop [6, 9] (fun _ i => ∃ k : Nat, k ≤ zs.length ∧ i = .int .i64 k ∧ Hid (∀ d ∈ zs.take k, 0 ≤ d ∧ d < b)) (fun _ i => zs.length - (intOf i).toNat)
  case atStart => exact ⟨0, Nat.zero_le _, rfl, Lib.hid (by simp)⟩
  case round =>
    obtain ⟨k, hk, rfl, HT⟩ := hrel
    by_cases hlt : k < zs.length
    · obtain ⟨p, off, rfl, hc⟩ := ha.at_ hlt
      by_cases hd : 0 ≤ nth zs k ∧ nth zs k < b
      · obtain ⟨hd1, hd2⟩ := hd
        go_wp2
        go_round
        case rel => exact ⟨k + 1, by omega, by go_num, Lib.hid (all_take_succ (p := fun d => 0 ≤ d ∧ d < b) hlt HT.out ⟨hd1, hd2⟩)⟩
        case measure => (simp [intOf]) <;> omega
      · have hf : digitsB b zs = false := by
          cases h : digitsB b zs with
          | false => rfl
          | true => exact absurd (digitsB_nth h hlt) hd
        have HF := Lib.hid hf
        have hd' : nth zs k < 0 ∨ (0 ≤ nth zs k ∧ b ≤ nth zs k) := by omega
        clear hf hd
        rcases hd' with h1 | ⟨h1, h2⟩
        all_goals
          go_wp2
          go_ret
          exact ⟨ret_bool HF.out.symm, rfl⟩
    · obtain rfl : k = zs.length := by omega
      have HD := Lib.hid (show digitsB b zs = true by
        rw [digitsB, decide_eq_true_eq]
        have := HT.out
        rwa [List.take_of_length_le (Nat.le_refl _)] at this)
      go_wp2
      go_ret
      exact ⟨ret_bool HD.out.symm, rfl⟩

set_option maxHeartbeats 1000000 in
theorem implValidRegister (xB : Int) (xA : Option Addr) (xC : Nat) (xZ : List Int) (w : World) (ha : Rd w xA xZ) (_ : All64 xZ) (_ : I64 xB) :
    Calls Tryz.prog 58 #[.agg #[.int .i64 xB, .slice xA xZ.length xC]] w fun e w' => e = .returned (.bool (okB xB xZ)) ∧ Below w.heap.size w w' := by
  have hx := ha.len
  have hbel : Below w.heap.size w (w.alloc (.cells #[.int .i64 xB, .slice xA xZ.length xC] 26)) := (Below.refl _ _).alloc (Nat.le_refl _) _
  cases hb : baseB xB with
  | false =>
    have HO := Lib.hid (show okB xB xZ = false by simp [okB, hb])
    rcases baseB_false hb with h1 | ⟨h1, h2⟩
    all_goals
      clear hb
      go_enter Tryz.func58, Tryz.ntmps58
      go_wp2
      go_ret
      exact ⟨ret_bool HO.out.symm, hbel⟩
  | true =>
    obtain ⟨hb1, hb2⟩ := baseB_true hb
    cases hw : widthB xZ.length with
    | false =>
      have HO := Lib.hid (show okB xB xZ = false by simp [okB, hw])
      rcases widthB_false hw with h1 | h1
      all_goals
        clear hb hw
        go_enter Tryz.func58, Tryz.ntmps58
        go_wp2
        go_ret
        exact ⟨ret_bool HO.out.symm, hbel⟩
    | true =>
      obtain ⟨hw1, hw2⟩ := widthB_true hw
      have HA := Lib.hid (areBelow_any xB xA xC xZ _ (ha.below hbel))
      cases hd : digitsB xB xZ with
      | false =>
        have HO := Lib.hid (show okB xB xZ = false by simp [okB, hd])
        rw [hd] at HA
        clear hb hw hd
        go_enter Tryz.func58, Tryz.ntmps58
        go_wp2_with (first | (go_at_call 100; refine HA.out.mono ?_; rintro e w1 ⟨rfl, rfl⟩) | go_in)
        go_ret
        exact ⟨ret_bool HO.out.symm, hbel⟩
      | true =>
        have HD := Lib.hid (digitsB_true hd)
        have HO := Lib.hid (show okB xB xZ = valOk xB xZ by simp [okB, hb, hw, hd, valOk])
        rw [hd] at HA
        clear hb hw hd
        go_enter Tryz.func58, Tryz.ntmps58
        go_wp2_with (first | (go_at_call 100; refine HA.out.mono ?_; rintro e w1 ⟨rfl, rfl⟩) | (go_at_call 101; refine (value_any xB xA xC xZ _ hb1 hb2 HD.out (ha.below hbel)).mono ?_; rintro e w2 ⟨rfl, hb3⟩) | go_in)
        go_ret
        exact ⟨ret_bool HO.out.symm, hbel.trans (hb3.mono hbel.size)⟩

end Go.Proofs.YtlahobdopmdfmaaGreatDoor

/- Dec -/
namespace Go.Proofs.YtlahobdopmdfmaaGreatDoor
open Go.RowKit

/-- The decimal digits of a number, none for 0. -/
def dg (u : Nat) : List UInt8 :=
  if _ : u = 0 then [] else dg (u / 10) ++ [UInt8.ofNat (48 + u % 10)]
termination_by u
decreasing_by omega
theorem dg_zero : dg 0 = [] := by rw [dg, dif_pos rfl]
theorem dg_pos {u : Nat} (h : u ≠ 0) : dg u = dg (u / 10) ++ [UInt8.ofNat (48 + u % 10)] := by rw [dg, dif_neg h]
theorem dg_ne {u : Nat} (h : u ≠ 0) : dg u ≠ [] := by rw [dg_pos h]; simp
theorem dg_dec : ∀ {u : Nat}, u ≠ 0 → dg u = Lib.decDigits u := by
  intro u
  induction u using Nat.strongRecOn with
  | _ u ih =>
    intro h
    rw [dg_pos h, Lib.decDigits]
    by_cases h10 : u < 10
    · rw [dif_pos h10, show u / 10 = 0 by omega, dg_zero, List.nil_append, show u % 10 = u by omega]
    · rw [dif_neg h10, ih (u / 10) (by omega) (by omega)]
theorem dg_len : ∀ (k u : Nat), u < 10 ^ k → (dg u).length ≤ k := by
  intro k
  induction k with
  | zero => intro u h; have : u = 0 := by simpa using h
            rw [this, dg_zero]; simp
  | succ k ih =>
    intro u h
    by_cases h0 : u = 0
    · rw [h0, dg_zero]; simp
    · rw [dg_pos h0]
      have := ih (u / 10) (by rw [Nat.pow_succ] at h; omega)
      simp; omega
theorem itoa_zero : Lib.itoa 0 = [48] := by unfold Lib.itoa; rw [if_neg (by omega)]; rw [Lib.decDigits, dif_pos (by decide)]; rfl
theorem itoa_neg {n : Int} (h : n < 0) : Lib.itoa n = 45 :: dg n.natAbs := by unfold Lib.itoa; rw [if_pos h, dg_dec (by omega)]
theorem itoa_pos {n : Int} (h : 0 < n) : Lib.itoa n = dg n.natAbs := by unfold Lib.itoa; rw [if_neg (by omega), dg_dec (by omega)]; congr 1; omega

/-- Bytes as cells. -/
def u8s (l : List UInt8) : List Value := l.map fun b => Value.int .u8 (b.toNat : Int)
theorem u8s_cons (b : UInt8) (l : List UInt8) : u8s (b :: l) = [Value.int .u8 (b.toNat : Int)] ++ u8s l := rfl
theorem u8s_len (l : List UInt8) : (u8s l).length = l.length := by simp [u8s]
theorem u8s_at {l : List UInt8} {j : Nat} (h : j < l.length) : (u8s l)[j]? = some (.int .u8 (l[j].toNat : Int)) := by simp [u8s, List.getElem?_map, List.getElem?_eq_getElem h]
theorem info_u8 : (Tryz.prog.info? 5).map (fun i => (i.zero, i.size, i.bytes)) = some (some (.int .u8 0), 1, 1) := by kernel_rfl

theorem td10 (j : Int) : ∃ q r : Int, j.tdiv 10 = q ∧ j.tmod 10 = r ∧ q.natAbs = j.natAbs / 10 ∧ r.natAbs = j.natAbs % 10 ∧ (0 ≤ j → 0 ≤ q ∧ 0 ≤ r) ∧ (j ≤ 0 → q ≤ 0 ∧ r ≤ 0) := by
  rcases Int.le_total 0 j with h | h
  · refine ⟨j / 10, j % 10, Int.tdiv_eq_ediv_of_nonneg h, Int.tmod_eq_emod_of_nonneg h, by omega, by omega, fun _ => by omega, fun _ => by omega⟩
  · obtain ⟨m, rfl⟩ : ∃ m : Nat, j = -(m : Int) := ⟨j.natAbs, by omega⟩
    refine ⟨-((m : Int) / 10), -((m : Int) % 10), ?_, ?_, by omega, by omega, fun _ => by omega, fun _ => by omega⟩
    · rw [Int.neg_tdiv, Int.tdiv_eq_ediv_of_nonneg (by omega)]
    · rw [Int.neg_tmod, Int.tmod_eq_emod_of_nonneg (by omega)]
/-- The next digit. -/
theorem dg_next {j q r n : Int} {l : List UInt8} (h : dg j.natAbs ++ l = dg n.natAbs) (hj : j ≠ 0) (hq : q.natAbs = j.natAbs / 10) (hr : r.natAbs = j.natAbs % 10) : dg q.natAbs ++ (UInt8.ofNat (48 + r.natAbs) :: l) = dg n.natAbs := by
  rw [← h, dg_pos (u := j.natAbs) (by omega), hq, hr]; simp
theorem u8_val {r : Int} (h1 : -9 ≤ r) (h2 : r ≤ 9) : ((UInt8.ofNat (48 + r.natAbs)).toNat : Int) = 48 + (r.natAbs : Int) := by
  rw [UInt8.toNat_ofNat']; omega

theorem u8s_one {l : List UInt8} : ∀ u ∈ u8s l, u.oneCell' = true := by
  intro u hu
  obtain ⟨b, _, rfl⟩ := List.mem_map.1 hu
  rfl

/-- What has been written so far, and what is left. -/
def DecRel (n : Int) (w : World) (o k : Value) (wr : World) : Prop := ∃ (j : Int) (l : List UInt8) (A : Addr) (C : Nat), k = .int .i64 j ∧ o = .slice (some A) l.length C ∧
  Hid (dg j.natAbs ++ l = dg n.natAbs) ∧ Hid (0 ≤ n ∧ 0 ≤ j ∨ n ≤ 0 ∧ j ≤ 0) ∧ -9223372036854775808 ≤ j ∧ j ≤ 9223372036854775807 ∧ l.length ≤ 20 ∧ Row 5 1 wr w.heap.size wr.heap.size (.slice (some A) l.length C) l.length (u8s l) ∧ Below w.heap.size w wr

set_option maxRecDepth 100000 in
set_option maxHeartbeats 4000000 in
theorem l01Dec_any (n : Int) (w : World) (h0 : -9223372036854775808 ≤ n) (h1 : n ≤ 9223372036854775807) :
    Calls Tryz.prog 77 #[.int .i64 n] w fun e w' => e = .returned (.string ⟨(Lib.itoa n).toArray⟩) ∧ Below w.heap.size w w' := by
  have HH : Hid ((dg n.natAbs).length ≤ 20) := Lib.hid (dg_len 20 n.natAbs (by omega))
  go_enter Tryz.func77, Tryz.ntmps77
  go_wp2
  go_loopw [3, 4] (fun o k wr => DecRel n w o k wr) (fun _ k _ => (intOf k).natAbs)
  case atStart =>
    refine ⟨n, [], _, _, rfl, rfl, Lib.hid (by simp), Lib.hid (by omega), h0, h1, by simp, ?_, (Below.refl _ _).alloc (Nat.le_refl _) _⟩
    have := row_new 5 1 w #[] 0 rfl (by omega)
    simpa [u8s] using this
  case round =>
    obtain ⟨j, l, A, C, rfl, rfl, hd, hsg, hj3, hj4, hl, row, hbel⟩ := hrel
    by_cases hj : j = 0
    · subst hj
      have hd0 : l = dg n.natAbs := by have := hd.out; rw [show (0 : Int).natAbs = 0 from rfl, dg_zero, List.nil_append] at this; exact this
      have hcv := run_convert_bytes_back (P := Tryz.prog) wr 22 9 5 A C l Tryz.underlying22 Tryz.underlying5 Tryz.underlying9 (fun j hj => row.cell (u8s_at hj))
      clear hd hsg row
      rcases Int.lt_trichotomy n 0 with hn | hn | hn
      · have HI : Hid (Lib.itoa n = 45 :: l) := Lib.hid (by rw [itoa_neg hn, hd0])
        have hlp : 0 < l.length := by
          rw [hd0]; exact List.length_pos_iff.2 (dg_ne (by omega))
        clear hd0
        go_wp2
        go_ret
        exact ⟨by rw [HI.out]; rfl, hbel⟩
      · subst hn
        have hl0 : l = [] := by rw [hd0]; exact dg_zero
        subst hl0
        have HI := Lib.hid itoa_zero
        clear hd0
        go_wp2
        go_ret
        exact ⟨by rw [HI.out]; rfl, hbel⟩
      · have HI : Hid (Lib.itoa n = l) := Lib.hid (by rw [itoa_pos hn, hd0])
        have hlp : 0 < l.length := by
          rw [hd0]; exact List.length_pos_iff.2 (dg_ne (by omega))
        clear hd0
        go_wp2
        go_ret
        exact ⟨by rw [HI.out]; rfl, hbel⟩
    · obtain ⟨q, r, hq, hr, hqa, hra, hp, hn⟩ := td10 j
      have hr1 : -9 ≤ r := by omega
      have hr2 : r ≤ 9 := by omega
      have hq1 : -9223372036854775808 ≤ q := by omega
      have hq2 : q ≤ 9223372036854775807 := by omega
      have hqw : wrap64 q = q := IntWalk.wrap64_in _ ⟨by omega, by omega⟩
      have HD := Lib.hid (dg_next hd.out hj hqa hra)
      have hl2 : l.length + 1 ≤ 20 := by have := HH.out; rw [← HD.out] at this; simp at this; omega
      have HS : Hid (0 ≤ n ∧ 0 ≤ q ∨ n ≤ 0 ∧ q ≤ 0) := Lib.hid (by rcases hsg.out with h | h; exact .inl ⟨h.1, (hp h.2).1⟩; exact .inr ⟨h.1, (hn h.2).1⟩)
      have hm : Hid (q.natAbs < j.natAbs) := Lib.hid (by omega)
      have HB := Lib.hid (u8_val hr1 hr2)
      have hrow := row.alloc (.cells #[.int .u8 (48 + (r.natAbs : Int))] 5)
      have hnew := row_new 5 1 wr #[.int .u8 (48 + (r.natAbs : Int))] 1 rfl (by omega)
      clear hd hsg hqa hra hp hn row
      by_cases hr0 : r < 0
      · have hab : (r.natAbs : Int) = -r := by omega
        rw [hab] at hrow hnew HB
        clear hab
        go_wp2_with (at_builtin; go_must (refine wpList_appR rfl (.tmp 21) (.tmp 22) 22 5 rfl (.int .u8 0) 1 1 Tryz.underlying22 info_u8 rfl (by omega) (by omega) rfl hnew A l.length C (u8s l) rfl (by simp [u8s_len]) (fun j u h => hrow.cell h) u8s_one (by omega) (by simp) ?_); intro A' C' w1 row1 ht1)
        have hb1 : Below w.heap.size w w1 := (hbel.alloc (by have := hbel.size; omega) _).trans (ht1.below hbel.size (by have := hbel.size; simp; omega))
        obtain ⟨A2, rfl⟩ : ∃ A2, A' = some A2 := by
          cases A' with
          | none => have := row1.none_.1; omega
          | some A2 => exact ⟨A2, rfl⟩
        go_roundw
        case rel =>
          refine ⟨q, _ :: l, A2, C', rfl, ?_, HD, HS, hq1, hq2, by simpa using hl2, ?_, hb1⟩
          · simp [Nat.add_comm]
          · rw [u8s_cons, HB.out]
            have := row1.wide (lo' := w.heap.size) hbel.size (Nat.le_refl _)
            simpa [Nat.add_comm] using this
        case measure => have := hm.out; simp [intOf]; omega
      · have hab : (r.natAbs : Int) = r := by omega
        rw [hab] at hrow hnew HB
        clear hab
        have hr3 : 0 ≤ r := by omega
        go_wp2_with (at_builtin; go_must (refine wpList_appR rfl (.tmp 21) (.tmp 22) 22 5 rfl (.int .u8 0) 1 1 Tryz.underlying22 info_u8 rfl (by omega) (by omega) rfl hnew A l.length C (u8s l) rfl (by simp [u8s_len]) (fun j u h => hrow.cell h) u8s_one (by omega) (by simp) ?_); intro A' C' w1 row1 ht1)
        have hb1 : Below w.heap.size w w1 := (hbel.alloc (by have := hbel.size; omega) _).trans (ht1.below hbel.size (by have := hbel.size; simp; omega))
        obtain ⟨A2, rfl⟩ : ∃ A2, A' = some A2 := by
          cases A' with
          | none => have := row1.none_.1; omega
          | some A2 => exact ⟨A2, rfl⟩
        go_roundw
        case rel =>
          refine ⟨q, _ :: l, A2, C', rfl, ?_, HD, HS, hq1, hq2, by simpa using hl2, ?_, hb1⟩
          · simp [Nat.add_comm]
          · rw [u8s_cons, HB.out]
            have := row1.wide (lo' := w.heap.size) hbel.size (Nat.le_refl _)
            simpa [Nat.add_comm] using this
        case measure => have := hm.out; simp [intOf]; omega
end Go.Proofs.YtlahobdopmdfmaaGreatDoor

/- DecI -/
namespace Go.Proofs.YtlahobdopmdfmaaGreatDoor
open Go.RowKit

/-- The library's table of powers of ten, as its text lays it. -/
def PowTab (w : World) : Prop := Lib.TabIs Tryz.prog w "internal/strconv.uint64pow10" .u64 Lib.pow10Tab
theorem tabIs_below {n : String} {g : Nat} {k : IntKind} {zs : List Int} {w w' : World} (hg : Tryz.prog.globalNamed n = some g) (h : Lib.TabIs Tryz.prog w n k zs) (hb : Below w.heap.size w w') : Lib.TabIs Tryz.prog w' n k zs := by
  unfold Lib.TabIs World.var? at h ⊢
  rw [hg] at h ⊢
  simp only [Option.bind_some] at h ⊢
  have hl : g < w.heap.size := by
    rcases Nat.lt_or_ge g w.heap.size with h1 | h1
    · exact h1
    · rw [Array.getElem?_eq_none h1] at h; cases h
  rw [hb.block g hl]
  exact h
theorem powTab_below {w w' : World} (h : PowTab w) (hb : Below w.heap.size w w') : PowTab w' := tabIs_below (g := 5) (by kernel_rfl) h hb

theorem i64_bd {n : Int} (h : I64 n) : -9223372036854775808 ≤ n ∧ n ≤ 9223372036854775807 := by
  unfold I64 at h
  simp [Lit.wf, IntKind.min, IntKind.max, IntKind.signed, IntKind.bits] at h
  exact h

theorem implDecimal (n : Int) (w : World) (b : I64 n) (hD : PowTab w) :
    Calls Tryz.prog 31 #[.int .i64 n] w fun e w' => e = .returned (.string ⟨(Lib.itoa n).toArray⟩) ∧ Below w.heap.size w w' := by
  obtain ⟨h0, h1⟩ := i64_bd b
  have c := fun w => Tryz.strconv_FormatInt_10 n h0 h1 w
  have c1 := c w hD
  clear c hD b
  go_enter Tryz.func31, Tryz.ntmps31
  go_wp2_with (go_at_call 69; refine c1.mono ?_; rintro e w' ⟨rfl, hg⟩)
  obtain ⟨k, os, rfl⟩ := hg
  go_ret
  exact ⟨rfl, Lib.below_grow _ _ (Nat.le_refl _) _ _⟩
end Go.Proofs.YtlahobdopmdfmaaGreatDoor

/- TxtI -/
namespace Go.Proofs.YtlahobdopmdfmaaGreatDoor
open Go.RowKit Go.Shelf

attribute [local go_sem] Oper.semAt_some

/-- The character of a digit. -/
def sgnD (d : Int) : UInt8 := if d < 10 then UInt8.ofNat (48 + d.toNat) else UInt8.ofNat (87 + d.toNat)
theorem sgnD_val {d : Int} (h0 : 0 ≤ d) (h1 : d ≤ 15) : ((sgnD d).toNat : Int) = if d < 10 then 48 + d else 87 + d := by
  unfold sgnD
  by_cases h : d < 10
  · rw [if_pos h, if_pos h, UInt8.toNat_ofNat']; omega
  · rw [if_neg h, if_neg h, UInt8.toNat_ofNat']; omega
theorem sgnD_le {d : Int} (h0 : 0 ≤ d) (h1 : d ≤ 15) : ((sgnD d).toNat : Int) ≤ 127 := by
  rw [sgnD_val h0 h1]
  split <;> omega
/-- The bytes of a register's text. -/
def txB (B : Int) (zs : List Int) : List UInt8 := (Lib.itoa B ++ [58]) ++ zs.reverse.map sgnD
def txR (B : Int) (zs : List Int) : ByteArray := if okB B zs = true then ⟨(txB B zs).toArray⟩ else ByteArray.empty
theorem txR_bad {B : Int} {zs : List Int} (h : okB B zs = false) : txR B zs = ByteArray.empty := by rw [txR, if_neg (by rw [h]; decide)]
theorem txR_ok {B : Int} {zs : List Int} (h : okB B zs = true) : txR B zs = ⟨(txB B zs).toArray⟩ := by rw [txR, if_pos h]
/-- The characters of what has come. -/
def chrs {p : Int → Prop} (pre : List (Ent p)) : List UInt8 := pre.map fun x => sgnD x.2.1
theorem chrs_snoc {p : Int → Prop} (pre : List (Ent p)) (x : Ent p) : chrs (pre ++ [x]) = chrs pre ++ [sgnD x.2.1] := by simp [chrs]
theorem chrs_bwd {p : Int → Prop} {zs : List Int} {h : ∀ d ∈ zs, p d} : ∀ {k : Nat}, k ≤ zs.length → chrs (bwd zs h k) = (zs.drop (zs.length - k)).reverse.map sgnD
  | 0, _ => by simp [chrs, bwd]
  | k + 1, hk => by
    rw [bwd_succ (by omega), chrs_snoc, chrs_bwd (by omega), List.drop_eq_getElem_cons (show zs.length - (k + 1) < zs.length by omega), List.reverse_cons, List.map_append]
    have e1 : zs.length - (k + 1) + 1 = zs.length - k := by omega
    have e3 : zs[zs.length - 1 - k] = zs[zs.length - (k + 1)] := by congr 1; omega
    simp only [e1, e3, List.map_cons, List.map_nil]
theorem chrs_all {p : Int → Prop} {zs : List Int} {h : ∀ d ∈ zs, p d} : chrs (bwd zs h zs.length) = zs.reverse.map sgnD := by
  rw [chrs_bwd (Nat.le_refl _), Nat.sub_self, List.drop_zero]

theorem digitSign_any (d : Int) (h0 : 0 ≤ d) (h1 : d ≤ 15) (w : World) : Calls Tryz.prog 68 #[.int .i64 d] w fun e w' => e = .returned (.int .i32 ((sgnD d).toNat : Int)) ∧ w' = w := by
  have hv := sgnD_val h0 h1
  by_cases h : d < 10
  · rw [if_pos h] at hv
    have HV := Lib.hid hv
    have w1 : IntKind.i32.wrap d = d := by simp [IntKind.wrap, IntKind.bits, IntKind.signed]; omega
    have w2 : IntKind.i32.wrap (48 + d) = 48 + d := by simp [IntKind.wrap, IntKind.bits, IntKind.signed]; omega
    clear hv
    go_enter Tryz.func68, Tryz.ntmps68
    go_wp2
    go_ret
    exact ⟨by rw [HV.out]; rfl, rfl⟩
  · rw [if_neg h] at hv
    have HV := Lib.hid hv
    have w0 : IntKind.i64.wrap (d - 10) = d - 10 := IntWalk.i64_in _ (by omega)
    have w1 : IntKind.i32.wrap (d - 10) = d - 10 := by simp [IntKind.wrap, IntKind.bits, IntKind.signed]; omega
    have w2 : IntKind.i32.wrap (97 + (d - 10)) = 97 + (d - 10) := by simp [IntKind.wrap, IntKind.bits, IntKind.signed]; omega
    clear hv
    go_enter Tryz.func68, Tryz.ntmps68
    go_wp2
    go_ret
    exact ⟨ret_int (by rw [HV.out]; omega), rfl⟩

theorem itoa_len {n : Int} (h0 : 0 ≤ n) (h1 : n ≤ 16) : (Lib.itoa n).length ≤ 20 := by
  obtain ⟨k, rfl⟩ : ∃ k : Nat, n = k := ⟨n.toNat, by omega⟩
  have : k ≤ 16 := by omega
  have hall : ∀ j : Fin 17, (Lib.itoa ((j.val : Nat) : Int)).length ≤ 20 := by decide +kernel
  exact hall ⟨k, by omega⟩

set_option maxRecDepth 100000 in
set_option maxHeartbeats 4000000 in
theorem implRegisterText (B : Int) (a : Option Addr) (c : Nat) (zs : List Int) (w : World) (ha : Rd w a zs) (z : All64 zs) (bB : I64 B) (hD : PowTab w) :
    Calls Tryz.prog 30 #[.agg #[.int .i64 B, .slice a zs.length c]] w fun e w' => e = .returned (.string (txR B zs)) ∧ Below w.heap.size w w' := by
  refine (callsIn_wide (n := 3)).1 ?_
  have hro : Fence.wide.round = none := rfl
  have hf1 : Fence.wide.fn 58 := trivial
  have hf2 : Fence.wide.fn 31 := trivial
  have hf3 : Fence.wide.fn 63 := trivial
  have hf4 : Fence.wide.fn 65 := trivial
  have hf5 : Fence.wide.fn 67 := trivial
  have hf6 : Fence.wide.fn 64 := trivial
  have hf7 : Fence.wide.fn 66 := trivial
  have hf8 : Fence.wide.fn 68 := trivial
  refine callsIn_of_wp_marks Tryz.func30 rfl trivial ?_ hro
  simp only [Tryz.ntmps30, List.size_toArray, List.length_cons, List.length_nil, Nat.reduceAdd, Nat.reduceSub, Array.replicate_succ, Array.replicate_zero, List.push_toArray, List.append_toArray, List.nil_append, List.cons_append]
  have hxl := ha.len
  obtain ⟨u, hu⟩ : ∃ u, u = w.alloc (.cells #[.int .i64 B, .slice a zs.length c] 26) := ⟨_, rfl⟩
  have hbel : Below w.heap.size w u := by rw [hu]; exact (by repeat (first | exact Below.refl _ _ | refine Below.setCell ?_ (by first | omega | (simp <;> omega)) _ | refine Below.alloc ?_ (by first | omega | (simp <;> omega)) _ | refine Below.drew ?_))
  have bx : Bx u w.heap.size 26 #[.int .i64 B, .slice a zs.length c] := by rw [hu]; exact Bx.new _ _ _
  have HU := Lib.hid hu
  clear hu
  have HV := Lib.hid (implValidRegister B a c zs u (ha.below hbel) z bB)
  cases h : okB B zs with
  | false =>
    have HR := Lib.hid (txR_bad h)
    rw [h] at HV
    clear h
    gi_wp2_with (gi_at_call 58; rw [← HU.out]; refine (callsIn_wide.2 HV.out).mono ?_; rintro e w1 ⟨rfl, hb1⟩)
    exact ⟨.string ByteArray.empty, by simp [results, Tryz.f30, go_sem]; rfl, by rw [HR.out], hbel.trans (hb1.mono hbel.size)⟩
  | true =>
    have HR := Lib.hid (txR_ok h)
    obtain ⟨o1, o2, o3, o4, o5, _⟩ := okB_spec h
    rw [h] at HV
    clear h
    gi_upto_region 4 with (gi_at_call 58; rw [← HU.out]; refine (callsIn_wide.2 HV.out).mono ?_; rintro e w1 ⟨rfl, hb1⟩)
    obtain ⟨V, hVV⟩ : ∃ V, V = w1.alloc (.cells #[.pointer none, .slice none 0 0] 94) := ⟨_, rfl⟩
    rw [← hVV]
    have hbV : Below w1.heap.size w1 V := by rw [hVV]; exact (by repeat (first | exact Below.refl _ _ | refine Below.setCell ?_ (by first | omega | (simp <;> omega)) _ | refine Below.alloc ?_ (by first | omega | (simp <;> omega)) _ | refine Below.drew ?_))
    have hsV : V.heap.size = w1.heap.size + 1 := by rw [hVV]; simp
    have bl0 : Bld (w1.heap.size + 1) V w1.heap.size [] := bld_new (by rw [hVV]; exact Bx.new _ _ _)
    have hzw : w.heap.size < w1.heap.size := by have := bx.lt; have := hb1.size; omega
    replace bx := (bx.below hb1).below hbV
    replace hbel := (hbel.trans (hb1.mono hbel.size)).trans (hbV.mono (by have := (hbel.trans (hb1.mono hbel.size)).size; omega))
    have hil := itoa_len (n := B) (by omega) (by omega)
    clear hVV hbV hb1 HV HU
    have e0 := bx.at_ 0 rfl
    gi_upto_region 5 with (first | (gi_at_call 31; refine (callsIn_wide.2 (implDecimal B V bB (powTab_below hD hbel))).mono ?_; rintro e v2 ⟨rfl, hb2⟩; have bl2 := bl0.below hb2; have hz2 := hb2.size) | (gi_at_call 63; refine (callsIn_wide.2 (writeString_any ⟨(Lib.itoa B).toArray⟩ _ bl2 (Nat.lt_succ_self _) (by omega) (by show 0 + (Lib.itoa B).toArray.size ≤ _; simp; omega))).mono ?_; rintro e v3 ⟨rfl, bl3, ht3⟩))
    have hz3 := ht3.size
    have bl3' : Bld (w1.heap.size + 1) v3 w1.heap.size (Lib.itoa B) := by simpa using bl3
    have hbx3 : Below (w1.heap.size + 1) V v2 := hb2.mono (by omega)
    have bx3 : Bx v3 w.heap.size 26 #[.int .i64 B, .slice a zs.length c] := (ht3.block _ (by omega) (by omega)).trans (bx.below hb2)
    have hbel3 : Below w.heap.size w v3 := (hbel.trans (hb2.mono (by have := hbel.size; omega))).trans (ht3.below (by omega) (by omega) (by have := hbel.size; omega))
    clear bl0 bl2 bl3 hb2 ht3 hbx3 bx hbel e0
    gi_upto_region 6 with (gi_at_call 65; refine (callsIn_wide.2 (writeByte_any 58 _ rfl _ bl3' (Nat.lt_succ_self _) (by omega) (by omega))).mono ?_; rintro e v4 ⟨rfl, bl4, ht4⟩)
    have hz4 := ht4.size
    have bx4 : Bx v4 w.heap.size 26 #[.int .i64 B, .slice a zs.length c] := (ht4.block _ (by omega) (by omega)).trans bx3
    have hbel4 : Below w.heap.size w v4 := hbel3.trans (ht4.below (by omega) (by omega) (by omega))
    have e1 := bx4.at_ 1 rfl
    clear bl3' ht4 bx3 hbel3
    gi_wp2_with (gi_at_call 66; refine (backD_in Fence.wide _ trivial rfl _ _ _ _).mono ?_; rintro e w' ⟨rfl, rfl⟩)
    obtain ⟨W0, hW0⟩ : ∃ W0, W0 = v4.alloc (.cells #[.slice a zs.length c] 24) := ⟨_, rfl⟩
    rw [← hW0]
    have bs : Bx W0 v4.heap.size 24 #[.slice a zs.length c] := by rw [hW0]; exact Bx.new _ _ _
    have hbW : Below v4.heap.size v4 W0 := by rw [hW0]; exact (by repeat (first | exact Below.refl _ _ | refine Below.setCell ?_ (by first | omega | (simp <;> omega)) _ | refine Below.alloc ?_ (by first | omega | (simp <;> omega)) _ | refine Below.drew ?_))
    have hsW : W0.heap.size = v4.heap.size + 1 := by rw [hW0]; simp
    have bl5 := bl4.below hbW
    have hbel5 : Below w.heap.size w W0 := hbel4.trans (hbW.mono (by omega))
    have ha5 := ha.below hbel5
    have hAr : ∀ d ∈ zs, isDig 16 d := fun d hd => ⟨(o5 d hd).1, by have := (o5 d hd).2; omega⟩
    clear hW0 hbW bl4 hbel4 bx4 e1
    refine wpIn_rangeFunc_ownH hro (by omega) (gf := 105) (lb := #[.pointer (some ⟨v4.heap.size, 0, none⟩)]) rfl trivial (enters_of Tryz.func105 (by kernel_rfl) rfl)
      (backD_stops Fence.wide _ trivial rfl (by omega) v4.heap.size w.heap.size a c zs hAr W0 (by omega) (bs.at_ 0 rfl) ha5 (fun hne b' off hab => by
        obtain ⟨b'', off', e, hc⟩ := ha.cells hne
        rw [hab] at e
        cases e
        exact World.block_lt_of_cell? _ _ (hc 0 (List.length_pos_iff.2 hne)))) keepB_t (keepB_b (by omega) (by omega)) (Below.refl _ _) (fun _ => rfl)
      (fun pre X => (Bld (w1.heap.size + 1) X w1.heap.size ((Lib.itoa B ++ [58]) ++ chrs pre) ∧ W0.heap.size ≤ X.heap.size ∧ Bx X v4.heap.size 24 #[.slice a zs.length c] ∧ pre.length ≤ 1000) ∧ Below w.heap.size w X)
      (fun _ _ _ => False)
      (OwnFrom.and (Own.from (fun s A0 B0 row hs hg hr => ⟨hs.1.same fun k o _ h1 h2 => grownBy_keeps_cells hg hr h1 h2, Nat.le_trans hs.2.1 hg.size, (grownBy_keeps_cells hg hr hs.2.2.1 rfl).trans hs.2.2.1, hs.2.2.2⟩) _) (ownFrom_below (Nat.le_refl _) (by omega)))
      (fun _ _ _ _ _ hs _ _ => hs)
      ⟨⟨by simpa [chrs] using bl5, Nat.le_refl _, bs, by simp⟩, hbel5⟩
      (fun x a' _ => a' = { tmps := #[.agg #[.int .i64 B, .slice a zs.length c], .pointer (some ⟨w.heap.size, 0, none⟩), .string ⟨#[]⟩, .pointer (some ⟨w1.heap.size, 0, none⟩), undef, .int .i64 x.2.1, .agg #[.int .i64 B, .slice a zs.length c], .bool true, .bool false,
        .pointer (some ⟨w.heap.size, 0, none⟩), .int .i64 B, .string ⟨(Lib.itoa B).toArray⟩, .tuple #[.int .i64 ((Lib.itoa B).length : Nat), .nilIface], .nilIface, .pointer (some ⟨w.heap.size, 1, none⟩), .slice a zs.length c,
        .func (.func 105) #[] #[.pointer (some ⟨v4.heap.size, 0, none⟩)], .int .i64 (x.1 : Int), .int .i64 x.2.1, undef, undef, undef, undef], defers := [] })
      (fun _ _ _ _ _ _ hs _ _ => hs) ?assign ?body ?done ?stop
    case assign =>
      intro l pre x X K hI hK
      gi_wp2
      exact hK _ _ ((KeepsOthers.refl _).from _) (KeepB.refl _ _ _) hI rfl
    case body =>
      rintro l pre x a' X hl ⟨r, hr⟩ ⟨⟨bl, hXs, bs', hpl⟩, hB⟩ rfl hlen
      obtain ⟨hd0, hd1⟩ := x.2.2
      have hchl : (chrs pre).length = pre.length := by simp [chrs]
      gi_wp2_with (first | (gi_at_call 68; refine (CallsIn.inRound l (callsIn_wide.2 (digitSign_any x.2.1 hd0 (by omega) _))).mono ?_; rintro e w5 ⟨rfl, hw5⟩; subst w5) | (gi_at_call 67; refine (CallsIn.inRound l (callsIn_wide.2 (writeRune_any (sgnD x.2.1) _ rfl (sgnD_le hd0 (by omega)) X bl (Nat.lt_succ_self _) (by omega) (by simp only [List.length_append, List.length_singleton, hchl]; omega)))).mono ?_; rintro e w6 ⟨rfl, bl6, ht6⟩))
      have hoth : ∀ (k : Nat) (o : Obj), k ≠ w1.heap.size → X.heap[k]? = some o → (∀ cur fz, o ≠ .cells cur 5 fz) → w6.heap[k]? = some o := ht6.others
      have hs6 : w6.heap[v4.heap.size]? = some (.cells #[.slice a zs.length c] 24 (0, 0)) := hoth _ _ (by omega) bs' (by
        intro cur fz h
        injection h with _ h2
        exact absurd h2 (by decide))
      refine ⟨⟨ht6.size, fun k o hk hko hno => hoth k o (by omega) hko (no_row hno)⟩, ⟨ht6.below (by omega) (by omega) hB.size, hs6.trans bs'.symm⟩, ⟨⟨?_, Nat.le_trans hXs ht6.size, hs6, by simp; omega⟩, hB.trans (ht6.below (by omega) (by omega) hB.size)⟩⟩
      rw [chrs_snoc, ← List.append_assoc]
      exact bl6
    case done =>
      rintro Dd ys X hDd rfl ⟨⟨bl, hXs, bs', hpl⟩, hB⟩ hK
      rw [chrs_all] at bl
      gi_wp2_with (gi_at_call 64; refine (callsIn_wide.2 (string_any X bl (Nat.lt_succ_self _) (by omega))).mono ?_; rintro e w7 ⟨rfl, hb7, hk7⟩)
      have hK7 : w7.heap[Dd]? = some (.deferred (some [])) := hk7 Dd _ (by omega) hK (by intro cur fz h; cases h)
      have hz7 := hb7.size
      refine ⟨by simp, .inl ⟨_, _, rfl, run_takeDeferred hK7, ?_⟩⟩
      have hb8 : Below w.heap.size w w7 := hB.trans (hb7.mono (by omega))
      exact ⟨.string ⟨(txB B zs).toArray⟩, by simp [results, Tryz.f30, go_sem, txB], by rw [HR.out], hb8.trans (belowK_b (w := w) (Nat.le_refl _) w7 Dd _ _ (by omega) hK7 rfl rfl)⟩
    case stop =>
      rintro Dd c pre X hDd _ hF
      exact hF.elim
end Go.Proofs.YtlahobdopmdfmaaGreatDoor

/- SplitM -/
namespace Go.Proofs.YtlahobdopmdfmaaGreatDoor
open Go

/-- The i-th byte. -/
def byteAt (s : ByteArray) (i : Nat) : UInt8 := if h : i < s.size then s[i]'h else 0
theorem byteAt_get {s : ByteArray} {i : Nat} (h : i < s.size) : s[i]'h = byteAt s i := by rw [byteAt, dif_pos h]
/-- The parts between bytes c, from a part's beginning f on, at place i. -/
def splitGo (s : ByteArray) (c : UInt8) : Nat → Nat → Nat → List ByteArray
  | 0, _, f => [s.extract f s.size]
  | n + 1, i, f => if byteAt s i = c then s.extract f i :: splitGo s c n (i + 1) (i + 1) else splitGo s c n (i + 1) f
def splitL (s : ByteArray) (c : UInt8) : List ByteArray := splitGo s c s.size 0 0
theorem splitGo_hit {s : ByteArray} {c : UInt8} {n i f : Nat} (h : byteAt s i = c) : splitGo s c (n + 1) i f = s.extract f i :: splitGo s c n (i + 1) (i + 1) := by rw [splitGo, if_pos h]
theorem splitGo_miss {s : ByteArray} {c : UInt8} {n i f : Nat} (h : ¬ byteAt s i = c) : splitGo s c (n + 1) i f = splitGo s c n (i + 1) f := by rw [splitGo, if_neg h]
theorem splitGo_len {s : ByteArray} {c : UInt8} : ∀ (n i f : Nat), (splitGo s c n i f).length ≤ n + 1
  | 0, _, _ => by simp [splitGo]
  | n + 1, i, f => by
    rw [splitGo]
    split
    · have := splitGo_len (s := s) (c := c) n (i + 1) (i + 1)
      simp; omega
    · have := splitGo_len (s := s) (c := c) n (i + 1) f
      omega
theorem splitL_len (s : ByteArray) (c : UInt8) : (splitL s c).length ≤ s.size + 1 := splitGo_len _ _ _
/-- The parts that are not empty. -/
def someB (x : ByteArray) : Bool := decide (x.data.toList ≠ [])
def wordsL (s : ByteArray) : List ByteArray := (splitL s 32).filter someB
end Go.Proofs.YtlahobdopmdfmaaGreatDoor

/- Num -/
namespace Go.Proofs.YtlahobdopmdfmaaGreatDoor
open Go Go.Lib

/-- What digits say, behind a number. -/
def pv (acc : Nat) (l : List UInt8) : Nat := l.foldl (fun a c => a * 10 + (c.toNat - 48)) acc
def isNum (c : UInt8) : Prop := 48 ≤ c.toNat ∧ c.toNat ≤ 57
theorem pv_nil (acc : Nat) : pv acc [] = acc := rfl
theorem pv_cons (acc : Nat) (c : UInt8) (l : List UInt8) : pv acc (c :: l) = pv (acc * 10 + (c.toNat - 48)) l := by unfold pv; rw [List.foldl_cons]
theorem pv_snoc (acc : Nat) (l : List UInt8) (c : UInt8) : pv acc (l ++ [c]) = pv acc l * 10 + (c.toNat - 48) := by unfold pv; rw [List.foldl_append, List.foldl_cons, List.foldl_nil]
theorem pv_ge : ∀ (l : List UInt8) (acc : Nat), acc ≤ pv acc l
  | [], acc => Nat.le_refl _
  | c :: l, acc => by rw [pv_cons]; exact Nat.le_trans (by omega) (pv_ge l _)
theorem pv_lt : ∀ (l : List UInt8) (acc : Nat), (∀ c ∈ l, isNum c) → pv acc l < (acc + 1) * 10 ^ l.length
  | [], acc, _ => by simp [pv_nil]
  | c :: l, acc, h => by
    have hc := h c (by simp)
    have := pv_lt l (acc * 10 + (c.toNat - 48)) (fun x hx => h x (by simp [hx]))
    rw [pv_cons, List.length_cons, Nat.pow_succ]
    refine Nat.lt_of_lt_of_le this ?_
    rw [Nat.mul_comm (10 ^ l.length) 10, ← Nat.mul_assoc]
    exact Nat.mul_le_mul_right _ (by have := hc.2; omega)
theorem pu_ok : ∀ (l : List UInt8) (acc : Nat), (∀ c ∈ l, isNum c) → pv acc l < 10 ^ 18 → parseUintM (2 ^ 64 - 1) acc l = .ok (pv acc l)
  | [], acc, _, _ => rfl
  | c :: l, acc, h, hb => by
    have hc := h c (by simp)
    have hge := pv_ge l (acc * 10 + (c.toNat - 48))
    rw [pv_cons] at hb ⊢
    rw [parseUintM, if_pos (show 48 ≤ c.toNat ∧ c.toNat ≤ 57 from hc), if_neg (by omega), if_neg (by omega)]
    exact pu_ok l _ (fun x hx => h x (by simp [hx])) hb
theorem dd_rec (u : Nat) : (u < 10 ∧ decDigits u = [UInt8.ofNat (48 + u)]) ∨ (¬ u < 10 ∧ decDigits u = decDigits (u / 10) ++ [UInt8.ofNat (48 + u % 10)]) := by
  by_cases h : u < 10
  · exact .inl ⟨h, by rw [decDigits, dif_pos h]⟩
  · exact .inr ⟨h, by rw [decDigits, dif_neg h]⟩
theorem ofDig {d : Nat} (h : d < 10) : (UInt8.ofNat (48 + d)).toNat = 48 + d := by rw [UInt8.toNat_ofNat']; omega
theorem dd_dig : ∀ (u : Nat), ∀ c ∈ decDigits u, isNum c := by
  intro u
  induction u using Nat.strongRecOn with
  | _ u ih =>
    intro c hc
    rcases dd_rec u with ⟨h, e⟩ | ⟨h, e⟩ <;> rw [e] at hc
    · rw [List.mem_singleton] at hc; subst hc; unfold isNum; rw [ofDig h]; omega
    · rcases List.mem_append.1 hc with hc | hc
      · exact ih (u / 10) (by omega) c hc
      · rw [List.mem_singleton] at hc; subst hc; unfold isNum; rw [ofDig (by omega)]; omega
theorem dd_pv : ∀ (u : Nat), pv 0 (decDigits u) = u := by
  intro u
  induction u using Nat.strongRecOn with
  | _ u ih =>
    rcases dd_rec u with ⟨h, e⟩ | ⟨h, e⟩ <;> rw [e]
    · rw [pv_cons, pv_nil, ofDig h]; omega
    · rw [pv_snoc, ih (u / 10) (by omega), ofDig (by omega)]; omega
theorem dd_ne (u : Nat) : decDigits u ≠ [] := by
  rcases dd_rec u with ⟨_, e⟩ | ⟨_, e⟩ <;> rw [e] <;> simp
theorem dd_len : ∀ (k u : Nat), u < 10 ^ (k + 1) → (decDigits u).length ≤ k + 1 := by
  intro k
  induction k with
  | zero => intro u h; rcases dd_rec u with ⟨_, e⟩ | ⟨h2, e⟩ <;> rw [e] <;> simp <;> omega
  | succ k ih =>
    intro u h
    rcases dd_rec u with ⟨_, e⟩ | ⟨h2, e⟩ <;> rw [e]
    · simp
    · have := ih (u / 10) (by rw [Nat.pow_succ] at h; omega)
      simp; omega
theorem dd_head (u : Nat) : ∃ c l, decDigits u = c :: l ∧ isNum c := by
  cases h : decDigits u with
  | nil => exact absurd h (dd_ne u)
  | cons c l => exact ⟨c, l, rfl, dd_dig u c (by rw [h]; simp)⟩
/-- The decimal form of a number of at most 18 digits is read as that number. -/
theorem parse_itoa {v : Int} (h : v.natAbs < 10 ^ 18) : parseIntB 64 (itoa v) = .ok v := by
  obtain ⟨c, l, e, hc⟩ := dd_head v.natAbs
  have hu : parseUintB 64 (decDigits v.natAbs) = .ok v.natAbs := by
    unfold parseUintB
    rw [if_neg (dd_ne _), pu_ok _ _ (dd_dig _) (by rw [dd_pv]; exact h), dd_pv]
  unfold itoa
  by_cases hv : v < 0
  · rw [if_pos hv]
    unfold parseIntB
    dsimp only
    rw [if_pos (.inr rfl), hu]
    dsimp only
    rw [if_neg (by simp), if_neg (by omega)]
    simp; omega
  · rw [if_neg hv, show v.toNat = v.natAbs by omega]
    unfold parseIntB
    rw [e] at hu ⊢
    have h1 : ¬ c.toNat = 45 := by have := hc.1; omega
    have h2 : ¬ (c.toNat = 43 ∨ c.toNat = 45) := by have := hc.1; omega
    dsimp only
    rw [if_neg h2, hu]
    dsimp only
    rw [if_neg (by omega), if_neg (by simp [h1]), if_neg h1]
    congr 1; omega
theorem itoa_inj {v v' : Int} (h : v.natAbs < 10 ^ 18) (h' : v'.natAbs < 10 ^ 18) (e : itoa v = itoa v') : v = v' := by
  have h1 := parse_itoa h
  rw [e, parse_itoa h'] at h1
  injection h1 with h1; exact h1.symm

/-- s is the decimal form of a number of at most 18 digits. -/
def isDec (s : ByteArray) (v : Int) : Prop := v.natAbs < 10 ^ 18 ∧ s = ⟨(itoa v).toArray⟩
/-- The number with this decimal form. -/
noncomputable def rdR (s : ByteArray) : Int × Bool := open Classical in if h : ∃ v, isDec s v then (Classical.choose h, true) else (0, false)
theorem rdR_yes {s : ByteArray} {v : Int} (h : isDec s v) : rdR s = (v, true) := by
  have hx : ∃ v, isDec s v := ⟨v, h⟩
  have hc := Classical.choose_spec hx
  have : Classical.choose hx = v := itoa_inj hc.1 h.1 (by
    have := hc.2.symm.trans h.2
    injection this with this
    exact List.toArray_inj this)
  unfold rdR
  rw [dif_pos hx, this]
theorem rdR_no {s : ByteArray} (h : ¬ ∃ v, isDec s v) : rdR s = (0, false) := by unfold rdR; rw [dif_neg h]
end Go.Proofs.YtlahobdopmdfmaaGreatDoor

/- RgM -/
namespace Go.Proofs.YtlahobdopmdfmaaGreatDoor
open Go Go.RowKit

/-- The digit of a sign; -1: no sign. -/
def sgV (c : Nat) : Int := if 48 ≤ c ∧ c ≤ 57 then (c : Int) - 48 else if 97 ≤ c ∧ c ≤ 102 then (c : Int) - 87 else -1
theorem sgV_bd (c : Nat) : -1 ≤ sgV c ∧ sgV c ≤ 15 := by unfold sgV; split <;> (try split) <;> omega
theorem sgV_dec {c : Nat} (h : 48 ≤ c ∧ c ≤ 57) : sgV c = (c : Int) - 48 := by unfold sgV; rw [if_pos h]
theorem sgV_let {c : Nat} (h : 97 ≤ c ∧ c ≤ 102) : sgV c = (c : Int) - 87 := by unfold sgV; rw [if_neg (by omega), if_pos h]
theorem sgV_no {c : Nat} (h : ¬ (48 ≤ c ∧ c ≤ 57)) (h2 : ¬ (97 ≤ c ∧ c ≤ 102)) : sgV c = -1 := by unfold sgV; rw [if_neg h, if_neg h2]
/-- The first j digits of a text, read from its end. -/
def tdL (t : ByteArray) (j : Nat) : List Int := (List.range j).map fun k => sgV (byteAt t (t.size - 1 - k)).toNat
theorem tdL_len (t : ByteArray) (j : Nat) : (tdL t j).length = j := by simp [tdL]
theorem tdL_succ (t : ByteArray) (j : Nat) : tdL t (j + 1) = tdL t j ++ [sgV (byteAt t (t.size - 1 - j)).toNat] := by simp [tdL, List.range_succ]
theorem tdL_all (t : ByteArray) (j : Nat) : ∀ d ∈ tdL t j, -1 ≤ d ∧ d ≤ 15 := by
  intro d hd
  simp only [tdL, List.mem_map] at hd
  obtain ⟨k, _, rfl⟩ := hd
  exact sgV_bd _
/-- The row of digits when the text's first k signs are read. -/
def tdP (t : ByteArray) (k : Nat) : List Int := (List.range t.size).map fun i => if t.size - 1 - i < k then sgV (byteAt t (t.size - 1 - i)).toNat else 0
theorem tdP_len (t : ByteArray) (k : Nat) : (tdP t k).length = t.size := by simp [tdP]
theorem tdP_zero (t : ByteArray) : tdP t 0 = List.replicate t.size 0 := by
  refine List.ext_getElem (by simp [tdP]) fun i h1 h2 => by simp [tdP]
theorem tdP_last (t : ByteArray) : tdP t t.size = tdL t t.size := by
  refine List.ext_getElem (by simp [tdP, tdL]) fun i h1 h2 => ?_
  rw [tdP_len] at h1
  simp only [tdP, tdL, List.getElem_map, List.getElem_range]
  rw [if_pos (by omega)]
theorem tdP_step {t : ByteArray} {k : Nat} (h : k < t.size) : (tdP t k).set (t.size - 1 - k) (sgV (byteAt t k).toNat) = tdP t (k + 1) := by
  refine List.ext_getElem (by simp [tdP]) fun i h1 h2 => ?_
  rw [tdP_len] at h2
  rw [List.getElem_set]
  simp only [tdP, List.getElem_map, List.getElem_range]
  by_cases hi : t.size - 1 - k = i
  · rw [if_pos hi, if_pos (by omega)]
    rw [show t.size - 1 - i = k by omega]
  · rw [if_neg hi]
    by_cases h3 : t.size - 1 - i < k
    · rw [if_pos h3, if_pos (by omega)]
    · rw [if_neg h3, if_neg (by omega)]
theorem okB_sign {b : Int} {t : ByteArray} {k : Nat} (h : k < t.size) (hs : sgV (byteAt t k).toNat = -1) : okB b (tdL t t.size) = false := by
  cases hb : okB b (tdL t t.size) with
  | false => rfl
  | true =>
    obtain ⟨_, _, _, _, h5, _⟩ := okB_spec hb
    have := h5 (-1) (by
      simp only [tdL, List.mem_map, List.mem_range]
      exact ⟨t.size - 1 - k, by omega, by rw [show t.size - 1 - (t.size - 1 - k) = k by omega]; exact hs⟩)
    omega

/-- What reading a register's text gives. -/
noncomputable def rgT (b : Int × Bool) (t : ByteArray) : Int × List Int × Bool := if t.size ≤ 16 ∧ b.2 = true ∧ okB b.1 (tdL t t.size) = true then (b.1, tdL t t.size, true) else (0, [], false)
noncomputable def rgL : List ByteArray → Int × List Int × Bool
  | [h, t] => rgT (rdR h) t
  | _ => (0, [], false)
noncomputable def rgR (s : ByteArray) : Int × List Int × Bool := rgL (splitL s 58)
theorem rgT_yes {b : Int × Bool} {t : ByteArray} (h1 : t.size ≤ 16) (h2 : b.2 = true) (h3 : okB b.1 (tdL t t.size) = true) : rgT b t = (b.1, tdL t t.size, true) := if_pos ⟨h1, h2, h3⟩
theorem rgT_long {b : Int × Bool} {t : ByteArray} (h : 16 < t.size) : rgT b t = (0, [], false) := if_neg fun h2 => by omega
theorem rgT_head {b : Int × Bool} {t : ByteArray} (h : b.2 = false) : rgT b t = (0, [], false) := if_neg fun h2 => by rw [h] at h2; simp at h2
theorem rgT_bad {b : Int × Bool} {t : ByteArray} (h : okB b.1 (tdL t t.size) = false) : rgT b t = (0, [], false) := if_neg fun h2 => by rw [h] at h2; simp at h2
theorem rgL_len {l : List ByteArray} (h : ¬ l.length = 2) : rgL l = (0, [], false) := by
  match l, h with
  | [], _ => rfl
  | [_], _ => rfl
  | [_, _], h => exact absurd rfl h
  | _ :: _ :: _ :: _, _ => rfl

theorem splitGo_none {s : ByteArray} {c : UInt8} : ∀ (n i f : Nat), i + n = s.size → (∀ j, i ≤ j → j < s.size → ¬ byteAt s j = c) → splitGo s c n i f = [s.extract f s.size]
  | 0, _, _, _, _ => rfl
  | n + 1, i, f, h, hn => by rw [splitGo_miss (hn i (Nat.le_refl _) (by omega))]; exact splitGo_none n (i + 1) f (by omega) fun j h1 h2 => hn j (by omega) h2
theorem splitGo_first {s : ByteArray} {c : UInt8} : ∀ (m n i f : Nat), (∀ j, i ≤ j → j < i + m → ¬ byteAt s j = c) → byteAt s (i + m) = c → splitGo s c (m + 1 + n) i f = s.extract f (i + m) :: splitGo s c n (i + m + 1) (i + m + 1)
  | 0, n, i, f, _, hc => by rw [show 0 + 1 + n = n + 1 by omega]; exact splitGo_hit hc
  | m + 1, n, i, f, hn, hc => by
    rw [show m + 1 + 1 + n = (m + 1 + n) + 1 by omega, splitGo_miss (hn i (Nat.le_refl _) (by omega)), splitGo_first m n (i + 1) f (fun j h1 h2 => hn j (by omega) (by omega)) (by rw [show i + 1 + m = i + (m + 1) by omega]; exact hc), show i + 1 + m = i + (m + 1) by omega]
theorem splitGo_pos {s : ByteArray} {c : UInt8} : ∀ (n i f : Nat), 1 ≤ (splitGo s c n i f).length
  | 0, _, _ => by simp [splitGo]
  | n + 1, i, f => by rw [splitGo]; split; simp; exact splitGo_pos n (i + 1) f
theorem splitGo_some {s : ByteArray} {c : UInt8} : ∀ (n i f : Nat), i + n = s.size → (∃ j, i ≤ j ∧ j < s.size ∧ byteAt s j = c) → 2 ≤ (splitGo s c n i f).length
  | 0, i, f, h, ⟨j, h1, h2, _⟩ => by omega
  | n + 1, i, f, h, ⟨j, h1, h2, h3⟩ => by
    by_cases hc : byteAt s i = c
    · rw [splitGo_hit hc]
      have := splitGo_pos (s := s) (c := c) n (i + 1) (i + 1)
      simp; omega
    · rw [splitGo_miss hc]
      refine splitGo_some n (i + 1) f (by omega) ⟨j, ?_, h2, h3⟩
      rcases Nat.lt_or_ge i j with h4 | h4
      · omega
      · obtain rfl : i = j := by omega
        exact absurd h3 hc

theorem occ_byte {s : ByteArray} {c : UInt8} {j : Nat} (h : j < s.size) : Lib.occAt s.data.toList [c] j = true ↔ byteAt s j = c := by
  have h2 : j < s.data.toList.length := by simpa using h
  rw [Lib.occAt_iff_take _ _ _ (by simp; omega), ← byteAt_get h, List.drop_eq_getElem_cons h2]
  simp only [List.length_cons, List.length_nil, Nat.zero_add, List.take_succ_cons, List.take_zero, beq_iff_eq, List.cons.injEq, and_true]
  exact Iff.rfl

/-- What the text's cut at the first ':' tells. -/
theorem cut_tells (s : ByteArray) :
    ((Lib.cut s.data.toList [58]).2.2 = false ∧ (⟨(Lib.cut s.data.toList [58]).1.toArray⟩ : ByteArray).size ≤ s.size ∧ rgR s = (0, [], false)) ∨
    ((Lib.cut s.data.toList [58]).2.2 = true ∧ (⟨(Lib.cut s.data.toList [58]).1.toArray⟩ : ByteArray).size ≤ s.size ∧ (⟨(Lib.cut s.data.toList [58]).2.1.toArray⟩ : ByteArray).size ≤ s.size ∧
      rgR s = rgT (rdR ⟨(Lib.cut s.data.toList [58]).1.toArray⟩) ⟨(Lib.cut s.data.toList [58]).2.1.toArray⟩) := by
  rcases Lib.index_spec s.data.toList [58] with ⟨h1, h2⟩ | ⟨i, h1, h2, h3, h4⟩
  · refine .inl ⟨by unfold Lib.cut; rw [if_neg (by omega)], by unfold Lib.cut; rw [if_neg (by omega)]; simp, ?_⟩
    have hn : ∀ j, 0 ≤ j → j < s.size → ¬ byteAt s j = 58 := fun j _ hj hc => by
      have := h2 j (by have : s.data.toList.length = s.size := by simp
                       omega)
      rw [(occ_byte hj).2 hc] at this
      cases this
    unfold rgR splitL
    rw [splitGo_none s.size 0 0 (by omega) hn]
    rfl
  · have hsz : s.data.toList.length = s.size := by simp
    have hi : i < s.size := by
      rcases Lib.occAt_room h3 with h | h
      · simp at h; omega
      · cases h
    have hc : byteAt s i = 58 := (occ_byte hi).1 h3
    have hn : ∀ j, 0 ≤ j → j < 0 + i → ¬ byteAt s j = 58 := fun j _ hj hc => by
      have := h4 j (by omega)
      rw [(occ_byte (by omega)).2 hc] at this
      cases this
    have e1 : (Lib.cut s.data.toList [58]) = (s.data.toList.take i, s.data.toList.drop (i + 1), true) := by
      unfold Lib.cut; rw [if_pos (by omega), h1]; simp
    have e2 : (⟨(s.data.toList.take i).toArray⟩ : ByteArray) = s.extract 0 i := by
      apply WideShapes.bytes_inj
      rw [Lib.extract_data]; simp
    have e3 : (⟨(s.data.toList.drop (i + 1)).toArray⟩ : ByteArray) = s.extract (i + 1) s.size := by
      apply WideShapes.bytes_inj
      rw [Lib.extract_to_end]
    have e4 : splitL s 58 = s.extract 0 i :: splitGo s 58 (s.size - (i + 1)) (i + 1) (i + 1) := by
      have := splitGo_first (s := s) (c := 58) i (s.size - (i + 1)) 0 0 hn (by rw [Nat.zero_add]; exact hc)
      rw [show i + 1 + (s.size - (i + 1)) = s.size by omega, Nat.zero_add] at this
      exact this
    rw [e1]
    refine .inr ⟨rfl, ?_, ?_, ?_⟩
    · rw [e2]; (simp) <;> omega
    · rw [e3]; (simp) <;> omega
    · simp only [e2, e3]
      unfold rgR
      rw [e4]
      by_cases hx : ∃ j, i + 1 ≤ j ∧ j < s.size ∧ byteAt s j = 58
      · have hl := splitGo_some (s := s) (c := 58) (s.size - (i + 1)) (i + 1) (i + 1) (by omega) hx
        rw [rgL_len (by simp; omega)]
        obtain ⟨j, j1, j2, j3⟩ := hx
        refine (rgT_bad (okB_sign (k := j - (i + 1)) (by simp; omega) ?_)).symm
        have hk : j - (i + 1) < (s.extract (i + 1) s.size).size := by simp; omega
        have : byteAt (s.extract (i + 1) s.size) (j - (i + 1)) = 58 := by
          rw [← byteAt_get hk, ← j3, ← byteAt_get j2]
          simp only [ByteArray.getElem_extract]
          congr 1
          omega
        rw [this]; decide
      · rw [splitGo_none (s.size - (i + 1)) (i + 1) (i + 1) (by omega) fun j h1 h2 h3 => hx ⟨j, h1, h2, h3⟩]
        rfl
end Go.Proofs.YtlahobdopmdfmaaGreatDoor

/- RgB -/
namespace Go.Proofs.YtlahobdopmdfmaaGreatDoor
open Go Go.RowKit

/-- A text that is written is read. -/
theorem itoa_colon : ∀ k : Nat, k < 17 → ∀ c ∈ Lib.itoa (k : Int), ¬ c = 58 := by decide +kernel
theorem itoa_two : ∀ k : Nat, k < 17 → (Lib.itoa (k : Int)).length ≤ 2 := by decide +kernel
theorem txR_size {b : Int} {zs : List Int} (h : okB b zs = true) : (txR b zs).size ≤ 1048576 := by
  obtain ⟨b0, b1, n0, n1, _, _⟩ := okB_spec h
  obtain ⟨k, rfl⟩ := Int.eq_ofNat_of_zero_le (show 0 ≤ b by omega)
  have h2 := itoa_two k (by omega)
  rw [txR_ok h]
  show (txB (k : Int) zs).toArray.size ≤ _
  simp only [List.size_toArray, txB, List.length_append, List.length_map, List.length_reverse, List.length_cons, List.length_nil]
  omega
theorem rgR_back {b : Int} {zs : List Int} (h : okB b zs = true) : rgR (txR b zs) = (b, zs, true) := by
  obtain ⟨b0, b1, n0, n1, hd, _⟩ := okB_spec h
  rw [txR_ok h]
  obtain ⟨t, ht⟩ : ∃ t, t = zs.reverse.map sgnD := ⟨_, rfl⟩
  obtain ⟨l, hl⟩ : ∃ l, l = Lib.itoa b := ⟨_, rfl⟩
  have hlc : ∀ c ∈ l, ¬ c = 58 := by
    obtain ⟨k, rfl⟩ := Int.eq_ofNat_of_zero_le (show 0 ≤ b by omega)
    rw [hl]; exact itoa_colon k (by omega)
  have es : (⟨(txB b zs).toArray⟩ : ByteArray).data.toList = l ++ 58 :: t := by simp [txB, hl, ht]
  have hi : Lib.index (l ++ 58 :: t) [58] = (l.length : Nat) := by
    refine Lib.index_first (by simp) (by simp [Lib.occAt]) fun j hj => ?_
    unfold Lib.occAt
    rw [List.drop_append_of_le_length (by omega), List.drop_eq_getElem_cons hj]
    have := hlc _ (List.getElem_mem hj)
    rw [List.cons_append, List.isPrefixOf, beq_eq_false_iff_ne.2 (fun e => this e.symm), Bool.false_and]
  have hc : Lib.cut (l ++ 58 :: t) [58] = (l, t, true) := by
    unfold Lib.cut
    rw [if_pos (by rw [hi]; omega), hi]
    simp
  have hT := cut_tells ⟨(txB b zs).toArray⟩
  rw [es, hc] at hT
  rcases hT with ⟨h1, _⟩ | ⟨_, _, _, h4⟩
  · cases h1
  · rw [h4]
    have e1 : rdR ⟨l.toArray⟩ = (b, true) := rdR_yes ⟨by omega, by rw [hl]⟩
    have e2 : (⟨t.toArray⟩ : ByteArray).size = zs.length := by show t.toArray.size = _; simp [ht]
    have e3 : tdL ⟨t.toArray⟩ zs.length = zs := by
      refine List.ext_getElem (by rw [tdL_len]) fun i h1 h2 => ?_
      have hk : zs.length - 1 - i < (⟨t.toArray⟩ : ByteArray).size := by rw [e2]; omega
      have hv : byteAt ⟨t.toArray⟩ (zs.length - 1 - i) = sgnD zs[i] := by
        rw [← byteAt_get hk]
        show t.toArray[zs.length - 1 - i] = _
        simp only [List.getElem_toArray, ht, List.getElem_map, List.getElem_reverse]
        congr 2
        omega
      have hz := hd _ (List.getElem_mem h2)
      have hs := sgnD_val (d := zs[i]) hz.1 (by omega)
      simp only [tdL, List.getElem_map, List.getElem_range, e2]
      rw [hv]
      split at hs
      · rw [sgV_dec (by omega)]; omega
      · rw [sgV_let (by omega)]; omega
    rw [e1, rgT_yes (by rw [e2]; exact n1) rfl (by rw [e2, e3]; exact h), e2, e3]
end Go.Proofs.YtlahobdopmdfmaaGreatDoor

/- ReadI -/
namespace Go.Proofs.YtlahobdopmdfmaaGreatDoor
open Go.RowKit

/-- The library's variables that reading a number meets: the table of powers of ten; two errors. -/
structure RdDoor (w : World) : Prop where
  tab : PowTab w
  syn : ∃ ev, w.cell? ⟨2, 0, none⟩ = some ev ∧ ∃ te pe, ev = .iface te pe
  rng : ∃ ev, w.cell? ⟨3, 0, none⟩ = some ev ∧ ∃ te pe, ev = .iface te pe
theorem rdDoor_below {w w' : World} (h : RdDoor w) (hb : Below w.heap.size w w') : RdDoor w' := by
  obtain ⟨h1, ⟨e2, h2, h3⟩, ⟨e4, h4, h5⟩⟩ := h
  exact ⟨powTab_below h1 hb, ⟨e2, kept hb h2, h3⟩, ⟨e4, kept hb h4, h5⟩⟩

theorem dec_ne {s : ByteArray} {n : Int} (h : ¬ ∃ v, isDec s v) (h1 : -1000000000000000000 < n) (h2 : n < 1000000000000000000) : ¬ (⟨(Lib.itoa n).toArray⟩ : ByteArray) = s :=
  fun e => h ⟨n, by omega, e.symm⟩
/-- Two texts that part, as the walk asks. -/
theorem str_ne {a b : ByteArray} (h : ¬ a = b) : (a.toList == b.toList) = false := by
  rw [beq_eq_false_iff_ne]
  intro e
  rw [Lib.toList_data, Lib.toList_data] at e
  exact h (WideShapes.bytes_inj e)
theorem i64_at {n : Int} (h1 : -9223372036854775808 ≤ n) (h2 : n ≤ 9223372036854775807) : I64 n := by
  unfold I64
  simp [Lit.wf, IntKind.min, IntKind.max, IntKind.signed, IntKind.bits]
  exact ⟨h1, h2⟩

set_option maxRecDepth 100000 in
set_option maxHeartbeats 2000000 in
theorem implReadDecimal (s : ByteArray) (w : World) (hs : s.size ≤ 1048576) (hD : RdDoor w) :
    Calls Tryz.prog 26 #[.string s] w fun e w' => e = .returned (.tuple #[.int .i64 (rdR s).1, .bool (rdR s).2]) ∧ Below w.heap.size w w' := by
  by_cases hx : ∃ v, isDec s v
  · obtain ⟨v, hv⟩ := hx
    have hr := rdR_yes hv
    obtain ⟨hv, hsv⟩ := hv
    have c1 := (Tryz.strconv_ParseInt_10_at64_ok s (by omega) v (by rw [hsv]; simpa using parse_itoa hv) w).mono (R' := fun e w' => e = .returned (.tuple #[.int .i64 v, .nilIface]) ∧ Below w.heap.size w w')
      fun e w' ⟨he, hb⟩ => ⟨he, by rcases hb with rfl | ⟨t, rfl⟩; exact Below.refl _ _; exact Joins.below_bytesWorld _ _ _ _ (Nat.le_refl _)⟩
    have c2 := fun w1 (hb : Below w.heap.size w w1) => implDecimal v w1 (i64_at (by omega) (by omega)) (powTab_below hD.tab hb)
    have h1 : -1000000000000000000 < v := by omega
    have h2 : v < 1000000000000000000 := by omega
    rw [← hsv] at c2
    have HR := Lib.hid hr
    clear hD hv hsv hr hs
    go_enter Tryz.func26, Tryz.ntmps26
    go_wp2_with (first | (go_at_call 55; refine c1.mono ?_; rintro e w1 ⟨rfl, hb⟩) | (go_at_call 31; refine (c2 _ hb).mono ?_; rintro e w2 ⟨rfl, hb2⟩))
    go_ret2
    exact ⟨by rw [HR.out]; rfl, hb.trans (hb2.mono hb.size)⟩
  · have HR := Lib.hid (rdR_no hx)
    cases hp : Lib.parseIntB 64 s.data.toList with
    | ok n =>
      have c1 := (Tryz.strconv_ParseInt_10_at64_ok s (by omega) n hp w).mono (R' := fun e w' => e = .returned (.tuple #[.int .i64 n, .nilIface]) ∧ Below w.heap.size w w')
        fun e w' ⟨he, hb⟩ => ⟨he, by rcases hb with rfl | ⟨t, rfl⟩; exact Below.refl _ _; exact Joins.below_bytesWorld _ _ _ _ (Nat.le_refl _)⟩
      have hT := hD.tab
      clear hD hp hs
      by_cases h1 : n ≤ -1000000000000000000
      · clear hx hT
        go_enter Tryz.func26, Tryz.ntmps26
        go_wp2_with (go_at_call 55; refine c1.mono ?_; rintro e w1 ⟨rfl, hb⟩)
        go_ret2
        exact ⟨by rw [HR.out]; rfl, hb⟩
      by_cases h2 : 1000000000000000000 ≤ n
      · clear hx hT
        go_enter Tryz.func26, Tryz.ntmps26
        go_wp2_with (go_at_call 55; refine c1.mono ?_; rintro e w1 ⟨rfl, hb⟩)
        go_ret2
        exact ⟨by rw [HR.out]; rfl, hb⟩
      have c2 := fun w1 (hb : Below w.heap.size w w1) => implDecimal n w1 (i64_at (by omega) (by omega)) (powTab_below hT hb)
      have hne := dec_ne hx (by omega) (by omega : n < 1000000000000000000)
      clear hx hT
      obtain ⟨S, hS⟩ : ∃ S : ByteArray, S = ⟨(Lib.itoa n).toArray⟩ := ⟨_, rfl⟩
      rw [← hS] at c2 hne
      have hneb := str_ne hne
      clear hS
      go_enter Tryz.func26, Tryz.ntmps26
      go_wp2_with (first | (go_at_call 55; refine c1.mono ?_; rintro e w1 ⟨rfl, hb⟩) | (go_at_call 31; refine (c2 _ hb).mono ?_; rintro e w2 ⟨rfl, hb2⟩))
      go_ret2
      exact ⟨by rw [HR.out]; rfl, hb.trans (hb2.mono hb.size)⟩
    | range =>
      obtain ⟨ev, h1, h2⟩ := hD.rng
      have c1 := Tryz.strconv_ParseInt_10_at64_range s (by omega) hp ev w h1 (.inr h2)
      clear hD h1 h2 hp hx
      go_enter Tryz.func26, Tryz.ntmps26
      go_wp2_with (go_at_call 55; refine c1.mono ?_; rintro e w1 ⟨N, rfl, _, _, hb⟩; clear c1)
      go_ret2
      exact ⟨by rw [HR.out]; rfl, hb⟩
    | _ =>
      obtain ⟨ev, h1, h2⟩ := hD.syn
      have c1 := Tryz.strconv_ParseInt_10_at64_syntax s (by omega) (hp.trans rfl) ev w h1 (.inr h2)
      clear hD h1 h2 hp hx
      go_enter Tryz.func26, Tryz.ntmps26
      go_wp2_with (go_at_call 55; refine c1.mono ?_; rintro e w1 ⟨N, rfl, _, _, hb⟩; clear c1)
      go_ret2
      exact ⟨by rw [HR.out]; rfl, hb⟩
end Go.Proofs.YtlahobdopmdfmaaGreatDoor

/- App -/
namespace Go.Proofs.YtlahobdopmdfmaaGreatDoor
open Go.RowKit

section
variable {P : Program} {ops : Array Oper} {rest : List Oper} {o : Oper} {a : Act} {Q : Exit → Act → World → Prop} {w : World}

/-- One cell more, appended to a row of the call's own. -/
theorem wp_app1 {K : Act → World → Prop} (s x : Operand) (t e : TypeId) (ho : o.op = .call { callee := .builtin .append, args := #[s, x], argTypes := #[t, t] }) (z0 : Value) (bytes : Nat)
    (ht : P.underlying t = some (.slice e)) (hinfo : (P.info? e).map (fun i => (i.zero, i.size, i.bytes)) = some (some z0, 1, bytes)) (hz1 : z0.cells.size = 1) (hby : bytes ≤ 64) {lo hi n : Nat} {A : Option Addr} {C : Nat} {cs : List Value}
    (hs : a.eval s = .slice A n C) (row : w.ownsRow lo e 1 (.slice A n C) n cs) (top : ∀ k, (Value.slice A n C).ownBlock = some k → k < hi)
    (ad : Addr) (c : Nat) (u : Value) (hx : a.eval x = .slice (some ad) 1 c) (hc : w.cell? (ad.add 0) = some u) (h1 : u.oneCell' = true) (hn : n ≤ 2000000000) (hlo : lo ≤ w.heap.size)
    (h : ∀ A' C' w', w'.ownsRow lo e 1 (.slice A' (n + 1) C') (n + 1) (cs ++ [u]) → (∀ k, (Value.slice A' (n + 1) C').ownBlock = some k → k < w'.heap.size) → Touch lo hi w w' → K (a.put o.dst (.slice A' (n + 1) C')) w') :
    o.wp P a w K Q := by
  obtain ⟨i, hi1, hi2, hi3, hi4⟩ := info_parts hinfo
  refine wp_append_own w s x t ho lo e i z0 1 bytes ht hi1 hi2 hi3 hi4 hz1 (by omega) _ n cs hs row ad 1 c [u] hx rfl ?_ (by simpa using h1) (by unfold maxLen; omega) ?_ hlo ?_
  · intro j v hj
    match j, hj with
    | 0, hj => simp at hj; subst hj; exact hc
  · have : (n + 1) * bytes ≤ 2000000001 * 64 := Nat.mul_le_mul (by omega) hby
    omega
  · intro v' w' hown hg _
    have hT : Touch lo hi w w' := ⟨hg.os, hg.tape, hg.output, hg.size, fun k hk ho' => hg.block k hk (by
      intro he
      have h2 := top k he.symm
      have h3 := (row.lt k he.symm).1
      omega)⟩
    have hform : ∃ A' C', v' = .slice A' (n + 1) C' := by
      rcases hown.2 with ⟨_, h0⟩ | ⟨g, cap, cur, hv, _⟩
      · omega
      · exact ⟨_, _, hv⟩
    obtain ⟨A', C', rfl⟩ := hform
    exact h A' C' w' hown (fun k hk => (hown.lt k hk).2) hT

/-- The same for numbers. -/
theorem wp_appI {K : Act → World → Prop} (s x : Operand) (t e : TypeId) (ho : o.op = .call { callee := .builtin .append, args := #[s, x], argTypes := #[t, t] })
    (ht : P.underlying t = some (.slice e)) (hinfo : (P.info? e).map (fun i => (i.zero, i.size, i.bytes)) = some (some (.int .i64 0), 1, 8)) {lo hi n : Nat} {A : Option Addr} {C : Nat} {zs : List Int}
    (hs : a.eval s = .slice A n C) (hown : Own e w lo hi (.slice A n C) zs) (hl : zs.length = n)
    (ad : Addr) (c : Nat) (z : Int) (hx : a.eval x = .slice (some ad) 1 c) (hc : w.cell? (ad.add 0) = some (.int .i64 z)) (hn : n < 1000000000) (hlo : lo ≤ w.heap.size)
    (h : ∀ A' C' w', Own e w' lo w'.heap.size (.slice A' (n + 1) C') (zs ++ [z]) → Touch lo hi w w' → K (a.put o.dst (.slice A' (n + 1) C')) w') :
    o.wp P a w K Q :=
  wp_app1 s x t e ho _ 8 ht hinfo rfl (by omega) hs (by have := hown.row; rwa [hl] at this) hown.top ad c _ hx hc rfl (by omega) hlo fun A' C' w' hr ht' hT =>
    h A' C' w' ⟨by simpa [hl] using hr, ht', by simp; omega⟩ hT

theorem wpList_appI (hgd : o.guard = none) (s x : Operand) (t e : TypeId) (ho : o.op = .call { callee := .builtin .append, args := #[s, x], argTypes := #[t, t] })
    (ht : P.underlying t = some (.slice e)) (hinfo : (P.info? e).map (fun i => (i.zero, i.size, i.bytes)) = some (some (.int .i64 0), 1, 8)) {lo hi n : Nat} {A : Option Addr} {C : Nat} {zs : List Int}
    (hs : a.eval s = .slice A n C) (hown : Own e w lo hi (.slice A n C) zs) (hl : zs.length = n)
    (ad : Addr) (c : Nat) (z : Int) (hx : a.eval x = .slice (some ad) 1 c) (hc : w.cell? (ad.add 0) = some (.int .i64 z)) (hn : n < 1000000000) (hlo : lo ≤ w.heap.size)
    (h : ∀ A' C' w', Own e w' lo w'.heap.size (.slice A' (n + 1) C') (zs ++ [z]) → Touch lo hi w w' → wpList P ops Q rest (a.put o.dst (.slice A' (n + 1) C')) w') :
    wpList P ops Q (o :: rest) a w :=
  wpList_plain hgd fun _ hK => wp_appI s x t e ho ht hinfo hs hown hl ad c z hx hc hn hlo fun A' C' w' h1 h2 => hK _ _ (h A' C' w' h1 h2)
end

theorem own_nil (e : TypeId) (w : World) (lo hi : Nat) : Own e w lo hi (.slice none 0 0) [] := ⟨World.ownsRow_nil _ _ _ _, by simp [Value.ownBlock], by simp⟩

section
variable {t : TypeId} {w : World} {lo hi g n c : Nat} {zs : List Int}
theorem Own.get (h : Own t w lo hi (.slice (some ⟨g, 0, none⟩) n c) zs) {j : Nat} (hj : j < zs.length) : w.cell? ⟨g, j, none⟩ = some (.int .i64 (nth zs j)) := by
  have hn : n = zs.length := by
    rcases h.row.2 with ⟨h0, _⟩ | ⟨_, _, _, hv, _⟩
    · cases h0
    · injection hv
  subst hn
  rw [h.row.cellAt j (by omega), List.getElem?_map, List.getElem?_eq_getElem hj, nth_get hj]
  rfl
theorem Own.thaw (h : Own t w lo hi (.slice (some ⟨g, 0, none⟩) n c) zs) (j : Nat) : w.frozen? ⟨g, j, none⟩ = false := by
  have hn : n = zs.length := by
    rcases h.row.2 with ⟨h0, _⟩ | ⟨_, _, _, hv, _⟩
    · cases h0
    · injection hv
  subst hn
  exact h.row.frozenAt j
theorem Own.put (h : Own t w lo hi (.slice (some ⟨g, 0, none⟩) n c) zs) (j : Nat) (z : Int) : Own t (w.setCell ⟨g, j, none⟩ (.int .i64 z)) lo hi (.slice (some ⟨g, 0, none⟩) n c) (zs.set j z) := by
  have hn : n = zs.length := by
    rcases h.row.2 with ⟨h0, _⟩ | ⟨_, _, _, hv, _⟩
    · cases h0
    · injection hv
  subst hn
  have hs := (h.row.stored j (.int .i64 z)).1
  rw [← List.map_set] at hs
  exact ⟨by simpa using hs, h.top, by simpa using h.len⟩
theorem Own.block (h : Own t w lo hi (.slice (some ⟨g, 0, none⟩) n c) zs) : lo ≤ g ∧ g < hi ∧ g < w.heap.size := h.lo_le rfl
end

/-- Numbers with noughts behind them, up to n. -/
def pad (n : Nat) (zs : List Int) : List Int := zs ++ List.replicate (n - zs.length) 0
theorem pad_len {n : Nat} {zs : List Int} (h : zs.length ≤ n) : (pad n zs).length = n := by simp [pad]; omega
theorem pad_nil (n : Nat) : pad n [] = List.replicate n 0 := by simp [pad]
theorem pad_set {n : Nat} {zs : List Int} (h : zs.length < n) (z : Int) : (pad n zs).set zs.length z = pad n (zs ++ [z]) := by
  unfold pad
  rw [List.set_append_right _ _ (Nat.le_refl _), Nat.sub_self]
  have : n - zs.length = (n - (zs ++ [z]).length) + 1 := by simp; omega
  rw [this, List.replicate_succ, List.set_cons_zero, List.append_assoc, List.singleton_append]
theorem pad_all {n : Nat} {zs : List Int} (h : zs.length = n) : pad n zs = zs := by simp [pad, h]

/-- make([]int64, n). -/
theorem wpList_makeI {P : Program} {w : World} {ops : Array Oper} {rest : List Oper} {o : Oper} {a : Act} {Q : Exit → Act → World → Prop}
    (hg : o.guard = none) (l c : Operand) (t e : TypeId) (hop : o.op = Op.makeSlice t l c) (h1 : P.underlying t = some (.slice e))
    (hinfo : (P.info? e).map (fun i => (i.zero, i.size, i.bytes)) = some (some (.int .i64 0), 1, 8))
    (n : Nat) (hl : a.eval l = .int .i64 n) (hc : a.eval c = .int .i64 n) (hn : n ≤ 1000000000)
    (hK : ∀ w', Own e w' w.heap.size w'.heap.size (.slice (some ⟨w.heap.size, 0, none⟩) n n) (pad n []) → Below w.heap.size w w' → wpList P ops Q rest (a.put o.dst (.slice (some ⟨w.heap.size, 0, none⟩) n n)) w') :
    wpList P ops Q (o :: rest) a w := by
  obtain ⟨i, hi1, hi2, hi3, hi4⟩ := info_parts hinfo
  refine wpList_make_full w hg l c t hop w.heap.size e i _ 1 h1 hi1 hi2 hi3 .i64 .i64 n n n hl hc rfl rfl (by rw [hi4]; omega) (by unfold maxLen; omega) (Nat.le_refl _) fun w' hown hgr => ?_
  have hrow : w'.ownsRow w.heap.size e 1 (.slice (some ⟨w.heap.size, 0, none⟩) n n) (pad n []).length ((pad n []).map (Value.int .i64)) := by
    rw [pad_len (by simp)]
    simpa [pad_nil, toList_madeCells_one, Value.cells] using hown
  exact hK w' ⟨hrow, fun k hk => (hown.lt k hk).2, by rw [pad_len (by simp)]; exact hn⟩ ((Below.refl _ _).grown hgr (Nat.le_refl _) (by simp))
end Go.Proofs.YtlahobdopmdfmaaGreatDoor

/- ToI -/
namespace Go.Proofs.YtlahobdopmdfmaaGreatDoor
open Go.RowKit

theorem info_int64 : (Tryz.prog.info? 2).map (fun i => (i.zero, i.size, i.bytes)) = some (some (.int .i64 0), 1, 8) := by kernel_rfl

/-- What has been copied when k rounds are over. -/
def cop (zs : List Int) (k : Nat) : List Int := zs.take k ++ List.replicate (zs.length - k) 0
theorem cop_len {zs : List Int} {k : Nat} (h : k ≤ zs.length) : (cop zs k).length = zs.length := by simp [cop, Nat.min_eq_left h]; omega
theorem cop_set {zs : List Int} {k : Nat} (h : k < zs.length) : (cop zs k).set k (nth zs k) = cop zs (k + 1) := by
  unfold cop
  rw [List.set_append_right _ _ (by simp; omega), nth_get h]
  have : zs.length - k = (zs.length - (k + 1)) + 1 := by omega
  rw [this, List.replicate_succ, List.take_succ_eq_append_getElem h, List.length_take, Nat.min_eq_left (Nat.le_of_lt h), Nat.sub_self, List.set_cons_zero, List.append_assoc, List.singleton_append]
theorem cop_all (zs : List Int) : cop zs zs.length = zs := by simp [cop]

end Go.Proofs.YtlahobdopmdfmaaGreatDoor

/- RgI -/
namespace Go.Proofs.YtlahobdopmdfmaaGreatDoor
open Go.RowKit

theorem rgDec_t (c : Int) (w : World) (h : 48 ≤ c ∧ c ≤ 57) : Calls Tryz.prog 97 #[.int .i32 c] w fun e w' => e = .returned (.bool true) ∧ w' = w := by
  obtain ⟨h1, h2⟩ := h
  go_enter Tryz.func97, Tryz.ntmps97
  go_wp2
  go_ret
  exact ⟨ret_bool (by simp), rfl⟩
theorem rgDec_f (c : Int) (w : World) (h : ¬ (48 ≤ c ∧ c ≤ 57)) : Calls Tryz.prog 97 #[.int .i32 c] w fun e w' => e = .returned (.bool false) ∧ w' = w := by
  by_cases h1 : 48 ≤ c
  · have h2 : ¬ c ≤ 57 := by omega
    clear h
    go_enter Tryz.func97, Tryz.ntmps97
    go_wp2
    go_ret
    exact ⟨ret_bool (by simp), rfl⟩
  · clear h
    go_enter Tryz.func97, Tryz.ntmps97
    go_wp2
    go_ret
    exact ⟨rfl, rfl⟩

/-- A sign's digit, in the program. -/
theorem signDigit_t (c : Nat) (w : World) (h : ¬ sgV c = -1) : Calls Tryz.prog 57 #[.int .i32 (c : Int)] w fun e w' => e = .returned (.tuple #[.int .i64 (sgV c), .bool true]) ∧ w' = w := by
  by_cases h1 : 48 ≤ (c : Int) ∧ (c : Int) ≤ 57
  · have HV := Lib.hid (sgV_dec (c := c) (by omega))
    have c1 := fun w => rgDec_t (c : Int) w h1
    obtain ⟨h2, h3⟩ := h1
    clear h
    go_enter Tryz.func57, Tryz.ntmps57
    go_wp2_with (go_at_call 97; refine (c1 _).mono ?_; rintro e w' ⟨rfl, rfl⟩)
    go_ret2
    exact ⟨by rw [HV.out]; rfl, rfl⟩
  · have h4 : 97 ≤ (c : Int) ∧ (c : Int) ≤ 102 := by
      by_cases h5 : 97 ≤ c ∧ c ≤ 102
      · omega
      · exact absurd (sgV_no (by omega) h5) h
    have HV := Lib.hid (sgV_let (c := c) (by omega))
    have c1 := fun w => rgDec_f (c : Int) w h1
    obtain ⟨h2, h3⟩ := h4
    clear h h1
    go_enter Tryz.func57, Tryz.ntmps57
    go_wp2_with (go_at_call 97; refine (c1 _).mono ?_; rintro e w' ⟨rfl, rfl⟩)
    go_ret2
    exact ⟨by rw [HV.out, show (c : Int) - 87 = (c : Int) - 97 + 10 by omega]; rfl, rfl⟩
theorem signDigit_f (c : Nat) (w : World) (h : sgV c = -1) : Calls Tryz.prog 57 #[.int .i32 (c : Int)] w fun e w' => e = .returned (.tuple #[.int .i64 0, .bool false]) ∧ w' = w := by
  have h1 : ¬ (48 ≤ (c : Int) ∧ (c : Int) ≤ 57) := fun hh => by have := sgV_dec (c := c) (by omega); omega
  have h4 : ¬ (97 ≤ (c : Int) ∧ (c : Int) ≤ 102) := fun hh => by have := sgV_let (c := c) (by omega); omega
  have c1 := fun w => rgDec_f (c : Int) w h1
  by_cases h5 : 97 ≤ (c : Int)
  · have h6 : ¬ (c : Int) ≤ 102 := by omega
    clear h h1 h4
    go_enter Tryz.func57, Tryz.ntmps57
    go_wp2_with (go_at_call 97; refine (c1 _).mono ?_; rintro e w' ⟨rfl, rfl⟩)
    go_ret2
    exact ⟨rfl, rfl⟩
  · clear h h1 h4
    go_enter Tryz.func57, Tryz.ntmps57
    go_wp2_with (go_at_call 97; refine (c1 _).mono ?_; rintro e w' ⟨rfl, rfl⟩)
    go_ret2
    exact ⟨rfl, rfl⟩

/-- What is decoded is a sign just if the byte is one; then it is one byte. -/
theorem dec_sg {s : ByteArray} {k c z : Nat} (h : k < s.size) (hd : Utf8.decode s k = (c, z)) : sgV c = sgV (byteAt s k).toNat ∧ (¬ sgV c = -1 → z = 1) := by
  rw [← byteAt_get h]
  rcases Nat.lt_or_ge (s[k]'h).toNat 128 with h1 | h1
  · rw [decode_ascii s k h h1] at hd
    injection hd with h2 h3
    subst h2
    exact ⟨rfl, fun _ => h3.symm⟩
  · have h2 := (decode_high s k h h1).1
    rw [hd] at h2
    have h3 : 128 ≤ c := h2
    have h4 : sgV c = -1 := sgV_no (by omega) (by omega)
    exact ⟨by rw [h4, sgV_no (by omega) (by omega)], fun h5 => absurd h4 h5⟩

/-- A store ahead of an object that was made last. -/
theorem alloc_put (X : World) (o : Obj) {p : Addr} (hp : p.block < X.heap.size) (u : Value) : (X.alloc o).setCell p u = (X.setCell p u).alloc o := by
  unfold World.setCell World.alloc
  congr 1
  refine Array.ext (by simp) fun i h1 h2 => ?_
  simp only [Array.getElem_modify, Array.getElem_push, Array.size_modify]
  by_cases hi : i < X.heap.size
  · simp [hi]
  · simp only [hi, dite_false]
    rw [if_neg (by omega)]

theorem iterPos_at {X : World} {N : Nat} {s : ByteArray} {p : Nat} (h : X.heap.size = N) : (X.iter s p).iterPos N = p := by subst h; exact World.iterPos_iter X s p

/-- The library's variables that reading a register meets. -/
structure RgDoor (w : World) : Prop where
  rd : RdDoor w
  max : ∃ m, w.cell? ⟨1, 0, none⟩ = some (.int .i64 m)
theorem rgDoor_below {w w' : World} (h : RgDoor w) (hb : Below w.heap.size w w') : RgDoor w' := by
  obtain ⟨h1, m, h2⟩ := h
  exact ⟨rdDoor_below h1 hb, m, kept hb h2⟩

theorem rdR_64 (s : ByteArray) : I64 (rdR s).1 := by
  by_cases h : ∃ v, isDec s v
  · obtain ⟨v, hv⟩ := h
    rw [rdR_yes hv]
    have := hv.1
    exact i64_at (by show _ ≤ v; omega) (by show v ≤ _; omega)
  · rw [rdR_no h]; exact i64_at (by decide) (by decide)

/-- What a call of ReadRegister leaves. -/
def RgPost (s : ByteArray) (w : World) (e : Ending) (w' : World) : Prop := ∃ A C,
  e = .returned (.tuple #[.agg #[.int .i64 (rgR s).1, .slice A (rgR s).2.1.length C], .bool (rgR s).2.2]) ∧ Own 2 w' w.heap.size w'.heap.size (.slice A (rgR s).2.1.length C) (rgR s).2.1 ∧ Below w.heap.size w w'
theorem rgPost_no {s : ByteArray} {w w' : World} {e : Ending} (h : rgR s = (0, [], false)) (he : e = .returned (.tuple #[.agg #[.int .i64 0, .slice none 0 0], .bool false])) (hb : Below w.heap.size w w') : RgPost s w e w' := by
  refine ⟨none, 0, ?_, ?_, hb⟩
  · rw [h]; exact he
  · rw [h]; exact own_nil _ _ _ _
theorem rgPost_yes {s : ByteArray} {b : Int} {zs : List Int} {m : Nat} {w w' : World} {A : Option Addr} {C lo hi : Nat} {e : Ending} (h : rgR s = (b, zs, true)) (hm : zs.length = m) (he : e = .returned (.tuple #[.agg #[.int .i64 b, .slice A m C], .bool true]))
    (ho : Own 2 w' lo hi (.slice A m C) zs) (hl : w.heap.size ≤ lo) (hh : hi ≤ w'.heap.size) (hb : Below w.heap.size w w') : RgPost s w e w' := by
  subst hm
  refine ⟨A, C, ?_, ?_, hb⟩
  · rw [h]; exact he
  · rw [h]; exact ho.wide hl hh

set_option maxRecDepth 100000 in
set_option maxHeartbeats 4000000 in
theorem implReadRegister (s : ByteArray) (w : World) (hs : s.size ≤ 1048576) (hD : RgDoor w) :
    Calls Tryz.prog 27 #[.string s] w (RgPost s w) := by
  obtain ⟨V, hV⟩ : ∃ V, V = w.alloc (.cells #[.int .i64 0, .slice none 0 0] 26) := ⟨_, rfl⟩
  have bx : Bx V w.heap.size 26 #[.int .i64 0, .slice none 0 0] := by rw [hV]; exact Bx.new _ _ _
  have hbV : Below w.heap.size w V := by rw [hV]; exact (Below.refl _ _).alloc (Nat.le_refl _) _
  have hDV := rgDoor_below hD hbV
  obtain ⟨hR, m, hM⟩ := hDV
  have c1 := Tryz.strings_Cut s ⟨#[58]⟩ m V (by omega) hM
  rw [show (⟨#[58]⟩ : ByteArray).data.toList = [58] from rfl] at c1
  have ht := cut_tells s
  obtain ⟨H, hH⟩ : ∃ H : ByteArray, H = ⟨(Lib.cut s.data.toList [58]).1.toArray⟩ := ⟨_, rfl⟩
  obtain ⟨T, hT⟩ : ∃ T : ByteArray, T = ⟨(Lib.cut s.data.toList [58]).2.1.toArray⟩ := ⟨_, rfl⟩
  obtain ⟨F, hF⟩ : ∃ F : Bool, F = (Lib.cut s.data.toList [58]).2.2 := ⟨_, rfl⟩
  rw [← hH, ← hT, ← hF] at c1
  rw [← hH, ← hT, ← hF] at ht
  clear hH hT hF hD
  have HV := Lib.hid hV
  rcases ht with ⟨rfl, hHs, hr⟩ | ⟨rfl, hHs, hTs, hr⟩
  · have c2 := fun n => implReadDecimal H (V.drewN n) (by omega) (rdDoor_below hR (bel_drewN (Below.refl _ _) n))
    have h64 := rdR_64 H
    generalize rdR H = R at c2 hr h64
    obtain ⟨b, ok⟩ := R
    have HR := Lib.hid hr
    clear hr hR hM hV
    go_enter Tryz.func27, Tryz.ntmps27
    go_wp2_with fail
    rw [← HV.out]
    refine c1.mono ?_
    rintro e w1 ⟨rfl, n, rfl⟩
    go_wp2_with fail
    refine (c2 n).mono ?_
    rintro e w2 ⟨rfl, hb2⟩
    have hbx := (bel_drewN (Below.refl V.heap.size V) n).trans hb2
    replace bx := bx.below hbx
    replace hb2 := hbV.trans (hbx.mono hbV.size)
    clear hbx c1 c2 HV hbV
    have c0 := bx.at_ 0 rfl
    have c1 := bx.at_ 1 rfl
    have f0 := bx.thaw 0
    have f1 := bx.thaw 1
    go_wp2
    exact bodyPost_ret (v := .tuple #[.agg #[.int .i64 0, .slice none 0 0], .bool false]) (by simp [results, Tryz.results27, go_sem, c0, c1]) rfl
      (rgPost_no HR.out rfl (by repeat (first | exact hb2 | refine Below.setCell ?_ (by first | omega | (simp <;> omega)) _ | refine Below.alloc ?_ (by first | omega | (simp <;> omega)) _ | refine Below.drew ?_)))
  · have c2 := fun n => implReadDecimal H (V.drewN n) (by omega) (rdDoor_below hR (bel_drewN (Below.refl _ _) n))
    have h64 := rdR_64 H
    generalize rdR H = R at c2 hr h64
    obtain ⟨b, ok⟩ := R
    have HR := Lib.hid hr
    clear hr hR hM hV
    go_enter Tryz.func27, Tryz.ntmps27
    go_wp2_with fail
    rw [← HV.out]
    refine c1.mono ?_
    rintro e w1 ⟨rfl, n, rfl⟩
    go_wp2_with fail
    refine (c2 n).mono ?_
    rintro e w2 ⟨rfl, hb2⟩
    have hbx := (bel_drewN (Below.refl V.heap.size V) n).trans hb2
    replace bx := bx.below hbx
    replace hb2 := hbV.trans (hbx.mono hbV.size)
    clear hbx c1 c2 HV hbV
    cases ok with
    | false =>
      have HN := Lib.hid (HR.out.trans (rgT_head rfl))
      have c0 := bx.at_ 0 rfl
      have c1 := bx.at_ 1 rfl
      have f0 := bx.thaw 0
      have f1 := bx.thaw 1
      clear HR
      go_wp2
      exact bodyPost_ret (v := .tuple #[.agg #[.int .i64 0, .slice none 0 0], .bool false]) (by simp [results, Tryz.results27, go_sem, c0, c1]) rfl
        (rgPost_no HN.out rfl (by repeat (first | exact hb2 | refine Below.setCell ?_ (by first | omega | (simp <;> omega)) _ | refine Below.alloc ?_ (by first | omega | (simp <;> omega)) _ | refine Below.drew ?_)))
    | true =>
      rcases Nat.lt_or_ge 16 T.size with hl | hl
      · have HN := Lib.hid (HR.out.trans (rgT_long hl))
        have c0 := bx.at_ 0 rfl
        have c1 := bx.at_ 1 rfl
        have f0 := bx.thaw 0
        have f1 := bx.thaw 1
        clear HR
        go_wp2
        exact bodyPost_ret (v := .tuple #[.agg #[.int .i64 0, .slice none 0 0], .bool false]) (by simp [results, Tryz.results27, go_sem, c0, c1]) rfl
          (rgPost_no HN.out rfl (by repeat (first | exact hb2 | refine Below.setCell ?_ (by first | omega | (simp <;> omega)) _ | refine Below.alloc ?_ (by first | omega | (simp <;> omega)) _ | refine Below.drew ?_)))
      · go_wp2_with (at_make; go_must (refine wpList_makeI rfl _ _ _ 2 rfl Tryz.underlying24 info_int64 T.size rfl rfl (by omega) ?_); intro w3 hown hb3)
        have HB := Lib.hid hb3.size
        obtain ⟨X0, hX0⟩ : ∃ X0, X0 = w3.alloc (.cells #[.int .i64 b, .slice (some ⟨w2.heap.size, 0, none⟩) T.size T.size] 26) := ⟨_, rfl⟩
        have z0 : X0.heap.size = w3.heap.size + 1 := by rw [hX0]; simp
        have bx0 : Bx X0 w.heap.size 26 #[.int .i64 0, .slice none 0 0] := by rw [hX0]; exact (bx.below hb3).alloc _
        have by0 : Bx X0 w3.heap.size 26 #[.int .i64 b, .slice (some ⟨w2.heap.size, 0, none⟩) T.size T.size] := by rw [hX0]; exact Bx.new _ _ _
        have ow0 : Own 2 X0 w2.heap.size w3.heap.size (.slice (some ⟨w2.heap.size, 0, none⟩) T.size T.size) (tdP T 0) := by
          rw [hX0, tdP_zero, ← pad_nil]; exact hown.alloc _
        have bl0 : Below w.heap.size w X0 := by rw [hX0]; exact (hb2.trans (hb3.mono hb2.size)).alloc (Nat.le_trans hb2.size HB.out) _
        have HX := Lib.hid hX0
        have HZ := Lib.hid (show w.heap.size < w2.heap.size ∧ w2.heap.size < w3.heap.size from ⟨bx.lt, (hown.lo_le rfl).2.1⟩)
        clear hX0 bx hown hb3 hb2
        go_loopw [10] (fun _ wr => ∃ (k : Nat) (X : World), k ≤ T.size ∧ X.heap.size = w3.heap.size + 1 ∧ wr = X.iter T k ∧ Bx X w.heap.size 26 #[.int .i64 0, .slice none 0 0] ∧
            Bx X w3.heap.size 26 #[.int .i64 b, .slice (some ⟨w2.heap.size, 0, none⟩) T.size T.size] ∧ Own 2 X w2.heap.size w3.heap.size (.slice (some ⟨w2.heap.size, 0, none⟩) T.size T.size) (tdP T k) ∧ Below w.heap.size w X)
          (fun _ wr => T.size - wr.iterPos (w3.heap.size + 1))
        case atStart => exact ⟨0, X0, Nat.zero_le _, z0, by rw [HX.out], bx0, by0, ow0, bl0⟩
        case round =>
          clear bx0 by0 ow0 bl0 z0 HX
          obtain ⟨k, X, hk, hz, rfl, bx, by_, ow, bl⟩ := hrel
          by_cases hlt : k < T.size
          · have hnx := fun ty => run_next_any (P := Tryz.prog) X T k ty hlt
            rw [hz] at hnx
            obtain ⟨c, z, hd⟩ : ∃ c z, Utf8.decode T k = (c, z) := ⟨_, _, rfl⟩
            obtain ⟨hc, hzz⟩ := dec_sg hlt hd
            have hle : c ≤ 2147483647 := by have := decode_le T k; rw [hd] at this; exact this
            rw [hd] at hnx
            clear hd
            by_cases hsg : sgV c = -1
            · have HN := Lib.hid (HR.out.trans (rgT_bad (okB_sign hlt (hc ▸ hsg))))
              have c2 := fun w => signDigit_f c w hsg
              have bx' : Bx (X.iter T (k + z)) w.heap.size 26 #[.int .i64 0, .slice none 0 0] := bx.alloc _
              have hbl : Below w.heap.size w (X.iter T (k + z)) := bl.alloc bl.size _
              have c0 := bx'.at_ 0 rfl
              have c1 := bx'.at_ 1 rfl
              have f0 := bx'.thaw 0
              have f1 := bx'.thaw 1
              clear hzz hc hsg by_ ow bx bl bx' HR
              go_wp2_with (go_at_call 57; refine (c2 _).mono ?_; rintro e w' ⟨rfl, rfl⟩)
              exact bodyPost_ret (v := .tuple #[.agg #[.int .i64 0, .slice none 0 0], .bool false]) (by simp [results, Tryz.results27, go_sem, c0, c1]) rfl
                (rgPost_no HN.out rfl (by repeat (first | exact hbl | refine Below.setCell ?_ (by first | omega | (simp <;> omega)) _ | refine Below.alloc ?_ (by first | omega | (simp <;> omega)) _ | refine Below.drew ?_)))
            · obtain rfl : z = 1 := hzz hsg
              have c2 := fun w => signDigit_t c w hsg
              have hst := tdP_step hlt
              rw [← hc] at hst
              have hj : T.size - 1 - k < (tdP T k).length := by rw [tdP_len]; omega
              have g0 : (X.iter T (k + 1)).cell? ⟨w3.heap.size, 1, none⟩ = some (.slice (some ⟨w2.heap.size, 0, none⟩) T.size T.size) := kept_alloc (by_.at_ 1 rfl) _
              have g1 : (X.iter T (k + 1)).cell? ⟨w2.heap.size, T.size - 1 - k, none⟩ = some (.int .i64 (nth (tdP T k) (T.size - 1 - k))) := kept_alloc (ow.get hj) _
              have g2 : (X.iter T (k + 1)).frozen? ⟨w2.heap.size, T.size - 1 - k, none⟩ = false := (ow.alloc (.stringIter T (k + 1))).thaw _
              have hput := ow.put (T.size - 1 - k) (sgV c)
              rw [hst] at hput
              have HP := Lib.hid hput
              have e1 : ((T.size : Int) - 1 - (k : Int)) = ((T.size - 1 - k : Nat) : Int) := by omega
              clear hzz hc hput hst HR
              go_wp2_with (go_at_call 57; refine (c2 _).mono ?_; rintro e w' ⟨rfl, rfl⟩)
              go_roundw
              case rel =>
                have hz1 := HZ.out
                exact ⟨k + 1, X.setCell ⟨w2.heap.size, T.size - 1 - k, none⟩ (.int .i64 (sgV c)), by omega, by simpa using hz, alloc_put X _ (by simp; omega) _, bx.far (by simp; omega) _, by_.far (by simp; omega) _, HP.out, bl.setCell (by simp; omega) _⟩
              case measure =>
                have hz1 := HZ.out
                rw [show (X.iter T (k + 1)).setCell ⟨w2.heap.size, T.size - 1 - k, none⟩ (.int .i64 (sgV c)) = (X.setCell ⟨w2.heap.size, T.size - 1 - k, none⟩ (.int .i64 (sgV c))).iter T (k + 1) from alloc_put X _ (by simp; omega) _,
                  iterPos_at (by simpa using hz), iterPos_at hz]
                omega
          · have hnx := fun ty => run_next_end (P := Tryz.prog) X T k ty hlt
            rw [hz] at hnx
            obtain rfl : k = T.size := by omega
            obtain ⟨Y, hY⟩ : ∃ Y, Y = X.iter T T.size := ⟨_, rfl⟩
            have hbY : Below X.heap.size X Y := by rw [hY]; exact (Below.refl _ _).alloc (Nat.le_refl _) _
            rw [← hY] at hnx ⊢
            rw [tdP_last] at ow
            have bxY := bx.below hbY
            have byY := by_.below hbY
            have owY := ow.below hbY
            have blY := bl.trans (hbY.mono bl.size)
            have HL := Lib.hid (tdL_len T T.size)
            have h64s : All64 (tdL T T.size) := fun d hd => i64_at (by have := tdL_all T T.size d hd; omega) (by have := tdL_all T T.size d hd; omega)
            have c3 := implValidRegister b (some ⟨w2.heap.size, 0, none⟩) T.size (tdL T T.size) Y (owY.rd) h64s h64
            rw [HL.out] at c3
            have g0 := byY.at_ 0 rfl
            have g1 := byY.at_ 1 rfl
            have HYs := Lib.hid (show w3.heap.size + 1 < Y.heap.size by rw [hY]; simp [World.iter, hz])
            clear h64s hY bx by_ ow bl hbY
            cases hok : okB b (tdL T T.size)
            · have HN := Lib.hid (HR.out.trans (rgT_bad hok))
              rw [hok] at c3
              clear hok HR g0 g1
              have g0 := byY.at_ 0 rfl
              have g1 := byY.at_ 1 rfl
              go_wp2_with (go_at_call 58; refine c3.mono ?_; rintro e w4 ⟨rfl, hb4⟩; have bx4 := bxY.below hb4; have c0 := bx4.at_ 0 rfl; have c1 := bx4.at_ 1 rfl; have f0 := bx4.thaw 0; have f1 := bx4.thaw 1)
              exact bodyPost_ret (v := .tuple #[.agg #[.int .i64 0, .slice none 0 0], .bool false]) (by simp [results, Tryz.results27, go_sem, c0, c1]) rfl
                (rgPost_no HN.out rfl (by repeat (first | exact blY.trans (hb4.mono blY.size) | refine Below.setCell ?_ (by first | omega | (simp <;> omega)) _ | refine Below.alloc ?_ (by first | omega | (simp <;> omega)) _ | refine Below.drew ?_)))
            · have HN := Lib.hid (HR.out.trans (rgT_yes (by omega) rfl hok))
              rw [hok] at c3
              clear hok HR
              go_wp2_with (go_at_call 58; refine c3.mono ?_; rintro e w4 ⟨rfl, hb4⟩; have bx4 := bxY.below hb4; have by4 := byY.below hb4; have c0 := bx4.at_ 0 rfl; have c1 := bx4.at_ 1 rfl; have f0 := bx4.thaw 0; have f1 := bx4.thaw 1; have d0 := by4.at_ 0 rfl; have d1 := by4.at_ 1 rfl)
              exact bodyPost_ret (v := .tuple #[.agg #[.int .i64 b, .slice (some ⟨w2.heap.size, 0, none⟩) T.size T.size], .bool true]) (by simp [results, Tryz.results27, go_sem, c0, c1]) rfl
                (rgPost_yes HN.out HL.out rfl (lo := w2.heap.size) (hi := w3.heap.size) (((owY.below hb4).setCell (p := ⟨w.heap.size, 0, none⟩) (.inl HZ.out.1) _).setCell (p := ⟨w.heap.size, 1, none⟩) (.inl HZ.out.1) _) (Nat.le_of_lt HZ.out.1)
                  (by have h1 := HYs.out; have h2 := hb4.size; simp; omega) (by repeat (first | exact blY.trans (hb4.mono blY.size) | refine Below.setCell ?_ (by first | omega | (simp <;> omega)) _ | refine Below.alloc ?_ (by first | omega | (simp <;> omega)) _ | refine Below.drew ?_)))
end Go.Proofs.YtlahobdopmdfmaaGreatDoor

/- ReadS -/
namespace Go.Proofs.YtlahobdopmdfmaaGreatDoor
open Go.RowKit

/-- What is left of s behind a sign says the number, if s is the form of one. -/
def Rest (s : ByteArray) (l : List UInt8) (neg : Bool) : Prop := ∀ v, isDec s v → l = Lib.decDigits v.natAbs ∧ v = if neg then -(v.natAbs : Int) else (v.natAbs : Int)
theorem dec_list {s : ByteArray} {v : Int} (h : isDec s v) : (0 ≤ v ∧ s.data.toList = Lib.decDigits v.natAbs) ∨ (v < 0 ∧ s.data.toList = 45 :: Lib.decDigits v.natAbs) := by
  rw [h.2]
  unfold Lib.itoa
  by_cases hv : v < 0
  · exact .inr ⟨hv, by rw [if_pos hv]⟩
  · exact .inl ⟨by omega, by rw [if_neg hv, show v.toNat = v.natAbs by omega]⟩
theorem rest_pos {s : ByteArray} {c : UInt8} {l : List UInt8} (hl : s.data.toList = c :: l) (hc : ¬ c.toNat = 45) : Rest s s.data.toList false := by
  intro v hv
  rcases dec_list hv with ⟨h1, h2⟩ | ⟨h1, h2⟩
  · exact ⟨h2, by simp; omega⟩
  · rw [hl] at h2
    injection h2 with h2 _
    exact absurd (by rw [h2]; rfl) hc
theorem rest_neg {s : ByteArray} {c : UInt8} {l : List UInt8} (hl : s.data.toList = c :: l) (hc : c.toNat = 45) : Rest s l true := by
  intro v hv
  rcases dec_list hv with ⟨h1, h2⟩ | ⟨h1, h2⟩
  · obtain ⟨d, l', e, hd⟩ := dd_head v.natAbs
    rw [hl, e] at h2
    injection h2 with h2 _
    have := hd.1
    rw [← h2] at this
    omega
  · rw [hl] at h2
    injection h2 with _ h2
    exact ⟨h2, by simp; omega⟩
theorem rest_empty {s : ByteArray} (hl : s.data.toList = []) : ¬ ∃ v, isDec s v := by
  rintro ⟨v, hv⟩
  rcases dec_list hv with ⟨_, h2⟩ | ⟨_, h2⟩ <;> rw [hl] at h2
  · exact dd_ne _ h2.symm
  · cases h2
theorem rest_len {s : ByteArray} {l : List UInt8} {b : Bool} (h : Rest s l b) (hl : l.length < 1 ∨ 18 < l.length) : ¬ ∃ v, isDec s v := by
  rintro ⟨v, hv⟩
  obtain ⟨rfl, _⟩ := h v hv
  have h1 := dd_len 17 v.natAbs hv.1
  have h2 := List.length_pos_iff.2 (dd_ne v.natAbs)
  omega
theorem rest_dig {s : ByteArray} {l : List UInt8} {b : Bool} (h : Rest s l b) {k : Nat} (hk : k < l.length) (hd : ¬ isNum l[k]) : ¬ ∃ v, isDec s v := by
  rintro ⟨v, hv⟩
  obtain ⟨rfl, _⟩ := h v hv
  exact hd (dd_dig _ _ (List.getElem_mem hk))
theorem rest_yes {s : ByteArray} {l : List UInt8} {n : Int} (hd : ∀ c ∈ l, isNum c) (hl : l.length ≤ 18) (hn : n.natAbs = pv 0 l) (e : (⟨(Lib.itoa n).toArray⟩ : ByteArray) = s) : rdR s = (n, true) := by
  refine rdR_yes ⟨?_, e.symm⟩
  have := pv_lt l 0 hd
  rw [hn]
  refine Nat.lt_of_lt_of_le this ?_
  rw [Nat.zero_add, Nat.one_mul]
  exact Nat.pow_le_pow_right (by decide) hl
theorem rest_no {s : ByteArray} {l : List UInt8} {b : Bool} {n : Int} (h : Rest s l b) (hn : n = if b then -(pv 0 l : Int) else (pv 0 l : Int)) (e : ¬ (⟨(Lib.itoa n).toArray⟩ : ByteArray) = s) : rdR s = (0, false) := by
  refine rdR_no ?_
  rintro ⟨v, hv⟩
  obtain ⟨rfl, h2⟩ := h v hv
  rw [dd_pv, ← h2] at hn
  subst hn
  exact e hv.2.symm
theorem pv_bd {l : List UInt8} (hd : ∀ c ∈ l, isNum c) (hl : l.length ≤ 18) : pv 0 l < 1000000000000000000 := by
  have := pv_lt l 0 hd
  refine Nat.lt_of_lt_of_le this ?_
  rw [Nat.zero_add, Nat.one_mul]
  exact Nat.pow_le_pow_right (n := 10) (by decide) hl
theorem bytes_at {t : ByteArray} {k : Nat} (h : k < t.size) : t.data.toList[k]'(by simpa using h) = t[k] := rfl
theorem take_at {t : ByteArray} {k : Nat} (h : k < t.size) : t.data.toList.take (k + 1) = t.data.toList.take k ++ [t[k]] := by
  rw [List.take_succ_eq_append_getElem (by simpa using h)]; rfl
theorem sDig_t (c : Int) (w : World) (h : 48 ≤ c ∧ c ≤ 57) : Calls Tryz.prog 76 #[.int .u8 c] w fun e w' => e = .returned (.bool true) ∧ w' = w := by
  obtain ⟨h1, h2⟩ := h
  go_enter Tryz.func76, Tryz.ntmps76
  go_wp2
  go_ret
  exact ⟨ret_bool (by simp), rfl⟩
theorem sDig_f (c : Int) (w : World) (h : ¬ (48 ≤ c ∧ c ≤ 57)) : Calls Tryz.prog 76 #[.int .u8 c] w fun e w' => e = .returned (.bool false) ∧ w' = w := by
  by_cases h1 : 48 ≤ c
  · have h2 : ¬ c ≤ 57 := by omega
    clear h
    go_enter Tryz.func76, Tryz.ntmps76
    go_wp2
    go_ret
    exact ⟨ret_bool (by simp), rfl⟩
  · clear h
    go_enter Tryz.func76, Tryz.ntmps76
    go_wp2
    go_ret
    exact ⟨rfl, rfl⟩

theorem str_nonempty {s : ByteArray} (h : 0 < s.size) : s.toList.isEmpty = false := by
  rw [Lib.toList_data]
  cases h' : s.data.toList with
  | nil => have : s.data.toList.length = 0 := by rw [h']; rfl
           have h2 : s.data.toList.length = s.size := by simp
           omega
  | cons _ _ => rfl

set_option maxRecDepth 100000 in
set_option maxHeartbeats 4000000 in
theorem l01Number_pos (s : ByteArray) (w : World) (hs : s.size ≤ 1048576) (h0 : 0 < s.size) (hc : ¬ ((s[0]'h0).toNat : Int) = 45) (hR : Rest s s.data.toList false) :
    Calls Tryz.prog 38 #[.string s] w fun e w' => e = .returned (.tuple #[.int .i64 (rdR s).1, .bool (rdR s).2]) ∧ Below w.heap.size w w' := by
  have HR := Lib.hid hR
  have hcb : (((s[0]'h0).toNat : Int) == 45) = false := by simp; omega
  have hse := str_nonempty h0
  have hsb : (s.toList == ([] : List UInt8)) = false := by cases h : s.toList with
    | nil => rw [h] at hse; cases hse
    | cons _ _ => rfl
  have HZ := Lib.hid (show s.data.toList.length = s.size by simp)
  clear hR
  rcases Nat.lt_or_ge s.size 1 with hl | hl
  · omega
  rcases Nat.lt_or_ge 18 s.size with hl2 | hl2
  · have HN := Lib.hid (rdR_no (rest_len HR.out (.inr (by rw [HZ.out]; exact hl2))))
    go_enter Tryz.func38, Tryz.ntmps38
    go_wp2
    go_ret2
    exact ⟨by rw [HN.out]; rfl, Below.refl _ _⟩
  go_enter Tryz.func38, Tryz.ntmps38
  go_wp2
  go_loop [5, 6] (fun v i => ∃ k : Nat, k ≤ s.size ∧ i = .int .i64 k ∧ v = .int .i64 (pv 0 (s.data.toList.take k) : Int) ∧ Hid (∀ c ∈ s.data.toList.take k, isNum c)) (fun _ i => s.size - (intOf i).toNat)
  case atStart => exact ⟨0, Nat.zero_le _, rfl, rfl, Lib.hid (by simp)⟩
  case round =>
    obtain ⟨k, hk, rfl, rfl, hd⟩ := hrel
    have hb := pv_bd hd.out (by rw [List.length_take]; omega)
    by_cases hlt : k < s.size
    · by_cases hg : 48 ≤ ((s[k]'hlt).toNat : Int) ∧ ((s[k]'hlt).toNat : Int) ≤ 57
      · have c1 := fun w => sDig_t ((s[k]'hlt).toNat : Int) w hg
        have HT := Lib.hid (take_at hlt)
        have HD : Hid (∀ c ∈ s.data.toList.take (k + 1), isNum c) := Lib.hid (by
          rw [HT.out]; intro c hc
          rcases List.mem_append.1 hc with hc | hc
          · exact hd.out c hc
          · rw [List.mem_singleton] at hc; subst hc; exact ⟨by omega, by omega⟩)
        have HP : Hid ((pv 0 (s.data.toList.take (k + 1)) : Int) = 10 * (pv 0 (s.data.toList.take k) : Int) + (((s[k]'hlt).toNat : Int) - 48)) := Lib.hid (by
          rw [HT.out, pv_snoc]; omega)
        obtain ⟨hg1, hg2⟩ := hg
        clear hd
        go_wp2_with (go_at_call 76; refine (c1 _).mono ?_; rintro e w' ⟨rfl, rfl⟩)
        go_round
        case rel =>
          have hb2 := pv_bd HD.out (by rw [List.length_take]; omega)
          have hb3 := HP.out
          refine ⟨k + 1, by omega, by go_num, ?_, HD⟩
          rw [HP.out, IntWalk.wrap64_in (10 * _) ⟨by omega, by omega⟩, IntWalk.wrap64_in _ ⟨by omega, by omega⟩]
        case measure => simp [intOf]; omega
      · have c1 := fun w => sDig_f ((s[k]'hlt).toNat : Int) w hg
        have HN := Lib.hid (rdR_no (rest_dig HR.out (k := k) (by rw [HZ.out]; exact hlt) (by rw [bytes_at hlt]; intro h; exact hg ⟨by have := h.1; omega, by have := h.2; omega⟩)))
        clear hg hd
        go_wp2_with (go_at_call 76; refine (c1 _).mono ?_; rintro e w' ⟨rfl, rfl⟩)
        go_ret2
        exact ⟨by rw [HN.out]; rfl, Below.refl _ _⟩
    · obtain rfl : k = s.size := by omega
      have ht : s.data.toList.take s.size = s.data.toList := List.take_of_length_le (by rw [HZ.out]; exact Nat.le_refl _)
      rw [ht] at hd hb ⊢
      clear ht
      have c1 := l01Dec_any (pv 0 s.data.toList : Int) w (by omega) (by omega)
      obtain ⟨S, hS⟩ : ∃ S : ByteArray, S = ⟨(Lib.itoa (pv 0 s.data.toList : Int)).toArray⟩ := ⟨_, rfl⟩
      rw [← hS] at c1
      by_cases he : S = s
      · have HN := Lib.hid (rest_yes (n := (pv 0 s.data.toList : Int)) hd.out (by rw [HZ.out]; exact hl2) (by simp) (hS ▸ he))
        subst he
        clear hS hd
        go_wp2_with (go_at_call 77; refine c1.mono ?_; rintro e w' ⟨rfl, hbl⟩)
        go_ret2
        exact ⟨by rw [HN.out]; rfl, hbl⟩
      · have HN := Lib.hid (rest_no (n := (pv 0 s.data.toList : Int)) HR.out (by simp) (hS ▸ he))
        have hne := str_ne he
        clear hS hd he
        go_wp2_with (go_at_call 77; refine c1.mono ?_; rintro e w' ⟨rfl, hbl⟩)
        go_ret2
        exact ⟨by rw [HN.out]; rfl, hbl⟩

set_option maxRecDepth 100000 in
set_option maxHeartbeats 4000000 in
theorem l01Number_neg (s : ByteArray) (w : World) (hs : s.size ≤ 1048576) (h0 : 0 < s.size) (hc : ((s[0]'h0).toNat : Int) = 45) (T : ByteArray) (hT : s.extract 1 s.size = T) (hTs : T.size < s.size) (hR : Rest s T.data.toList true) :
    Calls Tryz.prog 38 #[.string s] w fun e w' => e = .returned (.tuple #[.int .i64 (rdR s).1, .bool (rdR s).2]) ∧ Below w.heap.size w w' := by
  have HR := Lib.hid hR
  have hcb : (((s[0]'h0).toNat : Int) == 45) = true := by simp [hc]
  have hse := str_nonempty h0
  have hsb : (s.toList == ([] : List UInt8)) = false := by cases h : s.toList with
    | nil => rw [h] at hse; cases hse
    | cons _ _ => rfl
  have HZ := Lib.hid (show T.data.toList.length = T.size by simp)
  clear hR
  rcases Nat.lt_or_ge T.size 1 with hl | hl
  · have HN := Lib.hid (rdR_no (rest_len HR.out (.inl (by rw [HZ.out]; exact hl))))
    go_enter Tryz.func38, Tryz.ntmps38
    go_wp2
    go_ret2
    exact ⟨by rw [HN.out]; rfl, Below.refl _ _⟩
  rcases Nat.lt_or_ge 18 T.size with hl2 | hl2
  · have HN := Lib.hid (rdR_no (rest_len HR.out (.inr (by rw [HZ.out]; exact hl2))))
    go_enter Tryz.func38, Tryz.ntmps38
    go_wp2
    go_ret2
    exact ⟨by rw [HN.out]; rfl, Below.refl _ _⟩
  go_enter Tryz.func38, Tryz.ntmps38
  go_wp2
  go_loop [5, 6] (fun v i => ∃ k : Nat, k ≤ T.size ∧ i = .int .i64 k ∧ v = .int .i64 (pv 0 (T.data.toList.take k) : Int) ∧ Hid (∀ c ∈ T.data.toList.take k, isNum c)) (fun _ i => T.size - (intOf i).toNat)
  case atStart => exact ⟨0, Nat.zero_le _, rfl, rfl, Lib.hid (by simp)⟩
  case round =>
    obtain ⟨k, hk, rfl, rfl, hd⟩ := hrel
    have hb := pv_bd hd.out (by rw [List.length_take]; omega)
    by_cases hlt : k < T.size
    · by_cases hg : 48 ≤ ((T[k]'hlt).toNat : Int) ∧ ((T[k]'hlt).toNat : Int) ≤ 57
      · have c1 := fun w => sDig_t ((T[k]'hlt).toNat : Int) w hg
        have HT := Lib.hid (take_at hlt)
        have HD : Hid (∀ c ∈ T.data.toList.take (k + 1), isNum c) := Lib.hid (by
          rw [HT.out]; intro c hc
          rcases List.mem_append.1 hc with hc | hc
          · exact hd.out c hc
          · rw [List.mem_singleton] at hc; subst hc; exact ⟨by omega, by omega⟩)
        have HP : Hid ((pv 0 (T.data.toList.take (k + 1)) : Int) = 10 * (pv 0 (T.data.toList.take k) : Int) + (((T[k]'hlt).toNat : Int) - 48)) := Lib.hid (by
          rw [HT.out, pv_snoc]; omega)
        obtain ⟨hg1, hg2⟩ := hg
        clear hd
        go_wp2_with (go_at_call 76; refine (c1 _).mono ?_; rintro e w' ⟨rfl, rfl⟩)
        go_round
        case rel =>
          have hb2 := pv_bd HD.out (by rw [List.length_take]; omega)
          have hb3 := HP.out
          refine ⟨k + 1, by omega, by go_num, ?_, HD⟩
          rw [HP.out, IntWalk.wrap64_in (10 * _) ⟨by omega, by omega⟩, IntWalk.wrap64_in _ ⟨by omega, by omega⟩]
        case measure => simp [intOf]; omega
      · have c1 := fun w => sDig_f ((T[k]'hlt).toNat : Int) w hg
        have HN := Lib.hid (rdR_no (rest_dig HR.out (k := k) (by rw [HZ.out]; exact hlt) (by rw [bytes_at hlt]; intro h; exact hg ⟨by have := h.1; omega, by have := h.2; omega⟩)))
        clear hg hd
        go_wp2_with (go_at_call 76; refine (c1 _).mono ?_; rintro e w' ⟨rfl, rfl⟩)
        go_ret2
        exact ⟨by rw [HN.out]; rfl, Below.refl _ _⟩
    · obtain rfl : k = T.size := by omega
      have ht : T.data.toList.take T.size = T.data.toList := List.take_of_length_le (by rw [HZ.out]; exact Nat.le_refl _)
      rw [ht] at hd hb ⊢
      clear ht
      have c1 := l01Dec_any (-(pv 0 T.data.toList : Int)) w (by omega) (by omega)
      obtain ⟨S, hS⟩ : ∃ S : ByteArray, S = ⟨(Lib.itoa (-(pv 0 T.data.toList : Int))).toArray⟩ := ⟨_, rfl⟩
      rw [← hS] at c1
      by_cases he : S = s
      · have HN := Lib.hid (rest_yes (n := (-(pv 0 T.data.toList : Int))) hd.out (by rw [HZ.out]; exact hl2) (by simp) (hS ▸ he))
        subst he
        clear hS hd
        go_wp2_with (go_at_call 77; refine c1.mono ?_; rintro e w' ⟨rfl, hbl⟩)
        go_ret2
        exact ⟨by rw [HN.out]; rfl, hbl⟩
      · have HN := Lib.hid (rest_no (n := (-(pv 0 T.data.toList : Int))) HR.out (by simp) (hS ▸ he))
        have hne := str_ne he
        clear hS hd he
        go_wp2_with (go_at_call 77; refine c1.mono ?_; rintro e w' ⟨rfl, hbl⟩)
        go_ret2
        exact ⟨by rw [HN.out]; rfl, hbl⟩

theorem l01Number_any (s : ByteArray) (w : World) (hs : s.size ≤ 1048576) :
    Calls Tryz.prog 38 #[.string s] w fun e w' => e = .returned (.tuple #[.int .i64 (rdR s).1, .bool (rdR s).2]) ∧ Below w.heap.size w w' := by
  rcases Nat.eq_zero_or_pos s.size with h0 | h0
  · obtain rfl : s = ByteArray.empty := by
      cases s with | mk d => (have : d = #[] := Array.eq_empty_of_size_eq_zero h0); rw [this]; rfl
    have HN := Lib.hid (rdR_no (rest_empty (s := ByteArray.empty) rfl))
    clear h0 hs
    go_enter Tryz.func38, Tryz.ntmps38
    go_wp2
    go_ret2
    exact ⟨by rw [HN.out]; rfl, Below.refl _ _⟩
  · obtain ⟨c, l, hl⟩ : ∃ c l, s.data.toList = c :: l := by
      cases h : s.data.toList with
      | nil => have h2 : s.data.toList.length = s.size := by simp
               rw [h] at h2; simp at h2; omega
      | cons c l => exact ⟨c, l, rfl⟩
    have hc0 : s[0]'h0 = c := by
      have : s.data.toList[0]'(by rw [hl]; simp) = c := by simp [hl]
      rw [← this]; rfl
    by_cases hc : ((s[0]'h0).toNat : Int) = 45
    · have hT : (s.extract 1 s.size).data.toList = l := by
        rw [Lib.extract_data, hl, List.drop_one, List.tail_cons, List.take_of_length_le]
        have h2 : s.data.toList.length = s.size := by simp
        rw [hl] at h2; simp at h2; omega
      have hTs : (s.extract 1 s.size).size < s.size := by simp; omega
      exact l01Number_neg s w hs h0 hc _ rfl hTs (by rw [hT]; exact rest_neg hl (by rw [← hc0]; omega))
    · exact l01Number_pos s w hs h0 hc (rest_pos hl (by rw [← hc0]; omega))

end Go.Proofs.YtlahobdopmdfmaaGreatDoor

/- MarkT -/
namespace Go.Proofs.YtlahobdopmdfmaaGreatDoor
open Go.RowKit

/-- What markText makes of a number, ahead of what it has made. -/
def mtL (n : Nat) (acc : List UInt8) : List UInt8 := if h : n = 0 then acc else mtL (n / 10) (UInt8.ofNat (48 + n % 10) :: acc)
termination_by n
decreasing_by omega
theorem mtL_zero (acc : List UInt8) : mtL 0 acc = acc := by rw [mtL, dif_pos rfl]
theorem mtL_step {n : Nat} (h : n ≠ 0) (acc : List UInt8) : mtL n acc = mtL (n / 10) (UInt8.ofNat (48 + n % 10) :: acc) := by rw [mtL, dif_neg h]
def mtx (k : Int) : ByteArray := if k ≤ 0 then ⟨#[109, 48]⟩ else ⟨(109 :: mtL k.toNat []).toArray⟩
theorem bs_ext {a b : ByteArray} (h : a.data.toList = b.data.toList) : a = b := by
  obtain ⟨a⟩ := a
  obtain ⟨b⟩ := b
  simp only at h
  congr 1
  exact Array.toList_inj.1 h

end Go.Proofs.YtlahobdopmdfmaaGreatDoor

/- Left -/
namespace Go.Proofs.YtlahobdopmdfmaaGreatDoor

/-- What is left of a bound behind a slice of this length; less than 0 (-1) if it is passed. -/
def leftOf (n : Nat) (left : Int) : Int := if left - (n : Int) < 0 then -1 else left - (n : Int)
theorem leftOf_le (n : Nat) (left : Int) (h : 0 ≤ left) : leftOf n left ≤ left := by unfold leftOf; split <;> omega
theorem leftOf_len {n : Nat} {left : Int} (h : 0 ≤ leftOf n left) : (n : Int) ≤ left := by unfold leftOf at h; split at h <;> omega
end Go.Proofs.YtlahobdopmdfmaaGreatDoor

/- StrS -/
namespace Go.Proofs.YtlahobdopmdfmaaGreatDoor
open Go.RowKit Go.BigFrame

theorem info_string : (Tryz.prog.info? 9).map (fun i => (i.zero, i.size, i.bytes)) = some (some (.string ByteArray.empty), 1, 16) := by kernel_rfl
/-- The texts of marks from k on. -/
def seqT (k : Int) (n : Nat) : List ByteArray := (List.range n).map fun i : Nat => mtx (k + (i : Int))
theorem seqT_len (k : Int) (n : Nat) : (seqT k n).length = n := by simp [seqT]
theorem seqT_at {k : Int} {n i : Nat} (h : i < n) : elt textF (seqT k n) i = mtx (k + (i : Int)) := elt_range h
section
variable {w : World} {t : TypeId} {lo hi g n c k : Nat}
theorem RdF.atT {a : Option Addr} {xs : List ByteArray} (h : RdF textF w a xs) (hk : k < xs.length) : ∃ b off, a = some ⟨b, off, none⟩ ∧ w.cell? ⟨b, off + k, none⟩ = some (.string (elt textF xs k)) := by
  obtain ⟨b, off, rfl, hc⟩ := h.at_ hk
  refine ⟨b, off, rfl, ?_⟩
  have := hc 0 (.string (elt textF xs k)) rfl
  simpa [textF] using this
theorem OwnF.getT {xs : List ByteArray} (h : OwnF textF t w lo hi (.slice (some ⟨g, 0, none⟩) n c) xs) (hk : k < xs.length) : w.cell? ⟨g, k, none⟩ = some (.string (elt textF xs k)) := by
  have := h.get (k := k) (j := 0) (u := .string (elt textF xs k)) hk rfl
  simpa [textF] using this
theorem OwnF.putT {xs : List ByteArray} (h : OwnF textF t w lo hi (.slice (some ⟨g, 0, none⟩) n c) xs) (hk : k < xs.length) (x : ByteArray) : OwnF textF t (w.setCell ⟨g, k, none⟩ (.string x)) lo hi (.slice (some ⟨g, 0, none⟩) n c) (xs.set k x) := by
  have := h.put (k := k) (j := 0) (y := x) (u := .string x) hk (by decide) rfl
  simpa [textF] using this
end
theorem str_eqB {a b : ByteArray} (h : a = b) : (a.toList == b.toList) = true := by rw [h]; simp
theorem str_neB {a b : ByteArray} (h : ¬ a = b) : (a.toList == b.toList) = false := by
  rw [beq_eq_false_iff_ne]
  intro e
  rw [Lib.toList_data, Lib.toList_data] at e
  exact h (bs_ext e)

end Go.Proofs.YtlahobdopmdfmaaGreatDoor

/- InS -/
namespace Go.Proofs.YtlahobdopmdfmaaGreatDoor
open Go.RowKit

theorem ret_two {R : Int × Int} {x y : Int} (h : R = (x, y)) : Ending.returned (.tuple #[.int .i64 x, .int .i64 y]) = .returned (.tuple #[.int .i64 R.1, .int .i64 R.2]) := by subst h; rfl
theorem i64_of {z : Int} (h1 : -1000000000000000000 ≤ z) (h2 : z ≤ 1000000000000000000) : I64 z := by
  have e1 : IntKind.i64.min = -9223372036854775808 := by decide
  have e2 : IntKind.i64.max = 9223372036854775807 := by decide
  simp [I64, Lit.wf, e1, e2]
  omega
/-- Is n from lo to hi? (a word that the walk does not open) -/
def inB (n lo hi : Int) : Bool := decide (lo ≤ n ∧ n ≤ hi)
theorem inB_true {n lo hi : Int} (h : inB n lo hi = true) : lo ≤ n ∧ n ≤ hi := by simpa [inB] using h
theorem inB_false {n lo hi : Int} (h : inB n lo hi = false) : n < lo ∨ hi < n := by simp [inB] at h; omega
theorem inB_yes {n lo hi : Int} (h1 : lo ≤ n) (h2 : n ≤ hi) : inB n lo hi = true := by simp [inB, h1, h2]
theorem inB_no {n lo hi : Int} (h : n < lo ∨ hi < n) : inB n lo hi = false := by simp [inB]; omega

theorem l00In_true (n lo hi : Int) (w : World) (h1 : lo ≤ n) (h2 : n ≤ hi) : Calls Tryz.prog 72 #[.int .i64 n, .int .i64 lo, .int .i64 hi] w fun e w' => e = .returned (.bool true) ∧ w' = w := by
  have d1 : decide (lo ≤ n) = true := decide_eq_true h1
  have d2 : decide (n ≤ hi) = true := decide_eq_true h2
  go_enter Tryz.func72, Tryz.ntmps72
  go_wp2
  go_ret
  exact ⟨rfl, rfl⟩
theorem l00In_false (n lo hi : Int) (w : World) (h : n < lo ∨ hi < n) : Calls Tryz.prog 72 #[.int .i64 n, .int .i64 lo, .int .i64 hi] w fun e w' => e = .returned (.bool false) ∧ w' = w := by
  by_cases h1 : lo ≤ n
  · have d1 : decide (lo ≤ n) = true := decide_eq_true h1
    have d2 : decide (n ≤ hi) = false := decide_eq_false (by omega)
    go_enter Tryz.func72, Tryz.ntmps72
    go_wp2
    go_ret
    exact ⟨rfl, rfl⟩
  · have d1 : decide (lo ≤ n) = false := decide_eq_false h1
    go_enter Tryz.func72, Tryz.ntmps72
    go_wp2
    go_ret
    exact ⟨rfl, rfl⟩
theorem l00In_any (n lo hi : Int) (w : World) : Calls Tryz.prog 72 #[.int .i64 n, .int .i64 lo, .int .i64 hi] w fun e w' => e = .returned (.bool (inB n lo hi)) ∧ w' = w := by
  cases h : inB n lo hi with
  | true => exact l00In_true n lo hi w (inB_true h).1 (inB_true h).2
  | false => exact l00In_false n lo hi w (inB_false h)
theorem l00Min_any (a b : Int) (w : World) : Calls Tryz.prog 83 #[.int .i64 a, .int .i64 b] w fun e w' => e = .returned (.int .i64 (min a b)) ∧ w' = w := by
  by_cases h : a < b
  · have H := Lib.hid (show min a b = a by omega)
    go_enter Tryz.func83, Tryz.ntmps83
    go_wp2
    go_ret
    exact ⟨ret_int H.out.symm, rfl⟩
  · have H := Lib.hid (show min a b = b by omega)
    go_enter Tryz.func83, Tryz.ntmps83
    go_wp2
    go_ret
    exact ⟨ret_int H.out.symm, rfl⟩
end Go.Proofs.YtlahobdopmdfmaaGreatDoor

/- SplitS -/
namespace Go.Proofs.YtlahobdopmdfmaaGreatDoor
open Go.RowKit

theorem news_text (w : World) (x : ByteArray) (e : TypeId) : ∀ i u, (flat textF [x])[i]? = some u → (w.alloc (.cells #[.string x] e)).cell? ((⟨w.heap.size, 0, none⟩ : Addr).add i) = some u := by
  intro i u hu
  match i, hu with
  | 0, hu => simp [flat, textF] at hu; subst hu; exact cell_new1 w _ _

set_option maxHeartbeats 4000000 in
theorem l01Split_any (s : ByteArray) (c : UInt8) (w : World) (hs : s.size ≤ 1048576) :
    Calls Tryz.prog 36 #[.string s, .int .u8 (c.toNat : Int)] w fun e w' => ∃ A C, e = .returned (.slice A (splitL s c).length C) ∧
      OwnF textF 9 w' w.heap.size w'.heap.size (.slice A (splitL s c).length C) (splitL s c) ∧ Below w.heap.size w w' := by
  obtain ⟨u, hu⟩ : ∃ u, u = w.alloc (.cells #[] 9) := ⟨_, rfl⟩
  have hbu : Below w.heap.size w u := by rw [hu]; exact (by repeat (first | exact Below.refl _ _ | refine Below.setCell ?_ (by first | omega | (simp <;> omega)) _ | refine Below.alloc ?_ (by first | omega | (simp <;> omega)) _ | refine Below.drew ?_))
  have hsu : u.heap.size = w.heap.size + 1 := by rw [hu]; simp
  have ow0 : OwnF textF 9 u w.heap.size u.heap.size (.slice (some ⟨w.heap.size, 0, none⟩) 0 0) [] := by
    rw [hsu, hu]
    exact ownF_row (n := 0) (row_new 9 1 w #[] 0 (by simp) (by omega)) rfl (by simp)
  have HU := Lib.hid hu
  clear hu
  have hL := splitL_len s c
  have HL := Lib.hid (show ([] : List ByteArray) ++ splitGo s c (s.size - 0) 0 0 = splitL s c from rfl)
  have HLL := Lib.hid hL
  clear hL
  go_enter Tryz.func36, Tryz.ntmps36
  go_wp2_with fail
  rw [← HU.out]
  go_loopw [5, 6, 7] (fun o f i wr => ∃ (k g : Nat) (acc : List ByteArray) (A : Option Addr) (C : Nat), k ≤ s.size ∧ g ≤ k ∧ acc.length ≤ k ∧ i = .int .i64 (k : Nat) ∧ f = .int .i64 (g : Nat) ∧ o = .slice A acc.length C ∧ Hid (acc ++ splitGo s c (s.size - k) k g = splitL s c) ∧
    OwnF textF 9 wr w.heap.size wr.heap.size (.slice A acc.length C) acc ∧ Below w.heap.size w wr) (fun _ _ i _ => s.size - (intOf i).toNat)
  case atStart => exact ⟨0, 0, [], some ⟨w.heap.size, 0, none⟩, 0, Nat.zero_le _, Nat.le_refl _, by simp, rfl, rfl, rfl, HL, ow0, hbu⟩
  case round =>
    clear ow0 hbu HL
    obtain ⟨k, g, acc, A, C, hk, hg, hl, rfl, rfl, rfl, HS, ow, hbel⟩ := hrel
    have hsz := hbel.size
    by_cases hlt : k < s.size
    · have hb := byteAt_get hlt
      have hn : s.size - k = (s.size - (k + 1)) + 1 := by omega
      by_cases hc : byteAt s k = c
      · have hbe : ((s[k]'hlt).toNat : Int) = (c.toNat : Int) := by rw [hb, hc]
        have HS2 : Hid ((acc ++ [s.extract g k]) ++ splitGo s c (s.size - (k + 1)) (k + 1) (k + 1) = splitL s c) := Lib.hid (by
          have := HS.out
          rw [hn, splitGo_hit hc] at this
          rw [← this]; simp)
        clear hb hn hc HS
        go_wp2_with (at_builtin; go_must (refine wpList_appR rfl (.tmp 20) (.tmp 25) 53 9 rfl (.string ByteArray.empty) 1 16 Tryz.underlying53 info_string rfl (by omega) (by omega) rfl ((ow.row).alloc _) ⟨wr.heap.size, 0, none⟩ 1 1 (flat textF [s.extract g k]) rfl rfl (news_text wr _ _) flat_mem (by omega) (by simp <;> omega) ?_); intro A' C' w5 row5 ht5)
        have ow5 : OwnF textF 9 w5 w.heap.size w5.heap.size (.slice A' (acc ++ [s.extract g k]).length C') (acc ++ [s.extract g k]) := ownF_row (n := acc.length + 1) (by rw [flat_append, List.length_append]; exact row5) (by simp) (by simp; omega)
        have hb5 : Below w.heap.size w w5 := (hbel.alloc hsz _).trans (ht5.below (Nat.le_refl _) (by simp; omega))
        go_roundw
        case rel => exact ⟨k + 1, k + 1, acc ++ [s.extract g k], A', C', by omega, Nat.le_refl _, by simp; omega, by go_num, by go_num, by simp, HS2, ow5, hb5⟩
        case measure => (simp [intOf]) <;> omega
      · have hbe : ¬ (((s[k]'hlt).toNat : Int) = (c.toNat : Int)) := by
          rw [hb]
          intro e
          exact hc (UInt8.toNat_inj.1 (by omega))
        have HS2 : Hid (acc ++ splitGo s c (s.size - (k + 1)) (k + 1) g = splitL s c) := Lib.hid (by
          have := HS.out
          rwa [hn, splitGo_miss hc] at this)
        clear hb hn hc HS
        go_wp2_with fail
        go_roundw
        case rel => exact ⟨k + 1, g, acc, A, C, by omega, by omega, by omega, by go_num, rfl, rfl, HS2, ow, hbel⟩
        case measure => (simp [intOf]) <;> omega
    · obtain rfl : k = s.size := by omega
      have HS2 : Hid (acc ++ [s.extract g s.size] = splitL s c) := Lib.hid (by
        have := HS.out
        rwa [Nat.sub_self] at this)
      clear HS
      go_wp2_with (at_builtin; go_must (refine wpList_appR rfl (.tmp 29) (.tmp 33) 53 9 rfl (.string ByteArray.empty) 1 16 Tryz.underlying53 info_string rfl (by omega) (by omega) rfl ((ow.row).alloc _) ⟨wr.heap.size, 0, none⟩ 1 1 (flat textF [s.extract g s.size]) rfl rfl (news_text wr _ _) flat_mem (by omega) (by simp <;> omega) ?_); intro A' C' w5 row5 ht5)
      have ow5 : OwnF textF 9 w5 w.heap.size w5.heap.size (.slice A' (acc ++ [s.extract g s.size]).length C') (acc ++ [s.extract g s.size]) := ownF_row (n := acc.length + 1) (by rw [flat_append, List.length_append]; exact row5) (by simp) (by simp; omega)
      have hb5 : Below w.heap.size w w5 := (hbel.alloc hsz _).trans (ht5.below (Nat.le_refl _) (by simp; omega))
      rw [HS2.out] at ow5
      have hlen : acc.length + 1 = (splitL s c).length := by rw [← HS2.out]; simp
      go_ret
      exact ⟨A', C', by rw [← hlen]; rfl, ow5, hb5⟩

/-- The parts that are not empty, among the first k. -/
theorem wordsL_step {xs : List ByteArray} {k : Nat} (hk : k < xs.length) : (xs.take (k + 1)).filter someB = (xs.take k).filter someB ++ (if (elt textF xs k).data.toList = [] then [] else [elt textF xs k]) := by
  rw [takeE_succ (F := textF) hk, List.filter_append]
  congr 1
  by_cases h : (elt textF xs k).data.toList = []
  · have hb : someB (elt textF xs k) = false := decide_eq_false (by simpa using h)
    rw [if_pos h, List.filter_cons, hb]; rfl
  · have hb : someB (elt textF xs k) = true := decide_eq_true h
    rw [if_neg h, List.filter_cons, hb]; rfl

end Go.Proofs.YtlahobdopmdfmaaGreatDoor

/- Ord -/
namespace Go.Proofs.YtlahobdopmdfmaaGreatDoor
open Go

section
variable {P : Program} {ops : Array Oper} {Q : Exit → Act → World → Prop} {md : Region.Mode} {S : World → Prop} {m : Nat}

/-- Whatever order is picked from here on; behind each operation the condition holds, or the marked operation has come up. -/
def wpAnyM (P : Program) (md : Region.Mode) (ops : Array Oper) (Q : Exit → Act → World → Prop) (S : World → Prop) (m : Nat) : Nat → Array Bool → Act → World → Prop
  | 0, listed, a, w => Region.ready md ops listed = [] ∧ Q .normal a w
  | fuel + 1, listed, a, w =>
    (Region.ready md ops listed = [] → Q .normal a w) ∧
    ∀ i ∈ Region.ready md ops listed, wpOp P ops Q i (fun a' w' => ((listed.setIfInBounds i true).getD m true = true ∨ S w') ∧ wpAnyM P md ops Q S m fuel (listed.setIfInBounds i true) a' w') a w

theorem wpAny_of_marked : ∀ (fuel : Nat) (listed : Array Bool) (a : Act) (w : World), wpAnyM P md ops Q S m fuel listed a w → wpAny P md ops Q fuel listed a w
  | 0, _, _, _, h => h
  | fuel + 1, _, _, _, h => ⟨h.1, fun i hi => wpOp_mono (fun a' w' h' => wpAny_of_marked fuel _ a' w' h'.2) (h.2 i hi)⟩

theorem wpAnyM_first {i : Nat} {oi om : Oper} {v : Value} (hi : ops[i]? = some oi) (hsel : ∀ (j : Nat) (o : Oper) cs b, ops[j]? = some o → o.op ≠ .select cs b)
    (hQ : ∀ c a w, Q (.panic c) (a.put oi.dst v) w → Q (.panic c) a w) (hom : ops[m]? = some om) (hwait : ∃ e ∈ om.after, Region.binds md e = true ∧ e.on = i) :
    ∀ (fuel : Nat) (listed : Array Bool) (a : Act) (w : World),
      (∀ j oj, ops[j]? = some oj → j ≠ i → listed.getD j true = false → (∀ e ∈ oj.after, Region.binds md e = true → e.on ≠ i) → oi.apart ops oj = true) →
      i ∈ Region.ready md ops listed → listed.getD m true = false → YieldsIf P ops S oi v a → S w →
      wpAnyM P md ops Q S m fuel (listed.setIfInBounds i true) (a.put oi.dst v) w → wpAnyM P md ops Q S m (fuel + 1) listed a w := by
  intro fuel
  induction fuel with
  | zero =>
    intro listed a w _ hr _ hy hS H
    refine ⟨fun h => (by rw [h] at hr; cases hr), fun j hj => ?_⟩
    by_cases hji : j = i
    · subst hji; exact hy.wpOp hi hS ⟨.inr hS, H⟩
    · have := ready_mono hj hji
      rw [H.1] at this
      cases this
  | succ fuel ih =>
    intro listed a w hfree hr hmu hy hS H
    refine ⟨fun h => (by rw [h] at hr; cases hr), fun j hj => ?_⟩
    by_cases hji : j = i
    · subst hji; exact hy.wpOp hi hS ⟨.inr hS, H⟩
    · have h1 := H.2 j (ready_mono hj hji)
      obtain ⟨hjun, oj, hoj, hall⟩ := mem_ready.1 hj
      have iun : listed.getD i false = false := by
        have h0 := (mem_ready.1 hr).1
        rcases Nat.lt_or_ge i listed.size with h' | h'
        · simp [h'] at h0 ⊢; exact h0
        · simp [Array.getElem?_eq_none h'] at h0
      have hjm : j ≠ m := by
        rintro rfl
        obtain ⟨e, he, hb, hon⟩ := hwait
        rw [hom] at hoj
        obtain rfl : om = oj := by injection hoj
        have := hall e he hb
        rw [hon, iun] at this
        cases this
      have him : i ≠ m := by
        rintro rfl
        obtain ⟨_, oi', hoi', hall'⟩ := mem_ready.1 hr
        obtain ⟨e, he, hb, hon⟩ := hwait
        rw [hom] at hoi'
        obtain rfl : om = oi' := by injection hoi'
        have := hall' e he hb
        rw [hon, iun] at this
        cases this
      have hnot : ∀ e ∈ oj.after, Region.binds md e = true → e.on ≠ i := fun e he hb heq => by
        have h1 := hall e he hb
        rw [heq, iun] at h1
        cases h1
      have h2 := wpOp_putIf hoj (hfree j oj hoj hji hjun hnot) (fun cs b => hsel i oi cs b hi) (fun cs b => hsel j oj cs b hoj) hQ hy h1
      have hfree' : ∀ k ok, ops[k]? = some ok → k ≠ i → (listed.setIfInBounds j true).getD k true = false →
          (∀ e ∈ ok.after, Region.binds md e = true → e.on ≠ i) → oi.apart ops ok = true := fun k ok hk hki hun hno => by
        refine hfree k ok hk hki ?_ hno
        by_cases hjk : j = k
        · subst hjk; exact hjun
        · rw [getD_set_ne true hjk] at hun; exact hun
      have hmj : (listed.setIfInBounds j true).getD m true = false := by rw [getD_set_ne true hjm]; exact hmu
      have hmi : ((listed.setIfInBounds i true).setIfInBounds j true).getD m true = false := by
        rw [getD_set_ne true hjm, getD_set_ne true him]; exact hmu
      refine wpOp_mono (fun a' w' h3 => ?_) h2
      obtain ⟨h4, h5, h6⟩ := h3
      have hS' : S w' := by
        rcases h5 with h5 | h5
        · rw [hmi] at h5; cases h5
        · exact h5
      refine ⟨.inr hS', ih (listed.setIfInBounds j true) a' w' hfree' (ready_mono hr (Ne.symm hji)) hmj h4 hS' ?_⟩
      rw [Array.setIfInBounds_comm _ _ hji]
      exact h6

/-- Does the marked operation wait for number i? -/
def waitsB (md : Region.Mode) (ops : Array Oper) (m i : Nat) : Bool :=
  match ops[m]? with
  | some om => om.after.any fun e => Region.binds md e && e.on == i
  | none => false
theorem waitsB_spec {i : Nat} (h : waitsB md ops m i = true) : ∃ om, ops[m]? = some om ∧ ∃ e ∈ om.after, Region.binds md e = true ∧ e.on = i := by
  unfold waitsB at h
  cases ho : ops[m]? with
  | none => rw [ho] at h; cases h
  | some om =>
    rw [ho] at h
    dsimp only at h
    rw [← Array.any_toList, List.any_eq_true] at h
    obtain ⟨e, he, h1⟩ := h
    rw [Bool.and_eq_true, beq_iff_eq] at h1
    exact ⟨om, rfl, e, by simpa using he, h1.1, h1.2⟩

/-- Number i is taken first. -/
theorem wpAnyM_take {i : Nat} {oi : Oper} {v : Value} {fuel : Nat} {listed : Array Bool} {a : Act} {w : World} (hi : ops[i]? = some oi)
    (hs : Region.noSelect ops = true) (hf : Region.free md ops listed i = true) (hr : (Region.ready md ops listed).contains i = true) (hwm : waitsB md ops m i = true) (hm : listed.getD m true = false)
    (hQ : ∀ c a w, Q (.panic c) (a.put oi.dst v) w → Q (.panic c) a w) (hS : S w) (hy : YieldsIf P ops S oi v a)
    (h : wpAnyM P md ops Q S m fuel (listed.setIfInBounds i true) (a.put oi.dst v) w) : wpAnyM P md ops Q S m (fuel + 1) listed a w := by
  obtain ⟨om, ho, hwt⟩ := waitsB_spec hwm
  exact wpAnyM_first hi (Region.noSelect_spec hs) hQ ho hwt fuel listed a w (Region.free_spec hi hf) (by simpa using hr) hm hy hS h

/-- Number i alone may come up, and is carried out. -/
theorem wpAnyM_one {i : Nat} {o : Oper} {fuel : Nat} {listed : Array Bool} {a : Act} {w : World} (hr : Region.ready md ops listed = [i]) (ho : ops[i]? = some o) (hw : Region.wanted o (yielded ops a.tmps) = true)
    (h : ∀ K : Act → World → Prop, (∀ a' w', ((listed.setIfInBounds i true).getD m true = true ∨ S w') → wpAnyM P md ops Q S m fuel (listed.setIfInBounds i true) a' w' → K a' w') → o.wp P a w K Q) :
    wpAnyM P md ops Q S m (fuel + 1) listed a w := by
  refine ⟨fun h0 => (by rw [hr] at h0; cases h0), fun j hj => ?_⟩
  rw [hr, List.mem_singleton] at hj
  subst hj
  unfold wpOp
  simp only [ho, hw, if_true]
  exact .inl (h _ fun a' w' h1 h2 => ⟨h1, h2⟩)

/-- Number i or number j may come up. -/
theorem wpAnyM_two {i j : Nat} {oi oj : Oper} {fuel : Nat} {listed : Array Bool} {a : Act} {w : World} (hr : Region.ready md ops listed = [i, j]) (hoi : ops[i]? = some oi) (hoj : ops[j]? = some oj)
    (hwi : Region.wanted oi (yielded ops a.tmps) = true) (hwj : Region.wanted oj (yielded ops a.tmps) = true)
    (h1 : ∀ K : Act → World → Prop, (∀ a' w', ((listed.setIfInBounds i true).getD m true = true ∨ S w') → wpAnyM P md ops Q S m fuel (listed.setIfInBounds i true) a' w' → K a' w') → oi.wp P a w K Q)
    (h2 : ∀ K : Act → World → Prop, (∀ a' w', ((listed.setIfInBounds j true).getD m true = true ∨ S w') → wpAnyM P md ops Q S m fuel (listed.setIfInBounds j true) a' w' → K a' w') → oj.wp P a w K Q) :
    wpAnyM P md ops Q S m (fuel + 1) listed a w := by
  refine ⟨fun h0 => (by rw [h0] at hr; cases hr), fun k hk => ?_⟩
  rw [hr] at hk
  simp only [List.mem_cons, List.not_mem_nil, or_false] at hk
  rcases hk with rfl | rfl
  · unfold wpOp
    simp only [hoi, hwi, if_true]
    exact .inl (h1 _ fun a' w' h1 h2 => ⟨h1, h2⟩)
  · unfold wpOp
    simp only [hoj, hwj, if_true]
    exact .inl (h2 _ fun a' w' h1 h2 => ⟨h1, h2⟩)

theorem wpAnyM_done {listed : Array Bool} {a : Act} {w : World} (hr : Region.ready md ops listed = []) (h : Q .normal a w) : ∀ fuel, wpAnyM P md ops Q S m fuel listed a w
  | 0 => ⟨hr, h⟩
  | _ + 1 => ⟨fun _ => h, by rw [hr]; simp⟩

/-- The beginning. -/
theorem wp_region_marked {id : Nat} {a : Act} {w : World} {l : List Oper} (S : World → Prop) (m : Nat) (hm : P.follows .mixedOrders = true)
    (h : wpAnyM P .any l.toArray Q S m l.length (Array.replicate l.length false) a w.drew) : (Code.region id l.toArray true).wp P Q a w :=
  wp_region_any hm (wpAny_of_marked _ _ _ _ (by simpa using h))
end
end Go.Proofs.YtlahobdopmdfmaaGreatDoor

/- RgS -/
namespace Go.Proofs.YtlahobdopmdfmaaGreatDoor
open Go.RowKit

theorem splitGo_size {s : ByteArray} {c : UInt8} : ∀ (n i f : Nat), ∀ x ∈ splitGo s c n i f, x.size ≤ s.size
  | 0, i, f, x, hx => by
    rw [splitGo, List.mem_singleton] at hx
    subst hx
    (simp) <;> omega
  | n + 1, i, f, x, hx => by
    rw [splitGo] at hx
    split at hx
    · rcases List.mem_cons.1 hx with rfl | hx
      · (simp) <;> omega
      · exact splitGo_size n _ _ x hx
    · exact splitGo_size n _ _ x hx

/-- A sign's digit, in the model. -/
theorem l02Digit_any (c : UInt8) (w : World) : Calls Tryz.prog 75 #[.int .u8 (c.toNat : Int)] w fun e w' => e = .returned (.int .i64 (sgV c.toNat)) ∧ w' = w := by
  have hc : c.toNat < 256 := c.toNat_lt
  by_cases h1 : 48 ≤ (c.toNat : Int) ∧ (c.toNat : Int) ≤ 57
  · have HV := Lib.hid (sgV_dec (c := c.toNat) (by omega))
    obtain ⟨h2, h3⟩ := h1
    go_enter Tryz.func75, Tryz.ntmps75
    go_wp2
    go_ret
    exact ⟨by rw [HV.out]; rfl, rfl⟩
  by_cases h4 : 97 ≤ (c.toNat : Int) ∧ (c.toNat : Int) ≤ 102
  · have HV := Lib.hid (sgV_let (c := c.toNat) (by omega))
    obtain ⟨h2, h3⟩ := h4
    have h5 : ¬ (c.toNat : Int) ≤ 57 := by omega
    have h6 : 48 ≤ (c.toNat : Int) := by omega
    clear h1
    go_enter Tryz.func75, Tryz.ntmps75
    go_wp2
    go_ret
    exact ⟨by rw [HV.out, show (c.toNat : Int) - 87 = (c.toNat : Int) - 97 + 10 by omega]; rfl, rfl⟩
  have HV := Lib.hid (sgV_no (c := c.toNat) (by omega) (by omega))
  have hx : (c.toNat : Int) < 48 ∨ (48 ≤ (c.toNat : Int) ∧ 57 < (c.toNat : Int) ∧ (c.toNat : Int) < 97) ∨ (48 ≤ (c.toNat : Int) ∧ 57 < (c.toNat : Int) ∧ 97 ≤ (c.toNat : Int) ∧ 102 < (c.toNat : Int)) := by omega
  clear h1 h4
  rcases hx with h1 | ⟨h1, h2, h3⟩ | ⟨h1, h2, h3, h4⟩
  all_goals
    go_enter Tryz.func75, Tryz.ntmps75
    go_wp2
    go_ret
    exact ⟨by rw [HV.out]; rfl, rfl⟩

set_option maxRecDepth 100000 in
set_option maxHeartbeats 4000000 in
theorem specReadRegister (s : ByteArray) (w : World) (hs : s.size ≤ 1048576) :
    Calls Tryz.prog 37 #[.string s] w (RgPost s w) := by
  obtain ⟨V, hV⟩ : ∃ V, V = w.alloc (.cells #[.int .i64 0, .slice none 0 0] 26) := ⟨_, rfl⟩
  have bx : Bx V w.heap.size 26 #[.int .i64 0, .slice none 0 0] := by rw [hV]; exact Bx.new _ _ _
  have hbV : Below w.heap.size w V := by rw [hV]; exact (Below.refl _ _).alloc (Nat.le_refl _) _
  have c1 := l01Split_any s 58 V hs
  rw [show ((58 : UInt8).toNat : Int) = 58 from rfl] at c1
  have HR := Lib.hid (show rgR s = rgL (splitL s 58) from rfl)
  have HZ := Lib.hid (show ∀ x ∈ splitL s 58, x.size ≤ s.size from splitGo_size _ _ _)
  have hL := splitL_len s 58
  obtain ⟨L, eL⟩ : ∃ L, L = splitL s 58 := ⟨_, rfl⟩
  rw [← eL] at c1 HR HZ hL
  clear eL
  have HV := Lib.hid hV
  clear hV
  by_cases h2 : L.length = 2
  · obtain ⟨Hd, T, rfl⟩ : ∃ a b, L = [a, b] := by
      match L, h2 with
      | [a, b], _ => exact ⟨a, b, rfl⟩
    have hHd := HZ.out Hd (by simp)
    have hT := HZ.out T (by simp)
    clear HZ hL h2
    have hrd : rgR s = rgT (rdR Hd) T := HR.out
    have c2 := fun W => l01Number_any Hd W (by omega)
    have h64 := rdR_64 Hd
    generalize rdR Hd = R at c2 hrd h64
    obtain ⟨b, ok⟩ := R
    replace HR := Lib.hid hrd
    clear hrd
    go_enter Tryz.func37, Tryz.ntmps37
    go_wp2_with fail
    rw [← HV.out]
    refine c1.mono ?_
    rintro e w1 ⟨A, C, rfl, ow, hb⟩
    have hVs := bx.lt
    obtain ⟨g, rfl, hg1, hg2, hg3⟩ := ow.head (by simp)
    replace bx := bx.below hb
    have hb1 := hbV.trans (hb.mono hbV.size)
    have t0 : w1.cell? ⟨g, 0, none⟩ = some (.string Hd) := ow.getT (k := 0) (by simp)
    have t1 : w1.cell? ⟨g, 1, none⟩ = some (.string T) := ow.getT (k := 1) (by simp)
    have hwg : w.heap.size < g := by omega
    clear ow hb HV hbV c1 hVs hg1
    rcases Nat.lt_or_ge 16 T.size with hl | hl
    · have HN := Lib.hid (HR.out.trans (rgT_long hl))
      have c0 := bx.at_ 0 rfl
      have c1 := bx.at_ 1 rfl
      have f0 := bx.thaw 0
      have f1 := bx.thaw 1
      clear HR
      go_wp2
      exact bodyPost_ret (v := .tuple #[.agg #[.int .i64 0, .slice none 0 0], .bool false]) (by simp [results, Tryz.results37, go_sem, c0, c1]) rfl
        (rgPost_no HN.out rfl (by repeat (first | exact hb1 | refine Below.setCell ?_ (by first | omega | (simp <;> omega)) _ | refine Below.alloc ?_ (by first | omega | (simp <;> omega)) _ | refine Below.drew ?_)))
    · have hl' : (T.size : Int) ≤ 16 := by omega
      go_wp2_with fail
      refine (c2 _).mono ?_
      rintro e w2 ⟨rfl, hb2⟩
      replace bx := bx.below hb2
      replace hb1 := hb1.trans (hb2.mono hb1.size)
      replace t0 := kept hb2 t0
      replace t1 := kept hb2 t1
      have hg3 : g < w2.heap.size := Nat.lt_of_lt_of_le hg3 hb2.size
      clear hb2 c2 t0
      obtain ⟨X0, hX0⟩ : ∃ X0, X0 = w2.alloc (.cells #[.int .i64 b, .slice none 0 0] 26) := ⟨_, rfl⟩
      have by0 : Bx X0 w2.heap.size 26 #[.int .i64 b, .slice none 0 0] := by rw [hX0]; exact Bx.new _ _ _
      have bl0 : Below w2.heap.size w2 X0 := by rw [hX0]; exact (Below.refl _ _).alloc (Nat.le_refl _) _
      have q1 := kept bl0 t1
      have HX := Lib.hid hX0
      clear hX0
      go_wp2
      go_loopw [8] (fun i wr => ∃ (k : Nat) (A : Option Addr) (C : Nat), k ≤ T.size ∧ i = .int .i64 ((T.size : Int) - 1 - (k : Int)) ∧ Bx wr w2.heap.size 26 #[.int .i64 b, .slice A k C] ∧
          Own 2 wr (w2.heap.size + 1) wr.heap.size (.slice A k C) (tdL T k) ∧ Below w2.heap.size w2 wr) (fun i _ => (intOf i + 1).toNat)
      case atStart => exact ⟨0, none, 0, Nat.zero_le _, by simp, by rw [← HX.out]; exact by0, own_nil _ _ _ _, by rw [← HX.out]; exact bl0⟩
      case round =>
        clear by0 bl0 q1 HX
        obtain ⟨k, A, C, hk, rfl, by_, ow, bl⟩ := hrel
        have hzs := by_.lt
        by_cases hlt : k < T.size
        · have e1 : ((T.size : Int) - 1 - (k : Int)) = ((T.size - 1 - k : Nat) : Int) := by omega
          have hj : T.size - 1 - k < T.size := by omega
          have hst := tdL_succ T k
          rw [← byteAt_get hj] at hst
          have HT := Lib.hid hst
          have e2 : ((T.size : Int) - 1 - (k : Int)) - 1 = (T.size : Int) - 1 - ((k + 1 : Nat) : Int) := by omega
          have p1 := by_.at_ 1 rfl
          have q1 := kept bl t1
          have k1 := kept_lo (L := w2.heap.size + 1) p1 (by omega)
          have k2 := kept_lo (L := w2.heap.size + 1) q1 (by omega)
          have e3 : (0 : Int) ≤ (T.size : Int) - 1 - (k : Int) := by omega
          have c2 := fun W => l02Digit_any (T[T.size - 1 - k]'hj) W
          clear hst p1 q1
          go_wp2
          refine wp_region_marked (fun w' => Below (w2.heap.size + 1) wr w') 11 (by kernel_rfl) ?_
          have hS : Below (w2.heap.size + 1) wr wr.drew := (Below.refl _ _).drew
          refine wpAnyM_take (i := 0) (v := ?_) rfl (by kernel_rfl) (by kernel_rfl) (by kernel_rfl) (by kernel_rfl) (by kernel_rfl) (fun _ _ _ h => h) hS (.inl ⟨by rfl, ?_⟩) ?_
          rotate_left 1
          · intro w' hS'; go_simp; try with_reducible rfl
          simp only [Act.put, List.setIfInBounds_toArray]
          refine wpAnyM_take (i := 1) (v := ?_) rfl (by kernel_rfl) (by kernel_rfl) (by kernel_rfl) (by kernel_rfl) (by kernel_rfl) (fun _ _ _ h => h) hS (.inl ⟨by rfl, ?_⟩) ?_
          rotate_left 1
          · intro w' hS'; go_simp; try with_reducible rfl
          simp only [Act.put]
          refine wpAnyM_take (i := 2) (v := ?_) rfl (by kernel_rfl) (by kernel_rfl) (by kernel_rfl) (by kernel_rfl) (by kernel_rfl) (fun _ _ _ h => h) hS (.inl ⟨by rfl, ?_⟩) ?_
          rotate_left 1
          · intro w' hS'; go_simp; try with_reducible rfl
          simp only [Act.put]
          refine wpAnyM_take (i := 3) (v := ?_) rfl (by kernel_rfl) (by kernel_rfl) (by kernel_rfl) (by kernel_rfl) (by kernel_rfl) (fun _ _ _ h => h) hS (.inl ⟨by rfl, ?_⟩) ?_
          rotate_left 1
          · intro w' hS'; go_simp; try with_reducible rfl
          simp only [Act.put]
          refine wpAnyM_take (i := 4) (v := ?_) rfl (by kernel_rfl) (by kernel_rfl) (by kernel_rfl) (by kernel_rfl) (by kernel_rfl) (fun _ _ _ h => h) hS (.inl ⟨by rfl, ?_⟩) ?_
          rotate_left 1
          · intro w' hS'; go_simp; try with_reducible rfl
          simp only [Act.put]
          refine wpAnyM_take (i := 5) (v := ?_) rfl (by kernel_rfl) (by kernel_rfl) (by kernel_rfl) (by kernel_rfl) (by kernel_rfl) (fun _ _ _ h => h) hS (.inl ⟨by rfl, ?_⟩) ?_
          rotate_left 1
          · intro w' hS'; go_simp; try with_reducible rfl
          simp only [Act.put]
          refine wpAnyM_take (i := 6) (v := ?_) rfl (by kernel_rfl) (by kernel_rfl) (by kernel_rfl) (by kernel_rfl) (by kernel_rfl) (fun _ _ _ h => h) hS (.inl ⟨by rfl, ?_⟩) ?_
          rotate_left 1
          · intro w' hS'; go_simp; try with_reducible rfl
          simp only [Act.put]
          refine wpAnyM_one (i := 7) (by kernel_rfl) rfl (by rfl) (fun K hK => ?_)
          go_simp
          refine (c2 _).mono ?_
          rintro e w3 ⟨rfl, rfl⟩
          refine hK _ _ (.inr hS) ?_
          try simp only [Act.put, List.setIfInBounds_toArray]
          clear hK K
          refine wpAnyM_one (i := 8) (by kernel_rfl) rfl (by rfl) (fun K hK => ?_)
          go_simp
          replace hS := hS.alloc (by simp <;> omega) (.cells #[.int .i64 (sgV (T[T.size - 1 - k]'hj).toNat)] 2)
          refine hK _ _ (.inr hS) ?_
          clear hK K
          try simp only [Act.put, List.setIfInBounds_toArray]
          refine wpAnyM_one (i := 9) (by kernel_rfl) rfl (by rfl) (fun K hK => ?_)
          refine wp_appI (.tmp 41) (.tmp 48) 24 2 rfl Tryz.underlying24 info_int64 rfl ((ow.drew).alloc _) (tdL_len _ _) ⟨wr.heap.size, 0, none⟩ 1 (sgV (T[T.size - 1 - k]'hj).toNat) rfl (by go_simp) (by omega) (by simp <;> omega) ?_
          intro A' C' w3 hown1 ht1
          rw [← HT.out] at hown1
          replace hS : Below (w2.heap.size + 1) wr w3 := hS.trans (ht1.below (Nat.le_refl _) (by simp <;> omega))
          have dx1 := by_.lo hS (by omega)
          have dc1 := dx1.at_ 1 rfl
          have df1 := dx1.thaw 1
          refine hK _ _ (.inr hS) ?_
          try simp only [Act.put, List.setIfInBounds_toArray]
          clear hK K c2
          refine wpAnyM_take (i := 10) (v := ?_) rfl (by kernel_rfl) (by kernel_rfl) (by kernel_rfl) (by kernel_rfl) (by kernel_rfl) (fun _ _ _ h => h) hS (.inl ⟨by rfl, ?_⟩) ?_
          rotate_left 1
          · intro w' hS'; go_simp; try with_reducible rfl
          simp only [Act.put]
          refine wpAnyM_one (i := 11) (by kernel_rfl) rfl (by rfl) (fun K hK => ?_)
          go_simp
          refine hK _ _ (.inl rfl) ?_
          clear hK K k1 k2
          refine wpAnyM_done (by kernel_rfl) ?_ _
          go_wp2
          go_roundw
          case rel => exact ⟨k + 1, A', C', by omega, by rw [← e2]; go_num, by simpa using dx1.set_ 1 (.slice A' (k + 1) C'), (hown1.setCell (p := ⟨w2.heap.size, 1, none⟩) (.inl (by simp)) _).wide (Nat.le_refl _) (by simp),
            (bl.trans (hS.mono (by omega))).setCell (p := ⟨w2.heap.size, 1, none⟩) (by simp) _⟩
          case measure => (simp [intOf]) <;> omega
        · obtain rfl : k = T.size := by omega
          rw [show (T.size : Int) - 1 - (T.size : Int) = -1 by omega]
          have bxr := bx.below bl
          have blr := hb1.trans (bl.mono hb1.size)
          have c0 := bxr.at_ 0 rfl
          have c1 := bxr.at_ 1 rfl
          have f0 := bxr.thaw 0
          have f1 := bxr.thaw 1
          cases ok with
          | false =>
            have HN := Lib.hid (HR.out.trans (rgT_head rfl))
            clear HR
            go_wp2
            exact bodyPost_ret (v := .tuple #[.agg #[.int .i64 0, .slice none 0 0], .bool false]) (by simp [results, Tryz.results37, go_sem, c0, c1]) rfl
              (rgPost_no HN.out rfl (by repeat (first | exact blr | refine Below.setCell ?_ (by first | omega | (simp <;> omega)) _ | refine Below.alloc ?_ (by first | omega | (simp <;> omega)) _ | refine Below.drew ?_)))
          | true =>
            have HL := Lib.hid (tdL_len T T.size)
            have d0 := by_.at_ 0 rfl
            have d1 := by_.at_ 1 rfl
            have c3 := l02Ok_any w2.heap.size b A C (tdL T T.size) wr ow.rd d0 (by rw [HL.out]; exact d1)
            have hwz := hb1.size
            cases hok : okB b (tdL T T.size)
            · have HN := Lib.hid (HR.out.trans (rgT_bad hok))
              rw [hok] at c3
              clear hok HR
              go_wp2_with (go_at_call 70; refine c3.mono ?_; rintro e w4 ⟨rfl, n, rfl⟩)
              exact bodyPost_ret (v := .tuple #[.agg #[.int .i64 0, .slice none 0 0], .bool false]) (by simp [results, Tryz.results37, go_sem, c0, c1]) rfl
                (rgPost_no HN.out rfl (by repeat (first | exact bel_drewN blr n | refine Below.setCell ?_ (by first | omega | (simp <;> omega)) _ | refine Below.alloc ?_ (by first | omega | (simp <;> omega)) _ | refine Below.drew ?_)))
            · have HN := Lib.hid (HR.out.trans (rgT_yes (by omega) rfl hok))
              rw [hok] at c3
              clear hok HR
              go_wp2_with (go_at_call 70; refine c3.mono ?_; rintro e w4 ⟨rfl, n, rfl⟩)
              exact bodyPost_ret (v := .tuple #[.agg #[.int .i64 b, .slice A T.size C], .bool true]) (by simp [results, Tryz.results37, go_sem, c0, c1]) rfl
                (rgPost_yes HN.out HL.out rfl (lo := w2.heap.size + 1) (hi := wr.heap.size) (((ow.drewN n).setCell (p := ⟨w.heap.size, 0, none⟩) (.inl (by show w.heap.size < _; omega)) _).setCell (p := ⟨w.heap.size, 1, none⟩) (.inl (by show w.heap.size < _; omega)) _) (by omega)
                  (by simp) (by repeat (first | exact bel_drewN blr n | refine Below.setCell ?_ (by first | omega | (simp <;> omega)) _ | refine Below.alloc ?_ (by first | omega | (simp <;> omega)) _ | refine Below.drew ?_)))
  · have HN := Lib.hid (HR.out.trans (rgL_len h2))
    have hne : ((L.length : Int) == 2) = false := by rw [beq_eq_false_iff_ne]; omega
    have hne2 : ¬ (L.length : Int) = 2 := by omega
    clear HR HZ h2
    go_enter Tryz.func37, Tryz.ntmps37
    go_wp2_with fail
    rw [← HV.out]
    refine c1.mono ?_
    rintro e w1 ⟨A, C, rfl, ow, hb⟩
    have bx1 := bx.below hb
    have hb1 := hbV.trans (hb.mono hbV.size)
    have c0 := bx1.at_ 0 rfl
    have c1 := bx1.at_ 1 rfl
    have f0 := bx1.thaw 0
    have f1 := bx1.thaw 1
    clear ow hb HV hbV bx
    go_wp2
    exact bodyPost_ret (v := .tuple #[.agg #[.int .i64 0, .slice none 0 0], .bool false]) (by simp [results, Tryz.results37, go_sem, c0, c1]) rfl
      (rgPost_no HN.out rfl (by repeat (first | exact hb1 | refine Below.setCell ?_ (by first | omega | (simp <;> omega)) _ | refine Below.alloc ?_ (by first | omega | (simp <;> omega)) _ | refine Below.drew ?_)))
end Go.Proofs.YtlahobdopmdfmaaGreatDoor

/- Own2 -/
namespace Go.Proofs.YtlahobdopmdfmaaGreatDoor
open Go.RowKit

theorem Touch.widen {lo hi lo' hi' : Nat} {w w' : World} (h : Touch lo hi w w') (h1 : lo' ≤ lo) (h2 : hi ≤ hi') : Touch lo' hi' w w' :=
  ⟨h.os, h.tape, h.output, h.size, fun k hk ho => h.block k hk (by omega)⟩
theorem Touch.then_ {a b lo hi : Nat} {w w1 w2 : World} (h : Touch a b w w1) (k : Touch lo hi w1 w2) (hl : w.heap.size ≤ lo) : Touch a b w w2 :=
  ⟨k.os.trans h.os, k.tape.trans h.tape, k.output.trans h.output, Nat.le_trans h.size k.size, fun i hi ho => (k.block i (by have := h.size; omega) (.inl (by omega))).trans (h.block i hi ho)⟩
/-- What is owned lies below the heap's size. -/
theorem Own.tight {t : TypeId} {w : World} {lo hi : Nat} {v : Value} {zs : List Int} (h : Own t w lo hi v zs) : Own t w lo (min hi w.heap.size) v zs :=
  ⟨h.row, fun k hk => by have := h.lo_le hk; omega, h.len⟩

/-- Two rows that can be read. -/
structure Rd2 (w : World) (a : Option Addr) (z1 : List Int) (b : Option Addr) (z2 : List Int) : Prop where
  p : Rd w a z1
  q : Rd w b z2
theorem Rd2.below {w w' : World} {a b : Option Addr} {z1 z2 : List Int} (h : Rd2 w a z1 b z2) (hb : Below w.heap.size w w') : Rd2 w' a z1 b z2 := ⟨h.p.below hb, h.q.below hb⟩
theorem Rd2.drewN {w : World} {a b : Option Addr} {z1 z2 : List Int} (h : Rd2 w a z1 b z2) (n : Nat) : Rd2 (w.drewN n) a z1 b z2 := ⟨h.p.drewN n, h.q.drewN n⟩
theorem Rd2.len {w : World} {a b : Option Addr} {z1 z2 : List Int} (h : Rd2 w a z1 b z2) : z1.length ≤ 1000000000 ∧ z2.length ≤ 1000000000 := ⟨h.p.len, h.q.len⟩

/-- Two rows that came in: of whatever length. -/
structure Raw2 (w : World) (a : Option Addr) (z1 : List Int) (b : Option Addr) (z2 : List Int) : Prop where
  p : Raw w a z1
  q : Raw w b z2
theorem Raw2.len {w : World} {a b : Option Addr} {z1 z2 : List Int} (h : Raw2 w a z1 b z2) : z1.length ≤ 9223372036854775807 ∧ z2.length ≤ 9223372036854775807 := ⟨h.p.len, h.q.len⟩
theorem Raw2.wf {w : World} {a b : Option Addr} {z1 z2 : List Int} (h : Raw2 w a z1 b z2) : All64 z1 ∧ All64 z2 := ⟨h.p.wf, h.q.wf⟩
theorem Raw2.rd {w : World} {a b : Option Addr} {z1 z2 : List Int} (h : Raw2 w a z1 b z2) (hl : z1.length + z2.length ≤ 1000000000) : Rd2 w a z1 b z2 := ⟨h.p.rd (by omega), h.q.rd (by omega)⟩

/-- Two slices of the call's own, among the blocks lo .. hi - 1, apart from each other. -/
structure Own2 (t : TypeId) (w : World) (lo hi : Nat) (u : Value) (z1 : List Int) (v : Value) (z2 : List Int) : Prop where
  ex : ∃ l1 h1 l2 h2, Own t w l1 h1 u z1 ∧ Own t w l2 h2 v z2 ∧ lo ≤ l1 ∧ h1 ≤ hi ∧ lo ≤ l2 ∧ h2 ≤ hi ∧ (h1 ≤ l2 ∨ h2 ≤ l1)
section
variable {t : TypeId} {w w' : World} {lo hi : Nat} {u v : Value} {z1 z2 : List Int}
theorem Own2.touch {a b : Nat} (h : Own2 t w lo hi u z1 v z2) (ht : Touch a b w w') (hd : hi ≤ a ∨ b ≤ lo) : Own2 t w' lo hi u z1 v z2 := by
  obtain ⟨l1, h1, l2, h2, o1, o2, s⟩ := h.ex
  exact ⟨l1, h1, l2, h2, o1.touch ht (by omega), o2.touch ht (by omega), s⟩
theorem Own2.below (h : Own2 t w lo hi u z1 v z2) (hb : Below w.heap.size w w') : Own2 t w' lo hi u z1 v z2 := by
  obtain ⟨l1, h1, l2, h2, o1, o2, s⟩ := h.ex
  exact ⟨l1, h1, l2, h2, o1.below hb, o2.below hb, s⟩
theorem Own2.low {L : Nat} (h : Own2 t w lo hi u z1 v z2) (hb : Below L w w') (hg : hi ≤ L) : Own2 t w' lo hi u z1 v z2 := by
  obtain ⟨l1, h1, l2, h2, o1, o2, s⟩ := h.ex
  exact ⟨l1, h1, l2, h2, Own.lo o1 hb (by omega), Own.lo o2 hb (by omega), s⟩
theorem Own2.drewN (h : Own2 t w lo hi u z1 v z2) (n : Nat) : Own2 t (w.drewN n) lo hi u z1 v z2 := h.below (bel_drewN (Below.refl _ _) n)
theorem Own2.drew (h : Own2 t w lo hi u z1 v z2) : Own2 t w.drew lo hi u z1 v z2 := h.below ((Below.refl _ _).drew)
theorem Own2.alloc (h : Own2 t w lo hi u z1 v z2) (o : Obj) : Own2 t (w.alloc o) lo hi u z1 v z2 := h.below ((Below.refl _ _).alloc (Nat.le_refl _) o)
theorem Own2.setCell (h : Own2 t w lo hi u z1 v z2) {p : Addr} (hp : p.block < lo ∨ hi ≤ p.block) (x : Value) : Own2 t (w.setCell p x) lo hi u z1 v z2 := by
  obtain ⟨l1, h1, l2, h2, o1, o2, s⟩ := h.ex
  exact ⟨l1, h1, l2, h2, o1.setCell (by omega) x, o2.setCell (by omega) x, s⟩
theorem Own2.wide {lo' hi' : Nat} (h : Own2 t w lo hi u z1 v z2) (hl : lo' ≤ lo) (hh : hi ≤ hi') : Own2 t w lo' hi' u z1 v z2 := by
  obtain ⟨l1, h1, l2, h2, o1, o2, s⟩ := h.ex
  exact ⟨l1, h1, l2, h2, o1, o2, by omega⟩
theorem Own2.len (h : Own2 t w lo hi u z1 v z2) : z1.length ≤ 1000000000 ∧ z2.length ≤ 1000000000 := by
  obtain ⟨l1, h1, l2, h2, o1, o2, s⟩ := h.ex
  exact ⟨o1.len, o2.len⟩
theorem Own2.rd {a b : Option Addr} {n c m d : Nat} (h : Own2 t w lo hi (.slice a n c) z1 (.slice b m d) z2) : Rd2 w a z1 b z2 := by
  obtain ⟨l1, h1, l2, h2, o1, o2, s⟩ := h.ex
  exact ⟨o1.rd, o2.rd⟩
theorem own2_nil (lo hi : Nat) (hl : lo ≤ hi) : Own2 t w lo hi (.slice none 0 0) [] (.slice none 0 0) [] :=
  ⟨lo, lo, lo, lo, ⟨World.ownsRow_nil _ _ _ _, by simp [Value.ownBlock], by simp⟩, ⟨World.ownsRow_nil _ _ _ _, by simp [Value.ownBlock], by simp⟩, by omega⟩
end
end Go.Proofs.YtlahobdopmdfmaaGreatDoor
