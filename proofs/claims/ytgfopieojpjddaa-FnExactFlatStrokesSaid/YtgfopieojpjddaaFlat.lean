/-
  Rows whose elements are structs of some cells: rows that can be read, rows that a call owns.
-/
import Derived.Test.YtgfopieojpjddaaRow
namespace Go.Proofs.Ytgfopieojpjddaa
open Go.RowKit

/-- How an element lies in cells. -/
structure Flat (α : Type) where
  sz : Nat
  cells : α → List Value
  zero : α
  len : ∀ x, (cells x).length = sz
  one : ∀ x, ∀ v ∈ cells x, v.oneCell' = true
  pos : 0 < sz

def pairF : Flat (Int × Int) := ⟨2, fun z => [.int .i64 z.1, .int .i64 z.2], (0, 0), fun _ => rfl, fun _ v hv => by simp at hv; rcases hv with rfl | rfl <;> rfl, by omega⟩
def tripF : Flat (Int × Int × Int) := ⟨3, fun z => [.int .i64 z.1, .int .i64 z.2.1, .int .i64 z.2.2], (0, 0, 0), fun _ => rfl, fun _ v hv => by simp at hv; rcases hv with rfl | rfl | rfl <;> rfl, by omega⟩
def textF : Flat ByteArray := ⟨1, fun s => [.string s], ByteArray.empty, fun _ => rfl, fun _ v hv => by simp at hv; subst hv; rfl, by omega⟩

section
variable {α : Type} (F : Flat α)
/-- The cells of a row, one element behind the other. -/
def flat (xs : List α) : List Value := xs.flatMap F.cells
/-- The k-th element (a word that the walk does not open). -/
def elt (xs : List α) (k : Nat) : α := xs[k]?.getD F.zero
variable {F}
theorem elt_get {xs : List α} {k : Nat} (h : k < xs.length) : elt F xs k = xs[k] := by simp [elt, h]
theorem elt_some {xs : List α} {k : Nat} (h : k < xs.length) : xs[k]? = some (elt F xs k) := by rw [elt_get h]; exact List.getElem?_eq_getElem h
theorem flat_len (xs : List α) : (flat F xs).length = xs.length * F.sz := by
  induction xs with
  | nil => simp [flat]
  | cons x xs ih => simp only [flat, List.flatMap_cons, List.length_append, F.len, List.length_cons] at ih ⊢; rw [ih, Nat.succ_mul, Nat.add_comm]
theorem flat_nil : flat F ([] : List α) = [] := rfl
theorem flat_append (xs ys : List α) : flat F (xs ++ ys) = flat F xs ++ flat F ys := by simp [flat]
theorem flat_one (x : α) : flat F [x] = F.cells x := by simp [flat]
theorem flat_cons (x : α) (xs : List α) : flat F (x :: xs) = F.cells x ++ flat F xs := by simp [flat]
theorem flat_get {xs : List α} {i j : Nat} {x : α} {v : Value} (h : xs[i]? = some x) (hj : (F.cells x)[j]? = some v) : (flat F xs)[i * F.sz + j]? = some v := by
  induction xs generalizing i with
  | nil => simp at h
  | cons y ys ih =>
    rw [flat_cons]
    have hj' : j < F.sz := by have := (List.getElem?_eq_some_iff.1 hj).1; rwa [F.len] at this
    cases i with
    | zero =>
      simp only [List.getElem?_cons_zero, Option.some.injEq] at h
      subst h
      rw [Nat.zero_mul, Nat.zero_add, List.getElem?_append_left (by rw [F.len]; exact hj')]
      exact hj
    | succ i =>
      rw [List.getElem?_append_right (by rw [F.len, Nat.succ_mul]; omega), F.len, show (i + 1) * F.sz + j - F.sz = i * F.sz + j by rw [Nat.succ_mul]; omega]
      exact ih (by simpa using h)
theorem flat_mem {xs : List α} : ∀ v ∈ flat F xs, v.oneCell' = true := by
  intro v hv
  simp only [flat, List.mem_flatMap] at hv
  obtain ⟨x, _, hx⟩ := hv
  exact F.one x v hx
/-- One cell of an element is written. -/
theorem flat_set {xs : List α} {i j : Nat} {x y : α} {v : Value} (h : xs[i]? = some x) (hj : j < F.sz) (hy : F.cells y = (F.cells x).set j v) : (flat F xs).set (i * F.sz + j) v = flat F (xs.set i y) := by
  induction xs generalizing i with
  | nil => simp at h
  | cons z zs ih =>
    cases i with
    | zero =>
      simp only [List.getElem?_cons_zero, Option.some.injEq] at h
      subst h
      rw [flat_cons, List.set_cons_zero, flat_cons, Nat.zero_mul, Nat.zero_add, List.set_append_left _ _ (by rw [F.len]; exact hj), hy]
    | succ i =>
      rw [flat_cons, List.set_cons_succ, flat_cons, List.set_append_right _ _ (by rw [F.len, Nat.succ_mul]; omega), F.len, show (i + 1) * F.sz + j - F.sz = i * F.sz + j by rw [Nat.succ_mul]; omega, ih (by simpa using h)]

theorem list_ext_elt {xs ys : List α} (hl : xs.length = ys.length) (h : ∀ k, k < xs.length → elt F xs k = elt F ys k) : xs = ys := by
  apply List.ext_getElem hl
  intro k h1 h2
  have := h k h1
  rwa [elt_get h1, elt_get h2] at this
theorem takeE_snoc {xs ys : List α} {k : Nat} (hk : k < xs.length) (hl : xs.length = ys.length) (h : xs.take k = ys.take k) (he : elt F xs k = elt F ys k) : xs.take (k + 1) = ys.take (k + 1) := by
  have hk' : k < ys.length := by omega
  rw [elt_get hk, elt_get hk'] at he
  rw [List.take_succ_eq_append_getElem hk, List.take_succ_eq_append_getElem hk', h, he]
theorem neE_of_at {xs ys : List α} {k : Nat} (he : ¬ elt F xs k = elt F ys k) : ¬ xs = ys := by rintro rfl; exact he rfl
theorem takeE_all {xs ys : List α} (hl : xs.length = ys.length) (h : xs.take xs.length = ys.take xs.length) : xs = ys := by
  rw [List.take_of_length_le (Nat.le_refl _), hl, List.take_of_length_le (Nat.le_refl _)] at h
  exact h
theorem takeE_succ {xs : List α} {k : Nat} (hk : k < xs.length) : xs.take (k + 1) = xs.take k ++ [elt F xs k] := by rw [List.take_succ_eq_append_getElem hk, elt_get hk]
theorem dropE {xs : List α} {k : Nat} (hk : k < xs.length) : xs.drop k = elt F xs k :: xs.drop (k + 1) := by rw [List.drop_eq_getElem_cons hk, elt_get hk]
theorem elt_mem {xs : List α} {k : Nat} (hk : k < xs.length) : elt F xs k ∈ xs := by rw [elt_get hk]; exact List.getElem_mem _
theorem allE_succ {p : α → Prop} {xs : List α} {k : Nat} (hk : k < xs.length) (h : ∀ x ∈ xs.take k, p x) (he : p (elt F xs k)) : ∀ x ∈ xs.take (k + 1), p x := by
  rw [takeE_succ (F := F) hk]
  intro x hx
  rcases List.mem_append.1 hx with h1 | h1
  · exact h x h1
  · rw [List.mem_singleton] at h1; subst h1; exact he
theorem elt_set_eq {xs : List α} {k : Nat} (hk : k < xs.length) (x : α) : elt F (xs.set k x) k = x := by simp [elt, hk]
theorem elt_set_ne {xs : List α} {k j : Nat} (h : j ≠ k) (x : α) : elt F (xs.set j x) k = elt F xs k := by simp [elt, List.getElem?_set_ne h]
theorem elt_append_left {xs ys : List α} {k : Nat} (h : k < xs.length) : elt F (xs ++ ys) k = elt F xs k := by simp [elt, List.getElem?_append_left h]

/-- The cells from this address on read as these elements, which are not too many. -/
structure RdF (F : Flat α) (w : World) (a : Option Addr) (xs : List α) : Prop where
  len : xs.length ≤ 1000000000
  cells : xs ≠ [] → ∃ b off, a = some ⟨b, off, none⟩ ∧ ∀ (i : Nat) (x : α), xs[i]? = some x → ∀ (j : Nat) (v : Value), (F.cells x)[j]? = some v → w.cell? ⟨b, off + i * F.sz + j, none⟩ = some v

theorem RdF.at_ {w : World} {a : Option Addr} {xs : List α} (h : RdF F w a xs) {k : Nat} (hk : k < xs.length) :
    ∃ b off, a = some ⟨b, off, none⟩ ∧ ∀ (j : Nat) (v : Value), (F.cells (elt F xs k))[j]? = some v → w.cell? ⟨b, off + k * F.sz + j, none⟩ = some v := by
  obtain ⟨b, off, rfl, hc⟩ := h.cells (by rintro rfl; simp at hk)
  exact ⟨b, off, rfl, fun j v hv => hc k _ (elt_some hk) j v hv⟩
theorem RdF.drewN {w : World} {a : Option Addr} {xs : List α} (h : RdF F w a xs) (n : Nat) : RdF F (w.drewN n) a xs := ⟨h.len, h.cells⟩
theorem RdF.drew {w : World} {a : Option Addr} {xs : List α} (h : RdF F w a xs) : RdF F w.drew a xs := ⟨h.len, h.cells⟩
theorem RdF.below {w w' : World} {a : Option Addr} {xs : List α} (h : RdF F w a xs) (hb : Below w.heap.size w w') : RdF F w' a xs := by
  refine ⟨h.len, fun hne => ?_⟩
  obtain ⟨b, off, rfl, hc⟩ := h.cells hne
  exact ⟨b, off, rfl, fun i x hx j v hv => (hb.cell (p := ⟨b, _, none⟩) (World.block_lt_of_cell? _ _ (hc i x hx j v hv))).trans (hc i x hx j v hv)⟩

/-- All numbers fit an int64. -/
def All2 (xs : List (Int × Int)) : Prop := ∀ x ∈ xs, I64 x.1 ∧ I64 x.2
def All3 (xs : List (Int × Int × Int)) : Prop := ∀ x ∈ xs, I64 x.1 ∧ I64 x.2.1 ∧ I64 x.2.2
/-- Elements that came in: of whatever number. -/
structure RawF (F : Flat α) (p : α → Prop) (w : World) (a : Option Addr) (xs : List α) : Prop where
  len : xs.length ≤ 9223372036854775807
  wf : ∀ x ∈ xs, p x
  cells : xs ≠ [] → ∃ b off, a = some ⟨b, off, none⟩ ∧ ∀ (i : Nat) (x : α), xs[i]? = some x → ∀ (j : Nat) (v : Value), (F.cells x)[j]? = some v → w.cell? ⟨b, off + i * F.sz + j, none⟩ = some v
theorem RawF.rd {p : α → Prop} {w : World} {a : Option Addr} {xs : List α} (h : RawF F p w a xs) (hl : xs.length ≤ 1000000000) : RdF F w a xs := ⟨hl, h.cells⟩

/-- v is a slice of the call's own that holds these elements; it lies among the blocks lo .. hi - 1. -/
structure OwnF (F : Flat α) (t : TypeId) (w : World) (lo hi : Nat) (v : Value) (xs : List α) : Prop where
  row : Row t F.sz w lo hi v xs.length (flat F xs)
  len : xs.length ≤ 1000000000

section
variable {t : TypeId} {w w' : World} {lo hi : Nat} {v : Value} {xs : List α}
theorem OwnF.lo_le (h : OwnF F t w lo hi v xs) {k : Nat} (hk : v.ownBlock = some k) : lo ≤ k ∧ k < hi ∧ k < w.heap.size := h.row.lo_le hk
theorem OwnF.touch {a b : Nat} (h : OwnF F t w lo hi v xs) (ht : Touch a b w w') (hd : hi ≤ a ∨ b ≤ lo) : OwnF F t w' lo hi v xs := ⟨h.row.touch ht hd, h.len⟩
theorem OwnF.below (h : OwnF F t w lo hi v xs) (hb : Below w.heap.size w w') : OwnF F t w' lo hi v xs := ⟨h.row.below hb, h.len⟩
theorem OwnF.drewN (h : OwnF F t w lo hi v xs) (n : Nat) : OwnF F t (w.drewN n) lo hi v xs := ⟨h.row.drewN n, h.len⟩
theorem OwnF.drew (h : OwnF F t w lo hi v xs) : OwnF F t w.drew lo hi v xs := ⟨h.row.drew, h.len⟩
theorem OwnF.alloc (h : OwnF F t w lo hi v xs) (o : Obj) : OwnF F t (w.alloc o) lo hi v xs := ⟨h.row.alloc o, h.len⟩
theorem OwnF.setCell (h : OwnF F t w lo hi v xs) {p : Addr} (hp : p.block < lo ∨ hi ≤ p.block) (u : Value) : OwnF F t (w.setCell p u) lo hi v xs := ⟨h.row.setCell hp u, h.len⟩
theorem OwnF.wide {lo' hi' : Nat} (h : OwnF F t w lo hi v xs) (hl : lo' ≤ lo) (hh : hi ≤ hi') : OwnF F t w lo' hi' v xs := ⟨h.row.wide hl hh, h.len⟩
theorem OwnF.form (h : OwnF F t w lo hi v xs) : ∃ a c, v = .slice a xs.length c := h.row.form
theorem OwnF.low {L : Nat} (h : OwnF F t w lo hi v xs) (hb : Below L w w') (hg : hi ≤ L) : OwnF F t w' lo hi v xs :=
  ⟨⟨ownsRow_same h.row.row fun k hk => hb.block k (by have := h.lo_le hk; omega), h.row.top⟩, h.len⟩
theorem ownF_nil (F : Flat α) (t : TypeId) (w : World) (lo hi : Nat) : OwnF F t w lo hi (.slice none 0 0) [] := ⟨row_nil _ _ _ _ _, by simp⟩
/-- What is owned can be read. -/
theorem OwnF.rd {a : Option Addr} {n c : Nat} (h : OwnF F t w lo hi (.slice a n c) xs) : RdF F w a xs := by
  refine ⟨h.len, fun hne => ?_⟩
  have hn : n = xs.length := by
    obtain ⟨a', c', e⟩ := h.form
    injection e
  subst hn
  rcases h.row.row.2 with ⟨_, h0⟩ | ⟨g, cap, cur, hv, hg, hh, hc, _, _, htk⟩
  · exact absurd (List.eq_nil_of_length_eq_zero h0) hne
  · injection hv with ha _ _
    subst ha
    refine ⟨g, 0, rfl, fun i x hx j v hv => ?_⟩
    have h1 := flat_get hx hv
    have hi : i * F.sz + j < xs.length * F.sz := by rw [← flat_len (F := F)]; exact (List.getElem?_eq_some_iff.1 h1).1
    rw [Nat.zero_add, h.row.row.cellAt _ hi, h1]
theorem OwnF.blk {g n c : Nat} (h : OwnF F t w lo hi (.slice (some ⟨g, 0, none⟩) n c) xs) : lo ≤ g ∧ g < hi ∧ g < w.heap.size := h.lo_le rfl
theorem OwnF.num {a : Option Addr} {n c : Nat} (h : OwnF F t w lo hi (.slice a n c) xs) : n = xs.length := by
  obtain ⟨a', c', e⟩ := h.form
  injection e
/-- A row that is not empty begins a block. -/
theorem OwnF.head {a : Option Addr} {n c : Nat} (h : OwnF F t w lo hi (.slice a n c) xs) (hne : 0 < xs.length) : ∃ g, a = some ⟨g, 0, none⟩ ∧ lo ≤ g ∧ g < hi ∧ g < w.heap.size := by
  rcases h.row.row.2 with ⟨_, h0⟩ | ⟨g, cap, cur, hv, _⟩
  · omega
  · injection hv with ha _ _
    subst ha
    exact ⟨g, rfl, h.lo_le rfl⟩
theorem OwnF.get {g n c : Nat} (h : OwnF F t w lo hi (.slice (some ⟨g, 0, none⟩) n c) xs) {k j : Nat} {u : Value} (hk : k < xs.length) (hv : (F.cells (elt F xs k))[j]? = some u) : w.cell? ⟨g, k * F.sz + j, none⟩ = some u := by
  obtain ⟨b, off, e, hc⟩ := h.rd.at_ hk
  have h1 := flat_get (F := F) (elt_some (F := F) hk) hv
  obtain rfl := h.num
  rw [h.row.row.cellAt _ (by rw [← flat_len (F := F)]; exact (List.getElem?_eq_some_iff.1 h1).1), h1]
theorem OwnF.thaw {g n c : Nat} (h : OwnF F t w lo hi (.slice (some ⟨g, 0, none⟩) n c) xs) (j : Nat) : w.frozen? ⟨g, j, none⟩ = false := by
  obtain rfl := h.num
  exact h.row.row.frozenAt j
/-- One cell of an element is written. -/
theorem OwnF.put {g n c : Nat} (h : OwnF F t w lo hi (.slice (some ⟨g, 0, none⟩) n c) xs) {k j : Nat} {y : α} {u : Value} (hk : k < xs.length) (hj : j < F.sz) (hy : F.cells y = (F.cells (elt F xs k)).set j u) :
    OwnF F t (w.setCell ⟨g, k * F.sz + j, none⟩ u) lo hi (.slice (some ⟨g, 0, none⟩) n c) (xs.set k y) := by
  obtain rfl := h.num
  have hs := (h.row.row.stored (k * F.sz + j) u).1
  rw [flat_set (elt_some hk) hj hy] at hs
  exact ⟨⟨by simpa using hs, by simpa using h.row.top⟩, by simpa using h.len⟩
theorem ownF_first {n c : Nat} (h : OwnF F t w lo hi (.slice (some ⟨lo, 0, none⟩) n c) xs) : OwnF F t w lo (lo + 1) (.slice (some ⟨lo, 0, none⟩) n c) xs :=
  ⟨⟨h.row.row, fun k hk => by simp [Value.ownBlock] at hk; omega⟩, h.len⟩
end
end

/-- Elements with empty ones behind them, up to n. -/
def padF {α : Type} (F : Flat α) (n : Nat) (xs : List α) : List α := xs ++ List.replicate (n - xs.length) F.zero
section
variable {α : Type} {F : Flat α}
theorem padF_len {n : Nat} {xs : List α} (h : xs.length ≤ n) : (padF F n xs).length = n := by simp [padF]; omega
theorem padF_set {n : Nat} {xs : List α} (h : xs.length < n) (x : α) : (padF F n xs).set xs.length x = padF F n (xs ++ [x]) := by
  unfold padF
  rw [List.set_append_right _ _ (Nat.le_refl _), Nat.sub_self]
  have : n - xs.length = (n - (xs ++ [x]).length) + 1 := by simp; omega
  rw [this, List.replicate_succ, List.set_cons_zero, List.append_assoc, List.singleton_append]
theorem padF_all {n : Nat} {xs : List α} (h : xs.length = n) : padF F n xs = xs := by simp [padF, h]
theorem elt_padF {n : Nat} {xs : List α} (h : xs.length < n) : elt F (padF F n xs) xs.length = F.zero := by
  unfold elt padF
  rw [List.getElem?_append_right (Nat.le_refl _), Nat.sub_self, List.getElem?_replicate, if_pos (by omega)]; rfl

theorem made_flat (F : Flat α) (z : Array Value) (n : Nat) (hz : z.toList = F.cells F.zero) : (madeCells z (n * F.sz)).toList = flat F (padF F n []) := by
  have hs : z.size = F.sz := by rw [← F.len F.zero, ← hz, Array.length_toList]
  apply List.ext_getElem?
  intro j
  by_cases hj : j < n * F.sz
  · have hq : j / F.sz < n := (Nat.div_lt_iff_lt_mul F.pos).2 hj
    have hr : j % F.sz < F.sz := Nat.mod_lt _ F.pos
    have h0 : (padF F n [])[j / F.sz]? = some F.zero := by simp [padF, hq]
    have hc : (F.cells F.zero)[j % F.sz]? = some (z[j % F.sz]'(by omega)) := by
      rw [← hz, Array.getElem?_toList]; exact Array.getElem?_eq_getElem (by omega)
    have := flat_get (F := F) h0 hc
    rw [show j / F.sz * F.sz + j % F.sz = j by rw [Nat.mul_comm]; exact Nat.div_add_mod j F.sz] at this
    rw [this]
    have hb : z[j % z.size]! = z[j % F.sz]'(by omega) := by
      have e : z[j % z.size]! = z[j % z.size]'(by rw [hs]; omega) := getElem!_pos z _ _
      rw [e]
      congr 1
      rw [hs]
    simp [madeCells, hj, hb]
  · rw [List.getElem?_eq_none (by rw [Array.length_toList, size_madeCells]; omega), List.getElem?_eq_none (by rw [flat_len, padF_len (by simp)]; omega)]

/-- make([]T, n). -/
theorem wpList_makeF (F : Flat α) {P : Program} {w : World} {ops : Array Oper} {rest : List Oper} {o : Oper} {a : Act} {Q : Exit → Act → World → Prop}
    (hg : o.guard = none) (l c : Operand) (t e : TypeId) (hop : o.op = Op.makeSlice t l c) (h1 : P.underlying t = some (.slice e)) (z0 : Value) (bytes : Nat)
    (hinfo : (P.info? e).map (fun i => (i.zero, i.size, i.bytes)) = some (some z0, F.sz, bytes)) (hz0 : z0.cells.toList = F.cells F.zero) (hby : bytes ≤ 128)
    (n : Nat) (hl : a.eval l = .int .i64 n) (hc : a.eval c = .int .i64 n) (hn : n ≤ 1000000000)
    (hK : ∀ w', OwnF F e w' w.heap.size w'.heap.size (.slice (some ⟨w.heap.size, 0, none⟩) n n) (padF F n []) → Below w.heap.size w w' → wpList P ops Q rest (a.put o.dst (.slice (some ⟨w.heap.size, 0, none⟩) n n)) w') :
    wpList P ops Q (o :: rest) a w := by
  obtain ⟨i, hi1, hi2, hi3, hi4⟩ := info_parts hinfo
  have hb : i.bytes * n ≤ 128 * 1000000000 := Nat.mul_le_mul (by omega) hn
  refine wpList_make_full w hg l c t hop w.heap.size e i _ F.sz h1 hi1 hi2 hi3 .i64 .i64 n n n hl hc rfl rfl (by omega) (by unfold maxLen; omega) (Nat.le_refl _) fun w' hown hgr => ?_
  rw [made_flat F _ n hz0] at hown
  exact hK w' ⟨⟨by rw [padF_len (by simp)]; exact hown, fun k hk => (hown.lt k hk).2⟩, by rw [padF_len (by simp)]; exact hn⟩ ((Below.refl _ _).grown hgr (Nat.le_refl _) (by simp))
end

theorem flat_split {α : Type} {F : Flat α} {xs : List α} {j : Nat} {v : Value} (h : (flat F xs)[j]? = some v) : ∃ x, xs[j / F.sz]? = some x ∧ (F.cells x)[j % F.sz]? = some v := by
  have hj : j < xs.length * F.sz := by rw [← flat_len (F := F)]; exact (List.getElem?_eq_some_iff.1 h).1
  have hq : j / F.sz < xs.length := (Nat.div_lt_iff_lt_mul F.pos).2 hj
  have hr : j % F.sz < (F.cells xs[j / F.sz]).length := by rw [F.len]; exact Nat.mod_lt _ F.pos
  refine ⟨xs[j / F.sz], List.getElem?_eq_getElem hq, ?_⟩
  have h2 := flat_get (F := F) (List.getElem?_eq_getElem hq) (List.getElem?_eq_getElem hr)
  rw [show j / F.sz * F.sz + j % F.sz = j by rw [Nat.mul_comm]; exact Nat.div_add_mod j F.sz, h] at h2
  rw [List.getElem?_eq_getElem hr]
  exact h2.symm
/-- All cells of a row that can be read. -/
theorem RdF.news {α : Type} {F : Flat α} {w : World} {b off : Nat} {xs : List α} (h : RdF F w (some ⟨b, off, none⟩) xs) : ∀ j u, (flat F xs)[j]? = some u → w.cell? ((⟨b, off, none⟩ : Addr).add j) = some u := by
  intro j u hj
  obtain ⟨x, hx, hv⟩ := flat_split hj
  have hne : xs ≠ [] := by rintro rfl; simp at hx
  obtain ⟨b', off', e, hc⟩ := h.cells hne
  injection e with e
  injection e with e1 e2 _
  subst e1 e2
  have := hc _ x hx _ u hv
  rw [show off + j / F.sz * F.sz + j % F.sz = off + j by rw [Nat.add_assoc, Nat.mul_comm (j / F.sz), Nat.div_add_mod]] at this
  have ea : (⟨b, off, none⟩ : Addr).add j = ⟨b, off + j, none⟩ := by
    by_cases h0 : j = 0
    · subst h0; rfl
    · simp [Addr.add, h0]
  rw [ea]
  exact this
section
variable {t : TypeId} {w : World} {lo hi g n c k : Nat}
theorem RdF.at2 {a : Option Addr} {xs : List (Int × Int)} (h : RdF pairF w a xs) (hk : k < xs.length) :
    ∃ b off, a = some ⟨b, off, none⟩ ∧ w.cell? ⟨b, off + k * 2, none⟩ = some (.int .i64 (elt pairF xs k).1) ∧ w.cell? ⟨b, off + k * 2 + 1, none⟩ = some (.int .i64 (elt pairF xs k).2) := by
  obtain ⟨b, off, rfl, hc⟩ := h.at_ hk
  exact ⟨b, off, rfl, hc 0 _ rfl, hc 1 _ rfl⟩
theorem RdF.at3 {a : Option Addr} {xs : List (Int × Int × Int)} (h : RdF tripF w a xs) (hk : k < xs.length) :
    ∃ b off, a = some ⟨b, off, none⟩ ∧ w.cell? ⟨b, off + k * 3, none⟩ = some (.int .i64 (elt tripF xs k).1) ∧ w.cell? ⟨b, off + k * 3 + 1, none⟩ = some (.int .i64 (elt tripF xs k).2.1) ∧
      w.cell? ⟨b, off + k * 3 + 2, none⟩ = some (.int .i64 (elt tripF xs k).2.2) := by
  obtain ⟨b, off, rfl, hc⟩ := h.at_ hk
  exact ⟨b, off, rfl, hc 0 _ rfl, hc 1 _ rfl, hc 2 _ rfl⟩
theorem OwnF.get2 {xs : List (Int × Int)} (h : OwnF pairF t w lo hi (.slice (some ⟨g, 0, none⟩) n c) xs) (hk : k < xs.length) :
    w.cell? ⟨g, k * 2, none⟩ = some (.int .i64 (elt pairF xs k).1) ∧ w.cell? ⟨g, k * 2 + 1, none⟩ = some (.int .i64 (elt pairF xs k).2) :=
  ⟨h.get (j := 0) hk rfl, h.get (j := 1) hk rfl⟩
theorem OwnF.get3 {xs : List (Int × Int × Int)} (h : OwnF tripF t w lo hi (.slice (some ⟨g, 0, none⟩) n c) xs) (hk : k < xs.length) :
    w.cell? ⟨g, k * 3, none⟩ = some (.int .i64 (elt tripF xs k).1) ∧ w.cell? ⟨g, k * 3 + 1, none⟩ = some (.int .i64 (elt tripF xs k).2.1) ∧ w.cell? ⟨g, k * 3 + 2, none⟩ = some (.int .i64 (elt tripF xs k).2.2) :=
  ⟨h.get (j := 0) hk rfl, h.get (j := 1) hk rfl, h.get (j := 2) hk rfl⟩
theorem OwnF.put20 {xs : List (Int × Int)} (h : OwnF pairF t w lo hi (.slice (some ⟨g, 0, none⟩) n c) xs) (hk : k < xs.length) (u : Int) :
    OwnF pairF t (w.setCell ⟨g, k * 2, none⟩ (.int .i64 u)) lo hi (.slice (some ⟨g, 0, none⟩) n c) (xs.set k (u, (elt pairF xs k).2)) := h.put (j := 0) hk (by decide) rfl
theorem OwnF.put21 {xs : List (Int × Int)} (h : OwnF pairF t w lo hi (.slice (some ⟨g, 0, none⟩) n c) xs) (hk : k < xs.length) (u : Int) :
    OwnF pairF t (w.setCell ⟨g, k * 2 + 1, none⟩ (.int .i64 u)) lo hi (.slice (some ⟨g, 0, none⟩) n c) (xs.set k ((elt pairF xs k).1, u)) := h.put (j := 1) hk (by decide) rfl
theorem OwnF.put30 {xs : List (Int × Int × Int)} (h : OwnF tripF t w lo hi (.slice (some ⟨g, 0, none⟩) n c) xs) (hk : k < xs.length) (u : Int) :
    OwnF tripF t (w.setCell ⟨g, k * 3, none⟩ (.int .i64 u)) lo hi (.slice (some ⟨g, 0, none⟩) n c) (xs.set k (u, (elt tripF xs k).2)) := h.put (j := 0) hk (by decide) rfl
theorem OwnF.put31 {xs : List (Int × Int × Int)} (h : OwnF tripF t w lo hi (.slice (some ⟨g, 0, none⟩) n c) xs) (hk : k < xs.length) (u : Int) :
    OwnF tripF t (w.setCell ⟨g, k * 3 + 1, none⟩ (.int .i64 u)) lo hi (.slice (some ⟨g, 0, none⟩) n c) (xs.set k ((elt tripF xs k).1, u, (elt tripF xs k).2.2)) := h.put (j := 1) hk (by decide) rfl
theorem OwnF.put32 {xs : List (Int × Int × Int)} (h : OwnF tripF t w lo hi (.slice (some ⟨g, 0, none⟩) n c) xs) (hk : k < xs.length) (u : Int) :
    OwnF tripF t (w.setCell ⟨g, k * 3 + 2, none⟩ (.int .i64 u)) lo hi (.slice (some ⟨g, 0, none⟩) n c) (xs.set k ((elt tripF xs k).1, (elt tripF xs k).2.1, u)) := h.put (j := 2) hk (by decide) rfl
/-- All cells of an element are written. -/
theorem OwnF.put2 {xs : List (Int × Int)} (h : OwnF pairF t w lo hi (.slice (some ⟨g, 0, none⟩) n c) xs) (hk : k < xs.length) (x : Int × Int) :
    OwnF pairF t ((w.setCell ⟨g, k * 2, none⟩ (.int .i64 x.1)).setCell ⟨g, k * 2 + 1, none⟩ (.int .i64 x.2)) lo hi (.slice (some ⟨g, 0, none⟩) n c) (xs.set k x) := by
  have := (h.put20 hk x.1).put21 (k := k) (by simpa using hk) x.2
  rwa [elt_set_eq hk, List.set_set] at this
theorem OwnF.put3 {xs : List (Int × Int × Int)} (h : OwnF tripF t w lo hi (.slice (some ⟨g, 0, none⟩) n c) xs) (hk : k < xs.length) (x : Int × Int × Int) :
    OwnF tripF t (((w.setCell ⟨g, k * 3, none⟩ (.int .i64 x.1)).setCell ⟨g, k * 3 + 1, none⟩ (.int .i64 x.2.1)).setCell ⟨g, k * 3 + 2, none⟩ (.int .i64 x.2.2)) lo hi (.slice (some ⟨g, 0, none⟩) n c) (xs.set k x) := by
  have := ((h.put30 hk x.1).put31 (k := k) (by simpa using hk) x.2.1).put32 (k := k) (by simpa using hk) x.2.2
  simpa only [List.set_set, elt_set_eq (F := tripF) hk] using this
end
theorem padF_copy {α : Type} {F : Flat α} {xs : List α} {k : Nat} (hk : k < xs.length) : (padF F xs.length (xs.take k)).set k (elt F xs k) = padF F xs.length (xs.take (k + 1)) := by
  have hl : (xs.take k).length = k := by rw [List.length_take]; omega
  have := padF_set (F := F) (n := xs.length) (xs := xs.take k) (by omega) (elt F xs k)
  rw [hl] at this
  rw [this, takeE_succ (F := F) hk]
theorem padF_copied {α : Type} {F : Flat α} {xs : List α} : padF F xs.length (xs.take xs.length) = xs := by rw [List.take_of_length_le (Nat.le_refl _)]; exact padF_all rfl
theorem padF_take_len {α : Type} {F : Flat α} {xs : List α} {k : Nat} (hk : k ≤ xs.length) : (padF F xs.length (xs.take k)).length = xs.length := padF_len (by rw [List.length_take]; omega)

/-- The first j elements marked, the others as they were. -/
def mrkF {α : Type} (f : Nat → α) (xs : List α) (j : Nat) : List α := (List.range j).map f ++ xs.drop j
section
variable {α : Type} {F : Flat α} {f : Nat → α} {xs : List α} {j : Nat}
theorem mrkF_len (h : j ≤ xs.length) : (mrkF f xs j).length = xs.length := by simp [mrkF]; omega
theorem mrkF_zero : mrkF f xs 0 = xs := by simp [mrkF]
theorem mrkF_all : mrkF f xs xs.length = (List.range xs.length).map f := by simp [mrkF]
theorem mrkF_set (h : j < xs.length) : (mrkF f xs j).set j (f j) = mrkF f xs (j + 1) := by
  unfold mrkF
  rw [List.set_append_right _ _ (by simp), List.length_map, List.length_range, Nat.sub_self, List.drop_eq_getElem_cons h, List.set_cons_zero, List.range_succ, List.map_append, List.map_singleton, List.append_assoc, List.singleton_append]
theorem elt_range {n : Nat} (h : j < n) : elt F ((List.range n).map f) j = f j := by rw [elt_get (by simpa using h)]; simp
end
/-- Marks from k on, two for an element. -/
def seq2 (k : Int) (n : Nat) : List (Int × Int) := (List.range n).map fun i : Nat => (k + 2 * (i : Int), k + 2 * (i : Int) + 1)
def seq3 (k : Int) (n : Nat) : List (Int × Int × Int) := (List.range n).map fun i : Nat => (k + 3 * (i : Int), k + 3 * (i : Int) + 1, k + 3 * (i : Int) + 1 + 1)
theorem seq2_len (k : Int) (n : Nat) : (seq2 k n).length = n := by simp [seq2]
theorem seq3_len (k : Int) (n : Nat) : (seq3 k n).length = n := by simp [seq3]
theorem seq2_at {k : Int} {n i : Nat} (h : i < n) : elt pairF (seq2 k n) i = (k + 2 * (i : Int), k + 2 * (i : Int) + 1) := elt_range h
theorem seq3_at {k : Int} {n i : Nat} (h : i < n) : elt tripF (seq3 k n) i = (k + 3 * (i : Int), k + 3 * (i : Int) + 1, k + 3 * (i : Int) + 1 + 1) := elt_range h
theorem ownF_row {α : Type} {F : Flat α} {t : TypeId} {w : World} {lo hi n : Nat} {v : Value} {xs : List α} (h : Row t F.sz w lo hi v n (flat F xs)) (hn : n = xs.length) (hl : xs.length ≤ 1000000000) : OwnF F t w lo hi v xs := by
  subst hn; exact ⟨h, hl⟩
end Go.Proofs.Ytgfopieojpjddaa
