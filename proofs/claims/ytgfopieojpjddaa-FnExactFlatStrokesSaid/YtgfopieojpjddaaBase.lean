/-
  Words for memory that every text of this family shares: a slice of int64 that reads as a list; draws.
-/
import Derived.WalkKit
import Derived.WalkSpells
import Derived.WalkLawsBesides
import Derived.Deep.QuietTactic
import Derived.BigQuiet
import Derived.Lib.Hide
import Derived.IntWalk
namespace Go.Proofs.Ytgfopieojpjddaa
open Go.RowKit

theorem ret_bool {a b : Bool} (h : a = b) : Ending.returned (.bool a) = .returned (.bool b) := by rw [h]
theorem ret_int {k : IntKind} {a b : Int} (h : a = b) : Ending.returned (.int k a) = .returned (.int k b) := by rw [h]

/-- The k-th number (a word that the walk does not open). -/
def nth (zs : List Int) (k : Nat) : Int := zs[k]?.getD 0
theorem nth_get {zs : List Int} {k : Nat} (h : k < zs.length) : nth zs k = zs[k] := by simp [nth, h]

/-- Two registers are equal (a word that the walk does not open). -/
def regEqB (B D : Int) (xs ys : List Int) : Bool := decide (B = D ∧ xs = ys)

/-- The cells from this address on read as the int64 numbers zs, which are not too many. -/
structure Rd (w : World) (a : Option Addr) (zs : List Int) : Prop where
  len : zs.length ≤ 1000000000
  cells : zs ≠ [] → ∃ b off, a = some ⟨b, off, none⟩ ∧ ∀ i, i < zs.length → w.cell? ⟨b, off + i, none⟩ = some (.int .i64 (nth zs i))

/-- A number that fits an int64 (a word that the walk does not open). -/
def I64 (z : Int) : Prop := (Lit.int .i64 z).wf = true

/-- All numbers fit an int64. -/
def All64 (zs : List Int) : Prop := ∀ z ∈ zs, I64 z

theorem Rd.at_ {w : World} {a : Option Addr} {zs : List Int} (h : Rd w a zs) {k : Nat} (hk : k < zs.length) :
    ∃ b off, a = some ⟨b, off, none⟩ ∧ w.cell? ⟨b, off + k, none⟩ = some (.int .i64 (nth zs k)) := by
  obtain ⟨b, off, rfl, hc⟩ := h.cells (by rintro rfl; simp at hk)
  exact ⟨b, off, rfl, hc k hk⟩

theorem fits_int (n : Int) (h1 : -1000000000000 ≤ n) (h2 : n ≤ 1000000000000) : IntKind.i64.wrap n = n := IntWalk.i64_in _ (by omega)

theorem drewN_drewN (w : World) (m n : Nat) : (w.drewN m).drewN n = w.drewN (m + n) := by
  unfold World.drewN; simp [Nat.add_assoc]

theorem Rd.drewN {w : World} {a : Option Addr} {zs : List Int} (h : Rd w a zs) (n : Nat) : Rd (w.drewN n) a zs := ⟨h.len, h.cells⟩

theorem take_eq_snoc {xs ys : List Int} {k : Nat} (hk : k < xs.length) (hl : xs.length = ys.length) (h : xs.take k = ys.take k) (he : nth xs k = nth ys k) :
    xs.take (k + 1) = ys.take (k + 1) := by
  have hk' : k < ys.length := by omega
  rw [nth_get hk, nth_get hk'] at he
  rw [List.take_succ_eq_append_getElem hk, List.take_succ_eq_append_getElem hk', h, he]

theorem ne_of_at {xs ys : List Int} {k : Nat} (he : ¬ nth xs k = nth ys k) : ¬ xs = ys := by
  rintro rfl; exact he rfl

theorem take_all_eq {xs ys : List Int} (hl : xs.length = ys.length) (h : xs.take xs.length = ys.take xs.length) : xs = ys := by
  rw [List.take_of_length_le (Nat.le_refl _), hl, List.take_of_length_le (Nat.le_refl _)] at h
  exact h

theorem bel_drewN {B : Nat} {a w : World} (h : Below B a w) (n : Nat) : Below B a (w.drewN n) := ⟨h.os, h.tape, h.output, h.size, h.block⟩

/-- A cell that was there is still there behind a call that turned nothing old. -/
theorem kept {W w1 : World} (hb : Below W.heap.size W w1) {p : Addr} {v : Value} (h : W.cell? p = some v) : w1.cell? p = some v :=
  (hb.cell (World.block_lt_of_cell? _ _ h)).trans h

/-- Behind a call that turned nothing old: each old cell, each old mark. -/
theorem bcell {W w1 : World} (hb : Below W.heap.size W w1) : (∀ b o, b < W.heap.size → w1.cell? ⟨b, o, none⟩ = W.cell? ⟨b, o, none⟩) ∧
    (∀ b o, b < W.heap.size → w1.frozen? ⟨b, o, none⟩ = W.frozen? ⟨b, o, none⟩) :=
  ⟨fun b o h => hb.cell (p := ⟨b, o, none⟩) h, fun b o h => hb.frozen (p := ⟨b, o, none⟩) h⟩

/-- v is a slice of the call's own: it holds the numbers zs, and lies among the blocks lo .. hi - 1. -/
structure Own (t : TypeId) (w : World) (lo hi : Nat) (v : Value) (zs : List Int) : Prop where
  row : w.ownsRow lo t 1 v zs.length (zs.map (Value.int .i64))
  top : ∀ k, v.ownBlock = some k → k < hi
  len : zs.length ≤ 1000000000

/-- Outside the blocks lo .. hi - 1 nothing that was there has turned. -/
structure Touch (lo hi : Nat) (w w' : World) : Prop where
  os : w'.os = w.os
  tape : w'.tape = w.tape
  output : w'.output = w.output
  size : w.heap.size ≤ w'.heap.size
  block : ∀ k, k < w.heap.size → k < lo ∨ hi ≤ k → w'.heap[k]? = w.heap[k]?

theorem Touch.below {lo hi B : Nat} {w w' : World} (h : Touch lo hi w w') (hB : B ≤ lo) (hs : B ≤ w.heap.size) : Below B w w' :=
  ⟨h.os, h.tape, h.output, h.size, fun k hk => h.block k (by omega) (.inl (by omega))⟩

theorem Below.touch {B hi : Nat} {w w' : World} (h : Below w.heap.size w w') : Touch B hi w w' :=
  ⟨h.os, h.tape, h.output, h.size, fun k hk _ => h.block k hk⟩

theorem ownsRow_same {w w' : World} {base : Nat} {e : TypeId} {size : Nat} {v : Value} {n : Nat} {xs : List Value} (h : w.ownsRow base e size v n xs)
    (hs : ∀ k, v.ownBlock = some k → w'.heap[k]? = w.heap[k]?) : w'.ownsRow base e size v n xs := by
  obtain ⟨h1, h2⟩ := h
  refine ⟨h1, ?_⟩
  rcases h2 with h2 | ⟨g, cap, cur, rfl, hg, hh, r⟩
  · exact .inl h2
  · exact .inr ⟨g, cap, cur, rfl, hg, by rw [hs g rfl]; exact hh, r⟩

section
variable {t : TypeId} {w w' : World} {lo hi : Nat} {v : Value} {zs : List Int}
theorem Own.lo_le (h : Own t w lo hi v zs) {k : Nat} (hk : v.ownBlock = some k) : lo ≤ k ∧ k < hi ∧ k < w.heap.size := ⟨(h.row.lt k hk).1, h.top k hk, (h.row.lt k hk).2⟩
/-- What is owned stays owned while its blocks are not written. -/
theorem Own.touch {a b : Nat} (h : Own t w lo hi v zs) (ht : Touch a b w w') (hd : hi ≤ a ∨ b ≤ lo) : Own t w' lo hi v zs :=
  ⟨ownsRow_same h.row fun k hk => ht.block k (h.lo_le hk).2.2 (by have := h.lo_le hk; omega), h.top, h.len⟩
theorem Own.below (h : Own t w lo hi v zs) (hb : Below w.heap.size w w') : Own t w' lo hi v zs :=
  ⟨ownsRow_same h.row fun k hk => hb.block k (h.lo_le hk).2.2, h.top, h.len⟩
theorem Own.drewN (h : Own t w lo hi v zs) (n : Nat) : Own t (w.drewN n) lo hi v zs := ⟨h.row, h.top, h.len⟩
theorem Own.drew (h : Own t w lo hi v zs) : Own t w.drew lo hi v zs := ⟨h.row, h.top, h.len⟩
theorem Own.alloc (h : Own t w lo hi v zs) (o : Obj) : Own t (w.alloc o) lo hi v zs := ⟨h.row.alloc o, h.top, h.len⟩
theorem Own.setCell (h : Own t w lo hi v zs) {p : Addr} (hp : p.block < lo ∨ hi ≤ p.block) (u : Value) : Own t (w.setCell p u) lo hi v zs :=
  ⟨ownsRow_same h.row fun k hk => Below.heap_setCell _ _ _ _ (by have := h.lo_le hk; omega), h.top, h.len⟩
theorem Own.wide {lo' hi' : Nat} (h : Own t w lo hi v zs) (hl : lo' ≤ lo) (hh : hi ≤ hi') : Own t w lo' hi' v zs := by
  obtain ⟨⟨h1, h2⟩, h3, h4⟩ := h
  refine ⟨⟨h1, ?_⟩, fun k hk => Nat.lt_of_lt_of_le (h3 k hk) hh, h4⟩
  rcases h2 with h2 | ⟨g, cap, cur, rfl, hg, r⟩
  · exact .inl h2
  · exact .inr ⟨g, cap, cur, rfl, by omega, r⟩
theorem Own.form (h : Own t w lo hi v zs) : ∃ a c, v = .slice a zs.length c := by
  rcases h.row.2 with ⟨rfl, hn⟩ | ⟨g, cap, cur, rfl, _⟩
  · exact ⟨none, 0, by rw [hn]⟩
  · exact ⟨_, _, rfl⟩
/-- What is owned can be read. -/
theorem Own.rd {a : Option Addr} {n c : Nat} (h : Own t w lo hi (.slice a n c) zs) : Rd w a zs := by
  refine ⟨h.len, fun hne => ?_⟩
  rcases h.row.2 with ⟨_, hn⟩ | ⟨g, cap, cur, hv, hg, hh, hc, _, _, htk⟩
  · exact absurd (List.eq_nil_of_length_eq_zero hn) hne
  · injection hv with ha _ _
    subst ha
    refine ⟨g, 0, rfl, fun i hi => ?_⟩
    rw [Nat.zero_add, cell_of_row w g i cur t (0, 0) hh]
    have : (cur.toList.take (zs.length * 1))[i]? = (zs.map (Value.int .i64))[i]? := by rw [htk]
    rw [Nat.mul_one, List.getElem?_take, if_pos hi] at this
    rw [← Array.getElem?_toList, this, List.getElem?_map, List.getElem?_eq_getElem hi, nth_get hi]
    rfl
end

theorem Rd.below {w w' : World} {a : Option Addr} {zs : List Int} (h : Rd w a zs) (hb : Below w.heap.size w w') : Rd w' a zs := by
  refine ⟨h.len, fun hne => ?_⟩
  obtain ⟨b, off, rfl, hc⟩ := h.cells hne
  exact ⟨b, off, rfl, fun i hi => (hb.cell (p := ⟨b, off + i, none⟩) (World.block_lt_of_cell? _ _ (hc i hi))).trans (hc i hi)⟩

/-- k, k + 1, .., n numbers. -/
def seqI (k : Int) (n : Nat) : List Int := (List.range n).map fun i : Nat => k + (i : Int)
theorem seqI_len (k : Int) (n : Nat) : (seqI k n).length = n := by simp [seqI]
theorem seqI_succ (k : Int) (n : Nat) : seqI k (n + 1) = seqI k n ++ [k + (n : Int)] := by simp [seqI, List.range_succ]
theorem seqI_at {k : Int} {n i : Nat} (h : i < n) : nth (seqI k n) i = k + (i : Int) := by
  rw [nth_get (by rw [seqI_len]; exact h)]; simp [seqI]

/-- What stands there when j cells have been marked. -/
def mrk (zs : List Int) (k : Int) (j : Nat) : List Int := seqI k j ++ zs.drop j
theorem mrk_len {zs : List Int} {k : Int} {j : Nat} (h : j ≤ zs.length) : (mrk zs k j).length = zs.length := by simp [mrk, seqI_len]; omega
theorem mrk_set {zs : List Int} {k : Int} {j : Nat} (h : j < zs.length) : (mrk zs k j).set j (k + (j : Int)) = mrk zs k (j + 1) := by
  unfold mrk
  rw [List.set_append_right _ _ (by rw [seqI_len]; exact Nat.le_refl _), seqI_len, Nat.sub_self, seqI_succ, List.drop_eq_getElem_cons h, List.set_cons_zero, List.append_assoc, List.singleton_append]
theorem mrk_zero (zs : List Int) (k : Int) : mrk zs k 0 = zs := by simp [mrk, seqI]
theorem mrk_all (zs : List Int) (k : Int) : mrk zs k zs.length = seqI k zs.length := by simp [mrk]

theorem Touch.refl (lo hi : Nat) (w : World) : Touch lo hi w w := ⟨rfl, rfl, rfl, Nat.le_refl _, fun _ _ _ => rfl⟩
theorem Touch.setCell {lo hi : Nat} {a w : World} (h : Touch lo hi a w) {p : Addr} (h1 : lo ≤ p.block) (h2 : p.block < hi) (u : Value) : Touch lo hi a (w.setCell p u) :=
  ⟨h.os, h.tape, h.output, by rw [World.size_setCell]; exact h.size, fun k hk ho => (Below.heap_setCell _ _ _ _ (by omega)).trans (h.block k hk ho)⟩
theorem Touch.drewN {lo hi : Nat} {a w : World} (h : Touch lo hi a w) (n : Nat) : Touch lo hi a (w.drewN n) := ⟨h.os, h.tape, h.output, h.size, h.block⟩
theorem Touch.alloc {lo hi : Nat} {a w : World} (h : Touch lo hi a w) (o : Obj) : Touch lo hi a (w.alloc o) :=
  ⟨h.os, h.tape, h.output, by have := h.size; simp; omega, fun k hk ho => (Below.heap_alloc _ _ _ (by have := h.size; omega)).trans (h.block k hk ho)⟩
theorem Touch.trans {lo hi : Nat} {a b c : World} (h : Touch lo hi a b) (k : Touch lo hi b c) : Touch lo hi a c :=
  ⟨k.os.trans h.os, k.tape.trans h.tape, k.output.trans h.output, Nat.le_trans h.size k.size, fun i hi ho => (k.block i (by have := h.size; omega) ho).trans (h.block i hi ho)⟩

/-- The worlds in which nothing that lay in W has turned. -/
structure After (W : World) where
  now : World
  ok : Below W.heap.size W now

instance (W : World) : Inhabited (After W) := ⟨⟨W, Below.refl _ _⟩⟩

/-- A region that draws its order, every operation of which yields one and the same value in whatever world behind W: one walk, in the order of the text. -/
theorem wp_region_after {P : Program} {id : Nat} {Q : Exit → Act → World → Prop} {a : Act} {W : World} {l : List Oper} (hm : P.follows .mixedOrders = true) (hB : Region.lexB .any l.toArray = true)
    (h : wpQuiet P l.toArray (fun w' => ∃ u : After W, w' = u.now) (fun a' => ∀ u : After W, Q .normal a' u.now) l a) : (Code.region id l.toArray true).wp P Q a W :=
  wp_region_quiet (C := fun w' => ∃ u : After W, w' = u.now) hm hB ⟨⟨W.drew, (Below.refl _ _).drew⟩, rfl⟩ (by
    have e : (fun a' => ∀ w', (∃ u : After W, w' = u.now) → Q .normal a' w') = (fun a' => ∀ u : After W, Q .normal a' u.now) := by
      funext a'; exact propext ⟨fun h u => h _ ⟨u, rfl⟩, fun h w' ⟨u, hu⟩ => hu ▸ h u⟩
    rw [e]; simpa using h)

theorem calls_after {P : Program} {f : FuncId} {args : Array Value} {W : World} {u : After W} {v : Value} (h : Calls P f args u.now fun e w' => e = .returned v ∧ Below u.now.heap.size u.now w') :
    Calls P f args u.now fun e w'' => e = .returned v ∧ ∃ u' : After W, w'' = u'.now :=
  h.mono fun _ w' ⟨he, hb⟩ => ⟨he, ⟨w', u.ok.trans (hb.mono u.ok.size)⟩, rfl⟩
theorem calls_after_drew {P : Program} {f : FuncId} {args : Array Value} {W : World} {u : After W} {v : Value} (h : Calls P f args u.now fun e w' => e = .returned v ∧ ∃ n, w' = u.now.drewN n) :
    Calls P f args u.now fun e w'' => e = .returned v ∧ ∃ u' : After W, w'' = u'.now :=
  calls_after (h.mono fun _ _ ⟨he, _, hw⟩ => ⟨he, by rw [hw]; exact bel_drewN (Below.refl _ _) _⟩)
theorem kept_after {W : World} {p : Addr} {v : Value} (h : W.cell? p = some v) : ∀ u : After W, u.now.cell? p = some v := fun u => kept u.ok h
theorem regEqB_self (B : Int) (xs : List Int) : regEqB B B xs xs = true := by simp [regEqB]
theorem kept_all {W : World} {p : Addr} {v : Value} (h : W.cell? p = some v) : ∀ w', Below W.heap.size W w' → w'.cell? p = some v := fun _ hb => kept hb h
/-- A cell outside what is touched. -/
theorem keptT {W w1 : World} {lo hi : Nat} (ht : Touch lo hi W w1) {b o : Nat} {v : Value} (h : W.cell? ⟨b, o, none⟩ = some v) (hd : b < lo ∨ hi ≤ b) : w1.cell? ⟨b, o, none⟩ = some v :=
  (World.cell?_of_block (ht.block b (World.block_lt_of_cell? _ _ h) hd)).trans h

/-- A slice of int64 that came in: of whatever length. -/
structure Raw (w : World) (a : Option Addr) (zs : List Int) : Prop where
  len : zs.length ≤ 9223372036854775807
  wf : All64 zs
  cells : zs ≠ [] → ∃ b off, a = some ⟨b, off, none⟩ ∧ ∀ i, i < zs.length → w.cell? ⟨b, off + i, none⟩ = some (.int .i64 (nth zs i))
theorem Raw.rd {w : World} {a : Option Addr} {zs : List Int} (h : Raw w a zs) (hl : zs.length ≤ 1000000000) : Rd w a zs := ⟨hl, h.cells⟩

/-- Block g is a box: just these cells, none frozen. -/
def Bx (w : World) (g : Nat) (t : TypeId) (cs : Array Value) : Prop := w.heap[g]? = some (.cells cs t (0, 0))
section
variable {w w' : World} {g : Nat} {t : TypeId} {cs : Array Value}
theorem Bx.lt (h : Bx w g t cs) : g < w.heap.size := by
  rcases Nat.lt_or_ge g w.heap.size with hlt | hge
  · exact hlt
  · unfold Bx at h; rw [Array.getElem?_eq_none hge] at h; cases h
theorem Bx.cell (h : Bx w g t cs) (i : Nat) : w.cell? ⟨g, i, none⟩ = cs[i]? := cell_of_row w g i cs t (0, 0) h
theorem Bx.at_ (h : Bx w g t cs) (i : Nat) {v : Value} (hv : cs[i]? = some v) : w.cell? ⟨g, i, none⟩ = some v := (h.cell i).trans hv
theorem Bx.thaw (h : Bx w g t cs) (i : Nat) : w.frozen? ⟨g, i, none⟩ = false := by unfold Bx at h; simp [World.frozen?, h]
theorem Bx.new (w : World) (cs : Array Value) (t : TypeId) : Bx (w.alloc (.cells cs t)) w.heap.size t cs := heap_alloc_new w _
theorem Bx.drew (h : Bx w g t cs) : Bx w.drew g t cs := h
theorem Bx.drewN (h : Bx w g t cs) (n : Nat) : Bx (w.drewN n) g t cs := h
theorem Bx.alloc (h : Bx w g t cs) (o : Obj) : Bx (w.alloc o) g t cs := (Below.heap_alloc w o g h.lt).trans h
theorem Bx.set_ (h : Bx w g t cs) (i : Nat) (u : Value) : Bx (w.setCell ⟨g, i, none⟩ u) g t (cs.setIfInBounds i u) := by
  unfold Bx at h ⊢
  simp [World.setCell, Array.getElem?_modify, h]
theorem Bx.far (h : Bx w g t cs) {p : Addr} (hp : g ≠ p.block) (u : Value) : Bx (w.setCell p u) g t cs := (Below.heap_setCell w p u g hp).trans h
theorem Bx.below (h : Bx w g t cs) (hb : Below w.heap.size w w') : Bx w' g t cs := (hb.block g h.lt).trans h
theorem Bx.touch (h : Bx w g t cs) {lo hi : Nat} (ht : Touch lo hi w w') (hd : g < lo ∨ hi ≤ g) : Bx w' g t cs := (ht.block g h.lt hd).trans h
end
theorem kept_alloc {W : World} {p : Addr} {v : Value} (h : W.cell? p = some v) (o : Obj) : (W.alloc o).cell? p = some v := kept ((Below.refl _ _).alloc (Nat.le_refl _) o) h

theorem cell_far {W : World} {b o : Nat} {v : Value} (h : W.cell? ⟨b, o, none⟩ = some v) {p : Addr} (hne : b ≠ p.block) (u : Value) : (W.setCell p u).cell? ⟨b, o, none⟩ = some v :=
  (World.cell?_of_block (Below.heap_setCell W p u b hne)).trans h
theorem cell_put {W : World} {b o : Nat} {v : Value} (h : W.cell? ⟨b, o, none⟩ = some v) (u : Value) : (W.setCell ⟨b, o, none⟩ u).cell? ⟨b, o, none⟩ = some u :=
  World.cell?_setCell_same' _ _ _ (by rw [h]; rfl)
theorem thaw_set {W : World} {a : Addr} (h : W.frozen? a = false) (p : Addr) (u : Value) : (W.setCell p u).frozen? a = false := by rw [World.frozen?_setCell]; exact h

theorem Bx.lo {w w' : World} {g lo : Nat} {t : TypeId} {cs : Array Value} (h : Bx w g t cs) (hb : Below lo w w') (hg : g < lo) : Bx w' g t cs := (hb.block g hg).trans h
theorem Own.lo {t : TypeId} {w w' : World} {lo hi L : Nat} {v : Value} {zs : List Int} (h : Own t w lo hi v zs) (hb : Below L w w') (hg : hi ≤ L) : Own t w' lo hi v zs :=
  ⟨ownsRow_same h.row fun k hk => hb.block k (by have := h.lo_le hk; omega), h.top, h.len⟩
/-- A cell below L, in every world that is as this one below L. -/
theorem kept_lo {W : World} {L b o : Nat} {v : Value} (h : W.cell? ⟨b, o, none⟩ = some v) (hb : b < L) : ∀ w', Below L W w' → w'.cell? ⟨b, o, none⟩ = some v :=
  fun _ hw => (hw.cell (p := ⟨b, o, none⟩) hb).trans h

/-- f 0, .., f (n - 1). -/
def tab (f : Nat → Int) (n : Nat) : List Int := (List.range n).map f
theorem tab_succ (f : Nat → Int) (n : Nat) : tab f (n + 1) = tab f n ++ [f n] := by simp [tab, List.range_succ]
theorem tab_len (f : Nat → Int) (n : Nat) : (tab f n).length = n := by simp [tab]
theorem tab_nth {f : Nat → Int} {n i : Nat} (h : i < n) : nth (tab f n) i = f i := by rw [nth_get (by rw [tab_len]; exact h)]; simp [tab]
theorem tab_mem {f : Nat → Int} {n : Nat} {p : Int → Prop} (h : ∀ i, i < n → p (f i)) : ∀ d ∈ tab f n, p d := by
  intro d hd
  simp only [tab, List.mem_map, List.mem_range] at hd
  obtain ⟨i, hi, rfl⟩ := hd
  exact h i hi
theorem tab_congr {f g : Nat → Int} {n : Nat} (h : ∀ i, i < n → f i = g i) : tab f n = tab g n := List.map_congr_left fun i hi => h i (List.mem_range.1 hi)

theorem cell_new1 (w : World) (u : Value) (e : TypeId) : (w.alloc (.cells #[u] e)).cell? ((⟨w.heap.size, 0, none⟩ : Addr).add 0) = some u :=
  (Bx.new w #[u] e).at_ 0 rfl

/-- A cell that was there in w, while only blocks from L on are written. -/
theorem arg_lo {w wr : World} {L : Nat} {p : Addr} {v : Value} (h : w.cell? p = some v) (hb : Below w.heap.size w wr) (hL : w.heap.size ≤ L) : ∀ w', Below L wr w' → w'.cell? p = some v :=
  fun _ hw => kept (hb.trans (hw.mono hL)) h
end Go.Proofs.Ytgfopieojpjddaa
