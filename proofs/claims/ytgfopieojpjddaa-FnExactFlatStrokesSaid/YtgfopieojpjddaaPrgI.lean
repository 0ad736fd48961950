/-
  Programs: beginsLoop, hasForm, follow.
-/
import Derived.Test.YtgfopieojpjddaaPrgM
import Derived.Test.YtgfopieojpjddaaWithin
import Derived.Test.YtgfopieojpjddaaApp
import Derived.StillTailTactics
namespace Go.Proofs.Ytgfopieojpjddaa
open Go.RowKit

theorem begins_any (x : Int × Int) (w : World) :
    Calls Try.prog 34 #[.agg #[.int .i64 x.1, .int .i64 x.2]] w fun e w' => e = .returned (.bool (opnB x.1)) ∧ Below w.heap.size w w' := by
  obtain ⟨op, n⟩ := x
  simp only
  by_cases h1 : op = 8
  · subst h1
    go_enter Try.func34, Try.ntmps34
    go_wp2
    go_ret
    exact ⟨rfl, (by repeat (first | exact Below.refl _ _ | refine Below.setCell ?_ (by first | omega | (simp <;> omega)) _ | refine Below.alloc ?_ (by first | omega | (simp <;> omega)) _ | refine Below.drew ?_))⟩
  · by_cases h2 : op = 9
    · subst h2
      go_enter Try.func34, Try.ntmps34
      go_wp2
      go_ret
      exact ⟨rfl, (by repeat (first | exact Below.refl _ _ | refine Below.setCell ?_ (by first | omega | (simp <;> omega)) _ | refine Below.alloc ?_ (by first | omega | (simp <;> omega)) _ | refine Below.drew ?_))⟩
    · have d1 : decide (op = 8) = false := decide_eq_false h1
      have d2 : decide (op = 9) = false := decide_eq_false h2
      go_enter Try.func34, Try.ntmps34
      go_wp2
      go_ret
      exact ⟨rfl, (by repeat (first | exact Below.refl _ _ | refine Below.setCell ?_ (by first | omega | (simp <;> omega)) _ | refine Below.alloc ?_ (by first | omega | (simp <;> omega)) _ | refine Below.drew ?_))⟩

theorem insB_at {op n : Int} (h1 : 1 ≤ op) (h2 : op ≤ 10) : insB (op, n) = argB op n := by
  rw [insB]; simp only [inB_yes h1 h2, Bool.true_and]
theorem insB_out {op n : Int} (h : op < 1 ∨ 10 < op) : insB (op, n) = false := by rw [insB]; simp only [inB_no h, Bool.false_and]

set_option maxHeartbeats 2000000 in
theorem hasForm_any (x : Int × Int) (w : World) :
    Calls Try.prog 41 #[.agg #[.int .i64 x.1, .int .i64 x.2]] w fun e w' => e = .returned (.bool (insB x)) ∧ Below w.heap.size w w' := by
  obtain ⟨op, n⟩ := x
  simp only
  by_cases h1 : op = 1
  · subst h1
    have HR := Lib.hid ((insB_at (n := n) (by omega) (by omega)).trans (argB_set n))
    go_enter Try.func41, Try.ntmps41
    go_wp2_with (go_at_call 33; refine (within1_at _ _ n _ _ _ (by go_simp)).mono ?_; rintro e w1 ⟨rfl, hq⟩; subst w1; rw [← HR.out])
    go_ret
    exact ⟨rfl, (by repeat (first | exact Below.refl _ _ | refine Below.setCell ?_ (by first | omega | (simp <;> omega)) _ | refine Below.alloc ?_ (by first | omega | (simp <;> omega)) _ | refine Below.drew ?_))⟩
  · by_cases h2 : op = 2 ∨ op = 3 ∨ op = 4 ∨ op = 5 ∨ op = 8
    · have HR := Lib.hid ((insB_at (n := n) (by omega) (by omega)).trans (argB_num (n := n) h2))
      clear h1
      rcases h2 with rfl | rfl | rfl | rfl | rfl
      all_goals
        go_enter Try.func41, Try.ntmps41
        go_wp2_with (go_at_call 33; refine (within1_at _ _ n _ _ _ (by go_simp)).mono ?_; rintro e w1 ⟨rfl, hq⟩; subst w1; rw [← HR.out])
        go_ret
        exact ⟨rfl, (by repeat (first | exact Below.refl _ _ | refine Below.setCell ?_ (by first | omega | (simp <;> omega)) _ | refine Below.alloc ?_ (by first | omega | (simp <;> omega)) _ | refine Below.drew ?_))⟩
    · by_cases h3 : op = 6 ∨ op = 7 ∨ op = 9 ∨ op = 10
      · have HR := Lib.hid ((insB_at (n := n) (by omega) (by omega)).trans (argB_else (n := n) h1 h2))
        clear h1 h2
        rcases h3 with rfl | rfl | rfl | rfl
        all_goals
          go_enter Try.func41, Try.ntmps41
          go_wp2
          go_ret
          exact ⟨by rw [HR.out]; rfl, (by repeat (first | exact Below.refl _ _ | refine Below.setCell ?_ (by first | omega | (simp <;> omega)) _ | refine Below.alloc ?_ (by first | omega | (simp <;> omega)) _ | refine Below.drew ?_))⟩
      · have HR := Lib.hid (insB_out (op := op) (n := n) (by omega))
        have n2 : ¬ op = 2 := by omega
        have n3 : ¬ op = 3 := by omega
        have n4 : ¬ op = 4 := by omega
        have n5 : ¬ op = 5 := by omega
        have n8 : ¬ op = 8 := by omega
        have n6 : ¬ op = 6 := by omega
        have n7 : ¬ op = 7 := by omega
        have n9 : ¬ op = 9 := by omega
        have n10 : ¬ op = 10 := by omega
        clear h2 h3
        go_enter Try.func41, Try.ntmps41
        go_wp2
        go_ret
        exact ⟨ret_bool HR.out.symm, (by repeat (first | exact Below.refl _ _ | refine Below.setCell ?_ (by first | omega | (simp <;> omega)) _ | refine Below.alloc ?_ (by first | omega | (simp <;> omega)) _ | refine Below.drew ?_))⟩

/-! The record of loops. -/
def lpC (sl : Value) (e : Nat → Nat) (dp : Int) : Array Value := (sl :: ((tab (fun i => (e i : Int)) 120).map (Value.int .i64) ++ [.int .i64 dp])).toArray
theorem lpC_size (sl : Value) (e : Nat → Nat) (dp : Int) : (lpC sl e dp).size = 122 := by simp [lpC, tab_len]
theorem lpC_0 (sl : Value) (e : Nat → Nat) (dp : Int) : (lpC sl e dp)[0]? = some sl := by simp [lpC]
theorem lpC_e (sl : Value) (e : Nat → Nat) (dp : Int) {i : Nat} (h : i < 120) : (lpC sl e dp)[1 + i]? = some (.int .i64 (e i)) := by
  rw [Nat.add_comm]
  simp [lpC, tab, h, List.getElem?_append_left]
theorem lpC_d (sl : Value) (e : Nat → Nat) (dp : Int) : (lpC sl e dp)[121]? = some (.int .i64 dp) := by
  simp [lpC, tab]
def updN (e : Nat → Nat) (i k : Nat) : Nat → Nat := fun j => if j = i then k else e j
theorem lpC_set0 (sl v : Value) (e : Nat → Nat) (dp : Int) : (lpC sl e dp).setIfInBounds 0 v = lpC v e dp := by simp [lpC]
theorem tab_set {f : Nat → Int} {n i : Nat} (_ : i < n) (v : Int) : (tab f n).set i v = tab (fun j => if j = i then v else f j) n := by
  refine List.ext_getElem (by simp [tab]) fun j h1 h2 => ?_
  rw [List.getElem_set]
  simp only [tab, List.getElem_map, List.getElem_range]
  by_cases hj : i = j
  · rw [if_pos hj, if_pos hj.symm]
  · rw [if_neg hj, if_neg (fun e => hj e.symm)]
theorem lpC_setE (sl : Value) (e : Nat → Nat) (dp : Int) {i : Nat} (h : i < 120) (k : Nat) : (lpC sl e dp).setIfInBounds (1 + i) (.int .i64 (k : Int)) = lpC sl (updN e i k) dp := by
  have h2 : (tab (fun i => (e i : Int)) 120).set i (k : Int) = tab (fun j => (updN e i k j : Int)) 120 := by
    rw [tab_set h]
    refine tab_congr fun j _ => ?_
    unfold updN
    split <;> rfl
  rw [lpC, lpC, ← h2, Nat.add_comm]
  simp only [List.setIfInBounds_toArray, List.set_cons_succ]
  rw [List.set_append_left _ _ (by simp [tab]; exact h), List.map_set]
theorem lpC_setD (sl : Value) (e : Nat → Nat) (dp d : Int) : (lpC sl e dp).setIfInBounds 121 (.int .i64 d) = lpC sl e d := by
  rw [lpC, lpC]
  simp only [List.setIfInBounds_toArray, List.set_cons_succ]
  rw [List.set_append_right _ _ (by simp [tab])]
  simp [tab]
theorem lpC_one (sl : Value) (hs : sl.oneCell' = true) (e : Nat → Nat) (dp : Int) : (lpC sl e dp).all (·.oneCell') = true := by
  simp only [lpC, List.all_toArray, List.all_cons, hs, Bool.true_and, List.all_append, List.all_map, Bool.and_true, List.all_nil]
  rw [show (Value.int .i64 dp).oneCell' = true from rfl, Bool.and_true]
  exact List.all_eq_true.2 fun x _ => rfl

/-- The list of the loops that are open, as it lies in memory: the innermost one last. -/
def stL (st : List Nat) : List Int := st.reverse.map fun n : Nat => (n : Int)
theorem stL_len (st : List Nat) : (stL st).length = st.length := by simp [stL]
theorem stL_cons (k : Nat) (st : List Nat) : stL (k :: st) = stL st ++ [(k : Int)] := by simp [stL]
theorem stL_top (k : Nat) (st : List Nat) : nth (stL (k :: st)) st.length = (k : Int) := by
  rw [nth_get (by rw [stL_len]; simp)]
  simp [stL]
/-- Nothing has turned but the record's block and rows of int64. -/
structure LpKeep (g : Nat) (w w' : World) : Prop where
  bel : Below g w w'
  rest : ∀ (k : Nat) (o : Obj), w.heap[k]? = some o → k ≠ g → (∀ cur fz, o ≠ .cells cur 2 fz) → w'.heap[k]? = some o
theorem LpKeep.refl (g : Nat) (w : World) : LpKeep g w w := ⟨Below.refl _ _, fun _ _ h _ _ => h⟩
theorem LpKeep.trans {g : Nat} {a b c : World} (h : LpKeep g a b) (k : LpKeep g b c) : LpKeep g a c :=
  ⟨h.bel.trans k.bel, fun i o h1 h2 h3 => k.rest i o (h.rest i o h1 h2 h3) h2 h3⟩
theorem LpKeep.of_below {g : Nat} {w w' : World} (h : Below w.heap.size w w') (hg : g ≤ w.heap.size) : LpKeep g w w' :=
  ⟨h.mono hg, fun k _ h1 _ _ => (h.block k (Array.getElem?_eq_some_iff.1 h1).1).trans h1⟩
theorem LpKeep.set {g : Nat} {w w' : World} (h : LpKeep g w w') (i : Nat) (u : Value) : LpKeep g w (w'.setCell ⟨g, i, none⟩ u) :=
  ⟨h.bel.setCell (Nat.le_refl _) u, fun k o h1 h2 h3 => (Below.heap_setCell _ _ _ _ h2).trans (h.rest k o h1 h2 h3)⟩
/-- The row of the open loops, one block that is not the record's, or none. -/
structure OpnR (L g : Nat) (w : World) (A : Option Addr) (C : Nat) (st : List Nat) : Prop where
  gl : g < L
  own : ∃ lo hi, L ≤ lo ∧ lo ≤ w.heap.size ∧ hi ≤ lo + 1 ∧ Own 2 w lo hi (.slice A st.length C) (stL st) ∧ ∀ k, lo ≤ k → k < hi → ∃ cur, w.heap[k]? = some (.cells cur 2 (0, 0))
theorem OpnR.nil {L g : Nat} {w : World} (h : g < L) (hL : L ≤ w.heap.size) : OpnR L g w none 0 [] := ⟨h, L, L, Nat.le_refl _, hL, by omega, (show Own 2 w L L (.slice none 0 0) [] from own_nil _ _ _ _), fun k h1 h2 => by omega⟩
theorem OpnR.below {L g : Nat} {w w' : World} {A : Option Addr} {C : Nat} {st : List Nat} (h : OpnR L g w A C st) (hb : Below w.heap.size w w') : OpnR L g w' A C st := by
  obtain ⟨lo, hi, h1, h2, h3, h4, h5⟩ := h.own
  refine ⟨h.gl, lo, hi, h1, Nat.le_trans h2 hb.size, h3, h4.below hb, fun k k1 k2 => ?_⟩
  obtain ⟨cur, hc⟩ := h5 k k1 k2
  exact ⟨cur, (hb.block k (Array.getElem?_eq_some_iff.1 hc).1).trans hc⟩
theorem OpnR.set {L g : Nat} {w : World} {A : Option Addr} {C : Nat} {st : List Nat} (h : OpnR L g w A C st) (i : Nat) (u : Value) : OpnR L g (w.setCell ⟨g, i, none⟩ u) A C st := by
  obtain ⟨lo, hi, h1, h2, h3, h4, h5⟩ := h.own
  have := h.gl
  refine ⟨h.gl, lo, hi, h1, by simpa using h2, h3, h4.setCell (.inl (by simp; omega)) u, fun k k1 k2 => ?_⟩
  obtain ⟨cur, hc⟩ := h5 k k1 k2
  exact ⟨cur, (Below.heap_setCell _ _ _ _ (by simp; omega)).trans hc⟩
theorem OpnR.pop {L g : Nat} {w : World} {A : Option Addr} {C k : Nat} {st : List Nat} (h : OpnR L g w A C (k :: st)) : OpnR L g w A C st := by
  obtain ⟨lo, hi, h1, h2, h3, h4, h5⟩ := h.own
  refine ⟨h.gl, lo, hi, h1, h2, h3, ?_, h5⟩
  have hl := h4.len
  rw [stL_len] at hl
  simp only [List.length_cons] at hl
  refine ⟨⟨by simp, ?_⟩, fun j hj => h4.top j (by cases A with | none => simp [Value.ownBlock] at hj | some a => simpa [Value.ownBlock] using hj), by rw [stL_len]; omega⟩
  rcases h4.row.2 with ⟨hv, hn⟩ | ⟨b, cap, cur, hv, hg, hh, hc, hm, hz, htk⟩
  · rw [stL_len] at hn; simp at hn
  · injection hv with ha hn hC
    refine .inr ⟨b, cap, cur, by rw [ha, hC, stL_len], hg, hh, by rw [stL_len] at hc ⊢; simp only [List.length_cons] at hc; omega, hm, hz, ?_⟩
    rw [stL_len] at htk ⊢
    have e := congrArg (List.take (st.length * 1)) htk
    rw [List.take_take, stL_cons, List.map_append] at e
    simp only [List.length_cons, Nat.mul_one] at e ⊢
    rw [Nat.min_eq_left (by omega)] at e
    rw [e, List.take_append_of_le_length (by simp [stL_len]), List.take_of_length_le (by simp [stL_len])]
/-- The cell of the innermost loop. -/
theorem OpnR.top {L g : Nat} {w : World} {A : Option Addr} {C k : Nat} {st : List Nat} (h : OpnR L g w A C (k :: st)) : ∃ b, A = some ⟨b, 0, none⟩ ∧ w.cell? ⟨b, st.length, none⟩ = some (.int .i64 (k : Int)) := by
  obtain ⟨lo, hi, _, _, _, h4, _⟩ := h.own
  obtain ⟨b, off, e, hc⟩ := h4.rd.at_ (k := st.length) (by rw [stL_len]; simp)
  rcases h4.row.2 with ⟨hv, hn⟩ | ⟨b', cap, cur, hv, _⟩
  · rw [stL_len] at hn; simp at hn
  · injection hv with ha _ _
    rw [ha] at e
    injection e with e
    injection e with e1 e2
    subst e1 e2
    rw [stL_top, Nat.zero_add] at hc
    exact ⟨_, ha, hc⟩
theorem OpnR.cap {L g : Nat} {w : World} {A : Option Addr} {C k : Nat} {st : List Nat} (h : OpnR L g w A C (k :: st)) : st.length + 1 ≤ C := by
  obtain ⟨lo, hi, _, _, _, h4, _⟩ := h.own
  rcases h4.row.2 with ⟨hv, hn⟩ | ⟨b', cap, cur, hv, _, _, hc, _⟩
  · rw [stL_len] at hn; simp at hn
  · injection hv with _ _ hC
    rw [stL_len] at hc
    simp only [List.length_cons] at hc
    omega
/-- An append has put one more loop on the list. -/
theorem OpnR.push {L g lo : Nat} {w w' : World} {A A' : Option Addr} {C C' k : Nat} {st : List Nat} (h : OpnR L g w A C st) (h1 : L ≤ lo) (h2 : Own 2 w' lo w'.heap.size (.slice A' (st.length + 1) C') (stL st ++ [(k : Int)])) :
    OpnR L g w' A' C' (k :: st) := by
  rcases h2.row.2 with ⟨hv, hn⟩ | ⟨b, cap, cur, hv, hg, hh, r⟩
  · simp at hn
  · injection hv with ha hn hC
    subst ha
    have hb := h2.block
    refine ⟨h.gl, b, b + 1, by omega, by omega, Nat.le_refl _, ?_, fun j j1 j2 => ?_⟩
    · rw [stL_cons]
      refine ⟨⟨by simp, .inr ⟨b, cap, cur, by rw [hC]; simp [stL_len], Nat.le_refl _, hh, r⟩⟩, fun j hj => by simp [Value.ownBlock] at hj; omega, h2.len⟩
    · obtain rfl : j = b := by omega
      exact ⟨cur, hh⟩
theorem LpKeep.of_touch {g lo hi : Nat} {w w' : World} (h : Touch lo hi w w') (hg : g ≤ lo) (hs : g ≤ w.heap.size) (hc : ∀ k, lo ≤ k → k < hi → ∃ cur, w.heap[k]? = some (.cells cur 2 (0, 0))) : LpKeep g w w' := by
  refine ⟨h.below hg hs, fun k o h1 _ h3 => ?_⟩
  refine (h.block k (Array.getElem?_eq_some_iff.1 h1).1 ?_).trans h1
  rcases Nat.lt_or_ge k lo with q | q
  · exact .inl q
  · rcases Nat.lt_or_ge k hi with q2 | q2
    · obtain ⟨cur, e⟩ := hc k q q2
      rw [e] at h1
      injection h1 with h1
      exact absurd h1.symm (h3 _ _)
    · exact .inr q2
end Go.Proofs.Ytgfopieojpjddaa
