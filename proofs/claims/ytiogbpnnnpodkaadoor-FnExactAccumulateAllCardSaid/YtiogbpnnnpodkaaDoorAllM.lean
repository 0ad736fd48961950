/-
  Numbers added one after the other: the maths, and what the calls leave.
-/
import Derived.Test.YtiogbpnnnpodkaaDoorAccM
import Derived.Test.YtiogbpnnnpodkaaDoorInS
import Derived.Test.YtiogbpnnnpodkaaDoorApp
import Derived.Test.YtiogbpnnnpodkaaDoorRow
namespace Go.Proofs.YtiogbpnnnpodkaaDoor
open Go.RowKit

theorem own_lit9 (e : TypeId) (w : World) : Own e (w.alloc (.cells #[] e)) w.heap.size (w.heap.size + 1) (.slice (some ⟨w.heap.size, 0, none⟩) 0 0) [] :=
  own_of_row (zs := []) (by simpa using row_new e 1 w #[] 0 (by simp) (by omega)) rfl (by simp)
theorem accB_set {B : Int} {m : Nat} (h : fullB B (m : Int) = true) (x : Int) : accB B (setA B (m : Int) x) = true ∧ (setA B (m : Int) x).length = m := by
  obtain ⟨h1, h2, n1, n2, h5⟩ := fullB_spec h
  have hl : (setA B (m : Int) x).length = m := by rw [setA_len]; simp
  have hv := setA_val h x
  have hb := modA_bd h x
  have hc := cntA_bd h
  have hd : digitsB B (setA B (m : Int) x) = true := by
    simp only [digitsB, decide_eq_true_eq]
    exact digsR_bd (by omega) _ _
  refine ⟨?_, hl⟩
  simp only [accB, okB, hl, hd, baseB, widthB, hv, Bool.and_eq_true, decide_eq_true_eq]
  exact ⟨⟨⟨⟨⟨h1, h2⟩, by omega, by omega⟩, trivial⟩, by omega⟩, by simpa using h5⟩
theorem numA_at {B : Int} {m : Nat} (h : fullB B (m : Int) = true) {s : Int} (hs : -(cntA B (m : Int) / 2) ≤ s ∧ s ≤ cntA B (m : Int) - 1 + -(cntA B (m : Int) / 2)) : numA B (setA B (m : Int) s) = s := by
  rw [numA_set h]
  exact shn_self (by have := cntA_bd h; omega) hs
theorem setA_shn {B n : Int} (h : fullB B n = true) (x : Int) : setA B n (shn (cntA B n) x) = setA B n x := setA_congr (shn_mod (by have := cntA_bd h; omega) x)
theorem mostB_at {l : List Int} (h : mostB l = true) {k : Nat} (hk : k < l.length) : -1000000000000 ≤ nth l k ∧ nth l k ≤ 1000000000000 := by
  rw [nth_get hk]
  exact (show ∀ x ∈ l, -1000000000000 ≤ x ∧ x ≤ 1000000000000 by simpa [mostB] using h) _ (List.getElem_mem hk)
theorem mostB_not {l : List Int} {k : Nat} (hk : k < l.length) (h : inB (nth l k) (-1000000000000) 1000000000000 = false) : mostB l = false := by
  cases hm : mostB l with
  | false => rfl
  | true =>
    have := mostB_at hm hk
    have := inB_false h
    omega
theorem mostB_all {l : List Int} (h : ∀ k, k < l.length → inB (nth l k) (-1000000000000) 1000000000000 = true) : mostB l = true := by
  simp only [mostB, decide_eq_true_eq]
  intro x hx
  obtain ⟨k, hk, rfl⟩ := List.getElem_of_mem hx
  have := inB_true (h k hk)
  rwa [nth_get hk] at this
theorem runA_one (N s : Int) (l : List Int) (k : Nat) : (runA N s l (k + 1)).1 = shn N ((runA N s l k).1 + nth l k) := rfl
theorem runA_bell {N s : Int} {l : List Int} {k : Nat} (h : inA N ((runA N s l k).1 + nth l k) = false) : (runA N s l (k + 1)).2 = (runA N s l k).2 ++ [(k : Int)] := by
  show _ ++ (if _ then _ else _) = _
  rw [if_neg (by simp [h])]
theorem runA_none {N s : Int} {l : List Int} {k : Nat} (h : inA N ((runA N s l k).1 + nth l k) = true) : (runA N s l (k + 1)).2 = (runA N s l k).2 := by
  show _ ++ (if _ then _ else _) = _
  rw [if_pos h, List.append_nil]
theorem runA_len (N s : Int) (l : List Int) : ∀ k, (runA N s l k).2.length ≤ k
  | 0 => by simp [runA]
  | k + 1 => by
    have := runA_len N s l k
    cases h : inA N ((runA N s l k).1 + nth l k) with
    | false => rw [runA_bell h]; simp; omega
    | true => rw [runA_none h]; omega

/-- A register and a list of its own, and a code: the list first made. -/
def RegLisC (R : Int × List Int × List Int × Int) (w : World) (e : Ending) (w' : World) : Prop := ∃ (A : Option Addr) (C : Nat) (D : Option Addr) (E m : Nat),
  e = .returned (.tuple #[.agg #[.int .i64 R.1, .slice A R.2.1.length C], .slice D R.2.2.1.length E, .int .i64 R.2.2.2]) ∧
  Own 2 w' m w'.heap.size (.slice A R.2.1.length C) R.2.1 ∧ Own 2 w' w.heap.size m (.slice D R.2.2.1.length E) R.2.2.1 ∧ w.heap.size ≤ m ∧ m ≤ w'.heap.size ∧ Below w.heap.size w w'
/-- The same, in whatever order. -/
def RegLisL (R : Int × List Int × List Int × Int) (w : World) (e : Ending) (w' : World) : Prop := ∃ (A : Option Addr) (C : Nat) (D : Option Addr) (E : Nat),
  e = .returned (.tuple #[.agg #[.int .i64 R.1, .slice A R.2.1.length C], .slice D R.2.2.1.length E, .int .i64 R.2.2.2]) ∧
  Own 2 w' w.heap.size w'.heap.size (.slice A R.2.1.length C) R.2.1 ∧ Own 2 w' w.heap.size w'.heap.size (.slice D R.2.2.1.length E) R.2.2.1 ∧ Below w.heap.size w w'
theorem regLisC_err {R : Int × List Int × List Int × Int} {c : Int} {w w' : World} {e : Ending} (h : R = (0, [], [], c)) (he : e = .returned (.tuple #[.agg #[.int .i64 0, .slice none 0 0], .slice none 0 0, .int .i64 c])) (hb : Below w.heap.size w w') : RegLisC R w e w' := by
  subst h
  exact ⟨none, 0, none, 0, w.heap.size, he, own_nil _ _ _ _, own_nil _ _ _ _, Nat.le_refl _, hb.size, hb⟩
theorem regLisL_err {R : Int × List Int × List Int × Int} {c : Int} {w w' : World} {e : Ending} (h : R = (0, [], [], c)) (he : e = .returned (.tuple #[.agg #[.int .i64 0, .slice none 0 0], .slice none 0 0, .int .i64 c])) (hb : Below w.heap.size w w') : RegLisL R w e w' := by
  subst h
  exact ⟨none, 0, none, 0, he, own_nil _ _ _ _, own_nil _ _ _ _, hb⟩
theorem regLisC_ok {R : Int × List Int × List Int × Int} {b : Int} {zs bs : List Int} {w w' : World} {A D : Option Addr} {C E lo hi l2 h2 n k : Nat} {e : Ending} (h : R = (b, zs, bs, 0)) (hn : zs.length = n) (hk : bs.length = k)
    (he : e = .returned (.tuple #[.agg #[.int .i64 b, .slice A n C], .slice D k E, .int .i64 0]))
    (ho : Own 2 w' lo hi (.slice A n C) zs) (ho2 : Own 2 w' l2 h2 (.slice D k E) bs) (a1 : w.heap.size ≤ l2) (a2 : h2 ≤ lo) (a3 : w.heap.size ≤ lo) (a4 : hi ≤ w'.heap.size) (a5 : lo ≤ w'.heap.size) (hb : Below w.heap.size w w') : RegLisC R w e w' := by
  subst h hn hk
  exact ⟨A, C, D, E, lo, he, ho.wide (Nat.le_refl _) a4, ho2.wide a1 a2, a3, a5, hb⟩
theorem regLisL_ok {R : Int × List Int × List Int × Int} {b : Int} {zs bs : List Int} {w w' : World} {A D : Option Addr} {C E lo hi l2 h2 n k : Nat} {e : Ending} (h : R = (b, zs, bs, 0)) (hn : zs.length = n) (hk : bs.length = k)
    (he : e = .returned (.tuple #[.agg #[.int .i64 b, .slice A n C], .slice D k E, .int .i64 0]))
    (ho : Own 2 w' lo hi (.slice A n C) zs) (ho2 : Own 2 w' l2 h2 (.slice D k E) bs) (a1 : w.heap.size ≤ l2) (a2 : h2 ≤ w'.heap.size) (a3 : w.heap.size ≤ lo) (a4 : hi ≤ w'.heap.size) (hb : Below w.heap.size w w') : RegLisL R w e w' := by
  subst h hn hk
  exact ⟨A, C, D, E, he, ho.wide a3 a4, ho2.wide a1 a2, hb⟩
end Go.Proofs.YtiogbpnnnpodkaaDoor
