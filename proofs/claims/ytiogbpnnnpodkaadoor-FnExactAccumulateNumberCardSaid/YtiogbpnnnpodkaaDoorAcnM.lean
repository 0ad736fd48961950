/-
  AccumulateNumber: what it gives.
-/
import Derived.Test.YtiogbpnnnpodkaaDoorAllM
namespace Go.Proofs.YtiogbpnnnpodkaaDoor
open Go.RowKit

/-- AccumulateNumber. -/
def acnR (B : Int) (zs : List Int) (n : Int) : Int × List Int × Bool × Int :=
  if accB B zs = true then (if inB n (-1000000000000) 1000000000000 = true then (B, setA B zs.length (numA B zs + n), !inA (cntA B zs.length) (numA B zs + n), 0) else (0, [], false, 2)) else (0, [], false, 1)
theorem mostB_one (n : Int) : mostB [n] = inB n (-1000000000000) 1000000000000 := by
  unfold mostB inB
  rw [Bool.eq_iff_iff]
  simp
/-- The same by a list of one number. -/
theorem accR_one (B : Int) (zs : List Int) (n : Int) : (accR B zs [n]).1 = (acnR B zs n).1 ∧ (accR B zs [n]).2.1 = (acnR B zs n).2.1 ∧ (decide (0 < (accR B zs [n]).2.2.1.length) = (acnR B zs n).2.2.1) ∧ (accR B zs [n]).2.2.2 = (acnR B zs n).2.2.2 ∧ (accR B zs [n]).2.2.1.length ≤ 1 := by
  unfold accR acnR
  rw [mostB_one]
  cases h : accB B zs with
  | false => simp
  | true =>
    have hf := accB_full h
    cases hm : inB n (-1000000000000) 1000000000000 with
    | false => simp
    | true =>
      simp only [if_true, List.length_singleton, runA, nth, List.getElem?_cons_zero, Option.getD_some, List.nil_append]
      refine ⟨trivial, setA_shn hf _, ?_, trivial, ?_⟩
      · by_cases hq : inA (cntA B zs.length) (numA B zs + n) = true <;> simp [hq]
      · by_cases hq : inA (cntA B zs.length) (numA B zs + n) = true <;> simp [hq]
/-- A register of its own, a bool and a code. -/
def RegBC (R : Int × List Int × Bool × Int) (w : World) (e : Ending) (w' : World) : Prop := ∃ A C,
  e = .returned (.tuple #[.agg #[.int .i64 R.1, .slice A R.2.1.length C], .bool R.2.2.1, .int .i64 R.2.2.2]) ∧ Own 2 w' w.heap.size w'.heap.size (.slice A R.2.1.length C) R.2.1 ∧ Below w.heap.size w w'
theorem regBC_err {R : Int × List Int × Bool × Int} {c : Int} {w w' : World} {e : Ending} (h : R = (0, [], false, c)) (he : e = .returned (.tuple #[.agg #[.int .i64 0, .slice none 0 0], .bool false, .int .i64 c])) (hb : Below w.heap.size w w') : RegBC R w e w' := by
  subst h
  exact ⟨none, 0, he, own_nil _ _ _ _, hb⟩
theorem regBC_ok {R : Int × List Int × Bool × Int} {b : Int} {zs : List Int} {t : Bool} {w w' : World} {A : Option Addr} {C lo hi : Nat} {e : Ending} (h : R = (b, zs, t, 0)) (he : e = .returned (.tuple #[.agg #[.int .i64 b, .slice A zs.length C], .bool t, .int .i64 0]))
    (ho : Own 2 w' lo hi (.slice A zs.length C) zs) (hl : w.heap.size ≤ lo) (hh : hi ≤ w'.heap.size) (hb : Below w.heap.size w w') : RegBC R w e w' := by
  subst h
  exact ⟨A, C, he, ho.wide hl hh, hb⟩
end Go.Proofs.YtiogbpnnnpodkaaDoor
