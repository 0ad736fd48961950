/-
  spec.AddRegisters, SubRegisters.
-/
import Derived.Test.YtaefgkhbgljkoabAddS
import Derived.Test.YtaefgkhbgljkoabSubS
namespace Go.Proofs.Ytaefgkhbgljkoab
open Go.RowKit

/-- What a call of AddRegisters leaves. -/
def addRPost (b : Int) (xs : List Int) (d : Int) (ys : List Int) (w : World) (e : Ending) (w' : World) : Prop := ∃ A C,
  e = .returned (.tuple #[.agg #[.int .i64 (addR b xs d ys).1, .slice A (addR b xs d ys).2.1.length C], .int .i64 (addR b xs d ys).2.2.1, .int .i64 (addR b xs d ys).2.2.2]) ∧ Own 2 w' w.heap.size w'.heap.size (.slice A (addR b xs d ys).2.1.length C) (addR b xs d ys).2.1 ∧ Below w.heap.size w w'
theorem addRPost_err {b d c : Int} {xs ys : List Int} {w w' : World} {e : Ending} (h : addR b xs d ys = (0, [], 0, c)) (he : e = .returned (.tuple #[.agg #[.int .i64 0, .slice none 0 0], .int .i64 0, .int .i64 c])) (hb : Below w.heap.size w w') : addRPost b xs d ys w e w' := by
  refine ⟨none, 0, ?_, ?_, hb⟩
  · rw [h]; exact he
  · rw [h]; exact own_nil _ _ _ _
theorem addRPost_ok {b d k : Int} {xs ys zs : List Int} {m : Nat} {w w' : World} {A : Option Addr} {C lo hi : Nat} {e : Ending} (h : addR b xs d ys = (b, zs, k, 0)) (hm : zs.length = m) (he : e = .returned (.tuple #[.agg #[.int .i64 b, .slice A m C], .int .i64 k, .int .i64 0]))
    (ho : Own 2 w' lo hi (.slice A m C) zs) (hl : w.heap.size ≤ lo) (hh : hi ≤ w'.heap.size) (hb : Below w.heap.size w w') : addRPost b xs d ys w e w' := by
  subst hm
  refine ⟨A, C, ?_, ?_, hb⟩
  · rw [h]; exact he
  · rw [h]; exact ho.wide hl hh

/-- What a call of SubRegisters leaves. -/
def subRPost (b : Int) (xs : List Int) (d : Int) (ys : List Int) (w : World) (e : Ending) (w' : World) : Prop := ∃ A C,
  e = .returned (.tuple #[.agg #[.int .i64 (subR b xs d ys).1, .slice A (subR b xs d ys).2.1.length C], .int .i64 (subR b xs d ys).2.2.1, .int .i64 (subR b xs d ys).2.2.2]) ∧ Own 2 w' w.heap.size w'.heap.size (.slice A (subR b xs d ys).2.1.length C) (subR b xs d ys).2.1 ∧ Below w.heap.size w w'
theorem subRPost_err {b d c : Int} {xs ys : List Int} {w w' : World} {e : Ending} (h : subR b xs d ys = (0, [], 0, c)) (he : e = .returned (.tuple #[.agg #[.int .i64 0, .slice none 0 0], .int .i64 0, .int .i64 c])) (hb : Below w.heap.size w w') : subRPost b xs d ys w e w' := by
  refine ⟨none, 0, ?_, ?_, hb⟩
  · rw [h]; exact he
  · rw [h]; exact own_nil _ _ _ _
theorem subRPost_ok {b d k : Int} {xs ys zs : List Int} {m : Nat} {w w' : World} {A : Option Addr} {C lo hi : Nat} {e : Ending} (h : subR b xs d ys = (b, zs, k, 0)) (hm : zs.length = m) (he : e = .returned (.tuple #[.agg #[.int .i64 b, .slice A m C], .int .i64 k, .int .i64 0]))
    (ho : Own 2 w' lo hi (.slice A m C) zs) (hl : w.heap.size ≤ lo) (hh : hi ≤ w'.heap.size) (hb : Below w.heap.size w w') : subRPost b xs d ys w e w' := by
  subst hm
  refine ⟨A, C, ?_, ?_, hb⟩
  · rw [h]; exact he
  · rw [h]; exact ho.wide hl hh

end Go.Proofs.Ytaefgkhbgljkoab
