/-
  What calls leave that give a register and a code.
-/
import Derived.Test.YtgfopieojpjddaaDoorTwoS
import Derived.Test.YtgfopieojpjddaaDoorInS
import Derived.Test.YtgfopieojpjddaaDoorToI
import Derived.Test.YtgfopieojpjddaaDoorApp
import Derived.Test.YtgfopieojpjddaaDoorOrd
namespace Go.Proofs.YtgfopieojpjddaaDoor
open Go.RowKit

/-- A register of its own and a code. -/
def RegC (R : Int × List Int × Int) (w : World) (e : Ending) (w' : World) : Prop := ∃ A C,
  e = .returned (.tuple #[.agg #[.int .i64 R.1, .slice A R.2.1.length C], .int .i64 R.2.2]) ∧ Own 2 w' w.heap.size w'.heap.size (.slice A R.2.1.length C) R.2.1 ∧ Below w.heap.size w w'
theorem regC_err {R : Int × List Int × Int} {c : Int} {w w' : World} {e : Ending} (h : R = (0, [], c)) (he : e = .returned (.tuple #[.agg #[.int .i64 0, .slice none 0 0], .int .i64 c])) (hb : Below w.heap.size w w') : RegC R w e w' := by
  subst h
  exact ⟨none, 0, he, own_nil _ _ _ _, hb⟩
theorem regC_ok {R : Int × List Int × Int} {b : Int} {zs : List Int} {w w' : World} {A : Option Addr} {C lo hi : Nat} {e : Ending} (h : R = (b, zs, 0)) (he : e = .returned (.tuple #[.agg #[.int .i64 b, .slice A zs.length C], .int .i64 0]))
    (ho : Own 2 w' lo hi (.slice A zs.length C) zs) (hl : w.heap.size ≤ lo) (hh : hi ≤ w'.heap.size) (hb : Below w.heap.size w w') : RegC R w e w' := by
  subst h
  exact ⟨A, C, he, ho.wide hl hh, hb⟩

end Go.Proofs.YtgfopieojpjddaaDoor
