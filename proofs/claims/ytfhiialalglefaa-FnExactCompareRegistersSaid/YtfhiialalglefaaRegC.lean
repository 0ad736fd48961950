/-
  What calls leave that give a register and a code.
-/
import Derived.Test.YtfhiialalglefaaTwoS
import Derived.Test.YtfhiialalglefaaToI
import Derived.Test.YtfhiialalglefaaApp
import Derived.Test.YtfhiialalglefaaOrd
namespace Go.Proofs.Ytfhiialalglefaa
open Go.RowKit

/-- A register of its own and a code. -/
def RegC (R : Int × List Int × Int) (w : World) (e : Ending) (w' : World) : Prop := ∃ A C,
  e = .returned (.tuple #[.agg #[.int .i64 R.1, .slice A R.2.1.length C], .int .i64 R.2.2]) ∧ Own 2 w' w.heap.size w'.heap.size (.slice A R.2.1.length C) R.2.1 ∧ Below w.heap.size w w'
theorem regC_err {R : Int × List Int × Int} {c : Int} {w w' : World} {e : Ending} (h : R = (0, [], c)) (he : e = .returned (.tuple #[.agg #[.int .i64 0, .slice none 0 0], .int .i64 c])) (hb : Below w.heap.size w w') : RegC R w e w' := by
  subst h
  exact ⟨none, 0, he, own_nil _ _ _ _, hb⟩
theorem regC_ok {R : Int × List Int × Int} {b : Int} {zs : List Int} {w w' : World} {A : Option Addr} {C lo hi : Nat} {e : Ending} (h : R = (b, zs, 0)) (he : e = .returned (.tuple #[.agg #[.int .i64 b, .slice A zs.length C], .int .i64 0]))
    (ho : Own 2 w' lo hi (.slice A zs.length C) zs) (hl : w.heap.size ≤ lo) (hh : hi ≤ w'.heap.size) (hb : Below w.heap.size w w') : RegC R w e w' := by
  subst h
  exact ⟨A, C, he, ho.wide hl hh, hb⟩

theorem l00In_true (n lo hi : Int) (w : World) (h1 : lo ≤ n) (h2 : n ≤ hi) : Calls Try.prog 80 #[.int .i64 n, .int .i64 lo, .int .i64 hi] w fun e w' => e = .returned (.bool true) ∧ w' = w := by
  have d1 : decide (lo ≤ n) = true := decide_eq_true h1
  have d2 : decide (n ≤ hi) = true := decide_eq_true h2
  go_enter Try.func80, Try.ntmps80
  go_wp2
  go_ret
  exact ⟨rfl, rfl⟩
theorem l00In_false (n lo hi : Int) (w : World) (h : n < lo ∨ hi < n) : Calls Try.prog 80 #[.int .i64 n, .int .i64 lo, .int .i64 hi] w fun e w' => e = .returned (.bool false) ∧ w' = w := by
  by_cases h1 : lo ≤ n
  · have d1 : decide (lo ≤ n) = true := decide_eq_true h1
    have d2 : decide (n ≤ hi) = false := decide_eq_false (by omega)
    go_enter Try.func80, Try.ntmps80
    go_wp2
    go_ret
    exact ⟨rfl, rfl⟩
  · have d1 : decide (lo ≤ n) = false := decide_eq_false h1
    go_enter Try.func80, Try.ntmps80
    go_wp2
    go_ret
    exact ⟨rfl, rfl⟩
end Go.Proofs.Ytfhiialalglefaa
