/-
  What a function leaves that returns a register, a carry and a code.
-/
import Derived.Test.YtgfopieojpjddaaDoorAr
import Derived.Test.YtgfopieojpjddaaDoorApp
namespace Go.Proofs.YtgfopieojpjddaaDoor
open Go.RowKit

def reg4Post (R : Int × List Int × Int × Int) (w : World) (e : Ending) (w' : World) : Prop := ∃ A C,
  e = .returned (.tuple #[.agg #[.int .i64 R.1, .slice A R.2.1.length C], .int .i64 R.2.2.1, .int .i64 R.2.2.2]) ∧ Own 2 w' w.heap.size w'.heap.size (.slice A R.2.1.length C) R.2.1 ∧ Below w.heap.size w w'
theorem reg4_err {R : Int × List Int × Int × Int} {c : Int} {w w' : World} {e : Ending} (h : R = (0, [], 0, c)) (he : e = .returned (.tuple #[.agg #[.int .i64 0, .slice none 0 0], .int .i64 0, .int .i64 c])) (hb : Below w.heap.size w w') : reg4Post R w e w' := by
  subst h; exact ⟨none, 0, he, own_nil _ _ _ _, hb⟩
theorem reg4_ok {R : Int × List Int × Int × Int} {b k : Int} {zs : List Int} {m : Nat} {w w' : World} {A : Option Addr} {C lo hi : Nat} {e : Ending} (h : R = (b, zs, k, 0)) (hm : zs.length = m) (he : e = .returned (.tuple #[.agg #[.int .i64 b, .slice A m C], .int .i64 k, .int .i64 0]))
    (ho : Own 2 w' lo hi (.slice A m C) zs) (hl : w.heap.size ≤ lo) (hh : hi ≤ w'.heap.size) (hb : Below w.heap.size w w') : reg4Post R w e w' := by
  subst h hm; exact ⟨A, C, he, ho.wide hl hh, hb⟩
/-- What becomes of computed digits and a carry. -/
def finR4 (b : Int) (zs : List Int) (c : Int) : Int × List Int × Int × Int := if okB b zs = true then (b, zs, c, 0) else (0, [], 0, 5)
theorem finR4_ok {b c : Int} {zs : List Int} (h : okB b zs = true) : finR4 b zs c = (b, zs, c, 0) := by simp [finR4, h]
theorem finR4_bad {b c : Int} {zs : List Int} (h : okB b zs = false) : finR4 b zs c = (0, [], 0, 5) := by simp [finR4, h]
end Go.Proofs.YtgfopieojpjddaaDoor
