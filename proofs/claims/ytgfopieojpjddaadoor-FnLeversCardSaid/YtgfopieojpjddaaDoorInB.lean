/-
  spec.l00In, as what a region that draws wants it.
-/
import Derived.Test.YtgfopieojpjddaaDoorInS
namespace Go.Proofs.YtgfopieojpjddaaDoor
open Go.RowKit

theorem l00In_b (n lo hi : Int) (w : World) : Calls Tryd.prog 69 #[.int .i64 n, .int .i64 lo, .int .i64 hi] w fun e w' => e = .returned (.bool (inB n lo hi)) ∧ Below w.heap.size w w' :=
  (l00In_any n lo hi w).mono fun e w' ⟨a, b⟩ => ⟨a, by rw [b]; exact Below.refl _ _⟩
end Go.Proofs.YtgfopieojpjddaaDoor
