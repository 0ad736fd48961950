/-
  SameRegister, by the program and by the model.
-/
import Derived.Test.YtaefgkhbgljkoabSameI
import Derived.Test.YtaefgkhbgljkoabSliEq
namespace Go.Proofs.Ytaefgkhbgljkoab
open Go.RowKit

set_option maxHeartbeats 400000 in
theorem shapeOf_any (B : Int) (a : Option Addr) (n c : Nat) (w : World) :
    Calls Try.prog 145 #[.agg #[.int .i64 B, .slice a n c]] w fun e w' =>
      e = .returned (.agg #[.int .i64 B, .int .i64 n]) ∧ Below w.heap.size w w' := by
  go_enter Try.func145, Try.ntmps145
  go_wp2
  exact bodyPost_ret (v := .agg #[.int .i64 B, .int .i64 n]) (by simp [results, Try.results145, go_sem]) rfl
    ⟨rfl, ((((Below.refl _ _).alloc (Nat.le_refl _) _).alloc (by simp) _))⟩

end Go.Proofs.Ytaefgkhbgljkoab
