/-
  SameRegister, by the program and by the model.
-/
import Derived.Test.YtcfpfhlgcfmioaaSameI
import Derived.Test.YtcfpfhlgcfmioaaSliEq
namespace Go.Proofs.Ytcfpfhlgcfmioaa
open Go.RowKit

set_option maxHeartbeats 400000 in
theorem shapeOf_any (B : Int) (a : Option Addr) (n c : Nat) (w : World) :
    Calls Try.prog 136 #[.agg #[.int .i64 B, .slice a n c]] w fun e w' =>
      e = .returned (.agg #[.int .i64 B, .int .i64 n]) ∧ Below w.heap.size w w' := by
  go_enter Try.func136, Try.ntmps136
  go_wp2
  exact bodyPost_ret (v := .agg #[.int .i64 B, .int .i64 n]) (by simp [results, Try.results136, go_sem]) rfl
    ⟨rfl, ((((Below.refl _ _).alloc (Nat.le_refl _) _).alloc (by simp) _))⟩

end Go.Proofs.Ytcfpfhlgcfmioaa
