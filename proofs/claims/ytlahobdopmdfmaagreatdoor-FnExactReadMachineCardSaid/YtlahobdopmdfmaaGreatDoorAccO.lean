/-
  spec: whether a register is an accumulator, its number; NumberOf.
-/
import Derived.Test.YtlahobdopmdfmaaGreatDoorAccS
namespace Go.Proofs.YtlahobdopmdfmaaGreatDoor
open Go.RowKit

theorem l10Full_at {v : Bool} (B : Int) (n : Nat) (w : World) (b1 : 1 ≤ B) (b2 : B ≤ 16) (hn : n ≤ 16) (hv : decide (B ^ n - 1 ≤ 1000000000000) = v) :
    Calls Tryz.prog 71 #[.int .i64 B, .int .i64 n] w fun e w' => e = .returned (.bool v) ∧ w' = w := hv ▸ l10Full_any B n w b1 b2 hn

end Go.Proofs.YtlahobdopmdfmaaGreatDoor
