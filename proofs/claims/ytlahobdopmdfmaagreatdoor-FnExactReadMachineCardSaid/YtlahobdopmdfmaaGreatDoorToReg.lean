/-
  laws.toRegister: a register with digits of its own.
-/
import Derived.Test.YtlahobdopmdfmaaGreatDoorToI
namespace Go.Proofs.YtlahobdopmdfmaaGreatDoor
open Go.RowKit

end Go.Proofs.YtlahobdopmdfmaaGreatDoor
