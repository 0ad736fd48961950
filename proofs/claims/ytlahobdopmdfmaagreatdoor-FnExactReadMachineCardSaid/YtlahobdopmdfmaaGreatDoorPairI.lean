/-
  impl.pairCode.
-/
import Derived.Test.YtlahobdopmdfmaaGreatDoorSameReg
import Derived.Test.YtlahobdopmdfmaaGreatDoorOkI
import Derived.Test.YtlahobdopmdfmaaGreatDoorAr
namespace Go.Proofs.YtlahobdopmdfmaaGreatDoor
open Go.RowKit

end Go.Proofs.YtlahobdopmdfmaaGreatDoor
