/-
  slices.Equal: whether two slices of int64 hold the same numbers.
-/
import Derived.Test.YtlahobdopmdfmaaGreatDoorProg
import Derived.Test.YtlahobdopmdfmaaGreatDoorBase
namespace Go.Proofs.YtlahobdopmdfmaaGreatDoor
open Go.RowKit

end Go.Proofs.YtlahobdopmdfmaaGreatDoor
