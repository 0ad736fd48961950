/-
  slices.Equal: whether two slices of int64 hold the same numbers.
-/
import Derived.Test.YtlahobdopmdfmaaDoorProg
import Derived.Test.YtlahobdopmdfmaaDoorBase
namespace Go.Proofs.YtlahobdopmdfmaaDoor
open Go.RowKit

end Go.Proofs.YtlahobdopmdfmaaDoor
