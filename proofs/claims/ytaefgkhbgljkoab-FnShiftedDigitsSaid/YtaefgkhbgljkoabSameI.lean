/-
  spec.l00Same: whether two slices of int64 hold the same numbers.
-/
import Derived.Test.YtaefgkhbgljkoabProg
import Derived.Test.YtaefgkhbgljkoabBase
namespace Go.Proofs.Ytaefgkhbgljkoab
open Go.RowKit

end Go.Proofs.Ytaefgkhbgljkoab
