/-
  spec.l02Add.
-/
import Derived.Test.YtaefgkhbgljkoabCarS
namespace Go.Proofs.Ytaefgkhbgljkoab
open Go.RowKit

end Go.Proofs.Ytaefgkhbgljkoab
