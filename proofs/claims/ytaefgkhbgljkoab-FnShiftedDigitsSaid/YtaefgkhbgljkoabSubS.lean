/-
  spec.l02Sub.
-/
import Derived.Test.YtaefgkhbgljkoabCarS
namespace Go.Proofs.Ytaefgkhbgljkoab
open Go.RowKit

end Go.Proofs.Ytaefgkhbgljkoab
