/-
  spec.l02Sub.
-/
import Derived.Test.YtkhfbhphmdcelaaCarS
namespace Go.Proofs.Ytkhfbhphmdcelaa
open Go.RowKit

end Go.Proofs.Ytkhfbhphmdcelaa
