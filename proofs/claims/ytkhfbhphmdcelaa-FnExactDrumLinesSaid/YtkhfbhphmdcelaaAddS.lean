/-
  spec.l02Add.
-/
import Derived.Test.YtkhfbhphmdcelaaCarS
namespace Go.Proofs.Ytkhfbhphmdcelaa
open Go.RowKit

end Go.Proofs.Ytkhfbhphmdcelaa
