/-
  spec.l02Sub.
-/
import Derived.Test.YtiogbpnnnpodkaaDoorCarS
namespace Go.Proofs.YtiogbpnnnpodkaaDoor
open Go.RowKit

end Go.Proofs.YtiogbpnnnpodkaaDoor
