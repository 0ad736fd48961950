/-
  spec.l02Sub.
-/
import Derived.Test.YtiogbpnnnpodkaaCarS
namespace Go.Proofs.Ytiogbpnnnpodkaa
open Go.RowKit

end Go.Proofs.Ytiogbpnnnpodkaa
