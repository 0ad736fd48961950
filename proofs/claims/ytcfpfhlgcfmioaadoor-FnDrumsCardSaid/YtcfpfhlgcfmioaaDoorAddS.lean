/-
  spec.l02Add.
-/
import Derived.Test.YtcfpfhlgcfmioaaDoorCarS
namespace Go.Proofs.YtcfpfhlgcfmioaaDoor
open Go.RowKit

end Go.Proofs.YtcfpfhlgcfmioaaDoor
