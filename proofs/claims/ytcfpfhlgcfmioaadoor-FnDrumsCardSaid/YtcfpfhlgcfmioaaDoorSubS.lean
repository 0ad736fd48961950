/-
  spec.l02Sub.
-/
import Derived.Test.YtcfpfhlgcfmioaaDoorCarS
namespace Go.Proofs.YtcfpfhlgcfmioaaDoor
open Go.RowKit

end Go.Proofs.YtcfpfhlgcfmioaaDoor
