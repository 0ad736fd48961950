/-
  spec.l02Two: whether two registers may be used together.
-/
import Derived.Test.YtcfpfhlgcfmioaaDoorOkS
import Derived.Test.YtcfpfhlgcfmioaaDoorAr
namespace Go.Proofs.YtcfpfhlgcfmioaaDoor
open Go.RowKit

end Go.Proofs.YtcfpfhlgcfmioaaDoor
