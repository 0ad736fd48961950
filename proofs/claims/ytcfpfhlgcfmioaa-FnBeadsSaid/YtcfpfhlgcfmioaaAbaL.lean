/-
  laws.toAbacus, szAbacus, eqAbacus, markAbacus, heldAbacus.
-/
import Derived.Test.YtcfpfhlgcfmioaaRodS
import Derived.Test.YtcfpfhlgcfmioaaAba
namespace Go.Proofs.Ytcfpfhlgcfmioaa
open Go.RowKit


end Go.Proofs.Ytcfpfhlgcfmioaa
