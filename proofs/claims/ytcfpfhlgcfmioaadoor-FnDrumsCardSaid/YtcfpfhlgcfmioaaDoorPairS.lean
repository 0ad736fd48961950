/-
  spec.ValueOf, CarriesOf, CompareRegisters, AddRegisters, SubRegisters.
-/
import Derived.Test.YtcfpfhlgcfmioaaDoorAddS
import Derived.Test.YtcfpfhlgcfmioaaDoorSubS
namespace Go.Proofs.YtcfpfhlgcfmioaaDoor
open Go.RowKit

end Go.Proofs.YtcfpfhlgcfmioaaDoor
