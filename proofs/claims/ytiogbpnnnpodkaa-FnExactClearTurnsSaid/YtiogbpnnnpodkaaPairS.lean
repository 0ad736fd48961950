/-
  spec.ValueOf, CarriesOf, CompareRegisters, AddRegisters, SubRegisters.
-/
import Derived.Test.YtiogbpnnnpodkaaAddS
import Derived.Test.YtiogbpnnnpodkaaSubS
namespace Go.Proofs.Ytiogbpnnnpodkaa
open Go.RowKit

end Go.Proofs.Ytiogbpnnnpodkaa
