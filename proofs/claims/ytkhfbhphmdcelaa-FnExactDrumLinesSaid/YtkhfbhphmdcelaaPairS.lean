/-
  spec.ValueOf, CarriesOf, CompareRegisters, AddRegisters, SubRegisters.
-/
import Derived.Test.YtkhfbhphmdcelaaAddS
import Derived.Test.YtkhfbhphmdcelaaSubS
namespace Go.Proofs.Ytkhfbhphmdcelaa
open Go.RowKit

end Go.Proofs.Ytkhfbhphmdcelaa
