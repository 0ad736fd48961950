/-
  impl.pairCode.
-/
import Derived.Test.YtlahobdopmdfmaaDoorSameReg
import Derived.Test.YtlahobdopmdfmaaDoorOkI
import Derived.Test.YtlahobdopmdfmaaDoorAr
namespace Go.Proofs.YtlahobdopmdfmaaDoor
open Go.RowKit

end Go.Proofs.YtlahobdopmdfmaaDoor
