/-
  impl.pairCode.
-/
import Derived.Test.YtmjeiagkdcfeiaaDoorSameReg
import Derived.Test.YtmjeiagkdcfeiaaDoorOkI
import Derived.Test.YtmjeiagkdcfeiaaDoorAr
namespace Go.Proofs.YtmjeiagkdcfeiaaDoor
open Go.RowKit

end Go.Proofs.YtmjeiagkdcfeiaaDoor
