/-
  slices.Equal: whether two slices of int64 hold the same numbers.
-/
import Derived.Test.YtmjeiagkdcfeiaaDoorProg
import Derived.Test.YtmjeiagkdcfeiaaDoorBase
namespace Go.Proofs.YtmjeiagkdcfeiaaDoor
open Go.RowKit

end Go.Proofs.YtmjeiagkdcfeiaaDoor
