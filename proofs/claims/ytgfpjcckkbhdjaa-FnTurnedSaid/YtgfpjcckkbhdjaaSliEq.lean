/-
  slices.Equal: whether two slices of int64 hold the same numbers.
-/
import Derived.Test.YtgfpjcckkbhdjaaProg
import Derived.Test.YtgfpjcckkbhdjaaBase
namespace Go.Proofs.Ytgfpjcckkbhdjaa
open Go.RowKit

end Go.Proofs.Ytgfpjcckkbhdjaa
