/-
  slices.Equal: whether two slices of int64 hold the same numbers.
-/
import Derived.Test.YtcfpfhlgcfmioaaProg
import Derived.Test.YtcfpfhlgcfmioaaBase
namespace Go.Proofs.Ytcfpfhlgcfmioaa
open Go.RowKit

end Go.Proofs.Ytcfpfhlgcfmioaa
