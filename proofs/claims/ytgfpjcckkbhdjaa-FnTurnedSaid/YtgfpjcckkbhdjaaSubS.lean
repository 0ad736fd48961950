/-
  spec.l02Sub.
-/
import Derived.Test.YtgfpjcckkbhdjaaCarS
namespace Go.Proofs.Ytgfpjcckkbhdjaa
open Go.RowKit

end Go.Proofs.Ytgfpjcckkbhdjaa
