/-
  spec.l02Sub.
-/
import Derived.Test.YtmdngcoccekdgaaCarS
namespace Go.Proofs.Ytmdngcoccekdgaa
open Go.RowKit

end Go.Proofs.Ytmdngcoccekdgaa
