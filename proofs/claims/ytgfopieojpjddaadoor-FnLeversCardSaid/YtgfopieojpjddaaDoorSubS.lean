/-
  spec.l02Sub.
-/
import Derived.Test.YtgfopieojpjddaaDoorCarS
namespace Go.Proofs.YtgfopieojpjddaaDoor
open Go.RowKit

end Go.Proofs.YtgfopieojpjddaaDoor
