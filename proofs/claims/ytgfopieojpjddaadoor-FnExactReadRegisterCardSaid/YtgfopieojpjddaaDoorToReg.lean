/-
  laws.toRegister: a register with digits of its own.
-/
import Derived.Test.YtgfopieojpjddaaDoorToI
namespace Go.Proofs.YtgfopieojpjddaaDoor
open Go.RowKit

end Go.Proofs.YtgfopieojpjddaaDoor
