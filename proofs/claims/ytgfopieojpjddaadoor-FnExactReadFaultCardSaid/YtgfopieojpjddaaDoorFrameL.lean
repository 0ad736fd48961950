/-
  How the laws' arguments read: faults of levers, lists of them.
-/
import Derived.Test.YtgfopieojpjddaaDoorRows
import Derived.Test.YtgfopieojpjddaaDoorKnob
import Derived.Test.YtgfopieojpjddaaDoorFrameF
import Derived.ShutString
namespace Go.Proofs.YtgfopieojpjddaaDoor
open Go.ChangeShapes Go.WideShapes Go.ChangeAt Go.RowKit Go.Joins Go.Deep

section
variable {H : Type} {enc : TypeId × Value → H} {W : World} {base : Nat} {v : Value} {d : DataW H} {p : List MemPlace}

end
end Go.Proofs.YtgfopieojpjddaaDoor
