/-
  What the frame of each statement's proof wants: how the arguments of a law read.
-/
import Derived.Test.YtgfopieojpjddaaDoorFrameI
namespace Go.Proofs.YtgfopieojpjddaaDoor
open Go.ChangeShapes Go.WideShapes Go.ChangeAt Go.RowKit Go.Joins
open Go.ChangeMaps (open_string shut_string)

section
variable {H : Type} {enc : TypeId × Value → H} {W : World} {base : Nat} {v : Value} {d : DataW H} {p : List MemPlace}

end
end Go.Proofs.YtgfopieojpjddaaDoor
