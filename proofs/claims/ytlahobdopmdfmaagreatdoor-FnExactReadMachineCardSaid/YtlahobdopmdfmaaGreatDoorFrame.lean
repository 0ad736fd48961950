/-
  What the frame of each statement's proof wants: how the arguments of a law read.
-/
import Derived.Test.YtlahobdopmdfmaaGreatDoorFrameI
namespace Go.Proofs.YtlahobdopmdfmaaGreatDoor
open Go.ChangeShapes Go.WideShapes Go.ChangeAt Go.RowKit Go.Joins
open Go.ChangeMaps (open_string shut_string)

section
variable {H : Type} {enc : TypeId × Value → H} {W : World} {base : Nat} {v : Value} {d : DataW H} {p : List MemPlace}

end
end Go.Proofs.YtlahobdopmdfmaaGreatDoor
