/-
  Two closed facts of the program that every frame wants.
-/
import Derived.Test.YtgfopieojpjddaaDoorProg
import Derived.ProofKit
import Derived.ChangeOld
import Derived.OpenShut
import Derived.KernelRfl
namespace Go.Proofs.YtgfopieojpjddaaDoor

theorem own_knob : ownKnob Tryd.prog.godebug = none := by kernel_rfl
theorem laid_out : laidOutB Tryd.prog = true := by kernel_rfl
end Go.Proofs.YtgfopieojpjddaaDoor
