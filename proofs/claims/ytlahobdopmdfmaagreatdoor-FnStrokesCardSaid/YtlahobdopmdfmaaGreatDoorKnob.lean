/-
  Two closed facts of the program that every frame wants.
-/
import Derived.Test.YtlahobdopmdfmaaGreatDoorProg
import Derived.ProofKit
import Derived.ChangeOld
import Derived.OpenShut
import Derived.KernelRfl
namespace Go.Proofs.YtlahobdopmdfmaaGreatDoor

theorem own_knob : ownKnob Tryz.prog.godebug = none := by kernel_rfl
theorem laid_out : laidOutB Tryz.prog = true := by kernel_rfl
end Go.Proofs.YtlahobdopmdfmaaGreatDoor
