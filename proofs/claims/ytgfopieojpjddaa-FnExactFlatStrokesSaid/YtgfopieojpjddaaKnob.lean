/-
  Two closed facts of the program that every frame wants.
-/
import Derived.Test.YtgfopieojpjddaaProg
import Derived.ProofKit
import Derived.ChangeOld
import Derived.OpenShut
import Derived.KernelRfl
namespace Go.Proofs.Ytgfopieojpjddaa

theorem own_knob : ownKnob Try.prog.godebug = none := by kernel_rfl
theorem laid_out : laidOutB Try.prog = true := by kernel_rfl
end Go.Proofs.Ytgfopieojpjddaa
