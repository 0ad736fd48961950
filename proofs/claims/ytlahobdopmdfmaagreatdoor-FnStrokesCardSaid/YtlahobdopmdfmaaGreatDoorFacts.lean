/-
  Closed facts of the program alone, which every statement's frame wants, one declaration each.
-/
import Derived.Test.YtlahobdopmdfmaaGreatDoorKnob
import Derived.JoinedOf
namespace Go.Proofs.YtlahobdopmdfmaaGreatDoor
open Go

theorem fact_maps : mapsRowed Tryz.prog = true := by kernel_rfl
theorem fact_stops : (Tryz.prog.stops == []) = true := by kernel_rfl
theorem fact_knobs : (Tryz.prog.stopKnobs == []) = true := by kernel_rfl
theorem fact_plain : (true == Tryz.prog.plainKeys) = true := by kernel_rfl
theorem fact_heard : Tryz.prog.stopsHeard = true := by kernel_rfl
theorem fact_enter : Tryz.prog.mayEnter = true := by kernel_rfl
theorem fact_lift : (false == Tryz.prog.liftsFinal) = true := by kernel_rfl
end Go.Proofs.YtlahobdopmdfmaaGreatDoor
