/-
  Closed facts of the program alone, which every statement's frame wants, one declaration each.
-/
import Derived.Test.YtgfopieojpjddaaDoorKnob
import Derived.JoinedOf
namespace Go.Proofs.YtgfopieojpjddaaDoor
open Go

theorem fact_maps : mapsRowed Tryd.prog = true := by kernel_rfl
theorem fact_stops : (Tryd.prog.stops == []) = true := by kernel_rfl
theorem fact_knobs : (Tryd.prog.stopKnobs == []) = true := by kernel_rfl
theorem fact_plain : (true == Tryd.prog.plainKeys) = true := by kernel_rfl
theorem fact_heard : Tryd.prog.stopsHeard = true := by kernel_rfl
theorem fact_enter : Tryd.prog.mayEnter = true := by kernel_rfl
theorem fact_lift : (false == Tryd.prog.liftsFinal) = true := by kernel_rfl
end Go.Proofs.YtgfopieojpjddaaDoor
