/-
  Closed facts of the program alone, which every statement's frame wants, one declaration each.
-/
import Derived.Test.YtgfopieojpjddaaKnob
import Derived.JoinedOf
namespace Go.Proofs.Ytgfopieojpjddaa
open Go

theorem fact_maps : mapsRowed Try.prog = true := by kernel_rfl
theorem fact_stops : (Try.prog.stops == []) = true := by kernel_rfl
theorem fact_knobs : (Try.prog.stopKnobs == []) = true := by kernel_rfl
theorem fact_plain : (true == Try.prog.plainKeys) = true := by kernel_rfl
theorem fact_heard : Try.prog.stopsHeard = true := by kernel_rfl
theorem fact_enter : Try.prog.mayEnter = true := by kernel_rfl
theorem fact_lift : (false == Try.prog.liftsFinal) = true := by kernel_rfl
end Go.Proofs.Ytgfopieojpjddaa
