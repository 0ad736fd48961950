/-
  DERIVED. GIVEN WITH THE SEED: THE CARDS: each row of YtiogbpnnnpodkaaDoorRows.lean that lists a variable, with what it lists TIED to the program's text (the seventh form; the later family's looks); each row that meets fmt, with fmt's text TOLD by the authors' own Lean function (tested against real Go, not proved from fmt's source: count such statements apart). THE CARD IS WHAT COUNTS. Prove the row's statement (the work); the ties are given (YtiogbpnnnpodkaaDoorTie.lean); close each card by the builder's one call (the guide's Derived/Test/ToyasCard.lean, 'card_holds'). Laid BY PROGRAM, IN A SANDBOX (cutbox-door.mjs). By AI agents, Wed Nov 11 2026. No macro, syntax, notation, axiom, sorry.
-/
import Derived.Test.YtiogbpnnnpodkaaDoorRows
import GoSem.ClaimSeven
namespace Go.Proofs.YtiogbpnnnpodkaaDoor
namespace Rows

/-- THE TIED CARD OF 'laws.FnExactSetAccumulator'. -/
def fnExactSetAccumulatorCard : Claim7 := { stood := { row := fnExactSetAccumulatorRow, standIns := [], harness := (true, "5decdcb239c0cb7ade1a9b4d3e61e8baefdaa9861a8d6b55850b5da5e95f7769"), looks := true }, kinds := [], alts := [], laidByText := true, laidKinds := [.sentinel], laidTests := true, laidLooks := .later }
def FnExactSetAccumulatorCardSaid : Prop := Claim7.holds Tryd.pinned (.plain (OpenSpec.ofChange fnExactSetAccumulatorSpec)) fnExactSetAccumulatorCard

/-- THE TIED CARD OF 'laws.FnExactNumberOf'. -/
def fnExactNumberOfCard : Claim7 := { stood := { row := fnExactNumberOfRow, standIns := [], harness := (true, "5decdcb239c0cb7ade1a9b4d3e61e8baefdaa9861a8d6b55850b5da5e95f7769"), looks := true }, kinds := [], alts := [], laidByText := true, laidKinds := [.sentinel], laidTests := true, laidLooks := .later }
def FnExactNumberOfCardSaid : Prop := Claim7.holds Tryd.pinned (.plain (OpenSpec.ofChange fnExactNumberOfSpec)) fnExactNumberOfCard

/-- THE TIED CARD OF 'laws.FnExactNegateAccumulator'. -/
def fnExactNegateAccumulatorCard : Claim7 := { stood := { row := fnExactNegateAccumulatorRow, standIns := [], harness := (true, "5decdcb239c0cb7ade1a9b4d3e61e8baefdaa9861a8d6b55850b5da5e95f7769"), looks := true }, kinds := [], alts := [], laidByText := true, laidKinds := [.sentinel], laidTests := true, laidLooks := .later }
def FnExactNegateAccumulatorCardSaid : Prop := Claim7.holds Tryd.pinned (.plain (OpenSpec.ofChange fnExactNegateAccumulatorSpec)) fnExactNegateAccumulatorCard

/-- THE TIED CARD OF 'laws.FnExactAccumulateNumber'. -/
def fnExactAccumulateNumberCard : Claim7 := { stood := { row := fnExactAccumulateNumberRow, standIns := [], harness := (true, "5decdcb239c0cb7ade1a9b4d3e61e8baefdaa9861a8d6b55850b5da5e95f7769"), looks := true }, kinds := [], alts := [], laidByText := true, laidKinds := [.sentinel], laidTests := true, laidLooks := .later }
def FnExactAccumulateNumberCardSaid : Prop := Claim7.holds Tryd.pinned (.plain (OpenSpec.ofChange fnExactAccumulateNumberSpec)) fnExactAccumulateNumberCard

/-- THE TIED CARD OF 'laws.FnExactAccumulateAll'. -/
def fnExactAccumulateAllCard : Claim7 := { stood := { row := fnExactAccumulateAllRow, standIns := [], harness := (true, "5decdcb239c0cb7ade1a9b4d3e61e8baefdaa9861a8d6b55850b5da5e95f7769"), looks := true }, kinds := [], alts := [], laidByText := true, laidKinds := [.sentinel], laidTests := true, laidLooks := .later }
def FnExactAccumulateAllCardSaid : Prop := Claim7.holds Tryd.pinned (.plain (OpenSpec.ofChange fnExactAccumulateAllSpec)) fnExactAccumulateAllCard

/-- THE TIED CARD OF 'laws.FnExactTransferTo'. -/
def fnExactTransferToCard : Claim7 := { stood := { row := fnExactTransferToRow, standIns := [], harness := (true, "5decdcb239c0cb7ade1a9b4d3e61e8baefdaa9861a8d6b55850b5da5e95f7769"), looks := true }, kinds := [], alts := [], laidByText := true, laidKinds := [.sentinel], laidTests := true, laidLooks := .later }
def FnExactTransferToCardSaid : Prop := Claim7.holds Tryd.pinned (.plain (OpenSpec.ofChange fnExactTransferToSpec)) fnExactTransferToCard

/-- THE TIED CARD OF 'laws.FnExactWidenAccumulator'. -/
def fnExactWidenAccumulatorCard : Claim7 := { stood := { row := fnExactWidenAccumulatorRow, standIns := [], harness := (true, "5decdcb239c0cb7ade1a9b4d3e61e8baefdaa9861a8d6b55850b5da5e95f7769"), looks := true }, kinds := [], alts := [], laidByText := true, laidKinds := [.sentinel], laidTests := true, laidLooks := .later }
def FnExactWidenAccumulatorCardSaid : Prop := Claim7.holds Tryd.pinned (.plain (OpenSpec.ofChange fnExactWidenAccumulatorSpec)) fnExactWidenAccumulatorCard

/-- THE TIED CARD OF 'laws.FnExactAccumulatorText'. -/
def fnExactAccumulatorTextCard : Claim7 := { stood := { row := fnExactAccumulatorTextRow, standIns := [], harness := (true, "5decdcb239c0cb7ade1a9b4d3e61e8baefdaa9861a8d6b55850b5da5e95f7769"), looks := true }, kinds := [], alts := [], laidByText := true, laidKinds := [.data, .data, .data, .sentinel], laidTests := true, laidLooks := .later }
def FnExactAccumulatorTextCardSaid : Prop := Claim7.holds Tryd.pinned (.plain (OpenSpec.ofChange fnExactAccumulatorTextSpec)) fnExactAccumulatorTextCard

/-- THE TIED CARD OF 'laws.FnAccumulators'. -/
def fnAccumulatorsCard : Claim7 := { stood := { row := fnAccumulatorsRow, standIns := [], harness := (true, "5decdcb239c0cb7ade1a9b4d3e61e8baefdaa9861a8d6b55850b5da5e95f7769"), looks := true }, kinds := [], alts := [], laidByText := true, laidKinds := [.data, .data, .data, .sentinel], laidTests := true, laidLooks := .later }
def FnAccumulatorsCardSaid : Prop := Claim7.holds Tryd.pinned (.plain (OpenSpec.ofChange fnAccumulatorsSpec)) fnAccumulatorsCard

/-- THE TIED CARD OF 'laws.FnAccumulated'. -/
def fnAccumulatedCard : Claim7 := { stood := { row := fnAccumulatedRow, standIns := [], harness := (true, "5decdcb239c0cb7ade1a9b4d3e61e8baefdaa9861a8d6b55850b5da5e95f7769"), looks := true }, kinds := [], alts := [], laidByText := true, laidKinds := [.sentinel], laidTests := true, laidLooks := .later }
def FnAccumulatedCardSaid : Prop := Claim7.holds Tryd.pinned (.plain (OpenSpec.ofChange fnAccumulatedSpec)) fnAccumulatedCard

/-- THE TIED CARD OF 'laws.FnLevers'. -/
def fnLeversCard : Claim7 := { stood := { row := fnLeversRow, standIns := [], harness := (true, "5decdcb239c0cb7ade1a9b4d3e61e8baefdaa9861a8d6b55850b5da5e95f7769"), looks := true }, kinds := [], alts := [], laidByText := true, laidKinds := [.data, .data, .data, .sentinel, .sentinel, .data], laidTests := true, laidLooks := .later }
def FnLeversCardSaid : Prop := Claim7.holds Tryd.pinned (.plain (OpenSpec.ofChange fnLeversSpec)) fnLeversCard

/-- THE SECOND FORM's CARD OF 'laws.FnExactSetAccumulator'. -/
def fnExactSetAccumulatorUptoCard : Claim7 := { stood := { row := fnExactSetAccumulatorUptoRow, standIns := [], harness := (true, "5decdcb239c0cb7ade1a9b4d3e61e8baefdaa9861a8d6b55850b5da5e95f7769"), looks := true }, kinds := [], alts := [], laidByText := true, laidKinds := [.sentinel], laidTests := true, laidLooks := .later }
def FnExactSetAccumulatorUptoCardSaid : Prop := Claim7.holds Tryd.pinned (.plain (OpenSpec.upto fnExactSetAccumulatorSpec)) fnExactSetAccumulatorUptoCard

/-- THE SECOND FORM's CARD OF 'laws.FnExactNumberOf'. -/
def fnExactNumberOfUptoCard : Claim7 := { stood := { row := fnExactNumberOfUptoRow, standIns := [], harness := (true, "5decdcb239c0cb7ade1a9b4d3e61e8baefdaa9861a8d6b55850b5da5e95f7769"), looks := true }, kinds := [], alts := [], laidByText := true, laidKinds := [.sentinel], laidTests := true, laidLooks := .later }
def FnExactNumberOfUptoCardSaid : Prop := Claim7.holds Tryd.pinned (.plain (OpenSpec.upto fnExactNumberOfSpec)) fnExactNumberOfUptoCard

/-- THE SECOND FORM's CARD OF 'laws.FnExactNegateAccumulator'. -/
def fnExactNegateAccumulatorUptoCard : Claim7 := { stood := { row := fnExactNegateAccumulatorUptoRow, standIns := [], harness := (true, "5decdcb239c0cb7ade1a9b4d3e61e8baefdaa9861a8d6b55850b5da5e95f7769"), looks := true }, kinds := [], alts := [], laidByText := true, laidKinds := [.sentinel], laidTests := true, laidLooks := .later }
def FnExactNegateAccumulatorUptoCardSaid : Prop := Claim7.holds Tryd.pinned (.plain (OpenSpec.upto fnExactNegateAccumulatorSpec)) fnExactNegateAccumulatorUptoCard

/-- THE SECOND FORM's CARD OF 'laws.FnExactAccumulateNumber'. -/
def fnExactAccumulateNumberUptoCard : Claim7 := { stood := { row := fnExactAccumulateNumberUptoRow, standIns := [], harness := (true, "5decdcb239c0cb7ade1a9b4d3e61e8baefdaa9861a8d6b55850b5da5e95f7769"), looks := true }, kinds := [], alts := [], laidByText := true, laidKinds := [.sentinel], laidTests := true, laidLooks := .later }
def FnExactAccumulateNumberUptoCardSaid : Prop := Claim7.holds Tryd.pinned (.plain (OpenSpec.upto fnExactAccumulateNumberSpec)) fnExactAccumulateNumberUptoCard

/-- THE SECOND FORM's CARD OF 'laws.FnExactAccumulateAll'. -/
def fnExactAccumulateAllUptoCard : Claim7 := { stood := { row := fnExactAccumulateAllUptoRow, standIns := [], harness := (true, "5decdcb239c0cb7ade1a9b4d3e61e8baefdaa9861a8d6b55850b5da5e95f7769"), looks := true }, kinds := [], alts := [], laidByText := true, laidKinds := [.sentinel], laidTests := true, laidLooks := .later }
def FnExactAccumulateAllUptoCardSaid : Prop := Claim7.holds Tryd.pinned (.plain (OpenSpec.upto fnExactAccumulateAllSpec)) fnExactAccumulateAllUptoCard

/-- THE SECOND FORM's CARD OF 'laws.FnExactTransferTo'. -/
def fnExactTransferToUptoCard : Claim7 := { stood := { row := fnExactTransferToUptoRow, standIns := [], harness := (true, "5decdcb239c0cb7ade1a9b4d3e61e8baefdaa9861a8d6b55850b5da5e95f7769"), looks := true }, kinds := [], alts := [], laidByText := true, laidKinds := [.sentinel], laidTests := true, laidLooks := .later }
def FnExactTransferToUptoCardSaid : Prop := Claim7.holds Tryd.pinned (.plain (OpenSpec.upto fnExactTransferToSpec)) fnExactTransferToUptoCard

/-- THE SECOND FORM's CARD OF 'laws.FnExactWidenAccumulator'. -/
def fnExactWidenAccumulatorUptoCard : Claim7 := { stood := { row := fnExactWidenAccumulatorUptoRow, standIns := [], harness := (true, "5decdcb239c0cb7ade1a9b4d3e61e8baefdaa9861a8d6b55850b5da5e95f7769"), looks := true }, kinds := [], alts := [], laidByText := true, laidKinds := [.sentinel], laidTests := true, laidLooks := .later }
def FnExactWidenAccumulatorUptoCardSaid : Prop := Claim7.holds Tryd.pinned (.plain (OpenSpec.upto fnExactWidenAccumulatorSpec)) fnExactWidenAccumulatorUptoCard

/-- THE SECOND FORM's CARD OF 'laws.FnExactAccumulatorText'. -/
def fnExactAccumulatorTextUptoCard : Claim7 := { stood := { row := fnExactAccumulatorTextUptoRow, standIns := [], harness := (true, "5decdcb239c0cb7ade1a9b4d3e61e8baefdaa9861a8d6b55850b5da5e95f7769"), looks := true }, kinds := [], alts := [], laidByText := true, laidKinds := [.data, .data, .data, .sentinel], laidTests := true, laidLooks := .later }
def FnExactAccumulatorTextUptoCardSaid : Prop := Claim7.holds Tryd.pinned (.plain (OpenSpec.upto fnExactAccumulatorTextSpec)) fnExactAccumulatorTextUptoCard

/-- THE SECOND FORM's CARD OF 'laws.FnAccumulators'. -/
def fnAccumulatorsUptoCard : Claim7 := { stood := { row := fnAccumulatorsUptoRow, standIns := [], harness := (true, "5decdcb239c0cb7ade1a9b4d3e61e8baefdaa9861a8d6b55850b5da5e95f7769"), looks := true }, kinds := [], alts := [], laidByText := true, laidKinds := [.data, .data, .data, .sentinel], laidTests := true, laidLooks := .later }
def FnAccumulatorsUptoCardSaid : Prop := Claim7.holds Tryd.pinned (.plain (OpenSpec.upto fnAccumulatorsSpec)) fnAccumulatorsUptoCard

/-- THE SECOND FORM's CARD OF 'laws.FnAccumulated'. -/
def fnAccumulatedUptoCard : Claim7 := { stood := { row := fnAccumulatedUptoRow, standIns := [], harness := (true, "5decdcb239c0cb7ade1a9b4d3e61e8baefdaa9861a8d6b55850b5da5e95f7769"), looks := true }, kinds := [], alts := [], laidByText := true, laidKinds := [.sentinel], laidTests := true, laidLooks := .later }
def FnAccumulatedUptoCardSaid : Prop := Claim7.holds Tryd.pinned (.plain (OpenSpec.upto fnAccumulatedSpec)) fnAccumulatedUptoCard

/-- THE SECOND FORM's CARD OF 'laws.FnLevers'. -/
def fnLeversUptoCard : Claim7 := { stood := { row := fnLeversUptoRow, standIns := [], harness := (true, "5decdcb239c0cb7ade1a9b4d3e61e8baefdaa9861a8d6b55850b5da5e95f7769"), looks := true }, kinds := [], alts := [], laidByText := true, laidKinds := [.data, .data, .data, .sentinel, .sentinel, .data], laidTests := true, laidLooks := .later }
def FnLeversUptoCardSaid : Prop := Claim7.holds Tryd.pinned (.plain (OpenSpec.upto fnLeversSpec)) fnLeversUptoCard
end Rows
end Go.Proofs.YtiogbpnnnpodkaaDoor
