/-
  DERIVED. GIVEN WITH THE SEED: THE CARDS: each row of YtlahobdopmdfmaaDoorRows.lean that lists a variable, with what it lists TIED to the program's text (the seventh form; the later family's looks); each row that meets fmt, with fmt's text TOLD by the authors' own Lean function (tested against real Go, not proved from fmt's source: count such statements apart). THE CARD IS WHAT COUNTS. Prove the row's statement (the work); the ties are given (YtlahobdopmdfmaaDoorTie.lean); close each card by the builder's one call (the guide's Derived/Test/ToyasCard.lean, 'card_holds'). Laid BY PROGRAM, IN A SANDBOX (cutbox-door.mjs). By AI agents, Wed Nov 11 2026. No macro, syntax, notation, axiom, sorry.
-/
import Derived.Test.YtlahobdopmdfmaaDoorRows
import GoSem.ClaimSeven
namespace Go.Proofs.YtlahobdopmdfmaaDoor
namespace Rows

/-- THE TIED CARD OF 'laws.FnCounted'. -/
def fnCountedCard : Claim7 := { stood := { row := fnCountedRow, standIns := [], harness := (true, "ec655d68bd83ee750dda8ab1bd41c2789a9eb6bdf7c44e01156a152df2f96c04"), looks := true }, kinds := [], alts := [], laidByText := true, laidKinds := [.sentinel], laidTests := true, laidLooks := .later }
def FnCountedCardSaid : Prop := Claim7.holds Tryd.pinned (.plain (OpenSpec.ofChange fnCountedSpec)) fnCountedCard

/-- THE TIED CARD OF 'laws.FnAccumulators'. -/
def fnAccumulatorsCard : Claim7 := { stood := { row := fnAccumulatorsRow, standIns := [], harness := (true, "ec655d68bd83ee750dda8ab1bd41c2789a9eb6bdf7c44e01156a152df2f96c04"), looks := true }, kinds := [], alts := [], laidByText := true, laidKinds := [.data, .data, .data, .sentinel], laidTests := true, laidLooks := .later }
def FnAccumulatorsCardSaid : Prop := Claim7.holds Tryd.pinned (.plain (OpenSpec.ofChange fnAccumulatorsSpec)) fnAccumulatorsCard

/-- THE TIED CARD OF 'laws.FnAccumulated'. -/
def fnAccumulatedCard : Claim7 := { stood := { row := fnAccumulatedRow, standIns := [], harness := (true, "ec655d68bd83ee750dda8ab1bd41c2789a9eb6bdf7c44e01156a152df2f96c04"), looks := true }, kinds := [], alts := [], laidByText := true, laidKinds := [.sentinel], laidTests := true, laidLooks := .later }
def FnAccumulatedCardSaid : Prop := Claim7.holds Tryd.pinned (.plain (OpenSpec.ofChange fnAccumulatedSpec)) fnAccumulatedCard

/-- THE TIED CARD OF 'laws.FnExactNewMachine'. -/
def fnExactNewMachineCard : Claim7 := { stood := { row := fnExactNewMachineRow, standIns := [], harness := (true, "ec655d68bd83ee750dda8ab1bd41c2789a9eb6bdf7c44e01156a152df2f96c04"), looks := true }, kinds := [], alts := [], laidByText := true, laidKinds := [.sentinel], laidTests := true, laidLooks := .later }
def FnExactNewMachineCardSaid : Prop := Claim7.holds Tryd.pinned (.plain (OpenSpec.ofChange fnExactNewMachineSpec)) fnExactNewMachineCard

/-- THE TIED CARD OF 'laws.FnExactValidMachine'. -/
def fnExactValidMachineCard : Claim7 := { stood := { row := fnExactValidMachineRow, standIns := [], harness := (true, "ec655d68bd83ee750dda8ab1bd41c2789a9eb6bdf7c44e01156a152df2f96c04"), looks := true }, kinds := [], alts := [], laidByText := true, laidKinds := [.sentinel], laidTests := true, laidLooks := .later }
def FnExactValidMachineCardSaid : Prop := Claim7.holds Tryd.pinned (.plain (OpenSpec.ofChange fnExactValidMachineSpec)) fnExactValidMachineCard

/-- THE TIED CARD OF 'laws.FnExactSetValue'. -/
def fnExactSetValueCard : Claim7 := { stood := { row := fnExactSetValueRow, standIns := [], harness := (true, "ec655d68bd83ee750dda8ab1bd41c2789a9eb6bdf7c44e01156a152df2f96c04"), looks := true }, kinds := [], alts := [], laidByText := true, laidKinds := [.sentinel], laidTests := true, laidLooks := .later }
def FnExactSetValueCardSaid : Prop := Claim7.holds Tryd.pinned (.plain (OpenSpec.ofChange fnExactSetValueSpec)) fnExactSetValueCard

/-- THE TIED CARD OF 'laws.FnExactSetDigit'. -/
def fnExactSetDigitCard : Claim7 := { stood := { row := fnExactSetDigitRow, standIns := [], harness := (true, "ec655d68bd83ee750dda8ab1bd41c2789a9eb6bdf7c44e01156a152df2f96c04"), looks := true }, kinds := [], alts := [], laidByText := true, laidKinds := [.sentinel], laidTests := true, laidLooks := .later }
def FnExactSetDigitCardSaid : Prop := Claim7.holds Tryd.pinned (.plain (OpenSpec.ofChange fnExactSetDigitSpec)) fnExactSetDigitCard

/-- THE TIED CARD OF 'laws.FnExactDoStroke'. -/
def fnExactDoStrokeCard : Claim7 := { stood := { row := fnExactDoStrokeRow, standIns := [], harness := (true, "ec655d68bd83ee750dda8ab1bd41c2789a9eb6bdf7c44e01156a152df2f96c04"), looks := true }, kinds := [], alts := [], laidByText := true, laidKinds := [.sentinel], laidTests := true, laidLooks := .later }
def FnExactDoStrokeCardSaid : Prop := Claim7.holds Tryd.pinned (.plain (OpenSpec.ofChange fnExactDoStrokeSpec)) fnExactDoStrokeCard

/-- THE TIED CARD OF 'laws.FnExactDoStrokes'. -/
def fnExactDoStrokesCard : Claim7 := { stood := { row := fnExactDoStrokesRow, standIns := [], harness := (true, "ec655d68bd83ee750dda8ab1bd41c2789a9eb6bdf7c44e01156a152df2f96c04"), looks := true }, kinds := [], alts := [], laidByText := true, laidKinds := [.sentinel], laidTests := true, laidLooks := .later }
def FnExactDoStrokesCardSaid : Prop := Claim7.holds Tryd.pinned (.plain (OpenSpec.ofChange fnExactDoStrokesSpec)) fnExactDoStrokesCard

/-- THE TIED CARD OF 'laws.FnExactPlacesOf'. -/
def fnExactPlacesOfCard : Claim7 := { stood := { row := fnExactPlacesOfRow, standIns := [], harness := (true, "ec655d68bd83ee750dda8ab1bd41c2789a9eb6bdf7c44e01156a152df2f96c04"), looks := true }, kinds := [], alts := [], laidByText := true, laidKinds := [.sentinel], laidTests := true, laidLooks := .later }
def FnExactPlacesOfCardSaid : Prop := Claim7.holds Tryd.pinned (.plain (OpenSpec.ofChange fnExactPlacesOfSpec)) fnExactPlacesOfCard

/-- THE TIED CARD OF 'laws.FnExactMachineText'. -/
def fnExactMachineTextCard : Claim7 := { stood := { row := fnExactMachineTextRow, standIns := [], harness := (true, "ec655d68bd83ee750dda8ab1bd41c2789a9eb6bdf7c44e01156a152df2f96c04"), looks := true }, kinds := [], alts := [], laidByText := true, laidKinds := [.data, .data, .data, .sentinel], laidTests := true, laidLooks := .later }
def FnExactMachineTextCardSaid : Prop := Claim7.holds Tryd.pinned (.plain (OpenSpec.ofChange fnExactMachineTextSpec)) fnExactMachineTextCard

/-- THE TIED CARD OF 'laws.FnExactStrokeName'. -/
def fnExactStrokeNameCard : Claim7 := { stood := { row := fnExactStrokeNameRow, standIns := [], harness := (true, "ec655d68bd83ee750dda8ab1bd41c2789a9eb6bdf7c44e01156a152df2f96c04"), looks := true }, kinds := [], alts := [], laidByText := true, laidKinds := [.data], laidTests := true, laidLooks := .later }
def FnExactStrokeNameCardSaid : Prop := Claim7.holds Tryd.pinned (.plain (OpenSpec.ofChange fnExactStrokeNameSpec)) fnExactStrokeNameCard

/-- THE TIED CARD OF 'laws.FnExactTransferTo'. -/
def fnExactTransferToCard : Claim7 := { stood := { row := fnExactTransferToRow, standIns := [], harness := (true, "ec655d68bd83ee750dda8ab1bd41c2789a9eb6bdf7c44e01156a152df2f96c04"), looks := true }, kinds := [], alts := [], laidByText := true, laidKinds := [.sentinel], laidTests := true, laidLooks := .later }
def FnExactTransferToCardSaid : Prop := Claim7.holds Tryd.pinned (.plain (OpenSpec.ofChange fnExactTransferToSpec)) fnExactTransferToCard

/-- THE SECOND FORM's CARD OF 'laws.FnCounted'. -/
def fnCountedUptoCard : Claim7 := { stood := { row := fnCountedUptoRow, standIns := [], harness := (true, "ec655d68bd83ee750dda8ab1bd41c2789a9eb6bdf7c44e01156a152df2f96c04"), looks := true }, kinds := [], alts := [], laidByText := true, laidKinds := [.sentinel], laidTests := true, laidLooks := .later }
def FnCountedUptoCardSaid : Prop := Claim7.holds Tryd.pinned (.plain (OpenSpec.upto fnCountedSpec)) fnCountedUptoCard

/-- THE SECOND FORM's CARD OF 'laws.FnAccumulators'. -/
def fnAccumulatorsUptoCard : Claim7 := { stood := { row := fnAccumulatorsUptoRow, standIns := [], harness := (true, "ec655d68bd83ee750dda8ab1bd41c2789a9eb6bdf7c44e01156a152df2f96c04"), looks := true }, kinds := [], alts := [], laidByText := true, laidKinds := [.data, .data, .data, .sentinel], laidTests := true, laidLooks := .later }
def FnAccumulatorsUptoCardSaid : Prop := Claim7.holds Tryd.pinned (.plain (OpenSpec.upto fnAccumulatorsSpec)) fnAccumulatorsUptoCard

/-- THE SECOND FORM's CARD OF 'laws.FnAccumulated'. -/
def fnAccumulatedUptoCard : Claim7 := { stood := { row := fnAccumulatedUptoRow, standIns := [], harness := (true, "ec655d68bd83ee750dda8ab1bd41c2789a9eb6bdf7c44e01156a152df2f96c04"), looks := true }, kinds := [], alts := [], laidByText := true, laidKinds := [.sentinel], laidTests := true, laidLooks := .later }
def FnAccumulatedUptoCardSaid : Prop := Claim7.holds Tryd.pinned (.plain (OpenSpec.upto fnAccumulatedSpec)) fnAccumulatedUptoCard

/-- THE SECOND FORM's CARD OF 'laws.FnExactNewMachine'. -/
def fnExactNewMachineUptoCard : Claim7 := { stood := { row := fnExactNewMachineUptoRow, standIns := [], harness := (true, "ec655d68bd83ee750dda8ab1bd41c2789a9eb6bdf7c44e01156a152df2f96c04"), looks := true }, kinds := [], alts := [], laidByText := true, laidKinds := [.sentinel], laidTests := true, laidLooks := .later }
def FnExactNewMachineUptoCardSaid : Prop := Claim7.holds Tryd.pinned (.plain (OpenSpec.upto fnExactNewMachineSpec)) fnExactNewMachineUptoCard

/-- THE SECOND FORM's CARD OF 'laws.FnExactValidMachine'. -/
def fnExactValidMachineUptoCard : Claim7 := { stood := { row := fnExactValidMachineUptoRow, standIns := [], harness := (true, "ec655d68bd83ee750dda8ab1bd41c2789a9eb6bdf7c44e01156a152df2f96c04"), looks := true }, kinds := [], alts := [], laidByText := true, laidKinds := [.sentinel], laidTests := true, laidLooks := .later }
def FnExactValidMachineUptoCardSaid : Prop := Claim7.holds Tryd.pinned (.plain (OpenSpec.upto fnExactValidMachineSpec)) fnExactValidMachineUptoCard

/-- THE SECOND FORM's CARD OF 'laws.FnExactSetValue'. -/
def fnExactSetValueUptoCard : Claim7 := { stood := { row := fnExactSetValueUptoRow, standIns := [], harness := (true, "ec655d68bd83ee750dda8ab1bd41c2789a9eb6bdf7c44e01156a152df2f96c04"), looks := true }, kinds := [], alts := [], laidByText := true, laidKinds := [.sentinel], laidTests := true, laidLooks := .later }
def FnExactSetValueUptoCardSaid : Prop := Claim7.holds Tryd.pinned (.plain (OpenSpec.upto fnExactSetValueSpec)) fnExactSetValueUptoCard

/-- THE SECOND FORM's CARD OF 'laws.FnExactSetDigit'. -/
def fnExactSetDigitUptoCard : Claim7 := { stood := { row := fnExactSetDigitUptoRow, standIns := [], harness := (true, "ec655d68bd83ee750dda8ab1bd41c2789a9eb6bdf7c44e01156a152df2f96c04"), looks := true }, kinds := [], alts := [], laidByText := true, laidKinds := [.sentinel], laidTests := true, laidLooks := .later }
def FnExactSetDigitUptoCardSaid : Prop := Claim7.holds Tryd.pinned (.plain (OpenSpec.upto fnExactSetDigitSpec)) fnExactSetDigitUptoCard

/-- THE SECOND FORM's CARD OF 'laws.FnExactDoStroke'. -/
def fnExactDoStrokeUptoCard : Claim7 := { stood := { row := fnExactDoStrokeUptoRow, standIns := [], harness := (true, "ec655d68bd83ee750dda8ab1bd41c2789a9eb6bdf7c44e01156a152df2f96c04"), looks := true }, kinds := [], alts := [], laidByText := true, laidKinds := [.sentinel], laidTests := true, laidLooks := .later }
def FnExactDoStrokeUptoCardSaid : Prop := Claim7.holds Tryd.pinned (.plain (OpenSpec.upto fnExactDoStrokeSpec)) fnExactDoStrokeUptoCard

/-- THE SECOND FORM's CARD OF 'laws.FnExactDoStrokes'. -/
def fnExactDoStrokesUptoCard : Claim7 := { stood := { row := fnExactDoStrokesUptoRow, standIns := [], harness := (true, "ec655d68bd83ee750dda8ab1bd41c2789a9eb6bdf7c44e01156a152df2f96c04"), looks := true }, kinds := [], alts := [], laidByText := true, laidKinds := [.sentinel], laidTests := true, laidLooks := .later }
def FnExactDoStrokesUptoCardSaid : Prop := Claim7.holds Tryd.pinned (.plain (OpenSpec.upto fnExactDoStrokesSpec)) fnExactDoStrokesUptoCard

/-- THE SECOND FORM's CARD OF 'laws.FnExactPlacesOf'. -/
def fnExactPlacesOfUptoCard : Claim7 := { stood := { row := fnExactPlacesOfUptoRow, standIns := [], harness := (true, "ec655d68bd83ee750dda8ab1bd41c2789a9eb6bdf7c44e01156a152df2f96c04"), looks := true }, kinds := [], alts := [], laidByText := true, laidKinds := [.sentinel], laidTests := true, laidLooks := .later }
def FnExactPlacesOfUptoCardSaid : Prop := Claim7.holds Tryd.pinned (.plain (OpenSpec.upto fnExactPlacesOfSpec)) fnExactPlacesOfUptoCard

/-- THE SECOND FORM's CARD OF 'laws.FnExactMachineText'. -/
def fnExactMachineTextUptoCard : Claim7 := { stood := { row := fnExactMachineTextUptoRow, standIns := [], harness := (true, "ec655d68bd83ee750dda8ab1bd41c2789a9eb6bdf7c44e01156a152df2f96c04"), looks := true }, kinds := [], alts := [], laidByText := true, laidKinds := [.data, .data, .data, .sentinel], laidTests := true, laidLooks := .later }
def FnExactMachineTextUptoCardSaid : Prop := Claim7.holds Tryd.pinned (.plain (OpenSpec.upto fnExactMachineTextSpec)) fnExactMachineTextUptoCard

/-- THE SECOND FORM's CARD OF 'laws.FnExactStrokeName'. -/
def fnExactStrokeNameUptoCard : Claim7 := { stood := { row := fnExactStrokeNameUptoRow, standIns := [], harness := (true, "ec655d68bd83ee750dda8ab1bd41c2789a9eb6bdf7c44e01156a152df2f96c04"), looks := true }, kinds := [], alts := [], laidByText := true, laidKinds := [.data], laidTests := true, laidLooks := .later }
def FnExactStrokeNameUptoCardSaid : Prop := Claim7.holds Tryd.pinned (.plain (OpenSpec.upto fnExactStrokeNameSpec)) fnExactStrokeNameUptoCard

/-- THE SECOND FORM's CARD OF 'laws.FnExactTransferTo'. -/
def fnExactTransferToUptoCard : Claim7 := { stood := { row := fnExactTransferToUptoRow, standIns := [], harness := (true, "ec655d68bd83ee750dda8ab1bd41c2789a9eb6bdf7c44e01156a152df2f96c04"), looks := true }, kinds := [], alts := [], laidByText := true, laidKinds := [.sentinel], laidTests := true, laidLooks := .later }
def FnExactTransferToUptoCardSaid : Prop := Claim7.holds Tryd.pinned (.plain (OpenSpec.upto fnExactTransferToSpec)) fnExactTransferToUptoCard
end Rows
end Go.Proofs.YtlahobdopmdfmaaDoor
