/-
  DERIVED. GIVEN WITH THE SEED: THE CARDS: each row of YtfhiialalglefaaDoorRows.lean that lists a variable, with what it lists TIED to the program's text (the seventh form; the later family's looks); each row that meets fmt, with fmt's text TOLD by the authors' own Lean function (tested against real Go, not proved from fmt's source: count such statements apart). THE CARD IS WHAT COUNTS. Prove the row's statement (the work); the ties are given (YtfhiialalglefaaDoorTie.lean); close each card by the builder's one call (the guide's Derived/Test/ToyasCard.lean, 'card_holds'). Laid BY PROGRAM, IN A SANDBOX (cutbox-door.mjs). By AI agents, Wed Nov 11 2026. No macro, syntax, notation, axiom, sorry.
-/
import Derived.Test.YtfhiialalglefaaDoorRows
import GoSem.ClaimSeven
namespace Go.Proofs.YtfhiialalglefaaDoor
namespace Rows

/-- THE TIED CARD OF 'laws.FnRegisters'. -/
def fnRegistersCard : Claim7 := { stood := { row := fnRegistersRow, standIns := [], harness := (true, "d660d958819626101f06a3dd60ab93274539e3b9e0f4944b28bde22c0c5b0c2b"), looks := true }, kinds := [], alts := [], laidByText := true, laidKinds := [.data, .data, .data, .sentinel, .sentinel], laidTests := true, laidLooks := .later }
def FnRegistersCardSaid : Prop := Claim7.holds Tryd.pinned (.plain (OpenSpec.ofChange fnRegistersSpec)) fnRegistersCard

/-- THE TIED CARD OF 'laws.FnExactCodeName'. -/
def fnExactCodeNameCard : Claim7 := { stood := { row := fnExactCodeNameRow, standIns := [], harness := (true, "d660d958819626101f06a3dd60ab93274539e3b9e0f4944b28bde22c0c5b0c2b"), looks := true }, kinds := [], alts := [], laidByText := true, laidKinds := [.data], laidTests := true, laidLooks := .later }
def FnExactCodeNameCardSaid : Prop := Claim7.holds Tryd.pinned (.plain (OpenSpec.ofChange fnExactCodeNameSpec)) fnExactCodeNameCard

/-- THE TIED CARD OF 'laws.FnExactDecimal'. -/
def fnExactDecimalCard : Claim7 := { stood := { row := fnExactDecimalRow, standIns := [], harness := (true, "d660d958819626101f06a3dd60ab93274539e3b9e0f4944b28bde22c0c5b0c2b"), looks := true }, kinds := [], alts := [], laidByText := true, laidKinds := [.data, .data, .data], laidTests := true, laidLooks := .later }
def FnExactDecimalCardSaid : Prop := Claim7.holds Tryd.pinned (.plain (OpenSpec.ofChange fnExactDecimalSpec)) fnExactDecimalCard

/-- THE TIED CARD OF 'laws.FnExactReadDecimal'. -/
def fnExactReadDecimalCard : Claim7 := { stood := { row := fnExactReadDecimalRow, standIns := [], harness := (true, "d660d958819626101f06a3dd60ab93274539e3b9e0f4944b28bde22c0c5b0c2b"), looks := true }, kinds := [], alts := [], laidByText := true, laidKinds := [.data, .data, .data, .sentinel, .sentinel], laidTests := true, laidLooks := .later }
def FnExactReadDecimalCardSaid : Prop := Claim7.holds Tryd.pinned (.plain (OpenSpec.ofChange fnExactReadDecimalSpec)) fnExactReadDecimalCard

/-- THE TIED CARD OF 'laws.FnExactRegisterText'. -/
def fnExactRegisterTextCard : Claim7 := { stood := { row := fnExactRegisterTextRow, standIns := [], harness := (true, "d660d958819626101f06a3dd60ab93274539e3b9e0f4944b28bde22c0c5b0c2b"), looks := true }, kinds := [], alts := [], laidByText := true, laidKinds := [.data, .data, .data], laidTests := true, laidLooks := .later }
def FnExactRegisterTextCardSaid : Prop := Claim7.holds Tryd.pinned (.plain (OpenSpec.ofChange fnExactRegisterTextSpec)) fnExactRegisterTextCard

/-- THE TIED CARD OF 'laws.FnExactReadRegister'. -/
def fnExactReadRegisterCard : Claim7 := { stood := { row := fnExactReadRegisterRow, standIns := [], harness := (true, "d660d958819626101f06a3dd60ab93274539e3b9e0f4944b28bde22c0c5b0c2b"), looks := true }, kinds := [], alts := [], laidByText := true, laidKinds := [.data, .data, .data, .sentinel, .sentinel], laidTests := true, laidLooks := .later }
def FnExactReadRegisterCardSaid : Prop := Claim7.holds Tryd.pinned (.plain (OpenSpec.ofChange fnExactReadRegisterSpec)) fnExactReadRegisterCard

/-- THE SECOND FORM's CARD OF 'laws.FnRegisters'. -/
def fnRegistersUptoCard : Claim7 := { stood := { row := fnRegistersUptoRow, standIns := [], harness := (true, "d660d958819626101f06a3dd60ab93274539e3b9e0f4944b28bde22c0c5b0c2b"), looks := true }, kinds := [], alts := [], laidByText := true, laidKinds := [.data, .data, .data, .sentinel, .sentinel], laidTests := true, laidLooks := .later }
def FnRegistersUptoCardSaid : Prop := Claim7.holds Tryd.pinned (.plain (OpenSpec.upto fnRegistersSpec)) fnRegistersUptoCard

/-- THE SECOND FORM's CARD OF 'laws.FnExactCodeName'. -/
def fnExactCodeNameUptoCard : Claim7 := { stood := { row := fnExactCodeNameUptoRow, standIns := [], harness := (true, "d660d958819626101f06a3dd60ab93274539e3b9e0f4944b28bde22c0c5b0c2b"), looks := true }, kinds := [], alts := [], laidByText := true, laidKinds := [.data], laidTests := true, laidLooks := .later }
def FnExactCodeNameUptoCardSaid : Prop := Claim7.holds Tryd.pinned (.plain (OpenSpec.upto fnExactCodeNameSpec)) fnExactCodeNameUptoCard

/-- THE SECOND FORM's CARD OF 'laws.FnExactDecimal'. -/
def fnExactDecimalUptoCard : Claim7 := { stood := { row := fnExactDecimalUptoRow, standIns := [], harness := (true, "d660d958819626101f06a3dd60ab93274539e3b9e0f4944b28bde22c0c5b0c2b"), looks := true }, kinds := [], alts := [], laidByText := true, laidKinds := [.data, .data, .data], laidTests := true, laidLooks := .later }
def FnExactDecimalUptoCardSaid : Prop := Claim7.holds Tryd.pinned (.plain (OpenSpec.upto fnExactDecimalSpec)) fnExactDecimalUptoCard

/-- THE SECOND FORM's CARD OF 'laws.FnExactReadDecimal'. -/
def fnExactReadDecimalUptoCard : Claim7 := { stood := { row := fnExactReadDecimalUptoRow, standIns := [], harness := (true, "d660d958819626101f06a3dd60ab93274539e3b9e0f4944b28bde22c0c5b0c2b"), looks := true }, kinds := [], alts := [], laidByText := true, laidKinds := [.data, .data, .data, .sentinel, .sentinel], laidTests := true, laidLooks := .later }
def FnExactReadDecimalUptoCardSaid : Prop := Claim7.holds Tryd.pinned (.plain (OpenSpec.upto fnExactReadDecimalSpec)) fnExactReadDecimalUptoCard

/-- THE SECOND FORM's CARD OF 'laws.FnExactRegisterText'. -/
def fnExactRegisterTextUptoCard : Claim7 := { stood := { row := fnExactRegisterTextUptoRow, standIns := [], harness := (true, "d660d958819626101f06a3dd60ab93274539e3b9e0f4944b28bde22c0c5b0c2b"), looks := true }, kinds := [], alts := [], laidByText := true, laidKinds := [.data, .data, .data], laidTests := true, laidLooks := .later }
def FnExactRegisterTextUptoCardSaid : Prop := Claim7.holds Tryd.pinned (.plain (OpenSpec.upto fnExactRegisterTextSpec)) fnExactRegisterTextUptoCard

/-- THE SECOND FORM's CARD OF 'laws.FnExactReadRegister'. -/
def fnExactReadRegisterUptoCard : Claim7 := { stood := { row := fnExactReadRegisterUptoRow, standIns := [], harness := (true, "d660d958819626101f06a3dd60ab93274539e3b9e0f4944b28bde22c0c5b0c2b"), looks := true }, kinds := [], alts := [], laidByText := true, laidKinds := [.data, .data, .data, .sentinel, .sentinel], laidTests := true, laidLooks := .later }
def FnExactReadRegisterUptoCardSaid : Prop := Claim7.holds Tryd.pinned (.plain (OpenSpec.upto fnExactReadRegisterSpec)) fnExactReadRegisterUptoCard
end Rows
end Go.Proofs.YtfhiialalglefaaDoor
