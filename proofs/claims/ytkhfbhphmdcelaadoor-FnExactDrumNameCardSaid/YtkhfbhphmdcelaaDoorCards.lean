/-
  DERIVED. GIVEN WITH THE SEED: THE CARDS: each row of YtkhfbhphmdcelaaDoorRows.lean that lists a variable, with what it lists TIED to the program's text (the seventh form; the later family's looks); each row that meets fmt, with fmt's text TOLD by the authors' own Lean function (tested against real Go, not proved from fmt's source: count such statements apart). THE CARD IS WHAT COUNTS. Prove the row's statement (the work); the ties are given (YtkhfbhphmdcelaaDoorTie.lean); close each card by the builder's one call (the guide's Derived/Test/ToyasCard.lean, 'card_holds'). Laid BY PROGRAM, IN A SANDBOX (cutbox-door.mjs). By AI agents, Wed Nov 11 2026. No macro, syntax, notation, axiom, sorry.
-/
import Derived.Test.YtkhfbhphmdcelaaDoorRows
import GoSem.ClaimSeven
namespace Go.Proofs.YtkhfbhphmdcelaaDoor
namespace Rows

/-- THE TIED CARD OF 'laws.FnDrums'. -/
def fnDrumsCard : Claim7 := { stood := { row := fnDrumsRow, standIns := [], harness := (true, "27022b9607d34cf2b9d8175f9e7a5c7fda6ed0f812f7071b470aff53793f2fdc"), looks := false }, kinds := [], alts := [], laidByText := true, laidKinds := [.data], laidTests := true, laidLooks := .later }
def FnDrumsCardSaid : Prop := Claim7.holds Tryd.pinned (.plain (OpenSpec.ofChange fnDrumsSpec)) fnDrumsCard

/-- THE TIED CARD OF 'laws.FnExactDrumName'. -/
def fnExactDrumNameCard : Claim7 := { stood := { row := fnExactDrumNameRow, standIns := [], harness := (true, "27022b9607d34cf2b9d8175f9e7a5c7fda6ed0f812f7071b470aff53793f2fdc"), looks := false }, kinds := [], alts := [], laidByText := true, laidKinds := [.data], laidTests := true, laidLooks := .later }
def FnExactDrumNameCardSaid : Prop := Claim7.holds Tryd.pinned (.plain (OpenSpec.ofChange fnExactDrumNameSpec)) fnExactDrumNameCard

/-- THE SECOND FORM's CARD OF 'laws.FnDrums'. -/
def fnDrumsUptoCard : Claim7 := { stood := { row := fnDrumsUptoRow, standIns := [], harness := (true, "27022b9607d34cf2b9d8175f9e7a5c7fda6ed0f812f7071b470aff53793f2fdc"), looks := false }, kinds := [], alts := [], laidByText := true, laidKinds := [.data], laidTests := true, laidLooks := .later }
def FnDrumsUptoCardSaid : Prop := Claim7.holds Tryd.pinned (.plain (OpenSpec.upto fnDrumsSpec)) fnDrumsUptoCard

/-- THE SECOND FORM's CARD OF 'laws.FnExactDrumName'. -/
def fnExactDrumNameUptoCard : Claim7 := { stood := { row := fnExactDrumNameUptoRow, standIns := [], harness := (true, "27022b9607d34cf2b9d8175f9e7a5c7fda6ed0f812f7071b470aff53793f2fdc"), looks := false }, kinds := [], alts := [], laidByText := true, laidKinds := [.data], laidTests := true, laidLooks := .later }
def FnExactDrumNameUptoCardSaid : Prop := Claim7.holds Tryd.pinned (.plain (OpenSpec.upto fnExactDrumNameSpec)) fnExactDrumNameUptoCard
end Rows
end Go.Proofs.YtkhfbhphmdcelaaDoor
