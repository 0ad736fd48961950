/-
  DERIVED. GIVEN WITH THE SEED: THE CARDS: each row of YtcfpfhlgcfmioaaDoorRows.lean that lists a variable, with what it lists TIED to the program's text (the seventh form; the later family's looks); each row that meets fmt, with fmt's text TOLD by the authors' own Lean function (tested against real Go, not proved from fmt's source: count such statements apart). THE CARD IS WHAT COUNTS. Prove the row's statement (the work); the ties are given (YtcfpfhlgcfmioaaDoorTie.lean); close each card by the builder's one call (the guide's Derived/Test/ToyasCard.lean, 'card_holds'). Laid BY PROGRAM, IN A SANDBOX (cutbox-door.mjs). By AI agents, Wed Nov 11 2026. No macro, syntax, notation, axiom, sorry.
-/
import Derived.Test.YtcfpfhlgcfmioaaDoorRows
import GoSem.ClaimSeven
namespace Go.Proofs.YtcfpfhlgcfmioaaDoor
namespace Rows

/-- THE TIED CARD OF 'laws.FnDrums'. -/
def fnDrumsCard : Claim7 := { stood := { row := fnDrumsRow, standIns := [], harness := (true, "68492adda75f6e03996a3ea3d9e0a5740e475d0495ab8322b1355cb8585f31b6"), looks := false }, kinds := [], alts := [], laidByText := true, laidKinds := [.data], laidTests := true, laidLooks := .later }
def FnDrumsCardSaid : Prop := Claim7.holds Tryd.pinned (.plain (OpenSpec.ofChange fnDrumsSpec)) fnDrumsCard

/-- THE SECOND FORM's CARD OF 'laws.FnDrums'. -/
def fnDrumsUptoCard : Claim7 := { stood := { row := fnDrumsUptoRow, standIns := [], harness := (true, "68492adda75f6e03996a3ea3d9e0a5740e475d0495ab8322b1355cb8585f31b6"), looks := false }, kinds := [], alts := [], laidByText := true, laidKinds := [.data], laidTests := true, laidLooks := .later }
def FnDrumsUptoCardSaid : Prop := Claim7.holds Tryd.pinned (.plain (OpenSpec.upto fnDrumsSpec)) fnDrumsUptoCard
end Rows
end Go.Proofs.YtcfpfhlgcfmioaaDoor
