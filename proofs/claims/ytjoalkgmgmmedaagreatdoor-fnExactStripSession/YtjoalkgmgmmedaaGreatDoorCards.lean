/-
  DERIVED. GIVEN WITH THE SEED: THE CARDS: each row of YtjoalkgmgmmedaaGreatDoorRows.lean that lists a variable, with what it lists TIED to the program's text (the seventh form; the later family's looks); each row that meets fmt, with fmt's text TOLD by the authors' own Lean function (tested against real Go, not proved from fmt's source: count such statements apart). THE CARD IS WHAT COUNTS. Prove the row's statement (the work); the ties are given (YtjoalkgmgmmedaaGreatDoorTie.lean); close each card by the builder's one call (the guide's Derived/Test/ToyasCard.lean, 'card_holds'). Laid BY PROGRAM, IN A SANDBOX (cutbox-door.mjs). By AI agents, Wed Nov 11 2026. No macro, syntax, notation, axiom, sorry.
-/
import Derived.Test.YtjoalkgmgmmedaaGreatDoorRows
import GoSem.ClaimSeven
namespace Go.Proofs.YtjoalkgmgmmedaaGreatDoor
namespace Rows

/-- THE TIED CARD OF 'laws.FnExactStripSession'. -/
def fnExactStripSessionCard : Claim7 := { stood := { row := fnExactStripSessionRow, standIns := [], harness := (true, "e8de19f6ce5a0a6d84ff79b01805991df50d2e98e7eeae20b41511334ffce5c8"), looks := true }, kinds := [], alts := [], goes := true, laidByText := true, laidKinds := [.data, .data, .data, .data, .handle, .sentinel, .sentinel, .pinned], laidTests := true, laidLooks := .later }
def FnExactStripSessionCardSaid : Prop := Claim7.holds Tryz.pinned (.plain (OpenSpec.ofChange fnExactStripSessionSpec)) fnExactStripSessionCard

/-- THE SECOND FORM's CARD OF 'laws.FnExactStripSession'. -/
def fnExactStripSessionUptoCard : Claim7 := { stood := { row := fnExactStripSessionUptoRow, standIns := [], harness := (true, "e8de19f6ce5a0a6d84ff79b01805991df50d2e98e7eeae20b41511334ffce5c8"), looks := true }, kinds := [], alts := [], goes := true, laidByText := true, laidKinds := [.data, .data, .data, .data, .handle, .sentinel, .sentinel, .pinned], laidTests := true, laidLooks := .later }
def FnExactStripSessionUptoCardSaid : Prop := Claim7.holds Tryz.pinned (.plain (OpenSpec.upto fnExactStripSessionSpec)) fnExactStripSessionUptoCard
end Rows
end Go.Proofs.YtjoalkgmgmmedaaGreatDoor
