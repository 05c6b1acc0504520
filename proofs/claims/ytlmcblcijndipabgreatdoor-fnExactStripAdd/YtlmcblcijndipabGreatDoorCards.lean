/-
  DERIVED. GIVEN WITH THE SEED: THE CARDS: each row of YtlmcblcijndipabGreatDoorRows.lean that lists a variable, with what it lists TIED to the program's text (the seventh form; the later family's looks); each row that meets fmt, with fmt's text TOLD by the authors' own Lean function (tested against real Go, not proved from fmt's source: count such statements apart). THE CARD IS WHAT COUNTS. Prove the row's statement (the work); the ties are given (YtlmcblcijndipabGreatDoorTie.lean); close each card by the builder's one call (the guide's Derived/Test/ToyasCard.lean, 'card_holds'). Laid BY PROGRAM, IN A SANDBOX (cutbox-door.mjs). By AI agents, Wed Nov 11 2026. No macro, syntax, notation, axiom, sorry.
-/
import Derived.Test.YtlmcblcijndipabGreatDoorRows
import GoSem.ClaimSeven
namespace Go.Proofs.YtlmcblcijndipabGreatDoor
namespace Rows

/-- THE TIED CARD OF 'laws.FnExactStripAdd'. -/
def fnExactStripAddCard : Claim7 := { stood := { row := fnExactStripAddRow, standIns := [], harness := (true, "3e5b8158e5e0cb65335c7e50dd687e422b09b235d6d8bb65e95f82e30d25c5d3"), looks := true }, kinds := [], alts := [], goes := true, laidByText := true, laidKinds := [.handle], laidTests := true, laidLooks := .later }
def FnExactStripAddCardSaid : Prop := Claim7.holds Tryz.pinned (.plain (OpenSpec.ofChange fnExactStripAddSpec)) fnExactStripAddCard

/-- THE TIED CARD OF 'laws.FnExactStripDrop'. -/
def fnExactStripDropCard : Claim7 := { stood := { row := fnExactStripDropRow, standIns := [], harness := (true, "3e5b8158e5e0cb65335c7e50dd687e422b09b235d6d8bb65e95f82e30d25c5d3"), looks := true }, kinds := [], alts := [], goes := true, laidByText := true, laidKinds := [.handle], laidTests := true, laidLooks := .later }
def FnExactStripDropCardSaid : Prop := Claim7.holds Tryz.pinned (.plain (OpenSpec.ofChange fnExactStripDropSpec)) fnExactStripDropCard

/-- THE TIED CARD OF 'laws.FnExactStripRound'. -/
def fnExactStripRoundCard : Claim7 := { stood := { row := fnExactStripRoundRow, standIns := [], harness := (true, "3e5b8158e5e0cb65335c7e50dd687e422b09b235d6d8bb65e95f82e30d25c5d3"), looks := true }, kinds := [], alts := [], goes := true, laidByText := true, laidKinds := [.handle], laidTests := true, laidLooks := .later }
def FnExactStripRoundCardSaid : Prop := Claim7.holds Tryz.pinned (.plain (OpenSpec.ofChange fnExactStripRoundSpec)) fnExactStripRoundCard

/-- THE TIED CARD OF 'laws.FnExactStripTick'. -/
def fnExactStripTickCard : Claim7 := { stood := { row := fnExactStripTickRow, standIns := [], harness := (true, "3e5b8158e5e0cb65335c7e50dd687e422b09b235d6d8bb65e95f82e30d25c5d3"), looks := true }, kinds := [], alts := [], goes := true, laidByText := true, laidKinds := [.handle], laidTests := true, laidLooks := .later }
def FnExactStripTickCardSaid : Prop := Claim7.holds Tryz.pinned (.plain (OpenSpec.ofChange fnExactStripTickSpec)) fnExactStripTickCard

/-- THE TIED CARD OF 'laws.FnExactStripSession'. -/
def fnExactStripSessionCard : Claim7 := { stood := { row := fnExactStripSessionRow, standIns := [], harness := (true, "3e5b8158e5e0cb65335c7e50dd687e422b09b235d6d8bb65e95f82e30d25c5d3"), looks := true }, kinds := [], alts := [], goes := true, laidByText := true, laidKinds := [.data, .data, .data, .data, .handle, .sentinel, .sentinel, .pinned], laidTests := true, laidLooks := .later }
def FnExactStripSessionCardSaid : Prop := Claim7.holds Tryz.pinned (.plain (OpenSpec.ofChange fnExactStripSessionSpec)) fnExactStripSessionCard

/-- THE SECOND FORM's CARD OF 'laws.FnExactStripAdd'. -/
def fnExactStripAddUptoCard : Claim7 := { stood := { row := fnExactStripAddUptoRow, standIns := [], harness := (true, "3e5b8158e5e0cb65335c7e50dd687e422b09b235d6d8bb65e95f82e30d25c5d3"), looks := true }, kinds := [], alts := [], goes := true, laidByText := true, laidKinds := [.handle], laidTests := true, laidLooks := .later }
def FnExactStripAddUptoCardSaid : Prop := Claim7.holds Tryz.pinned (.plain (OpenSpec.upto fnExactStripAddSpec)) fnExactStripAddUptoCard

/-- THE SECOND FORM's CARD OF 'laws.FnExactStripDrop'. -/
def fnExactStripDropUptoCard : Claim7 := { stood := { row := fnExactStripDropUptoRow, standIns := [], harness := (true, "3e5b8158e5e0cb65335c7e50dd687e422b09b235d6d8bb65e95f82e30d25c5d3"), looks := true }, kinds := [], alts := [], goes := true, laidByText := true, laidKinds := [.handle], laidTests := true, laidLooks := .later }
def FnExactStripDropUptoCardSaid : Prop := Claim7.holds Tryz.pinned (.plain (OpenSpec.upto fnExactStripDropSpec)) fnExactStripDropUptoCard

/-- THE SECOND FORM's CARD OF 'laws.FnExactStripRound'. -/
def fnExactStripRoundUptoCard : Claim7 := { stood := { row := fnExactStripRoundUptoRow, standIns := [], harness := (true, "3e5b8158e5e0cb65335c7e50dd687e422b09b235d6d8bb65e95f82e30d25c5d3"), looks := true }, kinds := [], alts := [], goes := true, laidByText := true, laidKinds := [.handle], laidTests := true, laidLooks := .later }
def FnExactStripRoundUptoCardSaid : Prop := Claim7.holds Tryz.pinned (.plain (OpenSpec.upto fnExactStripRoundSpec)) fnExactStripRoundUptoCard

/-- THE SECOND FORM's CARD OF 'laws.FnExactStripTick'. -/
def fnExactStripTickUptoCard : Claim7 := { stood := { row := fnExactStripTickUptoRow, standIns := [], harness := (true, "3e5b8158e5e0cb65335c7e50dd687e422b09b235d6d8bb65e95f82e30d25c5d3"), looks := true }, kinds := [], alts := [], goes := true, laidByText := true, laidKinds := [.handle], laidTests := true, laidLooks := .later }
def FnExactStripTickUptoCardSaid : Prop := Claim7.holds Tryz.pinned (.plain (OpenSpec.upto fnExactStripTickSpec)) fnExactStripTickUptoCard

/-- THE SECOND FORM's CARD OF 'laws.FnExactStripSession'. -/
def fnExactStripSessionUptoCard : Claim7 := { stood := { row := fnExactStripSessionUptoRow, standIns := [], harness := (true, "3e5b8158e5e0cb65335c7e50dd687e422b09b235d6d8bb65e95f82e30d25c5d3"), looks := true }, kinds := [], alts := [], goes := true, laidByText := true, laidKinds := [.data, .data, .data, .data, .handle, .sentinel, .sentinel, .pinned], laidTests := true, laidLooks := .later }
def FnExactStripSessionUptoCardSaid : Prop := Claim7.holds Tryz.pinned (.plain (OpenSpec.upto fnExactStripSessionSpec)) fnExactStripSessionUptoCard
end Rows
end Go.Proofs.YtlmcblcijndipabGreatDoor
