/-
  DERIVED. GIVEN WITH THE SEED: THE CARDS: each row of YtmcpaangofdmpaaDoorRows.lean that lists a variable, with what it lists TIED to the program's text (the seventh form; the later family's looks); each row that meets fmt, with fmt's text TOLD by the authors' own Lean function (tested against real Go, not proved from fmt's source: count such statements apart). THE CARD IS WHAT COUNTS. Prove the row's statement (the work); the ties are given (YtmcpaangofdmpaaDoorTie.lean); close each card by the builder's one call (the guide's Derived/Test/ToyasCard.lean, 'card_holds'). Laid BY PROGRAM, IN A SANDBOX (cutbox-door.mjs). By AI agents, Wed Nov 11 2026. No macro, syntax, notation, axiom, sorry.
-/
import Derived.Test.YtmcpaangofdmpaaDoorRows
import GoSem.ClaimSeven
namespace Go.Proofs.YtmcpaangofdmpaaDoor
namespace Rows

/-- THE TIED CARD OF 'laws.FnExactPressOnce'. -/
def fnExactPressOnceCard : Claim7 := { stood := { row := fnExactPressOnceRow, standIns := [], harness := (true, "528784309dbb8d8bc7aa6ed04d5c8df04236485314fea08413df035c9909ca29"), looks := true }, kinds := [], alts := [], laidByText := true, laidKinds := [.sentinel, .sentinel, .sentinel, .sentinel, .sentinel, .sentinel], laidTests := true, laidLooks := .later }
def FnExactPressOnceCardSaid : Prop := Claim7.holds Tryd.pinned (.plain (OpenSpec.ofChange fnExactPressOnceSpec)) fnExactPressOnceCard

/-- THE TIED CARD OF 'laws.FnExactPressAll'. -/
def fnExactPressAllCard : Claim7 := { stood := { row := fnExactPressAllRow, standIns := [], harness := (true, "528784309dbb8d8bc7aa6ed04d5c8df04236485314fea08413df035c9909ca29"), looks := true }, kinds := [], alts := [], laidByText := true, laidKinds := [.sentinel, .sentinel, .sentinel, .sentinel, .sentinel, .sentinel], laidTests := true, laidLooks := .later }
def FnExactPressAllCardSaid : Prop := Claim7.holds Tryd.pinned (.plain (OpenSpec.ofChange fnExactPressAllSpec)) fnExactPressAllCard

/-- THE TIED CARD OF 'laws.FnExactPressesUntil'. -/
def fnExactPressesUntilCard : Claim7 := { stood := { row := fnExactPressesUntilRow, standIns := [], harness := (true, "528784309dbb8d8bc7aa6ed04d5c8df04236485314fea08413df035c9909ca29"), looks := true }, kinds := [], alts := [], laidByText := true, laidKinds := [.sentinel, .sentinel, .sentinel, .sentinel, .sentinel, .sentinel], laidTests := true, laidLooks := .later }
def FnExactPressesUntilCardSaid : Prop := Claim7.holds Tryd.pinned (.plain (OpenSpec.ofChange fnExactPressesUntilSpec)) fnExactPressesUntilCard

/-- THE TIED CARD OF 'laws.FnExactFoldsOf'. -/
def fnExactFoldsOfCard : Claim7 := { stood := { row := fnExactFoldsOfRow, standIns := [], harness := (true, "528784309dbb8d8bc7aa6ed04d5c8df04236485314fea08413df035c9909ca29"), looks := true }, kinds := [], alts := [], laidByText := true, laidKinds := [.sentinel, .sentinel, .sentinel, .sentinel, .sentinel, .sentinel], laidTests := true, laidLooks := .later }
def FnExactFoldsOfCardSaid : Prop := Claim7.holds Tryd.pinned (.plain (OpenSpec.ofChange fnExactFoldsOfSpec)) fnExactFoldsOfCard

/-- THE TIED CARD OF 'laws.FnExactBestFold'. -/
def fnExactBestFoldCard : Claim7 := { stood := { row := fnExactBestFoldRow, standIns := [], harness := (true, "528784309dbb8d8bc7aa6ed04d5c8df04236485314fea08413df035c9909ca29"), looks := true }, kinds := [], alts := [], laidByText := true, laidKinds := [.sentinel, .sentinel, .sentinel, .sentinel, .sentinel, .sentinel], laidTests := true, laidLooks := .later }
def FnExactBestFoldCardSaid : Prop := Claim7.holds Tryd.pinned (.plain (OpenSpec.ofChange fnExactBestFoldSpec)) fnExactBestFoldCard

/-- THE TIED CARD OF 'laws.FnExactUnfoldHalf'. -/
def fnExactUnfoldHalfCard : Claim7 := { stood := { row := fnExactUnfoldHalfRow, standIns := [], harness := (true, "528784309dbb8d8bc7aa6ed04d5c8df04236485314fea08413df035c9909ca29"), looks := true }, kinds := [], alts := [], laidByText := true, laidKinds := [.sentinel, .sentinel, .sentinel, .sentinel, .sentinel, .sentinel], laidTests := true, laidLooks := .later }
def FnExactUnfoldHalfCardSaid : Prop := Claim7.holds Tryd.pinned (.plain (OpenSpec.ofChange fnExactUnfoldHalfSpec)) fnExactUnfoldHalfCard

/-- THE TIED CARD OF 'laws.FnExactBlotOnto'. -/
def fnExactBlotOntoCard : Claim7 := { stood := { row := fnExactBlotOntoRow, standIns := [], harness := (true, "528784309dbb8d8bc7aa6ed04d5c8df04236485314fea08413df035c9909ca29"), looks := true }, kinds := [], alts := [], laidByText := true, laidKinds := [.sentinel, .sentinel, .sentinel, .sentinel, .sentinel, .sentinel], laidTests := true, laidLooks := .later }
def FnExactBlotOntoCardSaid : Prop := Claim7.holds Tryd.pinned (.plain (OpenSpec.ofChange fnExactBlotOntoSpec)) fnExactBlotOntoCard

/-- THE TIED CARD OF 'laws.FnExactBlotRounds'. -/
def fnExactBlotRoundsCard : Claim7 := { stood := { row := fnExactBlotRoundsRow, standIns := [], harness := (true, "528784309dbb8d8bc7aa6ed04d5c8df04236485314fea08413df035c9909ca29"), looks := true }, kinds := [], alts := [], laidByText := true, laidKinds := [.sentinel, .sentinel, .sentinel, .sentinel, .sentinel, .sentinel], laidTests := true, laidLooks := .later }
def FnExactBlotRoundsCardSaid : Prop := Claim7.holds Tryd.pinned (.plain (OpenSpec.ofChange fnExactBlotRoundsSpec)) fnExactBlotRoundsCard

/-- THE TIED CARD OF 'laws.FnExactEdgeCells'. -/
def fnExactEdgeCellsCard : Claim7 := { stood := { row := fnExactEdgeCellsRow, standIns := [], harness := (true, "528784309dbb8d8bc7aa6ed04d5c8df04236485314fea08413df035c9909ca29"), looks := true }, kinds := [], alts := [], laidByText := true, laidKinds := [.sentinel, .sentinel, .sentinel, .sentinel, .sentinel, .sentinel], laidTests := true, laidLooks := .later }
def FnExactEdgeCellsCardSaid : Prop := Claim7.holds Tryd.pinned (.plain (OpenSpec.ofChange fnExactEdgeCellsSpec)) fnExactEdgeCellsCard

/-- THE SECOND FORM's CARD OF 'laws.FnExactPressOnce'. -/
def fnExactPressOnceUptoCard : Claim7 := { stood := { row := fnExactPressOnceUptoRow, standIns := [], harness := (true, "528784309dbb8d8bc7aa6ed04d5c8df04236485314fea08413df035c9909ca29"), looks := true }, kinds := [], alts := [], laidByText := true, laidKinds := [.sentinel, .sentinel, .sentinel, .sentinel, .sentinel, .sentinel], laidTests := true, laidLooks := .later }
def FnExactPressOnceUptoCardSaid : Prop := Claim7.holds Tryd.pinned (.plain (OpenSpec.upto fnExactPressOnceSpec)) fnExactPressOnceUptoCard

/-- THE SECOND FORM's CARD OF 'laws.FnExactPressAll'. -/
def fnExactPressAllUptoCard : Claim7 := { stood := { row := fnExactPressAllUptoRow, standIns := [], harness := (true, "528784309dbb8d8bc7aa6ed04d5c8df04236485314fea08413df035c9909ca29"), looks := true }, kinds := [], alts := [], laidByText := true, laidKinds := [.sentinel, .sentinel, .sentinel, .sentinel, .sentinel, .sentinel], laidTests := true, laidLooks := .later }
def FnExactPressAllUptoCardSaid : Prop := Claim7.holds Tryd.pinned (.plain (OpenSpec.upto fnExactPressAllSpec)) fnExactPressAllUptoCard

/-- THE SECOND FORM's CARD OF 'laws.FnExactPressesUntil'. -/
def fnExactPressesUntilUptoCard : Claim7 := { stood := { row := fnExactPressesUntilUptoRow, standIns := [], harness := (true, "528784309dbb8d8bc7aa6ed04d5c8df04236485314fea08413df035c9909ca29"), looks := true }, kinds := [], alts := [], laidByText := true, laidKinds := [.sentinel, .sentinel, .sentinel, .sentinel, .sentinel, .sentinel], laidTests := true, laidLooks := .later }
def FnExactPressesUntilUptoCardSaid : Prop := Claim7.holds Tryd.pinned (.plain (OpenSpec.upto fnExactPressesUntilSpec)) fnExactPressesUntilUptoCard

/-- THE SECOND FORM's CARD OF 'laws.FnExactFoldsOf'. -/
def fnExactFoldsOfUptoCard : Claim7 := { stood := { row := fnExactFoldsOfUptoRow, standIns := [], harness := (true, "528784309dbb8d8bc7aa6ed04d5c8df04236485314fea08413df035c9909ca29"), looks := true }, kinds := [], alts := [], laidByText := true, laidKinds := [.sentinel, .sentinel, .sentinel, .sentinel, .sentinel, .sentinel], laidTests := true, laidLooks := .later }
def FnExactFoldsOfUptoCardSaid : Prop := Claim7.holds Tryd.pinned (.plain (OpenSpec.upto fnExactFoldsOfSpec)) fnExactFoldsOfUptoCard

/-- THE SECOND FORM's CARD OF 'laws.FnExactBestFold'. -/
def fnExactBestFoldUptoCard : Claim7 := { stood := { row := fnExactBestFoldUptoRow, standIns := [], harness := (true, "528784309dbb8d8bc7aa6ed04d5c8df04236485314fea08413df035c9909ca29"), looks := true }, kinds := [], alts := [], laidByText := true, laidKinds := [.sentinel, .sentinel, .sentinel, .sentinel, .sentinel, .sentinel], laidTests := true, laidLooks := .later }
def FnExactBestFoldUptoCardSaid : Prop := Claim7.holds Tryd.pinned (.plain (OpenSpec.upto fnExactBestFoldSpec)) fnExactBestFoldUptoCard

/-- THE SECOND FORM's CARD OF 'laws.FnExactUnfoldHalf'. -/
def fnExactUnfoldHalfUptoCard : Claim7 := { stood := { row := fnExactUnfoldHalfUptoRow, standIns := [], harness := (true, "528784309dbb8d8bc7aa6ed04d5c8df04236485314fea08413df035c9909ca29"), looks := true }, kinds := [], alts := [], laidByText := true, laidKinds := [.sentinel, .sentinel, .sentinel, .sentinel, .sentinel, .sentinel], laidTests := true, laidLooks := .later }
def FnExactUnfoldHalfUptoCardSaid : Prop := Claim7.holds Tryd.pinned (.plain (OpenSpec.upto fnExactUnfoldHalfSpec)) fnExactUnfoldHalfUptoCard

/-- THE SECOND FORM's CARD OF 'laws.FnExactBlotOnto'. -/
def fnExactBlotOntoUptoCard : Claim7 := { stood := { row := fnExactBlotOntoUptoRow, standIns := [], harness := (true, "528784309dbb8d8bc7aa6ed04d5c8df04236485314fea08413df035c9909ca29"), looks := true }, kinds := [], alts := [], laidByText := true, laidKinds := [.sentinel, .sentinel, .sentinel, .sentinel, .sentinel, .sentinel], laidTests := true, laidLooks := .later }
def FnExactBlotOntoUptoCardSaid : Prop := Claim7.holds Tryd.pinned (.plain (OpenSpec.upto fnExactBlotOntoSpec)) fnExactBlotOntoUptoCard

/-- THE SECOND FORM's CARD OF 'laws.FnExactBlotRounds'. -/
def fnExactBlotRoundsUptoCard : Claim7 := { stood := { row := fnExactBlotRoundsUptoRow, standIns := [], harness := (true, "528784309dbb8d8bc7aa6ed04d5c8df04236485314fea08413df035c9909ca29"), looks := true }, kinds := [], alts := [], laidByText := true, laidKinds := [.sentinel, .sentinel, .sentinel, .sentinel, .sentinel, .sentinel], laidTests := true, laidLooks := .later }
def FnExactBlotRoundsUptoCardSaid : Prop := Claim7.holds Tryd.pinned (.plain (OpenSpec.upto fnExactBlotRoundsSpec)) fnExactBlotRoundsUptoCard

/-- THE SECOND FORM's CARD OF 'laws.FnExactEdgeCells'. -/
def fnExactEdgeCellsUptoCard : Claim7 := { stood := { row := fnExactEdgeCellsUptoRow, standIns := [], harness := (true, "528784309dbb8d8bc7aa6ed04d5c8df04236485314fea08413df035c9909ca29"), looks := true }, kinds := [], alts := [], laidByText := true, laidKinds := [.sentinel, .sentinel, .sentinel, .sentinel, .sentinel, .sentinel], laidTests := true, laidLooks := .later }
def FnExactEdgeCellsUptoCardSaid : Prop := Claim7.holds Tryd.pinned (.plain (OpenSpec.upto fnExactEdgeCellsSpec)) fnExactEdgeCellsUptoCard
end Rows
end Go.Proofs.YtmcpaangofdmpaaDoor
