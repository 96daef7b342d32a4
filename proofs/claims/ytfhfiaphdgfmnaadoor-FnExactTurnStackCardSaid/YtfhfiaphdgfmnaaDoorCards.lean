/-
  DERIVED. GIVEN WITH THE SEED: THE CARDS: each row of YtfhfiaphdgfmnaaDoorRows.lean that lists a variable, with what it lists TIED to the program's text (the seventh form; the later family's looks); each row that meets fmt, with fmt's text TOLD by the authors' own Lean function (tested against real Go, not proved from fmt's source: count such statements apart). THE CARD IS WHAT COUNTS. Prove the row's statement (the work); the ties are given (YtfhfiaphdgfmnaaDoorTie.lean); close each card by the builder's one call (the guide's Derived/Test/ToyasCard.lean, 'card_holds'). Laid BY PROGRAM, IN A SANDBOX (cutbox-door.mjs). By AI agents, Wed Nov 11 2026. No macro, syntax, notation, axiom, sorry.
-/
import Derived.Test.YtfhfiaphdgfmnaaDoorRows
import GoSem.ClaimSeven
namespace Go.Proofs.YtfhfiaphdgfmnaaDoor
namespace Rows

/-- THE TIED CARD OF 'laws.FnExactPutSheet'. -/
def fnExactPutSheetCard : Claim7 := { stood := { row := fnExactPutSheetRow, standIns := [], harness := (true, "17e03bb55e0613038a01f5b0c6b7ad5f664b7659c9bed721684838d9c37f2b1a"), looks := true }, kinds := [], alts := [], laidByText := true, laidKinds := [.sentinel, .sentinel, .sentinel, .sentinel, .sentinel, .sentinel], laidTests := true, laidLooks := .later }
def FnExactPutSheetCardSaid : Prop := Claim7.holds Tryd.pinned (.plain (OpenSpec.ofChange fnExactPutSheetSpec)) fnExactPutSheetCard

/-- THE TIED CARD OF 'laws.FnExactTakeSheet'. -/
def fnExactTakeSheetCard : Claim7 := { stood := { row := fnExactTakeSheetRow, standIns := [], harness := (true, "17e03bb55e0613038a01f5b0c6b7ad5f664b7659c9bed721684838d9c37f2b1a"), looks := true }, kinds := [], alts := [], laidByText := true, laidKinds := [.sentinel, .sentinel, .sentinel, .sentinel, .sentinel, .sentinel], laidTests := true, laidLooks := .later }
def FnExactTakeSheetCardSaid : Prop := Claim7.holds Tryd.pinned (.plain (OpenSpec.ofChange fnExactTakeSheetSpec)) fnExactTakeSheetCard

/-- THE TIED CARD OF 'laws.FnExactTurnStack'. -/
def fnExactTurnStackCard : Claim7 := { stood := { row := fnExactTurnStackRow, standIns := [], harness := (true, "17e03bb55e0613038a01f5b0c6b7ad5f664b7659c9bed721684838d9c37f2b1a"), looks := true }, kinds := [], alts := [], laidByText := true, laidKinds := [.sentinel, .sentinel, .sentinel, .sentinel, .sentinel, .sentinel], laidTests := true, laidLooks := .later }
def FnExactTurnStackCardSaid : Prop := Claim7.holds Tryd.pinned (.plain (OpenSpec.ofChange fnExactTurnStackSpec)) fnExactTurnStackCard

/-- THE TIED CARD OF 'laws.FnExactDyeOf'. -/
def fnExactDyeOfCard : Claim7 := { stood := { row := fnExactDyeOfRow, standIns := [], harness := (true, "17e03bb55e0613038a01f5b0c6b7ad5f664b7659c9bed721684838d9c37f2b1a"), looks := true }, kinds := [], alts := [], laidByText := true, laidKinds := [.sentinel, .sentinel, .sentinel, .sentinel, .sentinel, .sentinel], laidTests := true, laidLooks := .later }
def FnExactDyeOfCardSaid : Prop := Claim7.holds Tryd.pinned (.plain (OpenSpec.ofChange fnExactDyeOfSpec)) fnExactDyeOfCard

/-- THE TIED CARD OF 'laws.FnExactReachedBy'. -/
def fnExactReachedByCard : Claim7 := { stood := { row := fnExactReachedByRow, standIns := [], harness := (true, "17e03bb55e0613038a01f5b0c6b7ad5f664b7659c9bed721684838d9c37f2b1a"), looks := true }, kinds := [], alts := [], laidByText := true, laidKinds := [.sentinel, .sentinel, .sentinel, .sentinel, .sentinel, .sentinel], laidTests := true, laidLooks := .later }
def FnExactReachedByCardSaid : Prop := Claim7.holds Tryd.pinned (.plain (OpenSpec.ofChange fnExactReachedBySpec)) fnExactReachedByCard

/-- THE TIED CARD OF 'laws.FnExactDryTimes'. -/
def fnExactDryTimesCard : Claim7 := { stood := { row := fnExactDryTimesRow, standIns := [], harness := (true, "17e03bb55e0613038a01f5b0c6b7ad5f664b7659c9bed721684838d9c37f2b1a"), looks := true }, kinds := [], alts := [], laidByText := true, laidKinds := [.sentinel, .sentinel, .sentinel, .sentinel, .sentinel, .sentinel, .sentinel], laidTests := true, laidLooks := .later }
def FnExactDryTimesCardSaid : Prop := Claim7.holds Tryd.pinned (.plain (OpenSpec.ofChange fnExactDryTimesSpec)) fnExactDryTimesCard

/-- THE TIED CARD OF 'laws.FnExactWettestSheet'. -/
def fnExactWettestSheetCard : Claim7 := { stood := { row := fnExactWettestSheetRow, standIns := [], harness := (true, "17e03bb55e0613038a01f5b0c6b7ad5f664b7659c9bed721684838d9c37f2b1a"), looks := true }, kinds := [], alts := [], laidByText := true, laidKinds := [.sentinel, .sentinel, .sentinel, .sentinel, .sentinel, .sentinel], laidTests := true, laidLooks := .later }
def FnExactWettestSheetCardSaid : Prop := Claim7.holds Tryd.pinned (.plain (OpenSpec.ofChange fnExactWettestSheetSpec)) fnExactWettestSheetCard

/-- THE TIED CARD OF 'laws.FnExactDryStack'. -/
def fnExactDryStackCard : Claim7 := { stood := { row := fnExactDryStackRow, standIns := [], harness := (true, "17e03bb55e0613038a01f5b0c6b7ad5f664b7659c9bed721684838d9c37f2b1a"), looks := true }, kinds := [], alts := [], laidByText := true, laidKinds := [.sentinel, .sentinel, .sentinel, .sentinel, .sentinel, .sentinel], laidTests := true, laidLooks := .later }
def FnExactDryStackCardSaid : Prop := Claim7.holds Tryd.pinned (.plain (OpenSpec.ofChange fnExactDryStackSpec)) fnExactDryStackCard

/-- THE SECOND FORM's CARD OF 'laws.FnExactPutSheet'. -/
def fnExactPutSheetUptoCard : Claim7 := { stood := { row := fnExactPutSheetUptoRow, standIns := [], harness := (true, "17e03bb55e0613038a01f5b0c6b7ad5f664b7659c9bed721684838d9c37f2b1a"), looks := true }, kinds := [], alts := [], laidByText := true, laidKinds := [.sentinel, .sentinel, .sentinel, .sentinel, .sentinel, .sentinel], laidTests := true, laidLooks := .later }
def FnExactPutSheetUptoCardSaid : Prop := Claim7.holds Tryd.pinned (.plain (OpenSpec.upto fnExactPutSheetSpec)) fnExactPutSheetUptoCard

/-- THE SECOND FORM's CARD OF 'laws.FnExactTakeSheet'. -/
def fnExactTakeSheetUptoCard : Claim7 := { stood := { row := fnExactTakeSheetUptoRow, standIns := [], harness := (true, "17e03bb55e0613038a01f5b0c6b7ad5f664b7659c9bed721684838d9c37f2b1a"), looks := true }, kinds := [], alts := [], laidByText := true, laidKinds := [.sentinel, .sentinel, .sentinel, .sentinel, .sentinel, .sentinel], laidTests := true, laidLooks := .later }
def FnExactTakeSheetUptoCardSaid : Prop := Claim7.holds Tryd.pinned (.plain (OpenSpec.upto fnExactTakeSheetSpec)) fnExactTakeSheetUptoCard

/-- THE SECOND FORM's CARD OF 'laws.FnExactTurnStack'. -/
def fnExactTurnStackUptoCard : Claim7 := { stood := { row := fnExactTurnStackUptoRow, standIns := [], harness := (true, "17e03bb55e0613038a01f5b0c6b7ad5f664b7659c9bed721684838d9c37f2b1a"), looks := true }, kinds := [], alts := [], laidByText := true, laidKinds := [.sentinel, .sentinel, .sentinel, .sentinel, .sentinel, .sentinel], laidTests := true, laidLooks := .later }
def FnExactTurnStackUptoCardSaid : Prop := Claim7.holds Tryd.pinned (.plain (OpenSpec.upto fnExactTurnStackSpec)) fnExactTurnStackUptoCard

/-- THE SECOND FORM's CARD OF 'laws.FnExactDyeOf'. -/
def fnExactDyeOfUptoCard : Claim7 := { stood := { row := fnExactDyeOfUptoRow, standIns := [], harness := (true, "17e03bb55e0613038a01f5b0c6b7ad5f664b7659c9bed721684838d9c37f2b1a"), looks := true }, kinds := [], alts := [], laidByText := true, laidKinds := [.sentinel, .sentinel, .sentinel, .sentinel, .sentinel, .sentinel], laidTests := true, laidLooks := .later }
def FnExactDyeOfUptoCardSaid : Prop := Claim7.holds Tryd.pinned (.plain (OpenSpec.upto fnExactDyeOfSpec)) fnExactDyeOfUptoCard

/-- THE SECOND FORM's CARD OF 'laws.FnExactReachedBy'. -/
def fnExactReachedByUptoCard : Claim7 := { stood := { row := fnExactReachedByUptoRow, standIns := [], harness := (true, "17e03bb55e0613038a01f5b0c6b7ad5f664b7659c9bed721684838d9c37f2b1a"), looks := true }, kinds := [], alts := [], laidByText := true, laidKinds := [.sentinel, .sentinel, .sentinel, .sentinel, .sentinel, .sentinel], laidTests := true, laidLooks := .later }
def FnExactReachedByUptoCardSaid : Prop := Claim7.holds Tryd.pinned (.plain (OpenSpec.upto fnExactReachedBySpec)) fnExactReachedByUptoCard

/-- THE SECOND FORM's CARD OF 'laws.FnExactDryTimes'. -/
def fnExactDryTimesUptoCard : Claim7 := { stood := { row := fnExactDryTimesUptoRow, standIns := [], harness := (true, "17e03bb55e0613038a01f5b0c6b7ad5f664b7659c9bed721684838d9c37f2b1a"), looks := true }, kinds := [], alts := [], laidByText := true, laidKinds := [.sentinel, .sentinel, .sentinel, .sentinel, .sentinel, .sentinel, .sentinel], laidTests := true, laidLooks := .later }
def FnExactDryTimesUptoCardSaid : Prop := Claim7.holds Tryd.pinned (.plain (OpenSpec.upto fnExactDryTimesSpec)) fnExactDryTimesUptoCard

/-- THE SECOND FORM's CARD OF 'laws.FnExactWettestSheet'. -/
def fnExactWettestSheetUptoCard : Claim7 := { stood := { row := fnExactWettestSheetUptoRow, standIns := [], harness := (true, "17e03bb55e0613038a01f5b0c6b7ad5f664b7659c9bed721684838d9c37f2b1a"), looks := true }, kinds := [], alts := [], laidByText := true, laidKinds := [.sentinel, .sentinel, .sentinel, .sentinel, .sentinel, .sentinel], laidTests := true, laidLooks := .later }
def FnExactWettestSheetUptoCardSaid : Prop := Claim7.holds Tryd.pinned (.plain (OpenSpec.upto fnExactWettestSheetSpec)) fnExactWettestSheetUptoCard

/-- THE SECOND FORM's CARD OF 'laws.FnExactDryStack'. -/
def fnExactDryStackUptoCard : Claim7 := { stood := { row := fnExactDryStackUptoRow, standIns := [], harness := (true, "17e03bb55e0613038a01f5b0c6b7ad5f664b7659c9bed721684838d9c37f2b1a"), looks := true }, kinds := [], alts := [], laidByText := true, laidKinds := [.sentinel, .sentinel, .sentinel, .sentinel, .sentinel, .sentinel], laidTests := true, laidLooks := .later }
def FnExactDryStackUptoCardSaid : Prop := Claim7.holds Tryd.pinned (.plain (OpenSpec.upto fnExactDryStackSpec)) fnExactDryStackUptoCard
end Rows
end Go.Proofs.YtfhfiaphdgfmnaaDoor
