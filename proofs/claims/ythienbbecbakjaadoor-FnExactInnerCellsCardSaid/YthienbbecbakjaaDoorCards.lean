/-
  DERIVED. GIVEN WITH THE SEED: THE CARDS: each row of YthienbbecbakjaaDoorRows.lean that lists a variable, with what it lists TIED to the program's text (the seventh form; the later family's looks); each row that meets fmt, with fmt's text TOLD by the authors' own Lean function (tested against real Go, not proved from fmt's source: count such statements apart). THE CARD IS WHAT COUNTS. Prove the row's statement (the work); the ties are given (YthienbbecbakjaaDoorTie.lean); close each card by the builder's one call (the guide's Derived/Test/ToyasCard.lean, 'card_holds'). Laid BY PROGRAM, IN A SANDBOX (cutbox-door.mjs). By AI agents, Wed Nov 11 2026. No macro, syntax, notation, axiom, sorry.
-/
import Derived.Test.YthienbbecbakjaaDoorRows
import GoSem.ClaimSeven
namespace Go.Proofs.YthienbbecbakjaaDoor
namespace Rows

/-- THE TIED CARD OF 'laws.FnExactSpreadCells'. -/
def fnExactSpreadCellsCard : Claim7 := { stood := { row := fnExactSpreadCellsRow, standIns := [], harness := (true, "0941d27d64dd0f195b0f715236695b40f4bba51eae0d113a79e27bcfcb545fe2"), looks := true }, kinds := [], alts := [], laidByText := true, laidKinds := [.sentinel, .sentinel, .sentinel, .sentinel, .sentinel, .sentinel], laidTests := true, laidLooks := .later }
def FnExactSpreadCellsCardSaid : Prop := Claim7.holds Tryd.pinned (.plain (OpenSpec.ofChange fnExactSpreadCellsSpec)) fnExactSpreadCellsCard

/-- THE TIED CARD OF 'laws.FnExactSpreadSteps'. -/
def fnExactSpreadStepsCard : Claim7 := { stood := { row := fnExactSpreadStepsRow, standIns := [], harness := (true, "0941d27d64dd0f195b0f715236695b40f4bba51eae0d113a79e27bcfcb545fe2"), looks := true }, kinds := [], alts := [], laidByText := true, laidKinds := [.sentinel, .sentinel, .sentinel, .sentinel, .sentinel, .sentinel], laidTests := true, laidLooks := .later }
def FnExactSpreadStepsCardSaid : Prop := Claim7.holds Tryd.pinned (.plain (OpenSpec.ofChange fnExactSpreadStepsSpec)) fnExactSpreadStepsCard

/-- THE TIED CARD OF 'laws.FnExactInnerCells'. -/
def fnExactInnerCellsCard : Claim7 := { stood := { row := fnExactInnerCellsRow, standIns := [], harness := (true, "0941d27d64dd0f195b0f715236695b40f4bba51eae0d113a79e27bcfcb545fe2"), looks := true }, kinds := [], alts := [], laidByText := true, laidKinds := [.sentinel, .sentinel, .sentinel, .sentinel, .sentinel, .sentinel], laidTests := true, laidLooks := .later }
def FnExactInnerCellsCardSaid : Prop := Claim7.holds Tryd.pinned (.plain (OpenSpec.ofChange fnExactInnerCellsSpec)) fnExactInnerCellsCard

/-- THE TIED CARD OF 'laws.FnExactHasForerunner'. -/
def fnExactHasForerunnerCard : Claim7 := { stood := { row := fnExactHasForerunnerRow, standIns := [], harness := (true, "0941d27d64dd0f195b0f715236695b40f4bba51eae0d113a79e27bcfcb545fe2"), looks := true }, kinds := [], alts := [], laidByText := true, laidKinds := [.sentinel, .sentinel, .sentinel, .sentinel, .sentinel, .sentinel], laidTests := true, laidLooks := .later }
def FnExactHasForerunnerCardSaid : Prop := Claim7.holds Tryd.pinned (.plain (OpenSpec.ofChange fnExactHasForerunnerSpec)) fnExactHasForerunnerCard

/-- THE TIED CARD OF 'laws.FnExactLongestPast'. -/
def fnExactLongestPastCard : Claim7 := { stood := { row := fnExactLongestPastRow, standIns := [], harness := (true, "0941d27d64dd0f195b0f715236695b40f4bba51eae0d113a79e27bcfcb545fe2"), looks := true }, kinds := [], alts := [], laidByText := true, laidKinds := [.sentinel, .sentinel, .sentinel, .sentinel, .sentinel, .sentinel], laidTests := true, laidLooks := .later }
def FnExactLongestPastCardSaid : Prop := Claim7.holds Tryd.pinned (.plain (OpenSpec.ofChange fnExactLongestPastSpec)) fnExactLongestPastCard

/-- THE SECOND FORM's CARD OF 'laws.FnExactSpreadCells'. -/
def fnExactSpreadCellsUptoCard : Claim7 := { stood := { row := fnExactSpreadCellsUptoRow, standIns := [], harness := (true, "0941d27d64dd0f195b0f715236695b40f4bba51eae0d113a79e27bcfcb545fe2"), looks := true }, kinds := [], alts := [], laidByText := true, laidKinds := [.sentinel, .sentinel, .sentinel, .sentinel, .sentinel, .sentinel], laidTests := true, laidLooks := .later }
def FnExactSpreadCellsUptoCardSaid : Prop := Claim7.holds Tryd.pinned (.plain (OpenSpec.upto fnExactSpreadCellsSpec)) fnExactSpreadCellsUptoCard

/-- THE SECOND FORM's CARD OF 'laws.FnExactSpreadSteps'. -/
def fnExactSpreadStepsUptoCard : Claim7 := { stood := { row := fnExactSpreadStepsUptoRow, standIns := [], harness := (true, "0941d27d64dd0f195b0f715236695b40f4bba51eae0d113a79e27bcfcb545fe2"), looks := true }, kinds := [], alts := [], laidByText := true, laidKinds := [.sentinel, .sentinel, .sentinel, .sentinel, .sentinel, .sentinel], laidTests := true, laidLooks := .later }
def FnExactSpreadStepsUptoCardSaid : Prop := Claim7.holds Tryd.pinned (.plain (OpenSpec.upto fnExactSpreadStepsSpec)) fnExactSpreadStepsUptoCard

/-- THE SECOND FORM's CARD OF 'laws.FnExactInnerCells'. -/
def fnExactInnerCellsUptoCard : Claim7 := { stood := { row := fnExactInnerCellsUptoRow, standIns := [], harness := (true, "0941d27d64dd0f195b0f715236695b40f4bba51eae0d113a79e27bcfcb545fe2"), looks := true }, kinds := [], alts := [], laidByText := true, laidKinds := [.sentinel, .sentinel, .sentinel, .sentinel, .sentinel, .sentinel], laidTests := true, laidLooks := .later }
def FnExactInnerCellsUptoCardSaid : Prop := Claim7.holds Tryd.pinned (.plain (OpenSpec.upto fnExactInnerCellsSpec)) fnExactInnerCellsUptoCard

/-- THE SECOND FORM's CARD OF 'laws.FnExactHasForerunner'. -/
def fnExactHasForerunnerUptoCard : Claim7 := { stood := { row := fnExactHasForerunnerUptoRow, standIns := [], harness := (true, "0941d27d64dd0f195b0f715236695b40f4bba51eae0d113a79e27bcfcb545fe2"), looks := true }, kinds := [], alts := [], laidByText := true, laidKinds := [.sentinel, .sentinel, .sentinel, .sentinel, .sentinel, .sentinel], laidTests := true, laidLooks := .later }
def FnExactHasForerunnerUptoCardSaid : Prop := Claim7.holds Tryd.pinned (.plain (OpenSpec.upto fnExactHasForerunnerSpec)) fnExactHasForerunnerUptoCard

/-- THE SECOND FORM's CARD OF 'laws.FnExactLongestPast'. -/
def fnExactLongestPastUptoCard : Claim7 := { stood := { row := fnExactLongestPastUptoRow, standIns := [], harness := (true, "0941d27d64dd0f195b0f715236695b40f4bba51eae0d113a79e27bcfcb545fe2"), looks := true }, kinds := [], alts := [], laidByText := true, laidKinds := [.sentinel, .sentinel, .sentinel, .sentinel, .sentinel, .sentinel], laidTests := true, laidLooks := .later }
def FnExactLongestPastUptoCardSaid : Prop := Claim7.holds Tryd.pinned (.plain (OpenSpec.upto fnExactLongestPastSpec)) fnExactLongestPastUptoCard
end Rows
end Go.Proofs.YthienbbecbakjaaDoor
