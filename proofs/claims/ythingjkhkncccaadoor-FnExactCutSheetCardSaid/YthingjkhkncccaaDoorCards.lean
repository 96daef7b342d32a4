/-
  DERIVED. GIVEN WITH THE SEED: THE CARDS: each row of YthingjkhkncccaaDoorRows.lean that lists a variable, with what it lists TIED to the program's text (the seventh form; the later family's looks); each row that meets fmt, with fmt's text TOLD by the authors' own Lean function (tested against real Go, not proved from fmt's source: count such statements apart). THE CARD IS WHAT COUNTS. Prove the row's statement (the work); the ties are given (YthingjkhkncccaaDoorTie.lean); close each card by the builder's one call (the guide's Derived/Test/ToyasCard.lean, 'card_holds'). Laid BY PROGRAM, IN A SANDBOX (cutbox-door.mjs). By AI agents, Wed Nov 11 2026. No macro, syntax, notation, axiom, sorry.
-/
import Derived.Test.YthingjkhkncccaaDoorRows
import GoSem.ClaimSeven
namespace Go.Proofs.YthingjkhkncccaaDoor
namespace Rows

/-- THE TIED CARD OF 'laws.FnExactMirrorSheet'. -/
def fnExactMirrorSheetCard : Claim7 := { stood := { row := fnExactMirrorSheetRow, standIns := [], harness := (true, "8e9ba8cd121565f4cd463d8fac22eef56f3c7c5cdd49b15fb29900845cb49f55"), looks := true }, kinds := [], alts := [], laidByText := true, laidKinds := [.sentinel, .sentinel, .sentinel, .sentinel, .sentinel, .sentinel], laidTests := true, laidLooks := .later }
def FnExactMirrorSheetCardSaid : Prop := Claim7.holds Tryd.pinned (.plain (OpenSpec.ofChange fnExactMirrorSheetSpec)) fnExactMirrorSheetCard

/-- THE TIED CARD OF 'laws.FnExactTurnSheet'. -/
def fnExactTurnSheetCard : Claim7 := { stood := { row := fnExactTurnSheetRow, standIns := [], harness := (true, "8e9ba8cd121565f4cd463d8fac22eef56f3c7c5cdd49b15fb29900845cb49f55"), looks := true }, kinds := [], alts := [], laidByText := true, laidKinds := [.sentinel, .sentinel, .sentinel, .sentinel, .sentinel, .sentinel], laidTests := true, laidLooks := .later }
def FnExactTurnSheetCardSaid : Prop := Claim7.holds Tryd.pinned (.plain (OpenSpec.ofChange fnExactTurnSheetSpec)) fnExactTurnSheetCard

/-- THE TIED CARD OF 'laws.FnExactCutSheet'. -/
def fnExactCutSheetCard : Claim7 := { stood := { row := fnExactCutSheetRow, standIns := [], harness := (true, "8e9ba8cd121565f4cd463d8fac22eef56f3c7c5cdd49b15fb29900845cb49f55"), looks := true }, kinds := [], alts := [], laidByText := true, laidKinds := [.sentinel, .sentinel, .sentinel, .sentinel, .sentinel, .sentinel], laidTests := true, laidLooks := .later }
def FnExactCutSheetCardSaid : Prop := Claim7.holds Tryd.pinned (.plain (OpenSpec.ofChange fnExactCutSheetSpec)) fnExactCutSheetCard

/-- THE TIED CARD OF 'laws.FnExactGiveUnit'. -/
def fnExactGiveUnitCard : Claim7 := { stood := { row := fnExactGiveUnitRow, standIns := [], harness := (true, "8e9ba8cd121565f4cd463d8fac22eef56f3c7c5cdd49b15fb29900845cb49f55"), looks := true }, kinds := [], alts := [], laidByText := true, laidKinds := [.sentinel, .sentinel, .sentinel, .sentinel, .sentinel, .sentinel], laidTests := true, laidLooks := .later }
def FnExactGiveUnitCardSaid : Prop := Claim7.holds Tryd.pinned (.plain (OpenSpec.ofChange fnExactGiveUnitSpec)) fnExactGiveUnitCard

/-- THE TIED CARD OF 'laws.FnExactRunOnce'. -/
def fnExactRunOnceCard : Claim7 := { stood := { row := fnExactRunOnceRow, standIns := [], harness := (true, "8e9ba8cd121565f4cd463d8fac22eef56f3c7c5cdd49b15fb29900845cb49f55"), looks := true }, kinds := [], alts := [], laidByText := true, laidKinds := [.sentinel, .sentinel, .sentinel, .sentinel, .sentinel, .sentinel], laidTests := true, laidLooks := .later }
def FnExactRunOnceCardSaid : Prop := Claim7.holds Tryd.pinned (.plain (OpenSpec.ofChange fnExactRunOnceSpec)) fnExactRunOnceCard

/-- THE TIED CARD OF 'laws.FnExactRunRounds'. -/
def fnExactRunRoundsCard : Claim7 := { stood := { row := fnExactRunRoundsRow, standIns := [], harness := (true, "8e9ba8cd121565f4cd463d8fac22eef56f3c7c5cdd49b15fb29900845cb49f55"), looks := true }, kinds := [], alts := [], laidByText := true, laidKinds := [.sentinel, .sentinel, .sentinel, .sentinel, .sentinel, .sentinel], laidTests := true, laidLooks := .later }
def FnExactRunRoundsCardSaid : Prop := Claim7.holds Tryd.pinned (.plain (OpenSpec.ofChange fnExactRunRoundsSpec)) fnExactRunRoundsCard

/-- THE TIED CARD OF 'laws.FnExactRunUntil'. -/
def fnExactRunUntilCard : Claim7 := { stood := { row := fnExactRunUntilRow, standIns := [], harness := (true, "8e9ba8cd121565f4cd463d8fac22eef56f3c7c5cdd49b15fb29900845cb49f55"), looks := true }, kinds := [], alts := [], laidByText := true, laidKinds := [.sentinel, .sentinel, .sentinel, .sentinel, .sentinel, .sentinel], laidTests := true, laidLooks := .later }
def FnExactRunUntilCardSaid : Prop := Claim7.holds Tryd.pinned (.plain (OpenSpec.ofChange fnExactRunUntilSpec)) fnExactRunUntilCard

/-- THE TIED CARD OF 'laws.FnExactIsCalm'. -/
def fnExactIsCalmCard : Claim7 := { stood := { row := fnExactIsCalmRow, standIns := [], harness := (true, "8e9ba8cd121565f4cd463d8fac22eef56f3c7c5cdd49b15fb29900845cb49f55"), looks := true }, kinds := [], alts := [], laidByText := true, laidKinds := [.sentinel, .sentinel, .sentinel, .sentinel, .sentinel, .sentinel], laidTests := true, laidLooks := .later }
def FnExactIsCalmCardSaid : Prop := Claim7.holds Tryd.pinned (.plain (OpenSpec.ofChange fnExactIsCalmSpec)) fnExactIsCalmCard

/-- THE TIED CARD OF 'laws.FnExactDryStep'. -/
def fnExactDryStepCard : Claim7 := { stood := { row := fnExactDryStepRow, standIns := [], harness := (true, "8e9ba8cd121565f4cd463d8fac22eef56f3c7c5cdd49b15fb29900845cb49f55"), looks := true }, kinds := [], alts := [], laidByText := true, laidKinds := [.sentinel, .sentinel, .sentinel, .sentinel, .sentinel, .sentinel], laidTests := true, laidLooks := .later }
def FnExactDryStepCardSaid : Prop := Claim7.holds Tryd.pinned (.plain (OpenSpec.ofChange fnExactDryStepSpec)) fnExactDryStepCard

/-- THE TIED CARD OF 'laws.FnExactDryRounds'. -/
def fnExactDryRoundsCard : Claim7 := { stood := { row := fnExactDryRoundsRow, standIns := [], harness := (true, "8e9ba8cd121565f4cd463d8fac22eef56f3c7c5cdd49b15fb29900845cb49f55"), looks := true }, kinds := [], alts := [], laidByText := true, laidKinds := [.sentinel, .sentinel, .sentinel, .sentinel, .sentinel, .sentinel], laidTests := true, laidLooks := .later }
def FnExactDryRoundsCardSaid : Prop := Claim7.holds Tryd.pinned (.plain (OpenSpec.ofChange fnExactDryRoundsSpec)) fnExactDryRoundsCard

/-- THE TIED CARD OF 'laws.FnExactWettestCell'. -/
def fnExactWettestCellCard : Claim7 := { stood := { row := fnExactWettestCellRow, standIns := [], harness := (true, "8e9ba8cd121565f4cd463d8fac22eef56f3c7c5cdd49b15fb29900845cb49f55"), looks := true }, kinds := [], alts := [], laidByText := true, laidKinds := [.sentinel, .sentinel, .sentinel, .sentinel, .sentinel, .sentinel, .sentinel], laidTests := true, laidLooks := .later }
def FnExactWettestCellCardSaid : Prop := Claim7.holds Tryd.pinned (.plain (OpenSpec.ofChange fnExactWettestCellSpec)) fnExactWettestCellCard

/-- THE TIED CARD OF 'laws.FnExactSoakCell'. -/
def fnExactSoakCellCard : Claim7 := { stood := { row := fnExactSoakCellRow, standIns := [], harness := (true, "8e9ba8cd121565f4cd463d8fac22eef56f3c7c5cdd49b15fb29900845cb49f55"), looks := true }, kinds := [], alts := [], laidByText := true, laidKinds := [.sentinel, .sentinel, .sentinel, .sentinel, .sentinel, .sentinel], laidTests := true, laidLooks := .later }
def FnExactSoakCellCardSaid : Prop := Claim7.holds Tryd.pinned (.plain (OpenSpec.ofChange fnExactSoakCellSpec)) fnExactSoakCellCard

/-- THE SECOND FORM's CARD OF 'laws.FnExactMirrorSheet'. -/
def fnExactMirrorSheetUptoCard : Claim7 := { stood := { row := fnExactMirrorSheetUptoRow, standIns := [], harness := (true, "8e9ba8cd121565f4cd463d8fac22eef56f3c7c5cdd49b15fb29900845cb49f55"), looks := true }, kinds := [], alts := [], laidByText := true, laidKinds := [.sentinel, .sentinel, .sentinel, .sentinel, .sentinel, .sentinel], laidTests := true, laidLooks := .later }
def FnExactMirrorSheetUptoCardSaid : Prop := Claim7.holds Tryd.pinned (.plain (OpenSpec.upto fnExactMirrorSheetSpec)) fnExactMirrorSheetUptoCard

/-- THE SECOND FORM's CARD OF 'laws.FnExactTurnSheet'. -/
def fnExactTurnSheetUptoCard : Claim7 := { stood := { row := fnExactTurnSheetUptoRow, standIns := [], harness := (true, "8e9ba8cd121565f4cd463d8fac22eef56f3c7c5cdd49b15fb29900845cb49f55"), looks := true }, kinds := [], alts := [], laidByText := true, laidKinds := [.sentinel, .sentinel, .sentinel, .sentinel, .sentinel, .sentinel], laidTests := true, laidLooks := .later }
def FnExactTurnSheetUptoCardSaid : Prop := Claim7.holds Tryd.pinned (.plain (OpenSpec.upto fnExactTurnSheetSpec)) fnExactTurnSheetUptoCard

/-- THE SECOND FORM's CARD OF 'laws.FnExactCutSheet'. -/
def fnExactCutSheetUptoCard : Claim7 := { stood := { row := fnExactCutSheetUptoRow, standIns := [], harness := (true, "8e9ba8cd121565f4cd463d8fac22eef56f3c7c5cdd49b15fb29900845cb49f55"), looks := true }, kinds := [], alts := [], laidByText := true, laidKinds := [.sentinel, .sentinel, .sentinel, .sentinel, .sentinel, .sentinel], laidTests := true, laidLooks := .later }
def FnExactCutSheetUptoCardSaid : Prop := Claim7.holds Tryd.pinned (.plain (OpenSpec.upto fnExactCutSheetSpec)) fnExactCutSheetUptoCard

/-- THE SECOND FORM's CARD OF 'laws.FnExactGiveUnit'. -/
def fnExactGiveUnitUptoCard : Claim7 := { stood := { row := fnExactGiveUnitUptoRow, standIns := [], harness := (true, "8e9ba8cd121565f4cd463d8fac22eef56f3c7c5cdd49b15fb29900845cb49f55"), looks := true }, kinds := [], alts := [], laidByText := true, laidKinds := [.sentinel, .sentinel, .sentinel, .sentinel, .sentinel, .sentinel], laidTests := true, laidLooks := .later }
def FnExactGiveUnitUptoCardSaid : Prop := Claim7.holds Tryd.pinned (.plain (OpenSpec.upto fnExactGiveUnitSpec)) fnExactGiveUnitUptoCard

/-- THE SECOND FORM's CARD OF 'laws.FnExactRunOnce'. -/
def fnExactRunOnceUptoCard : Claim7 := { stood := { row := fnExactRunOnceUptoRow, standIns := [], harness := (true, "8e9ba8cd121565f4cd463d8fac22eef56f3c7c5cdd49b15fb29900845cb49f55"), looks := true }, kinds := [], alts := [], laidByText := true, laidKinds := [.sentinel, .sentinel, .sentinel, .sentinel, .sentinel, .sentinel], laidTests := true, laidLooks := .later }
def FnExactRunOnceUptoCardSaid : Prop := Claim7.holds Tryd.pinned (.plain (OpenSpec.upto fnExactRunOnceSpec)) fnExactRunOnceUptoCard

/-- THE SECOND FORM's CARD OF 'laws.FnExactRunRounds'. -/
def fnExactRunRoundsUptoCard : Claim7 := { stood := { row := fnExactRunRoundsUptoRow, standIns := [], harness := (true, "8e9ba8cd121565f4cd463d8fac22eef56f3c7c5cdd49b15fb29900845cb49f55"), looks := true }, kinds := [], alts := [], laidByText := true, laidKinds := [.sentinel, .sentinel, .sentinel, .sentinel, .sentinel, .sentinel], laidTests := true, laidLooks := .later }
def FnExactRunRoundsUptoCardSaid : Prop := Claim7.holds Tryd.pinned (.plain (OpenSpec.upto fnExactRunRoundsSpec)) fnExactRunRoundsUptoCard

/-- THE SECOND FORM's CARD OF 'laws.FnExactRunUntil'. -/
def fnExactRunUntilUptoCard : Claim7 := { stood := { row := fnExactRunUntilUptoRow, standIns := [], harness := (true, "8e9ba8cd121565f4cd463d8fac22eef56f3c7c5cdd49b15fb29900845cb49f55"), looks := true }, kinds := [], alts := [], laidByText := true, laidKinds := [.sentinel, .sentinel, .sentinel, .sentinel, .sentinel, .sentinel], laidTests := true, laidLooks := .later }
def FnExactRunUntilUptoCardSaid : Prop := Claim7.holds Tryd.pinned (.plain (OpenSpec.upto fnExactRunUntilSpec)) fnExactRunUntilUptoCard

/-- THE SECOND FORM's CARD OF 'laws.FnExactIsCalm'. -/
def fnExactIsCalmUptoCard : Claim7 := { stood := { row := fnExactIsCalmUptoRow, standIns := [], harness := (true, "8e9ba8cd121565f4cd463d8fac22eef56f3c7c5cdd49b15fb29900845cb49f55"), looks := true }, kinds := [], alts := [], laidByText := true, laidKinds := [.sentinel, .sentinel, .sentinel, .sentinel, .sentinel, .sentinel], laidTests := true, laidLooks := .later }
def FnExactIsCalmUptoCardSaid : Prop := Claim7.holds Tryd.pinned (.plain (OpenSpec.upto fnExactIsCalmSpec)) fnExactIsCalmUptoCard

/-- THE SECOND FORM's CARD OF 'laws.FnExactDryStep'. -/
def fnExactDryStepUptoCard : Claim7 := { stood := { row := fnExactDryStepUptoRow, standIns := [], harness := (true, "8e9ba8cd121565f4cd463d8fac22eef56f3c7c5cdd49b15fb29900845cb49f55"), looks := true }, kinds := [], alts := [], laidByText := true, laidKinds := [.sentinel, .sentinel, .sentinel, .sentinel, .sentinel, .sentinel], laidTests := true, laidLooks := .later }
def FnExactDryStepUptoCardSaid : Prop := Claim7.holds Tryd.pinned (.plain (OpenSpec.upto fnExactDryStepSpec)) fnExactDryStepUptoCard

/-- THE SECOND FORM's CARD OF 'laws.FnExactDryRounds'. -/
def fnExactDryRoundsUptoCard : Claim7 := { stood := { row := fnExactDryRoundsUptoRow, standIns := [], harness := (true, "8e9ba8cd121565f4cd463d8fac22eef56f3c7c5cdd49b15fb29900845cb49f55"), looks := true }, kinds := [], alts := [], laidByText := true, laidKinds := [.sentinel, .sentinel, .sentinel, .sentinel, .sentinel, .sentinel], laidTests := true, laidLooks := .later }
def FnExactDryRoundsUptoCardSaid : Prop := Claim7.holds Tryd.pinned (.plain (OpenSpec.upto fnExactDryRoundsSpec)) fnExactDryRoundsUptoCard

/-- THE SECOND FORM's CARD OF 'laws.FnExactWettestCell'. -/
def fnExactWettestCellUptoCard : Claim7 := { stood := { row := fnExactWettestCellUptoRow, standIns := [], harness := (true, "8e9ba8cd121565f4cd463d8fac22eef56f3c7c5cdd49b15fb29900845cb49f55"), looks := true }, kinds := [], alts := [], laidByText := true, laidKinds := [.sentinel, .sentinel, .sentinel, .sentinel, .sentinel, .sentinel, .sentinel], laidTests := true, laidLooks := .later }
def FnExactWettestCellUptoCardSaid : Prop := Claim7.holds Tryd.pinned (.plain (OpenSpec.upto fnExactWettestCellSpec)) fnExactWettestCellUptoCard

/-- THE SECOND FORM's CARD OF 'laws.FnExactSoakCell'. -/
def fnExactSoakCellUptoCard : Claim7 := { stood := { row := fnExactSoakCellUptoRow, standIns := [], harness := (true, "8e9ba8cd121565f4cd463d8fac22eef56f3c7c5cdd49b15fb29900845cb49f55"), looks := true }, kinds := [], alts := [], laidByText := true, laidKinds := [.sentinel, .sentinel, .sentinel, .sentinel, .sentinel, .sentinel], laidTests := true, laidLooks := .later }
def FnExactSoakCellUptoCardSaid : Prop := Claim7.holds Tryd.pinned (.plain (OpenSpec.upto fnExactSoakCellSpec)) fnExactSoakCellUptoCard
end Rows
end Go.Proofs.YthingjkhkncccaaDoor
