/-
  DERIVED. GIVEN WITH THE SEED: THE CARDS: each row of YtbhkcfmnemmncaaDoorRows.lean that lists a variable, with what it lists TIED to the program's text (the seventh form; the later family's looks); each row that meets fmt, with fmt's text TOLD by the authors' own Lean function (tested against real Go, not proved from fmt's source: count such statements apart). THE CARD IS WHAT COUNTS. Prove the row's statement (the work); the ties are given (YtbhkcfmnemmncaaDoorTie.lean); close each card by the builder's one call (the guide's Derived/Test/ToyasCard.lean, 'card_holds'). Laid BY PROGRAM, IN A SANDBOX (cutbox-door.mjs). By AI agents, Wed Nov 11 2026. No macro, syntax, notation, axiom, sorry.
-/
import Derived.Test.YtbhkcfmnemmncaaDoorRows
import GoSem.ClaimSeven
namespace Go.Proofs.YtbhkcfmnemmncaaDoor
namespace Rows

/-- THE TIED CARD OF 'laws.FnExactGiveUnit'. -/
def fnExactGiveUnitCard : Claim7 := { stood := { row := fnExactGiveUnitRow, standIns := [], harness := (true, "b0f7178318730eda17c80e9fdf030c963dd77edd1aaebdc791281683555a5ad0"), looks := true }, kinds := [], alts := [], laidByText := true, laidKinds := [.sentinel, .sentinel, .sentinel, .sentinel, .sentinel, .sentinel], laidTests := true, laidLooks := .later }
def FnExactGiveUnitCardSaid : Prop := Claim7.holds Tryd.pinned (.plain (OpenSpec.ofChange fnExactGiveUnitSpec)) fnExactGiveUnitCard

/-- THE TIED CARD OF 'laws.FnExactRunOnce'. -/
def fnExactRunOnceCard : Claim7 := { stood := { row := fnExactRunOnceRow, standIns := [], harness := (true, "b0f7178318730eda17c80e9fdf030c963dd77edd1aaebdc791281683555a5ad0"), looks := true }, kinds := [], alts := [], laidByText := true, laidKinds := [.sentinel, .sentinel, .sentinel, .sentinel, .sentinel, .sentinel], laidTests := true, laidLooks := .later }
def FnExactRunOnceCardSaid : Prop := Claim7.holds Tryd.pinned (.plain (OpenSpec.ofChange fnExactRunOnceSpec)) fnExactRunOnceCard

/-- THE TIED CARD OF 'laws.FnExactRunRounds'. -/
def fnExactRunRoundsCard : Claim7 := { stood := { row := fnExactRunRoundsRow, standIns := [], harness := (true, "b0f7178318730eda17c80e9fdf030c963dd77edd1aaebdc791281683555a5ad0"), looks := true }, kinds := [], alts := [], laidByText := true, laidKinds := [.sentinel, .sentinel, .sentinel, .sentinel, .sentinel, .sentinel], laidTests := true, laidLooks := .later }
def FnExactRunRoundsCardSaid : Prop := Claim7.holds Tryd.pinned (.plain (OpenSpec.ofChange fnExactRunRoundsSpec)) fnExactRunRoundsCard

/-- THE TIED CARD OF 'laws.FnExactRunUntil'. -/
def fnExactRunUntilCard : Claim7 := { stood := { row := fnExactRunUntilRow, standIns := [], harness := (true, "b0f7178318730eda17c80e9fdf030c963dd77edd1aaebdc791281683555a5ad0"), looks := true }, kinds := [], alts := [], laidByText := true, laidKinds := [.sentinel, .sentinel, .sentinel, .sentinel, .sentinel, .sentinel], laidTests := true, laidLooks := .later }
def FnExactRunUntilCardSaid : Prop := Claim7.holds Tryd.pinned (.plain (OpenSpec.ofChange fnExactRunUntilSpec)) fnExactRunUntilCard

/-- THE TIED CARD OF 'laws.FnExactIsCalm'. -/
def fnExactIsCalmCard : Claim7 := { stood := { row := fnExactIsCalmRow, standIns := [], harness := (true, "b0f7178318730eda17c80e9fdf030c963dd77edd1aaebdc791281683555a5ad0"), looks := true }, kinds := [], alts := [], laidByText := true, laidKinds := [.sentinel, .sentinel, .sentinel, .sentinel, .sentinel, .sentinel], laidTests := true, laidLooks := .later }
def FnExactIsCalmCardSaid : Prop := Claim7.holds Tryd.pinned (.plain (OpenSpec.ofChange fnExactIsCalmSpec)) fnExactIsCalmCard

/-- THE TIED CARD OF 'laws.FnExactDryStep'. -/
def fnExactDryStepCard : Claim7 := { stood := { row := fnExactDryStepRow, standIns := [], harness := (true, "b0f7178318730eda17c80e9fdf030c963dd77edd1aaebdc791281683555a5ad0"), looks := true }, kinds := [], alts := [], laidByText := true, laidKinds := [.sentinel, .sentinel, .sentinel, .sentinel, .sentinel, .sentinel], laidTests := true, laidLooks := .later }
def FnExactDryStepCardSaid : Prop := Claim7.holds Tryd.pinned (.plain (OpenSpec.ofChange fnExactDryStepSpec)) fnExactDryStepCard

/-- THE TIED CARD OF 'laws.FnExactDryRounds'. -/
def fnExactDryRoundsCard : Claim7 := { stood := { row := fnExactDryRoundsRow, standIns := [], harness := (true, "b0f7178318730eda17c80e9fdf030c963dd77edd1aaebdc791281683555a5ad0"), looks := true }, kinds := [], alts := [], laidByText := true, laidKinds := [.sentinel, .sentinel, .sentinel, .sentinel, .sentinel, .sentinel], laidTests := true, laidLooks := .later }
def FnExactDryRoundsCardSaid : Prop := Claim7.holds Tryd.pinned (.plain (OpenSpec.ofChange fnExactDryRoundsSpec)) fnExactDryRoundsCard

/-- THE TIED CARD OF 'laws.FnExactDriesIn'. -/
def fnExactDriesInCard : Claim7 := { stood := { row := fnExactDriesInRow, standIns := [], harness := (true, "b0f7178318730eda17c80e9fdf030c963dd77edd1aaebdc791281683555a5ad0"), looks := true }, kinds := [], alts := [], laidByText := true, laidKinds := [.sentinel, .sentinel, .sentinel, .sentinel, .sentinel, .sentinel, .sentinel], laidTests := true, laidLooks := .later }
def FnExactDriesInCardSaid : Prop := Claim7.holds Tryd.pinned (.plain (OpenSpec.ofChange fnExactDriesInSpec)) fnExactDriesInCard

/-- THE TIED CARD OF 'laws.FnExactLastWet'. -/
def fnExactLastWetCard : Claim7 := { stood := { row := fnExactLastWetRow, standIns := [], harness := (true, "b0f7178318730eda17c80e9fdf030c963dd77edd1aaebdc791281683555a5ad0"), looks := true }, kinds := [], alts := [], laidByText := true, laidKinds := [.sentinel, .sentinel, .sentinel, .sentinel, .sentinel, .sentinel, .sentinel], laidTests := true, laidLooks := .later }
def FnExactLastWetCardSaid : Prop := Claim7.holds Tryd.pinned (.plain (OpenSpec.ofChange fnExactLastWetSpec)) fnExactLastWetCard

/-- THE TIED CARD OF 'laws.FnExactRunAndDry'. -/
def fnExactRunAndDryCard : Claim7 := { stood := { row := fnExactRunAndDryRow, standIns := [], harness := (true, "b0f7178318730eda17c80e9fdf030c963dd77edd1aaebdc791281683555a5ad0"), looks := true }, kinds := [], alts := [], laidByText := true, laidKinds := [.sentinel, .sentinel, .sentinel, .sentinel, .sentinel, .sentinel], laidTests := true, laidLooks := .later }
def FnExactRunAndDryCardSaid : Prop := Claim7.holds Tryd.pinned (.plain (OpenSpec.ofChange fnExactRunAndDrySpec)) fnExactRunAndDryCard

/-- THE TIED CARD OF 'laws.FnExactBlotOnto'. -/
def fnExactBlotOntoCard : Claim7 := { stood := { row := fnExactBlotOntoRow, standIns := [], harness := (true, "b0f7178318730eda17c80e9fdf030c963dd77edd1aaebdc791281683555a5ad0"), looks := true }, kinds := [], alts := [], laidByText := true, laidKinds := [.sentinel, .sentinel, .sentinel, .sentinel, .sentinel, .sentinel], laidTests := true, laidLooks := .later }
def FnExactBlotOntoCardSaid : Prop := Claim7.holds Tryd.pinned (.plain (OpenSpec.ofChange fnExactBlotOntoSpec)) fnExactBlotOntoCard

/-- THE TIED CARD OF 'laws.FnExactBlotRounds'. -/
def fnExactBlotRoundsCard : Claim7 := { stood := { row := fnExactBlotRoundsRow, standIns := [], harness := (true, "b0f7178318730eda17c80e9fdf030c963dd77edd1aaebdc791281683555a5ad0"), looks := true }, kinds := [], alts := [], laidByText := true, laidKinds := [.sentinel, .sentinel, .sentinel, .sentinel, .sentinel, .sentinel], laidTests := true, laidLooks := .later }
def FnExactBlotRoundsCardSaid : Prop := Claim7.holds Tryd.pinned (.plain (OpenSpec.ofChange fnExactBlotRoundsSpec)) fnExactBlotRoundsCard

/-- THE SECOND FORM's CARD OF 'laws.FnExactGiveUnit'. -/
def fnExactGiveUnitUptoCard : Claim7 := { stood := { row := fnExactGiveUnitUptoRow, standIns := [], harness := (true, "b0f7178318730eda17c80e9fdf030c963dd77edd1aaebdc791281683555a5ad0"), looks := true }, kinds := [], alts := [], laidByText := true, laidKinds := [.sentinel, .sentinel, .sentinel, .sentinel, .sentinel, .sentinel], laidTests := true, laidLooks := .later }
def FnExactGiveUnitUptoCardSaid : Prop := Claim7.holds Tryd.pinned (.plain (OpenSpec.upto fnExactGiveUnitSpec)) fnExactGiveUnitUptoCard

/-- THE SECOND FORM's CARD OF 'laws.FnExactRunOnce'. -/
def fnExactRunOnceUptoCard : Claim7 := { stood := { row := fnExactRunOnceUptoRow, standIns := [], harness := (true, "b0f7178318730eda17c80e9fdf030c963dd77edd1aaebdc791281683555a5ad0"), looks := true }, kinds := [], alts := [], laidByText := true, laidKinds := [.sentinel, .sentinel, .sentinel, .sentinel, .sentinel, .sentinel], laidTests := true, laidLooks := .later }
def FnExactRunOnceUptoCardSaid : Prop := Claim7.holds Tryd.pinned (.plain (OpenSpec.upto fnExactRunOnceSpec)) fnExactRunOnceUptoCard

/-- THE SECOND FORM's CARD OF 'laws.FnExactRunRounds'. -/
def fnExactRunRoundsUptoCard : Claim7 := { stood := { row := fnExactRunRoundsUptoRow, standIns := [], harness := (true, "b0f7178318730eda17c80e9fdf030c963dd77edd1aaebdc791281683555a5ad0"), looks := true }, kinds := [], alts := [], laidByText := true, laidKinds := [.sentinel, .sentinel, .sentinel, .sentinel, .sentinel, .sentinel], laidTests := true, laidLooks := .later }
def FnExactRunRoundsUptoCardSaid : Prop := Claim7.holds Tryd.pinned (.plain (OpenSpec.upto fnExactRunRoundsSpec)) fnExactRunRoundsUptoCard

/-- THE SECOND FORM's CARD OF 'laws.FnExactRunUntil'. -/
def fnExactRunUntilUptoCard : Claim7 := { stood := { row := fnExactRunUntilUptoRow, standIns := [], harness := (true, "b0f7178318730eda17c80e9fdf030c963dd77edd1aaebdc791281683555a5ad0"), looks := true }, kinds := [], alts := [], laidByText := true, laidKinds := [.sentinel, .sentinel, .sentinel, .sentinel, .sentinel, .sentinel], laidTests := true, laidLooks := .later }
def FnExactRunUntilUptoCardSaid : Prop := Claim7.holds Tryd.pinned (.plain (OpenSpec.upto fnExactRunUntilSpec)) fnExactRunUntilUptoCard

/-- THE SECOND FORM's CARD OF 'laws.FnExactIsCalm'. -/
def fnExactIsCalmUptoCard : Claim7 := { stood := { row := fnExactIsCalmUptoRow, standIns := [], harness := (true, "b0f7178318730eda17c80e9fdf030c963dd77edd1aaebdc791281683555a5ad0"), looks := true }, kinds := [], alts := [], laidByText := true, laidKinds := [.sentinel, .sentinel, .sentinel, .sentinel, .sentinel, .sentinel], laidTests := true, laidLooks := .later }
def FnExactIsCalmUptoCardSaid : Prop := Claim7.holds Tryd.pinned (.plain (OpenSpec.upto fnExactIsCalmSpec)) fnExactIsCalmUptoCard

/-- THE SECOND FORM's CARD OF 'laws.FnExactDryStep'. -/
def fnExactDryStepUptoCard : Claim7 := { stood := { row := fnExactDryStepUptoRow, standIns := [], harness := (true, "b0f7178318730eda17c80e9fdf030c963dd77edd1aaebdc791281683555a5ad0"), looks := true }, kinds := [], alts := [], laidByText := true, laidKinds := [.sentinel, .sentinel, .sentinel, .sentinel, .sentinel, .sentinel], laidTests := true, laidLooks := .later }
def FnExactDryStepUptoCardSaid : Prop := Claim7.holds Tryd.pinned (.plain (OpenSpec.upto fnExactDryStepSpec)) fnExactDryStepUptoCard

/-- THE SECOND FORM's CARD OF 'laws.FnExactDryRounds'. -/
def fnExactDryRoundsUptoCard : Claim7 := { stood := { row := fnExactDryRoundsUptoRow, standIns := [], harness := (true, "b0f7178318730eda17c80e9fdf030c963dd77edd1aaebdc791281683555a5ad0"), looks := true }, kinds := [], alts := [], laidByText := true, laidKinds := [.sentinel, .sentinel, .sentinel, .sentinel, .sentinel, .sentinel], laidTests := true, laidLooks := .later }
def FnExactDryRoundsUptoCardSaid : Prop := Claim7.holds Tryd.pinned (.plain (OpenSpec.upto fnExactDryRoundsSpec)) fnExactDryRoundsUptoCard

/-- THE SECOND FORM's CARD OF 'laws.FnExactDriesIn'. -/
def fnExactDriesInUptoCard : Claim7 := { stood := { row := fnExactDriesInUptoRow, standIns := [], harness := (true, "b0f7178318730eda17c80e9fdf030c963dd77edd1aaebdc791281683555a5ad0"), looks := true }, kinds := [], alts := [], laidByText := true, laidKinds := [.sentinel, .sentinel, .sentinel, .sentinel, .sentinel, .sentinel, .sentinel], laidTests := true, laidLooks := .later }
def FnExactDriesInUptoCardSaid : Prop := Claim7.holds Tryd.pinned (.plain (OpenSpec.upto fnExactDriesInSpec)) fnExactDriesInUptoCard

/-- THE SECOND FORM's CARD OF 'laws.FnExactLastWet'. -/
def fnExactLastWetUptoCard : Claim7 := { stood := { row := fnExactLastWetUptoRow, standIns := [], harness := (true, "b0f7178318730eda17c80e9fdf030c963dd77edd1aaebdc791281683555a5ad0"), looks := true }, kinds := [], alts := [], laidByText := true, laidKinds := [.sentinel, .sentinel, .sentinel, .sentinel, .sentinel, .sentinel, .sentinel], laidTests := true, laidLooks := .later }
def FnExactLastWetUptoCardSaid : Prop := Claim7.holds Tryd.pinned (.plain (OpenSpec.upto fnExactLastWetSpec)) fnExactLastWetUptoCard

/-- THE SECOND FORM's CARD OF 'laws.FnExactRunAndDry'. -/
def fnExactRunAndDryUptoCard : Claim7 := { stood := { row := fnExactRunAndDryUptoRow, standIns := [], harness := (true, "b0f7178318730eda17c80e9fdf030c963dd77edd1aaebdc791281683555a5ad0"), looks := true }, kinds := [], alts := [], laidByText := true, laidKinds := [.sentinel, .sentinel, .sentinel, .sentinel, .sentinel, .sentinel], laidTests := true, laidLooks := .later }
def FnExactRunAndDryUptoCardSaid : Prop := Claim7.holds Tryd.pinned (.plain (OpenSpec.upto fnExactRunAndDrySpec)) fnExactRunAndDryUptoCard

/-- THE SECOND FORM's CARD OF 'laws.FnExactBlotOnto'. -/
def fnExactBlotOntoUptoCard : Claim7 := { stood := { row := fnExactBlotOntoUptoRow, standIns := [], harness := (true, "b0f7178318730eda17c80e9fdf030c963dd77edd1aaebdc791281683555a5ad0"), looks := true }, kinds := [], alts := [], laidByText := true, laidKinds := [.sentinel, .sentinel, .sentinel, .sentinel, .sentinel, .sentinel], laidTests := true, laidLooks := .later }
def FnExactBlotOntoUptoCardSaid : Prop := Claim7.holds Tryd.pinned (.plain (OpenSpec.upto fnExactBlotOntoSpec)) fnExactBlotOntoUptoCard

/-- THE SECOND FORM's CARD OF 'laws.FnExactBlotRounds'. -/
def fnExactBlotRoundsUptoCard : Claim7 := { stood := { row := fnExactBlotRoundsUptoRow, standIns := [], harness := (true, "b0f7178318730eda17c80e9fdf030c963dd77edd1aaebdc791281683555a5ad0"), looks := true }, kinds := [], alts := [], laidByText := true, laidKinds := [.sentinel, .sentinel, .sentinel, .sentinel, .sentinel, .sentinel], laidTests := true, laidLooks := .later }
def FnExactBlotRoundsUptoCardSaid : Prop := Claim7.holds Tryd.pinned (.plain (OpenSpec.upto fnExactBlotRoundsSpec)) fnExactBlotRoundsUptoCard
end Rows
end Go.Proofs.YtbhkcfmnemmncaaDoor
