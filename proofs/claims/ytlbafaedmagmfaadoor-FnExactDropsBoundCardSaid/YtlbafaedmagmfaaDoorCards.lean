/-
  DERIVED. GIVEN WITH THE SEED: THE CARDS: each row of YtlbafaedmagmfaaDoorRows.lean that lists a variable, with what it lists TIED to the program's text (the seventh form; the later family's looks); each row that meets fmt, with fmt's text TOLD by the authors' own Lean function (tested against real Go, not proved from fmt's source: count such statements apart). THE CARD IS WHAT COUNTS. Prove the row's statement (the work); the ties are given (YtlbafaedmagmfaaDoorTie.lean); close each card by the builder's one call (the guide's Derived/Test/ToyasCard.lean, 'card_holds'). Laid BY PROGRAM, IN A SANDBOX (cutbox-door.mjs). By AI agents, Wed Nov 11 2026. No macro, syntax, notation, axiom, sorry.
-/
import Derived.Test.YtlbafaedmagmfaaDoorRows
import GoSem.ClaimSeven
namespace Go.Proofs.YtlbafaedmagmfaaDoor
namespace Rows

/-- THE TIED CARD OF 'laws.FnExactDyedCells'. -/
def fnExactDyedCellsCard : Claim7 := { stood := { row := fnExactDyedCellsRow, standIns := [], harness := (true, "5a07a0ff198ee7624dddb5937bbec703293f2865a06f3fde5e8562cbe005d4b7"), looks := true }, kinds := [], alts := [], laidByText := true, laidKinds := [.sentinel, .sentinel, .sentinel, .sentinel, .sentinel, .sentinel], laidTests := true, laidLooks := .later }
def FnExactDyedCellsCardSaid : Prop := Claim7.holds Tryd.pinned (.plain (OpenSpec.ofChange fnExactDyedCellsSpec)) fnExactDyedCellsCard

/-- THE TIED CARD OF 'laws.FnExactRingsOf'. -/
def fnExactRingsOfCard : Claim7 := { stood := { row := fnExactRingsOfRow, standIns := [], harness := (true, "5a07a0ff198ee7624dddb5937bbec703293f2865a06f3fde5e8562cbe005d4b7"), looks := true }, kinds := [], alts := [], laidByText := true, laidKinds := [.sentinel, .sentinel, .sentinel, .sentinel, .sentinel, .sentinel], laidTests := true, laidLooks := .later }
def FnExactRingsOfCardSaid : Prop := Claim7.holds Tryd.pinned (.plain (OpenSpec.ofChange fnExactRingsOfSpec)) fnExactRingsOfCard

/-- THE TIED CARD OF 'laws.FnExactDriesIn'. -/
def fnExactDriesInCard : Claim7 := { stood := { row := fnExactDriesInRow, standIns := [], harness := (true, "5a07a0ff198ee7624dddb5937bbec703293f2865a06f3fde5e8562cbe005d4b7"), looks := true }, kinds := [], alts := [], laidByText := true, laidKinds := [.sentinel, .sentinel, .sentinel, .sentinel, .sentinel, .sentinel, .sentinel], laidTests := true, laidLooks := .later }
def FnExactDriesInCardSaid : Prop := Claim7.holds Tryd.pinned (.plain (OpenSpec.ofChange fnExactDriesInSpec)) fnExactDriesInCard

/-- THE TIED CARD OF 'laws.FnExactLastWet'. -/
def fnExactLastWetCard : Claim7 := { stood := { row := fnExactLastWetRow, standIns := [], harness := (true, "5a07a0ff198ee7624dddb5937bbec703293f2865a06f3fde5e8562cbe005d4b7"), looks := true }, kinds := [], alts := [], laidByText := true, laidKinds := [.sentinel, .sentinel, .sentinel, .sentinel, .sentinel, .sentinel, .sentinel], laidTests := true, laidLooks := .later }
def FnExactLastWetCardSaid : Prop := Claim7.holds Tryd.pinned (.plain (OpenSpec.ofChange fnExactLastWetSpec)) fnExactLastWetCard

/-- THE TIED CARD OF 'laws.FnExactRingCells'. -/
def fnExactRingCellsCard : Claim7 := { stood := { row := fnExactRingCellsRow, standIns := [], harness := (true, "5a07a0ff198ee7624dddb5937bbec703293f2865a06f3fde5e8562cbe005d4b7"), looks := true }, kinds := [], alts := [], laidByText := true, laidKinds := [.sentinel, .sentinel, .sentinel, .sentinel, .sentinel, .sentinel], laidTests := true, laidLooks := .later }
def FnExactRingCellsCardSaid : Prop := Claim7.holds Tryd.pinned (.plain (OpenSpec.ofChange fnExactRingCellsSpec)) fnExactRingCellsCard

/-- THE TIED CARD OF 'laws.FnExactEdgeCells'. -/
def fnExactEdgeCellsCard : Claim7 := { stood := { row := fnExactEdgeCellsRow, standIns := [], harness := (true, "5a07a0ff198ee7624dddb5937bbec703293f2865a06f3fde5e8562cbe005d4b7"), looks := true }, kinds := [], alts := [], laidByText := true, laidKinds := [.sentinel, .sentinel, .sentinel, .sentinel, .sentinel, .sentinel], laidTests := true, laidLooks := .later }
def FnExactEdgeCellsCardSaid : Prop := Claim7.holds Tryd.pinned (.plain (OpenSpec.ofChange fnExactEdgeCellsSpec)) fnExactEdgeCellsCard

/-- THE TIED CARD OF 'laws.FnExactStainOf'. -/
def fnExactStainOfCard : Claim7 := { stood := { row := fnExactStainOfRow, standIns := [], harness := (true, "5a07a0ff198ee7624dddb5937bbec703293f2865a06f3fde5e8562cbe005d4b7"), looks := true }, kinds := [], alts := [], laidByText := true, laidKinds := [.sentinel, .sentinel, .sentinel, .sentinel, .sentinel, .sentinel], laidTests := true, laidLooks := .later }
def FnExactStainOfCardSaid : Prop := Claim7.holds Tryd.pinned (.plain (OpenSpec.ofChange fnExactStainOfSpec)) fnExactStainOfCard

/-- THE TIED CARD OF 'laws.FnExactSpreadSteps'. -/
def fnExactSpreadStepsCard : Claim7 := { stood := { row := fnExactSpreadStepsRow, standIns := [], harness := (true, "5a07a0ff198ee7624dddb5937bbec703293f2865a06f3fde5e8562cbe005d4b7"), looks := true }, kinds := [], alts := [], laidByText := true, laidKinds := [.sentinel, .sentinel, .sentinel, .sentinel, .sentinel, .sentinel], laidTests := true, laidLooks := .later }
def FnExactSpreadStepsCardSaid : Prop := Claim7.holds Tryd.pinned (.plain (OpenSpec.ofChange fnExactSpreadStepsSpec)) fnExactSpreadStepsCard

/-- THE TIED CARD OF 'laws.FnExactMixFor'. -/
def fnExactMixForCard : Claim7 := { stood := { row := fnExactMixForRow, standIns := [], harness := (true, "5a07a0ff198ee7624dddb5937bbec703293f2865a06f3fde5e8562cbe005d4b7"), looks := true }, kinds := [], alts := [], laidByText := true, laidKinds := [.sentinel, .sentinel, .sentinel, .sentinel, .sentinel, .sentinel], laidTests := true, laidLooks := .later }
def FnExactMixForCardSaid : Prop := Claim7.holds Tryd.pinned (.plain (OpenSpec.ofChange fnExactMixForSpec)) fnExactMixForCard

/-- THE TIED CARD OF 'laws.FnExactDropsBound'. -/
def fnExactDropsBoundCard : Claim7 := { stood := { row := fnExactDropsBoundRow, standIns := [], harness := (true, "5a07a0ff198ee7624dddb5937bbec703293f2865a06f3fde5e8562cbe005d4b7"), looks := true }, kinds := [], alts := [], laidByText := true, laidKinds := [.sentinel, .sentinel, .sentinel, .sentinel, .sentinel, .sentinel], laidTests := true, laidLooks := .later }
def FnExactDropsBoundCardSaid : Prop := Claim7.holds Tryd.pinned (.plain (OpenSpec.ofChange fnExactDropsBoundSpec)) fnExactDropsBoundCard

/-- THE TIED CARD OF 'laws.FnExactPeelAll'. -/
def fnExactPeelAllCard : Claim7 := { stood := { row := fnExactPeelAllRow, standIns := [], harness := (true, "5a07a0ff198ee7624dddb5937bbec703293f2865a06f3fde5e8562cbe005d4b7"), looks := true }, kinds := [], alts := [], laidByText := true, laidKinds := [.sentinel, .sentinel, .sentinel, .sentinel, .sentinel, .sentinel, .sentinel], laidTests := true, laidLooks := .later }
def FnExactPeelAllCardSaid : Prop := Claim7.holds Tryd.pinned (.plain (OpenSpec.ofChange fnExactPeelAllSpec)) fnExactPeelAllCard

/-- THE TIED CARD OF 'laws.FnExactSpreadCells'. -/
def fnExactSpreadCellsCard : Claim7 := { stood := { row := fnExactSpreadCellsRow, standIns := [], harness := (true, "5a07a0ff198ee7624dddb5937bbec703293f2865a06f3fde5e8562cbe005d4b7"), looks := true }, kinds := [], alts := [], laidByText := true, laidKinds := [.sentinel, .sentinel, .sentinel, .sentinel, .sentinel, .sentinel], laidTests := true, laidLooks := .later }
def FnExactSpreadCellsCardSaid : Prop := Claim7.holds Tryd.pinned (.plain (OpenSpec.ofChange fnExactSpreadCellsSpec)) fnExactSpreadCellsCard

/-- THE SECOND FORM's CARD OF 'laws.FnExactDyedCells'. -/
def fnExactDyedCellsUptoCard : Claim7 := { stood := { row := fnExactDyedCellsUptoRow, standIns := [], harness := (true, "5a07a0ff198ee7624dddb5937bbec703293f2865a06f3fde5e8562cbe005d4b7"), looks := true }, kinds := [], alts := [], laidByText := true, laidKinds := [.sentinel, .sentinel, .sentinel, .sentinel, .sentinel, .sentinel], laidTests := true, laidLooks := .later }
def FnExactDyedCellsUptoCardSaid : Prop := Claim7.holds Tryd.pinned (.plain (OpenSpec.upto fnExactDyedCellsSpec)) fnExactDyedCellsUptoCard

/-- THE SECOND FORM's CARD OF 'laws.FnExactRingsOf'. -/
def fnExactRingsOfUptoCard : Claim7 := { stood := { row := fnExactRingsOfUptoRow, standIns := [], harness := (true, "5a07a0ff198ee7624dddb5937bbec703293f2865a06f3fde5e8562cbe005d4b7"), looks := true }, kinds := [], alts := [], laidByText := true, laidKinds := [.sentinel, .sentinel, .sentinel, .sentinel, .sentinel, .sentinel], laidTests := true, laidLooks := .later }
def FnExactRingsOfUptoCardSaid : Prop := Claim7.holds Tryd.pinned (.plain (OpenSpec.upto fnExactRingsOfSpec)) fnExactRingsOfUptoCard

/-- THE SECOND FORM's CARD OF 'laws.FnExactDriesIn'. -/
def fnExactDriesInUptoCard : Claim7 := { stood := { row := fnExactDriesInUptoRow, standIns := [], harness := (true, "5a07a0ff198ee7624dddb5937bbec703293f2865a06f3fde5e8562cbe005d4b7"), looks := true }, kinds := [], alts := [], laidByText := true, laidKinds := [.sentinel, .sentinel, .sentinel, .sentinel, .sentinel, .sentinel, .sentinel], laidTests := true, laidLooks := .later }
def FnExactDriesInUptoCardSaid : Prop := Claim7.holds Tryd.pinned (.plain (OpenSpec.upto fnExactDriesInSpec)) fnExactDriesInUptoCard

/-- THE SECOND FORM's CARD OF 'laws.FnExactLastWet'. -/
def fnExactLastWetUptoCard : Claim7 := { stood := { row := fnExactLastWetUptoRow, standIns := [], harness := (true, "5a07a0ff198ee7624dddb5937bbec703293f2865a06f3fde5e8562cbe005d4b7"), looks := true }, kinds := [], alts := [], laidByText := true, laidKinds := [.sentinel, .sentinel, .sentinel, .sentinel, .sentinel, .sentinel, .sentinel], laidTests := true, laidLooks := .later }
def FnExactLastWetUptoCardSaid : Prop := Claim7.holds Tryd.pinned (.plain (OpenSpec.upto fnExactLastWetSpec)) fnExactLastWetUptoCard

/-- THE SECOND FORM's CARD OF 'laws.FnExactRingCells'. -/
def fnExactRingCellsUptoCard : Claim7 := { stood := { row := fnExactRingCellsUptoRow, standIns := [], harness := (true, "5a07a0ff198ee7624dddb5937bbec703293f2865a06f3fde5e8562cbe005d4b7"), looks := true }, kinds := [], alts := [], laidByText := true, laidKinds := [.sentinel, .sentinel, .sentinel, .sentinel, .sentinel, .sentinel], laidTests := true, laidLooks := .later }
def FnExactRingCellsUptoCardSaid : Prop := Claim7.holds Tryd.pinned (.plain (OpenSpec.upto fnExactRingCellsSpec)) fnExactRingCellsUptoCard

/-- THE SECOND FORM's CARD OF 'laws.FnExactEdgeCells'. -/
def fnExactEdgeCellsUptoCard : Claim7 := { stood := { row := fnExactEdgeCellsUptoRow, standIns := [], harness := (true, "5a07a0ff198ee7624dddb5937bbec703293f2865a06f3fde5e8562cbe005d4b7"), looks := true }, kinds := [], alts := [], laidByText := true, laidKinds := [.sentinel, .sentinel, .sentinel, .sentinel, .sentinel, .sentinel], laidTests := true, laidLooks := .later }
def FnExactEdgeCellsUptoCardSaid : Prop := Claim7.holds Tryd.pinned (.plain (OpenSpec.upto fnExactEdgeCellsSpec)) fnExactEdgeCellsUptoCard

/-- THE SECOND FORM's CARD OF 'laws.FnExactStainOf'. -/
def fnExactStainOfUptoCard : Claim7 := { stood := { row := fnExactStainOfUptoRow, standIns := [], harness := (true, "5a07a0ff198ee7624dddb5937bbec703293f2865a06f3fde5e8562cbe005d4b7"), looks := true }, kinds := [], alts := [], laidByText := true, laidKinds := [.sentinel, .sentinel, .sentinel, .sentinel, .sentinel, .sentinel], laidTests := true, laidLooks := .later }
def FnExactStainOfUptoCardSaid : Prop := Claim7.holds Tryd.pinned (.plain (OpenSpec.upto fnExactStainOfSpec)) fnExactStainOfUptoCard

/-- THE SECOND FORM's CARD OF 'laws.FnExactSpreadSteps'. -/
def fnExactSpreadStepsUptoCard : Claim7 := { stood := { row := fnExactSpreadStepsUptoRow, standIns := [], harness := (true, "5a07a0ff198ee7624dddb5937bbec703293f2865a06f3fde5e8562cbe005d4b7"), looks := true }, kinds := [], alts := [], laidByText := true, laidKinds := [.sentinel, .sentinel, .sentinel, .sentinel, .sentinel, .sentinel], laidTests := true, laidLooks := .later }
def FnExactSpreadStepsUptoCardSaid : Prop := Claim7.holds Tryd.pinned (.plain (OpenSpec.upto fnExactSpreadStepsSpec)) fnExactSpreadStepsUptoCard

/-- THE SECOND FORM's CARD OF 'laws.FnExactMixFor'. -/
def fnExactMixForUptoCard : Claim7 := { stood := { row := fnExactMixForUptoRow, standIns := [], harness := (true, "5a07a0ff198ee7624dddb5937bbec703293f2865a06f3fde5e8562cbe005d4b7"), looks := true }, kinds := [], alts := [], laidByText := true, laidKinds := [.sentinel, .sentinel, .sentinel, .sentinel, .sentinel, .sentinel], laidTests := true, laidLooks := .later }
def FnExactMixForUptoCardSaid : Prop := Claim7.holds Tryd.pinned (.plain (OpenSpec.upto fnExactMixForSpec)) fnExactMixForUptoCard

/-- THE SECOND FORM's CARD OF 'laws.FnExactDropsBound'. -/
def fnExactDropsBoundUptoCard : Claim7 := { stood := { row := fnExactDropsBoundUptoRow, standIns := [], harness := (true, "5a07a0ff198ee7624dddb5937bbec703293f2865a06f3fde5e8562cbe005d4b7"), looks := true }, kinds := [], alts := [], laidByText := true, laidKinds := [.sentinel, .sentinel, .sentinel, .sentinel, .sentinel, .sentinel], laidTests := true, laidLooks := .later }
def FnExactDropsBoundUptoCardSaid : Prop := Claim7.holds Tryd.pinned (.plain (OpenSpec.upto fnExactDropsBoundSpec)) fnExactDropsBoundUptoCard

/-- THE SECOND FORM's CARD OF 'laws.FnExactPeelAll'. -/
def fnExactPeelAllUptoCard : Claim7 := { stood := { row := fnExactPeelAllUptoRow, standIns := [], harness := (true, "5a07a0ff198ee7624dddb5937bbec703293f2865a06f3fde5e8562cbe005d4b7"), looks := true }, kinds := [], alts := [], laidByText := true, laidKinds := [.sentinel, .sentinel, .sentinel, .sentinel, .sentinel, .sentinel, .sentinel], laidTests := true, laidLooks := .later }
def FnExactPeelAllUptoCardSaid : Prop := Claim7.holds Tryd.pinned (.plain (OpenSpec.upto fnExactPeelAllSpec)) fnExactPeelAllUptoCard

/-- THE SECOND FORM's CARD OF 'laws.FnExactSpreadCells'. -/
def fnExactSpreadCellsUptoCard : Claim7 := { stood := { row := fnExactSpreadCellsUptoRow, standIns := [], harness := (true, "5a07a0ff198ee7624dddb5937bbec703293f2865a06f3fde5e8562cbe005d4b7"), looks := true }, kinds := [], alts := [], laidByText := true, laidKinds := [.sentinel, .sentinel, .sentinel, .sentinel, .sentinel, .sentinel], laidTests := true, laidLooks := .later }
def FnExactSpreadCellsUptoCardSaid : Prop := Claim7.holds Tryd.pinned (.plain (OpenSpec.upto fnExactSpreadCellsSpec)) fnExactSpreadCellsUptoCard
end Rows
end Go.Proofs.YtlbafaedmagmfaaDoor
