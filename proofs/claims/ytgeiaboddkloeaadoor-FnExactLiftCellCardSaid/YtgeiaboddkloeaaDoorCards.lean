/-
  DERIVED. GIVEN WITH THE SEED: THE CARDS: each row of YtgeiaboddkloeaaDoorRows.lean that lists a variable, with what it lists TIED to the program's text (the seventh form; the later family's looks); each row that meets fmt, with fmt's text TOLD by the authors' own Lean function (tested against real Go, not proved from fmt's source: count such statements apart). THE CARD IS WHAT COUNTS. Prove the row's statement (the work); the ties are given (YtgeiaboddkloeaaDoorTie.lean); close each card by the builder's one call (the guide's Derived/Test/ToyasCard.lean, 'card_holds'). Laid BY PROGRAM, IN A SANDBOX (cutbox-door.mjs). By AI agents, Wed Nov 11 2026. No macro, syntax, notation, axiom, sorry.
-/
import Derived.Test.YtgeiaboddkloeaaDoorRows
import GoSem.ClaimSeven
namespace Go.Proofs.YtgeiaboddkloeaaDoor
namespace Rows

/-- THE TIED CARD OF 'laws.FnExactDipBrush'. -/
def fnExactDipBrushCard : Claim7 := { stood := { row := fnExactDipBrushRow, standIns := [], harness := (true, "0b272452fda806b6d57de8dac5b2a1489edbe1360264d196fc01d03ccbe0dc2c"), looks := true }, kinds := [], alts := [], laidByText := true, laidKinds := [.sentinel, .sentinel, .sentinel, .sentinel, .sentinel, .sentinel], laidTests := true, laidLooks := .later }
def FnExactDipBrushCardSaid : Prop := Claim7.holds Tryd.pinned (.plain (OpenSpec.ofChange fnExactDipBrushSpec)) fnExactDipBrushCard

/-- THE TIED CARD OF 'laws.FnExactRinseBrush'. -/
def fnExactRinseBrushCard : Claim7 := { stood := { row := fnExactRinseBrushRow, standIns := [], harness := (true, "0b272452fda806b6d57de8dac5b2a1489edbe1360264d196fc01d03ccbe0dc2c"), looks := true }, kinds := [], alts := [], laidByText := true, laidKinds := [.sentinel, .sentinel, .sentinel, .sentinel, .sentinel, .sentinel], laidTests := true, laidLooks := .later }
def FnExactRinseBrushCardSaid : Prop := Claim7.holds Tryd.pinned (.plain (OpenSpec.ofChange fnExactRinseBrushSpec)) fnExactRinseBrushCard

/-- THE TIED CARD OF 'laws.FnExactLeaveAt'. -/
def fnExactLeaveAtCard : Claim7 := { stood := { row := fnExactLeaveAtRow, standIns := [], harness := (true, "0b272452fda806b6d57de8dac5b2a1489edbe1360264d196fc01d03ccbe0dc2c"), looks := true }, kinds := [], alts := [], laidByText := true, laidKinds := [.sentinel, .sentinel, .sentinel, .sentinel, .sentinel, .sentinel], laidTests := true, laidLooks := .later }
def FnExactLeaveAtCardSaid : Prop := Claim7.holds Tryd.pinned (.plain (OpenSpec.ofChange fnExactLeaveAtSpec)) fnExactLeaveAtCard

/-- THE TIED CARD OF 'laws.FnExactTouchCell'. -/
def fnExactTouchCellCard : Claim7 := { stood := { row := fnExactTouchCellRow, standIns := [], harness := (true, "0b272452fda806b6d57de8dac5b2a1489edbe1360264d196fc01d03ccbe0dc2c"), looks := true }, kinds := [], alts := [], laidByText := true, laidKinds := [.sentinel, .sentinel, .sentinel, .sentinel, .sentinel, .sentinel], laidTests := true, laidLooks := .later }
def FnExactTouchCellCardSaid : Prop := Claim7.holds Tryd.pinned (.plain (OpenSpec.ofChange fnExactTouchCellSpec)) fnExactTouchCellCard

/-- THE TIED CARD OF 'laws.FnExactStrokePath'. -/
def fnExactStrokePathCard : Claim7 := { stood := { row := fnExactStrokePathRow, standIns := [], harness := (true, "0b272452fda806b6d57de8dac5b2a1489edbe1360264d196fc01d03ccbe0dc2c"), looks := true }, kinds := [], alts := [], laidByText := true, laidKinds := [.sentinel, .sentinel, .sentinel, .sentinel, .sentinel, .sentinel], laidTests := true, laidLooks := .later }
def FnExactStrokePathCardSaid : Prop := Claim7.holds Tryd.pinned (.plain (OpenSpec.ofChange fnExactStrokePathSpec)) fnExactStrokePathCard

/-- THE TIED CARD OF 'laws.FnExactCellsUntilDry'. -/
def fnExactCellsUntilDryCard : Claim7 := { stood := { row := fnExactCellsUntilDryRow, standIns := [], harness := (true, "0b272452fda806b6d57de8dac5b2a1489edbe1360264d196fc01d03ccbe0dc2c"), looks := true }, kinds := [], alts := [], laidByText := true, laidKinds := [.sentinel, .sentinel, .sentinel, .sentinel, .sentinel, .sentinel], laidTests := true, laidLooks := .later }
def FnExactCellsUntilDryCardSaid : Prop := Claim7.holds Tryd.pinned (.plain (OpenSpec.ofChange fnExactCellsUntilDrySpec)) fnExactCellsUntilDryCard

/-- THE TIED CARD OF 'laws.FnExactLiftCell'. -/
def fnExactLiftCellCard : Claim7 := { stood := { row := fnExactLiftCellRow, standIns := [], harness := (true, "0b272452fda806b6d57de8dac5b2a1489edbe1360264d196fc01d03ccbe0dc2c"), looks := true }, kinds := [], alts := [], laidByText := true, laidKinds := [.sentinel, .sentinel, .sentinel, .sentinel, .sentinel, .sentinel], laidTests := true, laidLooks := .later }
def FnExactLiftCellCardSaid : Prop := Claim7.holds Tryd.pinned (.plain (OpenSpec.ofChange fnExactLiftCellSpec)) fnExactLiftCellCard

/-- THE SECOND FORM's CARD OF 'laws.FnExactDipBrush'. -/
def fnExactDipBrushUptoCard : Claim7 := { stood := { row := fnExactDipBrushUptoRow, standIns := [], harness := (true, "0b272452fda806b6d57de8dac5b2a1489edbe1360264d196fc01d03ccbe0dc2c"), looks := true }, kinds := [], alts := [], laidByText := true, laidKinds := [.sentinel, .sentinel, .sentinel, .sentinel, .sentinel, .sentinel], laidTests := true, laidLooks := .later }
def FnExactDipBrushUptoCardSaid : Prop := Claim7.holds Tryd.pinned (.plain (OpenSpec.upto fnExactDipBrushSpec)) fnExactDipBrushUptoCard

/-- THE SECOND FORM's CARD OF 'laws.FnExactRinseBrush'. -/
def fnExactRinseBrushUptoCard : Claim7 := { stood := { row := fnExactRinseBrushUptoRow, standIns := [], harness := (true, "0b272452fda806b6d57de8dac5b2a1489edbe1360264d196fc01d03ccbe0dc2c"), looks := true }, kinds := [], alts := [], laidByText := true, laidKinds := [.sentinel, .sentinel, .sentinel, .sentinel, .sentinel, .sentinel], laidTests := true, laidLooks := .later }
def FnExactRinseBrushUptoCardSaid : Prop := Claim7.holds Tryd.pinned (.plain (OpenSpec.upto fnExactRinseBrushSpec)) fnExactRinseBrushUptoCard

/-- THE SECOND FORM's CARD OF 'laws.FnExactLeaveAt'. -/
def fnExactLeaveAtUptoCard : Claim7 := { stood := { row := fnExactLeaveAtUptoRow, standIns := [], harness := (true, "0b272452fda806b6d57de8dac5b2a1489edbe1360264d196fc01d03ccbe0dc2c"), looks := true }, kinds := [], alts := [], laidByText := true, laidKinds := [.sentinel, .sentinel, .sentinel, .sentinel, .sentinel, .sentinel], laidTests := true, laidLooks := .later }
def FnExactLeaveAtUptoCardSaid : Prop := Claim7.holds Tryd.pinned (.plain (OpenSpec.upto fnExactLeaveAtSpec)) fnExactLeaveAtUptoCard

/-- THE SECOND FORM's CARD OF 'laws.FnExactTouchCell'. -/
def fnExactTouchCellUptoCard : Claim7 := { stood := { row := fnExactTouchCellUptoRow, standIns := [], harness := (true, "0b272452fda806b6d57de8dac5b2a1489edbe1360264d196fc01d03ccbe0dc2c"), looks := true }, kinds := [], alts := [], laidByText := true, laidKinds := [.sentinel, .sentinel, .sentinel, .sentinel, .sentinel, .sentinel], laidTests := true, laidLooks := .later }
def FnExactTouchCellUptoCardSaid : Prop := Claim7.holds Tryd.pinned (.plain (OpenSpec.upto fnExactTouchCellSpec)) fnExactTouchCellUptoCard

/-- THE SECOND FORM's CARD OF 'laws.FnExactStrokePath'. -/
def fnExactStrokePathUptoCard : Claim7 := { stood := { row := fnExactStrokePathUptoRow, standIns := [], harness := (true, "0b272452fda806b6d57de8dac5b2a1489edbe1360264d196fc01d03ccbe0dc2c"), looks := true }, kinds := [], alts := [], laidByText := true, laidKinds := [.sentinel, .sentinel, .sentinel, .sentinel, .sentinel, .sentinel], laidTests := true, laidLooks := .later }
def FnExactStrokePathUptoCardSaid : Prop := Claim7.holds Tryd.pinned (.plain (OpenSpec.upto fnExactStrokePathSpec)) fnExactStrokePathUptoCard

/-- THE SECOND FORM's CARD OF 'laws.FnExactCellsUntilDry'. -/
def fnExactCellsUntilDryUptoCard : Claim7 := { stood := { row := fnExactCellsUntilDryUptoRow, standIns := [], harness := (true, "0b272452fda806b6d57de8dac5b2a1489edbe1360264d196fc01d03ccbe0dc2c"), looks := true }, kinds := [], alts := [], laidByText := true, laidKinds := [.sentinel, .sentinel, .sentinel, .sentinel, .sentinel, .sentinel], laidTests := true, laidLooks := .later }
def FnExactCellsUntilDryUptoCardSaid : Prop := Claim7.holds Tryd.pinned (.plain (OpenSpec.upto fnExactCellsUntilDrySpec)) fnExactCellsUntilDryUptoCard

/-- THE SECOND FORM's CARD OF 'laws.FnExactLiftCell'. -/
def fnExactLiftCellUptoCard : Claim7 := { stood := { row := fnExactLiftCellUptoRow, standIns := [], harness := (true, "0b272452fda806b6d57de8dac5b2a1489edbe1360264d196fc01d03ccbe0dc2c"), looks := true }, kinds := [], alts := [], laidByText := true, laidKinds := [.sentinel, .sentinel, .sentinel, .sentinel, .sentinel, .sentinel], laidTests := true, laidLooks := .later }
def FnExactLiftCellUptoCardSaid : Prop := Claim7.holds Tryd.pinned (.plain (OpenSpec.upto fnExactLiftCellSpec)) fnExactLiftCellUptoCard
end Rows
end Go.Proofs.YtgeiaboddkloeaaDoor
