/-
  DERIVED. GIVEN WITH THE SEED: THE CARDS: each row of YtfkialifnkfgcaaDoorRows.lean that lists a variable, with what it lists TIED to the program's text (the seventh form; the later family's looks); each row that meets fmt, with fmt's text TOLD by the authors' own Lean function (tested against real Go, not proved from fmt's source: count such statements apart). THE CARD IS WHAT COUNTS. Prove the row's statement (the work); the ties are given (YtfkialifnkfgcaaDoorTie.lean); close each card by the builder's one call (the guide's Derived/Test/ToyasCard.lean, 'card_holds'). Laid BY PROGRAM, IN A SANDBOX (cutbox-door.mjs). By AI agents, Wed Nov 11 2026. No macro, syntax, notation, axiom, sorry.
-/
import Derived.Test.YtfkialifnkfgcaaDoorRows
import GoSem.ClaimSeven
namespace Go.Proofs.YtfkialifnkfgcaaDoor
namespace Rows

/-- THE TIED CARD OF 'laws.FnExactMirrorSheet'. -/
def fnExactMirrorSheetCard : Claim7 := { stood := { row := fnExactMirrorSheetRow, standIns := [], harness := (true, "2ec3d27bcc692da1847d0e4b1899fea95d0d6c976fdaadea85d0a8770f1e44bf"), looks := true }, kinds := [], alts := [], laidByText := true, laidKinds := [.sentinel, .sentinel, .sentinel, .sentinel, .sentinel, .sentinel], laidTests := true, laidLooks := .later }
def FnExactMirrorSheetCardSaid : Prop := Claim7.holds Tryd.pinned (.plain (OpenSpec.ofChange fnExactMirrorSheetSpec)) fnExactMirrorSheetCard

/-- THE TIED CARD OF 'laws.FnExactDryStep'. -/
def fnExactDryStepCard : Claim7 := { stood := { row := fnExactDryStepRow, standIns := [], harness := (true, "2ec3d27bcc692da1847d0e4b1899fea95d0d6c976fdaadea85d0a8770f1e44bf"), looks := true }, kinds := [], alts := [], laidByText := true, laidKinds := [.sentinel, .sentinel, .sentinel, .sentinel, .sentinel, .sentinel], laidTests := true, laidLooks := .later }
def FnExactDryStepCardSaid : Prop := Claim7.holds Tryd.pinned (.plain (OpenSpec.ofChange fnExactDryStepSpec)) fnExactDryStepCard

/-- THE TIED CARD OF 'laws.FnExactDryRounds'. -/
def fnExactDryRoundsCard : Claim7 := { stood := { row := fnExactDryRoundsRow, standIns := [], harness := (true, "2ec3d27bcc692da1847d0e4b1899fea95d0d6c976fdaadea85d0a8770f1e44bf"), looks := true }, kinds := [], alts := [], laidByText := true, laidKinds := [.sentinel, .sentinel, .sentinel, .sentinel, .sentinel, .sentinel], laidTests := true, laidLooks := .later }
def FnExactDryRoundsCardSaid : Prop := Claim7.holds Tryd.pinned (.plain (OpenSpec.ofChange fnExactDryRoundsSpec)) fnExactDryRoundsCard

/-- THE TIED CARD OF 'laws.FnExactRunAndDry'. -/
def fnExactRunAndDryCard : Claim7 := { stood := { row := fnExactRunAndDryRow, standIns := [], harness := (true, "2ec3d27bcc692da1847d0e4b1899fea95d0d6c976fdaadea85d0a8770f1e44bf"), looks := true }, kinds := [], alts := [], laidByText := true, laidKinds := [.sentinel, .sentinel, .sentinel, .sentinel, .sentinel, .sentinel], laidTests := true, laidLooks := .later }
def FnExactRunAndDryCardSaid : Prop := Claim7.holds Tryd.pinned (.plain (OpenSpec.ofChange fnExactRunAndDrySpec)) fnExactRunAndDryCard

/-- THE TIED CARD OF 'laws.FnExactWaxPath'. -/
def fnExactWaxPathCard : Claim7 := { stood := { row := fnExactWaxPathRow, standIns := [], harness := (true, "2ec3d27bcc692da1847d0e4b1899fea95d0d6c976fdaadea85d0a8770f1e44bf"), looks := true }, kinds := [], alts := [], laidByText := true, laidKinds := [.sentinel, .sentinel, .sentinel, .sentinel, .sentinel, .sentinel], laidTests := true, laidLooks := .later }
def FnExactWaxPathCardSaid : Prop := Claim7.holds Tryd.pinned (.plain (OpenSpec.ofChange fnExactWaxPathSpec)) fnExactWaxPathCard

/-- THE TIED CARD OF 'laws.FnExactBlotOnto'. -/
def fnExactBlotOntoCard : Claim7 := { stood := { row := fnExactBlotOntoRow, standIns := [], harness := (true, "2ec3d27bcc692da1847d0e4b1899fea95d0d6c976fdaadea85d0a8770f1e44bf"), looks := true }, kinds := [], alts := [], laidByText := true, laidKinds := [.sentinel, .sentinel, .sentinel, .sentinel, .sentinel, .sentinel], laidTests := true, laidLooks := .later }
def FnExactBlotOntoCardSaid : Prop := Claim7.holds Tryd.pinned (.plain (OpenSpec.ofChange fnExactBlotOntoSpec)) fnExactBlotOntoCard

/-- THE TIED CARD OF 'laws.FnExactBlotRounds'. -/
def fnExactBlotRoundsCard : Claim7 := { stood := { row := fnExactBlotRoundsRow, standIns := [], harness := (true, "2ec3d27bcc692da1847d0e4b1899fea95d0d6c976fdaadea85d0a8770f1e44bf"), looks := true }, kinds := [], alts := [], laidByText := true, laidKinds := [.sentinel, .sentinel, .sentinel, .sentinel, .sentinel, .sentinel], laidTests := true, laidLooks := .later }
def FnExactBlotRoundsCardSaid : Prop := Claim7.holds Tryd.pinned (.plain (OpenSpec.ofChange fnExactBlotRoundsSpec)) fnExactBlotRoundsCard

/-- THE TIED CARD OF 'laws.FnExactDryStack'. -/
def fnExactDryStackCard : Claim7 := { stood := { row := fnExactDryStackRow, standIns := [], harness := (true, "2ec3d27bcc692da1847d0e4b1899fea95d0d6c976fdaadea85d0a8770f1e44bf"), looks := true }, kinds := [], alts := [], laidByText := true, laidKinds := [.sentinel, .sentinel, .sentinel, .sentinel, .sentinel, .sentinel], laidTests := true, laidLooks := .later }
def FnExactDryStackCardSaid : Prop := Claim7.holds Tryd.pinned (.plain (OpenSpec.ofChange fnExactDryStackSpec)) fnExactDryStackCard

/-- THE TIED CARD OF 'laws.FnExactLeaveAt'. -/
def fnExactLeaveAtCard : Claim7 := { stood := { row := fnExactLeaveAtRow, standIns := [], harness := (true, "2ec3d27bcc692da1847d0e4b1899fea95d0d6c976fdaadea85d0a8770f1e44bf"), looks := true }, kinds := [], alts := [], laidByText := true, laidKinds := [.sentinel, .sentinel, .sentinel, .sentinel, .sentinel, .sentinel], laidTests := true, laidLooks := .later }
def FnExactLeaveAtCardSaid : Prop := Claim7.holds Tryd.pinned (.plain (OpenSpec.ofChange fnExactLeaveAtSpec)) fnExactLeaveAtCard

/-- THE TIED CARD OF 'laws.FnExactTouchCell'. -/
def fnExactTouchCellCard : Claim7 := { stood := { row := fnExactTouchCellRow, standIns := [], harness := (true, "2ec3d27bcc692da1847d0e4b1899fea95d0d6c976fdaadea85d0a8770f1e44bf"), looks := true }, kinds := [], alts := [], laidByText := true, laidKinds := [.sentinel, .sentinel, .sentinel, .sentinel, .sentinel, .sentinel], laidTests := true, laidLooks := .later }
def FnExactTouchCellCardSaid : Prop := Claim7.holds Tryd.pinned (.plain (OpenSpec.ofChange fnExactTouchCellSpec)) fnExactTouchCellCard

/-- THE TIED CARD OF 'laws.FnExactStrokePath'. -/
def fnExactStrokePathCard : Claim7 := { stood := { row := fnExactStrokePathRow, standIns := [], harness := (true, "2ec3d27bcc692da1847d0e4b1899fea95d0d6c976fdaadea85d0a8770f1e44bf"), looks := true }, kinds := [], alts := [], laidByText := true, laidKinds := [.sentinel, .sentinel, .sentinel, .sentinel, .sentinel, .sentinel], laidTests := true, laidLooks := .later }
def FnExactStrokePathCardSaid : Prop := Claim7.holds Tryd.pinned (.plain (OpenSpec.ofChange fnExactStrokePathSpec)) fnExactStrokePathCard

/-- THE TIED CARD OF 'laws.FnExactCellsUntilDry'. -/
def fnExactCellsUntilDryCard : Claim7 := { stood := { row := fnExactCellsUntilDryRow, standIns := [], harness := (true, "2ec3d27bcc692da1847d0e4b1899fea95d0d6c976fdaadea85d0a8770f1e44bf"), looks := true }, kinds := [], alts := [], laidByText := true, laidKinds := [.sentinel, .sentinel, .sentinel, .sentinel, .sentinel, .sentinel], laidTests := true, laidLooks := .later }
def FnExactCellsUntilDryCardSaid : Prop := Claim7.holds Tryd.pinned (.plain (OpenSpec.ofChange fnExactCellsUntilDrySpec)) fnExactCellsUntilDryCard

/-- THE SECOND FORM's CARD OF 'laws.FnExactMirrorSheet'. -/
def fnExactMirrorSheetUptoCard : Claim7 := { stood := { row := fnExactMirrorSheetUptoRow, standIns := [], harness := (true, "2ec3d27bcc692da1847d0e4b1899fea95d0d6c976fdaadea85d0a8770f1e44bf"), looks := true }, kinds := [], alts := [], laidByText := true, laidKinds := [.sentinel, .sentinel, .sentinel, .sentinel, .sentinel, .sentinel], laidTests := true, laidLooks := .later }
def FnExactMirrorSheetUptoCardSaid : Prop := Claim7.holds Tryd.pinned (.plain (OpenSpec.upto fnExactMirrorSheetSpec)) fnExactMirrorSheetUptoCard

/-- THE SECOND FORM's CARD OF 'laws.FnExactDryStep'. -/
def fnExactDryStepUptoCard : Claim7 := { stood := { row := fnExactDryStepUptoRow, standIns := [], harness := (true, "2ec3d27bcc692da1847d0e4b1899fea95d0d6c976fdaadea85d0a8770f1e44bf"), looks := true }, kinds := [], alts := [], laidByText := true, laidKinds := [.sentinel, .sentinel, .sentinel, .sentinel, .sentinel, .sentinel], laidTests := true, laidLooks := .later }
def FnExactDryStepUptoCardSaid : Prop := Claim7.holds Tryd.pinned (.plain (OpenSpec.upto fnExactDryStepSpec)) fnExactDryStepUptoCard

/-- THE SECOND FORM's CARD OF 'laws.FnExactDryRounds'. -/
def fnExactDryRoundsUptoCard : Claim7 := { stood := { row := fnExactDryRoundsUptoRow, standIns := [], harness := (true, "2ec3d27bcc692da1847d0e4b1899fea95d0d6c976fdaadea85d0a8770f1e44bf"), looks := true }, kinds := [], alts := [], laidByText := true, laidKinds := [.sentinel, .sentinel, .sentinel, .sentinel, .sentinel, .sentinel], laidTests := true, laidLooks := .later }
def FnExactDryRoundsUptoCardSaid : Prop := Claim7.holds Tryd.pinned (.plain (OpenSpec.upto fnExactDryRoundsSpec)) fnExactDryRoundsUptoCard

/-- THE SECOND FORM's CARD OF 'laws.FnExactRunAndDry'. -/
def fnExactRunAndDryUptoCard : Claim7 := { stood := { row := fnExactRunAndDryUptoRow, standIns := [], harness := (true, "2ec3d27bcc692da1847d0e4b1899fea95d0d6c976fdaadea85d0a8770f1e44bf"), looks := true }, kinds := [], alts := [], laidByText := true, laidKinds := [.sentinel, .sentinel, .sentinel, .sentinel, .sentinel, .sentinel], laidTests := true, laidLooks := .later }
def FnExactRunAndDryUptoCardSaid : Prop := Claim7.holds Tryd.pinned (.plain (OpenSpec.upto fnExactRunAndDrySpec)) fnExactRunAndDryUptoCard

/-- THE SECOND FORM's CARD OF 'laws.FnExactWaxPath'. -/
def fnExactWaxPathUptoCard : Claim7 := { stood := { row := fnExactWaxPathUptoRow, standIns := [], harness := (true, "2ec3d27bcc692da1847d0e4b1899fea95d0d6c976fdaadea85d0a8770f1e44bf"), looks := true }, kinds := [], alts := [], laidByText := true, laidKinds := [.sentinel, .sentinel, .sentinel, .sentinel, .sentinel, .sentinel], laidTests := true, laidLooks := .later }
def FnExactWaxPathUptoCardSaid : Prop := Claim7.holds Tryd.pinned (.plain (OpenSpec.upto fnExactWaxPathSpec)) fnExactWaxPathUptoCard

/-- THE SECOND FORM's CARD OF 'laws.FnExactBlotOnto'. -/
def fnExactBlotOntoUptoCard : Claim7 := { stood := { row := fnExactBlotOntoUptoRow, standIns := [], harness := (true, "2ec3d27bcc692da1847d0e4b1899fea95d0d6c976fdaadea85d0a8770f1e44bf"), looks := true }, kinds := [], alts := [], laidByText := true, laidKinds := [.sentinel, .sentinel, .sentinel, .sentinel, .sentinel, .sentinel], laidTests := true, laidLooks := .later }
def FnExactBlotOntoUptoCardSaid : Prop := Claim7.holds Tryd.pinned (.plain (OpenSpec.upto fnExactBlotOntoSpec)) fnExactBlotOntoUptoCard

/-- THE SECOND FORM's CARD OF 'laws.FnExactBlotRounds'. -/
def fnExactBlotRoundsUptoCard : Claim7 := { stood := { row := fnExactBlotRoundsUptoRow, standIns := [], harness := (true, "2ec3d27bcc692da1847d0e4b1899fea95d0d6c976fdaadea85d0a8770f1e44bf"), looks := true }, kinds := [], alts := [], laidByText := true, laidKinds := [.sentinel, .sentinel, .sentinel, .sentinel, .sentinel, .sentinel], laidTests := true, laidLooks := .later }
def FnExactBlotRoundsUptoCardSaid : Prop := Claim7.holds Tryd.pinned (.plain (OpenSpec.upto fnExactBlotRoundsSpec)) fnExactBlotRoundsUptoCard

/-- THE SECOND FORM's CARD OF 'laws.FnExactDryStack'. -/
def fnExactDryStackUptoCard : Claim7 := { stood := { row := fnExactDryStackUptoRow, standIns := [], harness := (true, "2ec3d27bcc692da1847d0e4b1899fea95d0d6c976fdaadea85d0a8770f1e44bf"), looks := true }, kinds := [], alts := [], laidByText := true, laidKinds := [.sentinel, .sentinel, .sentinel, .sentinel, .sentinel, .sentinel], laidTests := true, laidLooks := .later }
def FnExactDryStackUptoCardSaid : Prop := Claim7.holds Tryd.pinned (.plain (OpenSpec.upto fnExactDryStackSpec)) fnExactDryStackUptoCard

/-- THE SECOND FORM's CARD OF 'laws.FnExactLeaveAt'. -/
def fnExactLeaveAtUptoCard : Claim7 := { stood := { row := fnExactLeaveAtUptoRow, standIns := [], harness := (true, "2ec3d27bcc692da1847d0e4b1899fea95d0d6c976fdaadea85d0a8770f1e44bf"), looks := true }, kinds := [], alts := [], laidByText := true, laidKinds := [.sentinel, .sentinel, .sentinel, .sentinel, .sentinel, .sentinel], laidTests := true, laidLooks := .later }
def FnExactLeaveAtUptoCardSaid : Prop := Claim7.holds Tryd.pinned (.plain (OpenSpec.upto fnExactLeaveAtSpec)) fnExactLeaveAtUptoCard

/-- THE SECOND FORM's CARD OF 'laws.FnExactTouchCell'. -/
def fnExactTouchCellUptoCard : Claim7 := { stood := { row := fnExactTouchCellUptoRow, standIns := [], harness := (true, "2ec3d27bcc692da1847d0e4b1899fea95d0d6c976fdaadea85d0a8770f1e44bf"), looks := true }, kinds := [], alts := [], laidByText := true, laidKinds := [.sentinel, .sentinel, .sentinel, .sentinel, .sentinel, .sentinel], laidTests := true, laidLooks := .later }
def FnExactTouchCellUptoCardSaid : Prop := Claim7.holds Tryd.pinned (.plain (OpenSpec.upto fnExactTouchCellSpec)) fnExactTouchCellUptoCard

/-- THE SECOND FORM's CARD OF 'laws.FnExactStrokePath'. -/
def fnExactStrokePathUptoCard : Claim7 := { stood := { row := fnExactStrokePathUptoRow, standIns := [], harness := (true, "2ec3d27bcc692da1847d0e4b1899fea95d0d6c976fdaadea85d0a8770f1e44bf"), looks := true }, kinds := [], alts := [], laidByText := true, laidKinds := [.sentinel, .sentinel, .sentinel, .sentinel, .sentinel, .sentinel], laidTests := true, laidLooks := .later }
def FnExactStrokePathUptoCardSaid : Prop := Claim7.holds Tryd.pinned (.plain (OpenSpec.upto fnExactStrokePathSpec)) fnExactStrokePathUptoCard

/-- THE SECOND FORM's CARD OF 'laws.FnExactCellsUntilDry'. -/
def fnExactCellsUntilDryUptoCard : Claim7 := { stood := { row := fnExactCellsUntilDryUptoRow, standIns := [], harness := (true, "2ec3d27bcc692da1847d0e4b1899fea95d0d6c976fdaadea85d0a8770f1e44bf"), looks := true }, kinds := [], alts := [], laidByText := true, laidKinds := [.sentinel, .sentinel, .sentinel, .sentinel, .sentinel, .sentinel], laidTests := true, laidLooks := .later }
def FnExactCellsUntilDryUptoCardSaid : Prop := Claim7.holds Tryd.pinned (.plain (OpenSpec.upto fnExactCellsUntilDrySpec)) fnExactCellsUntilDryUptoCard
end Rows
end Go.Proofs.YtfkialifnkfgcaaDoor
