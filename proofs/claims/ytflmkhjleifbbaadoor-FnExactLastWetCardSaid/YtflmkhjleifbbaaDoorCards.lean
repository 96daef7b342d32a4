/-
  DERIVED. GIVEN WITH THE SEED: THE CARDS: each row of YtflmkhjleifbbaaDoorRows.lean that lists a variable, with what it lists TIED to the program's text (the seventh form; the later family's looks); each row that meets fmt, with fmt's text TOLD by the authors' own Lean function (tested against real Go, not proved from fmt's source: count such statements apart). THE CARD IS WHAT COUNTS. Prove the row's statement (the work); the ties are given (YtflmkhjleifbbaaDoorTie.lean); close each card by the builder's one call (the guide's Derived/Test/ToyasCard.lean, 'card_holds'). Laid BY PROGRAM, IN A SANDBOX (cutbox-door.mjs). By AI agents, Wed Nov 11 2026. No macro, syntax, notation, axiom, sorry.
-/
import Derived.Test.YtflmkhjleifbbaaDoorRows
import GoSem.ClaimSeven
namespace Go.Proofs.YtflmkhjleifbbaaDoor
namespace Rows

/-- THE TIED CARD OF 'laws.FnExactDriesIn'. -/
def fnExactDriesInCard : Claim7 := { stood := { row := fnExactDriesInRow, standIns := [], harness := (true, "85d8a08a9d453c53a8550370988ee7b255d5b728b910905d6a2420822b5392b6"), looks := true }, kinds := [], alts := [], laidByText := true, laidKinds := [.sentinel, .sentinel, .sentinel, .sentinel, .sentinel, .sentinel, .sentinel], laidTests := true, laidLooks := .later }
def FnExactDriesInCardSaid : Prop := Claim7.holds Tryd.pinned (.plain (OpenSpec.ofChange fnExactDriesInSpec)) fnExactDriesInCard

/-- THE TIED CARD OF 'laws.FnExactRingsOf'. -/
def fnExactRingsOfCard : Claim7 := { stood := { row := fnExactRingsOfRow, standIns := [], harness := (true, "85d8a08a9d453c53a8550370988ee7b255d5b728b910905d6a2420822b5392b6"), looks := true }, kinds := [], alts := [], laidByText := true, laidKinds := [.sentinel, .sentinel, .sentinel, .sentinel, .sentinel, .sentinel], laidTests := true, laidLooks := .later }
def FnExactRingsOfCardSaid : Prop := Claim7.holds Tryd.pinned (.plain (OpenSpec.ofChange fnExactRingsOfSpec)) fnExactRingsOfCard

/-- THE TIED CARD OF 'laws.FnExactLastWet'. -/
def fnExactLastWetCard : Claim7 := { stood := { row := fnExactLastWetRow, standIns := [], harness := (true, "85d8a08a9d453c53a8550370988ee7b255d5b728b910905d6a2420822b5392b6"), looks := true }, kinds := [], alts := [], laidByText := true, laidKinds := [.sentinel, .sentinel, .sentinel, .sentinel, .sentinel, .sentinel, .sentinel], laidTests := true, laidLooks := .later }
def FnExactLastWetCardSaid : Prop := Claim7.holds Tryd.pinned (.plain (OpenSpec.ofChange fnExactLastWetSpec)) fnExactLastWetCard

/-- THE TIED CARD OF 'laws.FnExactRingCells'. -/
def fnExactRingCellsCard : Claim7 := { stood := { row := fnExactRingCellsRow, standIns := [], harness := (true, "85d8a08a9d453c53a8550370988ee7b255d5b728b910905d6a2420822b5392b6"), looks := true }, kinds := [], alts := [], laidByText := true, laidKinds := [.sentinel, .sentinel, .sentinel, .sentinel, .sentinel, .sentinel], laidTests := true, laidLooks := .later }
def FnExactRingCellsCardSaid : Prop := Claim7.holds Tryd.pinned (.plain (OpenSpec.ofChange fnExactRingCellsSpec)) fnExactRingCellsCard

/-- THE SECOND FORM's CARD OF 'laws.FnExactDriesIn'. -/
def fnExactDriesInUptoCard : Claim7 := { stood := { row := fnExactDriesInUptoRow, standIns := [], harness := (true, "85d8a08a9d453c53a8550370988ee7b255d5b728b910905d6a2420822b5392b6"), looks := true }, kinds := [], alts := [], laidByText := true, laidKinds := [.sentinel, .sentinel, .sentinel, .sentinel, .sentinel, .sentinel, .sentinel], laidTests := true, laidLooks := .later }
def FnExactDriesInUptoCardSaid : Prop := Claim7.holds Tryd.pinned (.plain (OpenSpec.upto fnExactDriesInSpec)) fnExactDriesInUptoCard

/-- THE SECOND FORM's CARD OF 'laws.FnExactRingsOf'. -/
def fnExactRingsOfUptoCard : Claim7 := { stood := { row := fnExactRingsOfUptoRow, standIns := [], harness := (true, "85d8a08a9d453c53a8550370988ee7b255d5b728b910905d6a2420822b5392b6"), looks := true }, kinds := [], alts := [], laidByText := true, laidKinds := [.sentinel, .sentinel, .sentinel, .sentinel, .sentinel, .sentinel], laidTests := true, laidLooks := .later }
def FnExactRingsOfUptoCardSaid : Prop := Claim7.holds Tryd.pinned (.plain (OpenSpec.upto fnExactRingsOfSpec)) fnExactRingsOfUptoCard

/-- THE SECOND FORM's CARD OF 'laws.FnExactLastWet'. -/
def fnExactLastWetUptoCard : Claim7 := { stood := { row := fnExactLastWetUptoRow, standIns := [], harness := (true, "85d8a08a9d453c53a8550370988ee7b255d5b728b910905d6a2420822b5392b6"), looks := true }, kinds := [], alts := [], laidByText := true, laidKinds := [.sentinel, .sentinel, .sentinel, .sentinel, .sentinel, .sentinel, .sentinel], laidTests := true, laidLooks := .later }
def FnExactLastWetUptoCardSaid : Prop := Claim7.holds Tryd.pinned (.plain (OpenSpec.upto fnExactLastWetSpec)) fnExactLastWetUptoCard

/-- THE SECOND FORM's CARD OF 'laws.FnExactRingCells'. -/
def fnExactRingCellsUptoCard : Claim7 := { stood := { row := fnExactRingCellsUptoRow, standIns := [], harness := (true, "85d8a08a9d453c53a8550370988ee7b255d5b728b910905d6a2420822b5392b6"), looks := true }, kinds := [], alts := [], laidByText := true, laidKinds := [.sentinel, .sentinel, .sentinel, .sentinel, .sentinel, .sentinel], laidTests := true, laidLooks := .later }
def FnExactRingCellsUptoCardSaid : Prop := Claim7.holds Tryd.pinned (.plain (OpenSpec.upto fnExactRingCellsSpec)) fnExactRingCellsUptoCard
end Rows
end Go.Proofs.YtflmkhjleifbbaaDoor
