/-
  DERIVED. GIVEN WITH THE SEED: THE CARDS: each row of YtfdjlflnhhiecaaDoorRows.lean that lists a variable, with what it lists TIED to the program's text (the seventh form; the later family's looks); each row that meets fmt, with fmt's text TOLD by the authors' own Lean function (tested against real Go, not proved from fmt's source: count such statements apart). THE CARD IS WHAT COUNTS. Prove the row's statement (the work); the ties are given (YtfdjlflnhhiecaaDoorTie.lean); close each card by the builder's one call (the guide's Derived/Test/ToyasCard.lean, 'card_holds'). Laid BY PROGRAM, IN A SANDBOX (cutbox-door.mjs). By AI agents, Wed Nov 11 2026. No macro, syntax, notation, axiom, sorry.
-/
import Derived.Test.YtfdjlflnhhiecaaDoorRows
import GoSem.ClaimSeven
namespace Go.Proofs.YtfdjlflnhhiecaaDoor
namespace Rows

/-- THE TIED CARD OF 'laws.FnExactWetAt'. -/
def fnExactWetAtCard : Claim7 := { stood := { row := fnExactWetAtRow, standIns := [], harness := (true, "f9eee6a152d5f0491019d229b8b21f97e1d74e1985cf73fbb7ab25c475e34f72"), looks := true }, kinds := [], alts := [], laidByText := true, laidKinds := [.sentinel, .sentinel, .sentinel, .sentinel, .sentinel, .sentinel], laidTests := true, laidLooks := .later }
def FnExactWetAtCardSaid : Prop := Claim7.holds Tryd.pinned (.plain (OpenSpec.ofChange fnExactWetAtSpec)) fnExactWetAtCard

/-- THE TIED CARD OF 'laws.FnExactDyeAt'. -/
def fnExactDyeAtCard : Claim7 := { stood := { row := fnExactDyeAtRow, standIns := [], harness := (true, "f9eee6a152d5f0491019d229b8b21f97e1d74e1985cf73fbb7ab25c475e34f72"), looks := true }, kinds := [], alts := [], laidByText := true, laidKinds := [.sentinel, .sentinel, .sentinel, .sentinel, .sentinel, .sentinel], laidTests := true, laidLooks := .later }
def FnExactDyeAtCardSaid : Prop := Claim7.holds Tryd.pinned (.plain (OpenSpec.ofChange fnExactDyeAtSpec)) fnExactDyeAtCard

/-- THE TIED CARD OF 'laws.FnExactDarkAt'. -/
def fnExactDarkAtCard : Claim7 := { stood := { row := fnExactDarkAtRow, standIns := [], harness := (true, "f9eee6a152d5f0491019d229b8b21f97e1d74e1985cf73fbb7ab25c475e34f72"), looks := true }, kinds := [], alts := [], laidByText := true, laidKinds := [.sentinel, .sentinel, .sentinel, .sentinel, .sentinel, .sentinel], laidTests := true, laidLooks := .later }
def FnExactDarkAtCardSaid : Prop := Claim7.holds Tryd.pinned (.plain (OpenSpec.ofChange fnExactDarkAtSpec)) fnExactDarkAtCard

/-- THE TIED CARD OF 'laws.FnExactDropInk'. -/
def fnExactDropInkCard : Claim7 := { stood := { row := fnExactDropInkRow, standIns := [], harness := (true, "f9eee6a152d5f0491019d229b8b21f97e1d74e1985cf73fbb7ab25c475e34f72"), looks := true }, kinds := [], alts := [], laidByText := true, laidKinds := [.sentinel, .sentinel, .sentinel, .sentinel, .sentinel, .sentinel], laidTests := true, laidLooks := .later }
def FnExactDropInkCardSaid : Prop := Claim7.holds Tryd.pinned (.plain (OpenSpec.ofChange fnExactDropInkSpec)) fnExactDropInkCard

/-- THE TIED CARD OF 'laws.FnExactWaxCell'. -/
def fnExactWaxCellCard : Claim7 := { stood := { row := fnExactWaxCellRow, standIns := [], harness := (true, "f9eee6a152d5f0491019d229b8b21f97e1d74e1985cf73fbb7ab25c475e34f72"), looks := true }, kinds := [], alts := [], laidByText := true, laidKinds := [.sentinel, .sentinel, .sentinel, .sentinel, .sentinel, .sentinel], laidTests := true, laidLooks := .later }
def FnExactWaxCellCardSaid : Prop := Claim7.holds Tryd.pinned (.plain (OpenSpec.ofChange fnExactWaxCellSpec)) fnExactWaxCellCard

/-- THE TIED CARD OF 'laws.FnExactIsWaxed'. -/
def fnExactIsWaxedCard : Claim7 := { stood := { row := fnExactIsWaxedRow, standIns := [], harness := (true, "f9eee6a152d5f0491019d229b8b21f97e1d74e1985cf73fbb7ab25c475e34f72"), looks := true }, kinds := [], alts := [], laidByText := true, laidKinds := [.sentinel, .sentinel, .sentinel, .sentinel, .sentinel, .sentinel], laidTests := true, laidLooks := .later }
def FnExactIsWaxedCardSaid : Prop := Claim7.holds Tryd.pinned (.plain (OpenSpec.ofChange fnExactIsWaxedSpec)) fnExactIsWaxedCard

/-- THE TIED CARD OF 'laws.FnExactWaterIn'. -/
def fnExactWaterInCard : Claim7 := { stood := { row := fnExactWaterInRow, standIns := [], harness := (true, "f9eee6a152d5f0491019d229b8b21f97e1d74e1985cf73fbb7ab25c475e34f72"), looks := true }, kinds := [], alts := [], laidByText := true, laidKinds := [.sentinel, .sentinel, .sentinel, .sentinel, .sentinel, .sentinel], laidTests := true, laidLooks := .later }
def FnExactWaterInCardSaid : Prop := Claim7.holds Tryd.pinned (.plain (OpenSpec.ofChange fnExactWaterInSpec)) fnExactWaterInCard

/-- THE TIED CARD OF 'laws.FnExactColourAt'. -/
def fnExactColourAtCard : Claim7 := { stood := { row := fnExactColourAtRow, standIns := [], harness := (true, "f9eee6a152d5f0491019d229b8b21f97e1d74e1985cf73fbb7ab25c475e34f72"), looks := true }, kinds := [], alts := [], laidByText := true, laidKinds := [.sentinel, .sentinel, .sentinel, .sentinel, .sentinel, .sentinel], laidTests := true, laidLooks := .later }
def FnExactColourAtCardSaid : Prop := Claim7.holds Tryd.pinned (.plain (OpenSpec.ofChange fnExactColourAtSpec)) fnExactColourAtCard

/-- THE TIED CARD OF 'laws.FnExactDryAll'. -/
def fnExactDryAllCard : Claim7 := { stood := { row := fnExactDryAllRow, standIns := [], harness := (true, "f9eee6a152d5f0491019d229b8b21f97e1d74e1985cf73fbb7ab25c475e34f72"), looks := true }, kinds := [], alts := [], laidByText := true, laidKinds := [.sentinel, .sentinel, .sentinel, .sentinel, .sentinel, .sentinel], laidTests := true, laidLooks := .later }
def FnExactDryAllCardSaid : Prop := Claim7.holds Tryd.pinned (.plain (OpenSpec.ofChange fnExactDryAllSpec)) fnExactDryAllCard

/-- THE TIED CARD OF 'laws.FnExactCodeName'. -/
def fnExactCodeNameCard : Claim7 := { stood := { row := fnExactCodeNameRow, standIns := [], harness := (true, "f9eee6a152d5f0491019d229b8b21f97e1d74e1985cf73fbb7ab25c475e34f72"), looks := true }, kinds := [], alts := [], laidByText := true, laidKinds := [.data], laidTests := true, laidLooks := .later }
def FnExactCodeNameCardSaid : Prop := Claim7.holds Tryd.pinned (.plain (OpenSpec.ofChange fnExactCodeNameSpec)) fnExactCodeNameCard

/-- THE TIED CARD OF 'laws.FnExactTurnSheet'. -/
def fnExactTurnSheetCard : Claim7 := { stood := { row := fnExactTurnSheetRow, standIns := [], harness := (true, "f9eee6a152d5f0491019d229b8b21f97e1d74e1985cf73fbb7ab25c475e34f72"), looks := true }, kinds := [], alts := [], laidByText := true, laidKinds := [.sentinel, .sentinel, .sentinel, .sentinel, .sentinel, .sentinel], laidTests := true, laidLooks := .later }
def FnExactTurnSheetCardSaid : Prop := Claim7.holds Tryd.pinned (.plain (OpenSpec.ofChange fnExactTurnSheetSpec)) fnExactTurnSheetCard

/-- THE TIED CARD OF 'laws.FnExactCutSheet'. -/
def fnExactCutSheetCard : Claim7 := { stood := { row := fnExactCutSheetRow, standIns := [], harness := (true, "f9eee6a152d5f0491019d229b8b21f97e1d74e1985cf73fbb7ab25c475e34f72"), looks := true }, kinds := [], alts := [], laidByText := true, laidKinds := [.sentinel, .sentinel, .sentinel, .sentinel, .sentinel, .sentinel], laidTests := true, laidLooks := .later }
def FnExactCutSheetCardSaid : Prop := Claim7.holds Tryd.pinned (.plain (OpenSpec.ofChange fnExactCutSheetSpec)) fnExactCutSheetCard

/-- THE SECOND FORM's CARD OF 'laws.FnExactWetAt'. -/
def fnExactWetAtUptoCard : Claim7 := { stood := { row := fnExactWetAtUptoRow, standIns := [], harness := (true, "f9eee6a152d5f0491019d229b8b21f97e1d74e1985cf73fbb7ab25c475e34f72"), looks := true }, kinds := [], alts := [], laidByText := true, laidKinds := [.sentinel, .sentinel, .sentinel, .sentinel, .sentinel, .sentinel], laidTests := true, laidLooks := .later }
def FnExactWetAtUptoCardSaid : Prop := Claim7.holds Tryd.pinned (.plain (OpenSpec.upto fnExactWetAtSpec)) fnExactWetAtUptoCard

/-- THE SECOND FORM's CARD OF 'laws.FnExactDyeAt'. -/
def fnExactDyeAtUptoCard : Claim7 := { stood := { row := fnExactDyeAtUptoRow, standIns := [], harness := (true, "f9eee6a152d5f0491019d229b8b21f97e1d74e1985cf73fbb7ab25c475e34f72"), looks := true }, kinds := [], alts := [], laidByText := true, laidKinds := [.sentinel, .sentinel, .sentinel, .sentinel, .sentinel, .sentinel], laidTests := true, laidLooks := .later }
def FnExactDyeAtUptoCardSaid : Prop := Claim7.holds Tryd.pinned (.plain (OpenSpec.upto fnExactDyeAtSpec)) fnExactDyeAtUptoCard

/-- THE SECOND FORM's CARD OF 'laws.FnExactDarkAt'. -/
def fnExactDarkAtUptoCard : Claim7 := { stood := { row := fnExactDarkAtUptoRow, standIns := [], harness := (true, "f9eee6a152d5f0491019d229b8b21f97e1d74e1985cf73fbb7ab25c475e34f72"), looks := true }, kinds := [], alts := [], laidByText := true, laidKinds := [.sentinel, .sentinel, .sentinel, .sentinel, .sentinel, .sentinel], laidTests := true, laidLooks := .later }
def FnExactDarkAtUptoCardSaid : Prop := Claim7.holds Tryd.pinned (.plain (OpenSpec.upto fnExactDarkAtSpec)) fnExactDarkAtUptoCard

/-- THE SECOND FORM's CARD OF 'laws.FnExactDropInk'. -/
def fnExactDropInkUptoCard : Claim7 := { stood := { row := fnExactDropInkUptoRow, standIns := [], harness := (true, "f9eee6a152d5f0491019d229b8b21f97e1d74e1985cf73fbb7ab25c475e34f72"), looks := true }, kinds := [], alts := [], laidByText := true, laidKinds := [.sentinel, .sentinel, .sentinel, .sentinel, .sentinel, .sentinel], laidTests := true, laidLooks := .later }
def FnExactDropInkUptoCardSaid : Prop := Claim7.holds Tryd.pinned (.plain (OpenSpec.upto fnExactDropInkSpec)) fnExactDropInkUptoCard

/-- THE SECOND FORM's CARD OF 'laws.FnExactWaxCell'. -/
def fnExactWaxCellUptoCard : Claim7 := { stood := { row := fnExactWaxCellUptoRow, standIns := [], harness := (true, "f9eee6a152d5f0491019d229b8b21f97e1d74e1985cf73fbb7ab25c475e34f72"), looks := true }, kinds := [], alts := [], laidByText := true, laidKinds := [.sentinel, .sentinel, .sentinel, .sentinel, .sentinel, .sentinel], laidTests := true, laidLooks := .later }
def FnExactWaxCellUptoCardSaid : Prop := Claim7.holds Tryd.pinned (.plain (OpenSpec.upto fnExactWaxCellSpec)) fnExactWaxCellUptoCard

/-- THE SECOND FORM's CARD OF 'laws.FnExactIsWaxed'. -/
def fnExactIsWaxedUptoCard : Claim7 := { stood := { row := fnExactIsWaxedUptoRow, standIns := [], harness := (true, "f9eee6a152d5f0491019d229b8b21f97e1d74e1985cf73fbb7ab25c475e34f72"), looks := true }, kinds := [], alts := [], laidByText := true, laidKinds := [.sentinel, .sentinel, .sentinel, .sentinel, .sentinel, .sentinel], laidTests := true, laidLooks := .later }
def FnExactIsWaxedUptoCardSaid : Prop := Claim7.holds Tryd.pinned (.plain (OpenSpec.upto fnExactIsWaxedSpec)) fnExactIsWaxedUptoCard

/-- THE SECOND FORM's CARD OF 'laws.FnExactWaterIn'. -/
def fnExactWaterInUptoCard : Claim7 := { stood := { row := fnExactWaterInUptoRow, standIns := [], harness := (true, "f9eee6a152d5f0491019d229b8b21f97e1d74e1985cf73fbb7ab25c475e34f72"), looks := true }, kinds := [], alts := [], laidByText := true, laidKinds := [.sentinel, .sentinel, .sentinel, .sentinel, .sentinel, .sentinel], laidTests := true, laidLooks := .later }
def FnExactWaterInUptoCardSaid : Prop := Claim7.holds Tryd.pinned (.plain (OpenSpec.upto fnExactWaterInSpec)) fnExactWaterInUptoCard

/-- THE SECOND FORM's CARD OF 'laws.FnExactColourAt'. -/
def fnExactColourAtUptoCard : Claim7 := { stood := { row := fnExactColourAtUptoRow, standIns := [], harness := (true, "f9eee6a152d5f0491019d229b8b21f97e1d74e1985cf73fbb7ab25c475e34f72"), looks := true }, kinds := [], alts := [], laidByText := true, laidKinds := [.sentinel, .sentinel, .sentinel, .sentinel, .sentinel, .sentinel], laidTests := true, laidLooks := .later }
def FnExactColourAtUptoCardSaid : Prop := Claim7.holds Tryd.pinned (.plain (OpenSpec.upto fnExactColourAtSpec)) fnExactColourAtUptoCard

/-- THE SECOND FORM's CARD OF 'laws.FnExactDryAll'. -/
def fnExactDryAllUptoCard : Claim7 := { stood := { row := fnExactDryAllUptoRow, standIns := [], harness := (true, "f9eee6a152d5f0491019d229b8b21f97e1d74e1985cf73fbb7ab25c475e34f72"), looks := true }, kinds := [], alts := [], laidByText := true, laidKinds := [.sentinel, .sentinel, .sentinel, .sentinel, .sentinel, .sentinel], laidTests := true, laidLooks := .later }
def FnExactDryAllUptoCardSaid : Prop := Claim7.holds Tryd.pinned (.plain (OpenSpec.upto fnExactDryAllSpec)) fnExactDryAllUptoCard

/-- THE SECOND FORM's CARD OF 'laws.FnExactCodeName'. -/
def fnExactCodeNameUptoCard : Claim7 := { stood := { row := fnExactCodeNameUptoRow, standIns := [], harness := (true, "f9eee6a152d5f0491019d229b8b21f97e1d74e1985cf73fbb7ab25c475e34f72"), looks := true }, kinds := [], alts := [], laidByText := true, laidKinds := [.data], laidTests := true, laidLooks := .later }
def FnExactCodeNameUptoCardSaid : Prop := Claim7.holds Tryd.pinned (.plain (OpenSpec.upto fnExactCodeNameSpec)) fnExactCodeNameUptoCard

/-- THE SECOND FORM's CARD OF 'laws.FnExactTurnSheet'. -/
def fnExactTurnSheetUptoCard : Claim7 := { stood := { row := fnExactTurnSheetUptoRow, standIns := [], harness := (true, "f9eee6a152d5f0491019d229b8b21f97e1d74e1985cf73fbb7ab25c475e34f72"), looks := true }, kinds := [], alts := [], laidByText := true, laidKinds := [.sentinel, .sentinel, .sentinel, .sentinel, .sentinel, .sentinel], laidTests := true, laidLooks := .later }
def FnExactTurnSheetUptoCardSaid : Prop := Claim7.holds Tryd.pinned (.plain (OpenSpec.upto fnExactTurnSheetSpec)) fnExactTurnSheetUptoCard

/-- THE SECOND FORM's CARD OF 'laws.FnExactCutSheet'. -/
def fnExactCutSheetUptoCard : Claim7 := { stood := { row := fnExactCutSheetUptoRow, standIns := [], harness := (true, "f9eee6a152d5f0491019d229b8b21f97e1d74e1985cf73fbb7ab25c475e34f72"), looks := true }, kinds := [], alts := [], laidByText := true, laidKinds := [.sentinel, .sentinel, .sentinel, .sentinel, .sentinel, .sentinel], laidTests := true, laidLooks := .later }
def FnExactCutSheetUptoCardSaid : Prop := Claim7.holds Tryd.pinned (.plain (OpenSpec.upto fnExactCutSheetSpec)) fnExactCutSheetUptoCard
end Rows
end Go.Proofs.YtfdjlflnhhiecaaDoor
