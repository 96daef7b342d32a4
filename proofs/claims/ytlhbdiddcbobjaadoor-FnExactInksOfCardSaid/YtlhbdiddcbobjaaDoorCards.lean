/-
  DERIVED. GIVEN WITH THE SEED: THE CARDS: each row of YtlhbdiddcbobjaaDoorRows.lean that lists a variable, with what it lists TIED to the program's text (the seventh form; the later family's looks); each row that meets fmt, with fmt's text TOLD by the authors' own Lean function (tested against real Go, not proved from fmt's source: count such statements apart). THE CARD IS WHAT COUNTS. Prove the row's statement (the work); the ties are given (YtlhbdiddcbobjaaDoorTie.lean); close each card by the builder's one call (the guide's Derived/Test/ToyasCard.lean, 'card_holds'). Laid BY PROGRAM, IN A SANDBOX (cutbox-door.mjs). By AI agents, Wed Nov 11 2026. No macro, syntax, notation, axiom, sorry.
-/
import Derived.Test.YtlhbdiddcbobjaaDoorRows
import GoSem.ClaimSeven
namespace Go.Proofs.YtlhbdiddcbobjaaDoor
namespace Rows

/-- THE TIED CARD OF 'laws.FnExactCoveredBy'. -/
def fnExactCoveredByCard : Claim7 := { stood := { row := fnExactCoveredByRow, standIns := [], harness := (true, "d4aeadd4c9b11f50ec7b260cf1d12be67f6ff656fd61ee32fe47ddd7ebb993ca"), looks := true }, kinds := [], alts := [], laidByText := true, laidKinds := [.sentinel, .sentinel, .sentinel, .sentinel, .sentinel, .sentinel], laidTests := true, laidLooks := .later }
def FnExactCoveredByCardSaid : Prop := Claim7.holds Tryd.pinned (.plain (OpenSpec.ofChange fnExactCoveredBySpec)) fnExactCoveredByCard

/-- THE TIED CARD OF 'laws.FnExactDropOn'. -/
def fnExactDropOnCard : Claim7 := { stood := { row := fnExactDropOnRow, standIns := [], harness := (true, "d4aeadd4c9b11f50ec7b260cf1d12be67f6ff656fd61ee32fe47ddd7ebb993ca"), looks := true }, kinds := [], alts := [], laidByText := true, laidKinds := [.sentinel, .sentinel, .sentinel, .sentinel, .sentinel, .sentinel], laidTests := true, laidLooks := .later }
def FnExactDropOnCardSaid : Prop := Claim7.holds Tryd.pinned (.plain (OpenSpec.ofChange fnExactDropOnSpec)) fnExactDropOnCard

/-- THE TIED CARD OF 'laws.FnExactDropAll'. -/
def fnExactDropAllCard : Claim7 := { stood := { row := fnExactDropAllRow, standIns := [], harness := (true, "d4aeadd4c9b11f50ec7b260cf1d12be67f6ff656fd61ee32fe47ddd7ebb993ca"), looks := true }, kinds := [], alts := [], laidByText := true, laidKinds := [.sentinel, .sentinel, .sentinel, .sentinel, .sentinel, .sentinel], laidTests := true, laidLooks := .later }
def FnExactDropAllCardSaid : Prop := Claim7.holds Tryd.pinned (.plain (OpenSpec.ofChange fnExactDropAllSpec)) fnExactDropAllCard

/-- THE TIED CARD OF 'laws.FnExactCheckDrops'. -/
def fnExactCheckDropsCard : Claim7 := { stood := { row := fnExactCheckDropsRow, standIns := [], harness := (true, "d4aeadd4c9b11f50ec7b260cf1d12be67f6ff656fd61ee32fe47ddd7ebb993ca"), looks := true }, kinds := [], alts := [], laidByText := true, laidKinds := [.sentinel, .sentinel, .sentinel, .sentinel, .sentinel, .sentinel], laidTests := true, laidLooks := .later }
def FnExactCheckDropsCardSaid : Prop := Claim7.holds Tryd.pinned (.plain (OpenSpec.ofChange fnExactCheckDropsSpec)) fnExactCheckDropsCard

/-- THE TIED CARD OF 'laws.FnExactInksOf'. -/
def fnExactInksOfCard : Claim7 := { stood := { row := fnExactInksOfRow, standIns := [], harness := (true, "d4aeadd4c9b11f50ec7b260cf1d12be67f6ff656fd61ee32fe47ddd7ebb993ca"), looks := true }, kinds := [], alts := [], laidByText := true, laidKinds := [.sentinel, .sentinel, .sentinel, .sentinel, .sentinel, .sentinel], laidTests := true, laidLooks := .later }
def FnExactInksOfCardSaid : Prop := Claim7.holds Tryd.pinned (.plain (OpenSpec.ofChange fnExactInksOfSpec)) fnExactInksOfCard

/-- THE TIED CARD OF 'laws.FnExactCountInk'. -/
def fnExactCountInkCard : Claim7 := { stood := { row := fnExactCountInkRow, standIns := [], harness := (true, "d4aeadd4c9b11f50ec7b260cf1d12be67f6ff656fd61ee32fe47ddd7ebb993ca"), looks := true }, kinds := [], alts := [], laidByText := true, laidKinds := [.sentinel, .sentinel, .sentinel, .sentinel, .sentinel, .sentinel], laidTests := true, laidLooks := .later }
def FnExactCountInkCardSaid : Prop := Claim7.holds Tryd.pinned (.plain (OpenSpec.ofChange fnExactCountInkSpec)) fnExactCountInkCard

/-- THE TIED CARD OF 'laws.FnExactCanBeLast'. -/
def fnExactCanBeLastCard : Claim7 := { stood := { row := fnExactCanBeLastRow, standIns := [], harness := (true, "d4aeadd4c9b11f50ec7b260cf1d12be67f6ff656fd61ee32fe47ddd7ebb993ca"), looks := true }, kinds := [], alts := [], laidByText := true, laidKinds := [.sentinel, .sentinel, .sentinel, .sentinel, .sentinel, .sentinel], laidTests := true, laidLooks := .later }
def FnExactCanBeLastCardSaid : Prop := Claim7.holds Tryd.pinned (.plain (OpenSpec.ofChange fnExactCanBeLastSpec)) fnExactCanBeLastCard

/-- THE TIED CARD OF 'laws.FnExactLastDrops'. -/
def fnExactLastDropsCard : Claim7 := { stood := { row := fnExactLastDropsRow, standIns := [], harness := (true, "d4aeadd4c9b11f50ec7b260cf1d12be67f6ff656fd61ee32fe47ddd7ebb993ca"), looks := true }, kinds := [], alts := [], laidByText := true, laidKinds := [.sentinel, .sentinel, .sentinel, .sentinel, .sentinel, .sentinel], laidTests := true, laidLooks := .later }
def FnExactLastDropsCardSaid : Prop := Claim7.holds Tryd.pinned (.plain (OpenSpec.ofChange fnExactLastDropsSpec)) fnExactLastDropsCard

/-- THE TIED CARD OF 'laws.FnExactStencilOf'. -/
def fnExactStencilOfCard : Claim7 := { stood := { row := fnExactStencilOfRow, standIns := [], harness := (true, "d4aeadd4c9b11f50ec7b260cf1d12be67f6ff656fd61ee32fe47ddd7ebb993ca"), looks := true }, kinds := [], alts := [], laidByText := true, laidKinds := [.sentinel, .sentinel, .sentinel, .sentinel, .sentinel, .sentinel], laidTests := true, laidLooks := .later }
def FnExactStencilOfCardSaid : Prop := Claim7.holds Tryd.pinned (.plain (OpenSpec.ofChange fnExactStencilOfSpec)) fnExactStencilOfCard

/-- THE SECOND FORM's CARD OF 'laws.FnExactCoveredBy'. -/
def fnExactCoveredByUptoCard : Claim7 := { stood := { row := fnExactCoveredByUptoRow, standIns := [], harness := (true, "d4aeadd4c9b11f50ec7b260cf1d12be67f6ff656fd61ee32fe47ddd7ebb993ca"), looks := true }, kinds := [], alts := [], laidByText := true, laidKinds := [.sentinel, .sentinel, .sentinel, .sentinel, .sentinel, .sentinel], laidTests := true, laidLooks := .later }
def FnExactCoveredByUptoCardSaid : Prop := Claim7.holds Tryd.pinned (.plain (OpenSpec.upto fnExactCoveredBySpec)) fnExactCoveredByUptoCard

/-- THE SECOND FORM's CARD OF 'laws.FnExactDropOn'. -/
def fnExactDropOnUptoCard : Claim7 := { stood := { row := fnExactDropOnUptoRow, standIns := [], harness := (true, "d4aeadd4c9b11f50ec7b260cf1d12be67f6ff656fd61ee32fe47ddd7ebb993ca"), looks := true }, kinds := [], alts := [], laidByText := true, laidKinds := [.sentinel, .sentinel, .sentinel, .sentinel, .sentinel, .sentinel], laidTests := true, laidLooks := .later }
def FnExactDropOnUptoCardSaid : Prop := Claim7.holds Tryd.pinned (.plain (OpenSpec.upto fnExactDropOnSpec)) fnExactDropOnUptoCard

/-- THE SECOND FORM's CARD OF 'laws.FnExactDropAll'. -/
def fnExactDropAllUptoCard : Claim7 := { stood := { row := fnExactDropAllUptoRow, standIns := [], harness := (true, "d4aeadd4c9b11f50ec7b260cf1d12be67f6ff656fd61ee32fe47ddd7ebb993ca"), looks := true }, kinds := [], alts := [], laidByText := true, laidKinds := [.sentinel, .sentinel, .sentinel, .sentinel, .sentinel, .sentinel], laidTests := true, laidLooks := .later }
def FnExactDropAllUptoCardSaid : Prop := Claim7.holds Tryd.pinned (.plain (OpenSpec.upto fnExactDropAllSpec)) fnExactDropAllUptoCard

/-- THE SECOND FORM's CARD OF 'laws.FnExactCheckDrops'. -/
def fnExactCheckDropsUptoCard : Claim7 := { stood := { row := fnExactCheckDropsUptoRow, standIns := [], harness := (true, "d4aeadd4c9b11f50ec7b260cf1d12be67f6ff656fd61ee32fe47ddd7ebb993ca"), looks := true }, kinds := [], alts := [], laidByText := true, laidKinds := [.sentinel, .sentinel, .sentinel, .sentinel, .sentinel, .sentinel], laidTests := true, laidLooks := .later }
def FnExactCheckDropsUptoCardSaid : Prop := Claim7.holds Tryd.pinned (.plain (OpenSpec.upto fnExactCheckDropsSpec)) fnExactCheckDropsUptoCard

/-- THE SECOND FORM's CARD OF 'laws.FnExactInksOf'. -/
def fnExactInksOfUptoCard : Claim7 := { stood := { row := fnExactInksOfUptoRow, standIns := [], harness := (true, "d4aeadd4c9b11f50ec7b260cf1d12be67f6ff656fd61ee32fe47ddd7ebb993ca"), looks := true }, kinds := [], alts := [], laidByText := true, laidKinds := [.sentinel, .sentinel, .sentinel, .sentinel, .sentinel, .sentinel], laidTests := true, laidLooks := .later }
def FnExactInksOfUptoCardSaid : Prop := Claim7.holds Tryd.pinned (.plain (OpenSpec.upto fnExactInksOfSpec)) fnExactInksOfUptoCard

/-- THE SECOND FORM's CARD OF 'laws.FnExactCountInk'. -/
def fnExactCountInkUptoCard : Claim7 := { stood := { row := fnExactCountInkUptoRow, standIns := [], harness := (true, "d4aeadd4c9b11f50ec7b260cf1d12be67f6ff656fd61ee32fe47ddd7ebb993ca"), looks := true }, kinds := [], alts := [], laidByText := true, laidKinds := [.sentinel, .sentinel, .sentinel, .sentinel, .sentinel, .sentinel], laidTests := true, laidLooks := .later }
def FnExactCountInkUptoCardSaid : Prop := Claim7.holds Tryd.pinned (.plain (OpenSpec.upto fnExactCountInkSpec)) fnExactCountInkUptoCard

/-- THE SECOND FORM's CARD OF 'laws.FnExactCanBeLast'. -/
def fnExactCanBeLastUptoCard : Claim7 := { stood := { row := fnExactCanBeLastUptoRow, standIns := [], harness := (true, "d4aeadd4c9b11f50ec7b260cf1d12be67f6ff656fd61ee32fe47ddd7ebb993ca"), looks := true }, kinds := [], alts := [], laidByText := true, laidKinds := [.sentinel, .sentinel, .sentinel, .sentinel, .sentinel, .sentinel], laidTests := true, laidLooks := .later }
def FnExactCanBeLastUptoCardSaid : Prop := Claim7.holds Tryd.pinned (.plain (OpenSpec.upto fnExactCanBeLastSpec)) fnExactCanBeLastUptoCard

/-- THE SECOND FORM's CARD OF 'laws.FnExactLastDrops'. -/
def fnExactLastDropsUptoCard : Claim7 := { stood := { row := fnExactLastDropsUptoRow, standIns := [], harness := (true, "d4aeadd4c9b11f50ec7b260cf1d12be67f6ff656fd61ee32fe47ddd7ebb993ca"), looks := true }, kinds := [], alts := [], laidByText := true, laidKinds := [.sentinel, .sentinel, .sentinel, .sentinel, .sentinel, .sentinel], laidTests := true, laidLooks := .later }
def FnExactLastDropsUptoCardSaid : Prop := Claim7.holds Tryd.pinned (.plain (OpenSpec.upto fnExactLastDropsSpec)) fnExactLastDropsUptoCard

/-- THE SECOND FORM's CARD OF 'laws.FnExactStencilOf'. -/
def fnExactStencilOfUptoCard : Claim7 := { stood := { row := fnExactStencilOfUptoRow, standIns := [], harness := (true, "d4aeadd4c9b11f50ec7b260cf1d12be67f6ff656fd61ee32fe47ddd7ebb993ca"), looks := true }, kinds := [], alts := [], laidByText := true, laidKinds := [.sentinel, .sentinel, .sentinel, .sentinel, .sentinel, .sentinel], laidTests := true, laidLooks := .later }
def FnExactStencilOfUptoCardSaid : Prop := Claim7.holds Tryd.pinned (.plain (OpenSpec.upto fnExactStencilOfSpec)) fnExactStencilOfUptoCard
end Rows
end Go.Proofs.YtlhbdiddcbobjaaDoor
