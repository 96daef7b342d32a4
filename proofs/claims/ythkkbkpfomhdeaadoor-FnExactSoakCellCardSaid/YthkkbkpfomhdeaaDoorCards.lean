/-
  DERIVED. GIVEN WITH THE SEED: THE CARDS: each row of YthkkbkpfomhdeaaDoorRows.lean that lists a variable, with what it lists TIED to the program's text (the seventh form; the later family's looks); each row that meets fmt, with fmt's text TOLD by the authors' own Lean function (tested against real Go, not proved from fmt's source: count such statements apart). THE CARD IS WHAT COUNTS. Prove the row's statement (the work); the ties are given (YthkkbkpfomhdeaaDoorTie.lean); close each card by the builder's one call (the guide's Derived/Test/ToyasCard.lean, 'card_holds'). Laid BY PROGRAM, IN A SANDBOX (cutbox-door.mjs). By AI agents, Wed Nov 11 2026. No macro, syntax, notation, axiom, sorry.
-/
import Derived.Test.YthkkbkpfomhdeaaDoorRows
import GoSem.ClaimSeven
namespace Go.Proofs.YthkkbkpfomhdeaaDoor
namespace Rows

/-- THE TIED CARD OF 'laws.FnExactDipBrush'. -/
def fnExactDipBrushCard : Claim7 := { stood := { row := fnExactDipBrushRow, standIns := [], harness := (true, "e90ab5389a3983ecfa359ab3b52a23a7060694bc16d951eb259db79a5e09821c"), looks := true }, kinds := [], alts := [], laidByText := true, laidKinds := [.sentinel, .sentinel, .sentinel, .sentinel, .sentinel, .sentinel], laidTests := true, laidLooks := .later }
def FnExactDipBrushCardSaid : Prop := Claim7.holds Tryd.pinned (.plain (OpenSpec.ofChange fnExactDipBrushSpec)) fnExactDipBrushCard

/-- THE TIED CARD OF 'laws.FnExactRinseBrush'. -/
def fnExactRinseBrushCard : Claim7 := { stood := { row := fnExactRinseBrushRow, standIns := [], harness := (true, "e90ab5389a3983ecfa359ab3b52a23a7060694bc16d951eb259db79a5e09821c"), looks := true }, kinds := [], alts := [], laidByText := true, laidKinds := [.sentinel, .sentinel, .sentinel, .sentinel, .sentinel, .sentinel], laidTests := true, laidLooks := .later }
def FnExactRinseBrushCardSaid : Prop := Claim7.holds Tryd.pinned (.plain (OpenSpec.ofChange fnExactRinseBrushSpec)) fnExactRinseBrushCard

/-- THE TIED CARD OF 'laws.FnExactLiftCell'. -/
def fnExactLiftCellCard : Claim7 := { stood := { row := fnExactLiftCellRow, standIns := [], harness := (true, "e90ab5389a3983ecfa359ab3b52a23a7060694bc16d951eb259db79a5e09821c"), looks := true }, kinds := [], alts := [], laidByText := true, laidKinds := [.sentinel, .sentinel, .sentinel, .sentinel, .sentinel, .sentinel], laidTests := true, laidLooks := .later }
def FnExactLiftCellCardSaid : Prop := Claim7.holds Tryd.pinned (.plain (OpenSpec.ofChange fnExactLiftCellSpec)) fnExactLiftCellCard

/-- THE TIED CARD OF 'laws.FnExactSoakCell'. -/
def fnExactSoakCellCard : Claim7 := { stood := { row := fnExactSoakCellRow, standIns := [], harness := (true, "e90ab5389a3983ecfa359ab3b52a23a7060694bc16d951eb259db79a5e09821c"), looks := true }, kinds := [], alts := [], laidByText := true, laidKinds := [.sentinel, .sentinel, .sentinel, .sentinel, .sentinel, .sentinel], laidTests := true, laidLooks := .later }
def FnExactSoakCellCardSaid : Prop := Claim7.holds Tryd.pinned (.plain (OpenSpec.ofChange fnExactSoakCellSpec)) fnExactSoakCellCard

/-- THE TIED CARD OF 'laws.FnExactSeenThrough'. -/
def fnExactSeenThroughCard : Claim7 := { stood := { row := fnExactSeenThroughRow, standIns := [], harness := (true, "e90ab5389a3983ecfa359ab3b52a23a7060694bc16d951eb259db79a5e09821c"), looks := true }, kinds := [], alts := [], laidByText := true, laidKinds := [.sentinel, .sentinel, .sentinel, .sentinel, .sentinel, .sentinel, .data], laidTests := true, laidLooks := .later }
def FnExactSeenThroughCardSaid : Prop := Claim7.holds Tryd.pinned (.plain (OpenSpec.ofChange fnExactSeenThroughSpec)) fnExactSeenThroughCard

/-- THE TIED CARD OF 'laws.FnExactLeastShare'. -/
def fnExactLeastShareCard : Claim7 := { stood := { row := fnExactLeastShareRow, standIns := [], harness := (true, "e90ab5389a3983ecfa359ab3b52a23a7060694bc16d951eb259db79a5e09821c"), looks := true }, kinds := [], alts := [], laidByText := true, laidKinds := [.sentinel, .sentinel, .sentinel, .sentinel, .sentinel, .sentinel, .sentinel], laidTests := true, laidLooks := .later }
def FnExactLeastShareCardSaid : Prop := Claim7.holds Tryd.pinned (.plain (OpenSpec.ofChange fnExactLeastShareSpec)) fnExactLeastShareCard

/-- THE TIED CARD OF 'laws.FnExactDipsFor'. -/
def fnExactDipsForCard : Claim7 := { stood := { row := fnExactDipsForRow, standIns := [], harness := (true, "e90ab5389a3983ecfa359ab3b52a23a7060694bc16d951eb259db79a5e09821c"), looks := true }, kinds := [], alts := [], laidByText := true, laidKinds := [.sentinel, .sentinel, .sentinel, .sentinel, .sentinel, .sentinel, .sentinel], laidTests := true, laidLooks := .later }
def FnExactDipsForCardSaid : Prop := Claim7.holds Tryd.pinned (.plain (OpenSpec.ofChange fnExactDipsForSpec)) fnExactDipsForCard

/-- THE TIED CARD OF 'laws.FnExactPathBetween'. -/
def fnExactPathBetweenCard : Claim7 := { stood := { row := fnExactPathBetweenRow, standIns := [], harness := (true, "e90ab5389a3983ecfa359ab3b52a23a7060694bc16d951eb259db79a5e09821c"), looks := true }, kinds := [], alts := [], laidByText := true, laidKinds := [.sentinel, .sentinel, .sentinel, .sentinel, .sentinel, .sentinel, .sentinel], laidTests := true, laidLooks := .later }
def FnExactPathBetweenCardSaid : Prop := Claim7.holds Tryd.pinned (.plain (OpenSpec.ofChange fnExactPathBetweenSpec)) fnExactPathBetweenCard

/-- THE SECOND FORM's CARD OF 'laws.FnExactDipBrush'. -/
def fnExactDipBrushUptoCard : Claim7 := { stood := { row := fnExactDipBrushUptoRow, standIns := [], harness := (true, "e90ab5389a3983ecfa359ab3b52a23a7060694bc16d951eb259db79a5e09821c"), looks := true }, kinds := [], alts := [], laidByText := true, laidKinds := [.sentinel, .sentinel, .sentinel, .sentinel, .sentinel, .sentinel], laidTests := true, laidLooks := .later }
def FnExactDipBrushUptoCardSaid : Prop := Claim7.holds Tryd.pinned (.plain (OpenSpec.upto fnExactDipBrushSpec)) fnExactDipBrushUptoCard

/-- THE SECOND FORM's CARD OF 'laws.FnExactRinseBrush'. -/
def fnExactRinseBrushUptoCard : Claim7 := { stood := { row := fnExactRinseBrushUptoRow, standIns := [], harness := (true, "e90ab5389a3983ecfa359ab3b52a23a7060694bc16d951eb259db79a5e09821c"), looks := true }, kinds := [], alts := [], laidByText := true, laidKinds := [.sentinel, .sentinel, .sentinel, .sentinel, .sentinel, .sentinel], laidTests := true, laidLooks := .later }
def FnExactRinseBrushUptoCardSaid : Prop := Claim7.holds Tryd.pinned (.plain (OpenSpec.upto fnExactRinseBrushSpec)) fnExactRinseBrushUptoCard

/-- THE SECOND FORM's CARD OF 'laws.FnExactLiftCell'. -/
def fnExactLiftCellUptoCard : Claim7 := { stood := { row := fnExactLiftCellUptoRow, standIns := [], harness := (true, "e90ab5389a3983ecfa359ab3b52a23a7060694bc16d951eb259db79a5e09821c"), looks := true }, kinds := [], alts := [], laidByText := true, laidKinds := [.sentinel, .sentinel, .sentinel, .sentinel, .sentinel, .sentinel], laidTests := true, laidLooks := .later }
def FnExactLiftCellUptoCardSaid : Prop := Claim7.holds Tryd.pinned (.plain (OpenSpec.upto fnExactLiftCellSpec)) fnExactLiftCellUptoCard

/-- THE SECOND FORM's CARD OF 'laws.FnExactSoakCell'. -/
def fnExactSoakCellUptoCard : Claim7 := { stood := { row := fnExactSoakCellUptoRow, standIns := [], harness := (true, "e90ab5389a3983ecfa359ab3b52a23a7060694bc16d951eb259db79a5e09821c"), looks := true }, kinds := [], alts := [], laidByText := true, laidKinds := [.sentinel, .sentinel, .sentinel, .sentinel, .sentinel, .sentinel], laidTests := true, laidLooks := .later }
def FnExactSoakCellUptoCardSaid : Prop := Claim7.holds Tryd.pinned (.plain (OpenSpec.upto fnExactSoakCellSpec)) fnExactSoakCellUptoCard

/-- THE SECOND FORM's CARD OF 'laws.FnExactSeenThrough'. -/
def fnExactSeenThroughUptoCard : Claim7 := { stood := { row := fnExactSeenThroughUptoRow, standIns := [], harness := (true, "e90ab5389a3983ecfa359ab3b52a23a7060694bc16d951eb259db79a5e09821c"), looks := true }, kinds := [], alts := [], laidByText := true, laidKinds := [.sentinel, .sentinel, .sentinel, .sentinel, .sentinel, .sentinel, .data], laidTests := true, laidLooks := .later }
def FnExactSeenThroughUptoCardSaid : Prop := Claim7.holds Tryd.pinned (.plain (OpenSpec.upto fnExactSeenThroughSpec)) fnExactSeenThroughUptoCard

/-- THE SECOND FORM's CARD OF 'laws.FnExactLeastShare'. -/
def fnExactLeastShareUptoCard : Claim7 := { stood := { row := fnExactLeastShareUptoRow, standIns := [], harness := (true, "e90ab5389a3983ecfa359ab3b52a23a7060694bc16d951eb259db79a5e09821c"), looks := true }, kinds := [], alts := [], laidByText := true, laidKinds := [.sentinel, .sentinel, .sentinel, .sentinel, .sentinel, .sentinel, .sentinel], laidTests := true, laidLooks := .later }
def FnExactLeastShareUptoCardSaid : Prop := Claim7.holds Tryd.pinned (.plain (OpenSpec.upto fnExactLeastShareSpec)) fnExactLeastShareUptoCard

/-- THE SECOND FORM's CARD OF 'laws.FnExactDipsFor'. -/
def fnExactDipsForUptoCard : Claim7 := { stood := { row := fnExactDipsForUptoRow, standIns := [], harness := (true, "e90ab5389a3983ecfa359ab3b52a23a7060694bc16d951eb259db79a5e09821c"), looks := true }, kinds := [], alts := [], laidByText := true, laidKinds := [.sentinel, .sentinel, .sentinel, .sentinel, .sentinel, .sentinel, .sentinel], laidTests := true, laidLooks := .later }
def FnExactDipsForUptoCardSaid : Prop := Claim7.holds Tryd.pinned (.plain (OpenSpec.upto fnExactDipsForSpec)) fnExactDipsForUptoCard

/-- THE SECOND FORM's CARD OF 'laws.FnExactPathBetween'. -/
def fnExactPathBetweenUptoCard : Claim7 := { stood := { row := fnExactPathBetweenUptoRow, standIns := [], harness := (true, "e90ab5389a3983ecfa359ab3b52a23a7060694bc16d951eb259db79a5e09821c"), looks := true }, kinds := [], alts := [], laidByText := true, laidKinds := [.sentinel, .sentinel, .sentinel, .sentinel, .sentinel, .sentinel, .sentinel], laidTests := true, laidLooks := .later }
def FnExactPathBetweenUptoCardSaid : Prop := Claim7.holds Tryd.pinned (.plain (OpenSpec.upto fnExactPathBetweenSpec)) fnExactPathBetweenUptoCard
end Rows
end Go.Proofs.YthkkbkpfomhdeaaDoor
