/-
  DERIVED. GIVEN WITH THE SEED: THE CARDS: each row of YtgbhchmpeioaiaaDoorRows.lean that lists a variable, with what it lists TIED to the program's text (the seventh form; the later family's looks); each row that meets fmt, with fmt's text TOLD by the authors' own Lean function (tested against real Go, not proved from fmt's source: count such statements apart). THE CARD IS WHAT COUNTS. Prove the row's statement (the work); the ties are given (YtgbhchmpeioaiaaDoorTie.lean); close each card by the builder's one call (the guide's Derived/Test/ToyasCard.lean, 'card_holds'). Laid BY PROGRAM, IN A SANDBOX (cutbox-door.mjs). By AI agents, Wed Nov 11 2026. No macro, syntax, notation, axiom, sorry.
-/
import Derived.Test.YtgbhchmpeioaiaaDoorRows
import GoSem.ClaimSeven
namespace Go.Proofs.YtgbhchmpeioaiaaDoor
namespace Rows

/-- THE TIED CARD OF 'laws.FnExactDyeIn'. -/
def fnExactDyeInCard : Claim7 := { stood := { row := fnExactDyeInRow, standIns := [], harness := (true, "220cb361f2dbdc1123912283e7c043b066a4445d6f1fc29724ac8faec1594f09"), looks := true }, kinds := [], alts := [], laidByText := true, laidKinds := [.sentinel, .sentinel, .sentinel, .sentinel, .sentinel, .sentinel], laidTests := true, laidLooks := .later }
def FnExactDyeInCardSaid : Prop := Claim7.holds Tryd.pinned (.plain (OpenSpec.ofChange fnExactDyeInSpec)) fnExactDyeInCard

/-- THE TIED CARD OF 'laws.FnExactDarkestCell'. -/
def fnExactDarkestCellCard : Claim7 := { stood := { row := fnExactDarkestCellRow, standIns := [], harness := (true, "220cb361f2dbdc1123912283e7c043b066a4445d6f1fc29724ac8faec1594f09"), looks := true }, kinds := [], alts := [], laidByText := true, laidKinds := [.sentinel, .sentinel, .sentinel, .sentinel, .sentinel, .sentinel, .sentinel], laidTests := true, laidLooks := .later }
def FnExactDarkestCellCardSaid : Prop := Claim7.holds Tryd.pinned (.plain (OpenSpec.ofChange fnExactDarkestCellSpec)) fnExactDarkestCellCard

/-- THE TIED CARD OF 'laws.FnExactWettestCell'. -/
def fnExactWettestCellCard : Claim7 := { stood := { row := fnExactWettestCellRow, standIns := [], harness := (true, "220cb361f2dbdc1123912283e7c043b066a4445d6f1fc29724ac8faec1594f09"), looks := true }, kinds := [], alts := [], laidByText := true, laidKinds := [.sentinel, .sentinel, .sentinel, .sentinel, .sentinel, .sentinel, .sentinel], laidTests := true, laidLooks := .later }
def FnExactWettestCellCardSaid : Prop := Claim7.holds Tryd.pinned (.plain (OpenSpec.ofChange fnExactWettestCellSpec)) fnExactWettestCellCard

/-- THE TIED CARD OF 'laws.FnExactRinseOnce'. -/
def fnExactRinseOnceCard : Claim7 := { stood := { row := fnExactRinseOnceRow, standIns := [], harness := (true, "220cb361f2dbdc1123912283e7c043b066a4445d6f1fc29724ac8faec1594f09"), looks := true }, kinds := [], alts := [], laidByText := true, laidKinds := [.sentinel, .sentinel, .sentinel, .sentinel, .sentinel, .sentinel], laidTests := true, laidLooks := .later }
def FnExactRinseOnceCardSaid : Prop := Claim7.holds Tryd.pinned (.plain (OpenSpec.ofChange fnExactRinseOnceSpec)) fnExactRinseOnceCard

/-- THE TIED CARD OF 'laws.FnExactRinseUntil'. -/
def fnExactRinseUntilCard : Claim7 := { stood := { row := fnExactRinseUntilRow, standIns := [], harness := (true, "220cb361f2dbdc1123912283e7c043b066a4445d6f1fc29724ac8faec1594f09"), looks := true }, kinds := [], alts := [], laidByText := true, laidKinds := [.sentinel, .sentinel, .sentinel, .sentinel, .sentinel, .sentinel, .sentinel], laidTests := true, laidLooks := .later }
def FnExactRinseUntilCardSaid : Prop := Claim7.holds Tryd.pinned (.plain (OpenSpec.ofChange fnExactRinseUntilSpec)) fnExactRinseUntilCard

/-- THE TIED CARD OF 'laws.FnExactBathsFor'. -/
def fnExactBathsForCard : Claim7 := { stood := { row := fnExactBathsForRow, standIns := [], harness := (true, "220cb361f2dbdc1123912283e7c043b066a4445d6f1fc29724ac8faec1594f09"), looks := true }, kinds := [], alts := [], laidByText := true, laidKinds := [.sentinel, .sentinel, .sentinel, .sentinel, .sentinel, .sentinel], laidTests := true, laidLooks := .later }
def FnExactBathsForCardSaid : Prop := Claim7.holds Tryd.pinned (.plain (OpenSpec.ofChange fnExactBathsForSpec)) fnExactBathsForCard

/-- THE TIED CARD OF 'laws.FnExactCleanestBath'. -/
def fnExactCleanestBathCard : Claim7 := { stood := { row := fnExactCleanestBathRow, standIns := [], harness := (true, "220cb361f2dbdc1123912283e7c043b066a4445d6f1fc29724ac8faec1594f09"), looks := true }, kinds := [], alts := [], laidByText := true, laidKinds := [.sentinel, .sentinel, .sentinel, .sentinel, .sentinel, .sentinel], laidTests := true, laidLooks := .later }
def FnExactCleanestBathCardSaid : Prop := Claim7.holds Tryd.pinned (.plain (OpenSpec.ofChange fnExactCleanestBathSpec)) fnExactCleanestBathCard

/-- THE TIED CARD OF 'laws.FnExactRunOnce'. -/
def fnExactRunOnceCard : Claim7 := { stood := { row := fnExactRunOnceRow, standIns := [], harness := (true, "220cb361f2dbdc1123912283e7c043b066a4445d6f1fc29724ac8faec1594f09"), looks := true }, kinds := [], alts := [], laidByText := true, laidKinds := [.sentinel, .sentinel, .sentinel, .sentinel, .sentinel, .sentinel], laidTests := true, laidLooks := .later }
def FnExactRunOnceCardSaid : Prop := Claim7.holds Tryd.pinned (.plain (OpenSpec.ofChange fnExactRunOnceSpec)) fnExactRunOnceCard

/-- THE TIED CARD OF 'laws.FnExactRunRounds'. -/
def fnExactRunRoundsCard : Claim7 := { stood := { row := fnExactRunRoundsRow, standIns := [], harness := (true, "220cb361f2dbdc1123912283e7c043b066a4445d6f1fc29724ac8faec1594f09"), looks := true }, kinds := [], alts := [], laidByText := true, laidKinds := [.sentinel, .sentinel, .sentinel, .sentinel, .sentinel, .sentinel], laidTests := true, laidLooks := .later }
def FnExactRunRoundsCardSaid : Prop := Claim7.holds Tryd.pinned (.plain (OpenSpec.ofChange fnExactRunRoundsSpec)) fnExactRunRoundsCard

/-- THE TIED CARD OF 'laws.FnExactRunUntil'. -/
def fnExactRunUntilCard : Claim7 := { stood := { row := fnExactRunUntilRow, standIns := [], harness := (true, "220cb361f2dbdc1123912283e7c043b066a4445d6f1fc29724ac8faec1594f09"), looks := true }, kinds := [], alts := [], laidByText := true, laidKinds := [.sentinel, .sentinel, .sentinel, .sentinel, .sentinel, .sentinel], laidTests := true, laidLooks := .later }
def FnExactRunUntilCardSaid : Prop := Claim7.holds Tryd.pinned (.plain (OpenSpec.ofChange fnExactRunUntilSpec)) fnExactRunUntilCard

/-- THE TIED CARD OF 'laws.FnExactIsCalm'. -/
def fnExactIsCalmCard : Claim7 := { stood := { row := fnExactIsCalmRow, standIns := [], harness := (true, "220cb361f2dbdc1123912283e7c043b066a4445d6f1fc29724ac8faec1594f09"), looks := true }, kinds := [], alts := [], laidByText := true, laidKinds := [.sentinel, .sentinel, .sentinel, .sentinel, .sentinel, .sentinel], laidTests := true, laidLooks := .later }
def FnExactIsCalmCardSaid : Prop := Claim7.holds Tryd.pinned (.plain (OpenSpec.ofChange fnExactIsCalmSpec)) fnExactIsCalmCard

/-- THE TIED CARD OF 'laws.FnExactGiveUnit'. -/
def fnExactGiveUnitCard : Claim7 := { stood := { row := fnExactGiveUnitRow, standIns := [], harness := (true, "220cb361f2dbdc1123912283e7c043b066a4445d6f1fc29724ac8faec1594f09"), looks := true }, kinds := [], alts := [], laidByText := true, laidKinds := [.sentinel, .sentinel, .sentinel, .sentinel, .sentinel, .sentinel], laidTests := true, laidLooks := .later }
def FnExactGiveUnitCardSaid : Prop := Claim7.holds Tryd.pinned (.plain (OpenSpec.ofChange fnExactGiveUnitSpec)) fnExactGiveUnitCard

/-- THE SECOND FORM's CARD OF 'laws.FnExactDyeIn'. -/
def fnExactDyeInUptoCard : Claim7 := { stood := { row := fnExactDyeInUptoRow, standIns := [], harness := (true, "220cb361f2dbdc1123912283e7c043b066a4445d6f1fc29724ac8faec1594f09"), looks := true }, kinds := [], alts := [], laidByText := true, laidKinds := [.sentinel, .sentinel, .sentinel, .sentinel, .sentinel, .sentinel], laidTests := true, laidLooks := .later }
def FnExactDyeInUptoCardSaid : Prop := Claim7.holds Tryd.pinned (.plain (OpenSpec.upto fnExactDyeInSpec)) fnExactDyeInUptoCard

/-- THE SECOND FORM's CARD OF 'laws.FnExactDarkestCell'. -/
def fnExactDarkestCellUptoCard : Claim7 := { stood := { row := fnExactDarkestCellUptoRow, standIns := [], harness := (true, "220cb361f2dbdc1123912283e7c043b066a4445d6f1fc29724ac8faec1594f09"), looks := true }, kinds := [], alts := [], laidByText := true, laidKinds := [.sentinel, .sentinel, .sentinel, .sentinel, .sentinel, .sentinel, .sentinel], laidTests := true, laidLooks := .later }
def FnExactDarkestCellUptoCardSaid : Prop := Claim7.holds Tryd.pinned (.plain (OpenSpec.upto fnExactDarkestCellSpec)) fnExactDarkestCellUptoCard

/-- THE SECOND FORM's CARD OF 'laws.FnExactWettestCell'. -/
def fnExactWettestCellUptoCard : Claim7 := { stood := { row := fnExactWettestCellUptoRow, standIns := [], harness := (true, "220cb361f2dbdc1123912283e7c043b066a4445d6f1fc29724ac8faec1594f09"), looks := true }, kinds := [], alts := [], laidByText := true, laidKinds := [.sentinel, .sentinel, .sentinel, .sentinel, .sentinel, .sentinel, .sentinel], laidTests := true, laidLooks := .later }
def FnExactWettestCellUptoCardSaid : Prop := Claim7.holds Tryd.pinned (.plain (OpenSpec.upto fnExactWettestCellSpec)) fnExactWettestCellUptoCard

/-- THE SECOND FORM's CARD OF 'laws.FnExactRinseOnce'. -/
def fnExactRinseOnceUptoCard : Claim7 := { stood := { row := fnExactRinseOnceUptoRow, standIns := [], harness := (true, "220cb361f2dbdc1123912283e7c043b066a4445d6f1fc29724ac8faec1594f09"), looks := true }, kinds := [], alts := [], laidByText := true, laidKinds := [.sentinel, .sentinel, .sentinel, .sentinel, .sentinel, .sentinel], laidTests := true, laidLooks := .later }
def FnExactRinseOnceUptoCardSaid : Prop := Claim7.holds Tryd.pinned (.plain (OpenSpec.upto fnExactRinseOnceSpec)) fnExactRinseOnceUptoCard

/-- THE SECOND FORM's CARD OF 'laws.FnExactRinseUntil'. -/
def fnExactRinseUntilUptoCard : Claim7 := { stood := { row := fnExactRinseUntilUptoRow, standIns := [], harness := (true, "220cb361f2dbdc1123912283e7c043b066a4445d6f1fc29724ac8faec1594f09"), looks := true }, kinds := [], alts := [], laidByText := true, laidKinds := [.sentinel, .sentinel, .sentinel, .sentinel, .sentinel, .sentinel, .sentinel], laidTests := true, laidLooks := .later }
def FnExactRinseUntilUptoCardSaid : Prop := Claim7.holds Tryd.pinned (.plain (OpenSpec.upto fnExactRinseUntilSpec)) fnExactRinseUntilUptoCard

/-- THE SECOND FORM's CARD OF 'laws.FnExactBathsFor'. -/
def fnExactBathsForUptoCard : Claim7 := { stood := { row := fnExactBathsForUptoRow, standIns := [], harness := (true, "220cb361f2dbdc1123912283e7c043b066a4445d6f1fc29724ac8faec1594f09"), looks := true }, kinds := [], alts := [], laidByText := true, laidKinds := [.sentinel, .sentinel, .sentinel, .sentinel, .sentinel, .sentinel], laidTests := true, laidLooks := .later }
def FnExactBathsForUptoCardSaid : Prop := Claim7.holds Tryd.pinned (.plain (OpenSpec.upto fnExactBathsForSpec)) fnExactBathsForUptoCard

/-- THE SECOND FORM's CARD OF 'laws.FnExactCleanestBath'. -/
def fnExactCleanestBathUptoCard : Claim7 := { stood := { row := fnExactCleanestBathUptoRow, standIns := [], harness := (true, "220cb361f2dbdc1123912283e7c043b066a4445d6f1fc29724ac8faec1594f09"), looks := true }, kinds := [], alts := [], laidByText := true, laidKinds := [.sentinel, .sentinel, .sentinel, .sentinel, .sentinel, .sentinel], laidTests := true, laidLooks := .later }
def FnExactCleanestBathUptoCardSaid : Prop := Claim7.holds Tryd.pinned (.plain (OpenSpec.upto fnExactCleanestBathSpec)) fnExactCleanestBathUptoCard

/-- THE SECOND FORM's CARD OF 'laws.FnExactRunOnce'. -/
def fnExactRunOnceUptoCard : Claim7 := { stood := { row := fnExactRunOnceUptoRow, standIns := [], harness := (true, "220cb361f2dbdc1123912283e7c043b066a4445d6f1fc29724ac8faec1594f09"), looks := true }, kinds := [], alts := [], laidByText := true, laidKinds := [.sentinel, .sentinel, .sentinel, .sentinel, .sentinel, .sentinel], laidTests := true, laidLooks := .later }
def FnExactRunOnceUptoCardSaid : Prop := Claim7.holds Tryd.pinned (.plain (OpenSpec.upto fnExactRunOnceSpec)) fnExactRunOnceUptoCard

/-- THE SECOND FORM's CARD OF 'laws.FnExactRunRounds'. -/
def fnExactRunRoundsUptoCard : Claim7 := { stood := { row := fnExactRunRoundsUptoRow, standIns := [], harness := (true, "220cb361f2dbdc1123912283e7c043b066a4445d6f1fc29724ac8faec1594f09"), looks := true }, kinds := [], alts := [], laidByText := true, laidKinds := [.sentinel, .sentinel, .sentinel, .sentinel, .sentinel, .sentinel], laidTests := true, laidLooks := .later }
def FnExactRunRoundsUptoCardSaid : Prop := Claim7.holds Tryd.pinned (.plain (OpenSpec.upto fnExactRunRoundsSpec)) fnExactRunRoundsUptoCard

/-- THE SECOND FORM's CARD OF 'laws.FnExactRunUntil'. -/
def fnExactRunUntilUptoCard : Claim7 := { stood := { row := fnExactRunUntilUptoRow, standIns := [], harness := (true, "220cb361f2dbdc1123912283e7c043b066a4445d6f1fc29724ac8faec1594f09"), looks := true }, kinds := [], alts := [], laidByText := true, laidKinds := [.sentinel, .sentinel, .sentinel, .sentinel, .sentinel, .sentinel], laidTests := true, laidLooks := .later }
def FnExactRunUntilUptoCardSaid : Prop := Claim7.holds Tryd.pinned (.plain (OpenSpec.upto fnExactRunUntilSpec)) fnExactRunUntilUptoCard

/-- THE SECOND FORM's CARD OF 'laws.FnExactIsCalm'. -/
def fnExactIsCalmUptoCard : Claim7 := { stood := { row := fnExactIsCalmUptoRow, standIns := [], harness := (true, "220cb361f2dbdc1123912283e7c043b066a4445d6f1fc29724ac8faec1594f09"), looks := true }, kinds := [], alts := [], laidByText := true, laidKinds := [.sentinel, .sentinel, .sentinel, .sentinel, .sentinel, .sentinel], laidTests := true, laidLooks := .later }
def FnExactIsCalmUptoCardSaid : Prop := Claim7.holds Tryd.pinned (.plain (OpenSpec.upto fnExactIsCalmSpec)) fnExactIsCalmUptoCard

/-- THE SECOND FORM's CARD OF 'laws.FnExactGiveUnit'. -/
def fnExactGiveUnitUptoCard : Claim7 := { stood := { row := fnExactGiveUnitUptoRow, standIns := [], harness := (true, "220cb361f2dbdc1123912283e7c043b066a4445d6f1fc29724ac8faec1594f09"), looks := true }, kinds := [], alts := [], laidByText := true, laidKinds := [.sentinel, .sentinel, .sentinel, .sentinel, .sentinel, .sentinel], laidTests := true, laidLooks := .later }
def FnExactGiveUnitUptoCardSaid : Prop := Claim7.holds Tryd.pinned (.plain (OpenSpec.upto fnExactGiveUnitSpec)) fnExactGiveUnitUptoCard
end Rows
end Go.Proofs.YtgbhchmpeioaiaaDoor
