/-
  DERIVED. GIVEN WITH THE SEED: THE CARDS: each row of YtfgcpiipndhllaaDoorRows.lean that lists a variable, with what it lists TIED to the program's text (the seventh form; the later family's looks); each row that meets fmt, with fmt's text TOLD by the authors' own Lean function (tested against real Go, not proved from fmt's source: count such statements apart). THE CARD IS WHAT COUNTS. Prove the row's statement (the work); the ties are given (YtfgcpiipndhllaaDoorTie.lean); close each card by the builder's one call (the guide's Derived/Test/ToyasCard.lean, 'card_holds'). Laid BY PROGRAM, IN A SANDBOX (cutbox-door.mjs). By AI agents, Wed Nov 11 2026. No macro, syntax, notation, axiom, sorry.
-/
import Derived.Test.YtfgcpiipndhllaaDoorRows
import GoSem.ClaimSeven
namespace Go.Proofs.YtfgcpiipndhllaaDoor
namespace Rows

/-- THE TIED CARD OF 'laws.FnExactWettestCell'. -/
def fnExactWettestCellCard : Claim7 := { stood := { row := fnExactWettestCellRow, standIns := [], harness := (true, "c57d19e3fb77518912dab76aef18eaacd69d440f63006bf8157d7080daf1e1fd"), looks := true }, kinds := [], alts := [], laidByText := true, laidKinds := [.sentinel, .sentinel, .sentinel, .sentinel, .sentinel, .sentinel, .sentinel], laidTests := true, laidLooks := .later }
def FnExactWettestCellCardSaid : Prop := Claim7.holds Tryd.pinned (.plain (OpenSpec.ofChange fnExactWettestCellSpec)) fnExactWettestCellCard

/-- THE TIED CARD OF 'laws.FnExactRinseUntil'. -/
def fnExactRinseUntilCard : Claim7 := { stood := { row := fnExactRinseUntilRow, standIns := [], harness := (true, "c57d19e3fb77518912dab76aef18eaacd69d440f63006bf8157d7080daf1e1fd"), looks := true }, kinds := [], alts := [], laidByText := true, laidKinds := [.sentinel, .sentinel, .sentinel, .sentinel, .sentinel, .sentinel, .sentinel], laidTests := true, laidLooks := .later }
def FnExactRinseUntilCardSaid : Prop := Claim7.holds Tryd.pinned (.plain (OpenSpec.ofChange fnExactRinseUntilSpec)) fnExactRinseUntilCard

/-- THE TIED CARD OF 'laws.FnExactLiftCell'. -/
def fnExactLiftCellCard : Claim7 := { stood := { row := fnExactLiftCellRow, standIns := [], harness := (true, "c57d19e3fb77518912dab76aef18eaacd69d440f63006bf8157d7080daf1e1fd"), looks := true }, kinds := [], alts := [], laidByText := true, laidKinds := [.sentinel, .sentinel, .sentinel, .sentinel, .sentinel, .sentinel], laidTests := true, laidLooks := .later }
def FnExactLiftCellCardSaid : Prop := Claim7.holds Tryd.pinned (.plain (OpenSpec.ofChange fnExactLiftCellSpec)) fnExactLiftCellCard

/-- THE TIED CARD OF 'laws.FnExactDropOn'. -/
def fnExactDropOnCard : Claim7 := { stood := { row := fnExactDropOnRow, standIns := [], harness := (true, "c57d19e3fb77518912dab76aef18eaacd69d440f63006bf8157d7080daf1e1fd"), looks := true }, kinds := [], alts := [], laidByText := true, laidKinds := [.sentinel, .sentinel, .sentinel, .sentinel, .sentinel, .sentinel], laidTests := true, laidLooks := .later }
def FnExactDropOnCardSaid : Prop := Claim7.holds Tryd.pinned (.plain (OpenSpec.ofChange fnExactDropOnSpec)) fnExactDropOnCard

/-- THE TIED CARD OF 'laws.FnExactDropAll'. -/
def fnExactDropAllCard : Claim7 := { stood := { row := fnExactDropAllRow, standIns := [], harness := (true, "c57d19e3fb77518912dab76aef18eaacd69d440f63006bf8157d7080daf1e1fd"), looks := true }, kinds := [], alts := [], laidByText := true, laidKinds := [.sentinel, .sentinel, .sentinel, .sentinel, .sentinel, .sentinel], laidTests := true, laidLooks := .later }
def FnExactDropAllCardSaid : Prop := Claim7.holds Tryd.pinned (.plain (OpenSpec.ofChange fnExactDropAllSpec)) fnExactDropAllCard

/-- THE TIED CARD OF 'laws.FnExactCheckDrops'. -/
def fnExactCheckDropsCard : Claim7 := { stood := { row := fnExactCheckDropsRow, standIns := [], harness := (true, "c57d19e3fb77518912dab76aef18eaacd69d440f63006bf8157d7080daf1e1fd"), looks := true }, kinds := [], alts := [], laidByText := true, laidKinds := [.sentinel, .sentinel, .sentinel, .sentinel, .sentinel, .sentinel], laidTests := true, laidLooks := .later }
def FnExactCheckDropsCardSaid : Prop := Claim7.holds Tryd.pinned (.plain (OpenSpec.ofChange fnExactCheckDropsSpec)) fnExactCheckDropsCard

/-- THE TIED CARD OF 'laws.FnExactCanBeLast'. -/
def fnExactCanBeLastCard : Claim7 := { stood := { row := fnExactCanBeLastRow, standIns := [], harness := (true, "c57d19e3fb77518912dab76aef18eaacd69d440f63006bf8157d7080daf1e1fd"), looks := true }, kinds := [], alts := [], laidByText := true, laidKinds := [.sentinel, .sentinel, .sentinel, .sentinel, .sentinel, .sentinel], laidTests := true, laidLooks := .later }
def FnExactCanBeLastCardSaid : Prop := Claim7.holds Tryd.pinned (.plain (OpenSpec.ofChange fnExactCanBeLastSpec)) fnExactCanBeLastCard

/-- THE TIED CARD OF 'laws.FnExactLastDrops'. -/
def fnExactLastDropsCard : Claim7 := { stood := { row := fnExactLastDropsRow, standIns := [], harness := (true, "c57d19e3fb77518912dab76aef18eaacd69d440f63006bf8157d7080daf1e1fd"), looks := true }, kinds := [], alts := [], laidByText := true, laidKinds := [.sentinel, .sentinel, .sentinel, .sentinel, .sentinel, .sentinel], laidTests := true, laidLooks := .later }
def FnExactLastDropsCardSaid : Prop := Claim7.holds Tryd.pinned (.plain (OpenSpec.ofChange fnExactLastDropsSpec)) fnExactLastDropsCard

/-- THE TIED CARD OF 'laws.FnExactOffBy'. -/
def fnExactOffByCard : Claim7 := { stood := { row := fnExactOffByRow, standIns := [], harness := (true, "c57d19e3fb77518912dab76aef18eaacd69d440f63006bf8157d7080daf1e1fd"), looks := true }, kinds := [], alts := [], laidByText := true, laidKinds := [.sentinel, .sentinel, .sentinel, .sentinel, .sentinel, .sentinel], laidTests := true, laidLooks := .later }
def FnExactOffByCardSaid : Prop := Claim7.holds Tryd.pinned (.plain (OpenSpec.ofChange fnExactOffBySpec)) fnExactOffByCard

/-- THE TIED CARD OF 'laws.FnExactPairsOf'. -/
def fnExactPairsOfCard : Claim7 := { stood := { row := fnExactPairsOfRow, standIns := [], harness := (true, "c57d19e3fb77518912dab76aef18eaacd69d440f63006bf8157d7080daf1e1fd"), looks := true }, kinds := [], alts := [], laidByText := true, laidKinds := [.sentinel, .sentinel, .sentinel, .sentinel, .sentinel, .sentinel], laidTests := true, laidLooks := .later }
def FnExactPairsOfCardSaid : Prop := Claim7.holds Tryd.pinned (.plain (OpenSpec.ofChange fnExactPairsOfSpec)) fnExactPairsOfCard

/-- THE TIED CARD OF 'laws.FnExactPressOnce'. -/
def fnExactPressOnceCard : Claim7 := { stood := { row := fnExactPressOnceRow, standIns := [], harness := (true, "c57d19e3fb77518912dab76aef18eaacd69d440f63006bf8157d7080daf1e1fd"), looks := true }, kinds := [], alts := [], laidByText := true, laidKinds := [.sentinel, .sentinel, .sentinel, .sentinel, .sentinel, .sentinel], laidTests := true, laidLooks := .later }
def FnExactPressOnceCardSaid : Prop := Claim7.holds Tryd.pinned (.plain (OpenSpec.ofChange fnExactPressOnceSpec)) fnExactPressOnceCard

/-- THE SECOND FORM's CARD OF 'laws.FnExactWettestCell'. -/
def fnExactWettestCellUptoCard : Claim7 := { stood := { row := fnExactWettestCellUptoRow, standIns := [], harness := (true, "c57d19e3fb77518912dab76aef18eaacd69d440f63006bf8157d7080daf1e1fd"), looks := true }, kinds := [], alts := [], laidByText := true, laidKinds := [.sentinel, .sentinel, .sentinel, .sentinel, .sentinel, .sentinel, .sentinel], laidTests := true, laidLooks := .later }
def FnExactWettestCellUptoCardSaid : Prop := Claim7.holds Tryd.pinned (.plain (OpenSpec.upto fnExactWettestCellSpec)) fnExactWettestCellUptoCard

/-- THE SECOND FORM's CARD OF 'laws.FnExactRinseUntil'. -/
def fnExactRinseUntilUptoCard : Claim7 := { stood := { row := fnExactRinseUntilUptoRow, standIns := [], harness := (true, "c57d19e3fb77518912dab76aef18eaacd69d440f63006bf8157d7080daf1e1fd"), looks := true }, kinds := [], alts := [], laidByText := true, laidKinds := [.sentinel, .sentinel, .sentinel, .sentinel, .sentinel, .sentinel, .sentinel], laidTests := true, laidLooks := .later }
def FnExactRinseUntilUptoCardSaid : Prop := Claim7.holds Tryd.pinned (.plain (OpenSpec.upto fnExactRinseUntilSpec)) fnExactRinseUntilUptoCard

/-- THE SECOND FORM's CARD OF 'laws.FnExactLiftCell'. -/
def fnExactLiftCellUptoCard : Claim7 := { stood := { row := fnExactLiftCellUptoRow, standIns := [], harness := (true, "c57d19e3fb77518912dab76aef18eaacd69d440f63006bf8157d7080daf1e1fd"), looks := true }, kinds := [], alts := [], laidByText := true, laidKinds := [.sentinel, .sentinel, .sentinel, .sentinel, .sentinel, .sentinel], laidTests := true, laidLooks := .later }
def FnExactLiftCellUptoCardSaid : Prop := Claim7.holds Tryd.pinned (.plain (OpenSpec.upto fnExactLiftCellSpec)) fnExactLiftCellUptoCard

/-- THE SECOND FORM's CARD OF 'laws.FnExactDropOn'. -/
def fnExactDropOnUptoCard : Claim7 := { stood := { row := fnExactDropOnUptoRow, standIns := [], harness := (true, "c57d19e3fb77518912dab76aef18eaacd69d440f63006bf8157d7080daf1e1fd"), looks := true }, kinds := [], alts := [], laidByText := true, laidKinds := [.sentinel, .sentinel, .sentinel, .sentinel, .sentinel, .sentinel], laidTests := true, laidLooks := .later }
def FnExactDropOnUptoCardSaid : Prop := Claim7.holds Tryd.pinned (.plain (OpenSpec.upto fnExactDropOnSpec)) fnExactDropOnUptoCard

/-- THE SECOND FORM's CARD OF 'laws.FnExactDropAll'. -/
def fnExactDropAllUptoCard : Claim7 := { stood := { row := fnExactDropAllUptoRow, standIns := [], harness := (true, "c57d19e3fb77518912dab76aef18eaacd69d440f63006bf8157d7080daf1e1fd"), looks := true }, kinds := [], alts := [], laidByText := true, laidKinds := [.sentinel, .sentinel, .sentinel, .sentinel, .sentinel, .sentinel], laidTests := true, laidLooks := .later }
def FnExactDropAllUptoCardSaid : Prop := Claim7.holds Tryd.pinned (.plain (OpenSpec.upto fnExactDropAllSpec)) fnExactDropAllUptoCard

/-- THE SECOND FORM's CARD OF 'laws.FnExactCheckDrops'. -/
def fnExactCheckDropsUptoCard : Claim7 := { stood := { row := fnExactCheckDropsUptoRow, standIns := [], harness := (true, "c57d19e3fb77518912dab76aef18eaacd69d440f63006bf8157d7080daf1e1fd"), looks := true }, kinds := [], alts := [], laidByText := true, laidKinds := [.sentinel, .sentinel, .sentinel, .sentinel, .sentinel, .sentinel], laidTests := true, laidLooks := .later }
def FnExactCheckDropsUptoCardSaid : Prop := Claim7.holds Tryd.pinned (.plain (OpenSpec.upto fnExactCheckDropsSpec)) fnExactCheckDropsUptoCard

/-- THE SECOND FORM's CARD OF 'laws.FnExactCanBeLast'. -/
def fnExactCanBeLastUptoCard : Claim7 := { stood := { row := fnExactCanBeLastUptoRow, standIns := [], harness := (true, "c57d19e3fb77518912dab76aef18eaacd69d440f63006bf8157d7080daf1e1fd"), looks := true }, kinds := [], alts := [], laidByText := true, laidKinds := [.sentinel, .sentinel, .sentinel, .sentinel, .sentinel, .sentinel], laidTests := true, laidLooks := .later }
def FnExactCanBeLastUptoCardSaid : Prop := Claim7.holds Tryd.pinned (.plain (OpenSpec.upto fnExactCanBeLastSpec)) fnExactCanBeLastUptoCard

/-- THE SECOND FORM's CARD OF 'laws.FnExactLastDrops'. -/
def fnExactLastDropsUptoCard : Claim7 := { stood := { row := fnExactLastDropsUptoRow, standIns := [], harness := (true, "c57d19e3fb77518912dab76aef18eaacd69d440f63006bf8157d7080daf1e1fd"), looks := true }, kinds := [], alts := [], laidByText := true, laidKinds := [.sentinel, .sentinel, .sentinel, .sentinel, .sentinel, .sentinel], laidTests := true, laidLooks := .later }
def FnExactLastDropsUptoCardSaid : Prop := Claim7.holds Tryd.pinned (.plain (OpenSpec.upto fnExactLastDropsSpec)) fnExactLastDropsUptoCard

/-- THE SECOND FORM's CARD OF 'laws.FnExactOffBy'. -/
def fnExactOffByUptoCard : Claim7 := { stood := { row := fnExactOffByUptoRow, standIns := [], harness := (true, "c57d19e3fb77518912dab76aef18eaacd69d440f63006bf8157d7080daf1e1fd"), looks := true }, kinds := [], alts := [], laidByText := true, laidKinds := [.sentinel, .sentinel, .sentinel, .sentinel, .sentinel, .sentinel], laidTests := true, laidLooks := .later }
def FnExactOffByUptoCardSaid : Prop := Claim7.holds Tryd.pinned (.plain (OpenSpec.upto fnExactOffBySpec)) fnExactOffByUptoCard

/-- THE SECOND FORM's CARD OF 'laws.FnExactPairsOf'. -/
def fnExactPairsOfUptoCard : Claim7 := { stood := { row := fnExactPairsOfUptoRow, standIns := [], harness := (true, "c57d19e3fb77518912dab76aef18eaacd69d440f63006bf8157d7080daf1e1fd"), looks := true }, kinds := [], alts := [], laidByText := true, laidKinds := [.sentinel, .sentinel, .sentinel, .sentinel, .sentinel, .sentinel], laidTests := true, laidLooks := .later }
def FnExactPairsOfUptoCardSaid : Prop := Claim7.holds Tryd.pinned (.plain (OpenSpec.upto fnExactPairsOfSpec)) fnExactPairsOfUptoCard

/-- THE SECOND FORM's CARD OF 'laws.FnExactPressOnce'. -/
def fnExactPressOnceUptoCard : Claim7 := { stood := { row := fnExactPressOnceUptoRow, standIns := [], harness := (true, "c57d19e3fb77518912dab76aef18eaacd69d440f63006bf8157d7080daf1e1fd"), looks := true }, kinds := [], alts := [], laidByText := true, laidKinds := [.sentinel, .sentinel, .sentinel, .sentinel, .sentinel, .sentinel], laidTests := true, laidLooks := .later }
def FnExactPressOnceUptoCardSaid : Prop := Claim7.holds Tryd.pinned (.plain (OpenSpec.upto fnExactPressOnceSpec)) fnExactPressOnceUptoCard
end Rows
end Go.Proofs.YtfgcpiipndhllaaDoor
