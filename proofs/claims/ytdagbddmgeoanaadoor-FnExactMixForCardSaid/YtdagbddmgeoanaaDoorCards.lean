/-
  DERIVED. GIVEN WITH THE SEED: THE CARDS: each row of YtdagbddmgeoanaaDoorRows.lean that lists a variable, with what it lists TIED to the program's text (the seventh form; the later family's looks); each row that meets fmt, with fmt's text TOLD by the authors' own Lean function (tested against real Go, not proved from fmt's source: count such statements apart). THE CARD IS WHAT COUNTS. Prove the row's statement (the work); the ties are given (YtdagbddmgeoanaaDoorTie.lean); close each card by the builder's one call (the guide's Derived/Test/ToyasCard.lean, 'card_holds'). Laid BY PROGRAM, IN A SANDBOX (cutbox-door.mjs). By AI agents, Wed Nov 11 2026. No macro, syntax, notation, axiom, sorry.
-/
import Derived.Test.YtdagbddmgeoanaaDoorRows
import GoSem.ClaimSeven
namespace Go.Proofs.YtdagbddmgeoanaaDoor
namespace Rows

/-- THE TIED CARD OF 'laws.FnExactMixFor'. -/
def fnExactMixForCard : Claim7 := { stood := { row := fnExactMixForRow, standIns := [], harness := (true, "a3a2c134607118e7df4e66dda0481d2df741095b52793a2149cafb2a03804361"), looks := true }, kinds := [], alts := [], laidByText := true, laidKinds := [.sentinel, .sentinel, .sentinel, .sentinel, .sentinel, .sentinel], laidTests := true, laidLooks := .later }
def FnExactMixForCardSaid : Prop := Claim7.holds Tryd.pinned (.plain (OpenSpec.ofChange fnExactMixForSpec)) fnExactMixForCard

/-- THE SECOND FORM's CARD OF 'laws.FnExactMixFor'. -/
def fnExactMixForUptoCard : Claim7 := { stood := { row := fnExactMixForUptoRow, standIns := [], harness := (true, "a3a2c134607118e7df4e66dda0481d2df741095b52793a2149cafb2a03804361"), looks := true }, kinds := [], alts := [], laidByText := true, laidKinds := [.sentinel, .sentinel, .sentinel, .sentinel, .sentinel, .sentinel], laidTests := true, laidLooks := .later }
def FnExactMixForUptoCardSaid : Prop := Claim7.holds Tryd.pinned (.plain (OpenSpec.upto fnExactMixForSpec)) fnExactMixForUptoCard
end Rows
end Go.Proofs.YtdagbddmgeoanaaDoor
