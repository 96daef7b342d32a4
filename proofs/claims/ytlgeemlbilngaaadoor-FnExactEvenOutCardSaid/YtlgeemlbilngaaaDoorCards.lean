/-
  DERIVED. GIVEN WITH THE SEED: THE CARDS: each row of YtlgeemlbilngaaaDoorRows.lean that lists a variable, with what it lists TIED to the program's text (the seventh form; the later family's looks); each row that meets fmt, with fmt's text TOLD by the authors' own Lean function (tested against real Go, not proved from fmt's source: count such statements apart). THE CARD IS WHAT COUNTS. Prove the row's statement (the work); the ties are given (YtlgeemlbilngaaaDoorTie.lean); close each card by the builder's one call (the guide's Derived/Test/ToyasCard.lean, 'card_holds'). Laid BY PROGRAM, IN A SANDBOX (cutbox-door.mjs). By AI agents, Wed Nov 11 2026. No macro, syntax, notation, axiom, sorry.
-/
import Derived.Test.YtlgeemlbilngaaaDoorRows
import GoSem.ClaimSeven
namespace Go.Proofs.YtlgeemlbilngaaaDoor
namespace Rows

/-- THE TIED CARD OF 'laws.FnExactIsMirror'. -/
def fnExactIsMirrorCard : Claim7 := { stood := { row := fnExactIsMirrorRow, standIns := [], harness := (true, "1a12b92cba811507c2b4261187e547394ae6ffbf111b9311cb6d76195778cc2c"), looks := true }, kinds := [], alts := [], laidByText := true, laidKinds := [.sentinel, .sentinel, .sentinel, .sentinel, .sentinel, .sentinel], laidTests := true, laidLooks := .later }
def FnExactIsMirrorCardSaid : Prop := Claim7.holds Tryd.pinned (.plain (OpenSpec.ofChange fnExactIsMirrorSpec)) fnExactIsMirrorCard

/-- THE TIED CARD OF 'laws.FnExactCanBeFolded'. -/
def fnExactCanBeFoldedCard : Claim7 := { stood := { row := fnExactCanBeFoldedRow, standIns := [], harness := (true, "1a12b92cba811507c2b4261187e547394ae6ffbf111b9311cb6d76195778cc2c"), looks := true }, kinds := [], alts := [], laidByText := true, laidKinds := [.sentinel, .sentinel, .sentinel, .sentinel, .sentinel, .sentinel], laidTests := true, laidLooks := .later }
def FnExactCanBeFoldedCardSaid : Prop := Claim7.holds Tryd.pinned (.plain (OpenSpec.ofChange fnExactCanBeFoldedSpec)) fnExactCanBeFoldedCard

/-- THE TIED CARD OF 'laws.FnExactEvenOut'. -/
def fnExactEvenOutCard : Claim7 := { stood := { row := fnExactEvenOutRow, standIns := [], harness := (true, "1a12b92cba811507c2b4261187e547394ae6ffbf111b9311cb6d76195778cc2c"), looks := true }, kinds := [], alts := [], laidByText := true, laidKinds := [.sentinel, .sentinel, .sentinel, .sentinel, .sentinel, .sentinel], laidTests := true, laidLooks := .later }
def FnExactEvenOutCardSaid : Prop := Claim7.holds Tryd.pinned (.plain (OpenSpec.ofChange fnExactEvenOutSpec)) fnExactEvenOutCard

/-- THE SECOND FORM's CARD OF 'laws.FnExactIsMirror'. -/
def fnExactIsMirrorUptoCard : Claim7 := { stood := { row := fnExactIsMirrorUptoRow, standIns := [], harness := (true, "1a12b92cba811507c2b4261187e547394ae6ffbf111b9311cb6d76195778cc2c"), looks := true }, kinds := [], alts := [], laidByText := true, laidKinds := [.sentinel, .sentinel, .sentinel, .sentinel, .sentinel, .sentinel], laidTests := true, laidLooks := .later }
def FnExactIsMirrorUptoCardSaid : Prop := Claim7.holds Tryd.pinned (.plain (OpenSpec.upto fnExactIsMirrorSpec)) fnExactIsMirrorUptoCard

/-- THE SECOND FORM's CARD OF 'laws.FnExactCanBeFolded'. -/
def fnExactCanBeFoldedUptoCard : Claim7 := { stood := { row := fnExactCanBeFoldedUptoRow, standIns := [], harness := (true, "1a12b92cba811507c2b4261187e547394ae6ffbf111b9311cb6d76195778cc2c"), looks := true }, kinds := [], alts := [], laidByText := true, laidKinds := [.sentinel, .sentinel, .sentinel, .sentinel, .sentinel, .sentinel], laidTests := true, laidLooks := .later }
def FnExactCanBeFoldedUptoCardSaid : Prop := Claim7.holds Tryd.pinned (.plain (OpenSpec.upto fnExactCanBeFoldedSpec)) fnExactCanBeFoldedUptoCard

/-- THE SECOND FORM's CARD OF 'laws.FnExactEvenOut'. -/
def fnExactEvenOutUptoCard : Claim7 := { stood := { row := fnExactEvenOutUptoRow, standIns := [], harness := (true, "1a12b92cba811507c2b4261187e547394ae6ffbf111b9311cb6d76195778cc2c"), looks := true }, kinds := [], alts := [], laidByText := true, laidKinds := [.sentinel, .sentinel, .sentinel, .sentinel, .sentinel, .sentinel], laidTests := true, laidLooks := .later }
def FnExactEvenOutUptoCardSaid : Prop := Claim7.holds Tryd.pinned (.plain (OpenSpec.upto fnExactEvenOutSpec)) fnExactEvenOutUptoCard
end Rows
end Go.Proofs.YtlgeemlbilngaaaDoor
