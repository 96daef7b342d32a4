/-
  DERIVED. GIVEN WITH THE SEED: THE CARDS: each row of YthbhckalkkameaaDoorRows.lean that lists a variable, with what it lists TIED to the program's text (the seventh form; the later family's looks); each row that meets fmt, with fmt's text TOLD by the authors' own Lean function (tested against real Go, not proved from fmt's source: count such statements apart). THE CARD IS WHAT COUNTS. Prove the row's statement (the work); the ties are given (YthbhckalkkameaaDoorTie.lean); close each card by the builder's one call (the guide's Derived/Test/ToyasCard.lean, 'card_holds'). Laid BY PROGRAM, IN A SANDBOX (cutbox-door.mjs). By AI agents, Wed Nov 11 2026. No macro, syntax, notation, axiom, sorry.
-/
import Derived.Test.YthbhckalkkameaaDoorRows
import GoSem.ClaimSeven
namespace Go.Proofs.YthbhckalkkameaaDoor
namespace Rows

/-- THE TIED CARD OF 'laws.FnExactPartnerOf'. -/
def fnExactPartnerOfCard : Claim7 := { stood := { row := fnExactPartnerOfRow, standIns := [], harness := (true, "19256c1af0861af46690f839ebe5405e5bc062adae7dd135c7b08ca96e25f40e"), looks := true }, kinds := [], alts := [], laidByText := true, laidKinds := [.sentinel, .sentinel, .sentinel, .sentinel, .sentinel, .sentinel], laidTests := true, laidLooks := .later }
def FnExactPartnerOfCardSaid : Prop := Claim7.holds Tryd.pinned (.plain (OpenSpec.ofChange fnExactPartnerOfSpec)) fnExactPartnerOfCard

/-- THE TIED CARD OF 'laws.FnExactHalfOf'. -/
def fnExactHalfOfCard : Claim7 := { stood := { row := fnExactHalfOfRow, standIns := [], harness := (true, "19256c1af0861af46690f839ebe5405e5bc062adae7dd135c7b08ca96e25f40e"), looks := true }, kinds := [], alts := [], laidByText := true, laidKinds := [.sentinel, .sentinel, .sentinel, .sentinel, .sentinel, .sentinel], laidTests := true, laidLooks := .later }
def FnExactHalfOfCardSaid : Prop := Claim7.holds Tryd.pinned (.plain (OpenSpec.ofChange fnExactHalfOfSpec)) fnExactHalfOfCard

/-- THE TIED CARD OF 'laws.FnExactOffBy'. -/
def fnExactOffByCard : Claim7 := { stood := { row := fnExactOffByRow, standIns := [], harness := (true, "19256c1af0861af46690f839ebe5405e5bc062adae7dd135c7b08ca96e25f40e"), looks := true }, kinds := [], alts := [], laidByText := true, laidKinds := [.sentinel, .sentinel, .sentinel, .sentinel, .sentinel, .sentinel], laidTests := true, laidLooks := .later }
def FnExactOffByCardSaid : Prop := Claim7.holds Tryd.pinned (.plain (OpenSpec.ofChange fnExactOffBySpec)) fnExactOffByCard

/-- THE TIED CARD OF 'laws.FnExactIsMirror'. -/
def fnExactIsMirrorCard : Claim7 := { stood := { row := fnExactIsMirrorRow, standIns := [], harness := (true, "19256c1af0861af46690f839ebe5405e5bc062adae7dd135c7b08ca96e25f40e"), looks := true }, kinds := [], alts := [], laidByText := true, laidKinds := [.sentinel, .sentinel, .sentinel, .sentinel, .sentinel, .sentinel], laidTests := true, laidLooks := .later }
def FnExactIsMirrorCardSaid : Prop := Claim7.holds Tryd.pinned (.plain (OpenSpec.ofChange fnExactIsMirrorSpec)) fnExactIsMirrorCard

/-- THE TIED CARD OF 'laws.FnExactEvenOut'. -/
def fnExactEvenOutCard : Claim7 := { stood := { row := fnExactEvenOutRow, standIns := [], harness := (true, "19256c1af0861af46690f839ebe5405e5bc062adae7dd135c7b08ca96e25f40e"), looks := true }, kinds := [], alts := [], laidByText := true, laidKinds := [.sentinel, .sentinel, .sentinel, .sentinel, .sentinel, .sentinel], laidTests := true, laidLooks := .later }
def FnExactEvenOutCardSaid : Prop := Claim7.holds Tryd.pinned (.plain (OpenSpec.ofChange fnExactEvenOutSpec)) fnExactEvenOutCard

/-- THE TIED CARD OF 'laws.FnExactPairsOf'. -/
def fnExactPairsOfCard : Claim7 := { stood := { row := fnExactPairsOfRow, standIns := [], harness := (true, "19256c1af0861af46690f839ebe5405e5bc062adae7dd135c7b08ca96e25f40e"), looks := true }, kinds := [], alts := [], laidByText := true, laidKinds := [.sentinel, .sentinel, .sentinel, .sentinel, .sentinel, .sentinel], laidTests := true, laidLooks := .later }
def FnExactPairsOfCardSaid : Prop := Claim7.holds Tryd.pinned (.plain (OpenSpec.ofChange fnExactPairsOfSpec)) fnExactPairsOfCard

/-- THE TIED CARD OF 'laws.FnExactCanBeFolded'. -/
def fnExactCanBeFoldedCard : Claim7 := { stood := { row := fnExactCanBeFoldedRow, standIns := [], harness := (true, "19256c1af0861af46690f839ebe5405e5bc062adae7dd135c7b08ca96e25f40e"), looks := true }, kinds := [], alts := [], laidByText := true, laidKinds := [.sentinel, .sentinel, .sentinel, .sentinel, .sentinel, .sentinel], laidTests := true, laidLooks := .later }
def FnExactCanBeFoldedCardSaid : Prop := Claim7.holds Tryd.pinned (.plain (OpenSpec.ofChange fnExactCanBeFoldedSpec)) fnExactCanBeFoldedCard

/-- THE TIED CARD OF 'laws.FnExactPressesUntil'. -/
def fnExactPressesUntilCard : Claim7 := { stood := { row := fnExactPressesUntilRow, standIns := [], harness := (true, "19256c1af0861af46690f839ebe5405e5bc062adae7dd135c7b08ca96e25f40e"), looks := true }, kinds := [], alts := [], laidByText := true, laidKinds := [.sentinel, .sentinel, .sentinel, .sentinel, .sentinel, .sentinel], laidTests := true, laidLooks := .later }
def FnExactPressesUntilCardSaid : Prop := Claim7.holds Tryd.pinned (.plain (OpenSpec.ofChange fnExactPressesUntilSpec)) fnExactPressesUntilCard

/-- THE TIED CARD OF 'laws.FnExactPressOnce'. -/
def fnExactPressOnceCard : Claim7 := { stood := { row := fnExactPressOnceRow, standIns := [], harness := (true, "19256c1af0861af46690f839ebe5405e5bc062adae7dd135c7b08ca96e25f40e"), looks := true }, kinds := [], alts := [], laidByText := true, laidKinds := [.sentinel, .sentinel, .sentinel, .sentinel, .sentinel, .sentinel], laidTests := true, laidLooks := .later }
def FnExactPressOnceCardSaid : Prop := Claim7.holds Tryd.pinned (.plain (OpenSpec.ofChange fnExactPressOnceSpec)) fnExactPressOnceCard

/-- THE TIED CARD OF 'laws.FnExactPressAll'. -/
def fnExactPressAllCard : Claim7 := { stood := { row := fnExactPressAllRow, standIns := [], harness := (true, "19256c1af0861af46690f839ebe5405e5bc062adae7dd135c7b08ca96e25f40e"), looks := true }, kinds := [], alts := [], laidByText := true, laidKinds := [.sentinel, .sentinel, .sentinel, .sentinel, .sentinel, .sentinel], laidTests := true, laidLooks := .later }
def FnExactPressAllCardSaid : Prop := Claim7.holds Tryd.pinned (.plain (OpenSpec.ofChange fnExactPressAllSpec)) fnExactPressAllCard

/-- THE TIED CARD OF 'laws.FnExactUnfoldHalf'. -/
def fnExactUnfoldHalfCard : Claim7 := { stood := { row := fnExactUnfoldHalfRow, standIns := [], harness := (true, "19256c1af0861af46690f839ebe5405e5bc062adae7dd135c7b08ca96e25f40e"), looks := true }, kinds := [], alts := [], laidByText := true, laidKinds := [.sentinel, .sentinel, .sentinel, .sentinel, .sentinel, .sentinel], laidTests := true, laidLooks := .later }
def FnExactUnfoldHalfCardSaid : Prop := Claim7.holds Tryd.pinned (.plain (OpenSpec.ofChange fnExactUnfoldHalfSpec)) fnExactUnfoldHalfCard

/-- THE TIED CARD OF 'laws.FnExactFoldsOf'. -/
def fnExactFoldsOfCard : Claim7 := { stood := { row := fnExactFoldsOfRow, standIns := [], harness := (true, "19256c1af0861af46690f839ebe5405e5bc062adae7dd135c7b08ca96e25f40e"), looks := true }, kinds := [], alts := [], laidByText := true, laidKinds := [.sentinel, .sentinel, .sentinel, .sentinel, .sentinel, .sentinel], laidTests := true, laidLooks := .later }
def FnExactFoldsOfCardSaid : Prop := Claim7.holds Tryd.pinned (.plain (OpenSpec.ofChange fnExactFoldsOfSpec)) fnExactFoldsOfCard

/-- THE SECOND FORM's CARD OF 'laws.FnExactPartnerOf'. -/
def fnExactPartnerOfUptoCard : Claim7 := { stood := { row := fnExactPartnerOfUptoRow, standIns := [], harness := (true, "19256c1af0861af46690f839ebe5405e5bc062adae7dd135c7b08ca96e25f40e"), looks := true }, kinds := [], alts := [], laidByText := true, laidKinds := [.sentinel, .sentinel, .sentinel, .sentinel, .sentinel, .sentinel], laidTests := true, laidLooks := .later }
def FnExactPartnerOfUptoCardSaid : Prop := Claim7.holds Tryd.pinned (.plain (OpenSpec.upto fnExactPartnerOfSpec)) fnExactPartnerOfUptoCard

/-- THE SECOND FORM's CARD OF 'laws.FnExactHalfOf'. -/
def fnExactHalfOfUptoCard : Claim7 := { stood := { row := fnExactHalfOfUptoRow, standIns := [], harness := (true, "19256c1af0861af46690f839ebe5405e5bc062adae7dd135c7b08ca96e25f40e"), looks := true }, kinds := [], alts := [], laidByText := true, laidKinds := [.sentinel, .sentinel, .sentinel, .sentinel, .sentinel, .sentinel], laidTests := true, laidLooks := .later }
def FnExactHalfOfUptoCardSaid : Prop := Claim7.holds Tryd.pinned (.plain (OpenSpec.upto fnExactHalfOfSpec)) fnExactHalfOfUptoCard

/-- THE SECOND FORM's CARD OF 'laws.FnExactOffBy'. -/
def fnExactOffByUptoCard : Claim7 := { stood := { row := fnExactOffByUptoRow, standIns := [], harness := (true, "19256c1af0861af46690f839ebe5405e5bc062adae7dd135c7b08ca96e25f40e"), looks := true }, kinds := [], alts := [], laidByText := true, laidKinds := [.sentinel, .sentinel, .sentinel, .sentinel, .sentinel, .sentinel], laidTests := true, laidLooks := .later }
def FnExactOffByUptoCardSaid : Prop := Claim7.holds Tryd.pinned (.plain (OpenSpec.upto fnExactOffBySpec)) fnExactOffByUptoCard

/-- THE SECOND FORM's CARD OF 'laws.FnExactIsMirror'. -/
def fnExactIsMirrorUptoCard : Claim7 := { stood := { row := fnExactIsMirrorUptoRow, standIns := [], harness := (true, "19256c1af0861af46690f839ebe5405e5bc062adae7dd135c7b08ca96e25f40e"), looks := true }, kinds := [], alts := [], laidByText := true, laidKinds := [.sentinel, .sentinel, .sentinel, .sentinel, .sentinel, .sentinel], laidTests := true, laidLooks := .later }
def FnExactIsMirrorUptoCardSaid : Prop := Claim7.holds Tryd.pinned (.plain (OpenSpec.upto fnExactIsMirrorSpec)) fnExactIsMirrorUptoCard

/-- THE SECOND FORM's CARD OF 'laws.FnExactEvenOut'. -/
def fnExactEvenOutUptoCard : Claim7 := { stood := { row := fnExactEvenOutUptoRow, standIns := [], harness := (true, "19256c1af0861af46690f839ebe5405e5bc062adae7dd135c7b08ca96e25f40e"), looks := true }, kinds := [], alts := [], laidByText := true, laidKinds := [.sentinel, .sentinel, .sentinel, .sentinel, .sentinel, .sentinel], laidTests := true, laidLooks := .later }
def FnExactEvenOutUptoCardSaid : Prop := Claim7.holds Tryd.pinned (.plain (OpenSpec.upto fnExactEvenOutSpec)) fnExactEvenOutUptoCard

/-- THE SECOND FORM's CARD OF 'laws.FnExactPairsOf'. -/
def fnExactPairsOfUptoCard : Claim7 := { stood := { row := fnExactPairsOfUptoRow, standIns := [], harness := (true, "19256c1af0861af46690f839ebe5405e5bc062adae7dd135c7b08ca96e25f40e"), looks := true }, kinds := [], alts := [], laidByText := true, laidKinds := [.sentinel, .sentinel, .sentinel, .sentinel, .sentinel, .sentinel], laidTests := true, laidLooks := .later }
def FnExactPairsOfUptoCardSaid : Prop := Claim7.holds Tryd.pinned (.plain (OpenSpec.upto fnExactPairsOfSpec)) fnExactPairsOfUptoCard

/-- THE SECOND FORM's CARD OF 'laws.FnExactCanBeFolded'. -/
def fnExactCanBeFoldedUptoCard : Claim7 := { stood := { row := fnExactCanBeFoldedUptoRow, standIns := [], harness := (true, "19256c1af0861af46690f839ebe5405e5bc062adae7dd135c7b08ca96e25f40e"), looks := true }, kinds := [], alts := [], laidByText := true, laidKinds := [.sentinel, .sentinel, .sentinel, .sentinel, .sentinel, .sentinel], laidTests := true, laidLooks := .later }
def FnExactCanBeFoldedUptoCardSaid : Prop := Claim7.holds Tryd.pinned (.plain (OpenSpec.upto fnExactCanBeFoldedSpec)) fnExactCanBeFoldedUptoCard

/-- THE SECOND FORM's CARD OF 'laws.FnExactPressesUntil'. -/
def fnExactPressesUntilUptoCard : Claim7 := { stood := { row := fnExactPressesUntilUptoRow, standIns := [], harness := (true, "19256c1af0861af46690f839ebe5405e5bc062adae7dd135c7b08ca96e25f40e"), looks := true }, kinds := [], alts := [], laidByText := true, laidKinds := [.sentinel, .sentinel, .sentinel, .sentinel, .sentinel, .sentinel], laidTests := true, laidLooks := .later }
def FnExactPressesUntilUptoCardSaid : Prop := Claim7.holds Tryd.pinned (.plain (OpenSpec.upto fnExactPressesUntilSpec)) fnExactPressesUntilUptoCard

/-- THE SECOND FORM's CARD OF 'laws.FnExactPressOnce'. -/
def fnExactPressOnceUptoCard : Claim7 := { stood := { row := fnExactPressOnceUptoRow, standIns := [], harness := (true, "19256c1af0861af46690f839ebe5405e5bc062adae7dd135c7b08ca96e25f40e"), looks := true }, kinds := [], alts := [], laidByText := true, laidKinds := [.sentinel, .sentinel, .sentinel, .sentinel, .sentinel, .sentinel], laidTests := true, laidLooks := .later }
def FnExactPressOnceUptoCardSaid : Prop := Claim7.holds Tryd.pinned (.plain (OpenSpec.upto fnExactPressOnceSpec)) fnExactPressOnceUptoCard

/-- THE SECOND FORM's CARD OF 'laws.FnExactPressAll'. -/
def fnExactPressAllUptoCard : Claim7 := { stood := { row := fnExactPressAllUptoRow, standIns := [], harness := (true, "19256c1af0861af46690f839ebe5405e5bc062adae7dd135c7b08ca96e25f40e"), looks := true }, kinds := [], alts := [], laidByText := true, laidKinds := [.sentinel, .sentinel, .sentinel, .sentinel, .sentinel, .sentinel], laidTests := true, laidLooks := .later }
def FnExactPressAllUptoCardSaid : Prop := Claim7.holds Tryd.pinned (.plain (OpenSpec.upto fnExactPressAllSpec)) fnExactPressAllUptoCard

/-- THE SECOND FORM's CARD OF 'laws.FnExactUnfoldHalf'. -/
def fnExactUnfoldHalfUptoCard : Claim7 := { stood := { row := fnExactUnfoldHalfUptoRow, standIns := [], harness := (true, "19256c1af0861af46690f839ebe5405e5bc062adae7dd135c7b08ca96e25f40e"), looks := true }, kinds := [], alts := [], laidByText := true, laidKinds := [.sentinel, .sentinel, .sentinel, .sentinel, .sentinel, .sentinel], laidTests := true, laidLooks := .later }
def FnExactUnfoldHalfUptoCardSaid : Prop := Claim7.holds Tryd.pinned (.plain (OpenSpec.upto fnExactUnfoldHalfSpec)) fnExactUnfoldHalfUptoCard

/-- THE SECOND FORM's CARD OF 'laws.FnExactFoldsOf'. -/
def fnExactFoldsOfUptoCard : Claim7 := { stood := { row := fnExactFoldsOfUptoRow, standIns := [], harness := (true, "19256c1af0861af46690f839ebe5405e5bc062adae7dd135c7b08ca96e25f40e"), looks := true }, kinds := [], alts := [], laidByText := true, laidKinds := [.sentinel, .sentinel, .sentinel, .sentinel, .sentinel, .sentinel], laidTests := true, laidLooks := .later }
def FnExactFoldsOfUptoCardSaid : Prop := Claim7.holds Tryd.pinned (.plain (OpenSpec.upto fnExactFoldsOfSpec)) fnExactFoldsOfUptoCard
end Rows
end Go.Proofs.YthbhckalkkameaaDoor
