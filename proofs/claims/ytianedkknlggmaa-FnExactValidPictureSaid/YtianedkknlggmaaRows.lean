/-
  No cell of these rows narrows 'for every input' (looked for: loops, veiled, ifaces, maps, wideKeys, modest, calm, conditions, laid).
  DERIVED. THE GIVEN ROWS OF THIS SEAT. 12 by the template 'for every input the law returns true; each argument reads behind the call as it read before'; 0 by the template 'total and deterministic' (their statements: YtianedkknlggmaaTotals.lean).
  GIVEN WITH THE SEED: the statements are not yours to turn. If you find one false, say at which input.
  Laid BY PROGRAM, IN A SANDBOX (cutbox-rows.mjs): the forced cells as the released guide's own fill.sh prints them over the translation 841d6a01934a3384… (all of the seat's roots in one cut). By AI agents, Wed Nov 11 2026. No macro, syntax, notation, axiom, sorry.
-/
import Derived.Test.YtianedkknlggmaaChecked
import GoSem.Claim
import GoSem.ClaimJoined
import GoSem.ClaimMapViews
import Derived.JoinedTies
import Derived.KernelRfl
namespace Go.Proofs.Ytianedkknlggmaa
/- THE CELL 'sum', in the pinned program and in every row, IS THE sha256 OF THE DUMP (.gsa) THAT YtianedkknlggmaaProg.lean LOADS. Nothing in Lean hashes anything: it is a label: what it is worth is what the hold of that sum in a sandbox is worth. -/
noncomputable def Try.pinned : Pinned := { name := "ytianedkknlggmaa", sum := "841d6a01934a33846bda5f9cbf5c3dce3ee4497ebdb2f0a354de683dd47d8eab", checked := Try.checked }
namespace Rows
def none {H : Type} : Left H := { results := [], args := [] }

/-- 'laws.FnExactValidSheet': WHATEVER THE INPUT: true; the input reads as it did. -/
def fnExactValidSheetSpec : ChangeSpec := { name := "fnExactValidSheet", fn := fun _ => fun
  | [d] => { results := [.lit (.bool true)], args := [d] }
  | _ => none }
def fnExactValidSheetRow : OpenClaim := { program := "ytianedkknlggmaa", sum := "841d6a01934a33846bda5f9cbf5c3dce3ee4497ebdb2f0a354de683dd47d8eab", func := "loop.example/g01360/laws.FnExactValidSheet", spec := "fnExactValidSheet", unfollowed := true, recurses := true, apart := false }
def FnExactValidSheetSaid : Prop := fnExactValidSheetRow.holds Try.pinned (OpenSpec.ofChange fnExactValidSheetSpec)

/-- ITS FALSE NEIGHBOUR: 'it returns false'. Refute it at one input. -/
def fnExactValidSheetWrong : ChangeSpec := { name := "fnExactValidSheet", fn := fun _ => fun
  | [d] => { results := [.lit (.bool false)], args := [d] }
  | _ => none }
def FnExactValidSheetWrongFalsely : Prop := fnExactValidSheetRow.holds Try.pinned (OpenSpec.ofChange fnExactValidSheetWrong)

/-- 'laws.FnExactSameSheet': WHATEVER THE INPUT: true; the input reads as it did. -/
def fnExactSameSheetSpec : ChangeSpec := { name := "fnExactSameSheet", fn := fun _ => fun
  | [d1, d2] => { results := [.lit (.bool true)], args := [d1, d2] }
  | _ => none }
def fnExactSameSheetRow : OpenClaim := { program := "ytianedkknlggmaa", sum := "841d6a01934a33846bda5f9cbf5c3dce3ee4497ebdb2f0a354de683dd47d8eab", func := "loop.example/g01360/laws.FnExactSameSheet", spec := "fnExactSameSheet", apart := false }
def FnExactSameSheetSaid : Prop := fnExactSameSheetRow.holds Try.pinned (OpenSpec.ofChange fnExactSameSheetSpec)

/-- ITS FALSE NEIGHBOUR: 'it returns false'. Refute it at one input. -/
def fnExactSameSheetWrong : ChangeSpec := { name := "fnExactSameSheet", fn := fun _ => fun
  | [d1, d2] => { results := [.lit (.bool false)], args := [d1, d2] }
  | _ => none }
def FnExactSameSheetWrongFalsely : Prop := fnExactSameSheetRow.holds Try.pinned (OpenSpec.ofChange fnExactSameSheetWrong)

/-- 'laws.FnExactPlainSheet': WHATEVER THE INPUT: true; the input reads as it did. -/
def fnExactPlainSheetSpec : ChangeSpec := { name := "fnExactPlainSheet", fn := fun _ => fun
  | [d1, d2] => { results := [.lit (.bool true)], args := [d1, d2] }
  | _ => none }
def fnExactPlainSheetRow : OpenClaim := { program := "ytianedkknlggmaa", sum := "841d6a01934a33846bda5f9cbf5c3dce3ee4497ebdb2f0a354de683dd47d8eab", func := "loop.example/g01360/laws.FnExactPlainSheet", spec := "fnExactPlainSheet", apart := false }
def FnExactPlainSheetSaid : Prop := fnExactPlainSheetRow.holds Try.pinned (OpenSpec.ofChange fnExactPlainSheetSpec)

/-- ITS FALSE NEIGHBOUR: 'it returns false'. Refute it at one input. -/
def fnExactPlainSheetWrong : ChangeSpec := { name := "fnExactPlainSheet", fn := fun _ => fun
  | [d1, d2] => { results := [.lit (.bool false)], args := [d1, d2] }
  | _ => none }
def FnExactPlainSheetWrongFalsely : Prop := fnExactPlainSheetRow.holds Try.pinned (OpenSpec.ofChange fnExactPlainSheetWrong)

/-- 'laws.FnExactDifferBy': WHATEVER THE INPUT: true; the input reads as it did. -/
def fnExactDifferBySpec : ChangeSpec := { name := "fnExactDifferBy", fn := fun _ => fun
  | [d1, d2] => { results := [.lit (.bool true)], args := [d1, d2] }
  | _ => none }
def fnExactDifferByRow : OpenClaim := { program := "ytianedkknlggmaa", sum := "841d6a01934a33846bda5f9cbf5c3dce3ee4497ebdb2f0a354de683dd47d8eab", func := "loop.example/g01360/laws.FnExactDifferBy", spec := "fnExactDifferBy", unfollowed := true, recurses := true, apart := false }
def FnExactDifferBySaid : Prop := fnExactDifferByRow.holds Try.pinned (OpenSpec.ofChange fnExactDifferBySpec)

/-- ITS FALSE NEIGHBOUR: 'it returns false'. Refute it at one input. -/
def fnExactDifferByWrong : ChangeSpec := { name := "fnExactDifferBy", fn := fun _ => fun
  | [d1, d2] => { results := [.lit (.bool false)], args := [d1, d2] }
  | _ => none }
def FnExactDifferByWrongFalsely : Prop := fnExactDifferByRow.holds Try.pinned (OpenSpec.ofChange fnExactDifferByWrong)

/-- 'laws.FnExactTurnPath': WHATEVER THE INPUT: true; the input reads as it did. -/
def fnExactTurnPathSpec : ChangeSpec := { name := "fnExactTurnPath", fn := fun _ => fun
  | [d] => { results := [.lit (.bool true)], args := [d] }
  | _ => none }
def fnExactTurnPathRow : OpenClaim := { program := "ytianedkknlggmaa", sum := "841d6a01934a33846bda5f9cbf5c3dce3ee4497ebdb2f0a354de683dd47d8eab", func := "loop.example/g01360/laws.FnExactTurnPath", spec := "fnExactTurnPath", unfollowed := true, recurses := true, apart := false }
def FnExactTurnPathSaid : Prop := fnExactTurnPathRow.holds Try.pinned (OpenSpec.ofChange fnExactTurnPathSpec)

/-- ITS FALSE NEIGHBOUR: 'it returns false'. Refute it at one input. -/
def fnExactTurnPathWrong : ChangeSpec := { name := "fnExactTurnPath", fn := fun _ => fun
  | [d] => { results := [.lit (.bool false)], args := [d] }
  | _ => none }
def FnExactTurnPathWrongFalsely : Prop := fnExactTurnPathRow.holds Try.pinned (OpenSpec.ofChange fnExactTurnPathWrong)

/-- 'laws.FnExactValidPath': WHATEVER THE INPUT: true; the input reads as it did. -/
def fnExactValidPathSpec : ChangeSpec := { name := "fnExactValidPath", fn := fun _ => fun
  | [d1, d2] => { results := [.lit (.bool true)], args := [d1, d2] }
  | _ => none }
def fnExactValidPathRow : OpenClaim := { program := "ytianedkknlggmaa", sum := "841d6a01934a33846bda5f9cbf5c3dce3ee4497ebdb2f0a354de683dd47d8eab", func := "loop.example/g01360/laws.FnExactValidPath", spec := "fnExactValidPath", unfollowed := true, recurses := true, apart := false }
def FnExactValidPathSaid : Prop := fnExactValidPathRow.holds Try.pinned (OpenSpec.ofChange fnExactValidPathSpec)

/-- ITS FALSE NEIGHBOUR: 'it returns false'. Refute it at one input. -/
def fnExactValidPathWrong : ChangeSpec := { name := "fnExactValidPath", fn := fun _ => fun
  | [d1, d2] => { results := [.lit (.bool false)], args := [d1, d2] }
  | _ => none }
def FnExactValidPathWrongFalsely : Prop := fnExactValidPathRow.holds Try.pinned (OpenSpec.ofChange fnExactValidPathWrong)

/-- 'laws.FnExactValidFold': WHATEVER THE INPUT: true; the input reads as it did. -/
def fnExactValidFoldSpec : ChangeSpec := { name := "fnExactValidFold", fn := fun _ => fun
  | [d1, d2] => { results := [.lit (.bool true)], args := [d1, d2] }
  | _ => none }
def fnExactValidFoldRow : OpenClaim := { program := "ytianedkknlggmaa", sum := "841d6a01934a33846bda5f9cbf5c3dce3ee4497ebdb2f0a354de683dd47d8eab", func := "loop.example/g01360/laws.FnExactValidFold", spec := "fnExactValidFold", unfollowed := true, recurses := true, apart := false }
def FnExactValidFoldSaid : Prop := fnExactValidFoldRow.holds Try.pinned (OpenSpec.ofChange fnExactValidFoldSpec)

/-- ITS FALSE NEIGHBOUR: 'it returns false'. Refute it at one input. -/
def fnExactValidFoldWrong : ChangeSpec := { name := "fnExactValidFold", fn := fun _ => fun
  | [d1, d2] => { results := [.lit (.bool false)], args := [d1, d2] }
  | _ => none }
def FnExactValidFoldWrongFalsely : Prop := fnExactValidFoldRow.holds Try.pinned (OpenSpec.ofChange fnExactValidFoldWrong)

/-- 'laws.FnExactValidStack': WHATEVER THE INPUT: true; the input reads as it did. -/
def fnExactValidStackSpec : ChangeSpec := { name := "fnExactValidStack", fn := fun _ => fun
  | [d] => { results := [.lit (.bool true)], args := [d] }
  | _ => none }
def fnExactValidStackRow : OpenClaim := { program := "ytianedkknlggmaa", sum := "841d6a01934a33846bda5f9cbf5c3dce3ee4497ebdb2f0a354de683dd47d8eab", func := "loop.example/g01360/laws.FnExactValidStack", spec := "fnExactValidStack", unfollowed := true, recurses := true, apart := false }
def FnExactValidStackSaid : Prop := fnExactValidStackRow.holds Try.pinned (OpenSpec.ofChange fnExactValidStackSpec)

/-- ITS FALSE NEIGHBOUR: 'it returns false'. Refute it at one input. -/
def fnExactValidStackWrong : ChangeSpec := { name := "fnExactValidStack", fn := fun _ => fun
  | [d] => { results := [.lit (.bool false)], args := [d] }
  | _ => none }
def FnExactValidStackWrongFalsely : Prop := fnExactValidStackRow.holds Try.pinned (OpenSpec.ofChange fnExactValidStackWrong)

/-- 'laws.FnExactSameStack': WHATEVER THE INPUT: true; the input reads as it did. -/
def fnExactSameStackSpec : ChangeSpec := { name := "fnExactSameStack", fn := fun _ => fun
  | [d1, d2] => { results := [.lit (.bool true)], args := [d1, d2] }
  | _ => none }
def fnExactSameStackRow : OpenClaim := { program := "ytianedkknlggmaa", sum := "841d6a01934a33846bda5f9cbf5c3dce3ee4497ebdb2f0a354de683dd47d8eab", func := "loop.example/g01360/laws.FnExactSameStack", spec := "fnExactSameStack", apart := false }
def FnExactSameStackSaid : Prop := fnExactSameStackRow.holds Try.pinned (OpenSpec.ofChange fnExactSameStackSpec)

/-- ITS FALSE NEIGHBOUR: 'it returns false'. Refute it at one input. -/
def fnExactSameStackWrong : ChangeSpec := { name := "fnExactSameStack", fn := fun _ => fun
  | [d1, d2] => { results := [.lit (.bool false)], args := [d1, d2] }
  | _ => none }
def FnExactSameStackWrongFalsely : Prop := fnExactSameStackRow.holds Try.pinned (OpenSpec.ofChange fnExactSameStackWrong)

/-- 'laws.FnExactValidMarks': WHATEVER THE INPUT: true; the input reads as it did. -/
def fnExactValidMarksSpec : ChangeSpec := { name := "fnExactValidMarks", fn := fun _ => fun
  | [d1, d2] => { results := [.lit (.bool true)], args := [d1, d2] }
  | _ => none }
def fnExactValidMarksRow : OpenClaim := { program := "ytianedkknlggmaa", sum := "841d6a01934a33846bda5f9cbf5c3dce3ee4497ebdb2f0a354de683dd47d8eab", func := "loop.example/g01360/laws.FnExactValidMarks", spec := "fnExactValidMarks", unfollowed := true, recurses := true, apart := false }
def FnExactValidMarksSaid : Prop := fnExactValidMarksRow.holds Try.pinned (OpenSpec.ofChange fnExactValidMarksSpec)

/-- ITS FALSE NEIGHBOUR: 'it returns false'. Refute it at one input. -/
def fnExactValidMarksWrong : ChangeSpec := { name := "fnExactValidMarks", fn := fun _ => fun
  | [d1, d2] => { results := [.lit (.bool false)], args := [d1, d2] }
  | _ => none }
def FnExactValidMarksWrongFalsely : Prop := fnExactValidMarksRow.holds Try.pinned (OpenSpec.ofChange fnExactValidMarksWrong)

/-- 'laws.FnExactValidPicture': WHATEVER THE INPUT: true; the input reads as it did. -/
def fnExactValidPictureSpec : ChangeSpec := { name := "fnExactValidPicture", fn := fun _ => fun
  | [d] => { results := [.lit (.bool true)], args := [d] }
  | _ => none }
def fnExactValidPictureRow : OpenClaim := { program := "ytianedkknlggmaa", sum := "841d6a01934a33846bda5f9cbf5c3dce3ee4497ebdb2f0a354de683dd47d8eab", func := "loop.example/g01360/laws.FnExactValidPicture", spec := "fnExactValidPicture", unfollowed := true, recurses := true, apart := false }
def FnExactValidPictureSaid : Prop := fnExactValidPictureRow.holds Try.pinned (OpenSpec.ofChange fnExactValidPictureSpec)

/-- ITS FALSE NEIGHBOUR: 'it returns false'. Refute it at one input. -/
def fnExactValidPictureWrong : ChangeSpec := { name := "fnExactValidPicture", fn := fun _ => fun
  | [d] => { results := [.lit (.bool false)], args := [d] }
  | _ => none }
def FnExactValidPictureWrongFalsely : Prop := fnExactValidPictureRow.holds Try.pinned (OpenSpec.ofChange fnExactValidPictureWrong)

/-- 'laws.FnExactSamePicture': WHATEVER THE INPUT: true; the input reads as it did. -/
def fnExactSamePictureSpec : ChangeSpec := { name := "fnExactSamePicture", fn := fun _ => fun
  | [d1, d2] => { results := [.lit (.bool true)], args := [d1, d2] }
  | _ => none }
def fnExactSamePictureRow : OpenClaim := { program := "ytianedkknlggmaa", sum := "841d6a01934a33846bda5f9cbf5c3dce3ee4497ebdb2f0a354de683dd47d8eab", func := "loop.example/g01360/laws.FnExactSamePicture", spec := "fnExactSamePicture", apart := false }
def FnExactSamePictureSaid : Prop := fnExactSamePictureRow.holds Try.pinned (OpenSpec.ofChange fnExactSamePictureSpec)

/-- ITS FALSE NEIGHBOUR: 'it returns false'. Refute it at one input. -/
def fnExactSamePictureWrong : ChangeSpec := { name := "fnExactSamePicture", fn := fun _ => fun
  | [d1, d2] => { results := [.lit (.bool false)], args := [d1, d2] }
  | _ => none }
def FnExactSamePictureWrongFalsely : Prop := fnExactSamePictureRow.holds Try.pinned (OpenSpec.ofChange fnExactSamePictureWrong)

/- THE SECOND FORM. 'bulk': how many values and letters a reading holds, each counted each time it is reached (what is shared counts as often as it is met; a slice's spare places count too). A statement '..UptoSaid' is the law's where the arguments, and the package variables that the reading takes, are together of bulk at most 1048576: NARROWER than '..Said'. Prove '..Said' where nothing that the law and all that it calls make is longer than what came in: it says more and counts as full. Else prove '..UptoSaid'. A law counts once. -/
mutual
def uptoBulk {H : Type} : DataW H → Nat
  | .lit (.string bytes) => bytes.length + 1
  | .lit _ => 1
  | .nil => 1
  | .ptr d => uptoBulk d + 1
  | .slice elems spare => uptoBulkAll elems + uptoBulkAll spare + 1
  | .agg parts => uptoBulkAll parts + 1
  | .iface _ d => uptoBulk d + 1
  | .map entries => uptoBulkEntries entries + 1
  | .held _ => 1
def uptoBulkAll {H : Type} : List (DataW H) → Nat
  | [] => 0
  | d :: r => uptoBulk d + uptoBulkAll r
def uptoBulkEntries {H : Type} : List (Lit × DataW H) → Nat
  | [] => 0
  | x :: r => uptoBulkEntry x + uptoBulkEntries r
def uptoBulkEntry {H : Type} : Lit × DataW H → Nat
  | (.string bytes, d) => bytes.length + uptoBulk d + 1
  | (_, d) => uptoBulk d + 1
 end
def uptoSmall : (H : Type) → List (DataW H) → Bool := fun _ ds => decide (uptoBulkAll ds ≤ 1048576)
def OpenSpec.upto (s : _root_.Go.ChangeSpec) : _root_.Go.OpenSpec := { _root_.Go.OpenSpec.ofChange s with cond := some uptoSmall }

/-- 'laws.FnExactValidSheet', WHERE WHAT IT READS IS OF BULK AT MOST 1048576: true; the input reads as it did. -/
def fnExactValidSheetUptoRow : OpenClaim := { program := "ytianedkknlggmaa", sum := "841d6a01934a33846bda5f9cbf5c3dce3ee4497ebdb2f0a354de683dd47d8eab", func := "loop.example/g01360/laws.FnExactValidSheet", spec := "fnExactValidSheet", unfollowed := true, recurses := true, apart := false, narrowed := true }
def FnExactValidSheetUptoSaid : Prop := fnExactValidSheetUptoRow.holds Try.pinned (OpenSpec.upto fnExactValidSheetSpec)

/-- 'laws.FnExactSameSheet', WHERE WHAT IT READS IS OF BULK AT MOST 1048576: true; the input reads as it did. -/
def fnExactSameSheetUptoRow : OpenClaim := { program := "ytianedkknlggmaa", sum := "841d6a01934a33846bda5f9cbf5c3dce3ee4497ebdb2f0a354de683dd47d8eab", func := "loop.example/g01360/laws.FnExactSameSheet", spec := "fnExactSameSheet", apart := false, narrowed := true }
def FnExactSameSheetUptoSaid : Prop := fnExactSameSheetUptoRow.holds Try.pinned (OpenSpec.upto fnExactSameSheetSpec)

/-- 'laws.FnExactPlainSheet', WHERE WHAT IT READS IS OF BULK AT MOST 1048576: true; the input reads as it did. -/
def fnExactPlainSheetUptoRow : OpenClaim := { program := "ytianedkknlggmaa", sum := "841d6a01934a33846bda5f9cbf5c3dce3ee4497ebdb2f0a354de683dd47d8eab", func := "loop.example/g01360/laws.FnExactPlainSheet", spec := "fnExactPlainSheet", apart := false, narrowed := true }
def FnExactPlainSheetUptoSaid : Prop := fnExactPlainSheetUptoRow.holds Try.pinned (OpenSpec.upto fnExactPlainSheetSpec)

/-- 'laws.FnExactDifferBy', WHERE WHAT IT READS IS OF BULK AT MOST 1048576: true; the input reads as it did. -/
def fnExactDifferByUptoRow : OpenClaim := { program := "ytianedkknlggmaa", sum := "841d6a01934a33846bda5f9cbf5c3dce3ee4497ebdb2f0a354de683dd47d8eab", func := "loop.example/g01360/laws.FnExactDifferBy", spec := "fnExactDifferBy", unfollowed := true, recurses := true, apart := false, narrowed := true }
def FnExactDifferByUptoSaid : Prop := fnExactDifferByUptoRow.holds Try.pinned (OpenSpec.upto fnExactDifferBySpec)

/-- 'laws.FnExactTurnPath', WHERE WHAT IT READS IS OF BULK AT MOST 1048576: true; the input reads as it did. -/
def fnExactTurnPathUptoRow : OpenClaim := { program := "ytianedkknlggmaa", sum := "841d6a01934a33846bda5f9cbf5c3dce3ee4497ebdb2f0a354de683dd47d8eab", func := "loop.example/g01360/laws.FnExactTurnPath", spec := "fnExactTurnPath", unfollowed := true, recurses := true, apart := false, narrowed := true }
def FnExactTurnPathUptoSaid : Prop := fnExactTurnPathUptoRow.holds Try.pinned (OpenSpec.upto fnExactTurnPathSpec)

/-- 'laws.FnExactValidPath', WHERE WHAT IT READS IS OF BULK AT MOST 1048576: true; the input reads as it did. -/
def fnExactValidPathUptoRow : OpenClaim := { program := "ytianedkknlggmaa", sum := "841d6a01934a33846bda5f9cbf5c3dce3ee4497ebdb2f0a354de683dd47d8eab", func := "loop.example/g01360/laws.FnExactValidPath", spec := "fnExactValidPath", unfollowed := true, recurses := true, apart := false, narrowed := true }
def FnExactValidPathUptoSaid : Prop := fnExactValidPathUptoRow.holds Try.pinned (OpenSpec.upto fnExactValidPathSpec)

/-- 'laws.FnExactValidFold', WHERE WHAT IT READS IS OF BULK AT MOST 1048576: true; the input reads as it did. -/
def fnExactValidFoldUptoRow : OpenClaim := { program := "ytianedkknlggmaa", sum := "841d6a01934a33846bda5f9cbf5c3dce3ee4497ebdb2f0a354de683dd47d8eab", func := "loop.example/g01360/laws.FnExactValidFold", spec := "fnExactValidFold", unfollowed := true, recurses := true, apart := false, narrowed := true }
def FnExactValidFoldUptoSaid : Prop := fnExactValidFoldUptoRow.holds Try.pinned (OpenSpec.upto fnExactValidFoldSpec)

/-- 'laws.FnExactValidStack', WHERE WHAT IT READS IS OF BULK AT MOST 1048576: true; the input reads as it did. -/
def fnExactValidStackUptoRow : OpenClaim := { program := "ytianedkknlggmaa", sum := "841d6a01934a33846bda5f9cbf5c3dce3ee4497ebdb2f0a354de683dd47d8eab", func := "loop.example/g01360/laws.FnExactValidStack", spec := "fnExactValidStack", unfollowed := true, recurses := true, apart := false, narrowed := true }
def FnExactValidStackUptoSaid : Prop := fnExactValidStackUptoRow.holds Try.pinned (OpenSpec.upto fnExactValidStackSpec)

/-- 'laws.FnExactSameStack', WHERE WHAT IT READS IS OF BULK AT MOST 1048576: true; the input reads as it did. -/
def fnExactSameStackUptoRow : OpenClaim := { program := "ytianedkknlggmaa", sum := "841d6a01934a33846bda5f9cbf5c3dce3ee4497ebdb2f0a354de683dd47d8eab", func := "loop.example/g01360/laws.FnExactSameStack", spec := "fnExactSameStack", apart := false, narrowed := true }
def FnExactSameStackUptoSaid : Prop := fnExactSameStackUptoRow.holds Try.pinned (OpenSpec.upto fnExactSameStackSpec)

/-- 'laws.FnExactValidMarks', WHERE WHAT IT READS IS OF BULK AT MOST 1048576: true; the input reads as it did. -/
def fnExactValidMarksUptoRow : OpenClaim := { program := "ytianedkknlggmaa", sum := "841d6a01934a33846bda5f9cbf5c3dce3ee4497ebdb2f0a354de683dd47d8eab", func := "loop.example/g01360/laws.FnExactValidMarks", spec := "fnExactValidMarks", unfollowed := true, recurses := true, apart := false, narrowed := true }
def FnExactValidMarksUptoSaid : Prop := fnExactValidMarksUptoRow.holds Try.pinned (OpenSpec.upto fnExactValidMarksSpec)

/-- 'laws.FnExactValidPicture', WHERE WHAT IT READS IS OF BULK AT MOST 1048576: true; the input reads as it did. -/
def fnExactValidPictureUptoRow : OpenClaim := { program := "ytianedkknlggmaa", sum := "841d6a01934a33846bda5f9cbf5c3dce3ee4497ebdb2f0a354de683dd47d8eab", func := "loop.example/g01360/laws.FnExactValidPicture", spec := "fnExactValidPicture", unfollowed := true, recurses := true, apart := false, narrowed := true }
def FnExactValidPictureUptoSaid : Prop := fnExactValidPictureUptoRow.holds Try.pinned (OpenSpec.upto fnExactValidPictureSpec)

/-- 'laws.FnExactSamePicture', WHERE WHAT IT READS IS OF BULK AT MOST 1048576: true; the input reads as it did. -/
def fnExactSamePictureUptoRow : OpenClaim := { program := "ytianedkknlggmaa", sum := "841d6a01934a33846bda5f9cbf5c3dce3ee4497ebdb2f0a354de683dd47d8eab", func := "loop.example/g01360/laws.FnExactSamePicture", spec := "fnExactSamePicture", apart := false, narrowed := true }
def FnExactSamePictureUptoSaid : Prop := fnExactSamePictureUptoRow.holds Try.pinned (OpenSpec.upto fnExactSamePictureSpec)

end Rows
end Go.Proofs.Ytianedkknlggmaa
