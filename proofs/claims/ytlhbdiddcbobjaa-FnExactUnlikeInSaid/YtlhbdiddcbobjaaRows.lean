/-
  No cell of these rows narrows 'for every input' (looked for: loops, veiled, ifaces, maps, wideKeys, modest, calm, conditions, laid).
  DERIVED. THE GIVEN ROWS OF THIS SEAT. 3 by the template 'for every input the law returns true; each argument reads behind the call as it read before'; 0 by the template 'total and deterministic' (their statements: YtlhbdiddcbobjaaTotals.lean).
  GIVEN WITH THE SEED: the statements are not yours to turn. If you find one false, say at which input.
  Laid BY PROGRAM, IN A SANDBOX (cutbox-rows.mjs): the forced cells as the released guide's own fill.sh prints them over the translation 5471a02eb1ff3d26… (all of the seat's roots in one cut). By AI agents, Wed Nov 11 2026. No macro, syntax, notation, axiom, sorry.
-/
import Derived.Test.YtlhbdiddcbobjaaChecked
import GoSem.Claim
import GoSem.ClaimJoined
import GoSem.ClaimMapViews
import Derived.JoinedTies
import Derived.KernelRfl
namespace Go.Proofs.Ytlhbdiddcbobjaa
/- THE CELL 'sum', in the pinned program and in every row, IS THE sha256 OF THE DUMP (.gsa) THAT YtlhbdiddcbobjaaProg.lean LOADS. Nothing in Lean hashes anything: it is a label: what it is worth is what the hold of that sum in a sandbox is worth. -/
noncomputable def Try.pinned : Pinned := { name := "ytlhbdiddcbobjaa", sum := "5471a02eb1ff3d26df822cf47a78db7cf56cea5f3b727711f5e9cb9c58c35253", checked := Try.checked }
namespace Rows
def none {H : Type} : Left H := { results := [], args := [] }

/-- 'laws.FnExactBlankPicture': WHATEVER THE INPUT: true; the input reads as it did. -/
def fnExactBlankPictureSpec : ChangeSpec := { name := "fnExactBlankPicture", fn := fun _ => fun
  | [d1, d2] => { results := [.lit (.bool true)], args := [d1, d2] }
  | _ => none }
def fnExactBlankPictureRow : OpenClaim := { program := "ytlhbdiddcbobjaa", sum := "5471a02eb1ff3d26df822cf47a78db7cf56cea5f3b727711f5e9cb9c58c35253", func := "loop.example/g01360/laws.FnExactBlankPicture", spec := "fnExactBlankPicture", apart := false }
def FnExactBlankPictureSaid : Prop := fnExactBlankPictureRow.holds Try.pinned (OpenSpec.ofChange fnExactBlankPictureSpec)

/-- ITS FALSE NEIGHBOUR: 'it returns false'. Refute it at one input. -/
def fnExactBlankPictureWrong : ChangeSpec := { name := "fnExactBlankPicture", fn := fun _ => fun
  | [d1, d2] => { results := [.lit (.bool false)], args := [d1, d2] }
  | _ => none }
def FnExactBlankPictureWrongFalsely : Prop := fnExactBlankPictureRow.holds Try.pinned (OpenSpec.ofChange fnExactBlankPictureWrong)

/-- 'laws.FnExactUnlikeIn': WHATEVER THE INPUT: true; the input reads as it did. -/
def fnExactUnlikeInSpec : ChangeSpec := { name := "fnExactUnlikeIn", fn := fun _ => fun
  | [d1, d2] => { results := [.lit (.bool true)], args := [d1, d2] }
  | _ => none }
def fnExactUnlikeInRow : OpenClaim := { program := "ytlhbdiddcbobjaa", sum := "5471a02eb1ff3d26df822cf47a78db7cf56cea5f3b727711f5e9cb9c58c35253", func := "loop.example/g01360/laws.FnExactUnlikeIn", spec := "fnExactUnlikeIn", unfollowed := true, recurses := true, apart := false }
def FnExactUnlikeInSaid : Prop := fnExactUnlikeInRow.holds Try.pinned (OpenSpec.ofChange fnExactUnlikeInSpec)

/-- ITS FALSE NEIGHBOUR: 'it returns false'. Refute it at one input. -/
def fnExactUnlikeInWrong : ChangeSpec := { name := "fnExactUnlikeIn", fn := fun _ => fun
  | [d1, d2] => { results := [.lit (.bool false)], args := [d1, d2] }
  | _ => none }
def FnExactUnlikeInWrongFalsely : Prop := fnExactUnlikeInRow.holds Try.pinned (OpenSpec.ofChange fnExactUnlikeInWrong)

/-- 'laws.FnExactFromStencils': WHATEVER THE INPUT: true; the input reads as it did. -/
def fnExactFromStencilsSpec : ChangeSpec := { name := "fnExactFromStencils", fn := fun _ => fun
  | [d1, d2, d3] => { results := [.lit (.bool true)], args := [d1, d2, d3] }
  | _ => none }
def fnExactFromStencilsRow : OpenClaim := { program := "ytlhbdiddcbobjaa", sum := "5471a02eb1ff3d26df822cf47a78db7cf56cea5f3b727711f5e9cb9c58c35253", func := "loop.example/g01360/laws.FnExactFromStencils", spec := "fnExactFromStencils", unfollowed := true, recurses := true, apart := false }
def FnExactFromStencilsSaid : Prop := fnExactFromStencilsRow.holds Try.pinned (OpenSpec.ofChange fnExactFromStencilsSpec)

/-- ITS FALSE NEIGHBOUR: 'it returns false'. Refute it at one input. -/
def fnExactFromStencilsWrong : ChangeSpec := { name := "fnExactFromStencils", fn := fun _ => fun
  | [d1, d2, d3] => { results := [.lit (.bool false)], args := [d1, d2, d3] }
  | _ => none }
def FnExactFromStencilsWrongFalsely : Prop := fnExactFromStencilsRow.holds Try.pinned (OpenSpec.ofChange fnExactFromStencilsWrong)

/- THE SECOND FORM. 'bulk': how many values and letters a reading holds, each counted each time it is reached (what is shared counts as often as it is met; a slice's spare places count too). A statement '..UptoSaid' is the law's where the arguments, and the package variables that the reading takes, are together of bulk at most 1048576: NARROWER than '..Said'. Prove '..Said' where nothing that the law and all that it calls make is longer than what came in: it says more and counts as full. Else prove '..UptoSaid'. A law counts once. -/
mutual
def uptoBulk {H : Type} : DataW H → Nat
  | .lit (.string bytes) => bytes.length + 1
  | .lit _ => 1
  | .nil => 1
  | .ptr d => uptoBulk d + 1
  | .slice elems spare => uptoBulkAll elems + uptoBulkAll spare + 1
  | .agg parts => uptoBulkAll parts + 1
  | .iface _ d => uptoBulk d + 1
  | .map entries => uptoBulkEntries entries + 1
  | .held _ => 1
def uptoBulkAll {H : Type} : List (DataW H) → Nat
  | [] => 0
  | d :: r => uptoBulk d + uptoBulkAll r
def uptoBulkEntries {H : Type} : List (Lit × DataW H) → Nat
  | [] => 0
  | x :: r => uptoBulkEntry x + uptoBulkEntries r
def uptoBulkEntry {H : Type} : Lit × DataW H → Nat
  | (.string bytes, d) => bytes.length + uptoBulk d + 1
  | (_, d) => uptoBulk d + 1
 end
def uptoSmall : (H : Type) → List (DataW H) → Bool := fun _ ds => decide (uptoBulkAll ds ≤ 1048576)
def OpenSpec.upto (s : _root_.Go.ChangeSpec) : _root_.Go.OpenSpec := { _root_.Go.OpenSpec.ofChange s with cond := some uptoSmall }

/-- 'laws.FnExactBlankPicture', WHERE WHAT IT READS IS OF BULK AT MOST 1048576: true; the input reads as it did. -/
def fnExactBlankPictureUptoRow : OpenClaim := { program := "ytlhbdiddcbobjaa", sum := "5471a02eb1ff3d26df822cf47a78db7cf56cea5f3b727711f5e9cb9c58c35253", func := "loop.example/g01360/laws.FnExactBlankPicture", spec := "fnExactBlankPicture", apart := false, narrowed := true }
def FnExactBlankPictureUptoSaid : Prop := fnExactBlankPictureUptoRow.holds Try.pinned (OpenSpec.upto fnExactBlankPictureSpec)

/-- 'laws.FnExactUnlikeIn', WHERE WHAT IT READS IS OF BULK AT MOST 1048576: true; the input reads as it did. -/
def fnExactUnlikeInUptoRow : OpenClaim := { program := "ytlhbdiddcbobjaa", sum := "5471a02eb1ff3d26df822cf47a78db7cf56cea5f3b727711f5e9cb9c58c35253", func := "loop.example/g01360/laws.FnExactUnlikeIn", spec := "fnExactUnlikeIn", unfollowed := true, recurses := true, apart := false, narrowed := true }
def FnExactUnlikeInUptoSaid : Prop := fnExactUnlikeInUptoRow.holds Try.pinned (OpenSpec.upto fnExactUnlikeInSpec)

/-- 'laws.FnExactFromStencils', WHERE WHAT IT READS IS OF BULK AT MOST 1048576: true; the input reads as it did. -/
def fnExactFromStencilsUptoRow : OpenClaim := { program := "ytlhbdiddcbobjaa", sum := "5471a02eb1ff3d26df822cf47a78db7cf56cea5f3b727711f5e9cb9c58c35253", func := "loop.example/g01360/laws.FnExactFromStencils", spec := "fnExactFromStencils", unfollowed := true, recurses := true, apart := false, narrowed := true }
def FnExactFromStencilsUptoSaid : Prop := fnExactFromStencilsUptoRow.holds Try.pinned (OpenSpec.upto fnExactFromStencilsSpec)

end Rows
end Go.Proofs.Ytlhbdiddcbobjaa
