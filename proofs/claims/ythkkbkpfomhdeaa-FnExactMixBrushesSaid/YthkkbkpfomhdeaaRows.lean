/-
  No cell of these rows narrows 'for every input' (looked for: loops, veiled, ifaces, maps, wideKeys, modest, calm, conditions, laid).
  DERIVED. THE GIVEN ROWS OF THIS SEAT. 3 by the template 'for every input the law returns true; each argument reads behind the call as it read before'; 0 by the template 'total and deterministic' (their statements: YthkkbkpfomhdeaaTotals.lean).
  GIVEN WITH THE SEED: the statements are not yours to turn. If you find one false, say at which input.
  Laid BY PROGRAM, IN A SANDBOX (cutbox-rows.mjs): the forced cells as the released guide's own fill.sh prints them over the translation 8ff7be8bea0955d3… (all of the seat's roots in one cut). By AI agents, Wed Nov 11 2026. No macro, syntax, notation, axiom, sorry.
-/
import Derived.Test.YthkkbkpfomhdeaaChecked
import GoSem.Claim
import GoSem.ClaimJoined
import GoSem.ClaimMapViews
import Derived.JoinedTies
import Derived.KernelRfl
namespace Go.Proofs.Ythkkbkpfomhdeaa
/- THE CELL 'sum', in the pinned program and in every row, IS THE sha256 OF THE DUMP (.gsa) THAT YthkkbkpfomhdeaaProg.lean LOADS. Nothing in Lean hashes anything: it is a label: what it is worth is what the hold of that sum in a sandbox is worth. -/
noncomputable def Try.pinned : Pinned := { name := "ythkkbkpfomhdeaa", sum := "8ff7be8bea0955d325f95d94879ea0fd34685ccc15ef6968527694b6ba233e3f", checked := Try.checked }
namespace Rows
def none {H : Type} : Left H := { results := [], args := [] }

/-- 'laws.FnExactMixBrushes': WHATEVER THE INPUT: true; the input reads as it did. -/
def fnExactMixBrushesSpec : ChangeSpec := { name := "fnExactMixBrushes", fn := fun _ => fun
  | [d1, d2] => { results := [.lit (.bool true)], args := [d1, d2] }
  | _ => none }
def fnExactMixBrushesRow : OpenClaim := { program := "ythkkbkpfomhdeaa", sum := "8ff7be8bea0955d325f95d94879ea0fd34685ccc15ef6968527694b6ba233e3f", func := "loop.example/g01360/laws.FnExactMixBrushes", spec := "fnExactMixBrushes", apart := false }
def FnExactMixBrushesSaid : Prop := fnExactMixBrushesRow.holds Try.pinned (OpenSpec.ofChange fnExactMixBrushesSpec)

/-- ITS FALSE NEIGHBOUR: 'it returns false'. Refute it at one input. -/
def fnExactMixBrushesWrong : ChangeSpec := { name := "fnExactMixBrushes", fn := fun _ => fun
  | [d1, d2] => { results := [.lit (.bool false)], args := [d1, d2] }
  | _ => none }
def FnExactMixBrushesWrongFalsely : Prop := fnExactMixBrushesRow.holds Try.pinned (OpenSpec.ofChange fnExactMixBrushesWrong)

/-- 'laws.FnExactLoadOf': WHATEVER THE INPUT: true; the input reads as it did. -/
def fnExactLoadOfSpec : ChangeSpec := { name := "fnExactLoadOf", fn := fun _ => fun
  | [d] => { results := [.lit (.bool true)], args := [d] }
  | _ => none }
def fnExactLoadOfRow : OpenClaim := { program := "ythkkbkpfomhdeaa", sum := "8ff7be8bea0955d325f95d94879ea0fd34685ccc15ef6968527694b6ba233e3f", func := "loop.example/g01360/laws.FnExactLoadOf", spec := "fnExactLoadOf", apart := false }
def FnExactLoadOfSaid : Prop := fnExactLoadOfRow.holds Try.pinned (OpenSpec.ofChange fnExactLoadOfSpec)

/-- ITS FALSE NEIGHBOUR: 'it returns false'. Refute it at one input. -/
def fnExactLoadOfWrong : ChangeSpec := { name := "fnExactLoadOf", fn := fun _ => fun
  | [d] => { results := [.lit (.bool false)], args := [d] }
  | _ => none }
def FnExactLoadOfWrongFalsely : Prop := fnExactLoadOfRow.holds Try.pinned (OpenSpec.ofChange fnExactLoadOfWrong)

/-- 'laws.FnExactValidBrush': WHATEVER THE INPUT: true; the input reads as it did. -/
def fnExactValidBrushSpec : ChangeSpec := { name := "fnExactValidBrush", fn := fun _ => fun
  | [d] => { results := [.lit (.bool true)], args := [d] }
  | _ => none }
def fnExactValidBrushRow : OpenClaim := { program := "ythkkbkpfomhdeaa", sum := "8ff7be8bea0955d325f95d94879ea0fd34685ccc15ef6968527694b6ba233e3f", func := "loop.example/g01360/laws.FnExactValidBrush", spec := "fnExactValidBrush", apart := false }
def FnExactValidBrushSaid : Prop := fnExactValidBrushRow.holds Try.pinned (OpenSpec.ofChange fnExactValidBrushSpec)

/-- ITS FALSE NEIGHBOUR: 'it returns false'. Refute it at one input. -/
def fnExactValidBrushWrong : ChangeSpec := { name := "fnExactValidBrush", fn := fun _ => fun
  | [d] => { results := [.lit (.bool false)], args := [d] }
  | _ => none }
def FnExactValidBrushWrongFalsely : Prop := fnExactValidBrushRow.holds Try.pinned (OpenSpec.ofChange fnExactValidBrushWrong)

/- THE SECOND FORM. 'bulk': how many values and letters a reading holds, each counted each time it is reached (what is shared counts as often as it is met; a slice's spare places count too). A statement '..UptoSaid' is the law's where the arguments, and the package variables that the reading takes, are together of bulk at most 1048576: NARROWER than '..Said'. Prove '..Said' where nothing that the law and all that it calls make is longer than what came in: it says more and counts as full. Else prove '..UptoSaid'. A law counts once. -/
mutual
def uptoBulk {H : Type} : DataW H → Nat
  | .lit (.string bytes) => bytes.length + 1
  | .lit _ => 1
  | .nil => 1
  | .ptr d => uptoBulk d + 1
  | .slice elems spare => uptoBulkAll elems + uptoBulkAll spare + 1
  | .agg parts => uptoBulkAll parts + 1
  | .iface _ d => uptoBulk d + 1
  | .map entries => uptoBulkEntries entries + 1
  | .held _ => 1
def uptoBulkAll {H : Type} : List (DataW H) → Nat
  | [] => 0
  | d :: r => uptoBulk d + uptoBulkAll r
def uptoBulkEntries {H : Type} : List (Lit × DataW H) → Nat
  | [] => 0
  | x :: r => uptoBulkEntry x + uptoBulkEntries r
def uptoBulkEntry {H : Type} : Lit × DataW H → Nat
  | (.string bytes, d) => bytes.length + uptoBulk d + 1
  | (_, d) => uptoBulk d + 1
 end
def uptoSmall : (H : Type) → List (DataW H) → Bool := fun _ ds => decide (uptoBulkAll ds ≤ 1048576)
def OpenSpec.upto (s : _root_.Go.ChangeSpec) : _root_.Go.OpenSpec := { _root_.Go.OpenSpec.ofChange s with cond := some uptoSmall }

/-- 'laws.FnExactMixBrushes', WHERE WHAT IT READS IS OF BULK AT MOST 1048576: true; the input reads as it did. -/
def fnExactMixBrushesUptoRow : OpenClaim := { program := "ythkkbkpfomhdeaa", sum := "8ff7be8bea0955d325f95d94879ea0fd34685ccc15ef6968527694b6ba233e3f", func := "loop.example/g01360/laws.FnExactMixBrushes", spec := "fnExactMixBrushes", apart := false, narrowed := true }
def FnExactMixBrushesUptoSaid : Prop := fnExactMixBrushesUptoRow.holds Try.pinned (OpenSpec.upto fnExactMixBrushesSpec)

/-- 'laws.FnExactLoadOf', WHERE WHAT IT READS IS OF BULK AT MOST 1048576: true; the input reads as it did. -/
def fnExactLoadOfUptoRow : OpenClaim := { program := "ythkkbkpfomhdeaa", sum := "8ff7be8bea0955d325f95d94879ea0fd34685ccc15ef6968527694b6ba233e3f", func := "loop.example/g01360/laws.FnExactLoadOf", spec := "fnExactLoadOf", apart := false, narrowed := true }
def FnExactLoadOfUptoSaid : Prop := fnExactLoadOfUptoRow.holds Try.pinned (OpenSpec.upto fnExactLoadOfSpec)

/-- 'laws.FnExactValidBrush', WHERE WHAT IT READS IS OF BULK AT MOST 1048576: true; the input reads as it did. -/
def fnExactValidBrushUptoRow : OpenClaim := { program := "ythkkbkpfomhdeaa", sum := "8ff7be8bea0955d325f95d94879ea0fd34685ccc15ef6968527694b6ba233e3f", func := "loop.example/g01360/laws.FnExactValidBrush", spec := "fnExactValidBrush", apart := false, narrowed := true }
def FnExactValidBrushUptoSaid : Prop := fnExactValidBrushUptoRow.holds Try.pinned (OpenSpec.upto fnExactValidBrushSpec)

end Rows
end Go.Proofs.Ythkkbkpfomhdeaa
