import Derived.Test.YthkkbkpfomhdeaaDoorRinse2
import Derived.Test.YthkkbkpfomhdeaaDoorRinseW
import Derived.Test.YthkkbkpfomhdeaaDoorOpenBr
namespace Go.Proofs.YthkkbkpfomhdeaaDoor
open Go.RowKit
set_option maxRecDepth 100000
set_option linter.unusedVariables false
set_option linter.unusedSimpArgs false
theorem rinse_law (b : Br) (e : ErrE) (w : World) (hE : Errs e w) (hf : b.fit) : Calls Tryd.prog 4 #[.agg b.row] w fun o w' => o = .returned (.bool true) ∧ Below w.heap.size w w' := by
  cases ho : b.ok
  · exact rinse_walk b Br.zero (fun _ => 0) 1 e w hE (fun w => specRi_bad b w hf ho) (fun w hE => implRi_bad b e w hE hf ho)
  · exact rinse_walk b b.rinsed b.dye 0 e w hE (fun w => specRi_ok b w hf ho) (fun w hE => implRi_ok b e w hE hf ho)
end Go.Proofs.YthkkbkpfomhdeaaDoor
