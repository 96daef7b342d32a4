import Derived.Test.YthkkbkpfomhdeaaMixI2
import Derived.Test.YthkkbkpfomhdeaaMixW
import Derived.Test.YthkkbkpfomhdeaaOpenBr
namespace Go.Proofs.Ythkkbkpfomhdeaa
open Go.RowKit
set_option maxRecDepth 100000
set_option linter.unusedVariables false
set_option linter.unusedSimpArgs false
theorem mixRes_ex (a b : Br) : ∃ r q c, MixRes a b r q c := by
  cases h1 : (mixA a b).ok
  · exact ⟨Br.zero, Br.zero, 3, .inr ⟨.inl h1, rfl, rfl, rfl⟩⟩
  · cases h2 : (mixB a b).ok
    · exact ⟨Br.zero, Br.zero, 3, .inr ⟨.inr h2, rfl, rfl, rfl⟩⟩
    · exact ⟨_, _, 0, .inl ⟨h1, h2, rfl, rfl, rfl⟩⟩
theorem mix_law (a b : Br) (w : World) (hfa : a.fit) (hfb : b.fit) : Calls Try.prog 3 #[.agg a.row, .agg b.row] w fun o w' => o = .returned (.bool true) ∧ Below w.heap.size w w' := by
  by_cases h : a.ok = true ∧ b.ok = true
  · obtain ⟨r, q, c, hr⟩ := mixRes_ex a b
    exact mix_walk a b r q c w (fun w => specMix_ok a b r q c hr w hfa hfb h.1 h.2) (fun w => implMix_ok a b r q c hr w hfa hfb h.1 h.2)
  · have ho : a.ok = false ∨ b.ok = false := by
      cases h1 : a.ok
      · exact .inl rfl
      · cases h2 : b.ok
        · exact .inr rfl
        · exact absurd ⟨h1, h2⟩ h
    exact mix_walk a b Br.zero Br.zero 1 w (fun w => specMix_bad a b w hfa hfb ho) (fun w => implMix_bad a b w hfa hfb ho)
end Go.Proofs.Ythkkbkpfomhdeaa
