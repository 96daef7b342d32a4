import Derived.Test.YtfkialifnkfgcaaDoorRad
import Derived.Test.YtfkialifnkfgcaaDoorRadW
namespace Go.Proofs.YtfkialifnkfgcaaDoor
open Go.RowKit
set_option maxRecDepth 100000
set_option linter.unusedVariables false
set_option linter.unusedSimpArgs false
theorem rad_law (s : Sh) (e : ErrE) (w : World) (hE : Errs e w) (hf : s.fit) : Calls Tryd.prog 6 #[.agg s.row] w fun o w' => o = .returned (.bool true) ∧ Below w.heap.size w w' := by
  rw [← norm_row s]
  have hf2 := norm_fit hf
  have hi0 := inkOk_norm (s := s)
  generalize s.norm = t at *
  cases ho : okI t
  · exact once_walk t Sh.zero 0 1 e w hE (fun w => specRad_bad t w hf2 ho) (fun w hE => implRad_bad t e w hE ho)
  · have hb := ho
    simp only [okI, Bool.and_eq_true, decide_eq_true_eq] at hb
    obtain ⟨⟨hb1, hb2⟩, ⟨hb3, hb4⟩, _⟩ := hb
    obtain ⟨a, ha⟩ : ∃ a : Nat, t.wide = a := ⟨t.wide.toNat, by omega⟩
    obtain ⟨c, hc⟩ : ∃ c : Nat, t.high = c := ⟨t.high.toNat, by omega⟩
    obtain ⟨N, hN, hz, hnz⟩ := rd_num (rd_in ha hc (by omega) (by omega) ho) (hi0 ho) hf2
    exact once_walk t _ _ 0 e w hE (fun w => specRad_ok t a c N w ha hc ⟨by omega, by omega⟩ ⟨by omega, by omega⟩ hf2 ho (hi0 ho) hN hz hnz) (fun w hE => implRad_ok t a c N e w hE ha hc ⟨by omega, by omega⟩ ⟨by omega, by omega⟩ hf2 ho (hi0 ho) hN hz hnz)
end Go.Proofs.YtfkialifnkfgcaaDoor
