import Derived.Test.YtgbhchmpeioaiaaDoorOnceI
import Derived.Test.YtgbhchmpeioaiaaDoorOnceW
namespace Go.Proofs.YtgbhchmpeioaiaaDoor
open Go.RowKit
set_option maxRecDepth 100000
set_option linter.unusedVariables false
set_option linter.unusedSimpArgs false
theorem once_law (s : Sh) (e : ErrE) (w : World) (hE : Errs e w) (hf : s.fit) : Calls Tryd.prog 10 #[.agg s.row] w fun o w' => o = .returned (.bool true) ∧ Below w.heap.size w w' := by
  rw [← norm_row s]
  have hf2 := norm_fit hf
  have hi0 := inkOk_norm (s := s)
  generalize s.norm = t at *
  cases ho : okI t
  · exact once_walk t Sh.zero 0 1 e w hE (fun w => specOnce_bad t w hf2 ho) (fun w hE => implOnce_any t Sh.zero 0 1 e w hE fun w hE => implRR_err t 1 1 1 e w hE (fun w hE => ckRounds_bad t 1 e w hE ho) (fun w hE => codeOf_1 e w hE))
  · have hb := ho
    simp only [okI, Bool.and_eq_true, decide_eq_true_eq] at hb
    obtain ⟨⟨hb1, hb2⟩, ⟨hb3, hb4⟩, _⟩ := hb
    obtain ⟨a, ha⟩ : ∃ a : Nat, t.wide = a := ⟨t.wide.toNat, by omega⟩
    obtain ⟨c, hc⟩ : ∃ c : Nat, t.high = c := ⟨t.high.toNat, by omega⟩
    refine once_walk t _ _ 0 e w hE (fun w => specOnce_ok t a c w ha hc ⟨by omega, by omega⟩ ⟨by omega, by omega⟩ hf2 ho (hi0 ho)) (fun w hE => implOnce_any t _ _ 0 e w hE fun w hE => ?_)
    have h := implRR_ok t 1 a c e w hE ha hc ⟨by omega, by omega⟩ ⟨by omega, by omega⟩ hf2 ho (hi0 ho) (by omega)
    have e1 : (roundsS t (cellsL a c) 1 (t, 0)).1 = (runS t (cellsL a c)).1 := rfl
    have e2 : (roundsS t (cellsL a c) 1 (t, 0)).2 = (runS t (cellsL a c)).2 := by show 0 + (runS t (cellsL a c)).2 = _; omega
    rw [e1, e2] at h
    exact h
end Go.Proofs.YtgbhchmpeioaiaaDoor
