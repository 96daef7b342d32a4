import Derived.Test.YtgbhchmpeioaiaaDoorRinO
import Derived.Test.YtgbhchmpeioaiaaDoorRinOW
namespace Go.Proofs.YtgbhchmpeioaiaaDoor
open Go.RowKit
set_option maxRecDepth 100000
set_option linter.unusedVariables false
set_option linter.unusedSimpArgs false
theorem rinO_law (s : Sh) (k : Int) (e : ErrE) (w : World) (hE : Errs e w) (hf : s.fit) : Calls Tryd.prog 6 #[.agg s.row, .int .i64 k] w fun o w' => o = .returned (.bool true) ∧ Below w.heap.size w w' := by
  rw [← norm_row s]
  have hf2 := norm_fit hf
  have hi0 := inkOk_norm (s := s)
  generalize s.norm = t at *
  cases ho : okI t
  · exact rinO_walk t k Sh.zero (fun _ => 0) 1 e w hE (fun w => specRO_err t k 1 (.inl rfl) w hf2 (by simp [bathC, ho])) (fun w hE => implRO_err t k 1 1 rfl e w hE (fun w hE => ckRi_bad t k 1 e w hE ho) (fun w hE => codeOf_1 e w hE))
  · by_cases hk : 1 ≤ k ∧ k ≤ 15
    · have hb := ho
      simp only [okI, Bool.and_eq_true, decide_eq_true_eq] at hb
      obtain ⟨⟨hb1, hb2⟩, ⟨hb3, hb4⟩, _⟩ := hb
      obtain ⟨a, ha⟩ : ∃ a : Nat, t.wide = a := ⟨t.wide.toNat, by omega⟩
      obtain ⟨c, hc⟩ : ∃ c : Nat, t.high = c := ⟨t.high.toNat, by omega⟩
      have hgd := Gd.start ho (hi0 ho) hf2
      exact rinO_walk t k _ _ 0 e w hE (fun w => specRO_ok t k a c w hf2 (by simp [bathC, ho, hk.1, hk.2]) ha hc ⟨by omega, by omega⟩ ⟨by omega, by omega⟩ hgd hk.1 hk.2) (fun w hE => implRO_ok t k a c e w hE ho ha hc ⟨by omega, by omega⟩ ⟨by omega, by omega⟩ hgd hk.1 hk.2)
    · exact rinO_walk t k Sh.zero (fun _ => 0) 2 e w hE (fun w => specRO_err t k 2 (.inr rfl) w hf2 (by
        have hq : (decide (1 ≤ k) && decide (k ≤ 15)) = false := by simp; omega
        simp [bathC, ho, hq])) (fun w hE => implRO_err t k 2 2 rfl e w hE (fun w hE => ckRi_rng t k 1 e w hE ho (by omega)) (fun w hE => codeOf_2 e w hE))
end Go.Proofs.YtgbhchmpeioaiaaDoor
