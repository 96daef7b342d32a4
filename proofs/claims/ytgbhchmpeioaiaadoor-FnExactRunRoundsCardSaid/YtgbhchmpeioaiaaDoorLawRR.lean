import Derived.Test.YtgbhchmpeioaiaaDoorRoundsI
import Derived.Test.YtgbhchmpeioaiaaDoorRRW
namespace Go.Proofs.YtgbhchmpeioaiaaDoor
open Go.RowKit
set_option maxRecDepth 100000
set_option linter.unusedVariables false
set_option linter.unusedSimpArgs false
theorem rr_law (s : Sh) (k : Int) (e : ErrE) (w : World) (hE : Errs e w) (hf : s.fit) : Calls Tryd.prog 11 #[.agg s.row, .int .i64 k] w fun o w' => o = .returned (.bool true) ∧ Below w.heap.size w w' := by
  rw [← norm_row s]
  have hf2 := norm_fit hf
  have hi0 := inkOk_norm (s := s)
  generalize s.norm = t at *
  cases ho : okI t
  · exact rR_walk t k Sh.zero 0 1 e w hE (fun w => specRR_bad t k 1 w (.inl rfl) fun b w hs => lrounds_bad t b k w hs hf2 ho) (fun w hE => implRR_err t k 1 1 e w hE (fun w hE => ckRounds_bad t k e w hE ho) (fun w hE => codeOf_1 e w hE))
  · by_cases hk : 0 ≤ k ∧ k ≤ 500
    · have hb := ho
      simp only [okI, Bool.and_eq_true, decide_eq_true_eq] at hb
      obtain ⟨⟨hb1, hb2⟩, ⟨hb3, hb4⟩, _⟩ := hb
      obtain ⟨a, ha⟩ : ∃ a : Nat, t.wide = a := ⟨t.wide.toNat, by omega⟩
      obtain ⟨c, hc⟩ : ∃ c : Nat, t.high = c := ⟨t.high.toNat, by omega⟩
      obtain ⟨K, hK⟩ : ∃ K : Nat, k = K := ⟨k.toNat, by omega⟩
      subst hK
      exact rR_walk t K _ _ 0 e w hE (fun w => by
        have h := specRR_ok t K a c w ha hc ⟨by omega, by omega⟩ ⟨by omega, by omega⟩ hf2 ho (hi0 ho) hk
        rw [Int.toNat_natCast] at h
        exact h) (fun w hE => implRR_ok t K a c e w hE ha hc ⟨by omega, by omega⟩ ⟨by omega, by omega⟩ hf2 ho (hi0 ho) (by omega))
    · refine rR_walk t k Sh.zero 0 2 e w hE (fun w => specRR_bad t k 2 w (.inr rfl) fun b w hs => lrounds_rng t b k w hs hf2 ho (by omega)) (fun w hE => implRR_err t k 2 2 e w hE (fun w hE => ?_) (fun w hE => codeOf_2 e w hE))
      by_cases hn : k < 0
      · exact ckRounds_neg t k e w hE ho hn
      · exact ckRounds_big t k e w hE ho (by omega)
end Go.Proofs.YtgbhchmpeioaiaaDoor
