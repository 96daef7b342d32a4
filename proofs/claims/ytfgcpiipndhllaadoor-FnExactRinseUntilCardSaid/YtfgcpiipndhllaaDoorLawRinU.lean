import Derived.Test.YtfgcpiipndhllaaDoorRinU4
import Derived.Test.YtfgcpiipndhllaaDoorRinUW
namespace Go.Proofs.YtfgcpiipndhllaaDoor
open Go.RowKit
set_option maxRecDepth 100000
set_option linter.unusedVariables false
set_option linter.unusedSimpArgs false
theorem rinU_law (s : Sh) (k b : Int) (e : ErrE) (w : World) (hE : Err6 e w) (hf : s.fit) : Calls Tryd.prog 4 #[.agg s.row, .int .i64 k, .int .i64 b] w fun o w' => o = .returned (.bool true) ∧ Below w.heap.size w w' := by
  rw [← norm_row s]
  have hf2 := norm_fit hf
  have hi0 := inkOk_norm (s := s)
  generalize s.norm = t at *
  cases ho : okI t
  · exact rinU_walk t k b Sh.zero 0 (fun _ => 0) 1 e w hE (fun w => specRU_err t k b 1 (.inl rfl) w hf2 (by simp [bathC, ho])) (fun w hE => implRU_err t k b 1 1 e w hE.base (fun w hE => ckRi_bad t k 1 e w hE ho) (fun w hE => codeOf_1 e w hE))
  · by_cases hk : 1 ≤ k ∧ k ≤ 15
    · by_cases hb : 0 ≤ b ∧ b ≤ 3000
      · have hbb := ho
        simp only [okI, Bool.and_eq_true, decide_eq_true_eq] at hbb
        obtain ⟨⟨hb1, hb2⟩, ⟨hb3, hb4⟩, _⟩ := hbb
        obtain ⟨a, ha⟩ : ∃ a : Nat, t.wide = a := ⟨t.wide.toNat, by omega⟩
        obtain ⟨c, hc⟩ : ∃ c : Nat, t.high = c := ⟨t.high.toNat, by omega⟩
        have hgd := Gd.start ho (hi0 ho) hf2
        obtain ⟨j, hj, hj1, hj2⟩ := rnds_end hgd hk.1 hk.2 hb.1 (cellsL a c)
        exact rinU_walk t k b _ _ _ 0 e w hE (fun w => specRU_ok t k b j a c w hf2 (by simp [bathC, lvl, ho, hk.1, hk.2, hb.1, hb.2]) ha hc ⟨by omega, by omega⟩ ⟨by omega, by omega⟩ hgd hk.1 hk.2 hj hj1 hj2) (fun w hE => implRU_ok t k b j a c e w hE ho ha hc ⟨by omega, by omega⟩ ⟨by omega, by omega⟩ hgd hk.1 hk.2 hb hj hj1 hj2)
      · exact rinU_walk t k b Sh.zero 0 (fun _ => 0) 2 e w hE (fun w => specRU_err t k b 2 (.inr rfl) w hf2 (by
          have hq : lvl b = false := by simp [lvl]; omega
          simp [bathC, ho, hq])) (fun w hE => implRU_rng t k b e w hE.base (fun w hE => ckRi_ok t k 1 e w hE ho hk (by omega)) (by omega))
    · exact rinU_walk t k b Sh.zero 0 (fun _ => 0) 2 e w hE (fun w => specRU_err t k b 2 (.inr rfl) w hf2 (by
        have hq : (decide (1 ≤ k) && decide (k ≤ 15)) = false := by simp; omega
        simp [bathC, ho, hq])) (fun w hE => implRU_err t k b 2 2 e w hE.base (fun w hE => ckRi_rng t k 1 e w hE ho (by omega)) (fun w hE => codeOf_2 e w hE))
end Go.Proofs.YtfgcpiipndhllaaDoor
