import Derived.Test.YtgbhchmpeioaiaaDoorBathC
import Derived.Test.YtgbhchmpeioaiaaDoorCBW
namespace Go.Proofs.YtgbhchmpeioaiaaDoor
open Go.RowKit
set_option maxRecDepth 100000
set_option linter.unusedVariables false
set_option linter.unusedSimpArgs false
theorem first_at (f : Nat → Int) (b : Int) : ∀ n : Nat, ∃ j, j ≤ n ∧ (j < n → f j ≤ b) ∧ ∀ i, i < j → b < f i
  | 0 => ⟨0, by omega, fun h => by omega, fun i h => by omega⟩
  | n + 1 => by
    obtain ⟨j, h1, h2, h3⟩ := first_at f b n
    by_cases hj : j < n
    · exact ⟨j, by omega, fun _ => h2 hj, h3⟩
    · obtain rfl : j = n := by omega
      by_cases hf : f j ≤ b
      · exact ⟨j, by omega, fun _ => hf, h3⟩
      · refine ⟨j + 1, by omega, fun h => by omega, fun i hi => ?_⟩
        by_cases e : i = j
        · subst e; omega
        · exact h3 i (by omega)
theorem cb_law (s : Sh) (k n b : Int) (e : ErrE) (w : World) (hE : Errs e w) (hf : s.fit) : Calls Tryd.prog 9 #[.agg s.row, .int .i64 k, .int .i64 n, .int .i64 b] w fun o w' => o = .returned (.bool true) ∧ Below w.heap.size w w' := by
  rw [← norm_row s]
  have hf2 := norm_fit hf
  have hi0 := inkOk_norm (s := s)
  generalize s.norm = t at *
  cases ho : okI t
  · exact cb_walk t k n b 0 1 e w hE (fun w => specCB_err t k n b 1 w hf2 (by simp [bathC, ho]) (.inl rfl)) (fun w hE => implCB_err t k n b 1 1 e w hE (fun w hE => ckRi_bad t k n e w hE ho) (fun w hE => codeOf_1 e w hE))
  · by_cases hk : (1 ≤ k ∧ k ≤ 15) ∧ (0 ≤ n ∧ n ≤ 100)
    · by_cases hb : 0 ≤ b
      · have hbb := ho
        simp only [okI, Bool.and_eq_true, decide_eq_true_eq] at hbb
        obtain ⟨⟨hb1, hb2⟩, ⟨hb3, hb4⟩, _⟩ := hbb
        obtain ⟨a, ha⟩ : ∃ a : Nat, t.wide = a := ⟨t.wide.toNat, by omega⟩
        obtain ⟨c, hc⟩ : ∃ c : Nat, t.high = c := ⟨t.high.toNat, by omega⟩
        obtain ⟨N, hN⟩ : ∃ N : Nat, n = N := ⟨n.toNat, by omega⟩
        subst hN
        have hgd := Gd.start ho (hi0 ho) hf2
        obtain ⟨jn, hj, hj1, hj2⟩ := first_at (btS k (cellsL a c) t) b N
        have hS := fun w => specCB_ok t k b N jn a c w hf2 (by simp [bathC, cbIn, ho, hk.1.1, hk.1.2, hb]; omega) ha hc ⟨by omega, by omega⟩ ⟨by omega, by omega⟩ hgd hk.1.1 hk.1.2 (by omega) hb hj hj1 hj2
        have hI := fun w hE => implCB_ok t k b N jn a c e w hE ho ha hc ⟨by omega, by omega⟩ ⟨by omega, by omega⟩ hgd hk.1.1 hk.1.2 (by omega) hb hj hj1 hj2
        by_cases hlt : jn < N
        · rw [show cbA jn N = .tuple #[.int .i64 jn, .int .i64 0] from if_pos hlt] at hS hI
          exact cb_walk t k N b jn 0 e w hE hS hI
        · rw [show cbA jn N = .tuple #[.int .i64 0, .int .i64 6] from if_neg hlt] at hS hI
          exact cb_walk t k N b 0 6 e w hE hS hI
      · exact cb_walk t k n b 0 2 e w hE (fun w => specCB_err t k n b 2 w hf2 (by
          have hq : cbIn n b = false := by simp [cbIn]; omega
          simp [bathC, ho, hq]) (.inr rfl)) (fun w hE => implCB_rng t k n b e w hE (fun w hE => ckRi_ok t k n e w hE ho hk.1 hk.2) (by omega))
    · exact cb_walk t k n b 0 2 e w hE (fun w => specCB_err t k n b 2 w hf2 (by
        have hq : ((decide (1 ≤ k) && decide (k ≤ 15)) && cbIn n b) = false := by simp [cbIn]; omega
        simp only [bathC, ho, hq, if_true, Bool.false_eq_true, if_false]) (.inr rfl)) (fun w hE => implCB_err t k n b 2 2 e w hE (fun w hE => ckRi_rng t k n e w hE ho (by omega)) (fun w hE => codeOf_2 e w hE))
end Go.Proofs.YtgbhchmpeioaiaaDoor
