import Derived.Test.YtdigbikldkkhpaaStF
namespace Go.Proofs.Ytdigbikldkkhpaa
open Go.RowKit
set_option maxRecDepth 100000
set_option linter.unusedVariables false
set_option linter.unusedSimpArgs false
theorem st_law (a c : Int) (st : Nat → Int) (w : World) : Calls Try.prog 3 #[.int .i64 a, .int .i64 c, .agg (vrow 24 (s24 st))] w fun o w' => o = .returned (.bool true) ∧ Below w.heap.size w w' := by
  by_cases h : 1 ≤ a ∧ a ≤ 8 ∧ 1 ≤ c ∧ c ≤ 8
  · obtain ⟨n, rfl⟩ : ∃ n : Nat, a = n := ⟨a.toNat, by omega⟩
    obtain ⟨m, rfl⟩ : ∃ m : Nat, c = m := ⟨c.toNat, by omega⟩
    have hn : 1 ≤ n ∧ n ≤ 8 := by omega
    have hm : 1 ≤ m ∧ m ≤ 8 := by omega
    have hP : ∀ x y : Nat, hasP (blankPic n m) x y = (decide (x < n) && decide (y < m)) := fun x y => by
      rw [Bool.eq_iff_iff]; simp [hasP, insB, blankPic] <;> omega
    by_cases hall : ∀ k, k < 3 → inCut st n m k
    · have hno : ∀ x y, x < 8 → y < 8 → beyP st (blankPic n m) x y = false := fun x y hx hy => by
        unfold beyP
        rw [hP]
        by_cases hin : x < n ∧ y < m
        · simp [hin.1, hin.2]
        · have h3 : ∀ k, k < 3 → cutB st k (x, y) = false := fun k hk => by
            cases hc : cutB st k (x, y)
            · rfl
            · exact absurd (hall k hk (x, y) hx hy hc) hin
          simp [anyC, h3 0 (by omega), h3 1 (by omega), h3 2 (by omega)]
      have HI := fun w => implSt_ok n m st w hn hm (fun w => cutB_any (blankPic n m) st w (fun b => b = false) (fun x y hx hy hb => by rw [hno x y hx hy] at hb; cases hb) (fun _ => rfl))
      rw [← dabA_eq hn.2 hm.2 _ 3 hall] at HI
      exact stL_walk n m st (dabA st (blankPic n m) (pairsL 8 8) 3) 0 w (fun w => specSt_walk st n m w hn hm _ (fun _ w' hb => ⟨rfl, hb⟩) (fun k q hk h1 h2 hc hnot => absurd (hall k hk q h1 h2 hc) hnot)) HI
    · have hex : ∃ k q, k < 3 ∧ q.1 < 8 ∧ q.2 < 8 ∧ cutB st k q = true ∧ ¬ (q.1 < n ∧ q.2 < m) := by
        by_cases hx : ∃ k q, k < 3 ∧ q.1 < 8 ∧ q.2 < 8 ∧ cutB st k q = true ∧ ¬ (q.1 < n ∧ q.2 < m)
        · exact hx
        · refine absurd (fun k hk q h1 h2 hc => ?_) hall
          by_cases hin : q.1 < n ∧ q.2 < m
          · exact hin
          · exact absurd ⟨k, q, hk, h1, h2, hc, hin⟩ hx
      obtain ⟨k, q, hk, h1, h2, hc, hnot⟩ := hex
      have hbe : beyP st (blankPic n m) q.1 q.2 = true := by
        unfold beyP
        rw [hP, anyC_some hk hc]
        have : (decide (q.1 < n) && decide (q.2 < m)) = false := by rw [Bool.and_eq_false_iff]; simp; omega
        rw [this]; rfl
      exact stL_walk n m st Pic.zero 2 w (fun w => specSt_walk st n m w hn hm _ (fun hin => absurd hin hall) (fun _ _ _ _ _ _ _ w' hb => ⟨rfl, hb⟩)) (fun w => implSt_cut n m st w hn hm (fun w => cutB_any (blankPic n m) st w (fun b => b = true) (fun _ _ _ _ _ => rfl) (fun hall2 => by rw [hall2 q.1 q.2 h1 h2] at hbe; cases hbe)))
  · have h2 : a < 1 ∨ 8 < a ∨ c < 1 ∨ 8 < c := by omega
    exact stL_walk a c st Pic.zero 2 w (fun w => specSt_no a c st w h2) (fun w => implSt_no a c st w h2)
end Go.Proofs.Ytdigbikldkkhpaa
