import Derived.Test.YtdagbddmgeoanaaDoorMxW
import Derived.Test.YtdagbddmgeoanaaDoorMxS
namespace Go.Proofs.YtdagbddmgeoanaaDoor
open Go.RowKit
set_option maxRecDepth 100000
set_option linter.unusedVariables false
set_option linter.unusedSimpArgs false
theorem mx_le (v : Nat → Int) : (mxV v 3 ≤ 1000 ∧ 0 ≤ mnV v 3) ↔ in3 v 1000 := by
  simp only [mxV, mnV]
  constructor
  · intro h i hi
    have : i = 0 ∨ i = 1 ∨ i = 2 := by omega
    simp at h
    rcases this with rfl | rfl | rfl <;> omega
  · intro h
    have h0 := h 0 (by omega); have h1 := h 1 (by omega); have h2 := h 2 (by omega)
    simp; omega
theorem mx_zero {v : Nat → Int} (h : in3 v 1000) : mxV v 3 = 0 ↔ sumW v = 0 := by
  have h0 := h 0 (by omega); have h1 := h 1 (by omega); have h2 := h 2 (by omega)
  simp only [mxV, sumW]
  simp; omega
theorem mx_law (v : Nat → Int) (P : Int) (e : ErrE) (w : World) (hE : Errs e w) : Calls Tryd.prog 3 #[.agg (vrow 3 (i3 v)), .int .i64 P] w fun o w' => o = .returned (.bool true) ∧ Below w.heap.size w w' := by
  cases hf : fnM v P 3
  · have hbad : P < 1 ∨ 30 < P ∨ mnV v 3 < 0 ∨ 1000 < mxV v 3 := by
      by_cases hP : 1 ≤ P ∧ P ≤ 30
      · by_cases hv : in3 v 1000
        · have := (fnM_iff v P).2 ⟨hP, hv⟩
          rw [this] at hf; cases hf
        · have h2 : ¬ (mxV v 3 ≤ 1000 ∧ 0 ≤ mnV v 3) := fun h => hv ((mx_le v).1 h)
          omega
      · omega
    exact mxL_walk v P (fun _ => 0) 0 2 e w hE (fun w => specM_range v P w hf) (fun w hE => implM_err v P 2 e w hE (fun W hE => ckM_range v P e W hE hbad) (fun W hE => codeOf_2 e W hE))
  · obtain ⟨hP, hv⟩ := (fnM_iff v P).1 hf
    have hb := (mx_le v).2 hv
    by_cases hz : sumW v = 0
    · exact mxL_walk v P (fun _ => 0) 0 4 e w hE (fun w => specM_state v P w hf (by rw [smM_sum hv]; exact hz)) (fun w hE => implM_err v P 4 e w hE (fun W hE => ckM_state v P e W hE hP.1 hP.2 hb.2 hb.1 ((mx_zero hv).2 hz)) (fun W hE => codeOf_4 e W hE))
    · obtain ⟨n, hn⟩ : ∃ n : Nat, P = n := ⟨P.toNat, by omega⟩
      exact mxL_walk v P _ _ 0 e w hE (fun w => specM_ok v P w n hf (by rw [smM_sum hv]; exact hz) (by omega) (by omega)) (fun w hE => implM_ok v P _ _ e w hE (fun W hE => ckM_ok v P e W hE hP.1 hP.2 hb.2 hb.1 (fun h => hz ((mx_zero hv).1 h))) (fun W => near_any v P n W hv hn (by omega)))
end Go.Proofs.YtdagbddmgeoanaaDoor
