import Derived.Test.YtmcpaangofdmpaaDoorPuW
import Derived.Test.YtmcpaangofdmpaaDoorPuL
import Derived.Test.YtmcpaangofdmpaaDoorPrK
namespace Go.Proofs.YtmcpaangofdmpaaDoor
open Go.RowKit
set_option maxRecDepth 100000
set_option linter.unusedVariables false
set_option linter.unusedSimpArgs false
theorem foldOk_bdU {s : Sh} {ax : Int} {d : Bool} {pr : Int} (ho : okI s = true) (h : foldOk s ax d pr = true) : (1 ≤ ax ∧ ax ≤ 8) ∧ (1 ≤ pr ∧ pr ≤ 8) := by
  simp only [okI, Bool.and_eq_true, decide_eq_true_eq] at ho
  simp only [foldOk, Bool.and_eq_true, decide_eq_true_eq] at h
  obtain ⟨⟨a1, a2⟩, ⟨a3, a4⟩, _⟩ := ho
  refine ⟨⟨h.1.1, ?_⟩, h.2⟩
  have := h.1.2
  split at this <;> omega
theorem pu_law (s : Sh) (ax : Int) (d : Bool) (p off : Int) (e : ErrE) (w : World) (hE : Errs e w) (hf : s.fit) (hax : -128 ≤ ax ∧ ax ≤ 127) (hap : -128 ≤ p ∧ p ≤ 127) :
    Calls Tryd.prog 5 #[.agg s.row, .agg (vrow 3 (foAt ax d p)), .int .i64 off] w fun o w' => o = .returned (.bool true) ∧ Below w.heap.size w w' := by
  cases ho : okI s
  · exact pu_walk s ax d p off 0 1 e w hE (fun w => specPU_err s ax d p off w hf hax hap _ rfl 1 (by unfold askC; rw [ho]; rfl) rfl) (fun w hE => implPU_le s ax d p off 0 1 (errP e 1) e w hE (by omega) (fun W hE => ckO_bad s off e W hE hf ho) (fun W hE _ _ _ => unl_i64_err _ 1 1 e W hE (fun w hE => codeOf_1 e w hE)))
  · by_cases hn : 0 ≤ off
    · have hd : decide (0 ≤ off) = true := by simpa using hn
      cases hk : foldOk s ax d p
      · have hv : (okI s && foldOk s ax d p) = false := by rw [hk]; simp
        exact pu_walk s ax d p off 0 2 e w hE (fun w => specPU_err s ax d p off w hf hax hap _ hd 2 (by unfold askC; rw [ho, hk]; rfl) rfl) (fun w hE => implPU_le s ax d p off 0 2 .nilIface e w hE (by omega) (fun W hE => ckO_ok s off e W hE hf ho hn) (fun W hE h1 h2 h3 => unl_pru_catch w.heap.size (w.heap.size + 1) (w.heap.size + 2) ax d p e W hE (fun W' hb => puc_bad s ax d p off _ _ _ W' (row_next hb h1) (row_next hb h2) (row_next hb h3) (fun w => pu_bad s ax d p off w hf hv))))
      · have hv : (okI s && foldOk s ax d p) = true := by rw [ho, hk]; rfl
        obtain ⟨a, c, ea, ec, ha, hc⟩ := fitW s ho
        have hb := foldOk_bdU ho hk
        have hask : askC (okI s) (foldOk s ax d p) true = 0 := by unfold askC; rw [ho, hk]; rfl
        obtain ⟨n, hn31, h1, h2⟩ := first_le (ofT p ax d s (prsL s a c ax d)) off 31
        have hI := fun w => pu_any s ax d p off a c n w hf hv (bdP_ok ho) hb.1 (by omega) ea ec ha.2 hc.2 hn hn31 h1 h2
        have hU := fun (w W : World) (hE : Errs e W) (h1 : W.heap[w.heap.size]? = some (.cells (vrow 266 s.at) 34)) (h2 : W.heap[w.heap.size + 1]? = some (.cells (vrow 3 (foAt ax d p)) 38)) (h3 : W.heap[w.heap.size + 2]? = some (.cells (vrow 1 fun _ => .int .i64 off) 2)) => unl_pru_ok w.heap.size (w.heap.size + 1) (w.heap.size + 2) (.int .i64 n) W (fun W' hb => puc_ok s ax d p off n _ _ _ W' (row_next hb h1) (row_next hb h2) (row_next hb h3) hI)
        have hS := fun w => specPU_ok s ax d p off w hf hax hap a c n (bdP_ok ho) ea ec ha hc hd hask hb.1 (by omega) hn31 h1 h2
        by_cases h31 : n < 31
        · rw [if_pos h31, if_pos h31] at hS
          exact pu_walk s ax d p off n 0 e w hE hS (fun w hE => implPU_le s ax d p off n 0 .nilIface e w hE (by omega) (fun W hE => ckO_ok s off e W hE hf ho hn) (fun W hE h1 h2 h3 => hU w W hE h1 h2 h3))
        · rw [if_neg h31, if_neg h31] at hS
          exact pu_walk s ax d p off 0 6 e w hE hS (fun w hE => implPU_gt s ax d p off n 0 .nilIface e w hE (by omega) (fun W hE => ckO_ok s off e W hE hf ho hn) (fun W hE h1 h2 h3 => hU w W hE h1 h2 h3))
    · have hd : decide (0 ≤ off) = false := by simpa using hn
      exact pu_walk s ax d p off 0 2 e w hE (fun w => specPU_err s ax d p off w hf hax hap _ hd 2 (by unfold askC; rw [ho]; cases foldOk s ax d p <;> rfl) rfl) (fun w hE => implPU_le s ax d p off 0 2 (errP e 2) e w hE (by omega) (fun W hE => ckO_neg s off e W hE hf ho (by omega)) (fun W hE _ _ _ => unl_i64_err _ 2 2 e W hE (fun w hE => codeOf_2 e w hE)))
end Go.Proofs.YtmcpaangofdmpaaDoor
