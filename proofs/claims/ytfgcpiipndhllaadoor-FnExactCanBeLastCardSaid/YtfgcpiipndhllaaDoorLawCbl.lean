import Derived.Test.YtfgcpiipndhllaaDoorCblW
import Derived.Test.YtfgcpiipndhllaaDoorPeelW
namespace Go.Proofs.YtfgcpiipndhllaaDoor
open Go.RowKit
set_option maxRecDepth 100000
set_option linter.unusedVariables false
set_option linter.unusedSimpArgs false
theorem cbl_law (p : Pic) (x y n : Int) (e : ErrE) (w : World) (hE : Errs e w) (hf : p.fit) (hx : -128 ≤ x ∧ x ≤ 127) (hy : -128 ≤ y ∧ y ≤ 127) (hn : 0 ≤ n ∧ n ≤ 255) :
    Calls Tryd.prog 9 #[.agg p.row, .agg #[.int .i8 x, .int .i8 y, .int .u8 n]] w fun o w' => o = .returned (.bool true) ∧ Below w.heap.size w w' := by
  cases hv : okP p
  · exact cbl_walk p x y n false 1 e w hE (fun w => specCb_bad p x y n hf hx hy w hv) (fun w hE => implCb_bad p x y n hf hv e w hE)
  · cases hc : canB p x y n
    · exact cbl_walk p x y n false 2 e w hE (fun w => specCb_rng p x y n hf hx hy w hv hc) (fun w hE => implCb_rng p x y n hf hv hc e w hE)
    · obtain ⟨a, c, ea, ec, ha, hcc⟩ := okP_nat2 hv
      obtain ⟨i, j, k, rfl, rfl, rfl, hi, hj, hk⟩ := canB_nat ea ec ha.2 hcc.2 hn.1 hc
      obtain ⟨hi2, hj2⟩ := canB_in ea ec hc
      exact cbl_walk p i j k _ 0 e w hE (fun w => specCb_ok p a c i j k hf hv hc ea ec ha.2 hcc.2 hi hj hk w) (fun w hE => by rw [← has_ls a c ha.2 hcc.2 i j k hi2 hj2 hk]; exact implCb_ok p a c i j k hf hv hc ea ec ha.2 hcc.2 e w hE)
end Go.Proofs.YtfgcpiipndhllaaDoor
