import Derived.Test.YtflmkhjleifbbaaDoorG1
namespace Go.Proofs.YtflmkhjleifbbaaDoor
open Go.RowKit
set_option maxRecDepth 100000
set_option maxHeartbeats 400000 in
theorem eqInt16A8_any (a : Nat → Int) (w : World) :
    Calls Tryd.prog 30 #[.agg (irow .i16 8 a), .agg (irow .i16 8 a)] w fun e w' => e = .returned (.bool true) ∧ Below w.heap.size w w' := by
  go_enter Tryd.func30, Tryd.ntmps30
  go_wp2
  go_loopw [5] (fun i wr => ∃ k : Nat, k ≤ 8 ∧ i = .int .i64 k ∧ Twin 8 (fun i => .int .i16 (a i)) 24 w wr) (fun i _ => 8 - (intOf i).toNat)
  case atStart => exact ⟨0, by omega, rfl, Twin.start _ _ _ _⟩
  case round =>
    obtain ⟨k, hk, rfl, hI⟩ := hrel
    by_cases hlt : k < 8
    · have HI := Go.Lib.hid hI
      have c1 := cell_row hI.2.1 hlt
      have c2 := cell_row hI.2.2 hlt
      clear hI hk
      go_wp2
      go_quiet (fail)
      go_wp2
      go_roundw
      case rel => exact ⟨k + 1, by omega, by go_num, HI.out.drew _⟩
      case measure => simp [intOf]; omega
    · have HI := Go.Lib.hid hI
      obtain rfl : k = 8 := by omega
      clear hI hk
      go_wp2
      go_ret
      exact ⟨rfl, HI.out.1⟩
end Go.Proofs.YtflmkhjleifbbaaDoor
