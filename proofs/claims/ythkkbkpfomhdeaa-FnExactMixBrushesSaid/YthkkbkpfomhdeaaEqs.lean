import Derived.Test.YthkkbkpfomhdeaaSheet
namespace Go.Proofs.Ythkkbkpfomhdeaa
open Go.RowKit
set_option maxRecDepth 100000
set_option maxHeartbeats 400000 in
theorem eqInt16A3_any (a : Nat → Int) (w : World) :
    Calls Try.prog 17 #[.agg (irow .i16 3 a), .agg (irow .i16 3 a)] w fun e w' => e = .returned (.bool true) ∧ Below w.heap.size w w' := by
  go_enter Try.func17, Try.ntmps17
  go_wp2
  go_loopw [5] (fun i wr => ∃ k : Nat, k ≤ 3 ∧ i = .int .i64 k ∧ Twin 3 (fun i => .int .i16 (a i)) 23 w wr) (fun i _ => 3 - (intOf i).toNat)
  case atStart => exact ⟨0, by omega, rfl, Twin.start _ _ _ _⟩
  case round =>
    obtain ⟨k, hk, rfl, hI⟩ := hrel
    by_cases hlt : k < 3
    · have HI := Go.Lib.hid hI
      have c1 := cell_row hI.2.1 hlt
      have c2 := cell_row hI.2.2 hlt
      clear hI hk
      go_wp2
      go_quiet (fail)
      go_wp2
      go_roundw
      case rel => exact ⟨k + 1, by omega, by go_num, HI.out.drew _⟩
      case measure => simp [intOf]; omega
    · have HI := Go.Lib.hid hI
      obtain rfl : k = 3 := by omega
      clear hI hk
      go_wp2
      go_ret
      exact ⟨rfl, HI.out.1⟩
end Go.Proofs.Ythkkbkpfomhdeaa
