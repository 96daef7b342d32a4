import Derived.Test.YthkkbkpfomhdeaaDoorG1
namespace Go.Proofs.YthkkbkpfomhdeaaDoor
open Go.RowKit
set_option maxRecDepth 100000
set_option maxHeartbeats 400000 in
theorem eqInt16A3_any (a : Nat → Int) (w : World) :
    Calls Tryd.prog 51 #[.agg (irow .i16 3 a), .agg (irow .i16 3 a)] w fun e w' => e = .returned (.bool true) ∧ Below w.heap.size w w' := by
  go_enter Tryd.func51, Tryd.ntmps51
  go_wp2
  go_loopw [5] (fun i wr => ∃ k : Nat, k ≤ 3 ∧ i = .int .i64 k ∧ Twin 3 (fun i => .int .i16 (a i)) 23 w wr) (fun i _ => 3 - (intOf i).toNat)
  case atStart => exact ⟨0, by omega, rfl, Twin.start _ _ _ _⟩
  case round =>
    obtain ⟨k, hk, rfl, hI⟩ := hrel
    by_cases hlt : k < 3
    · have HI := Go.Lib.hid hI
      have c1 := cell_row hI.2.1 hlt
      have c2 := cell_row hI.2.2 hlt
      clear hI hk
      go_wp2
      go_quiet (fail)
      go_wp2
      go_roundw
      case rel => exact ⟨k + 1, by omega, by go_num, HI.out.drew _⟩
      case measure => simp [intOf]; omega
    · have HI := Go.Lib.hid hI
      obtain rfl : k = 3 := by omega
      clear hI hk
      go_wp2
      go_ret
      exact ⟨rfl, HI.out.1⟩
set_option maxHeartbeats 400000 in
theorem eqInt16A8_any (a : Nat → Int) (w : World) :
    Calls Tryd.prog 99 #[.agg (irow .i16 8 a), .agg (irow .i16 8 a)] w fun e w' => e = .returned (.bool true) ∧ Below w.heap.size w w' := by
  go_enter Tryd.func99, Tryd.ntmps99
  go_wp2
  go_loopw [5] (fun i wr => ∃ k : Nat, k ≤ 8 ∧ i = .int .i64 k ∧ Twin 8 (fun i => .int .i16 (a i)) 38 w wr) (fun i _ => 8 - (intOf i).toNat)
  case atStart => exact ⟨0, by omega, rfl, Twin.start _ _ _ _⟩
  case round =>
    obtain ⟨k, hk, rfl, hI⟩ := hrel
    by_cases hlt : k < 8
    · have HI := Go.Lib.hid hI
      have c1 := cell_row hI.2.1 hlt
      have c2 := cell_row hI.2.2 hlt
      clear hI hk
      go_wp2
      go_quiet (fail)
      go_wp2
      go_roundw
      case rel => exact ⟨k + 1, by omega, by go_num, HI.out.drew _⟩
      case measure => simp [intOf]; omega
    · have HI := Go.Lib.hid hI
      obtain rfl : k = 8 := by omega
      clear hI hk
      go_wp2
      go_ret
      exact ⟨rfl, HI.out.1⟩
set_option maxHeartbeats 400000 in
theorem eqByteA8_any (a : Nat → Int) (w : World) :
    Calls Tryd.prog 65 #[.agg (irow .u8 8 a), .agg (irow .u8 8 a)] w fun e w' => e = .returned (.bool true) ∧ Below w.heap.size w w' := by
  go_enter Tryd.func65, Tryd.ntmps65
  go_wp2
  go_loopw [5] (fun i wr => ∃ k : Nat, k ≤ 8 ∧ i = .int .i64 k ∧ Twin 8 (fun i => .int .u8 (a i)) 42 w wr) (fun i _ => 8 - (intOf i).toNat)
  case atStart => exact ⟨0, by omega, rfl, Twin.start _ _ _ _⟩
  case round =>
    obtain ⟨k, hk, rfl, hI⟩ := hrel
    by_cases hlt : k < 8
    · have HI := Go.Lib.hid hI
      have c1 := cell_row hI.2.1 hlt
      have c2 := cell_row hI.2.2 hlt
      clear hI hk
      go_wp2
      go_quiet (fail)
      go_wp2
      go_roundw
      case rel => exact ⟨k + 1, by omega, by go_num, HI.out.drew _⟩
      case measure => simp [intOf]; omega
    · have HI := Go.Lib.hid hI
      obtain rfl : k = 8 := by omega
      clear hI hk
      go_wp2
      go_ret
      exact ⟨rfl, HI.out.1⟩
set_option maxHeartbeats 400000 in
theorem eqInt16A8A8_any (a : Nat → Int) (w : World) :
    Calls Tryd.prog 63 #[.agg (irow .i16 64 a), .agg (irow .i16 64 a)] w fun e w' => e = .returned (.bool true) ∧ Below w.heap.size w w' := by
  go_enter Tryd.func63, Tryd.ntmps63
  go_wp2
  go_loopw [5] (fun i wr => ∃ k : Nat, k ≤ 8 ∧ i = .int .i64 k ∧ Twin 64 (fun i => .int .i16 (a i)) 39 w wr) (fun i _ => 8 - (intOf i).toNat)
  case atStart => exact ⟨0, by omega, rfl, Twin.start _ _ _ _⟩
  case round =>
    obtain ⟨k, hk, rfl, hI⟩ := hrel
    by_cases hlt : k < 8
    · have HI := Go.Lib.hid hI.drew1
      clear hk hI
      go_wp2
      refine wp_region_still_tail 6 (by kernel_rfl) (by kernel_rfl) ?_
      simp only [List.take_succ_cons, List.take_zero, List.drop_succ_cons, List.drop_zero, World.drew_eq]
      repeat (first
        | (refine wpStill_loadmid rfl 38 (.tmp 11) rfl _ (k * 8) rfl 64 8 (fun i => .int .i16 (a i)) 39 _ Tryd.underlying38 rfl size_r8 HI.out.2.1 (by omega) ?_)
        | (refine wpStill_loadmid rfl 38 (.tmp 14) rfl _ (k * 8) rfl 64 8 (fun i => .int .i16 (a i)) 39 _ Tryd.underlying38 rfl size_r8 HI.out.2.2 (by omega) ?_)
        | still_step)
      refine wpStill_nil ?_
      go_wp2_with (go_at_call 99; refine (eqInt16A8_any _ _).mono ?_; rintro e w1 ⟨rfl, hb1⟩; have HI1 := Go.Lib.hid (HI.out.call hb1 (by simp)); clear hb1)
      go_roundw
      case rel => exact ⟨k + 1, by omega, by go_num, HI1.out⟩
      case measure => simp [intOf]; omega
    · have HI := Go.Lib.hid hI
      obtain rfl : k = 8 := by omega
      clear hI hk
      go_wp2
      go_ret
      exact ⟨rfl, HI.out.1⟩
set_option maxHeartbeats 400000 in
theorem eqInt16A3A8_any (a : Nat → Int) (w : World) :
    Calls Tryd.prog 100 #[.agg (irow .i16 24 a), .agg (irow .i16 24 a)] w fun e w' => e = .returned (.bool true) ∧ Below w.heap.size w w' := by
  go_enter Tryd.func100, Tryd.ntmps100
  go_wp2
  go_loopw [5] (fun i wr => ∃ k : Nat, k ≤ 8 ∧ i = .int .i64 k ∧ Twin 24 (fun i => .int .i16 (a i)) 40 w wr) (fun i _ => 8 - (intOf i).toNat)
  case atStart => exact ⟨0, by omega, rfl, Twin.start _ _ _ _⟩
  case round =>
    obtain ⟨k, hk, rfl, hI⟩ := hrel
    by_cases hlt : k < 8
    · have HI := Go.Lib.hid hI.drew1
      clear hk hI
      go_wp2
      refine wp_region_still_tail 6 (by kernel_rfl) (by kernel_rfl) ?_
      simp only [List.take_succ_cons, List.take_zero, List.drop_succ_cons, List.drop_zero, World.drew_eq]
      repeat (first
        | (refine wpStill_loadmid rfl 23 (.tmp 11) rfl _ (k * 3) rfl 24 3 (fun i => .int .i16 (a i)) 40 _ Tryd.underlying23 rfl size_d3 HI.out.2.1 (by omega) ?_)
        | (refine wpStill_loadmid rfl 23 (.tmp 14) rfl _ (k * 3) rfl 24 3 (fun i => .int .i16 (a i)) 40 _ Tryd.underlying23 rfl size_d3 HI.out.2.2 (by omega) ?_)
        | still_step)
      refine wpStill_nil ?_
      go_wp2_with (go_at_call 51; refine (eqInt16A3_any _ _).mono ?_; rintro e w1 ⟨rfl, hb1⟩; have HI1 := Go.Lib.hid (HI.out.call hb1 (by simp)); clear hb1)
      go_roundw
      case rel => exact ⟨k + 1, by omega, by go_num, HI1.out⟩
      case measure => simp [intOf]; omega
    · have HI := Go.Lib.hid hI
      obtain rfl : k = 8 := by omega
      clear hI hk
      go_wp2
      go_ret
      exact ⟨rfl, HI.out.1⟩
set_option maxHeartbeats 400000 in
theorem eqInt16A3A8A8_any (a : Nat → Int) (w : World) :
    Calls Tryd.prog 64 #[.agg (irow .i16 192 a), .agg (irow .i16 192 a)] w fun e w' => e = .returned (.bool true) ∧ Below w.heap.size w w' := by
  go_enter Tryd.func64, Tryd.ntmps64
  go_wp2
  go_loopw [5] (fun i wr => ∃ k : Nat, k ≤ 8 ∧ i = .int .i64 k ∧ Twin 192 (fun i => .int .i16 (a i)) 41 w wr) (fun i _ => 8 - (intOf i).toNat)
  case atStart => exact ⟨0, by omega, rfl, Twin.start _ _ _ _⟩
  case round =>
    obtain ⟨k, hk, rfl, hI⟩ := hrel
    by_cases hlt : k < 8
    · have HI := Go.Lib.hid hI.drew1
      clear hk hI
      go_wp2
      refine wp_region_still_tail 6 (by kernel_rfl) (by kernel_rfl) ?_
      simp only [List.take_succ_cons, List.take_zero, List.drop_succ_cons, List.drop_zero, World.drew_eq]
      repeat (first
        | (refine wpStill_loadmid rfl 40 (.tmp 11) rfl _ (k * 24) rfl 192 24 (fun i => .int .i16 (a i)) 41 _ Tryd.underlying40 rfl size_d24 HI.out.2.1 (by omega) ?_)
        | (refine wpStill_loadmid rfl 40 (.tmp 14) rfl _ (k * 24) rfl 192 24 (fun i => .int .i16 (a i)) 41 _ Tryd.underlying40 rfl size_d24 HI.out.2.2 (by omega) ?_)
        | still_step)
      refine wpStill_nil ?_
      go_wp2_with (go_at_call 100; refine (eqInt16A3A8_any _ _).mono ?_; rintro e w1 ⟨rfl, hb1⟩; have HI1 := Go.Lib.hid (HI.out.call hb1 (by simp)); clear hb1)
      go_roundw
      case rel => exact ⟨k + 1, by omega, by go_num, HI1.out⟩
      case measure => simp [intOf]; omega
    · have HI := Go.Lib.hid hI
      obtain rfl : k = 8 := by omega
      clear hI hk
      go_wp2
      go_ret
      exact ⟨rfl, HI.out.1⟩
end Go.Proofs.YthkkbkpfomhdeaaDoor
