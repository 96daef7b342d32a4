import Derived.Test.YtfhfiaphdgfmnaaDoorG1
namespace Go.Proofs.YtfhfiaphdgfmnaaDoor
open Go.RowKit
set_option maxRecDepth 100000
set_option maxHeartbeats 400000 in
theorem eqInt16A3_any (a : Nat → Int) (w : World) :
    Calls Tryd.prog 107 #[.agg (irow .i16 3 a), .agg (irow .i16 3 a)] w fun e w' => e = .returned (.bool true) ∧ Below w.heap.size w w' := by
  go_enter Tryd.func107, Tryd.ntmps107
  go_wp2
  go_loopw [5] (fun i wr => ∃ k : Nat, k ≤ 3 ∧ i = .int .i64 k ∧ Twin 3 (fun i => .int .i16 (a i)) 27 w wr) (fun i _ => 3 - (intOf i).toNat)
  case atStart => exact ⟨0, by omega, rfl, Twin.start _ _ _ _⟩
  case round =>
    obtain ⟨k, hk, rfl, hI⟩ := hrel
    by_cases hlt : k < 3
    · have HI := Go.Lib.hid hI
      have c1 := cell_row hI.2.1 hlt
      have c2 := cell_row hI.2.2 hlt
      clear hI hk
      go_wp2
      go_quiet (fail)
      go_wp2
      go_roundw
      case rel => exact ⟨k + 1, by omega, by go_num, HI.out.drew _⟩
      case measure => simp [intOf]; omega
    · have HI := Go.Lib.hid hI
      obtain rfl : k = 3 := by omega
      clear hI hk
      go_wp2
      go_ret
      exact ⟨rfl, HI.out.1⟩
set_option maxHeartbeats 400000 in
theorem eqInt16A8_any (a : Nat → Int) (w : World) :
    Calls Tryd.prog 85 #[.agg (irow .i16 8 a), .agg (irow .i16 8 a)] w fun e w' => e = .returned (.bool true) ∧ Below w.heap.size w w' := by
  go_enter Tryd.func85, Tryd.ntmps85
  go_wp2
  go_loopw [5] (fun i wr => ∃ k : Nat, k ≤ 8 ∧ i = .int .i64 k ∧ Twin 8 (fun i => .int .i16 (a i)) 25 w wr) (fun i _ => 8 - (intOf i).toNat)
  case atStart => exact ⟨0, by omega, rfl, Twin.start _ _ _ _⟩
  case round =>
    obtain ⟨k, hk, rfl, hI⟩ := hrel
    by_cases hlt : k < 8
    · have HI := Go.Lib.hid hI
      have c1 := cell_row hI.2.1 hlt
      have c2 := cell_row hI.2.2 hlt
      clear hI hk
      go_wp2
      go_quiet (fail)
      go_wp2
      go_roundw
      case rel => exact ⟨k + 1, by omega, by go_num, HI.out.drew _⟩
      case measure => simp [intOf]; omega
    · have HI := Go.Lib.hid hI
      obtain rfl : k = 8 := by omega
      clear hI hk
      go_wp2
      go_ret
      exact ⟨rfl, HI.out.1⟩
set_option maxHeartbeats 400000 in
theorem eqByteA8_any (a : Nat → Int) (w : World) :
    Calls Tryd.prog 52 #[.agg (irow .u8 8 a), .agg (irow .u8 8 a)] w fun e w' => e = .returned (.bool true) ∧ Below w.heap.size w w' := by
  go_enter Tryd.func52, Tryd.ntmps52
  go_wp2
  go_loopw [5] (fun i wr => ∃ k : Nat, k ≤ 8 ∧ i = .int .i64 k ∧ Twin 8 (fun i => .int .u8 (a i)) 30 w wr) (fun i _ => 8 - (intOf i).toNat)
  case atStart => exact ⟨0, by omega, rfl, Twin.start _ _ _ _⟩
  case round =>
    obtain ⟨k, hk, rfl, hI⟩ := hrel
    by_cases hlt : k < 8
    · have HI := Go.Lib.hid hI
      have c1 := cell_row hI.2.1 hlt
      have c2 := cell_row hI.2.2 hlt
      clear hI hk
      go_wp2
      go_quiet (fail)
      go_wp2
      go_roundw
      case rel => exact ⟨k + 1, by omega, by go_num, HI.out.drew _⟩
      case measure => simp [intOf]; omega
    · have HI := Go.Lib.hid hI
      obtain rfl : k = 8 := by omega
      clear hI hk
      go_wp2
      go_ret
      exact ⟨rfl, HI.out.1⟩
set_option maxHeartbeats 400000 in
theorem eqInt16A8A8_any (a : Nat → Int) (w : World) :
    Calls Tryd.prog 50 #[.agg (irow .i16 64 a), .agg (irow .i16 64 a)] w fun e w' => e = .returned (.bool true) ∧ Below w.heap.size w w' := by
  go_enter Tryd.func50, Tryd.ntmps50
  go_wp2
  go_loopw [5] (fun i wr => ∃ k : Nat, k ≤ 8 ∧ i = .int .i64 k ∧ Twin 64 (fun i => .int .i16 (a i)) 26 w wr) (fun i _ => 8 - (intOf i).toNat)
  case atStart => exact ⟨0, by omega, rfl, Twin.start _ _ _ _⟩
  case round =>
    obtain ⟨k, hk, rfl, hI⟩ := hrel
    by_cases hlt : k < 8
    · have HI := Go.Lib.hid hI.drew1
      clear hk hI
      go_wp2
      refine wp_region_still_tail 6 (by kernel_rfl) (by kernel_rfl) ?_
      simp only [List.take_succ_cons, List.take_zero, List.drop_succ_cons, List.drop_zero, World.drew_eq]
      repeat (first
        | (refine wpStill_loadmid rfl 25 (.tmp 11) rfl _ (k * 8) rfl 64 8 (fun i => .int .i16 (a i)) 26 _ Tryd.underlying25 rfl size_r8 HI.out.2.1 (by omega) ?_)
        | (refine wpStill_loadmid rfl 25 (.tmp 14) rfl _ (k * 8) rfl 64 8 (fun i => .int .i16 (a i)) 26 _ Tryd.underlying25 rfl size_r8 HI.out.2.2 (by omega) ?_)
        | still_step)
      refine wpStill_nil ?_
      go_wp2_with (go_at_call 85; refine (eqInt16A8_any _ _).mono ?_; rintro e w1 ⟨rfl, hb1⟩; have HI1 := Go.Lib.hid (HI.out.call hb1 (by simp)); clear hb1)
      go_roundw
      case rel => exact ⟨k + 1, by omega, by go_num, HI1.out⟩
      case measure => simp [intOf]; omega
    · have HI := Go.Lib.hid hI
      obtain rfl : k = 8 := by omega
      clear hI hk
      go_wp2
      go_ret
      exact ⟨rfl, HI.out.1⟩
set_option maxHeartbeats 400000 in
theorem eqInt16A3A8_any (a : Nat → Int) (w : World) :
    Calls Tryd.prog 86 #[.agg (irow .i16 24 a), .agg (irow .i16 24 a)] w fun e w' => e = .returned (.bool true) ∧ Below w.heap.size w w' := by
  go_enter Tryd.func86, Tryd.ntmps86
  go_wp2
  go_loopw [5] (fun i wr => ∃ k : Nat, k ≤ 8 ∧ i = .int .i64 k ∧ Twin 24 (fun i => .int .i16 (a i)) 28 w wr) (fun i _ => 8 - (intOf i).toNat)
  case atStart => exact ⟨0, by omega, rfl, Twin.start _ _ _ _⟩
  case round =>
    obtain ⟨k, hk, rfl, hI⟩ := hrel
    by_cases hlt : k < 8
    · have HI := Go.Lib.hid hI.drew1
      clear hk hI
      go_wp2
      refine wp_region_still_tail 6 (by kernel_rfl) (by kernel_rfl) ?_
      simp only [List.take_succ_cons, List.take_zero, List.drop_succ_cons, List.drop_zero, World.drew_eq]
      repeat (first
        | (refine wpStill_loadmid rfl 27 (.tmp 11) rfl _ (k * 3) rfl 24 3 (fun i => .int .i16 (a i)) 28 _ Tryd.underlying27 rfl size_d3 HI.out.2.1 (by omega) ?_)
        | (refine wpStill_loadmid rfl 27 (.tmp 14) rfl _ (k * 3) rfl 24 3 (fun i => .int .i16 (a i)) 28 _ Tryd.underlying27 rfl size_d3 HI.out.2.2 (by omega) ?_)
        | still_step)
      refine wpStill_nil ?_
      go_wp2_with (go_at_call 107; refine (eqInt16A3_any _ _).mono ?_; rintro e w1 ⟨rfl, hb1⟩; have HI1 := Go.Lib.hid (HI.out.call hb1 (by simp)); clear hb1)
      go_roundw
      case rel => exact ⟨k + 1, by omega, by go_num, HI1.out⟩
      case measure => simp [intOf]; omega
    · have HI := Go.Lib.hid hI
      obtain rfl : k = 8 := by omega
      clear hI hk
      go_wp2
      go_ret
      exact ⟨rfl, HI.out.1⟩
set_option maxHeartbeats 400000 in
theorem eqInt16A3A8A8_any (a : Nat → Int) (w : World) :
    Calls Tryd.prog 51 #[.agg (irow .i16 192 a), .agg (irow .i16 192 a)] w fun e w' => e = .returned (.bool true) ∧ Below w.heap.size w w' := by
  go_enter Tryd.func51, Tryd.ntmps51
  go_wp2
  go_loopw [5] (fun i wr => ∃ k : Nat, k ≤ 8 ∧ i = .int .i64 k ∧ Twin 192 (fun i => .int .i16 (a i)) 29 w wr) (fun i _ => 8 - (intOf i).toNat)
  case atStart => exact ⟨0, by omega, rfl, Twin.start _ _ _ _⟩
  case round =>
    obtain ⟨k, hk, rfl, hI⟩ := hrel
    by_cases hlt : k < 8
    · have HI := Go.Lib.hid hI.drew1
      clear hk hI
      go_wp2
      refine wp_region_still_tail 6 (by kernel_rfl) (by kernel_rfl) ?_
      simp only [List.take_succ_cons, List.take_zero, List.drop_succ_cons, List.drop_zero, World.drew_eq]
      repeat (first
        | (refine wpStill_loadmid rfl 28 (.tmp 11) rfl _ (k * 24) rfl 192 24 (fun i => .int .i16 (a i)) 29 _ Tryd.underlying28 rfl size_d24 HI.out.2.1 (by omega) ?_)
        | (refine wpStill_loadmid rfl 28 (.tmp 14) rfl _ (k * 24) rfl 192 24 (fun i => .int .i16 (a i)) 29 _ Tryd.underlying28 rfl size_d24 HI.out.2.2 (by omega) ?_)
        | still_step)
      refine wpStill_nil ?_
      go_wp2_with (go_at_call 86; refine (eqInt16A3A8_any _ _).mono ?_; rintro e w1 ⟨rfl, hb1⟩; have HI1 := Go.Lib.hid (HI.out.call hb1 (by simp)); clear hb1)
      go_roundw
      case rel => exact ⟨k + 1, by omega, by go_num, HI1.out⟩
      case measure => simp [intOf]; omega
    · have HI := Go.Lib.hid hI
      obtain rfl : k = 8 := by omega
      clear hI hk
      go_wp2
      go_ret
      exact ⟨rfl, HI.out.1⟩
end Go.Proofs.YtfhfiaphdgfmnaaDoor
