import Derived.Test.YtfhfiaphdgfmnaaSheet
namespace Go.Proofs.Ytfhfiaphdgfmnaa
open Go.RowKit
set_option maxRecDepth 100000
set_option maxHeartbeats 400000 in
theorem eqInt16A3_any (a : Nat → Int) (w : World) :
    Calls Try.prog 45 #[.agg (irow .i16 3 a), .agg (irow .i16 3 a)] w fun e w' => e = .returned (.bool true) ∧ Below w.heap.size w w' := by
  go_enter Try.func45, Try.ntmps45
  go_wp2
  go_loopw [5] (fun i wr => ∃ k : Nat, k ≤ 3 ∧ i = .int .i64 k ∧ Twin 3 (fun i => .int .i16 (a i)) 35 w wr) (fun i _ => 3 - (intOf i).toNat)
  case atStart => exact ⟨0, by omega, rfl, Twin.start _ _ _ _⟩
  case round =>
    obtain ⟨k, hk, rfl, hI⟩ := hrel
    by_cases hlt : k < 3
    · have HI := Go.Lib.hid hI
      have c1 := cell_row hI.2.1 hlt
      have c2 := cell_row hI.2.2 hlt
      clear hI hk
      go_wp2
      go_quiet (fail)
      go_wp2
      go_roundw
      case rel => exact ⟨k + 1, by omega, by go_num, HI.out.drew _⟩
      case measure => simp [intOf]; omega
    · have HI := Go.Lib.hid hI
      obtain rfl : k = 3 := by omega
      clear hI hk
      go_wp2
      go_ret
      exact ⟨rfl, HI.out.1⟩
set_option maxHeartbeats 400000 in
theorem eqInt16A8_any (a : Nat → Int) (w : World) :
    Calls Try.prog 38 #[.agg (irow .i16 8 a), .agg (irow .i16 8 a)] w fun e w' => e = .returned (.bool true) ∧ Below w.heap.size w w' := by
  go_enter Try.func38, Try.ntmps38
  go_wp2
  go_loopw [5] (fun i wr => ∃ k : Nat, k ≤ 8 ∧ i = .int .i64 k ∧ Twin 8 (fun i => .int .i16 (a i)) 33 w wr) (fun i _ => 8 - (intOf i).toNat)
  case atStart => exact ⟨0, by omega, rfl, Twin.start _ _ _ _⟩
  case round =>
    obtain ⟨k, hk, rfl, hI⟩ := hrel
    by_cases hlt : k < 8
    · have HI := Go.Lib.hid hI
      have c1 := cell_row hI.2.1 hlt
      have c2 := cell_row hI.2.2 hlt
      clear hI hk
      go_wp2
      go_quiet (fail)
      go_wp2
      go_roundw
      case rel => exact ⟨k + 1, by omega, by go_num, HI.out.drew _⟩
      case measure => simp [intOf]; omega
    · have HI := Go.Lib.hid hI
      obtain rfl : k = 8 := by omega
      clear hI hk
      go_wp2
      go_ret
      exact ⟨rfl, HI.out.1⟩
set_option maxHeartbeats 400000 in
theorem eqByteA8_any (a : Nat → Int) (w : World) :
    Calls Try.prog 26 #[.agg (irow .u8 8 a), .agg (irow .u8 8 a)] w fun e w' => e = .returned (.bool true) ∧ Below w.heap.size w w' := by
  go_enter Try.func26, Try.ntmps26
  go_wp2
  go_loopw [5] (fun i wr => ∃ k : Nat, k ≤ 8 ∧ i = .int .i64 k ∧ Twin 8 (fun i => .int .u8 (a i)) 38 w wr) (fun i _ => 8 - (intOf i).toNat)
  case atStart => exact ⟨0, by omega, rfl, Twin.start _ _ _ _⟩
  case round =>
    obtain ⟨k, hk, rfl, hI⟩ := hrel
    by_cases hlt : k < 8
    · have HI := Go.Lib.hid hI
      have c1 := cell_row hI.2.1 hlt
      have c2 := cell_row hI.2.2 hlt
      clear hI hk
      go_wp2
      go_quiet (fail)
      go_wp2
      go_roundw
      case rel => exact ⟨k + 1, by omega, by go_num, HI.out.drew _⟩
      case measure => simp [intOf]; omega
    · have HI := Go.Lib.hid hI
      obtain rfl : k = 8 := by omega
      clear hI hk
      go_wp2
      go_ret
      exact ⟨rfl, HI.out.1⟩
set_option maxHeartbeats 400000 in
theorem eqInt16A8A8_any (a : Nat → Int) (w : World) :
    Calls Try.prog 24 #[.agg (irow .i16 64 a), .agg (irow .i16 64 a)] w fun e w' => e = .returned (.bool true) ∧ Below w.heap.size w w' := by
  go_enter Try.func24, Try.ntmps24
  go_wp2
  go_loopw [5] (fun i wr => ∃ k : Nat, k ≤ 8 ∧ i = .int .i64 k ∧ Twin 64 (fun i => .int .i16 (a i)) 34 w wr) (fun i _ => 8 - (intOf i).toNat)
  case atStart => exact ⟨0, by omega, rfl, Twin.start _ _ _ _⟩
  case round =>
    obtain ⟨k, hk, rfl, hI⟩ := hrel
    by_cases hlt : k < 8
    · have HI := Go.Lib.hid hI.drew1
      clear hk hI
      go_wp2
      refine wp_region_still_tail 6 (by kernel_rfl) (by kernel_rfl) ?_
      simp only [List.take_succ_cons, List.take_zero, List.drop_succ_cons, List.drop_zero, World.drew_eq]
      repeat (first
        | (refine wpStill_loadmid rfl 33 (.tmp 11) rfl _ (k * 8) rfl 64 8 (fun i => .int .i16 (a i)) 34 _ Try.underlying33 rfl size_r8 HI.out.2.1 (by omega) ?_)
        | (refine wpStill_loadmid rfl 33 (.tmp 14) rfl _ (k * 8) rfl 64 8 (fun i => .int .i16 (a i)) 34 _ Try.underlying33 rfl size_r8 HI.out.2.2 (by omega) ?_)
        | still_step)
      refine wpStill_nil ?_
      go_wp2_with (go_at_call 38; refine (eqInt16A8_any _ _).mono ?_; rintro e w1 ⟨rfl, hb1⟩; have HI1 := Go.Lib.hid (HI.out.call hb1 (by simp)); clear hb1)
      go_roundw
      case rel => exact ⟨k + 1, by omega, by go_num, HI1.out⟩
      case measure => simp [intOf]; omega
    · have HI := Go.Lib.hid hI
      obtain rfl : k = 8 := by omega
      clear hI hk
      go_wp2
      go_ret
      exact ⟨rfl, HI.out.1⟩
set_option maxHeartbeats 400000 in
theorem eqInt16A3A8_any (a : Nat → Int) (w : World) :
    Calls Try.prog 39 #[.agg (irow .i16 24 a), .agg (irow .i16 24 a)] w fun e w' => e = .returned (.bool true) ∧ Below w.heap.size w w' := by
  go_enter Try.func39, Try.ntmps39
  go_wp2
  go_loopw [5] (fun i wr => ∃ k : Nat, k ≤ 8 ∧ i = .int .i64 k ∧ Twin 24 (fun i => .int .i16 (a i)) 36 w wr) (fun i _ => 8 - (intOf i).toNat)
  case atStart => exact ⟨0, by omega, rfl, Twin.start _ _ _ _⟩
  case round =>
    obtain ⟨k, hk, rfl, hI⟩ := hrel
    by_cases hlt : k < 8
    · have HI := Go.Lib.hid hI.drew1
      clear hk hI
      go_wp2
      refine wp_region_still_tail 6 (by kernel_rfl) (by kernel_rfl) ?_
      simp only [List.take_succ_cons, List.take_zero, List.drop_succ_cons, List.drop_zero, World.drew_eq]
      repeat (first
        | (refine wpStill_loadmid rfl 35 (.tmp 11) rfl _ (k * 3) rfl 24 3 (fun i => .int .i16 (a i)) 36 _ Try.underlying35 rfl size_d3 HI.out.2.1 (by omega) ?_)
        | (refine wpStill_loadmid rfl 35 (.tmp 14) rfl _ (k * 3) rfl 24 3 (fun i => .int .i16 (a i)) 36 _ Try.underlying35 rfl size_d3 HI.out.2.2 (by omega) ?_)
        | still_step)
      refine wpStill_nil ?_
      go_wp2_with (go_at_call 45; refine (eqInt16A3_any _ _).mono ?_; rintro e w1 ⟨rfl, hb1⟩; have HI1 := Go.Lib.hid (HI.out.call hb1 (by simp)); clear hb1)
      go_roundw
      case rel => exact ⟨k + 1, by omega, by go_num, HI1.out⟩
      case measure => simp [intOf]; omega
    · have HI := Go.Lib.hid hI
      obtain rfl : k = 8 := by omega
      clear hI hk
      go_wp2
      go_ret
      exact ⟨rfl, HI.out.1⟩
set_option maxHeartbeats 400000 in
theorem eqInt16A3A8A8_any (a : Nat → Int) (w : World) :
    Calls Try.prog 25 #[.agg (irow .i16 192 a), .agg (irow .i16 192 a)] w fun e w' => e = .returned (.bool true) ∧ Below w.heap.size w w' := by
  go_enter Try.func25, Try.ntmps25
  go_wp2
  go_loopw [5] (fun i wr => ∃ k : Nat, k ≤ 8 ∧ i = .int .i64 k ∧ Twin 192 (fun i => .int .i16 (a i)) 37 w wr) (fun i _ => 8 - (intOf i).toNat)
  case atStart => exact ⟨0, by omega, rfl, Twin.start _ _ _ _⟩
  case round =>
    obtain ⟨k, hk, rfl, hI⟩ := hrel
    by_cases hlt : k < 8
    · have HI := Go.Lib.hid hI.drew1
      clear hk hI
      go_wp2
      refine wp_region_still_tail 6 (by kernel_rfl) (by kernel_rfl) ?_
      simp only [List.take_succ_cons, List.take_zero, List.drop_succ_cons, List.drop_zero, World.drew_eq]
      repeat (first
        | (refine wpStill_loadmid rfl 36 (.tmp 11) rfl _ (k * 24) rfl 192 24 (fun i => .int .i16 (a i)) 37 _ Try.underlying36 rfl size_d24 HI.out.2.1 (by omega) ?_)
        | (refine wpStill_loadmid rfl 36 (.tmp 14) rfl _ (k * 24) rfl 192 24 (fun i => .int .i16 (a i)) 37 _ Try.underlying36 rfl size_d24 HI.out.2.2 (by omega) ?_)
        | still_step)
      refine wpStill_nil ?_
      go_wp2_with (go_at_call 39; refine (eqInt16A3A8_any _ _).mono ?_; rintro e w1 ⟨rfl, hb1⟩; have HI1 := Go.Lib.hid (HI.out.call hb1 (by simp)); clear hb1)
      go_roundw
      case rel => exact ⟨k + 1, by omega, by go_num, HI1.out⟩
      case measure => simp [intOf]; omega
    · have HI := Go.Lib.hid hI
      obtain rfl : k = 8 := by omega
      clear hI hk
      go_wp2
      go_ret
      exact ⟨rfl, HI.out.1⟩
end Go.Proofs.Ytfhfiaphdgfmnaa
