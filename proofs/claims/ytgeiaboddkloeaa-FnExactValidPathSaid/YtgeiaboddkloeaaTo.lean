import Derived.Test.YtgeiaboddkloeaaXLib
namespace Go.Proofs.Ytgeiaboddkloeaa
open Go.RowKit
set_option maxRecDepth 100000
theorem size_d3 : (Try.prog.info? 23).map (·.size) = some 3 := by kernel_rfl
theorem size_r8 : (Try.prog.info? 44).map (·.size) = some 8 := by kernel_rfl
theorem size_r64 : (Try.prog.info? 45).map (·.size) = some 64 := by kernel_rfl
theorem size_d24 : (Try.prog.info? 46).map (·.size) = some 24 := by kernel_rfl
theorem size_d192 : (Try.prog.info? 47).map (·.size) = some 192 := by kernel_rfl
theorem size_x8 : (Try.prog.info? 48).map (·.size) = some 8 := by kernel_rfl
theorem size_i16 : (Try.prog.info? 22).map (·.size) = some 1 := by kernel_rfl
theorem size_u8 : (Try.prog.info? 5).map (·.size) = some 1 := by kernel_rfl
theorem size_i8 : (Try.prog.info? 24).map (·.size) = some 1 := by kernel_rfl
set_option maxHeartbeats 400000 in
theorem toInt16A3_any (a : Nat → Int) (w : World) :
    Calls Try.prog 27 #[.agg (irow .i16 3 a)] w fun e w' => e = .returned (.agg (irow .i16 3 a)) ∧ Below w.heap.size w w' := by
  have zz : ∀ w, (zeroValue 23).run Try.prog w = .ok (.agg (irow .i16 3 fun _ => 0)) w := fun _ => by kernel_rfl
  go_enter Try.func27, Try.ntmps27
  go_wp2
  go_loopw [4] (fun i wr => ∃ k : Nat, k ≤ 3 ∧ i = .int .i64 k ∧ Copying .i16 3 23 a (k) w wr) (fun i _ => 3 - (intOf i).toNat)
  case atStart => exact ⟨0, by omega, rfl, Copying.start _ _ _ _ _⟩
  case round =>
    clear zz
    obtain ⟨k, hk, rfl, hI⟩ := hrel
    by_cases hlt : k < 3
    · have hS := hI.2.1; have HI := Go.Lib.hid hI
      clear hI hk
      go_wp2_with (first
        | (refine wpList_load1 rfl 22 (.tmp 11) rfl _ k rfl 3 (fun i => .int .i16 (a i)) 23 _ Try.underlying22 rfl HI.out.2.2.1 (by omega) ?_)
        | (refine wpList_store1 rfl 22 (.tmp 13) (.tmp 12) rfl _ k rfl 3 (fun i => .int .i16 (upto a k i)) (.int .i16 (a k)) rfl 23 size_i16 HI.out.2.2.2.2 (by omega) rfl ?_))
      go_roundw
      case rel =>
        refine ⟨k + 1, by omega, by go_num, ?_⟩
        exact HI.out.step1
      case measure => simp [intOf]; omega
    · obtain rfl : k = 3 := by omega
      obtain ⟨hB, hS, h0, h1, h2⟩ := hI
      rw [upto_full] at h2
      have HB := Go.Lib.hid hB; have H1 := Go.Lib.hid h1; have H2 := Go.Lib.hid h2
      clear hB h0 h1 h2 hk
      go_wp2_with (first
        | (refine wpList_loadall rfl 23 (.tmp 3) rfl _ rfl 3 (fun i => .int .i16 (a i)) 23 _ Try.underlying23 rfl size_d3 H2.out ?_)
        | (refine wpList_storeall rfl 23 (.tmp 2) (.tmp 14) rfl _ rfl 3 (fun _ => .int .i16 0) (fun i => .int .i16 (a i)) rfl 23 size_d3 H1.out (fun _ _ => rfl) ?_))
      exact ret_row Try.results27 _ 3 (fun i => .int .i16 (a i)) 23 _ Try.underlying23 rfl size_d3 rfl rfl (row_set H1.out _) ⟨rfl, Below_setRow HB.out (by omega) _⟩
set_option maxHeartbeats 400000 in
theorem toInt16A8_any (a : Nat → Int) (w : World) :
    Calls Try.prog 50 #[.agg (irow .i16 8 a)] w fun e w' => e = .returned (.agg (irow .i16 8 a)) ∧ Below w.heap.size w w' := by
  have zz : ∀ w, (zeroValue 44).run Try.prog w = .ok (.agg (irow .i16 8 fun _ => 0)) w := fun _ => by kernel_rfl
  go_enter Try.func50, Try.ntmps50
  go_wp2
  go_loopw [4] (fun i wr => ∃ k : Nat, k ≤ 8 ∧ i = .int .i64 k ∧ Copying .i16 8 44 a (k) w wr) (fun i _ => 8 - (intOf i).toNat)
  case atStart => exact ⟨0, by omega, rfl, Copying.start _ _ _ _ _⟩
  case round =>
    clear zz
    obtain ⟨k, hk, rfl, hI⟩ := hrel
    by_cases hlt : k < 8
    · have hS := hI.2.1; have HI := Go.Lib.hid hI
      clear hI hk
      go_wp2_with (first
        | (refine wpList_load1 rfl 22 (.tmp 11) rfl _ k rfl 8 (fun i => .int .i16 (a i)) 44 _ Try.underlying22 rfl HI.out.2.2.1 (by omega) ?_)
        | (refine wpList_store1 rfl 22 (.tmp 13) (.tmp 12) rfl _ k rfl 8 (fun i => .int .i16 (upto a k i)) (.int .i16 (a k)) rfl 44 size_i16 HI.out.2.2.2.2 (by omega) rfl ?_))
      go_roundw
      case rel =>
        refine ⟨k + 1, by omega, by go_num, ?_⟩
        exact HI.out.step1
      case measure => simp [intOf]; omega
    · obtain rfl : k = 8 := by omega
      obtain ⟨hB, hS, h0, h1, h2⟩ := hI
      rw [upto_full] at h2
      have HB := Go.Lib.hid hB; have H1 := Go.Lib.hid h1; have H2 := Go.Lib.hid h2
      clear hB h0 h1 h2 hk
      go_wp2_with (first
        | (refine wpList_loadall rfl 44 (.tmp 3) rfl _ rfl 8 (fun i => .int .i16 (a i)) 44 _ Try.underlying44 rfl size_r8 H2.out ?_)
        | (refine wpList_storeall rfl 44 (.tmp 2) (.tmp 14) rfl _ rfl 8 (fun _ => .int .i16 0) (fun i => .int .i16 (a i)) rfl 44 size_r8 H1.out (fun _ _ => rfl) ?_))
      exact ret_row Try.results50 _ 8 (fun i => .int .i16 (a i)) 44 _ Try.underlying44 rfl size_r8 rfl rfl (row_set H1.out _) ⟨rfl, Below_setRow HB.out (by omega) _⟩
set_option maxHeartbeats 400000 in
theorem toByteA8_any (a : Nat → Int) (w : World) :
    Calls Try.prog 39 #[.agg (irow .u8 8 a)] w fun e w' => e = .returned (.agg (irow .u8 8 a)) ∧ Below w.heap.size w w' := by
  have zz : ∀ w, (zeroValue 48).run Try.prog w = .ok (.agg (irow .u8 8 fun _ => 0)) w := fun _ => by kernel_rfl
  go_enter Try.func39, Try.ntmps39
  go_wp2
  go_loopw [4] (fun i wr => ∃ k : Nat, k ≤ 8 ∧ i = .int .i64 k ∧ Copying .u8 8 48 a (k) w wr) (fun i _ => 8 - (intOf i).toNat)
  case atStart => exact ⟨0, by omega, rfl, Copying.start _ _ _ _ _⟩
  case round =>
    clear zz
    obtain ⟨k, hk, rfl, hI⟩ := hrel
    by_cases hlt : k < 8
    · have hS := hI.2.1; have HI := Go.Lib.hid hI
      clear hI hk
      go_wp2_with (first
        | (refine wpList_load1 rfl 5 (.tmp 11) rfl _ k rfl 8 (fun i => .int .u8 (a i)) 48 _ Try.underlying5 rfl HI.out.2.2.1 (by omega) ?_)
        | (refine wpList_store1 rfl 5 (.tmp 13) (.tmp 12) rfl _ k rfl 8 (fun i => .int .u8 (upto a k i)) (.int .u8 (a k)) rfl 48 size_u8 HI.out.2.2.2.2 (by omega) rfl ?_))
      go_roundw
      case rel =>
        refine ⟨k + 1, by omega, by go_num, ?_⟩
        exact HI.out.step1
      case measure => simp [intOf]; omega
    · obtain rfl : k = 8 := by omega
      obtain ⟨hB, hS, h0, h1, h2⟩ := hI
      rw [upto_full] at h2
      have HB := Go.Lib.hid hB; have H1 := Go.Lib.hid h1; have H2 := Go.Lib.hid h2
      clear hB h0 h1 h2 hk
      go_wp2_with (first
        | (refine wpList_loadall rfl 48 (.tmp 3) rfl _ rfl 8 (fun i => .int .u8 (a i)) 48 _ Try.underlying48 rfl size_x8 H2.out ?_)
        | (refine wpList_storeall rfl 48 (.tmp 2) (.tmp 14) rfl _ rfl 8 (fun _ => .int .u8 0) (fun i => .int .u8 (a i)) rfl 48 size_x8 H1.out (fun _ _ => rfl) ?_))
      exact ret_row Try.results39 _ 8 (fun i => .int .u8 (a i)) 48 _ Try.underlying48 rfl size_x8 rfl rfl (row_set H1.out _) ⟨rfl, Below_setRow HB.out (by omega) _⟩
set_option maxHeartbeats 400000 in
theorem toInt16A8A8_any (a : Nat → Int) (w : World) :
    Calls Try.prog 37 #[.agg (irow .i16 64 a)] w fun e w' => e = .returned (.agg (irow .i16 64 a)) ∧ Below w.heap.size w w' := by
  have zz : ∀ w, (zeroValue 45).run Try.prog w = .ok (.agg (irow .i16 64 fun _ => 0)) w := fun _ => by kernel_rfl
  go_enter Try.func37, Try.ntmps37
  go_wp2
  go_loopw [4] (fun i wr => ∃ k : Nat, k ≤ 8 ∧ i = .int .i64 k ∧ Copying .i16 64 45 a (k * 8) w wr) (fun i _ => 8 - (intOf i).toNat)
  case atStart => exact ⟨0, by omega, rfl, Copying.start _ _ _ _ _⟩
  case round =>
    clear zz
    obtain ⟨k, hk, rfl, hI⟩ := hrel
    by_cases hlt : k < 8
    · have hS := hI.2.1; have HI := Go.Lib.hid hI
      clear hI hk
      go_wp2_with (first
        | (refine wpList_loadmid rfl 44 (.tmp 11) rfl _ (k * 8) rfl 64 8 (fun i => .int .i16 (a i)) 45 _ Try.underlying44 rfl size_r8 HI.out.2.2.1 (by omega) ?_)
        | (go_at_call 50; refine (toInt16A8_any _ _).mono ?_; rintro e w1 ⟨rfl, hb1⟩; have HB1 := Go.Lib.hid hb1; clear hb1)
        | (refine wpList_storemid rfl 44 (.tmp 14) (.tmp 13) rfl _ (k * 8) rfl 64 8 (fun i => .int .i16 (upto a (k * 8) i)) (fun i => .int .i16 (a (k * 8 + i))) rfl 45 size_r8 (row_below HB1.out (by omega) HI.out.2.2.2.2) (by omega) (fun _ _ => rfl) ?_))
      go_roundw
      case rel =>
        refine ⟨k + 1, by omega, by go_num, ?_⟩
        rw [show (k + 1) * 8 = k * 8 + 8 by omega]
        exact HI.out.step HB1.out
      case measure => simp [intOf]; omega
    · obtain rfl : k = 8 := by omega
      obtain ⟨hB, hS, h0, h1, h2⟩ := hI
      rw [show 8 * 8 = 64 from rfl, upto_full] at h2
      have HB := Go.Lib.hid hB; have H1 := Go.Lib.hid h1; have H2 := Go.Lib.hid h2
      clear hB h0 h1 h2 hk
      go_wp2_with (first
        | (refine wpList_loadall rfl 45 (.tmp 3) rfl _ rfl 64 (fun i => .int .i16 (a i)) 45 _ Try.underlying45 rfl size_r64 H2.out ?_)
        | (refine wpList_storeall rfl 45 (.tmp 2) (.tmp 15) rfl _ rfl 64 (fun _ => .int .i16 0) (fun i => .int .i16 (a i)) rfl 45 size_r64 H1.out (fun _ _ => rfl) ?_))
      exact ret_row Try.results37 _ 64 (fun i => .int .i16 (a i)) 45 _ Try.underlying45 rfl size_r64 rfl rfl (row_set H1.out _) ⟨rfl, Below_setRow HB.out (by omega) _⟩
set_option maxHeartbeats 400000 in
theorem toInt16A3A8_any (a : Nat → Int) (w : World) :
    Calls Try.prog 51 #[.agg (irow .i16 24 a)] w fun e w' => e = .returned (.agg (irow .i16 24 a)) ∧ Below w.heap.size w w' := by
  have zz : ∀ w, (zeroValue 46).run Try.prog w = .ok (.agg (irow .i16 24 fun _ => 0)) w := fun _ => by kernel_rfl
  go_enter Try.func51, Try.ntmps51
  go_wp2
  go_loopw [4] (fun i wr => ∃ k : Nat, k ≤ 8 ∧ i = .int .i64 k ∧ Copying .i16 24 46 a (k * 3) w wr) (fun i _ => 8 - (intOf i).toNat)
  case atStart => exact ⟨0, by omega, rfl, Copying.start _ _ _ _ _⟩
  case round =>
    clear zz
    obtain ⟨k, hk, rfl, hI⟩ := hrel
    by_cases hlt : k < 8
    · have hS := hI.2.1; have HI := Go.Lib.hid hI
      clear hI hk
      go_wp2_with (first
        | (refine wpList_loadmid rfl 23 (.tmp 11) rfl _ (k * 3) rfl 24 3 (fun i => .int .i16 (a i)) 46 _ Try.underlying23 rfl size_d3 HI.out.2.2.1 (by omega) ?_)
        | (go_at_call 27; refine (toInt16A3_any _ _).mono ?_; rintro e w1 ⟨rfl, hb1⟩; have HB1 := Go.Lib.hid hb1; clear hb1)
        | (refine wpList_storemid rfl 23 (.tmp 14) (.tmp 13) rfl _ (k * 3) rfl 24 3 (fun i => .int .i16 (upto a (k * 3) i)) (fun i => .int .i16 (a (k * 3 + i))) rfl 46 size_d3 (row_below HB1.out (by omega) HI.out.2.2.2.2) (by omega) (fun _ _ => rfl) ?_))
      go_roundw
      case rel =>
        refine ⟨k + 1, by omega, by go_num, ?_⟩
        rw [show (k + 1) * 3 = k * 3 + 3 by omega]
        exact HI.out.step HB1.out
      case measure => simp [intOf]; omega
    · obtain rfl : k = 8 := by omega
      obtain ⟨hB, hS, h0, h1, h2⟩ := hI
      rw [show 8 * 3 = 24 from rfl, upto_full] at h2
      have HB := Go.Lib.hid hB; have H1 := Go.Lib.hid h1; have H2 := Go.Lib.hid h2
      clear hB h0 h1 h2 hk
      go_wp2_with (first
        | (refine wpList_loadall rfl 46 (.tmp 3) rfl _ rfl 24 (fun i => .int .i16 (a i)) 46 _ Try.underlying46 rfl size_d24 H2.out ?_)
        | (refine wpList_storeall rfl 46 (.tmp 2) (.tmp 15) rfl _ rfl 24 (fun _ => .int .i16 0) (fun i => .int .i16 (a i)) rfl 46 size_d24 H1.out (fun _ _ => rfl) ?_))
      exact ret_row Try.results51 _ 24 (fun i => .int .i16 (a i)) 46 _ Try.underlying46 rfl size_d24 rfl rfl (row_set H1.out _) ⟨rfl, Below_setRow HB.out (by omega) _⟩
set_option maxHeartbeats 400000 in
theorem toInt16A3A8A8_any (a : Nat → Int) (w : World) :
    Calls Try.prog 38 #[.agg (irow .i16 192 a)] w fun e w' => e = .returned (.agg (irow .i16 192 a)) ∧ Below w.heap.size w w' := by
  have zz : ∀ w, (zeroValue 47).run Try.prog w = .ok (.agg (irow .i16 192 fun _ => 0)) w := fun _ => by kernel_rfl
  go_enter Try.func38, Try.ntmps38
  go_wp2
  go_loopw [4] (fun i wr => ∃ k : Nat, k ≤ 8 ∧ i = .int .i64 k ∧ Copying .i16 192 47 a (k * 24) w wr) (fun i _ => 8 - (intOf i).toNat)
  case atStart => exact ⟨0, by omega, rfl, Copying.start _ _ _ _ _⟩
  case round =>
    clear zz
    obtain ⟨k, hk, rfl, hI⟩ := hrel
    by_cases hlt : k < 8
    · have hS := hI.2.1; have HI := Go.Lib.hid hI
      clear hI hk
      go_wp2_with (first
        | (refine wpList_loadmid rfl 46 (.tmp 11) rfl _ (k * 24) rfl 192 24 (fun i => .int .i16 (a i)) 47 _ Try.underlying46 rfl size_d24 HI.out.2.2.1 (by omega) ?_)
        | (go_at_call 51; refine (toInt16A3A8_any _ _).mono ?_; rintro e w1 ⟨rfl, hb1⟩; have HB1 := Go.Lib.hid hb1; clear hb1)
        | (refine wpList_storemid rfl 46 (.tmp 14) (.tmp 13) rfl _ (k * 24) rfl 192 24 (fun i => .int .i16 (upto a (k * 24) i)) (fun i => .int .i16 (a (k * 24 + i))) rfl 47 size_d24 (row_below HB1.out (by omega) HI.out.2.2.2.2) (by omega) (fun _ _ => rfl) ?_))
      go_roundw
      case rel =>
        refine ⟨k + 1, by omega, by go_num, ?_⟩
        rw [show (k + 1) * 24 = k * 24 + 24 by omega]
        exact HI.out.step HB1.out
      case measure => simp [intOf]; omega
    · obtain rfl : k = 8 := by omega
      obtain ⟨hB, hS, h0, h1, h2⟩ := hI
      rw [show 8 * 24 = 192 from rfl, upto_full] at h2
      have HB := Go.Lib.hid hB; have H1 := Go.Lib.hid h1; have H2 := Go.Lib.hid h2
      clear hB h0 h1 h2 hk
      go_wp2_with (first
        | (refine wpList_loadall rfl 47 (.tmp 3) rfl _ rfl 192 (fun i => .int .i16 (a i)) 47 _ Try.underlying47 rfl size_d192 H2.out ?_)
        | (refine wpList_storeall rfl 47 (.tmp 2) (.tmp 15) rfl _ rfl 192 (fun _ => .int .i16 0) (fun i => .int .i16 (a i)) rfl 47 size_d192 H1.out (fun _ _ => rfl) ?_))
      exact ret_row Try.results38 _ 192 (fun i => .int .i16 (a i)) 47 _ Try.underlying47 rfl size_d192 rfl rfl (row_set H1.out _) ⟨rfl, Below_setRow HB.out (by omega) _⟩
end Go.Proofs.Ytgeiaboddkloeaa
