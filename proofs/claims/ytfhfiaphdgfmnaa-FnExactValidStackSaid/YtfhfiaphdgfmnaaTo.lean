import Derived.Test.YtfhfiaphdgfmnaaXLib
namespace Go.Proofs.Ytfhfiaphdgfmnaa
open Go.RowKit
set_option maxRecDepth 100000
theorem size_d3 : (Try.prog.info? 35).map (·.size) = some 3 := by kernel_rfl
theorem size_r8 : (Try.prog.info? 33).map (·.size) = some 8 := by kernel_rfl
theorem size_r64 : (Try.prog.info? 34).map (·.size) = some 64 := by kernel_rfl
theorem size_d24 : (Try.prog.info? 36).map (·.size) = some 24 := by kernel_rfl
theorem size_d192 : (Try.prog.info? 37).map (·.size) = some 192 := by kernel_rfl
theorem size_x8 : (Try.prog.info? 38).map (·.size) = some 8 := by kernel_rfl
theorem size_i16 : (Try.prog.info? 32).map (·.size) = some 1 := by kernel_rfl
theorem size_u8 : (Try.prog.info? 5).map (·.size) = some 1 := by kernel_rfl
theorem size_i8 : (Try.prog.info? 31).map (·.size) = some 1 := by kernel_rfl
set_option maxHeartbeats 400000 in
theorem toInt16A3_any (a : Nat → Int) (w : World) :
    Calls Try.prog 40 #[.agg (irow .i16 3 a)] w fun e w' => e = .returned (.agg (irow .i16 3 a)) ∧ Below w.heap.size w w' := by
  have zz : ∀ w, (zeroValue 35).run Try.prog w = .ok (.agg (irow .i16 3 fun _ => 0)) w := fun _ => by kernel_rfl
  go_enter Try.func40, Try.ntmps40
  go_wp2
  go_loopw [4] (fun i wr => ∃ k : Nat, k ≤ 3 ∧ i = .int .i64 k ∧ Copying .i16 3 35 a (k) w wr) (fun i _ => 3 - (intOf i).toNat)
  case atStart => exact ⟨0, by omega, rfl, Copying.start _ _ _ _ _⟩
  case round =>
    clear zz
    obtain ⟨k, hk, rfl, hI⟩ := hrel
    by_cases hlt : k < 3
    · have hS := hI.2.1; have HI := Go.Lib.hid hI
      clear hI hk
      go_wp2_with (first
        | (refine wpList_load1 rfl 32 (.tmp 11) rfl _ k rfl 3 (fun i => .int .i16 (a i)) 35 _ Try.underlying32 rfl HI.out.2.2.1 (by omega) ?_)
        | (refine wpList_store1 rfl 32 (.tmp 13) (.tmp 12) rfl _ k rfl 3 (fun i => .int .i16 (upto a k i)) (.int .i16 (a k)) rfl 35 size_i16 HI.out.2.2.2.2 (by omega) rfl ?_))
      go_roundw
      case rel =>
        refine ⟨k + 1, by omega, by go_num, ?_⟩
        exact HI.out.step1
      case measure => simp [intOf]; omega
    · obtain rfl : k = 3 := by omega
      obtain ⟨hB, hS, h0, h1, h2⟩ := hI
      rw [upto_full] at h2
      have HB := Go.Lib.hid hB; have H1 := Go.Lib.hid h1; have H2 := Go.Lib.hid h2
      clear hB h0 h1 h2 hk
      go_wp2_with (first
        | (refine wpList_loadall rfl 35 (.tmp 3) rfl _ rfl 3 (fun i => .int .i16 (a i)) 35 _ Try.underlying35 rfl size_d3 H2.out ?_)
        | (refine wpList_storeall rfl 35 (.tmp 2) (.tmp 14) rfl _ rfl 3 (fun _ => .int .i16 0) (fun i => .int .i16 (a i)) rfl 35 size_d3 H1.out (fun _ _ => rfl) ?_))
      exact ret_row Try.results40 _ 3 (fun i => .int .i16 (a i)) 35 _ Try.underlying35 rfl size_d3 rfl rfl (row_set H1.out _) ⟨rfl, Below_setRow HB.out (by omega) _⟩
set_option maxHeartbeats 400000 in
theorem toInt16A8_any (a : Nat → Int) (w : World) :
    Calls Try.prog 31 #[.agg (irow .i16 8 a)] w fun e w' => e = .returned (.agg (irow .i16 8 a)) ∧ Below w.heap.size w w' := by
  have zz : ∀ w, (zeroValue 33).run Try.prog w = .ok (.agg (irow .i16 8 fun _ => 0)) w := fun _ => by kernel_rfl
  go_enter Try.func31, Try.ntmps31
  go_wp2
  go_loopw [4] (fun i wr => ∃ k : Nat, k ≤ 8 ∧ i = .int .i64 k ∧ Copying .i16 8 33 a (k) w wr) (fun i _ => 8 - (intOf i).toNat)
  case atStart => exact ⟨0, by omega, rfl, Copying.start _ _ _ _ _⟩
  case round =>
    clear zz
    obtain ⟨k, hk, rfl, hI⟩ := hrel
    by_cases hlt : k < 8
    · have hS := hI.2.1; have HI := Go.Lib.hid hI
      clear hI hk
      go_wp2_with (first
        | (refine wpList_load1 rfl 32 (.tmp 11) rfl _ k rfl 8 (fun i => .int .i16 (a i)) 33 _ Try.underlying32 rfl HI.out.2.2.1 (by omega) ?_)
        | (refine wpList_store1 rfl 32 (.tmp 13) (.tmp 12) rfl _ k rfl 8 (fun i => .int .i16 (upto a k i)) (.int .i16 (a k)) rfl 33 size_i16 HI.out.2.2.2.2 (by omega) rfl ?_))
      go_roundw
      case rel =>
        refine ⟨k + 1, by omega, by go_num, ?_⟩
        exact HI.out.step1
      case measure => simp [intOf]; omega
    · obtain rfl : k = 8 := by omega
      obtain ⟨hB, hS, h0, h1, h2⟩ := hI
      rw [upto_full] at h2
      have HB := Go.Lib.hid hB; have H1 := Go.Lib.hid h1; have H2 := Go.Lib.hid h2
      clear hB h0 h1 h2 hk
      go_wp2_with (first
        | (refine wpList_loadall rfl 33 (.tmp 3) rfl _ rfl 8 (fun i => .int .i16 (a i)) 33 _ Try.underlying33 rfl size_r8 H2.out ?_)
        | (refine wpList_storeall rfl 33 (.tmp 2) (.tmp 14) rfl _ rfl 8 (fun _ => .int .i16 0) (fun i => .int .i16 (a i)) rfl 33 size_r8 H1.out (fun _ _ => rfl) ?_))
      exact ret_row Try.results31 _ 8 (fun i => .int .i16 (a i)) 33 _ Try.underlying33 rfl size_r8 rfl rfl (row_set H1.out _) ⟨rfl, Below_setRow HB.out (by omega) _⟩
set_option maxHeartbeats 400000 in
theorem toByteA8_any (a : Nat → Int) (w : World) :
    Calls Try.prog 20 #[.agg (irow .u8 8 a)] w fun e w' => e = .returned (.agg (irow .u8 8 a)) ∧ Below w.heap.size w w' := by
  have zz : ∀ w, (zeroValue 38).run Try.prog w = .ok (.agg (irow .u8 8 fun _ => 0)) w := fun _ => by kernel_rfl
  go_enter Try.func20, Try.ntmps20
  go_wp2
  go_loopw [4] (fun i wr => ∃ k : Nat, k ≤ 8 ∧ i = .int .i64 k ∧ Copying .u8 8 38 a (k) w wr) (fun i _ => 8 - (intOf i).toNat)
  case atStart => exact ⟨0, by omega, rfl, Copying.start _ _ _ _ _⟩
  case round =>
    clear zz
    obtain ⟨k, hk, rfl, hI⟩ := hrel
    by_cases hlt : k < 8
    · have hS := hI.2.1; have HI := Go.Lib.hid hI
      clear hI hk
      go_wp2_with (first
        | (refine wpList_load1 rfl 5 (.tmp 11) rfl _ k rfl 8 (fun i => .int .u8 (a i)) 38 _ Try.underlying5 rfl HI.out.2.2.1 (by omega) ?_)
        | (refine wpList_store1 rfl 5 (.tmp 13) (.tmp 12) rfl _ k rfl 8 (fun i => .int .u8 (upto a k i)) (.int .u8 (a k)) rfl 38 size_u8 HI.out.2.2.2.2 (by omega) rfl ?_))
      go_roundw
      case rel =>
        refine ⟨k + 1, by omega, by go_num, ?_⟩
        exact HI.out.step1
      case measure => simp [intOf]; omega
    · obtain rfl : k = 8 := by omega
      obtain ⟨hB, hS, h0, h1, h2⟩ := hI
      rw [upto_full] at h2
      have HB := Go.Lib.hid hB; have H1 := Go.Lib.hid h1; have H2 := Go.Lib.hid h2
      clear hB h0 h1 h2 hk
      go_wp2_with (first
        | (refine wpList_loadall rfl 38 (.tmp 3) rfl _ rfl 8 (fun i => .int .u8 (a i)) 38 _ Try.underlying38 rfl size_x8 H2.out ?_)
        | (refine wpList_storeall rfl 38 (.tmp 2) (.tmp 14) rfl _ rfl 8 (fun _ => .int .u8 0) (fun i => .int .u8 (a i)) rfl 38 size_x8 H1.out (fun _ _ => rfl) ?_))
      exact ret_row Try.results20 _ 8 (fun i => .int .u8 (a i)) 38 _ Try.underlying38 rfl size_x8 rfl rfl (row_set H1.out _) ⟨rfl, Below_setRow HB.out (by omega) _⟩
set_option maxHeartbeats 400000 in
theorem toInt16A8A8_any (a : Nat → Int) (w : World) :
    Calls Try.prog 18 #[.agg (irow .i16 64 a)] w fun e w' => e = .returned (.agg (irow .i16 64 a)) ∧ Below w.heap.size w w' := by
  have zz : ∀ w, (zeroValue 34).run Try.prog w = .ok (.agg (irow .i16 64 fun _ => 0)) w := fun _ => by kernel_rfl
  go_enter Try.func18, Try.ntmps18
  go_wp2
  go_loopw [4] (fun i wr => ∃ k : Nat, k ≤ 8 ∧ i = .int .i64 k ∧ Copying .i16 64 34 a (k * 8) w wr) (fun i _ => 8 - (intOf i).toNat)
  case atStart => exact ⟨0, by omega, rfl, Copying.start _ _ _ _ _⟩
  case round =>
    clear zz
    obtain ⟨k, hk, rfl, hI⟩ := hrel
    by_cases hlt : k < 8
    · have hS := hI.2.1; have HI := Go.Lib.hid hI
      clear hI hk
      go_wp2_with (first
        | (refine wpList_loadmid rfl 33 (.tmp 11) rfl _ (k * 8) rfl 64 8 (fun i => .int .i16 (a i)) 34 _ Try.underlying33 rfl size_r8 HI.out.2.2.1 (by omega) ?_)
        | (go_at_call 31; refine (toInt16A8_any _ _).mono ?_; rintro e w1 ⟨rfl, hb1⟩; have HB1 := Go.Lib.hid hb1; clear hb1)
        | (refine wpList_storemid rfl 33 (.tmp 14) (.tmp 13) rfl _ (k * 8) rfl 64 8 (fun i => .int .i16 (upto a (k * 8) i)) (fun i => .int .i16 (a (k * 8 + i))) rfl 34 size_r8 (row_below HB1.out (by omega) HI.out.2.2.2.2) (by omega) (fun _ _ => rfl) ?_))
      go_roundw
      case rel =>
        refine ⟨k + 1, by omega, by go_num, ?_⟩
        rw [show (k + 1) * 8 = k * 8 + 8 by omega]
        exact HI.out.step HB1.out
      case measure => simp [intOf]; omega
    · obtain rfl : k = 8 := by omega
      obtain ⟨hB, hS, h0, h1, h2⟩ := hI
      rw [show 8 * 8 = 64 from rfl, upto_full] at h2
      have HB := Go.Lib.hid hB; have H1 := Go.Lib.hid h1; have H2 := Go.Lib.hid h2
      clear hB h0 h1 h2 hk
      go_wp2_with (first
        | (refine wpList_loadall rfl 34 (.tmp 3) rfl _ rfl 64 (fun i => .int .i16 (a i)) 34 _ Try.underlying34 rfl size_r64 H2.out ?_)
        | (refine wpList_storeall rfl 34 (.tmp 2) (.tmp 15) rfl _ rfl 64 (fun _ => .int .i16 0) (fun i => .int .i16 (a i)) rfl 34 size_r64 H1.out (fun _ _ => rfl) ?_))
      exact ret_row Try.results18 _ 64 (fun i => .int .i16 (a i)) 34 _ Try.underlying34 rfl size_r64 rfl rfl (row_set H1.out _) ⟨rfl, Below_setRow HB.out (by omega) _⟩
set_option maxHeartbeats 400000 in
theorem toInt16A3A8_any (a : Nat → Int) (w : World) :
    Calls Try.prog 32 #[.agg (irow .i16 24 a)] w fun e w' => e = .returned (.agg (irow .i16 24 a)) ∧ Below w.heap.size w w' := by
  have zz : ∀ w, (zeroValue 36).run Try.prog w = .ok (.agg (irow .i16 24 fun _ => 0)) w := fun _ => by kernel_rfl
  go_enter Try.func32, Try.ntmps32
  go_wp2
  go_loopw [4] (fun i wr => ∃ k : Nat, k ≤ 8 ∧ i = .int .i64 k ∧ Copying .i16 24 36 a (k * 3) w wr) (fun i _ => 8 - (intOf i).toNat)
  case atStart => exact ⟨0, by omega, rfl, Copying.start _ _ _ _ _⟩
  case round =>
    clear zz
    obtain ⟨k, hk, rfl, hI⟩ := hrel
    by_cases hlt : k < 8
    · have hS := hI.2.1; have HI := Go.Lib.hid hI
      clear hI hk
      go_wp2_with (first
        | (refine wpList_loadmid rfl 35 (.tmp 11) rfl _ (k * 3) rfl 24 3 (fun i => .int .i16 (a i)) 36 _ Try.underlying35 rfl size_d3 HI.out.2.2.1 (by omega) ?_)
        | (go_at_call 40; refine (toInt16A3_any _ _).mono ?_; rintro e w1 ⟨rfl, hb1⟩; have HB1 := Go.Lib.hid hb1; clear hb1)
        | (refine wpList_storemid rfl 35 (.tmp 14) (.tmp 13) rfl _ (k * 3) rfl 24 3 (fun i => .int .i16 (upto a (k * 3) i)) (fun i => .int .i16 (a (k * 3 + i))) rfl 36 size_d3 (row_below HB1.out (by omega) HI.out.2.2.2.2) (by omega) (fun _ _ => rfl) ?_))
      go_roundw
      case rel =>
        refine ⟨k + 1, by omega, by go_num, ?_⟩
        rw [show (k + 1) * 3 = k * 3 + 3 by omega]
        exact HI.out.step HB1.out
      case measure => simp [intOf]; omega
    · obtain rfl : k = 8 := by omega
      obtain ⟨hB, hS, h0, h1, h2⟩ := hI
      rw [show 8 * 3 = 24 from rfl, upto_full] at h2
      have HB := Go.Lib.hid hB; have H1 := Go.Lib.hid h1; have H2 := Go.Lib.hid h2
      clear hB h0 h1 h2 hk
      go_wp2_with (first
        | (refine wpList_loadall rfl 36 (.tmp 3) rfl _ rfl 24 (fun i => .int .i16 (a i)) 36 _ Try.underlying36 rfl size_d24 H2.out ?_)
        | (refine wpList_storeall rfl 36 (.tmp 2) (.tmp 15) rfl _ rfl 24 (fun _ => .int .i16 0) (fun i => .int .i16 (a i)) rfl 36 size_d24 H1.out (fun _ _ => rfl) ?_))
      exact ret_row Try.results32 _ 24 (fun i => .int .i16 (a i)) 36 _ Try.underlying36 rfl size_d24 rfl rfl (row_set H1.out _) ⟨rfl, Below_setRow HB.out (by omega) _⟩
set_option maxHeartbeats 400000 in
theorem toInt16A3A8A8_any (a : Nat → Int) (w : World) :
    Calls Try.prog 19 #[.agg (irow .i16 192 a)] w fun e w' => e = .returned (.agg (irow .i16 192 a)) ∧ Below w.heap.size w w' := by
  have zz : ∀ w, (zeroValue 37).run Try.prog w = .ok (.agg (irow .i16 192 fun _ => 0)) w := fun _ => by kernel_rfl
  go_enter Try.func19, Try.ntmps19
  go_wp2
  go_loopw [4] (fun i wr => ∃ k : Nat, k ≤ 8 ∧ i = .int .i64 k ∧ Copying .i16 192 37 a (k * 24) w wr) (fun i _ => 8 - (intOf i).toNat)
  case atStart => exact ⟨0, by omega, rfl, Copying.start _ _ _ _ _⟩
  case round =>
    clear zz
    obtain ⟨k, hk, rfl, hI⟩ := hrel
    by_cases hlt : k < 8
    · have hS := hI.2.1; have HI := Go.Lib.hid hI
      clear hI hk
      go_wp2_with (first
        | (refine wpList_loadmid rfl 36 (.tmp 11) rfl _ (k * 24) rfl 192 24 (fun i => .int .i16 (a i)) 37 _ Try.underlying36 rfl size_d24 HI.out.2.2.1 (by omega) ?_)
        | (go_at_call 32; refine (toInt16A3A8_any _ _).mono ?_; rintro e w1 ⟨rfl, hb1⟩; have HB1 := Go.Lib.hid hb1; clear hb1)
        | (refine wpList_storemid rfl 36 (.tmp 14) (.tmp 13) rfl _ (k * 24) rfl 192 24 (fun i => .int .i16 (upto a (k * 24) i)) (fun i => .int .i16 (a (k * 24 + i))) rfl 37 size_d24 (row_below HB1.out (by omega) HI.out.2.2.2.2) (by omega) (fun _ _ => rfl) ?_))
      go_roundw
      case rel =>
        refine ⟨k + 1, by omega, by go_num, ?_⟩
        rw [show (k + 1) * 24 = k * 24 + 24 by omega]
        exact HI.out.step HB1.out
      case measure => simp [intOf]; omega
    · obtain rfl : k = 8 := by omega
      obtain ⟨hB, hS, h0, h1, h2⟩ := hI
      rw [show 8 * 24 = 192 from rfl, upto_full] at h2
      have HB := Go.Lib.hid hB; have H1 := Go.Lib.hid h1; have H2 := Go.Lib.hid h2
      clear hB h0 h1 h2 hk
      go_wp2_with (first
        | (refine wpList_loadall rfl 37 (.tmp 3) rfl _ rfl 192 (fun i => .int .i16 (a i)) 37 _ Try.underlying37 rfl size_d192 H2.out ?_)
        | (refine wpList_storeall rfl 37 (.tmp 2) (.tmp 15) rfl _ rfl 192 (fun _ => .int .i16 0) (fun i => .int .i16 (a i)) rfl 37 size_d192 H1.out (fun _ _ => rfl) ?_))
      exact ret_row Try.results19 _ 192 (fun i => .int .i16 (a i)) 37 _ Try.underlying37 rfl size_d192 rfl rfl (row_set H1.out _) ⟨rfl, Below_setRow HB.out (by omega) _⟩
end Go.Proofs.Ytfhfiaphdgfmnaa
