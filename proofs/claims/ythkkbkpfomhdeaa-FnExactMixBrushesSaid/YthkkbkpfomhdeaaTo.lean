import Derived.Test.YthkkbkpfomhdeaaXLib
namespace Go.Proofs.Ythkkbkpfomhdeaa
open Go.RowKit
set_option maxRecDepth 100000
theorem size_d3 : (Try.prog.info? 23).map (·.size) = some 3 := by kernel_rfl
theorem size_i16 : (Try.prog.info? 22).map (·.size) = some 1 := by kernel_rfl
theorem size_u8 : (Try.prog.info? 5).map (·.size) = some 1 := by kernel_rfl
theorem size_i8 : (Try.prog.info? 24).map (·.size) = some 1 := by kernel_rfl
set_option maxHeartbeats 400000 in
theorem toInt16A3_any (a : Nat → Int) (w : World) :
    Calls Try.prog 15 #[.agg (irow .i16 3 a)] w fun e w' => e = .returned (.agg (irow .i16 3 a)) ∧ Below w.heap.size w w' := by
  have zz : ∀ w, (zeroValue 23).run Try.prog w = .ok (.agg (irow .i16 3 fun _ => 0)) w := fun _ => by kernel_rfl
  go_enter Try.func15, Try.ntmps15
  go_wp2
  go_loopw [4] (fun i wr => ∃ k : Nat, k ≤ 3 ∧ i = .int .i64 k ∧ Copying .i16 3 23 a (k) w wr) (fun i _ => 3 - (intOf i).toNat)
  case atStart => exact ⟨0, by omega, rfl, Copying.start _ _ _ _ _⟩
  case round =>
    clear zz
    obtain ⟨k, hk, rfl, hI⟩ := hrel
    by_cases hlt : k < 3
    · have hS := hI.2.1; have HI := Go.Lib.hid hI
      clear hI hk
      go_wp2_with (first
        | (refine wpList_load1 rfl 22 (.tmp 11) rfl _ k rfl 3 (fun i => .int .i16 (a i)) 23 _ Try.underlying22 rfl HI.out.2.2.1 (by omega) ?_)
        | (refine wpList_store1 rfl 22 (.tmp 13) (.tmp 12) rfl _ k rfl 3 (fun i => .int .i16 (upto a k i)) (.int .i16 (a k)) rfl 23 size_i16 HI.out.2.2.2.2 (by omega) rfl ?_))
      go_roundw
      case rel =>
        refine ⟨k + 1, by omega, by go_num, ?_⟩
        exact HI.out.step1
      case measure => simp [intOf]; omega
    · obtain rfl : k = 3 := by omega
      obtain ⟨hB, hS, h0, h1, h2⟩ := hI
      rw [upto_full] at h2
      have HB := Go.Lib.hid hB; have H1 := Go.Lib.hid h1; have H2 := Go.Lib.hid h2
      clear hB h0 h1 h2 hk
      go_wp2_with (first
        | (refine wpList_loadall rfl 23 (.tmp 3) rfl _ rfl 3 (fun i => .int .i16 (a i)) 23 _ Try.underlying23 rfl size_d3 H2.out ?_)
        | (refine wpList_storeall rfl 23 (.tmp 2) (.tmp 14) rfl _ rfl 3 (fun _ => .int .i16 0) (fun i => .int .i16 (a i)) rfl 23 size_d3 H1.out (fun _ _ => rfl) ?_))
      exact ret_row Try.results15 _ 3 (fun i => .int .i16 (a i)) 23 _ Try.underlying23 rfl size_d3 rfl rfl (row_set H1.out _) ⟨rfl, Below_setRow HB.out (by omega) _⟩
end Go.Proofs.Ythkkbkpfomhdeaa
