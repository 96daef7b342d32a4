import Derived.Test.YtlhbdiddcbobjaaXLib
namespace Go.Proofs.Ytlhbdiddcbobjaa
open Go.RowKit
set_option maxRecDepth 100000
theorem size_x8 : (Try.prog.info? 23).map (·.size) = some 8 := by kernel_rfl
theorem size_u8 : (Try.prog.info? 5).map (·.size) = some 1 := by kernel_rfl
theorem size_i8 : (Try.prog.info? 22).map (·.size) = some 1 := by kernel_rfl
set_option maxHeartbeats 400000 in
theorem toByteA8_any (a : Nat → Int) (w : World) :
    Calls Try.prog 31 #[.agg (irow .u8 8 a)] w fun e w' => e = .returned (.agg (irow .u8 8 a)) ∧ Below w.heap.size w w' := by
  have zz : ∀ w, (zeroValue 23).run Try.prog w = .ok (.agg (irow .u8 8 fun _ => 0)) w := fun _ => by kernel_rfl
  go_enter Try.func31, Try.ntmps31
  go_wp2
  go_loopw [4] (fun i wr => ∃ k : Nat, k ≤ 8 ∧ i = .int .i64 k ∧ Copying .u8 8 23 a (k) w wr) (fun i _ => 8 - (intOf i).toNat)
  case atStart => exact ⟨0, by omega, rfl, Copying.start _ _ _ _ _⟩
  case round =>
    clear zz
    obtain ⟨k, hk, rfl, hI⟩ := hrel
    by_cases hlt : k < 8
    · have hS := hI.2.1; have HI := Go.Lib.hid hI
      clear hI hk
      go_wp2_with (first
        | (refine wpList_load1 rfl 5 (.tmp 11) rfl _ k rfl 8 (fun i => .int .u8 (a i)) 23 _ Try.underlying5 rfl HI.out.2.2.1 (by omega) ?_)
        | (refine wpList_store1 rfl 5 (.tmp 13) (.tmp 12) rfl _ k rfl 8 (fun i => .int .u8 (upto a k i)) (.int .u8 (a k)) rfl 23 size_u8 HI.out.2.2.2.2 (by omega) rfl ?_))
      go_roundw
      case rel =>
        refine ⟨k + 1, by omega, by go_num, ?_⟩
        exact HI.out.step1
      case measure => simp [intOf]; omega
    · obtain rfl : k = 8 := by omega
      obtain ⟨hB, hS, h0, h1, h2⟩ := hI
      rw [upto_full] at h2
      have HB := Go.Lib.hid hB; have H1 := Go.Lib.hid h1; have H2 := Go.Lib.hid h2
      clear hB h0 h1 h2 hk
      go_wp2_with (first
        | (refine wpList_loadall rfl 23 (.tmp 3) rfl _ rfl 8 (fun i => .int .u8 (a i)) 23 _ Try.underlying23 rfl size_x8 H2.out ?_)
        | (refine wpList_storeall rfl 23 (.tmp 2) (.tmp 14) rfl _ rfl 8 (fun _ => .int .u8 0) (fun i => .int .u8 (a i)) rfl 23 size_x8 H1.out (fun _ _ => rfl) ?_))
      exact ret_row Try.results31 _ 8 (fun i => .int .u8 (a i)) 23 _ Try.underlying23 rfl size_x8 rfl rfl (row_set H1.out _) ⟨rfl, Below_setRow HB.out (by omega) _⟩
end Go.Proofs.Ytlhbdiddcbobjaa
