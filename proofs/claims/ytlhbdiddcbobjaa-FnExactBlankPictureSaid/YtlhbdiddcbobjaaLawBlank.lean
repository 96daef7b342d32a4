import Derived.Test.YtlhbdiddcbobjaaBlank
import Derived.Test.YtlhbdiddcbobjaaOpen
namespace Go.Proofs.Ytlhbdiddcbobjaa
open Go.RowKit
set_option maxRecDepth 100000
set_option maxHeartbeats 400000 in
theorem blank_walk (a b : Int) (s : Pic) (c : Int)
    (h12 : ∀ w, Calls Try.prog 6 #[.int .i64 a, .int .i64 b] w fun e w' => e = .returned (.tuple #[.agg s.row, .int .i64 c]) ∧ Below w.heap.size w w')
    (h13 : ∀ w, Calls Try.prog 7 #[.int .i64 a, .int .i64 b] w fun e w' => e = .returned (.tuple #[.agg s.row, .int .i64 c]) ∧ Below w.heap.size w w') (w : World) :
    Calls Try.prog 3 #[.int .i64 a, .int .i64 b] w fun e w' => e = .returned (.bool true) ∧ Below w.heap.size w w' := by
  have H12 := Go.Lib.hid h12; have H13 := Go.Lib.hid h13; clear h12 h13
  have zz := zero_pic
  go_enter Try.func3, Try.ntmps3
  go_wp2_with (first
    | (go_at_call 6; refine (H12.out _).mono ?_; rintro e w1 ⟨rfl, hb⟩; have B_1 := Go.Lib.hid hb; clear hb)
    | (refine wpList_storeall rfl 26 (.tmp 5) (.tmp 13) rfl _ rfl 66 Pic.zero.at s.at rfl 26 size_pic (heap_at _ _ _ rfl) (fun i _ => s.one i) ?_; rw [setRow_at _ _ _ _ _ rfl])
    | (go_at_call 7; refine (H13.out _).mono ?_; rintro e w2 ⟨rfl, hb⟩; have V5 := Go.Lib.hid (row_call hb (by simp) (heap_at w1 (.cells s.row 26) w1.heap.size rfl)); have B_2 := Go.Lib.hid (below_call (B_1.out.alloc B_1.out.size _) hb (by simp)); clear hb)
    | (refine wpList_storeall rfl 26 (.tmp 7) (.tmp 19) rfl _ rfl 66 Pic.zero.at s.at rfl 26 size_pic (heap_at _ _ _ rfl) (fun i _ => s.one i) ?_; rw [setRow_at _ _ _ _ _ rfl])
    | (refine wpList_loadall rfl 26 (.tmp 7) rfl _ rfl 66 s.at 26 _ Try.underlying26 rfl size_pic (heap_at _ _ _ rfl) ?_)
    | (refine wpList_loadall rfl 26 (.tmp 5) rfl _ rfl 66 s.at 26 _ Try.underlying26 rfl size_pic (heap_past _ _ _ _ (row_lt V5.out) V5.out) ?_)
    | (go_at_call 8; refine (eqPicture_any _ _).mono ?_; rintro e w3 ⟨rfl, hb⟩; have B_3 := Go.Lib.hid (below_call (B_2.out.alloc B_2.out.size _) hb (by simp)); clear hb))
  go_ret
  exact ⟨rfl, B_3.out⟩
theorem blank_law (a b : Int) (w : World) : Calls Try.prog 3 #[.int .i64 a, .int .i64 b] w fun e w' => e = .returned (.bool true) ∧ Below w.heap.size w w' := by
  by_cases h1 : 1 ≤ a
  · by_cases h2 : a ≤ 8
    · by_cases h3 : 1 ≤ b
      · by_cases h4 : b ≤ 8
        · exact blank_walk a b _ 0 (fun w => specBlank_yes a b w h1 h2 h3 h4) (fun w => implBlank_yes a b w h1 h2 h3 h4) w
        · exact blank_walk a b _ 2 (fun w => specBlank_no2 a b w h1 h2 (by omega)) (fun w => implBlank_no a b w (by omega)) w
      · exact blank_walk a b _ 2 (fun w => specBlank_no2 a b w h1 h2 (by omega)) (fun w => implBlank_no a b w (by omega)) w
    · exact blank_walk a b _ 2 (fun w => specBlank_no1 a b w (by omega)) (fun w => implBlank_no a b w (by omega)) w
  · exact blank_walk a b _ 2 (fun w => specBlank_no1 a b w (by omega)) (fun w => implBlank_no a b w (by omega)) w
end Go.Proofs.Ytlhbdiddcbobjaa
