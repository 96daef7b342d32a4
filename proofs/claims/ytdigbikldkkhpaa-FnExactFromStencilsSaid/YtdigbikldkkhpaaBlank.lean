import Derived.Test.YtdigbikldkkhpaaPic
import Derived.Test.YtdigbikldkkhpaaG1
namespace Go.Proofs.Ytdigbikldkkhpaa
open Go.RowKit
set_option maxRecDepth 100000
theorem l00In_yes (n a b : Int) (w : World) (h1 : a ≤ n) (h2 : n ≤ b) : Calls Try.prog 15 #[.int .i64 n, .int .i64 a, .int .i64 b] w fun e w' => e = .returned (.bool true) ∧ w = w' := by
  go_enter Try.func15, Try.ntmps15
  go_wp2
  go_ret
  exact ⟨rfl, rfl⟩
theorem l00In_no (n a b : Int) (w : World) (h : n < a ∨ b < n) : Calls Try.prog 15 #[.int .i64 n, .int .i64 a, .int .i64 b] w fun e w' => e = .returned (.bool false) ∧ w = w' := by
  by_cases h1 : n < a
  · clear h
    go_enter Try.func15, Try.ntmps15
    go_wp2
    go_ret
    exact ⟨rfl, rfl⟩
  · have h2 : decide (n ≤ b) = false := by simp; omega
    clear h
    go_enter Try.func15, Try.ntmps15
    go_wp2
    go_ret
    exact ⟨by rw [← h2]; rfl, rfl⟩
def blankPic (wide high : Int) : Pic := ⟨wide, high, fun _ => 0⟩
theorem built_blank (a b : Int) : Try.prog.built 27 [(0, .int .i8 a), (1, .int .i8 b)] = some (blankPic a b).row := by kernel_rfl
theorem built_zpic : Try.prog.built 27 [] = some Pic.zero.row := by kernel_rfl
set_option maxHeartbeats 400000 in
theorem specBlank_yes (a b : Int) (w : World) (h1 : 1 ≤ a) (h2 : a ≤ 8) (h3 : 1 ≤ b) (h4 : b ≤ 8) : Calls Try.prog 8 #[.int .i64 a, .int .i64 b] w fun e w' => e = .returned (.tuple #[.agg (blankPic a b).row, .int .i64 0]) ∧ Below w.heap.size w w' := by
  have zz := zero_pic
  have V_0 := Go.Lib.hid (heap_at w (.cells Pic.zero.row 27) w.heap.size rfl)
  have B_0 := Go.Lib.hid ((Below.refl w.heap.size w).alloc (Nat.le_refl _) (.cells Pic.zero.row 27))
  go_enter Try.func8, Try.ntmps8
  go_wp2_with (first
    | (go_at_call 15; refine (l00In_yes _ _ _ _ (by omega) (by omega)).mono ?_; rintro e w' ⟨rfl, rfl⟩)
    | (refine wpList_built rfl 27 [(0, .tmp 16), (1, .tmp 18)] rfl [(0, .int .i8 a), (1, .int .i8 b)] (by rfl) _ (built_blank a b) ?_)
    | (refine wpList_storeall rfl 27 (.tmp 4) (.tmp 19) rfl _ rfl 66 Pic.zero.at (blankPic a b).at rfl 27 size_pic V_0.out (fun i _ => (blankPic a b).one i) ?_))
  exact ret_row2 Try.results8 w.heap.size 66 (blankPic a b).at 27 _ Try.underlying27 rfl size_pic (.int .i64 0) rfl rfl rfl (row_set V_0.out _) ⟨rfl, Below_setRow B_0.out (by omega) _⟩
set_option maxHeartbeats 400000 in
theorem specBlank_no1 (a b : Int) (w : World) (h : a < 1 ∨ 8 < a) : Calls Try.prog 8 #[.int .i64 a, .int .i64 b] w fun e w' => e = .returned (.tuple #[.agg Pic.zero.row, .int .i64 2]) ∧ Below w.heap.size w w' := by
  have zz := zero_pic
  have V_0 := Go.Lib.hid (heap_at w (.cells Pic.zero.row 27) w.heap.size rfl)
  have B_0 := Go.Lib.hid ((Below.refl w.heap.size w).alloc (Nat.le_refl _) (.cells Pic.zero.row 27))
  have HH := Go.Lib.hid h; clear h
  go_enter Try.func8, Try.ntmps8
  go_wp2_with (first
    | (go_at_call 15; refine (l00In_no _ _ _ _ HH.out).mono ?_; rintro e w' ⟨rfl, rfl⟩)
    | (refine wpList_built rfl 27 [] rfl [] (by rfl) _ built_zpic ?_)
    | (refine wpList_storeall rfl 27 (.tmp 4) (.tmp 14) rfl _ rfl 66 Pic.zero.at Pic.zero.at rfl 27 size_pic V_0.out (fun i _ => Pic.zero.one i) ?_))
  exact ret_row2 Try.results8 w.heap.size 66 Pic.zero.at 27 _ Try.underlying27 rfl size_pic (.int .i64 2) rfl rfl rfl (row_set V_0.out _) ⟨rfl, Below_setRow B_0.out (by omega) _⟩
set_option maxHeartbeats 400000 in
theorem specBlank_no2 (a b : Int) (w : World) (h1 : 1 ≤ a) (h2 : a ≤ 8) (h : b < 1 ∨ 8 < b) : Calls Try.prog 8 #[.int .i64 a, .int .i64 b] w fun e w' => e = .returned (.tuple #[.agg Pic.zero.row, .int .i64 2]) ∧ Below w.heap.size w w' := by
  have zz := zero_pic
  have V_0 := Go.Lib.hid (heap_at w (.cells Pic.zero.row 27) w.heap.size rfl)
  have B_0 := Go.Lib.hid ((Below.refl w.heap.size w).alloc (Nat.le_refl _) (.cells Pic.zero.row 27))
  have HH := Go.Lib.hid h; clear h
  have tok : True := trivial
  go_enter Try.func8, Try.ntmps8
  go_wp2_with (first
    | (go_at_call 15; have _t := tok; clear tok; refine (l00In_yes _ _ _ _ (by omega) (by omega)).mono ?_; rintro e w' ⟨rfl, rfl⟩)
    | (go_at_call 15; refine (l00In_no _ _ _ _ HH.out).mono ?_; rintro e w' ⟨rfl, rfl⟩)
    | (refine wpList_built rfl 27 [] rfl [] (by rfl) _ built_zpic ?_)
    | (refine wpList_storeall rfl 27 (.tmp 4) (.tmp 14) rfl _ rfl 66 Pic.zero.at Pic.zero.at rfl 27 size_pic V_0.out (fun i _ => Pic.zero.one i) ?_))
  exact ret_row2 Try.results8 w.heap.size 66 Pic.zero.at 27 _ Try.underlying27 rfl size_pic (.int .i64 2) rfl rfl rfl (row_set V_0.out _) ⟨rfl, Below_setRow B_0.out (by omega) _⟩
set_option maxHeartbeats 400000 in
theorem implBlank_yes (a b : Int) (w : World) (h1 : 1 ≤ a) (h2 : a ≤ 8) (h3 : 1 ≤ b) (h4 : b ≤ 8) : Calls Try.prog 11 #[.int .i64 a, .int .i64 b] w fun e w' => e = .returned (.tuple #[.agg (blankPic a b).row, .int .i64 0]) ∧ Below w.heap.size w w' := by
  have zz := zero_pic
  have V_0 := Go.Lib.hid (heap_at w (.cells Pic.zero.row 27) w.heap.size rfl)
  have B_0 := Go.Lib.hid ((Below.refl w.heap.size w).alloc (Nat.le_refl _) (.cells Pic.zero.row 27))
  have HS := Go.Lib.hid (fun w => isSize_any a b w)
  rw [sizeB_yes h1 h2 h3 h4] at HS
  go_enter Try.func11, Try.ntmps11
  go_wp2_with (first
    | (go_at_call 16; (refine (HS.out _).mono ?_; rintro e Wn ⟨rfl, rfl⟩))
    | (refine wpList_built rfl 27 [(0, .tmp 12), (1, .tmp 14)] rfl [(0, .int .i8 a), (1, .int .i8 b)] (by rfl) _ (built_blank a b) ?_)
    | (refine wpList_storeall rfl 27 (.tmp 4) (.tmp 15) rfl _ rfl 66 Pic.zero.at (blankPic a b).at rfl 27 size_pic V_0.out (fun i _ => (blankPic a b).one i) ?_))
  exact ret_row2 Try.results11 w.heap.size 66 (blankPic a b).at 27 _ Try.underlying27 rfl size_pic (.int .i64 0) rfl rfl rfl (row_set V_0.out _) ⟨rfl, Below_setRow B_0.out (by omega) _⟩
set_option maxHeartbeats 400000 in
theorem implBlank_no (a b : Int) (w : World) (h : a < 1 ∨ 8 < a ∨ b < 1 ∨ 8 < b) : Calls Try.prog 11 #[.int .i64 a, .int .i64 b] w fun e w' => e = .returned (.tuple #[.agg Pic.zero.row, .int .i64 2]) ∧ Below w.heap.size w w' := by
  have zz := zero_pic
  have V_0 := Go.Lib.hid (heap_at w (.cells Pic.zero.row 27) w.heap.size rfl)
  have B_0 := Go.Lib.hid ((Below.refl w.heap.size w).alloc (Nat.le_refl _) (.cells Pic.zero.row 27))
  have HS := Go.Lib.hid (fun w => isSize_any a b w)
  rw [sizeB_no h] at HS
  clear h
  go_enter Try.func11, Try.ntmps11
  go_wp2_with (first
    | (go_at_call 16; (refine (HS.out _).mono ?_; rintro e Wn ⟨rfl, rfl⟩))
    | (refine wpList_built rfl 27 [] rfl [] (by rfl) _ built_zpic ?_)
    | (refine wpList_storeall rfl 27 (.tmp 4) (.tmp 10) rfl _ rfl 66 Pic.zero.at Pic.zero.at rfl 27 size_pic V_0.out (fun i _ => Pic.zero.one i) ?_))
  exact ret_row2 Try.results11 w.heap.size 66 Pic.zero.at 27 _ Try.underlying27 rfl size_pic (.int .i64 2) rfl rfl rfl (row_set V_0.out _) ⟨rfl, Below_setRow B_0.out (by omega) _⟩
end Go.Proofs.Ytdigbikldkkhpaa
