import Derived.Test.YtdfghoneaiaaeaaEqSheet
import Derived.Test.YtdfghoneaiaaeaaXLib2
namespace Go.Proofs.Ytdfghoneaiaaeaa
open Go.RowKit
set_option maxRecDepth 100000
theorem l00In_yes (n a b : Int) (w : World) (h1 : a ≤ n) (h2 : n ≤ b) : Calls Try.prog 31 #[.int .i64 n, .int .i64 a, .int .i64 b] w fun e w' => e = .returned (.bool true) ∧ w = w' := by
  go_enter Try.func31, Try.ntmps31
  go_wp2
  go_ret
  exact ⟨rfl, rfl⟩
theorem l00In_no (n a b : Int) (w : World) (h : n < a ∨ b < n) : Calls Try.prog 31 #[.int .i64 n, .int .i64 a, .int .i64 b] w fun e w' => e = .returned (.bool false) ∧ w = w' := by
  by_cases h1 : n < a
  · clear h
    go_enter Try.func31, Try.ntmps31
    go_wp2
    go_ret
    exact ⟨rfl, rfl⟩
  · have h2 : decide (n ≤ b) = false := by simp; omega
    clear h
    go_enter Try.func31, Try.ntmps31
    go_wp2
    go_ret
    exact ⟨by rw [← h2]; rfl, rfl⟩
def plainSh (wide high : Int) : Sh := ⟨wide, high, fun _ => 0, fun _ => 0, fun _ => 0⟩
theorem built_plain (a b : Int) : Try.prog.built 35 [(0, .int .i8 a), (1, .int .i8 b)] = some (plainSh a b).row := by kernel_rfl
theorem built_zero : Try.prog.built 35 [] = some Sh.zero.row := by kernel_rfl
set_option maxHeartbeats 400000 in
theorem specPlain_yes (a b : Int) (w : World) (h1 : 1 ≤ a) (h2 : a ≤ 8) (h3 : 1 ≤ b) (h4 : b ≤ 8) : Calls Try.prog 18 #[.int .i64 a, .int .i64 b] w fun e w' => e = .returned (.tuple #[.agg (plainSh a b).row, .int .i64 0]) ∧ Below w.heap.size w w' := by
  have zz := zero_sheet
  have V_0 := Go.Lib.hid (heap_at w (.cells Sh.zero.row 35) w.heap.size rfl)
  have B_0 := Go.Lib.hid ((Below.refl w.heap.size w).alloc (Nat.le_refl _) (.cells Sh.zero.row 35))
  go_enter Try.func18, Try.ntmps18
  go_wp2_with (first
    | (go_at_call 31; refine (l00In_yes _ _ _ _ (by omega) (by omega)).mono ?_; rintro e w' ⟨rfl, rfl⟩)
    | (refine wpList_built rfl 35 [(0, .tmp 16), (1, .tmp 18)] rfl [(0, .int .i8 a), (1, .int .i8 b)] (by rfl) _ (built_plain a b) ?_)
    | (refine wpList_storeall rfl 35 (.tmp 4) (.tmp 19) rfl _ rfl 266 Sh.zero.at (plainSh a b).at rfl 35 size_sheet V_0.out (fun i _ => (plainSh a b).one i) ?_))
  exact ret_row2 Try.results18 w.heap.size 266 (plainSh a b).at 35 _ Try.underlying35 rfl size_sheet (.int .i64 0) rfl rfl rfl (row_set V_0.out _) ⟨rfl, Below_setRow B_0.out (by omega) _⟩
set_option maxHeartbeats 400000 in
theorem specPlain_no1 (a b : Int) (w : World) (h : a < 1 ∨ 8 < a) : Calls Try.prog 18 #[.int .i64 a, .int .i64 b] w fun e w' => e = .returned (.tuple #[.agg Sh.zero.row, .int .i64 2]) ∧ Below w.heap.size w w' := by
  have zz := zero_sheet
  have V_0 := Go.Lib.hid (heap_at w (.cells Sh.zero.row 35) w.heap.size rfl)
  have B_0 := Go.Lib.hid ((Below.refl w.heap.size w).alloc (Nat.le_refl _) (.cells Sh.zero.row 35))
  have HH := Go.Lib.hid h; clear h
  go_enter Try.func18, Try.ntmps18
  go_wp2_with (first
    | (go_at_call 31; refine (l00In_no _ _ _ _ HH.out).mono ?_; rintro e w' ⟨rfl, rfl⟩)
    | (refine wpList_built rfl 35 [] rfl [] (by rfl) _ built_zero ?_)
    | (refine wpList_storeall rfl 35 (.tmp 4) (.tmp 14) rfl _ rfl 266 Sh.zero.at Sh.zero.at rfl 35 size_sheet V_0.out (fun i _ => Sh.zero.one i) ?_))
  exact ret_row2 Try.results18 w.heap.size 266 Sh.zero.at 35 _ Try.underlying35 rfl size_sheet (.int .i64 2) rfl rfl rfl (row_set V_0.out _) ⟨rfl, Below_setRow B_0.out (by omega) _⟩
set_option maxHeartbeats 400000 in
theorem specPlain_no2 (a b : Int) (w : World) (h1 : 1 ≤ a) (h2 : a ≤ 8) (h : b < 1 ∨ 8 < b) : Calls Try.prog 18 #[.int .i64 a, .int .i64 b] w fun e w' => e = .returned (.tuple #[.agg Sh.zero.row, .int .i64 2]) ∧ Below w.heap.size w w' := by
  have zz := zero_sheet
  have V_0 := Go.Lib.hid (heap_at w (.cells Sh.zero.row 35) w.heap.size rfl)
  have B_0 := Go.Lib.hid ((Below.refl w.heap.size w).alloc (Nat.le_refl _) (.cells Sh.zero.row 35))
  have HH := Go.Lib.hid h; clear h
  have tok : True := trivial
  go_enter Try.func18, Try.ntmps18
  go_wp2_with (first
    | (go_at_call 31; have _t := tok; clear tok; refine (l00In_yes _ _ _ _ (by omega) (by omega)).mono ?_; rintro e w' ⟨rfl, rfl⟩)
    | (go_at_call 31; refine (l00In_no _ _ _ _ HH.out).mono ?_; rintro e w' ⟨rfl, rfl⟩)
    | (refine wpList_built rfl 35 [] rfl [] (by rfl) _ built_zero ?_)
    | (refine wpList_storeall rfl 35 (.tmp 4) (.tmp 14) rfl _ rfl 266 Sh.zero.at Sh.zero.at rfl 35 size_sheet V_0.out (fun i _ => Sh.zero.one i) ?_))
  exact ret_row2 Try.results18 w.heap.size 266 Sh.zero.at 35 _ Try.underlying35 rfl size_sheet (.int .i64 2) rfl rfl rfl (row_set V_0.out _) ⟨rfl, Below_setRow B_0.out (by omega) _⟩
set_option maxHeartbeats 400000 in
theorem implPlain_yes (a b : Int) (w : World) (h1 : 1 ≤ a) (h2 : a ≤ 8) (h3 : 1 ≤ b) (h4 : b ≤ 8) : Calls Try.prog 19 #[.int .i64 a, .int .i64 b] w fun e w' => e = .returned (.tuple #[.agg (plainSh a b).row, .int .i64 0]) ∧ Below w.heap.size w w' := by
  have zz := zero_sheet
  have V_0 := Go.Lib.hid (heap_at w (.cells Sh.zero.row 35) w.heap.size rfl)
  have B_0 := Go.Lib.hid ((Below.refl w.heap.size w).alloc (Nat.le_refl _) (.cells Sh.zero.row 35))
  have e1 : decide (a < 1) = false := by simp; omega
  have e2 : decide (8 < a) = false := by simp; omega
  have e3 : decide (b < 1) = false := by simp; omega
  have e4 : decide (8 < b) = false := by simp; omega
  go_enter Try.func19, Try.ntmps19
  go_wp2_with (first
    | (refine wpList_built rfl 35 [(0, .tmp 22), (1, .tmp 24)] rfl [(0, .int .i8 a), (1, .int .i8 b)] (by rfl) _ (built_plain a b) ?_)
    | (refine wpList_storeall rfl 35 (.tmp 4) (.tmp 25) rfl _ rfl 266 Sh.zero.at (plainSh a b).at rfl 35 size_sheet V_0.out (fun i _ => (plainSh a b).one i) ?_))
  exact ret_row2 Try.results19 w.heap.size 266 (plainSh a b).at 35 _ Try.underlying35 rfl size_sheet (.int .i64 0) rfl rfl rfl (row_set V_0.out _) ⟨rfl, Below_setRow B_0.out (by omega) _⟩
theorem implPlain_no (a b : Int) (w : World) (h : a < 1 ∨ 8 < a ∨ b < 1 ∨ 8 < b) : Calls Try.prog 19 #[.int .i64 a, .int .i64 b] w fun e w' => e = .returned (.tuple #[.agg Sh.zero.row, .int .i64 2]) ∧ Below w.heap.size w w' := by
  have V_0 := Go.Lib.hid (heap_at w (.cells Sh.zero.row 35) w.heap.size rfl)
  have B_0 := Go.Lib.hid ((Below.refl w.heap.size w).alloc (Nat.le_refl _) (.cells Sh.zero.row 35))
  have H : Hid ((a < 1 ∨ (¬ a < 1 ∧ 8 < a)) ∨ ((¬ a < 1 ∧ ¬ 8 < a ∧ b < 1) ∨ (¬ a < 1 ∧ ¬ 8 < a ∧ ¬ b < 1 ∧ 8 < b))) := by unfold Hid; omega
  clear h
  rcases H.out with (h1 | ⟨h1, h2⟩) | ⟨h1, h2, h3⟩ | ⟨h1, h2, h3, h4⟩
  all_goals
    clear H
    have zz := zero_sheet
    go_enter Try.func19, Try.ntmps19
    go_wp2_with (first
      | (refine wpList_built rfl 35 [] rfl [] (by rfl) _ built_zero ?_)
      | (refine wpList_storeall rfl 35 (.tmp 4) (.tmp 20) rfl _ rfl 266 Sh.zero.at Sh.zero.at rfl 35 size_sheet V_0.out (fun i _ => Sh.zero.one i) ?_))
    exact ret_row2 Try.results19 w.heap.size 266 Sh.zero.at 35 _ Try.underlying35 rfl size_sheet (.int .i64 2) rfl rfl rfl (row_set V_0.out _) ⟨rfl, Below_setRow B_0.out (by omega) _⟩
end Go.Proofs.Ytdfghoneaiaaeaa
