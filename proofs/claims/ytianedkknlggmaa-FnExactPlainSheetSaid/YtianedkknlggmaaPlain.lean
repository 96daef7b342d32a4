import Derived.Test.YtianedkknlggmaaEqSheet
import Derived.Test.YtianedkknlggmaaXLib2
namespace Go.Proofs.Ytianedkknlggmaa
open Go.RowKit
set_option maxRecDepth 100000
theorem l00In_yes (n a b : Int) (w : World) (h1 : a ≤ n) (h2 : n ≤ b) : Calls Try.prog 61 #[.int .i64 n, .int .i64 a, .int .i64 b] w fun e w' => e = .returned (.bool true) ∧ w = w' := by
  go_enter Try.func61, Try.ntmps61
  go_wp2
  go_ret
  exact ⟨rfl, rfl⟩
theorem l00In_no (n a b : Int) (w : World) (h : n < a ∨ b < n) : Calls Try.prog 61 #[.int .i64 n, .int .i64 a, .int .i64 b] w fun e w' => e = .returned (.bool false) ∧ w = w' := by
  by_cases h1 : n < a
  · clear h
    go_enter Try.func61, Try.ntmps61
    go_wp2
    go_ret
    exact ⟨rfl, rfl⟩
  · have h2 : decide (n ≤ b) = false := by simp; omega
    clear h
    go_enter Try.func61, Try.ntmps61
    go_wp2
    go_ret
    exact ⟨by rw [← h2]; rfl, rfl⟩
def plainSh (wide high : Int) : Sh := ⟨wide, high, fun _ => 0, fun _ => 0, fun _ => 0⟩
theorem built_plain (a b : Int) : Try.prog.built 33 [(0, .int .i8 a), (1, .int .i8 b)] = some (plainSh a b).row := by kernel_rfl
theorem built_zero : Try.prog.built 33 [] = some Sh.zero.row := by kernel_rfl
set_option maxHeartbeats 400000 in
theorem specPlain_yes (a b : Int) (w : World) (h1 : 1 ≤ a) (h2 : a ≤ 8) (h3 : 1 ≤ b) (h4 : b ≤ 8) : Calls Try.prog 20 #[.int .i64 a, .int .i64 b] w fun e w' => e = .returned (.tuple #[.agg (plainSh a b).row, .int .i64 0]) ∧ Below w.heap.size w w' := by
  have zz := zero_sheet
  have V_0 := Go.Lib.hid (heap_at w (.cells Sh.zero.row 33) w.heap.size rfl)
  have B_0 := Go.Lib.hid ((Below.refl w.heap.size w).alloc (Nat.le_refl _) (.cells Sh.zero.row 33))
  go_enter Try.func20, Try.ntmps20
  go_wp2_with (first
    | (go_at_call 61; refine (l00In_yes _ _ _ _ (by omega) (by omega)).mono ?_; rintro e w' ⟨rfl, rfl⟩)
    | (refine wpList_built rfl 33 [(0, .tmp 16), (1, .tmp 18)] rfl [(0, .int .i8 a), (1, .int .i8 b)] (by rfl) _ (built_plain a b) ?_)
    | (refine wpList_storeall rfl 33 (.tmp 4) (.tmp 19) rfl _ rfl 266 Sh.zero.at (plainSh a b).at rfl 33 size_sheet V_0.out (fun i _ => (plainSh a b).one i) ?_))
  exact ret_row2 Try.results20 w.heap.size 266 (plainSh a b).at 33 _ Try.underlying33 rfl size_sheet (.int .i64 0) rfl rfl rfl (row_set V_0.out _) ⟨rfl, Below_setRow B_0.out (by omega) _⟩
set_option maxHeartbeats 400000 in
theorem specPlain_no1 (a b : Int) (w : World) (h : a < 1 ∨ 8 < a) : Calls Try.prog 20 #[.int .i64 a, .int .i64 b] w fun e w' => e = .returned (.tuple #[.agg Sh.zero.row, .int .i64 2]) ∧ Below w.heap.size w w' := by
  have zz := zero_sheet
  have V_0 := Go.Lib.hid (heap_at w (.cells Sh.zero.row 33) w.heap.size rfl)
  have B_0 := Go.Lib.hid ((Below.refl w.heap.size w).alloc (Nat.le_refl _) (.cells Sh.zero.row 33))
  have HH := Go.Lib.hid h; clear h
  go_enter Try.func20, Try.ntmps20
  go_wp2_with (first
    | (go_at_call 61; refine (l00In_no _ _ _ _ HH.out).mono ?_; rintro e w' ⟨rfl, rfl⟩)
    | (refine wpList_built rfl 33 [] rfl [] (by rfl) _ built_zero ?_)
    | (refine wpList_storeall rfl 33 (.tmp 4) (.tmp 14) rfl _ rfl 266 Sh.zero.at Sh.zero.at rfl 33 size_sheet V_0.out (fun i _ => Sh.zero.one i) ?_))
  exact ret_row2 Try.results20 w.heap.size 266 Sh.zero.at 33 _ Try.underlying33 rfl size_sheet (.int .i64 2) rfl rfl rfl (row_set V_0.out _) ⟨rfl, Below_setRow B_0.out (by omega) _⟩
set_option maxHeartbeats 400000 in
theorem specPlain_no2 (a b : Int) (w : World) (h1 : 1 ≤ a) (h2 : a ≤ 8) (h : b < 1 ∨ 8 < b) : Calls Try.prog 20 #[.int .i64 a, .int .i64 b] w fun e w' => e = .returned (.tuple #[.agg Sh.zero.row, .int .i64 2]) ∧ Below w.heap.size w w' := by
  have zz := zero_sheet
  have V_0 := Go.Lib.hid (heap_at w (.cells Sh.zero.row 33) w.heap.size rfl)
  have B_0 := Go.Lib.hid ((Below.refl w.heap.size w).alloc (Nat.le_refl _) (.cells Sh.zero.row 33))
  have HH := Go.Lib.hid h; clear h
  have tok : True := trivial
  go_enter Try.func20, Try.ntmps20
  go_wp2_with (first
    | (go_at_call 61; have _t := tok; clear tok; refine (l00In_yes _ _ _ _ (by omega) (by omega)).mono ?_; rintro e w' ⟨rfl, rfl⟩)
    | (go_at_call 61; refine (l00In_no _ _ _ _ HH.out).mono ?_; rintro e w' ⟨rfl, rfl⟩)
    | (refine wpList_built rfl 33 [] rfl [] (by rfl) _ built_zero ?_)
    | (refine wpList_storeall rfl 33 (.tmp 4) (.tmp 14) rfl _ rfl 266 Sh.zero.at Sh.zero.at rfl 33 size_sheet V_0.out (fun i _ => Sh.zero.one i) ?_))
  exact ret_row2 Try.results20 w.heap.size 266 Sh.zero.at 33 _ Try.underlying33 rfl size_sheet (.int .i64 2) rfl rfl rfl (row_set V_0.out _) ⟨rfl, Below_setRow B_0.out (by omega) _⟩
set_option maxHeartbeats 400000 in
theorem implPlain_yes (a b : Int) (w : World) (h1 : 1 ≤ a) (h2 : a ≤ 8) (h3 : 1 ≤ b) (h4 : b ≤ 8) : Calls Try.prog 21 #[.int .i64 a, .int .i64 b] w fun e w' => e = .returned (.tuple #[.agg (plainSh a b).row, .int .i64 0]) ∧ Below w.heap.size w w' := by
  have zz := zero_sheet
  have V_0 := Go.Lib.hid (heap_at w (.cells Sh.zero.row 33) w.heap.size rfl)
  have B_0 := Go.Lib.hid ((Below.refl w.heap.size w).alloc (Nat.le_refl _) (.cells Sh.zero.row 33))
  have HS := Go.Lib.hid (fun w => isSize_any a b w)
  rw [sizeB_yes h1 h2 h3 h4] at HS
  go_enter Try.func21, Try.ntmps21
  go_wp2_with (first
    | (go_at_call 58; (refine (HS.out _).mono ?_; rintro e Wn ⟨rfl, rfl⟩))
    | (refine wpList_built rfl 33 [(0, .tmp 12), (1, .tmp 14)] rfl [(0, .int .i8 a), (1, .int .i8 b)] (by rfl) _ (built_plain a b) ?_)
    | (refine wpList_storeall rfl 33 (.tmp 4) (.tmp 15) rfl _ rfl 266 Sh.zero.at (plainSh a b).at rfl 33 size_sheet V_0.out (fun i _ => (plainSh a b).one i) ?_))
  exact ret_row2 Try.results21 w.heap.size 266 (plainSh a b).at 33 _ Try.underlying33 rfl size_sheet (.int .i64 0) rfl rfl rfl (row_set V_0.out _) ⟨rfl, Below_setRow B_0.out (by omega) _⟩
set_option maxHeartbeats 400000 in
theorem implPlain_no (a b : Int) (w : World) (h : a < 1 ∨ 8 < a ∨ b < 1 ∨ 8 < b) : Calls Try.prog 21 #[.int .i64 a, .int .i64 b] w fun e w' => e = .returned (.tuple #[.agg Sh.zero.row, .int .i64 2]) ∧ Below w.heap.size w w' := by
  have zz := zero_sheet
  have V_0 := Go.Lib.hid (heap_at w (.cells Sh.zero.row 33) w.heap.size rfl)
  have B_0 := Go.Lib.hid ((Below.refl w.heap.size w).alloc (Nat.le_refl _) (.cells Sh.zero.row 33))
  have HS := Go.Lib.hid (fun w => isSize_any a b w)
  rw [sizeB_no h] at HS
  clear h
  go_enter Try.func21, Try.ntmps21
  go_wp2_with (first
    | (go_at_call 58; (refine (HS.out _).mono ?_; rintro e Wn ⟨rfl, rfl⟩))
    | (refine wpList_built rfl 33 [] rfl [] (by rfl) _ built_zero ?_)
    | (refine wpList_storeall rfl 33 (.tmp 4) (.tmp 10) rfl _ rfl 266 Sh.zero.at Sh.zero.at rfl 33 size_sheet V_0.out (fun i _ => Sh.zero.one i) ?_))
  exact ret_row2 Try.results21 w.heap.size 266 Sh.zero.at 33 _ Try.underlying33 rfl size_sheet (.int .i64 2) rfl rfl rfl (row_set V_0.out _) ⟨rfl, Below_setRow B_0.out (by omega) _⟩
end Go.Proofs.Ytianedkknlggmaa
