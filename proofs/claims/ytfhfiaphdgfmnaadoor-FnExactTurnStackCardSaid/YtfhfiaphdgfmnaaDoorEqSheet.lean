import Derived.Test.YtfhfiaphdgfmnaaDoorEqs
namespace Go.Proofs.YtfhfiaphdgfmnaaDoor
open Go.RowKit
set_option maxRecDepth 100000
set_option maxHeartbeats 1000000 in
theorem eqSheet_any (s : Sh) (w : World) :
    Calls Tryd.prog 21 #[.agg s.row, .agg s.row] w fun e w' => e = .returned (.bool true) ∧ Below w.heap.size w w' := by
  have P_0 : Hid (((w.alloc (.cells (vrow 266 s.at) 39)).alloc (.cells (vrow 266 s.at) 39)).heap[(w.heap.size)]? = some (.cells (vrow 266 s.at) 39)) := heap_past _ _ _ _ (by simp <;> omega) (heap_at _ _ _ (by simp))
  have R_0 : Hid (((w.alloc (.cells (vrow 266 s.at) 39)).alloc (.cells (vrow 266 s.at) 39)).heap[(w.heap.size + 1)]? = some (.cells (vrow 266 s.at) 39)) := heap_at _ _ _ (by simp)
  have B_0 : Hid (Below w.heap.size w ((w.alloc (.cells (vrow 266 s.at) 39)).alloc (.cells (vrow 266 s.at) 39))) := (((Below.refl w.heap.size w).alloc (by simp <;> omega) _).alloc (by simp <;> omega) _)
  go_enter Tryd.func21, Tryd.ntmps21
  go_wp2_with (first
    | (refine wpList_load1 rfl 23 (.tmp 5) rfl _ 0 rfl 266 s.at 39 _ Tryd.underlying23 rfl P_0.out (by omega) ?_; rw [Sh.at_0])
    | (refine wpList_load1 rfl 23 (.tmp 7) rfl _ 0 rfl 266 s.at 39 _ Tryd.underlying23 rfl R_0.out (by omega) ?_; rw [Sh.at_0])
    | (refine wpList_load1 rfl 23 (.tmp 10) rfl _ 1 rfl 266 s.at 39 _ Tryd.underlying23 rfl P_0.out (by omega) ?_; rw [Sh.at_1])
    | (refine wpList_load1 rfl 23 (.tmp 12) rfl _ 1 rfl 266 s.at 39 _ Tryd.underlying23 rfl R_0.out (by omega) ?_; rw [Sh.at_1])
    | (refine wpList_loadmid rfl 26 (.tmp 15) rfl _ 2 rfl 266 64 s.at 39 _ Tryd.underlying26 rfl size_r64 P_0.out (by omega) ?_; rw [Sh.at_wet])
    | (refine wpList_loadmid rfl 26 (.tmp 17) rfl _ 2 rfl 266 64 s.at 39 _ Tryd.underlying26 rfl size_r64 R_0.out (by omega) ?_; rw [Sh.at_wet])
    | (go_at_call 50; refine (eqInt16A8A8_any _ _).mono ?_; rintro e w1 ⟨rfl, hb⟩; have P_1 := Go.Lib.hid (row_call hb (by simp) P_0.out); have R_1 := Go.Lib.hid (row_call hb (by simp) R_0.out); have B_1 := Go.Lib.hid (below_call B_0.out hb (by simp)); clear hb B_0 P_0 R_0)
    | (refine wpList_loadmid rfl 29 (.tmp 21) rfl _ 66 rfl 266 192 s.at 39 _ Tryd.underlying29 rfl size_d192 P_1.out (by omega) ?_; rw [Sh.at_dye])
    | (refine wpList_loadmid rfl 29 (.tmp 23) rfl _ 66 rfl 266 192 s.at 39 _ Tryd.underlying29 rfl size_d192 R_1.out (by omega) ?_; rw [Sh.at_dye])
    | (go_at_call 51; refine (eqInt16A3A8A8_any _ _).mono ?_; rintro e w2 ⟨rfl, hb⟩; have P_2 := Go.Lib.hid (row_call hb (by simp) P_1.out); have R_2 := Go.Lib.hid (row_call hb (by simp) R_1.out); have B_2 := Go.Lib.hid (below_call B_1.out hb (by simp)); clear hb B_1 P_1 R_1)
    | (refine wpList_loadmid rfl 30 (.tmp 27) rfl _ 258 rfl 266 8 s.at 39 _ Tryd.underlying30 rfl size_x8 P_2.out (by omega) ?_; rw [Sh.at_wax])
    | (refine wpList_loadmid rfl 30 (.tmp 29) rfl _ 258 rfl 266 8 s.at 39 _ Tryd.underlying30 rfl size_x8 R_2.out (by omega) ?_; rw [Sh.at_wax])
    | (go_at_call 52; refine (eqByteA8_any _ _).mono ?_; rintro e w3 ⟨rfl, hb⟩; have P_3 := Go.Lib.hid (row_call hb (by simp) P_2.out); have R_3 := Go.Lib.hid (row_call hb (by simp) R_2.out); have B_3 := Go.Lib.hid (below_call B_2.out hb (by simp)); clear hb B_2 P_2 R_2))
  go_outline
  go_ret
  exact ⟨rfl, B_3.out⟩
end Go.Proofs.YtfhfiaphdgfmnaaDoor
