import Derived.Test.YtfdjlflnhhiecaaDoorG1
import Derived.Test.YtfdjlflnhhiecaaDoorReaders4
namespace Go.Proofs.YtfdjlflnhhiecaaDoor
open Go.RowKit
set_option maxRecDepth 100000
set_option linter.unusedVariables false
def Sh.dry (s : Sh) : Sh := { s with wet := fun _ => 0 }
theorem dry_at (s : Sh) : vrow 266 (over s.at 2 64 fun _ => .int .i16 0) = vrow 266 s.dry.at := vrow_ext _ _ _ fun i hi => by
  unfold over Sh.at Sh.dry
  by_cases h : 2 ≤ i ∧ i < 2 + 64
  · rw [if_pos h, if_neg (by omega), if_neg (by omega), if_pos (by omega)]
  · rw [if_neg h]
    by_cases h0 : i = 0
    · simp [h0]
    · by_cases h1 : i = 1
      · simp [h1]
      · have h66 : ¬ i < 66 := by omega
        simp [h0, h1, h66]
theorem built_wet : Tryd.prog.built 25 [] = some (vrow 64 fun _ => .int .i16 0) := by kernel_rfl
theorem built_zero : Tryd.prog.built 36 [] = some Sh.zero.row := by kernel_rfl
set_option maxHeartbeats 400000 in
theorem specDryAll_bad (s : Sh) (w : World) (hf : s.fit) (hv : okI s = false) : Calls Tryd.prog 34 #[.agg s.row] w fun e w' => e = .returned (.tuple #[.agg Sh.zero.row, .int .i64 0, .int .i64 1]) ∧ Below w.heap.size w w' := by
  have zz := zero_sheet
  have HO0 := fun w' hs => ok_any s w.heap.size w' hs hf
  rw [← ok_eq s hf, hv] at HO0
  have HO := Go.Lib.hid HO0
  have HW := Go.Lib.hid fun w' hs => lwater_any s w.heap.size w' hs hf
  clear HO0 hv
  have hB : Hid (Below w.heap.size w ((w.alloc (.cells (vrow 266 s.at) 36)).alloc (.cells (vrow 266 Sh.zero.at) 36))) := (((Below.refl w.heap.size w).alloc (by simp <;> omega) _).alloc (by simp <;> omega) _)
  have P : Hid (((w.alloc (.cells (vrow 266 s.at) 36)).alloc (.cells (vrow 266 Sh.zero.at) 36)).heap[(w.heap.size)]? = some (.cells (vrow 266 s.at) 36)) := heap_past _ _ _ _ (by first | omega | (simp <;> omega)) (heap_at _ _ _ (by simp))
  have Z : Hid (((w.alloc (.cells (vrow 266 s.at) 36)).alloc (.cells (vrow 266 Sh.zero.at) 36)).heap[(w.heap.size + 1)]? = some (.cells (vrow 266 Sh.zero.at) 36)) := heap_at _ _ _ (by simp)
  go_enter Tryd.func34, Tryd.ntmps34
  go_wp2_with (first
    | (go_at_call 61; refine (HO.out _ P.out).mono ?_; rintro o w1 ⟨rfl, hb⟩; replace P := Go.Lib.hid (row_next hb P.out); replace Z := Go.Lib.hid (row_next hb Z.out); replace hB := Go.Lib.hid (below_next hB.out hb); clear hb)
    | (go_at_call 62; refine (HW.out _ P.out).mono ?_; rintro o w1 ⟨rfl, hb⟩; replace P := Go.Lib.hid (row_next hb P.out); replace Z := Go.Lib.hid (row_next hb Z.out); replace hB := Go.Lib.hid (below_next hB.out hb); clear hb)
    | (refine wpList_built rfl 25 [] rfl [] (by rfl) _ built_wet ?_)
    | (refine wpList_built rfl 36 [] rfl [] (by rfl) _ built_zero ?_)
    | (refine wpList_storemid rfl 25 (.tmp 11) (.tmp 10) rfl w.heap.size 2 rfl 266 64 s.at (fun _ => .int .i16 0) rfl 36 size_r64 P.out (by omega) (fun _ _ => rfl) ?_; rw [dry_at]; replace P := Go.Lib.hid (row_set P.out (vrow 266 s.dry.at)); replace Z := Go.Lib.hid (row_set' (g := w.heap.size) (by omega) Z.out (vrow 266 s.dry.at)); replace hB := Go.Lib.hid (Below_setRow hB.out (Nat.le_refl _) (vrow 266 s.dry.at)))
    | (refine wpList_loadall rfl 36 (.tmp 1) rfl _ rfl 266 s.dry.at 36 _ Tryd.underlying36 rfl size_sheet P.out ?_)
    | (refine wpList_storeall rfl 36 (.tmp 2) (.tmp 12) rfl (w.heap.size + 1) rfl 266 Sh.zero.at s.dry.at rfl 36 size_sheet Z.out (fun i _ => Sh.one _ i) ?_; replace Z := Go.Lib.hid (row_set Z.out (vrow 266 s.dry.at)); replace hB := Go.Lib.hid (Below_setRow hB.out (show w.heap.size ≤ w.heap.size + 1 by omega) (vrow 266 s.dry.at)))
    | (refine wpList_storeall rfl 36 (.tmp 2) (.tmp 8) rfl (w.heap.size + 1) rfl 266 Sh.zero.at Sh.zero.at rfl 36 size_sheet Z.out (fun i _ => Sh.one _ i) ?_; replace Z := Go.Lib.hid (row_set Z.out (vrow 266 Sh.zero.at)); replace hB := Go.Lib.hid (Below_setRow hB.out (show w.heap.size ≤ w.heap.size + 1 by omega) (vrow 266 Sh.zero.at))))
  exact ret_row3 Tryd.results34 (w.heap.size + 1) 266 Sh.zero.at 36 _ Tryd.underlying36 rfl size_sheet (.int .i64 0) (.int .i64 1) rfl rfl rfl rfl Z.out ⟨rfl, hB.out⟩
set_option maxHeartbeats 400000 in
theorem specDryAll_ok (s : Sh) (w : World) (hf : s.fit) (hv : okI s = true) : Calls Tryd.prog 34 #[.agg s.row] w fun e w' => e = .returned (.tuple #[.agg s.dry.row, .int .i64 (wsum s 64), .int .i64 0]) ∧ Below w.heap.size w w' := by
  have zz := zero_sheet
  have HO0 := fun w' hs => ok_any s w.heap.size w' hs hf
  rw [← ok_eq s hf, hv] at HO0
  have HO := Go.Lib.hid HO0
  have HW := Go.Lib.hid fun w' hs => lwater_any s w.heap.size w' hs hf
  clear HO0 hv
  have hB : Hid (Below w.heap.size w ((w.alloc (.cells (vrow 266 s.at) 36)).alloc (.cells (vrow 266 Sh.zero.at) 36))) := (((Below.refl w.heap.size w).alloc (by simp <;> omega) _).alloc (by simp <;> omega) _)
  have P : Hid (((w.alloc (.cells (vrow 266 s.at) 36)).alloc (.cells (vrow 266 Sh.zero.at) 36)).heap[(w.heap.size)]? = some (.cells (vrow 266 s.at) 36)) := heap_past _ _ _ _ (by first | omega | (simp <;> omega)) (heap_at _ _ _ (by simp))
  have Z : Hid (((w.alloc (.cells (vrow 266 s.at) 36)).alloc (.cells (vrow 266 Sh.zero.at) 36)).heap[(w.heap.size + 1)]? = some (.cells (vrow 266 Sh.zero.at) 36)) := heap_at _ _ _ (by simp)
  go_enter Tryd.func34, Tryd.ntmps34
  go_wp2_with (first
    | (go_at_call 61; refine (HO.out _ P.out).mono ?_; rintro o w1 ⟨rfl, hb⟩; replace P := Go.Lib.hid (row_next hb P.out); replace Z := Go.Lib.hid (row_next hb Z.out); replace hB := Go.Lib.hid (below_next hB.out hb); clear hb)
    | (go_at_call 62; refine (HW.out _ P.out).mono ?_; rintro o w1 ⟨rfl, hb⟩; replace P := Go.Lib.hid (row_next hb P.out); replace Z := Go.Lib.hid (row_next hb Z.out); replace hB := Go.Lib.hid (below_next hB.out hb); clear hb)
    | (refine wpList_built rfl 25 [] rfl [] (by rfl) _ built_wet ?_)
    | (refine wpList_built rfl 36 [] rfl [] (by rfl) _ built_zero ?_)
    | (refine wpList_storemid rfl 25 (.tmp 11) (.tmp 10) rfl w.heap.size 2 rfl 266 64 s.at (fun _ => .int .i16 0) rfl 36 size_r64 P.out (by omega) (fun _ _ => rfl) ?_; rw [dry_at]; replace P := Go.Lib.hid (row_set P.out (vrow 266 s.dry.at)); replace Z := Go.Lib.hid (row_set' (g := w.heap.size) (by omega) Z.out (vrow 266 s.dry.at)); replace hB := Go.Lib.hid (Below_setRow hB.out (Nat.le_refl _) (vrow 266 s.dry.at)))
    | (refine wpList_loadall rfl 36 (.tmp 1) rfl _ rfl 266 s.dry.at 36 _ Tryd.underlying36 rfl size_sheet P.out ?_)
    | (refine wpList_storeall rfl 36 (.tmp 2) (.tmp 12) rfl (w.heap.size + 1) rfl 266 Sh.zero.at s.dry.at rfl 36 size_sheet Z.out (fun i _ => Sh.one _ i) ?_; replace Z := Go.Lib.hid (row_set Z.out (vrow 266 s.dry.at)); replace hB := Go.Lib.hid (Below_setRow hB.out (show w.heap.size ≤ w.heap.size + 1 by omega) (vrow 266 s.dry.at)))
    | (refine wpList_storeall rfl 36 (.tmp 2) (.tmp 8) rfl (w.heap.size + 1) rfl 266 Sh.zero.at Sh.zero.at rfl 36 size_sheet Z.out (fun i _ => Sh.one _ i) ?_; replace Z := Go.Lib.hid (row_set Z.out (vrow 266 Sh.zero.at)); replace hB := Go.Lib.hid (Below_setRow hB.out (show w.heap.size ≤ w.heap.size + 1 by omega) (vrow 266 Sh.zero.at))))
  exact ret_row3 Tryd.results34 (w.heap.size + 1) 266 s.dry.at 36 _ Tryd.underlying36 rfl size_sheet (.int .i64 (wsum s 64)) (.int .i64 0) rfl rfl rfl rfl Z.out ⟨rfl, hB.out⟩
set_option maxHeartbeats 400000 in
theorem implDryAll_bad (s : Sh) (e : ErrE) (w : World) (hE : Errs e w) (hv : okI s = false) (hf : s.fit := by assumption) : Calls Tryd.prog 35 #[.agg s.row] w fun o w' => o = .returned (.tuple #[.agg Sh.zero.row, .int .i64 0, .int .i64 1]) ∧ Below w.heap.size w w' := by
  have HC := Go.Lib.hid fun w hE => checkSheet_bad s hv e w hE
  clear hv
  have zz := zero_sheet
  have hB : Hid (Below w.heap.size w ((w.alloc (.cells (vrow 266 s.at) 36)).alloc (.cells (vrow 266 Sh.zero.at) 36))) := (((Below.refl w.heap.size w).alloc (by simp <;> omega) _).alloc (by simp <;> omega) _)
  have P : Hid (((w.alloc (.cells (vrow 266 s.at) 36)).alloc (.cells (vrow 266 Sh.zero.at) 36)).heap[(w.heap.size)]? = some (.cells (vrow 266 s.at) 36)) := heap_past _ _ _ _ (by first | omega | (simp <;> omega)) (heap_at _ _ _ (by simp))
  have Z : Hid (((w.alloc (.cells (vrow 266 s.at) 36)).alloc (.cells (vrow 266 Sh.zero.at) 36)).heap[(w.heap.size + 1)]? = some (.cells (vrow 266 Sh.zero.at) 36)) := heap_at _ _ _ (by simp)
  go_enter Tryd.func35, Tryd.ntmps35
  go_wp2_with (first
    | (refine wpList_loadall rfl 36 (.tmp 1) rfl _ rfl 266 s.at 36 _ Tryd.underlying36 rfl size_sheet P.out ?_)
    | (refine wpList_loadall rfl 36 (.tmp 1) rfl _ rfl 266 s.dry.at 36 _ Tryd.underlying36 rfl size_sheet P.out ?_)
    | (go_at_call 63; refine (HC.out _ (hE.next hB.out)).mono ?_; rintro o w1 ⟨rfl, hb⟩; replace P := Go.Lib.hid (row_next hb P.out); replace Z := Go.Lib.hid (row_next hb Z.out); replace hB := Go.Lib.hid (below_next hB.out hb); clear hb)
    | (go_at_call 47; refine (codeOf_1 e _ (hE.next hB.out)).mono ?_; rintro o w1 ⟨rfl, hb⟩; replace P := Go.Lib.hid (row_next hb P.out); replace Z := Go.Lib.hid (row_next hb Z.out); replace hB := Go.Lib.hid (below_next hB.out hb); clear hb)
    | (refine wpList_built rfl 36 [] rfl [] (by rfl) _ built_zero ?_)
    | (refine wpList_storeall rfl 36 (.tmp 2) (.tmp 11) rfl (w.heap.size + 1) rfl 266 Sh.zero.at Sh.zero.at rfl 36 size_sheet Z.out (fun i _ => Sh.one _ i) ?_; replace Z := Go.Lib.hid (row_set Z.out (vrow 266 Sh.zero.at)); replace hB := Go.Lib.hid (Below_setRow hB.out (show w.heap.size ≤ w.heap.size + 1 by omega) (vrow 266 Sh.zero.at))))
  exact ret_row3 Tryd.results35 (w.heap.size + 1) 266 Sh.zero.at 36 _ Tryd.underlying36 rfl size_sheet (.int .i64 0) (.int .i64 1) rfl rfl rfl rfl Z.out ⟨rfl, hB.out⟩
set_option maxHeartbeats 400000 in
theorem implDryAll_ok (s : Sh) (e : ErrE) (w : World) (hE : Errs e w) (hf : s.fit) (hv : okI s = true) : Calls Tryd.prog 35 #[.agg s.row] w fun o w' => o = .returned (.tuple #[.agg s.dry.row, .int .i64 (wsum s 64), .int .i64 0]) ∧ Below w.heap.size w w' := by
  have hb := hv
  simp only [okI, Bool.and_eq_true, decide_eq_true_eq] at hb
  obtain ⟨⟨hb1, hb2⟩, ⟨hb3, hb4⟩, _⟩ := hb
  have HW0 := fun w => water_any s w hf hb1 hb2 hb3 hb4
  rw [water_eq s hv] at HW0
  have HW := Go.Lib.hid HW0
  have HC := Go.Lib.hid fun w hE => checkSheet_ok s hv e w hE
  clear HW0 hb1 hb2 hb3 hb4 hv
  have zz := zero_sheet
  have hB : Hid (Below w.heap.size w ((w.alloc (.cells (vrow 266 s.at) 36)).alloc (.cells (vrow 266 Sh.zero.at) 36))) := (((Below.refl w.heap.size w).alloc (by simp <;> omega) _).alloc (by simp <;> omega) _)
  have P : Hid (((w.alloc (.cells (vrow 266 s.at) 36)).alloc (.cells (vrow 266 Sh.zero.at) 36)).heap[(w.heap.size)]? = some (.cells (vrow 266 s.at) 36)) := heap_past _ _ _ _ (by first | omega | (simp <;> omega)) (heap_at _ _ _ (by simp))
  have Z : Hid (((w.alloc (.cells (vrow 266 s.at) 36)).alloc (.cells (vrow 266 Sh.zero.at) 36)).heap[(w.heap.size + 1)]? = some (.cells (vrow 266 Sh.zero.at) 36)) := heap_at _ _ _ (by simp)
  go_enter Tryd.func35, Tryd.ntmps35
  go_wp2_with (first
    | (refine wpList_loadall rfl 36 (.tmp 1) rfl _ rfl 266 s.at 36 _ Tryd.underlying36 rfl size_sheet P.out ?_)
    | (refine wpList_loadall rfl 36 (.tmp 1) rfl _ rfl 266 s.dry.at 36 _ Tryd.underlying36 rfl size_sheet P.out ?_)
    | (go_at_call 63; refine (HC.out _ (hE.next hB.out)).mono ?_; rintro o w1 ⟨rfl, hb⟩; replace P := Go.Lib.hid (row_next hb P.out); replace Z := Go.Lib.hid (row_next hb Z.out); replace hB := Go.Lib.hid (below_next hB.out hb); clear hb)
    | (go_at_call 64; refine (HW.out _).mono ?_; rintro o w1 ⟨rfl, hb⟩; replace P := Go.Lib.hid (row_next hb P.out); replace Z := Go.Lib.hid (row_next hb Z.out); replace hB := Go.Lib.hid (below_next hB.out hb); clear hb)
    | (refine wpList_built rfl 25 [] rfl [] (by rfl) _ built_wet ?_)
    | (refine wpList_storemid rfl 25 (.tmp 17) (.tmp 16) rfl w.heap.size 2 rfl 266 64 s.at (fun _ => .int .i16 0) rfl 36 size_r64 P.out (by omega) (fun _ _ => rfl) ?_; rw [dry_at]; replace P := Go.Lib.hid (row_set P.out (vrow 266 s.dry.at)); replace Z := Go.Lib.hid (row_set' (g := w.heap.size) (by omega) Z.out (vrow 266 s.dry.at)); replace hB := Go.Lib.hid (Below_setRow hB.out (Nat.le_refl _) (vrow 266 s.dry.at)))
    | (refine wpList_storeall rfl 36 (.tmp 2) (.tmp 18) rfl (w.heap.size + 1) rfl 266 Sh.zero.at s.dry.at rfl 36 size_sheet Z.out (fun i _ => Sh.one _ i) ?_; replace Z := Go.Lib.hid (row_set Z.out (vrow 266 s.dry.at)); replace hB := Go.Lib.hid (Below_setRow hB.out (show w.heap.size ≤ w.heap.size + 1 by omega) (vrow 266 s.dry.at))))
  exact ret_row3 Tryd.results35 (w.heap.size + 1) 266 s.dry.at 36 _ Tryd.underlying36 rfl size_sheet (.int .i64 (wsum s 64)) (.int .i64 0) rfl rfl rfl rfl Z.out ⟨rfl, hB.out⟩
end Go.Proofs.YtfdjlflnhhiecaaDoor
