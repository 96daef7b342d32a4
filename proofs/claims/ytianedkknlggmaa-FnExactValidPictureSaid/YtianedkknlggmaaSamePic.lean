import Derived.Test.YtianedkknlggmaaSame
import Derived.Test.YtianedkknlggmaaPic
namespace Go.Proofs.Ytianedkknlggmaa
open Go.RowKit
set_option maxRecDepth 100000
set_option linter.unusedVariables false
theorem rw_lpic : (Try.prog.underlying 77).map (·.isRow) = some true := by kernel_rfl
theorem size_lpic : (Try.prog.info? 77).map (·.size) = some 66 := by kernel_rfl
theorem cell_b64 : Try.prog.cellsOf 75 = 64 := by kernel_rfl
theorem pcell_x8 : Try.prog.cellsOf 29 = 8 := by kernel_rfl
theorem pcell_u8 : Try.prog.cellsOf 5 = 1 := by kernel_rfl
theorem psz1_u8 : (Try.prog.info? 5).map (·.size) = some 1 := by kernel_rfl
theorem rwr_b64 : (Try.prog.underlying 75).map (·.isRow) = some true := by kernel_rfl
theorem prwr_x8 : (Try.prog.underlying 29).map (·.isRow) = some true := by kernel_rfl
theorem det_inks (d : Nat) (f g : Nat → Value) (hf : IntRow .u8 64 f) (hg : IntRow .u8 64 g) : Det (Op.equalIn (d + 3) 75 (.agg (vrow 64 f)) (.agg (vrow 64 g))) :=
  det_arr (d + 2) Try.underlying75 prwr_x8 size_x8 pcell_x8 rfl fun o ho => det_arr1 d Try.underlying29 Try.underlying5 psz1_u8 pcell_u8 (hf.drop ho) (hg.drop ho)
theorem at_inks (s : Pic) : IntRow .u8 64 fun i => s.at (2 + i) := fun i hi => ⟨_, s.at_ink1 (2 + i) i rfl⟩
theorem fields_pic : (Try.prog.fieldsOf 79).toList.map (fun f => (f.name, f.type, f.offset)) = [("Wide", 22, 0), ("High", 22, 1), ("Inked", 75, 2)] := by kernel_rfl
theorem und_pic : Try.prog.underlying 79 = some (.struct (Try.prog.fieldsOf 79)) := by kernel_rfl
theorem stood_pic : Try.prog.stoodInHeld 79 = false := by kernel_rfl
theorem det_pic (a b : Pic) : Det (Op.equalIn 10000 79 (.agg a.row) (.agg b.row)) := by
  obtain ⟨r, hr⟩ := det_fields 9999 a.row b.row (Try.prog.fieldsOf 79).toList (fun f hf => by
    have hm : (f.name, f.type, f.offset) ∈ [("Wide", 22, 0), ("High", 22, 1), ("Inked", 75, 2)] := by
      rw [← fields_pic]; exact List.mem_map_of_mem hf
    simp only [List.mem_cons, List.not_mem_nil, or_false, Prod.mk.injEq] at hm
    rcases hm with ⟨h1, h2, h3⟩ | ⟨h1, h2, h3⟩ | ⟨h1, h2, h3⟩ <;> rw [h1, h2, h3] <;> refine ⟨by decide, ?_⟩
    · exact ⟨_, _, part_one rw_i8 (by omega), part_one rw_i8 (by omega), det_int 9998 Try.underlying22 a.wide b.wide⟩
    · exact ⟨_, _, part_one rw_i8 (by omega), part_one rw_i8 (by omega), det_int 9998 Try.underlying22 a.high b.high⟩
    · exact ⟨_, _, part_many rwr_b64 size_b64 cell_b64 (by omega), part_many rwr_b64 size_b64 cell_b64 (by omega), det_inks 9996 _ _ (at_inks a) (at_inks b)⟩)
  exact ⟨r, fun w => (run_equalIn_struct w 9999 _ _ _ und_pic stood_pic).trans (hr w)⟩
set_option maxHeartbeats 400000 in
theorem specSameP_any (a b : Pic) (v : Bool) (hq : ∀ w, (Op.equalIn 10000 79 (.agg a.row) (.agg b.row)).run Try.prog w = .ok v w) (w : World) : Calls Try.prog 52 #[.agg a.row, .agg b.row] w fun e w' => e = .returned (.bool v) ∧ Below w.heap.size w w' := by
  have hB : Hid (Below w.heap.size w ((w.alloc (.cells (vrow 66 a.at) 79)).alloc (.cells (vrow 66 b.at) 79))) := (((Below.refl w.heap.size w).alloc (by simp <;> omega) _).alloc (by simp <;> omega) _)
  have P : Hid (((w.alloc (.cells (vrow 66 a.at) 79)).alloc (.cells (vrow 66 b.at) 79)).heap[(w.heap.size)]? = some (.cells (vrow 66 a.at) 79)) := heap_past _ _ _ _ (by first | omega | (simp <;> omega)) (heap_at _ _ _ (by simp))
  have R : Hid (((w.alloc (.cells (vrow 66 a.at) 79)).alloc (.cells (vrow 66 b.at) 79)).heap[(w.heap.size + 1)]? = some (.cells (vrow 66 b.at) 79)) := heap_at _ _ _ (by simp)
  go_enter Try.func52, Try.ntmps52
  go_wp2_with (first
    | (refine wpList_loadall rfl 79 (.tmp 2) rfl _ rfl 66 a.at 79 _ Try.underlying79 rfl size_pic P.out ?_)
    | (refine wpList_loadall rfl 79 (.tmp 3) rfl _ rfl 66 b.at 79 _ Try.underlying79 rfl size_pic R.out ?_))
  go_ret
  exact ⟨rfl, hB.out⟩
set_option maxHeartbeats 400000 in
theorem implSameP_any (a b : Pic) (v : Bool) (hq : ∀ w, (Op.equalIn 10000 79 (.agg a.row) (.agg b.row)).run Try.prog w = .ok v w) (w : World) : Calls Try.prog 53 #[.agg a.row, .agg b.row] w fun e w' => e = .returned (.bool v) ∧ Below w.heap.size w w' := by
  have hB : Hid (Below w.heap.size w ((w.alloc (.cells (vrow 66 a.at) 79)).alloc (.cells (vrow 66 b.at) 79))) := (((Below.refl w.heap.size w).alloc (by simp <;> omega) _).alloc (by simp <;> omega) _)
  have P : Hid (((w.alloc (.cells (vrow 66 a.at) 79)).alloc (.cells (vrow 66 b.at) 79)).heap[(w.heap.size)]? = some (.cells (vrow 66 a.at) 79)) := heap_past _ _ _ _ (by first | omega | (simp <;> omega)) (heap_at _ _ _ (by simp))
  have R : Hid (((w.alloc (.cells (vrow 66 a.at) 79)).alloc (.cells (vrow 66 b.at) 79)).heap[(w.heap.size + 1)]? = some (.cells (vrow 66 b.at) 79)) := heap_at _ _ _ (by simp)
  go_enter Try.func53, Try.ntmps53
  go_wp2_with (first
    | (refine wpList_loadall rfl 79 (.tmp 2) rfl _ rfl 66 a.at 79 _ Try.underlying79 rfl size_pic P.out ?_)
    | (refine wpList_loadall rfl 79 (.tmp 3) rfl _ rfl 66 b.at 79 _ Try.underlying79 rfl size_pic R.out ?_))
  go_ret
  exact ⟨rfl, hB.out⟩
set_option maxHeartbeats 1000000 in
theorem sameP_law (a b : Pic) (w : World) : Calls Try.prog 14 #[.agg a.row, .agg b.row] w fun e w' => e = .returned (.bool true) ∧ Below w.heap.size w w' := by
  obtain ⟨v, hq⟩ := det_pic a b
  have HA := Go.Lib.hid fun w => toPicture_any a w
  have HB := Go.Lib.hid fun w => toPicture_any b w
  have HS := Go.Lib.hid fun w => specSameP_any a b v hq w
  have HI := Go.Lib.hid fun w => implSameP_any a b v hq w
  clear hq
  have hB : Hid (Below w.heap.size w ((w.alloc (.cells (vrow 66 a.at) 77)).alloc (.cells (vrow 66 b.at) 77))) := (((Below.refl w.heap.size w).alloc (by simp <;> omega) _).alloc (by simp <;> omega) _)
  have P : Hid (((w.alloc (.cells (vrow 66 a.at) 77)).alloc (.cells (vrow 66 b.at) 77)).heap[(w.heap.size)]? = some (.cells (vrow 66 a.at) 77)) := heap_past _ _ _ _ (by first | omega | (simp <;> omega)) (heap_at _ _ _ (by simp))
  have R : Hid (((w.alloc (.cells (vrow 66 a.at) 77)).alloc (.cells (vrow 66 b.at) 77)).heap[(w.heap.size + 1)]? = some (.cells (vrow 66 b.at) 77)) := heap_at _ _ _ (by simp)
  go_enter Try.func14, Try.ntmps14
  go_wp2
  (refine region_at (by kernel_rfl) (by kernel_rfl) ?_; intro W hW; rw [hW] at hB P R; clear hW; have P' := Go.Lib.hid (cls_row' P.out); have R' := Go.Lib.hid (cls_row' R.out); (repeat (first | go_big_quiet_skip | (refine wpQuiet_loadmid 77 _ rfl (by first | exact want_n rfl | exact want_g _ _ _ rfl rfl rfl) (w.heap.size) _ rfl 66 66 a.at _ rw_lpic size_lpic P'.out (by omega) ?_; rw [pic_row]; simp only [Act.put, List.setIfInBounds_toArray, List.set_cons_succ, List.set_cons_zero]) | (refine wpQuiet_loadmid 77 _ rfl (by first | exact want_n rfl | exact want_g _ _ _ rfl rfl rfl) (w.heap.size + 1) _ rfl 66 66 b.at _ rw_lpic size_lpic R'.out (by omega) ?_; rw [pic_row]; simp only [Act.put, List.setIfInBounds_toArray, List.set_cons_succ, List.set_cons_zero]) | go_big_quiet_step (first | (go_at_call 50; first | with_reducible exact cls_call _ (fun w hw => HA.out w) | with_reducible exact cls_call _ (fun w hw => HB.out w)) | (go_at_call 52; exact cls_call _ (fun w hw => HS.out w)) | (go_at_call 53; exact cls_call _ (fun w hw => HI.out w))))); refine wpQuiet_nil ?_; intro Wn hb; replace P := Go.Lib.hid (row_next hb P.out); replace R := Go.Lib.hid (row_next hb R.out); replace hB := Go.Lib.hid (below_next hB.out hb); clear hb P' R')
  go_wp2
  (refine region_at (by kernel_rfl) (by kernel_rfl) ?_; intro W hW; rw [hW] at hB P R; clear hW; have P' := Go.Lib.hid (cls_row' P.out); have R' := Go.Lib.hid (cls_row' R.out); (repeat (first | go_big_quiet_skip | (refine wpQuiet_loadmid 77 _ rfl (by first | exact want_n rfl | exact want_g _ _ _ rfl rfl rfl) (w.heap.size) _ rfl 66 66 a.at _ rw_lpic size_lpic P'.out (by omega) ?_; rw [pic_row]; simp only [Act.put, List.setIfInBounds_toArray, List.set_cons_succ, List.set_cons_zero]) | (refine wpQuiet_loadmid 77 _ rfl (by first | exact want_n rfl | exact want_g _ _ _ rfl rfl rfl) (w.heap.size + 1) _ rfl 66 66 b.at _ rw_lpic size_lpic R'.out (by omega) ?_; rw [pic_row]; simp only [Act.put, List.setIfInBounds_toArray, List.set_cons_succ, List.set_cons_zero]) | go_big_quiet_step (first | (go_at_call 50; first | with_reducible exact cls_call _ (fun w hw => HA.out w) | with_reducible exact cls_call _ (fun w hw => HB.out w)) | (go_at_call 52; exact cls_call _ (fun w hw => HS.out w)) | (go_at_call 53; exact cls_call _ (fun w hw => HI.out w))))); refine wpQuiet_nil ?_; intro Wn hb; replace P := Go.Lib.hid (row_next hb P.out); replace R := Go.Lib.hid (row_next hb R.out); replace hB := Go.Lib.hid (below_next hB.out hb); clear hb P' R')
  go_wp2
  go_ret
  exact ⟨rfl, hB.out⟩
end Go.Proofs.Ytianedkknlggmaa
