import Derived.Test.YtfgcpiipndhllaaDoorOpenPic
import Derived.Test.YtfgcpiipndhllaaDoorSamePic
import Derived.Test.YtfgcpiipndhllaaDoorToDrop
import Derived.Test.YtfgcpiipndhllaaDoorCodeOf
import Derived.Test.YtfgcpiipndhllaaDoorEqSheet
import Derived.Test.YtfgcpiipndhllaaDoorG1
import Derived.Test.YtfgcpiipndhllaaDoorQC
namespace Go.Proofs.YtfgcpiipndhllaaDoor
open Go.RowKit
set_option maxRecDepth 100000
set_option linter.unusedVariables false
set_option linter.unusedSimpArgs false
set_option maxRecDepth 100000 in
set_option maxHeartbeats 8000000 in
theorem cbl_walk (p : Pic) (x y n : Int) (r : Bool) (k : Int) (e : ErrE) (w : World) (hE : Errs e w)
    (hS : ∀ w, Calls Tryd.prog 39 #[.agg (vrow 66 p.at), .agg (vrow 3 (drAt x y n))] w fun o w' => o = .returned (.tuple #[.bool r, .int .i64 k]) ∧ Below w.heap.size w w')
    (hI : ∀ w, Errs e w → Calls Tryd.prog 40 #[.agg (vrow 66 p.at), .agg (vrow 3 (drAt x y n))] w fun o w' => o = .returned (.tuple #[.bool r, .int .i64 k]) ∧ Below w.heap.size w w') :
    Calls Tryd.prog 9 #[.agg (vrow 66 p.at), .agg (vrow 3 (drAt x y n))] w fun o w' => o = .returned (.bool true) ∧ Below w.heap.size w w' := by
  have HT0 := Go.Lib.hid fun w => toPicture_any p w
  have HT1 := Go.Lib.hid fun w => toDrop_any x y n w
  have HS := Go.Lib.hid hS; have HI := Go.Lib.hid hI
  clear hS hI
  have P0 : Hid (((w.alloc (.cells (vrow 66 p.at) 58)).alloc (.cells (vrow 3 (drAt x y n)) 60)).heap[w.heap.size]? = some (.cells (vrow 66 p.at) 58)) := (heap_past _ _ _ _ (by simp <;> omega) (heap_at _ _ _ (by simp)))
  have P1 : Hid (((w.alloc (.cells (vrow 66 p.at) 58)).alloc (.cells (vrow 3 (drAt x y n)) 60)).heap[w.heap.size + 1]? = some (.cells (vrow 3 (drAt x y n)) 60)) := (heap_at _ _ _ (by simp))
  have hB : Hid (Below w.heap.size w ((w.alloc (.cells (vrow 66 p.at) 58)).alloc (.cells (vrow 3 (drAt x y n)) 60))) := Go.Lib.hid (((Below.refl w.heap.size w).alloc (by simp <;> omega) _).alloc (by simp <;> omega) _)
  go_enter Tryd.func9, Tryd.ntmps9
  go_wp2
  refine region_qc 4 (by kernel_rfl) (by kernel_rfl) ?_
  intro W hW
  rw [hW] at hB P0 P1
  clear hW
  simp only [List.take_succ_cons, List.take_zero, List.drop_succ_cons, List.drop_zero]
  have P0' := Go.Lib.hid (cls_row' P0.out); have P1' := Go.Lib.hid (cls_row' P1.out)
  (refine wpQuiet_loadmid 58 (.tmp 2) rfl (by first | exact want_n rfl | exact want_g _ _ _ rfl rfl rfl) (w.heap.size) _ rfl 66 66 p.at _ rw_lpic size_lpic P0'.out (by omega) ?_; rw [pic_row]; simp only [Act.put, List.setIfInBounds_toArray, List.set_cons_succ, List.set_cons_zero])
  go_big_quiet_step ((go_at_call 28; exact cls_call _ (fun w hw => HT0.out w)))
  (refine wpQuiet_loadmid 60 (.tmp 3) rfl (by first | exact want_n rfl | exact want_g _ _ _ rfl rfl rfl) (w.heap.size + 1) _ rfl 3 3 (drAt x y n) _ rw_ldr size_ldr P1'.out (by omega) ?_; simp only [Nat.zero_add]; simp only [Act.put, List.setIfInBounds_toArray, List.set_cons_succ, List.set_cons_zero])
  go_big_quiet_step ((go_at_call 29; exact cls_call _ (fun w hw => HT1.out w)))
  refine wpQuiet_nil ?_
  intro Wn hb
  replace P0 := Go.Lib.hid (row_next hb P0.out); replace P1 := Go.Lib.hid (row_next hb P1.out); replace hB := Go.Lib.hid (below_next hB.out hb)
  clear hb P0' P1'
  refine wpOp_callV (R := fun u w' => u = .tuple #[.bool r, .int .i64 k] ∧ Below Wn.heap.size Wn w') rfl rfl ((HS.out _).mono fun o w' ⟨h1, h2⟩ => ⟨_, h1, rfl, h2⟩) (by kernel_rfl) ?_
  rintro _ w3 ⟨rfl, hb⟩
  replace P0 := Go.Lib.hid (row_next hb P0.out); replace P1 := Go.Lib.hid (row_next hb P1.out); replace hB := Go.Lib.hid (below_next hB.out hb)
  clear hb
  simp only [Act.put, List.setIfInBounds_toArray, List.set_cons_succ, List.set_cons_zero]
  repeat still_step
  refine wpStill_nil ?_
  go_wp2
  refine region_qc 4 (by kernel_rfl) (by kernel_rfl) ?_
  intro W hW
  rw [hW] at hB P0 P1
  clear hW
  simp only [List.take_succ_cons, List.take_zero, List.drop_succ_cons, List.drop_zero]
  have P0' := Go.Lib.hid (cls_row' P0.out); have P1' := Go.Lib.hid (cls_row' P1.out)
  (refine wpQuiet_loadmid 58 (.tmp 2) rfl (by first | exact want_n rfl | exact want_g _ _ _ rfl rfl rfl) (w.heap.size) _ rfl 66 66 p.at _ rw_lpic size_lpic P0'.out (by omega) ?_; rw [pic_row]; simp only [Act.put, List.setIfInBounds_toArray, List.set_cons_succ, List.set_cons_zero])
  go_big_quiet_step ((go_at_call 28; exact cls_call _ (fun w hw => HT0.out w)))
  (refine wpQuiet_loadmid 60 (.tmp 3) rfl (by first | exact want_n rfl | exact want_g _ _ _ rfl rfl rfl) (w.heap.size + 1) _ rfl 3 3 (drAt x y n) _ rw_ldr size_ldr P1'.out (by omega) ?_; simp only [Nat.zero_add]; simp only [Act.put, List.setIfInBounds_toArray, List.set_cons_succ, List.set_cons_zero])
  go_big_quiet_step ((go_at_call 29; exact cls_call _ (fun w hw => HT1.out w)))
  refine wpQuiet_nil ?_
  intro Wn hb
  replace P0 := Go.Lib.hid (row_next hb P0.out); replace P1 := Go.Lib.hid (row_next hb P1.out); replace hB := Go.Lib.hid (below_next hB.out hb)
  clear hb P0' P1'
  refine wpOp_callV (R := fun u w' => u = .tuple #[.bool r, .int .i64 k] ∧ Below Wn.heap.size Wn w') rfl rfl ((HI.out _ (hE.next hB.out)).mono fun o w' ⟨h1, h2⟩ => ⟨_, h1, rfl, h2⟩) (by kernel_rfl) ?_
  rintro _ w3 ⟨rfl, hb⟩
  replace P0 := Go.Lib.hid (row_next hb P0.out); replace P1 := Go.Lib.hid (row_next hb P1.out); replace hB := Go.Lib.hid (below_next hB.out hb)
  clear hb
  simp only [Act.put, List.setIfInBounds_toArray, List.set_cons_succ, List.set_cons_zero]
  repeat still_step
  refine wpStill_nil ?_
  go_wp2_with (first | go_skip | fail)
  go_ret
  exact ⟨rfl, hB.out⟩
end Go.Proofs.YtfgcpiipndhllaaDoor
