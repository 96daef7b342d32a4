import Derived.Test.YtmcpaangofdmpaaDoorFoV
import Derived.Test.YtmcpaangofdmpaaDoorCodeOf
import Derived.Test.YtmcpaangofdmpaaDoorEqSheet
import Derived.Test.YtmcpaangofdmpaaDoorG1
import Derived.Test.YtmcpaangofdmpaaDoorQC
namespace Go.Proofs.YtmcpaangofdmpaaDoor
open Go.RowKit
set_option maxRecDepth 100000
set_option linter.unusedVariables false
set_option linter.unusedSimpArgs false
set_option maxRecDepth 100000 in
set_option maxHeartbeats 8000000 in
theorem pu_walk (s : Sh) (ax : Int) (d : Bool) (p : Int) (off : Int) (r : Int) (k : Int) (e : ErrE) (w : World) (hE : Errs e w)
    (hS : ∀ w, Calls Tryd.prog 22 #[.agg (vrow 266 s.at), .agg (vrow 3 (foAt ax d p)), .int .i64 off] w fun o w' => o = .returned (.tuple #[.int .i64 r, .int .i64 k]) ∧ Below w.heap.size w w')
    (hI : ∀ w, Errs e w → Calls Tryd.prog 23 #[.agg (vrow 266 s.at), .agg (vrow 3 (foAt ax d p)), .int .i64 off] w fun o w' => o = .returned (.tuple #[.int .i64 r, .int .i64 k]) ∧ Below w.heap.size w w') :
    Calls Tryd.prog 5 #[.agg (vrow 266 s.at), .agg (vrow 3 (foAt ax d p)), .int .i64 off] w fun o w' => o = .returned (.bool true) ∧ Below w.heap.size w w' := by
  have HT0 := Go.Lib.hid fun w => toSheet_any s w
  have HT1 := Go.Lib.hid fun w => toFold_any ax d p w
  have HS := Go.Lib.hid hS; have HI := Go.Lib.hid hI
  clear hS hI
  have P0 : Hid (((w.alloc (.cells (vrow 266 s.at) 31)).alloc (.cells (vrow 3 (foAt ax d p)) 33)).heap[w.heap.size]? = some (.cells (vrow 266 s.at) 31)) := (heap_past _ _ _ _ (by simp <;> omega) (heap_at _ _ _ (by simp)))
  have P1 : Hid (((w.alloc (.cells (vrow 266 s.at) 31)).alloc (.cells (vrow 3 (foAt ax d p)) 33)).heap[w.heap.size + 1]? = some (.cells (vrow 3 (foAt ax d p)) 33)) := (heap_at _ _ _ (by simp))
  have hB : Hid (Below w.heap.size w ((w.alloc (.cells (vrow 266 s.at) 31)).alloc (.cells (vrow 3 (foAt ax d p)) 33))) := Go.Lib.hid (((Below.refl w.heap.size w).alloc (by simp <;> omega) _).alloc (by simp <;> omega) _)
  go_enter Tryd.func5, Tryd.ntmps5
  go_wp2
  refine region_qc 5 (by kernel_rfl) (by kernel_rfl) ?_
  intro W hW
  rw [hW] at hB P0 P1
  clear hW
  simp only [List.take_succ_cons, List.take_zero, List.drop_succ_cons, List.drop_zero]
  have P0' := Go.Lib.hid (cls_row' P0.out); have P1' := Go.Lib.hid (cls_row' P1.out)
  (refine wpQuiet_loadmid 31 (.tmp 3) rfl (by first | exact want_n rfl | exact want_g _ _ _ rfl rfl rfl) (w.heap.size) _ rfl 266 266 s.at _ rw_lsheet size_lsheet P0'.out (by omega) ?_; rw [sh_row]; simp only [Act.put, List.setIfInBounds_toArray, List.set_cons_succ, List.set_cons_zero])
  go_big_quiet_step ((go_at_call 13; exact cls_call _ (fun w hw => HT0.out w)))
  (refine wpQuiet_loadmid 33 (.tmp 4) rfl (by first | exact want_n rfl | exact want_g _ _ _ rfl rfl rfl) (w.heap.size + 1) _ rfl 3 3 (foAt ax d p) _ rw_lfold size_lfold P1'.out (by omega) ?_; simp only [Nat.zero_add]; simp only [Act.put, List.setIfInBounds_toArray, List.set_cons_succ, List.set_cons_zero])
  go_big_quiet_step ((go_at_call 14; exact cls_call _ (fun w hw => HT1.out w)))
  go_big_quiet_step (fail)
  refine wpQuiet_nil ?_
  intro Wn hb
  replace P0 := Go.Lib.hid (row_next hb P0.out); replace P1 := Go.Lib.hid (row_next hb P1.out); replace hB := Go.Lib.hid (below_next hB.out hb)
  clear hb P0' P1'
  refine wpOp_callV (R := fun u w' => u = .tuple #[.int .i64 r, .int .i64 k] ∧ Below Wn.heap.size Wn w') rfl rfl ((HS.out _).mono fun o w' ⟨h1, h2⟩ => ⟨_, h1, rfl, h2⟩) (by kernel_rfl) ?_
  rintro _ w3 ⟨rfl, hb⟩
  replace P0 := Go.Lib.hid (row_next hb P0.out); replace P1 := Go.Lib.hid (row_next hb P1.out); replace hB := Go.Lib.hid (below_next hB.out hb)
  clear hb
  simp only [Act.put, List.setIfInBounds_toArray, List.set_cons_succ, List.set_cons_zero]
  repeat still_step
  refine wpStill_nil ?_
  go_wp2
  refine region_qc 5 (by kernel_rfl) (by kernel_rfl) ?_
  intro W hW
  rw [hW] at hB P0 P1
  clear hW
  simp only [List.take_succ_cons, List.take_zero, List.drop_succ_cons, List.drop_zero]
  have P0' := Go.Lib.hid (cls_row' P0.out); have P1' := Go.Lib.hid (cls_row' P1.out)
  (refine wpQuiet_loadmid 31 (.tmp 3) rfl (by first | exact want_n rfl | exact want_g _ _ _ rfl rfl rfl) (w.heap.size) _ rfl 266 266 s.at _ rw_lsheet size_lsheet P0'.out (by omega) ?_; rw [sh_row]; simp only [Act.put, List.setIfInBounds_toArray, List.set_cons_succ, List.set_cons_zero])
  go_big_quiet_step ((go_at_call 13; exact cls_call _ (fun w hw => HT0.out w)))
  (refine wpQuiet_loadmid 33 (.tmp 4) rfl (by first | exact want_n rfl | exact want_g _ _ _ rfl rfl rfl) (w.heap.size + 1) _ rfl 3 3 (foAt ax d p) _ rw_lfold size_lfold P1'.out (by omega) ?_; simp only [Nat.zero_add]; simp only [Act.put, List.setIfInBounds_toArray, List.set_cons_succ, List.set_cons_zero])
  go_big_quiet_step ((go_at_call 14; exact cls_call _ (fun w hw => HT1.out w)))
  go_big_quiet_step (fail)
  refine wpQuiet_nil ?_
  intro Wn hb
  replace P0 := Go.Lib.hid (row_next hb P0.out); replace P1 := Go.Lib.hid (row_next hb P1.out); replace hB := Go.Lib.hid (below_next hB.out hb)
  clear hb P0' P1'
  refine wpOp_callV (R := fun u w' => u = .tuple #[.int .i64 r, .int .i64 k] ∧ Below Wn.heap.size Wn w') rfl rfl ((HI.out _ (hE.next hB.out)).mono fun o w' ⟨h1, h2⟩ => ⟨_, h1, rfl, h2⟩) (by kernel_rfl) ?_
  rintro _ w3 ⟨rfl, hb⟩
  replace P0 := Go.Lib.hid (row_next hb P0.out); replace P1 := Go.Lib.hid (row_next hb P1.out); replace hB := Go.Lib.hid (below_next hB.out hb)
  clear hb
  simp only [Act.put, List.setIfInBounds_toArray, List.set_cons_succ, List.set_cons_zero]
  repeat still_step
  refine wpStill_nil ?_
  go_wp2_with (first | go_skip | fail)
  go_ret
  exact ⟨rfl, hB.out⟩
end Go.Proofs.YtmcpaangofdmpaaDoor
