import Derived.Deep.RegionHeld3
import Derived.Test.YtdagbddmgeoanaaDoorMxT
import Derived.Test.YtdagbddmgeoanaaDoorCodeOf
import Derived.Test.YtdagbddmgeoanaaDoorG1
namespace Go.Proofs.YtdagbddmgeoanaaDoor
open Go.RowKit
set_option maxRecDepth 100000
set_option linter.unusedVariables false
set_option linter.unusedSimpArgs false
set_option maxHeartbeats 8000000 in
theorem mxL_walk (v : Nat → Int) (P : Int) (m : Nat → Int) (x : Int) (c : Int) (e : ErrE) (w : World) (hE : Errs e w)
    (hS : ∀ w, Calls Tryd.prog 4 #[.agg (vrow 3 (i3 v)), .int .i64 P] w fun e w' => e = .returned (.tuple #[.agg (vrow 3 (i3 m)), .int .i64 x, .int .i64 c]) ∧ Below w.heap.size w w')
    (hI : ∀ w, Errs e w → Calls Tryd.prog 6 #[.agg (vrow 3 (i3 v)), .int .i64 P] w fun e w' => e = .returned (.tuple #[.agg (vrow 3 (i3 m)), .int .i64 x, .int .i64 c]) ∧ Below w.heap.size w w') : Calls Tryd.prog 3 #[.agg (vrow 3 (i3 v)), .int .i64 P] w fun o w' => o = .returned (.bool true) ∧ Below w.heap.size w w' := by
  have zz_a3 := zero_i3
  have HT0 := Go.Lib.hid (fun w => toA3_any v w)
  have HS := Go.Lib.hid hS; have HI := Go.Lib.hid hI
  clear hS hI
  have hB : Hid (Below w.heap.size w (w.alloc (.cells (vrow 3 (i3 v)) 22))) := ((Below.refl w.heap.size w).alloc (by simp <;> omega) _)
  have P0 : Hid ((w.alloc (.cells (vrow 3 (i3 v)) 22)).heap[w.heap.size]? = some (.cells (vrow 3 (i3 v)) 22)) := heap_at _ _ _ (by simp)
  go_enter Tryd.func3, Tryd.ntmps3
  go_wp2_with (first
    | go_skip
    | ((with_reducible refine wlAt 12 rfl ?_); refine wpList_loadall rfl 22 (.tmp 2) rfl _ rfl 3 (i3 v) 22 _ Tryd.underlying22 rfl size_i3 P0.out ?_)
    | ((with_reducible refine wlAt 20 rfl ?_); refine wpList_loadall rfl 22 (.tmp 2) rfl _ rfl 3 (i3 v) 22 _ Tryd.underlying22 rfl size_i3 P0.out ?_)
    | (go_at_call 5; ((with_reducible refine (HT0.out _).mono ?_)); rintro o w1 ⟨rfl, hb⟩; replace P0 := Go.Lib.hid (row_next hb P0.out); (try (replace U0 := Go.Lib.hid (row_next hb U0.out))); replace hB := Go.Lib.hid (below_next hB.out hb); clear hb)
    | (go_at_call 4; refine (HS.out _).mono ?_; rintro o w5 ⟨rfl, hb⟩; replace P0 := Go.Lib.hid (row_next hb P0.out); replace hB := Go.Lib.hid (below_next hB.out hb); clear hb)
    | (go_at_call 6; refine (HI.out _ (hE.next hB.out)).mono ?_; rintro o w7 ⟨rfl, hb⟩; replace P0 := Go.Lib.hid (row_next hb P0.out); (try (replace U0 := Go.Lib.hid (row_next hb U0.out))); replace hB := Go.Lib.hid (below_next hB.out hb); clear hb)
    | ((with_reducible refine wlOp (.store 22 (.tmp 5) (.tmp 16)) rfl ?_); have nbP0 := row_lt P0.out; have gb := hB.out.size; replace P0 := Go.Lib.hid (heap_past w5 (.cells (vrow 3 (fun _ => .int .i64 0)) 22) _ _ (row_lt P0.out) P0.out); have U0 := Go.Lib.hid (heap_at w5 (.cells (vrow 3 (fun _ => .int .i64 0)) 22) (w5.heap.size) (by simp)); replace hB := Go.Lib.hid (hB.out.alloc hB.out.size (.cells (vrow 3 (fun _ => .int .i64 0)) 22)); generalize hxb : w5.heap.size = bb at U0 nbP0 gb ⊢; generalize (World.alloc w5 _) = Xb at hB U0 P0 ⊢; clear hxb; refine wpList_storeall rfl 22 (.tmp 5) (.tmp 16) rfl (bb) rfl 3 (fun _ => .int .i64 0) (i3 m) rfl 22 size_i3 U0.out (fun i _ => rfl) ?_; replace U0 := Go.Lib.hid (row_set U0.out (vrow 3 (i3 m))); replace P0 := Go.Lib.hid (row_set' (g := bb) (by omega) P0.out (vrow 3 (i3 m))); replace hB := Go.Lib.hid (Below_setRow hB.out (g := bb) (by omega) (vrow 3 (i3 m))))
    | ((with_reducible refine wlOp (.store 22 (.tmp 8) (.tmp 24)) rfl ?_); have ncP0 := row_lt P0.out; have ncU0 := row_lt U0.out; have gc := hB.out.size; replace P0 := Go.Lib.hid (heap_past w7 (.cells (vrow 3 (fun _ => .int .i64 0)) 22) _ _ (row_lt P0.out) P0.out); replace U0 := Go.Lib.hid (heap_past w7 (.cells (vrow 3 (fun _ => .int .i64 0)) 22) _ _ (row_lt U0.out) U0.out); have V0 := Go.Lib.hid (heap_at w7 (.cells (vrow 3 (fun _ => .int .i64 0)) 22) (w7.heap.size) (by simp)); replace hB := Go.Lib.hid (hB.out.alloc hB.out.size (.cells (vrow 3 (fun _ => .int .i64 0)) 22)); generalize hxc : w7.heap.size = bc at V0 ncP0 ncU0 gc ⊢; generalize (World.alloc w7 _) = Xc at hB V0 P0 U0 ⊢; clear hxc; refine wpList_storeall rfl 22 (.tmp 8) (.tmp 24) rfl (bc) rfl 3 (fun _ => .int .i64 0) (i3 m) rfl 22 size_i3 V0.out (fun i _ => rfl) ?_; replace V0 := Go.Lib.hid (row_set V0.out (vrow 3 (i3 m))); replace P0 := Go.Lib.hid (row_set' (g := bc) (by omega) P0.out (vrow 3 (i3 m))); replace U0 := Go.Lib.hid (row_set' (g := bc) (by omega) U0.out (vrow 3 (i3 m))); replace hB := Go.Lib.hid (Below_setRow hB.out (g := bc) (by omega) (vrow 3 (i3 m))))
    | ((with_reducible refine wlAt 27 rfl ?_); refine wpList_loadall rfl 22 (.tmp 8) rfl _ rfl 3 (i3 m) 22 _ Tryd.underlying22 rfl size_i3 V0.out ?_)
    | ((with_reducible refine wlAt 28 rfl ?_); refine wpList_loadall rfl 22 (.tmp 5) rfl _ rfl 3 (i3 m) 22 _ Tryd.underlying22 rfl size_i3 U0.out ?_)
    | (go_at_call 7; (first | (with_reducible refine (eqM_any m _).mono ?_)); rintro o w3 ⟨rfl, hb⟩; (try (replace U0 := Go.Lib.hid (row_next hb U0.out))); (try (replace V0 := Go.Lib.hid (row_next hb V0.out))); replace hB := Go.Lib.hid (below_next hB.out hb); clear hb))
  go_ret
  exact ⟨rfl, hB.out⟩
end Go.Proofs.YtdagbddmgeoanaaDoor
