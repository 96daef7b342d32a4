import Derived.Test.YtfhfiaphdgfmnaaDoorUnlD
import Derived.Test.YtfhfiaphdgfmnaaDoorG1
namespace Go.Proofs.YtfhfiaphdgfmnaaDoor
open Go.RowKit
set_option maxRecDepth 100000
set_option linter.unusedVariables false
set_option linter.unusedSimpArgs false
set_option maxHeartbeats 2000000 in
theorem unl_d3_err (fv : Value) (c : Int) (k : Nat) (e : ErrE) (w : World) (hE : Errs e w) (hc : ∀ w, Errs e w → Calls Tryd.prog 45 #[errP e k] w fun o w' => o = .returned (.int .i64 c) ∧ Below w.heap.size w w') :
    Calls Tryd.prog 59 #[errP e k, fv] w fun o w' => o = .returned (.tuple #[.agg (vrow 3 fun _ => .int .i64 0), .int .i64 c]) ∧ Below w.heap.size w w' := by
  have HC := Go.Lib.hid hc
  clear hc
  have zz := zero_a3u
  have E := Go.Lib.hid hE
  have hB : Hid (Below w.heap.size w ((w.alloc (.cells (vrow 3 fun _ => .int .i64 0) 50)).alloc (.cells (vrow 1 fun _ => .int .i64 0) 2))) := (((Below.refl w.heap.size w).alloc (by simp <;> omega) _).alloc (by simp <;> omega) _)
  have RZ : Hid (((w.alloc (.cells (vrow 3 fun _ => .int .i64 0) 50)).alloc (.cells (vrow 1 fun _ => .int .i64 0) 2)).heap[w.heap.size]? = some (.cells (vrow 3 fun _ => .int .i64 0) 50)) := heap_past _ _ _ _ (by first | omega | (simp <;> omega)) (heap_at _ _ _ (by simp))
  have C : Hid (((w.alloc (.cells (vrow 3 fun _ => .int .i64 0) 50)).alloc (.cells (vrow 1 fun _ => .int .i64 0) 2)).heap[w.heap.size + 1]? = some (.cells (vrow 1 fun _ => .int .i64 0) 2)) := heap_at _ _ _ (by simp)
  go_enter_defers Tryd.func59, Tryd.ntmps59
  go_wp2
  refine region_qt 3 (by kernel_rfl) (by kernel_rfl) ?_
  intro W hW
  have hW2 : ((w.alloc (.cells (vrow 3 fun _ => .int .i64 0) 50)).alloc (.cells (vrow 1 fun _ => .int .i64 0) 2)) = W := hW
  rw [hW2] at hB RZ C
  have E' := Go.Lib.hid (hE.next hB.out)
  clear hW hW2
  simp only [List.take_succ_cons, List.take_zero, List.drop_succ_cons, List.drop_zero]
  have RZ' := Go.Lib.hid (cls_row' RZ.out)
  (repeat (first
    | go_big_quiet_skip
    | (refine wpQuiet_loadmid 50 _ rfl (want_n rfl) w.heap.size 0 rfl 3 3 (fun _ => .int .i64 0) _ rw_i3 size_a3u RZ'.out (by omega) ?_; simp only [Nat.zero_add]; simp only [Act.put, List.setIfInBounds_toArray, List.set_cons_succ, List.set_cons_zero])
    | go_big_quiet_step ((go_at_call 45; exact cls_call _ (fun w hw => HC.out w (E'.out.next hw))))))
  refine wpQuiet_nil ?_
  intro Wn hb
  replace RZ := Go.Lib.hid (row_next hb RZ.out); replace C := Go.Lib.hid (row_next hb C.out); replace hB := Go.Lib.hid (below_next hB.out hb)
  clear hb RZ' E' E HC
  go_wp2_with (first
    | ((with_reducible refine wlOp (.store 50 (.tmp 4) (.tmp 8)) rfl ?_); refine wpList_storeall rfl 50 (.tmp 4) (.tmp 8) rfl w.heap.size rfl 3 (fun _ => .int .i64 0) (fun _ => .int .i64 0) rfl 50 size_a3u RZ.out (fun _ _ => rfl) ?_; replace C := Go.Lib.hid (row_set' (g := w.heap.size) (by omega) C.out (vrow 3 fun _ => .int .i64 0)); replace RZ := Go.Lib.hid (row_set RZ.out (vrow 3 fun _ => .int .i64 0)); replace hB := Go.Lib.hid (Below_setRow hB.out (Nat.le_refl _) (vrow 3 fun _ => .int .i64 0)))
    | ((with_reducible refine wlOp (.store 2 (.tmp 5) (.tmp 10)) rfl ?_); refine wpList_store1 rfl 2 (.tmp 5) (.tmp 10) rfl (w.heap.size + 1) 0 rfl 1 (fun _ => .int .i64 0) (.int .i64 c) rfl 2 size_i64w C.out (by omega) rfl ?_; rw [vrow_over_all]; replace RZ := Go.Lib.hid (row_set' (g := (w.heap.size + 1)) (by omega) RZ.out (vrow 1 fun _ => .int .i64 c)); replace C := Go.Lib.hid (row_set C.out (vrow 1 fun _ => .int .i64 c)); replace hB := Go.Lib.hid (Below_setRow hB.out (show w.heap.size ≤ (w.heap.size + 1) by omega) (vrow 1 fun _ => .int .i64 c))))
  exact ⟨_, res_cc Tryd.results59 w.heap.size 3 (fun _ => .int .i64 0) 50 _ Tryd.underlying50 rfl size_a3u rfl RZ.out rw_i64u (w.heap.size + 1) (.int .i64 c) 2 rfl C.out, rfl, hB.out⟩
end Go.Proofs.YtfhfiaphdgfmnaaDoor
