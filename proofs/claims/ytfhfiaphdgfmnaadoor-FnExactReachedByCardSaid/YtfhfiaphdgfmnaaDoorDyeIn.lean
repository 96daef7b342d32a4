import Derived.Test.YtfhfiaphdgfmnaaDoorDyeL
import Derived.Test.YtfhfiaphdgfmnaaDoorCodeOf
import Derived.Test.YtfhfiaphdgfmnaaDoorG1
namespace Go.Proofs.YtfhfiaphdgfmnaaDoor
open Go.RowKit
set_option maxRecDepth 100000
set_option linter.unusedVariables false
set_option maxHeartbeats 400000 in
theorem eqA3_any (f : Nat → Value) (g : Nat → Int) (hfg : ∀ i, i < 3 → f i = .int .i64 (g i)) (w : World) : Calls Tryd.prog 26 #[.agg (vrow 3 f), .agg (vrow 3 f)] w fun e w' => e = .returned (.bool true) ∧ Below w.heap.size w w' := by
  have hB : Hid (Below w.heap.size w ((w.alloc (.cells (vrow 3 f) 50)).alloc (.cells (vrow 3 f) 50))) := (((Below.refl w.heap.size w).alloc (by simp <;> omega) _).alloc (by simp <;> omega) _)
  have P : Hid (((w.alloc (.cells (vrow 3 f) 50)).alloc (.cells (vrow 3 f) 50)).heap[(w.heap.size)]? = some (.cells (vrow 3 f) 50)) := heap_past _ _ _ _ (by first | omega | (simp <;> omega)) (heap_at _ _ _ (by simp))
  have R : Hid (((w.alloc (.cells (vrow 3 f) 50)).alloc (.cells (vrow 3 f) 50)).heap[(w.heap.size + 1)]? = some (.cells (vrow 3 f) 50)) := heap_at _ _ _ (by simp)
  go_enter Tryd.func26, Tryd.ntmps26
  go_wp2
  go_loopw [5] (fun i wr => ∃ k : Nat, k ≤ 3 ∧ i = .int .i64 k ∧ Below w.heap.size w wr ∧ wr.heap[w.heap.size]? = some (.cells (vrow 3 f) 50) ∧ wr.heap[w.heap.size + 1]? = some (.cells (vrow 3 f) 50)) (fun i _ => 3 - (intOf i).toNat)
  case atStart => exact ⟨0, by omega, rfl, hB.out, P.out, R.out⟩
  case round =>
    clear hB P R
    obtain ⟨k, hk, rfl, hB, P, R⟩ := hrel
    replace hB := Go.Lib.hid hB; replace P := Go.Lib.hid P; replace R := Go.Lib.hid R
    by_cases hlt : k < 3
    · have hxI : (k : Int) < 3 := by omega
      go_wp2
      (refine region_at (by kernel_rfl) (by kernel_rfl) ?_; intro W hW; rw [hW] at hB P R; clear hW; have P' := Go.Lib.hid (cls_row' P.out); have R' := Go.Lib.hid (cls_row' R.out); (repeat (first | go_big_quiet_skip | (refine wpQuiet_load1 2 _ rfl (by first | exact want_n rfl | exact want_g _ _ _ rfl rfl rfl) (w.heap.size) _ rfl 3 f _ rw_i64 P'.out (by omega) ?_; rw [hfg k hlt]; simp only [Act.put, List.setIfInBounds_toArray, List.set_cons_succ, List.set_cons_zero]) | (refine wpQuiet_load1 2 _ rfl (by first | exact want_n rfl | exact want_g _ _ _ rfl rfl rfl) (w.heap.size + 1) _ rfl 3 f _ rw_i64 R'.out (by omega) ?_; rw [hfg k hlt]; simp only [Act.put, List.setIfInBounds_toArray, List.set_cons_succ, List.set_cons_zero]) | go_big_quiet_step (fail))); refine wpQuiet_nil ?_; intro Wn hb; replace P := Go.Lib.hid (row_next hb P.out); replace R := Go.Lib.hid (row_next hb R.out); replace hB := Go.Lib.hid (below_next hB.out hb); clear hb P' R')
      go_wp2
      go_roundw
      case rel => exact ⟨k + 1, by omega, by go_num, hB.out, P.out, R.out⟩
      case measure => simp [intOf]; omega
    · obtain rfl : k = 3 := by omega
      go_wp2
      go_ret
      exact ⟨rfl, hB.out⟩
end Go.Proofs.YtfhfiaphdgfmnaaDoor
