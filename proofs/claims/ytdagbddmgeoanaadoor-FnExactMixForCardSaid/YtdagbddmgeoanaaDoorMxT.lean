import Derived.Test.YtdagbddmgeoanaaDoorMxA
namespace Go.Proofs.YtdagbddmgeoanaaDoor
open Go.RowKit
set_option maxRecDepth 100000
set_option linter.unusedVariables false
set_option linter.unusedSimpArgs false
def tzM (v : Nat → Int) (k : Nat) (i : Nat) : Value := if i < k then .int .i64 (v i) else .int .i64 0
theorem tzM_one (v : Nat → Int) (k i : Nat) : (tzM v k i).oneCell' = true := by unfold tzM; split <;> rfl
theorem tzM_over (v : Nat → Int) (k : Nat) : vrow 3 (over (tzM v k) k 1 fun _ => .int .i64 (v k)) = vrow 3 (tzM v (k + 1)) := vrow_ext _ _ _ fun i hi => by
  unfold over tzM
  by_cases h : k ≤ i ∧ i < k + 1
  · obtain rfl : i = k := by omega
    rw [if_pos h, if_pos (by omega)]
  · rw [if_neg h]
    by_cases h2 : i < k
    · rw [if_pos h2, if_pos (by omega)]
    · rw [if_neg h2, if_neg (by omega)]
theorem tzM_3 (v : Nat → Int) : vrow 3 (tzM v 3) = vrow 3 (i3 v) := vrow_ext _ _ _ fun i hi => by unfold tzM i3; rw [if_pos hi]
theorem eqM_any (g : Nat → Int) (w : World) : Calls Tryd.prog 7 #[.agg (vrow 3 (i3 g)), .agg (vrow 3 (i3 g))] w fun e w' => e = .returned (.bool true) ∧ Below w.heap.size w w' := eqI3_any g w
set_option maxHeartbeats 4000000 in
theorem toA3_any (v : Nat → Int) (w : World) : Calls Tryd.prog 5 #[.agg (vrow 3 (i3 v))] w fun e w' => e = .returned (.agg (vrow 3 (i3 v))) ∧ Below w.heap.size w w' := by
  have zz := zero_i3
  have X : Hid ((((w.alloc (.cells (vrow 3 (i3 v)) 22)).alloc (.cells (vrow 3 fun _ => .int .i64 0) 22)).alloc (.cells (vrow 3 fun _ => .int .i64 0) 22)).heap[w.heap.size]? = some (.cells (vrow 3 (i3 v)) 22)) := (heap_past _ _ _ _ (by simp <;> omega) (heap_past _ _ _ _ (by simp <;> omega) (heap_at _ _ _ (by simp))))
  have Z : Hid ((((w.alloc (.cells (vrow 3 (i3 v)) 22)).alloc (.cells (vrow 3 fun _ => .int .i64 0) 22)).alloc (.cells (vrow 3 fun _ => .int .i64 0) 22)).heap[w.heap.size + 1]? = some (.cells (vrow 3 fun _ => .int .i64 0) 22)) := (heap_past _ _ _ _ (by simp <;> omega) (heap_at _ _ _ (by simp)))
  have Y : Hid ((((w.alloc (.cells (vrow 3 (i3 v)) 22)).alloc (.cells (vrow 3 fun _ => .int .i64 0) 22)).alloc (.cells (vrow 3 fun _ => .int .i64 0) 22)).heap[w.heap.size + 2]? = some (.cells (vrow 3 fun _ => .int .i64 0) 22)) := (heap_at _ _ _ (by simp))
  have hB : Hid (Below w.heap.size w (((w.alloc (.cells (vrow 3 (i3 v)) 22)).alloc (.cells (vrow 3 fun _ => .int .i64 0) 22)).alloc (.cells (vrow 3 fun _ => .int .i64 0) 22))) := Go.Lib.hid ((((Below.refl w.heap.size w).alloc (by simp <;> omega) _).alloc (by simp <;> omega) _).alloc (by simp <;> omega) _)
  go_enter Tryd.func5, Tryd.ntmps5
  go_wp2
  have a1 := X.out; have a2 := Z.out; have a3 := Y.out; have a4 := hB.out
  clear X Z Y hB
  go_loopw [4] (fun iv wr => ∃ k : Nat, k ≤ 3 ∧ iv = .int .i64 k ∧ wr.heap[w.heap.size]? = some (.cells (vrow 3 (i3 v)) 22) ∧ wr.heap[w.heap.size + 1]? = some (.cells (vrow 3 fun _ => .int .i64 0) 22) ∧ wr.heap[w.heap.size + 2]? = some (.cells (vrow 3 (tzM v k)) 22) ∧ Below w.heap.size w wr) (fun iv _ => 3 - (intOf iv).toNat)
  case atStart => exact ⟨0, by omega, rfl, a1, a2, a3, a4⟩
  case round =>
    clear a1 a2 a3 a4
    obtain ⟨k, hk, rfl, X, Z, Y, hB⟩ := hrel
    replace X := Go.Lib.hid X; replace Z := Go.Lib.hid Z; replace Y := Go.Lib.hid Y; replace hB := Go.Lib.hid hB
    by_cases hlt : k < 3
    · have hkI : (k : Int) < 3 := by omega
      have hk0 : (0 : Int) ≤ (k : Int) := by omega
      have hkd : decide ((k : Int) < 3) = true := by simpa using hkI
      have FK := Go.Lib.hid (i3_at v k)
      go_wp2_with (first
        | go_skip
        | ((with_reducible refine wlAt 12 rfl ?_); refine wpList_ld1 2 _ rfl (by first | exact want_n rfl | exact want_g _ _ _ rfl rfl rfl) w.heap.size _ rfl 3 (i3 v) _ rw_i64M X.out (by omega) ?_; simp only [Nat.zero_add, Nat.mul_one]; rw [FK.out])
        | ((with_reducible refine wlOp (.store 2 (.tmp 13) (.tmp 12)) rfl ?_); refine wpList_store1 rfl 2 (.tmp 13) (.tmp 12) rfl (w.heap.size + 2) k rfl 3 (tzM v k) (.int .i64 (v k)) rfl 22 size_i64c Y.out (by omega) rfl ?_; rw [tzM_over]; replace Y := Go.Lib.hid (row_set Y.out (vrow 3 (tzM v (k + 1)))); replace X := Go.Lib.hid (row_set' (g := w.heap.size + 2) (by omega) X.out (vrow 3 (tzM v (k + 1)))); replace Z := Go.Lib.hid (row_set' (g := w.heap.size + 2) (by omega) Z.out (vrow 3 (tzM v (k + 1)))); replace hB := Go.Lib.hid (Below_setRow hB.out (show w.heap.size ≤ w.heap.size + 2 by omega) (vrow 3 (tzM v (k + 1))))))
      go_roundw
      case rel => exact ⟨k + 1, by omega, by go_num, X.out, Z.out, Y.out, hB.out⟩
      case measure => simp [intOf]; omega
    · obtain rfl : k = 3 := by omega
      have hkd : decide (((3 : Nat) : Int) < 3) = false := by simp
      rw [tzM_3] at Y
      go_wp2_with (first
        | go_skip
        | ((with_reducible refine wlAt 14 rfl ?_); refine wpList_loadall rfl 22 (.tmp 3) rfl (w.heap.size + 2) rfl 3 (i3 v) 22 _ Tryd.underlying22 rfl size_i3 Y.out ?_)
        | ((with_reducible refine wlOp (.store 22 (.tmp 2) (.tmp 14)) rfl ?_); refine wpList_storeall rfl 22 (.tmp 2) (.tmp 14) rfl (w.heap.size + 1) rfl 3 (fun _ => .int .i64 0) (i3 v) rfl 22 size_i3 Z.out (fun i _ => i3_one _ i) ?_; replace Z := Go.Lib.hid (row_set Z.out (vrow 3 (i3 v))); replace hB := Go.Lib.hid (Below_setRow hB.out (show w.heap.size ≤ w.heap.size + 1 by omega) (vrow 3 (i3 v)))))
      exact ret_row Tryd.results5 (w.heap.size + 1) 3 (i3 v) 22 _ Tryd.underlying22 rfl size_i3 rfl rfl Z.out ⟨rfl, hB.out⟩
end Go.Proofs.YtdagbddmgeoanaaDoor
