import Derived.StillTail
import Derived.StillTailTactics
import Derived.Deep.RegionHeld3
import Derived.Test.YtfgcpiipndhllaaDoorDrS
import Derived.Test.YtfgcpiipndhllaaDoorPathE
namespace Go.Proofs.YtfgcpiipndhllaaDoor
open Go.RowKit
set_option maxRecDepth 100000
set_option linter.unusedVariables false
set_option linter.unusedSimpArgs false
theorem drAt_2f (x y n : Int) : drAt x y n 2 = .int .u8 n := rfl
set_option maxHeartbeats 1000000 in
theorem eqDr_any (x y n : Int) (w : World) : Calls Tryd.prog 91 #[.agg (vrow 3 (drAt x y n)), .agg (vrow 3 (drAt x y n))] w fun e w' => e = .returned (.bool true) ∧ Below w.heap.size w w' := by
  have P : Hid (((w.alloc (.cells (vrow 3 (drAt x y n)) 66)).alloc (.cells (vrow 3 (drAt x y n)) 66)).heap[w.heap.size]? = some (.cells (vrow 3 (drAt x y n)) 66)) := (heap_past _ _ _ _ (by simp <;> omega) (heap_at _ _ _ (by simp)))
  have R : Hid (((w.alloc (.cells (vrow 3 (drAt x y n)) 66)).alloc (.cells (vrow 3 (drAt x y n)) 66)).heap[w.heap.size + 1]? = some (.cells (vrow 3 (drAt x y n)) 66)) := (heap_at _ _ _ (by simp))
  have hB : Hid (Below w.heap.size w ((w.alloc (.cells (vrow 3 (drAt x y n)) 66)).alloc (.cells (vrow 3 (drAt x y n)) 66))) := Go.Lib.hid (((Below.refl w.heap.size w).alloc (by simp <;> omega) _).alloc (by simp <;> omega) _)
  go_enter Tryd.func91, Tryd.ntmps91
  go_wp2_with (first
    | go_skip
    | ((with_reducible refine wlAt 6 rfl ?_); refine wpList_ldm 33 _ rfl (by first | exact want_n rfl | exact want_g _ _ _ rfl rfl rfl) (w.heap.size) _ rfl 3 2 (drAt x y n) _ rw_spot size_spot P.out (by omega) ?_; rw [dr_spot])
    | ((with_reducible refine wlAt 8 rfl ?_); refine wpList_ldm 33 _ rfl (by first | exact want_n rfl | exact want_g _ _ _ rfl rfl rfl) (w.heap.size + 1) _ rfl 3 2 (drAt x y n) _ rw_spot size_spot R.out (by omega) ?_; rw [dr_spot])
    | ((with_reducible refine wlAt 12 rfl ?_); refine wpList_ld1 5 _ rfl (by first | exact want_n rfl | exact want_g _ _ _ rfl rfl rfl) (w.heap.size) 2 rfl 3 (drAt x y n) _ rw_u8 P.out (by omega) ?_; (try rw [drAt_2f]))
    | ((with_reducible refine wlAt 14 rfl ?_); refine wpList_ld1 5 _ rfl (by first | exact want_n rfl | exact want_g _ _ _ rfl rfl rfl) (w.heap.size + 1) 2 rfl 3 (drAt x y n) _ rw_u8 R.out (by omega) ?_; (try rw [drAt_2f]))
    | (go_at_call 17; (refine (eqSp_any x y _).mono ?_); rintro o w1 ⟨rfl, hb⟩; replace P := Go.Lib.hid (row_next hb P.out); replace R := Go.Lib.hid (row_next hb R.out); replace hB := Go.Lib.hid (below_next hB.out hb); clear hb))
  go_ret
  exact ⟨rfl, hB.out⟩
set_option maxHeartbeats 2000000 in
theorem eqDropS_any (D1 D2 n : Nat) (px py pn : Nat → Int) (w : World) (hn : n ≤ 1048576) (h1 : w.heap[D1]? = some (.cells (vrow (n * 3) (drf px py pn)) 66)) (h2 : w.heap[D2]? = some (.cells (vrow (n * 3) (drf px py pn)) 66)) : Calls Tryd.prog 36 #[.slice (some ⟨D1, 0, none⟩) n n, .slice (some ⟨D2, 0, none⟩) n n] w fun e w' => e = .returned (.bool true) ∧ Below w.heap.size w w' := by
  have R1 := Go.Lib.hid h1
  have R2 := Go.Lib.hid h2
  have hB := Go.Lib.hid (Below.refl w.heap.size w)
  clear h1 h2
  go_enter Tryd.func36, Tryd.ntmps36
  go_wp2
  go_loopw [5] (fun iv wr => ∃ k : Nat, k ≤ n ∧ iv = .int .i64 k ∧ wr.heap[D1]? = some (.cells (vrow (n * 3) (drf px py pn)) 66) ∧ wr.heap[D2]? = some (.cells (vrow (n * 3) (drf px py pn)) 66) ∧ Below w.heap.size w wr) (fun iv _ => n - (intOf iv).toNat)
  case atStart => exact ⟨0, by omega, rfl, R1.out, R2.out, hB.out⟩
  case round =>
    clear R1 R2 hB
    obtain ⟨k, hk, rfl, R1, R2, hB⟩ := hrel
    replace R1 := Go.Lib.hid R1; replace R2 := Go.Lib.hid R2; replace hB := Go.Lib.hid hB
    by_cases hlt : k < n
    · have hkI : (k : Int) < (n : Int) := by omega
      have hnl : (n : Int) ≤ 1048576 := by omega
      have hsz := hB.out.size
      go_wp2
      refine wp_region_still_tail 8 (by kernel_rfl) (by kernel_rfl) ?_
      simp only [List.take_succ_cons, List.take_zero, List.drop_succ_cons, List.drop_zero, World.drew_eq]
      repeat (first
        | (refine wpStill_loadmid rfl 66 (.tmp 19) rfl D1 (k * 3) rfl (n * 3) 3 (drf px py pn) 66 _ Tryd.underlying66 rfl size_dr R1.out (by omega) ?_; rw [drf_three]; (try simp only [Act.put, List.setIfInBounds_toArray, List.set_cons_succ, List.set_cons_zero]))
        | (refine wpStill_loadmid rfl 66 (.tmp 23) rfl D2 (k * 3) rfl (n * 3) 3 (drf px py pn) 66 _ Tryd.underlying66 rfl size_dr R2.out (by omega) ?_; rw [drf_three]; (try simp only [Act.put, List.setIfInBounds_toArray, List.set_cons_succ, List.set_cons_zero]))
        | still_step)
      refine wpStill_nil ?_
      replace R1 := Go.Lib.hid (drwP R1.out); replace R2 := Go.Lib.hid (drwP R2.out); replace hB := Go.Lib.hid (hB.out.drew)
      generalize World.drew _ = W2 at R1 R2 hB ⊢
      go_wp2_with (first
        | go_skip
        | (go_at_call 91; (refine (eqDr_any (px k) (py k) (pn k) _).mono ?_); rintro o w1 ⟨rfl, hb⟩; replace R1 := Go.Lib.hid (row_next hb R1.out); replace R2 := Go.Lib.hid (row_next hb R2.out); replace hB := Go.Lib.hid (below_next hB.out hb); clear hb))
      go_roundw
      case rel => exact ⟨k + 1, by omega, by go_num, R1.out, R2.out, hB.out⟩
      case measure => simp [intOf]; omega
    · obtain rfl : k = n := by omega
      have hd : decide ((k : Int) < (k : Int)) = false := by simp
      go_wp2
      go_ret
      exact ⟨rfl, hB.out⟩
end Go.Proofs.YtfgcpiipndhllaaDoor
