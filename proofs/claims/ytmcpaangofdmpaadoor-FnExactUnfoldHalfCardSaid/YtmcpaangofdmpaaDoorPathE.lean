import Derived.StillTail
import Derived.StillTailTactics
import Derived.Deep.RegionHeld3
import Derived.Test.YtmcpaangofdmpaaDoorPathS
namespace Go.Proofs.YtmcpaangofdmpaaDoor
open Go.RowKit
set_option maxRecDepth 100000
set_option linter.unusedVariables false
set_option linter.unusedSimpArgs false
theorem drwP {w : World} {b : Nat} {x : Obj} (h : w.heap[b]? = some x) : w.drew.heap[b]? = some x := h
set_option maxHeartbeats 2000000 in
theorem eqSpotS_any (D1 D2 n : Nat) (px py : Nat → Int) (w : World) (hn : n ≤ 1048576) (h1 : w.heap[D1]? = some (.cells (vrow (n * 2) (spf px py)) 111)) (h2 : w.heap[D2]? = some (.cells (vrow (n * 2) (spf px py)) 111)) : Calls Tryd.prog 39 #[.slice (some ⟨D1, 0, none⟩) n n, .slice (some ⟨D2, 0, none⟩) n n] w fun e w' => e = .returned (.bool true) ∧ Below w.heap.size w w' := by
  have R1 := Go.Lib.hid h1
  have R2 := Go.Lib.hid h2
  have hB := Go.Lib.hid (Below.refl w.heap.size w)
  clear h1 h2
  go_enter Tryd.func39, Tryd.ntmps39
  go_wp2
  go_loopw [5] (fun iv wr => ∃ k : Nat, k ≤ n ∧ iv = .int .i64 k ∧ wr.heap[D1]? = some (.cells (vrow (n * 2) (spf px py)) 111) ∧ wr.heap[D2]? = some (.cells (vrow (n * 2) (spf px py)) 111) ∧ Below w.heap.size w wr) (fun iv _ => n - (intOf iv).toNat)
  case atStart => exact ⟨0, by omega, rfl, R1.out, R2.out, hB.out⟩
  case round =>
    clear R1 R2 hB
    obtain ⟨k, hk, rfl, R1, R2, hB⟩ := hrel
    replace R1 := Go.Lib.hid R1; replace R2 := Go.Lib.hid R2; replace hB := Go.Lib.hid hB
    by_cases hlt : k < n
    · have hkI : (k : Int) < (n : Int) := by omega
      have hnl : (n : Int) ≤ 1048576 := by omega
      have hsz := hB.out.size
      go_wp2
      refine wp_region_still_tail 8 (by kernel_rfl) (by kernel_rfl) ?_
      simp only [List.take_succ_cons, List.take_zero, List.drop_succ_cons, List.drop_zero, World.drew_eq]
      repeat (first
        | (refine wpStill_loadmid rfl 111 (.tmp 19) rfl D1 (k * 2) rfl (n * 2) 2 (spf px py) 111 _ Tryd.underlying111 rfl size_spot R1.out (by omega) ?_; rw [spf_two]; (try simp only [Act.put, List.setIfInBounds_toArray, List.set_cons_succ, List.set_cons_zero]))
        | (refine wpStill_loadmid rfl 111 (.tmp 23) rfl D2 (k * 2) rfl (n * 2) 2 (spf px py) 111 _ Tryd.underlying111 rfl size_spot R2.out (by omega) ?_; rw [spf_two]; (try simp only [Act.put, List.setIfInBounds_toArray, List.set_cons_succ, List.set_cons_zero]))
        | still_step)
      refine wpStill_nil ?_
      replace R1 := Go.Lib.hid (drwP R1.out); replace R2 := Go.Lib.hid (drwP R2.out); replace hB := Go.Lib.hid (hB.out.drew)
      generalize World.drew _ = W2 at R1 R2 hB ⊢
      go_wp2_with (first
        | go_skip
        | (go_at_call 92; (refine (eqSp_any (px k) (py k) _).mono ?_); rintro o w1 ⟨rfl, hb⟩; replace R1 := Go.Lib.hid (row_next hb R1.out); replace R2 := Go.Lib.hid (row_next hb R2.out); replace hB := Go.Lib.hid (below_next hB.out hb); clear hb))
      go_roundw
      case rel => exact ⟨k + 1, by omega, by go_num, R1.out, R2.out, hB.out⟩
      case measure => simp [intOf]; omega
    · obtain rfl : k = n := by omega
      have hd : decide ((k : Int) < (k : Int)) = false := by simp
      go_wp2
      go_ret
      exact ⟨rfl, hB.out⟩
end Go.Proofs.YtmcpaangofdmpaaDoor
