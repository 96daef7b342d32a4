import Derived.Deep.RegionHeld3
import Derived.Test.YtlbafaedmagmfaaDoorPath
namespace Go.Proofs.YtlbafaedmagmfaaDoor
open Go.RowKit
set_option maxRecDepth 100000
set_option linter.unusedVariables false
set_option linter.unusedSimpArgs false
theorem zero_sp2 : ∀ w, (zeroValue 48).run Tryd.prog w = .ok (.agg (vrow 2 (spAt 0 0))) w := fun _ => by kernel_rfl
theorem toSp_any (x y : Int) (w : World) : Calls Tryd.prog 34 #[.agg #[.int .i8 x, .int .i8 y]] w fun e w' => e = .returned (.agg #[.int .i8 x, .int .i8 y]) ∧ Below w.heap.size w w' := by
  go_enter Tryd.func34, Tryd.ntmps34
  go_wp2
  refine ret_row Tryd.results34 _ 2 (spAt x y) 48 _ Tryd.underlying48 rfl size_spot rfl rfl (heap_past _ _ _ _ (by simp) (heap_at _ _ _ (by simp))) ?_
  exact ⟨rfl, (((Below.refl _ _).alloc (Nat.le_refl _) _).alloc (by simp) _).alloc (by simp; omega) _⟩
set_option maxHeartbeats 400000 in
theorem eqSp_any (p q : Int) (w : World) : Calls Tryd.prog 28 #[.agg (vrow 2 (spAt p q)), .agg (vrow 2 (spAt p q))] w fun e w' => e = .returned (.bool true) ∧ Below w.heap.size w w' := by
  have hB : Hid (Below w.heap.size w ((w.alloc (.cells (vrow 2 (spAt p q)) 48)).alloc (.cells (vrow 2 (spAt p q)) 48))) := (((Below.refl w.heap.size w).alloc (by simp <;> omega) _).alloc (by simp <;> omega) _)
  have A : Hid (((w.alloc (.cells (vrow 2 (spAt p q)) 48)).alloc (.cells (vrow 2 (spAt p q)) 48)).heap[(w.heap.size)]? = some (.cells (vrow 2 (spAt p q)) 48)) := heap_past _ _ _ _ (by first | omega | (simp <;> omega)) (heap_at _ _ _ (by simp))
  have R : Hid (((w.alloc (.cells (vrow 2 (spAt p q)) 48)).alloc (.cells (vrow 2 (spAt p q)) 48)).heap[(w.heap.size + 1)]? = some (.cells (vrow 2 (spAt p q)) 48)) := heap_at _ _ _ (by simp)
  go_enter Tryd.func28, Tryd.ntmps28
  go_wp2_with (first
    | (refine list_at 6 rfl ?_; intro W hW; rw [hW] at hB A R; clear hW; have A' := Go.Lib.hid (cls_row' A.out); have R' := Go.Lib.hid (cls_row' R.out); (repeat (first | go_big_quiet_skip | (refine wpQuiet_load1 22 _ rfl (by first | exact want_n rfl | exact want_g _ _ _ rfl rfl rfl) (w.heap.size) _ rfl 2 (spAt p q) _ rw_i8 A'.out (by omega) ?_; (first | rw [spAt_0] | rw [spAt_1]); simp only [Act.put, List.setIfInBounds_toArray, List.set_cons_succ, List.set_cons_zero]) | (refine wpQuiet_load1 22 _ rfl (by first | exact want_n rfl | exact want_g _ _ _ rfl rfl rfl) (w.heap.size + 1) _ rfl 2 (spAt p q) _ rw_i8 R'.out (by omega) ?_; (first | rw [spAt_0] | rw [spAt_1]); simp only [Act.put, List.setIfInBounds_toArray, List.set_cons_succ, List.set_cons_zero]) | go_big_quiet_step (fail))); refine wpQuiet_nil ?_; intro Wn hb; replace A := Go.Lib.hid (row_next hb A.out); replace R := Go.Lib.hid (row_next hb R.out); replace hB := Go.Lib.hid (below_next hB.out hb); clear hb A' R')
    | (refine list_at 11 rfl ?_; intro W hW; rw [hW] at hB A R; clear hW; have A' := Go.Lib.hid (cls_row' A.out); have R' := Go.Lib.hid (cls_row' R.out); (repeat (first | go_big_quiet_skip | (refine wpQuiet_load1 22 _ rfl (by first | exact want_n rfl | exact want_g _ _ _ rfl rfl rfl) (w.heap.size) _ rfl 2 (spAt p q) _ rw_i8 A'.out (by omega) ?_; (first | rw [spAt_0] | rw [spAt_1]); simp only [Act.put, List.setIfInBounds_toArray, List.set_cons_succ, List.set_cons_zero]) | (refine wpQuiet_load1 22 _ rfl (by first | exact want_n rfl | exact want_g _ _ _ rfl rfl rfl) (w.heap.size + 1) _ rfl 2 (spAt p q) _ rw_i8 R'.out (by omega) ?_; (first | rw [spAt_0] | rw [spAt_1]); simp only [Act.put, List.setIfInBounds_toArray, List.set_cons_succ, List.set_cons_zero]) | go_big_quiet_step (fail))); refine wpQuiet_nil ?_; intro Wn hb; replace A := Go.Lib.hid (row_next hb A.out); replace R := Go.Lib.hid (row_next hb R.out); replace hB := Go.Lib.hid (below_next hB.out hb); clear hb A' R'))
  go_ret
  exact ⟨rfl, hB.out⟩
theorem spAt_one2 (x y : Int) (i : Nat) : (spAt x y i).oneCell' = true := by unfold spAt; split <;> rfl
set_option maxHeartbeats 2000000 in
theorem toSpotS_any (ao : Option Addr) (n cap : Nat) (px py : Nat → Int) (w : World) (hn : n ≤ 1048576) (hp : PathC w ao n px py) : Calls Tryd.prog 38 #[.slice ao n cap] w fun e w' => ∃ D, e = .returned (.slice (some ⟨D, 0, none⟩) n n) ∧ w'.heap[D]? = some (.cells (vrow (n * 2) (spf px py)) 48) ∧ Below w.heap.size w w' := by
  have H0 := Go.Lib.hid hp
  have HP := Go.Lib.hid hp
  have hB := Go.Lib.hid (Below.refl w.heap.size w)
  clear hp
  go_enter Tryd.func38, Tryd.ntmps38
  go_wp2_with (first
    | go_skip
    | ((with_reducible refine wlAt 7 rfl ?_); refine wpList_make2 rfl (.tmp 6) (.tmp 6) _ rfl 48 Tryd.underlying32 info_sp2 n rfl rfl hn ?_; have R := Go.Lib.hid (heap_at w (.cells (vrow (n * 2) fun _ => .int .i8 0) 48) _ rfl); replace hB := Go.Lib.hid (hB.out.alloc (Nat.le_refl _) (.cells (vrow (n * 2) fun _ => .int .i8 0) 48)); replace HP := Go.Lib.hid (HP.out.next ((Below.refl w.heap.size w).alloc (Nat.le_refl _) (.cells (vrow (n * 2) fun _ => .int .i8 0) 48)))))
  generalize World.alloc w _ = W1 at R hB HP ⊢
  go_loopw [4] (fun iv wr => ∃ k : Nat, k ≤ n ∧ iv = .int .i64 k ∧ wr.heap[w.heap.size]? = some (.cells (vrow (n * 2) (spk px py k)) 48) ∧ PathC wr ao n px py ∧ Below w.heap.size w wr) (fun iv _ => n - (intOf iv).toNat)
  case atStart => exact ⟨0, by omega, rfl, by rw [spk_0]; exact R.out, HP.out, hB.out⟩
  case round =>
    clear R HP hB
    obtain ⟨k, hk, rfl, R, HP, hB⟩ := hrel
    replace R := Go.Lib.hid R; replace hB := Go.Lib.hid hB
    by_cases hlt : k < n
    · obtain ⟨b, off, rfl, hbl, hc⟩ := HP (by omega)
      have hbw : b < w.heap.size := by
        obtain ⟨b0, o0, he, hb0, _⟩ := H0.out (by omega)
        simp only [Option.some.injEq, Addr.mk.injEq] at he
        rw [he.1]; exact hb0
      obtain ⟨hc0, hc1⟩ := hc k hlt
      have HC0 := Go.Lib.hid hc0; have HC1 := Go.Lib.hid hc1; replace HP := Go.Lib.hid HP
      have hsz := hB.out.size
      have hkI : (k : Int) < (n : Int) := by omega
      have hnl : (n : Int) ≤ 1048576 := by omega
      clear hc hc0 hc1
      go_wp2_with (first
        | go_skip
        | ((with_reducible refine wlAt 19 rfl ?_); refine wpList_loadc rfl 53 (.tmp 18) rfl b (off + k * 2) rfl (.int .i8 (px k)) (.int .i8 (py k)) _ Tryd.underlying53 rfl size_lspot2 HC0.out HC1.out ?_)
        | (go_at_call 34; (refine (toSp_any (px k) (py k) _).mono ?_); rintro o w1 ⟨rfl, hb⟩; replace R := Go.Lib.hid (row_next hb R.out); replace HP := Go.Lib.hid (HP.out.next hb); replace hB := Go.Lib.hid (below_next hB.out hb); clear hb HC0 HC1)
        | ((with_reducible refine wlOp (.store 48 (.tmp 21) (.tmp 20)) rfl ?_); refine wpList_storemid rfl 48 (.tmp 21) (.tmp 20) rfl w.heap.size (k * 2) rfl (n * 2) 2 (spk px py k) (spAt (px k) (py k)) rfl 48 size_spot R.out (by omega) (fun i _ => spAt_one2 _ _ i) ?_; rw [spk_step]; replace HP := Go.Lib.hid (HP.out.set0 (show b ≠ w.heap.size by omega) (vrow (n * 2) (spk px py (k + 1)))); replace R := Go.Lib.hid (row_set R.out (vrow (n * 2) (spk px py (k + 1)))); replace hB := Go.Lib.hid (Below_setRow hB.out (Nat.le_refl _) (vrow (n * 2) (spk px py (k + 1))))))
      go_roundw
      case rel => exact ⟨k + 1, by omega, by go_num, R.out, HP.out, hB.out⟩
      case measure => simp [intOf]; omega
    · obtain rfl : k = n := by omega
      have hd : decide ((k : Int) < (k : Int)) = false := by simp
      replace HP := Go.Lib.hid HP
      go_wp2
      go_ret
      exact ⟨w.heap.size, rfl, by rw [← spk_n]; exact R.out, hB.out⟩
end Go.Proofs.YtlbafaedmagmfaaDoor
