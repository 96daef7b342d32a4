import Derived.Deep.RegionHeld3
import Derived.Test.YtfhfiaphdgfmnaaDoorStS
import Derived.Test.YtfhfiaphdgfmnaaDoorEqSheet
import Derived.Test.YtfhfiaphdgfmnaaDoorPB1
namespace Go.Proofs.YtfhfiaphdgfmnaaDoor
open Go.RowKit
set_option maxRecDepth 100000
set_option linter.unusedVariables false
set_option linter.unusedSimpArgs false
theorem szK_any (ao : Option Addr) (n cap : Nat) (l : Int) (hn : n ≤ 9223372036854775807) (hl : 0 ≤ l ∧ l ≤ 1048576) (w : World) : Calls Tryd.prog 11 #[.slice ao n cap, .int .i64 l] w fun e w' => e = .returned (.int .i64 (if (n : Int) ≤ l then l - (n : Int) else -1)) ∧ Below w.heap.size w w' := by
  obtain ⟨hl0, hl1⟩ := hl
  by_cases h : (n : Int) ≤ l
  · have hd : decide (l - (n : Int) < 0) = false := by simp; omega
    rw [if_pos h]
    go_enter Tryd.func11, Tryd.ntmps11
    go_wp2
    go_ret
    exact ⟨rfl, Below.refl _ _⟩
  · have hd : decide (l - (n : Int) < 0) = true := by simp; omega
    rw [if_neg h]
    go_enter Tryd.func11, Tryd.ntmps11
    go_wp2
    go_ret
    exact ⟨rfl, Below.refl _ _⟩
set_option maxHeartbeats 4000000 in
theorem toStack_new (ao : Option Addr) (n cap : Nat) (ss : Nat → Sh) (w : World) (hn : n ≤ 1048576) (hp : StC w ao n ss) : Calls Tryd.prog 13 #[.slice ao n cap] w fun e w' => e = .returned (.slice (some ⟨w.heap.size, 0, none⟩) n n) ∧ w'.heap[w.heap.size]? = some (.cells (vrow (n * 266) (stF ss)) 39) ∧ Below w.heap.size w w' := by
  have H0 := Go.Lib.hid hp
  have HP := Go.Lib.hid hp
  have hB := Go.Lib.hid (Below.refl w.heap.size w)
  clear hp
  go_enter Tryd.func13, Tryd.ntmps13
  go_wp2_with (first
    | go_skip
    | ((with_reducible refine wlAt 7 rfl ?_); refine wpList_make266 rfl (.tmp 6) (.tmp 6) _ rfl 39 Tryd.underlying35 info_sh266 n rfl rfl hn ?_; have R := Go.Lib.hid (heap_at w (.cells (vrow (n * 266) fun i => Sh.zero.at (i % 266)) 39) _ rfl); replace hB := Go.Lib.hid (hB.out.alloc (Nat.le_refl _) (.cells (vrow (n * 266) fun i => Sh.zero.at (i % 266)) 39)); replace HP := Go.Lib.hid (HP.out.next ((Below.refl w.heap.size w).alloc (Nat.le_refl _) (.cells (vrow (n * 266) fun i => Sh.zero.at (i % 266)) 39)))))
  generalize World.alloc w _ = W1 at R hB HP ⊢
  go_loopw [4] (fun iv wr => ∃ k : Nat, k ≤ n ∧ iv = .int .i64 k ∧ wr.heap[w.heap.size]? = some (.cells (vrow (n * 266) (stK ss k)) 39) ∧ StC wr ao n ss ∧ Below w.heap.size w wr) (fun iv _ => n - (intOf iv).toNat)
  case atStart => exact ⟨0, by omega, rfl, by rw [stK_0]; exact R.out, HP.out, hB.out⟩
  case round =>
    clear R HP hB
    obtain ⟨k, hk, rfl, R, HP, hB⟩ := hrel
    replace R := Go.Lib.hid R; replace hB := Go.Lib.hid hB
    by_cases hlt : k < n
    · obtain ⟨b, off, rfl, hbl, hc⟩ := HP (by omega)
      have hbw : b < w.heap.size := by
        obtain ⟨b0, o0, he, hb0, _⟩ := H0.out (by omega)
        simp only [Option.some.injEq, Addr.mk.injEq] at he
        rw [he.1]; exact hb0
      have HC0 := Go.Lib.hid (hc k hlt); replace HP := Go.Lib.hid HP
      have HTS := Go.Lib.hid fun w => toSheet_any (ss k) w
      have hstep := stK_step ss (n * 266) k
      have hone := Go.Lib.hid (Sh.one (ss k))
      generalize ss k = sk at *
      have HST := Go.Lib.hid hstep
      have hsz := hB.out.size
      have hkI : (k : Int) < (n : Int) := by omega
      have hnl : (n : Int) ≤ 1048576 := by omega
      clear hc hstep
      go_wp2_with (first
        | go_skip
        | ((with_reducible refine wlAt 19 rfl ?_); refine wpList_loadcN rfl 32 (.tmp 18) rfl b (off + k * 266) rfl 266 sk.at _ Tryd.underlying32 rfl size_lsheet HC0.out ?_)
        | (go_at_call 14; (refine (HTS.out _).mono ?_); rintro o w1 ⟨rfl, hb⟩; replace R := Go.Lib.hid (row_next hb R.out); replace HP := Go.Lib.hid (HP.out.next hb); replace hB := Go.Lib.hid (below_next hB.out hb); clear hb HC0)
        | ((with_reducible refine wlOp (.store 39 (.tmp 21) (.tmp 20)) rfl ?_); refine wpList_storemid rfl 39 (.tmp 21) (.tmp 20) rfl w.heap.size (k * 266) rfl (n * 266) 266 (stK ss k) sk.at rfl 39 size_sheet R.out (by omega) (fun i _ => hone.out i) ?_; rw [HST.out]; replace HP := Go.Lib.hid (HP.out.set0 (show b ≠ w.heap.size by omega) (vrow (n * 266) (stK ss (k + 1)))); replace R := Go.Lib.hid (row_set R.out (vrow (n * 266) (stK ss (k + 1)))); replace hB := Go.Lib.hid (Below_setRow hB.out (Nat.le_refl _) (vrow (n * 266) (stK ss (k + 1))))))
      go_roundw
      case rel => exact ⟨k + 1, by omega, by go_num, R.out, HP.out, hB.out⟩
      case measure => simp [intOf]; omega
    · obtain rfl : k = n := by omega
      have hd : decide ((k : Int) < (k : Int)) = false := by simp
      replace HP := Go.Lib.hid HP
      go_wp2
      go_ret
      exact ⟨rfl, by rw [← stK_n]; exact R.out, hB.out⟩
set_option maxHeartbeats 4000000 in
theorem eqK0_any (a1 a2 : Option Addr) (c1 c2 : Nat) (w : World) : Calls Tryd.prog 16 #[.slice a1 0 c1, .slice a2 0 c2] w fun e w' => e = .returned (.bool true) ∧ Below w.heap.size w w' := by
  go_enter Tryd.func16, Tryd.ntmps16
  go_wp2
  go_loopw [5] (fun iv wr => iv = .int .i64 0 ∧ wr = w) (fun _ _ => 0)
  case atStart => exact ⟨rfl, rfl⟩
  case round =>
    obtain ⟨rfl, rfl⟩ := hrel
    go_wp2
    go_ret
    exact ⟨rfl, Below.refl _ _⟩
set_option maxHeartbeats 4000000 in
theorem eqK_any (v1 v2 : Value) (n L1 L2 : Nat) (ss : Nat → Sh) (w : World) (hn : n ≤ 1048576) (h1 : SlK w v1 n ss L1) (h2 : SlK w v2 n ss L2) : Calls Tryd.prog 16 #[v1, v2] w fun e w' => e = .returned (.bool true) ∧ Below w.heap.size w w' := by
  obtain ⟨a1, c1, rfl, h1⟩ := h1
  obtain ⟨a2, c2, rfl, h2⟩ := h2
  by_cases h0 : 0 < n
  rotate_left
  · obtain rfl : n = 0 := by omega
    exact eqK0_any a1 a2 c1 c2 w
  obtain ⟨D1, N1, f1, rfl, hd1, hN1, hr1, hf1⟩ := h1 h0
  obtain ⟨D2, N2, f2, rfl, hd2, hN2, hr2, hf2⟩ := h2 h0
  have R1 := Go.Lib.hid hr1
  have R2 := Go.Lib.hid hr2
  have hB := Go.Lib.hid (Below.refl w.heap.size w)
  clear hr1 hr2 h1 h2 h0
  go_enter Tryd.func16, Tryd.ntmps16
  go_wp2
  go_loopw [5] (fun iv wr => ∃ k : Nat, k ≤ n ∧ iv = .int .i64 k ∧ wr.heap[D1]? = some (.cells (vrow N1 f1) 39) ∧ wr.heap[D2]? = some (.cells (vrow N2 f2) 39) ∧ Below w.heap.size w wr) (fun iv _ => n - (intOf iv).toNat)
  case atStart => exact ⟨0, by omega, rfl, R1.out, R2.out, hB.out⟩
  case round =>
    clear R1 R2 hB
    obtain ⟨k, hk, rfl, R1, R2, hB⟩ := hrel
    replace R1 := Go.Lib.hid R1; replace R2 := Go.Lib.hid R2; replace hB := Go.Lib.hid hB
    by_cases hlt : k < n
    · have hkI : (k : Int) < (n : Int) := by omega
      have hnl : (n : Int) ≤ 1048576 := by omega
      have hsz := hB.out.size
      have HA := Go.Lib.hid (hf1 k hlt).row
      have HC := Go.Lib.hid (hf2 k hlt).row
      have HES := Go.Lib.hid fun w => eqSheet_any (ss k) w
      generalize ss k = sk at HA HC HES
      go_wp2
      refine wp_region_still_tail 8 (by kernel_rfl) (by kernel_rfl) ?_
      simp only [List.take_succ_cons, List.take_zero, List.drop_succ_cons, List.drop_zero, World.drew_eq]
      repeat (first
        | (refine wpStill_loadmid rfl 39 (.tmp 19) rfl D1 (k * 266) rfl N1 266 f1 39 _ Tryd.underlying39 rfl size_sheet R1.out (by omega) ?_; rw [HA.out]; (try simp only [Act.put, List.setIfInBounds_toArray, List.set_cons_succ, List.set_cons_zero]))
        | (refine wpStill_loadmid rfl 39 (.tmp 23) rfl D2 (k * 266) rfl N2 266 f2 39 _ Tryd.underlying39 rfl size_sheet R2.out (by omega) ?_; rw [HC.out]; (try simp only [Act.put, List.setIfInBounds_toArray, List.set_cons_succ, List.set_cons_zero]))
        | still_step)
      refine wpStill_nil ?_
      replace R1 := Go.Lib.hid (drwP R1.out); replace R2 := Go.Lib.hid (drwP R2.out); replace hB := Go.Lib.hid (hB.out.drew)
      generalize World.drew _ = W2 at R1 R2 hB ⊢
      go_wp2_with (first
        | go_skip
        | (go_at_call 21; (refine (HES.out _).mono ?_); rintro o w1 ⟨rfl, hb⟩; replace R1 := Go.Lib.hid (row_next hb R1.out); replace R2 := Go.Lib.hid (row_next hb R2.out); replace hB := Go.Lib.hid (below_next hB.out hb); clear hb))
      go_roundw
      case rel => exact ⟨k + 1, by omega, by go_num, R1.out, R2.out, hB.out⟩
      case measure => simp [intOf]; omega
    · obtain rfl : k = n := by omega
      have hd : decide ((k : Int) < (k : Int)) = false := by simp
      go_wp2
      go_ret
      exact ⟨rfl, hB.out⟩
end Go.Proofs.YtfhfiaphdgfmnaaDoor
