import Derived.Test.YtfhfiaphdgfmnaaDoorDyP
import Derived.Test.YtfhfiaphdgfmnaaDoorStZ
import Derived.Test.YtfhfiaphdgfmnaaDoorOpenSk
import Derived.Test.YtfhfiaphdgfmnaaDoorEqSheet
namespace Go.Proofs.YtfhfiaphdgfmnaaDoor
open Go.RowKit
set_option maxRecDepth 100000
set_option linter.unusedVariables false
set_option linter.unusedSimpArgs false
set_option maxRecDepth 100000 in
set_option maxHeartbeats 8000000 in
theorem dk_walk (ao : Option Addr) (n cap : Nat) (ss : Nat → Sh) (g : Nat → Int) (rc : Int) (e : ErrE) (w : World) (hE : Errs e w) (hm : n ≤ 9223372036854775807) (hp : StC w ao n ss)
    (hS : n ≤ 1048576 → ∀ D w, w.heap[D]? = some (.cells (vrow (n * 266) (stF ss)) 39) → Calls Tryd.prog 24 #[.slice (some ⟨D, 0, none⟩) n n] w fun o w' => o = .returned (.tuple #[.agg (vrow 3 (ivF g)), .int .i64 rc]) ∧ Below w.heap.size w w')
    (hI : n ≤ 1048576 → ∀ D w, Errs e w → w.heap[D]? = some (.cells (vrow (n * 266) (stF ss)) 39) → Calls Tryd.prog 25 #[.slice (some ⟨D, 0, none⟩) n n] w fun o w' => o = .returned (.tuple #[.agg (vrow 3 (ivF g)), .int .i64 rc]) ∧ Below w.heap.size w w') :
    Calls Tryd.prog 6 #[.slice ao n cap] w fun o w' => o = .returned (.bool true) ∧ Below w.heap.size w w' := by
  have hB : Hid (Below w.heap.size w w) := Go.Lib.hid (Below.refl _ _)
  have HP := Go.Lib.hid hp
  clear hp
  by_cases hn : n ≤ 1048576
  rotate_left
  · have HZ := Go.Lib.hid fun w => szS_no ao n cap 1048576 hm ⟨by omega, by omega⟩ (by omega) w
    have hneg : decide ((-1 : Int) < 0) = true := by simp
    clear hS hI
    go_enter Tryd.func6, Tryd.ntmps6
    go_wp2_with (first
      | go_skip
      | (go_at_call 11; (refine (HZ.out _).mono ?_); rintro e w1 ⟨rfl, hb⟩; (try (replace R1 := Go.Lib.hid (row_next hb R1.out))); (try (replace R2 := Go.Lib.hid (row_next hb R2.out))); (try (replace R3 := Go.Lib.hid (row_next hb R3.out))); (try (replace R4 := Go.Lib.hid (row_next hb R4.out))); replace HP := Go.Lib.hid (HP.out.next hb); replace hB := Go.Lib.hid (below_next hB.out hb); clear hb))
    go_ret
    exact ⟨rfl, hB.out⟩
  · have HZ := Go.Lib.hid fun w => szS_yes ao n cap 1048576 hm ⟨by omega, by omega⟩ (by omega) w
    have hd : decide ((1048576 : Int) - (n : Int) < 0) = false := by simp; omega
    have HC := Go.Lib.hid fun w h => toStack_new ao n cap ss w hn h
    have HS := Go.Lib.hid (hS hn)
    have HI := Go.Lib.hid (hI hn)
    have HQ := Go.Lib.hid fun v1 v2 L1 L2 w g1 g2 => eqK_any v1 v2 n L1 L2 ss w hn g1 g2
    clear hS hI
    have za := zero_i3
    have HE3 := Go.Lib.hid fun w => (show Calls Tryd.prog 26 #[.agg (vrow 3 (ivF g)), .agg (vrow 3 (ivF g))] w fun e w' => e = .returned (.bool true) ∧ Below w.heap.size w w' from eqI3_any g w)
    have F0 : Hid True := Go.Lib.hid trivial
    have F1 : Hid True := Go.Lib.hid trivial
    go_enter Tryd.func6, Tryd.ntmps6
    go_wp2_with (first
      | go_skip
      | (go_at_call 11; (refine (HZ.out _).mono ?_); rintro e w1 ⟨rfl, hb⟩; (try (replace R1 := Go.Lib.hid (row_next hb R1.out))); (try (replace R2 := Go.Lib.hid (row_next hb R2.out))); (try (replace R3 := Go.Lib.hid (row_next hb R3.out))); (try (replace R4 := Go.Lib.hid (row_next hb R4.out))); (try (replace V4 := Go.Lib.hid (row_next hb V4.out))); (try (replace V7 := Go.Lib.hid (row_next hb V7.out))); replace HP := Go.Lib.hid (HP.out.next hb); replace hB := Go.Lib.hid (below_next hB.out hb); clear hb)
      | (go_at_call 13; replace F0 := F0.out; clear F0; (refine (HC.out _ HP.out).mono ?_); rintro e w2 ⟨rfl, hD, hb⟩; (try (replace R1 := Go.Lib.hid (row_next hb R1.out))); (try (replace R2 := Go.Lib.hid (row_next hb R2.out))); (try (replace R3 := Go.Lib.hid (row_next hb R3.out))); (try (replace R4 := Go.Lib.hid (row_next hb R4.out))); (try (replace V4 := Go.Lib.hid (row_next hb V4.out))); (try (replace V7 := Go.Lib.hid (row_next hb V7.out))); replace HP := Go.Lib.hid (HP.out.next hb); replace hB := Go.Lib.hid (below_next hB.out hb); clear hb; have R1 := Go.Lib.hid hD; clear hD)
      | (go_at_call 13; replace F1 := F1.out; clear F1; (refine (HC.out _ HP.out).mono ?_); rintro e w2 ⟨rfl, hD, hb⟩; (try (replace R1 := Go.Lib.hid (row_next hb R1.out))); (try (replace R2 := Go.Lib.hid (row_next hb R2.out))); (try (replace R3 := Go.Lib.hid (row_next hb R3.out))); (try (replace R4 := Go.Lib.hid (row_next hb R4.out))); (try (replace V4 := Go.Lib.hid (row_next hb V4.out))); (try (replace V7 := Go.Lib.hid (row_next hb V7.out))); replace HP := Go.Lib.hid (HP.out.next hb); replace hB := Go.Lib.hid (below_next hB.out hb); clear hb; have R2 := Go.Lib.hid hD; clear hD)
      | (go_at_call 13; (refine (HC.out _ HP.out).mono ?_); rintro e w2 ⟨rfl, hD, hb⟩; (try (replace R1 := Go.Lib.hid (row_next hb R1.out))); (try (replace R2 := Go.Lib.hid (row_next hb R2.out))); (try (replace R3 := Go.Lib.hid (row_next hb R3.out))); (try (replace R4 := Go.Lib.hid (row_next hb R4.out))); (try (replace V4 := Go.Lib.hid (row_next hb V4.out))); (try (replace V7 := Go.Lib.hid (row_next hb V7.out))); replace HP := Go.Lib.hid (HP.out.next hb); replace hB := Go.Lib.hid (below_next hB.out hb); clear hb; have R3 := Go.Lib.hid hD; clear hD)
      | (go_at_call 24; (refine (HS.out _ _ R1.out).mono ?_); rintro e w5 ⟨rfl, hb⟩; clear R1; (try (replace R1 := Go.Lib.hid (row_next hb R1.out))); (try (replace R2 := Go.Lib.hid (row_next hb R2.out))); (try (replace R3 := Go.Lib.hid (row_next hb R3.out))); (try (replace R4 := Go.Lib.hid (row_next hb R4.out))); (try (replace V4 := Go.Lib.hid (row_next hb V4.out))); (try (replace V7 := Go.Lib.hid (row_next hb V7.out))); replace HP := Go.Lib.hid (HP.out.next hb); replace hB := Go.Lib.hid (below_next hB.out hb); clear hb)
      | (go_at_call 25; (refine (HI.out _ _ (hE.next hB.out) R2.out).mono ?_); rintro e w7 ⟨rfl, hb⟩; (try (replace R1 := Go.Lib.hid (row_next hb R1.out))); (try (replace R2 := Go.Lib.hid (row_next hb R2.out))); (try (replace R3 := Go.Lib.hid (row_next hb R3.out))); (try (replace R4 := Go.Lib.hid (row_next hb R4.out))); (try (replace V4 := Go.Lib.hid (row_next hb V4.out))); (try (replace V7 := Go.Lib.hid (row_next hb V7.out))); replace HP := Go.Lib.hid (HP.out.next hb); replace hB := Go.Lib.hid (below_next hB.out hb); clear hb)
      | (go_at_call 16; (refine (HQ.out _ _ _ _ _ (SlK.row R2.out) (SlK.row R3.out)).mono ?_); rintro e w1 ⟨rfl, hb⟩; (try (replace R1 := Go.Lib.hid (row_next hb R1.out))); (try (replace R2 := Go.Lib.hid (row_next hb R2.out))); (try (replace R3 := Go.Lib.hid (row_next hb R3.out))); (try (replace R4 := Go.Lib.hid (row_next hb R4.out))); (try (replace V4 := Go.Lib.hid (row_next hb V4.out))); (try (replace V7 := Go.Lib.hid (row_next hb V7.out))); replace HP := Go.Lib.hid (HP.out.next hb); replace hB := Go.Lib.hid (below_next hB.out hb); clear hb)
      | ((with_reducible refine wlOp (.store 50 (.tmp 4) (.tmp 18)) rfl ?_); refine wpList_storeall rfl 50 (.tmp 4) (.tmp 18) rfl _ rfl 3 (fun _ => .int .i64 0) (ivF g) rfl 50 size_i3 (heap_at _ _ _ rfl) (fun i _ => iv_one _ i) ?_; rw [setRow_at _ _ _ _ _ rfl]; have V4 := Go.Lib.hid (heap_at w5 (.cells (vrow 3 (ivF g)) 50) _ rfl); replace HP := Go.Lib.hid (HP.out.next ((Below.refl _ _).alloc (Nat.le_refl _) (.cells (vrow 3 (ivF g)) 50))); replace hB := Go.Lib.hid (hB.out.alloc hB.out.size (.cells (vrow 3 (ivF g)) 50)); generalize w5.heap.size = bV4 at V4 ⊢; generalize w5.alloc _ = w5x at  HP V4 hB ⊢)
      | ((with_reducible refine wlOp (.store 50 (.tmp 7) (.tmp 25)) rfl ?_); refine wpList_storeall rfl 50 (.tmp 7) (.tmp 25) rfl _ rfl 3 (fun _ => .int .i64 0) (ivF g) rfl 50 size_i3 (heap_at _ _ _ rfl) (fun i _ => iv_one _ i) ?_; rw [setRow_at _ _ _ _ _ rfl]; have V7 := Go.Lib.hid (heap_at w7 (.cells (vrow 3 (ivF g)) 50) _ rfl); have nR2 := row_lt R2.out; replace R2 := Go.Lib.hid (heap_past _ (.cells (vrow 3 (ivF g)) 50) _ _ nR2 R2.out); clear nR2; have nV4 := row_lt V4.out; replace V4 := Go.Lib.hid (heap_past _ (.cells (vrow 3 (ivF g)) 50) _ _ nV4 V4.out); clear nV4; replace HP := Go.Lib.hid (HP.out.next ((Below.refl _ _).alloc (Nat.le_refl _) (.cells (vrow 3 (ivF g)) 50))); replace hB := Go.Lib.hid (hB.out.alloc hB.out.size (.cells (vrow 3 (ivF g)) 50)); generalize w7.heap.size = bV7 at V7 ⊢; generalize w7.alloc _ = w7x at R2 V4 HP V7 hB ⊢)
      | ((with_reducible refine wlAt 27 rfl ?_); refine wpList_loadall rfl 50 (.tmp 7) rfl _ rfl 3 (ivF g) 50 _ Tryd.underlying50 rfl size_i3 V7.out ?_)
      | ((with_reducible refine wlAt 28 rfl ?_); refine wpList_loadall rfl 50 (.tmp 4) rfl _ rfl 3 (ivF g) 50 _ Tryd.underlying50 rfl size_i3 V4.out ?_)
      | (go_at_call 26; (refine (HE3.out _).mono ?_); rintro e w1 ⟨rfl, hb⟩; (try (replace R1 := Go.Lib.hid (row_next hb R1.out))); (try (replace R2 := Go.Lib.hid (row_next hb R2.out))); (try (replace R3 := Go.Lib.hid (row_next hb R3.out))); (try (replace R4 := Go.Lib.hid (row_next hb R4.out))); (try (replace V4 := Go.Lib.hid (row_next hb V4.out))); (try (replace V7 := Go.Lib.hid (row_next hb V7.out))); replace HP := Go.Lib.hid (HP.out.next hb); replace hB := Go.Lib.hid (below_next hB.out hb); clear hb))
    go_ret
    exact ⟨rfl, hB.out⟩
theorem dk_law (ao : Option Addr) (n cap : Nat) (ss : Nat → Sh) (e : ErrE) (w : World) (hE : Errs e w) (hm : n ≤ 9223372036854775807) (hf : ∀ i, (ss i).fit) (hp : StC w ao n ss) : Calls Tryd.prog 6 #[.slice ao n cap] w fun o w' => o = .returned (.bool true) ∧ Below w.heap.size w w' := by
  cases ho : stOk ss n
  · exact dk_walk ao n cap ss (fun _ => 0) 1 e w hE hm hp (fun hn D w h => ldk_bad ss D n n w hn hf ho h) (fun hn D w hE h => idk_bad ss D n e w hE hn hf ho h)
  · have h6 : n ≤ 6 := by
      have h := ho
      unfold stOk at h
      rw [Bool.and_eq_true] at h
      simpa using h.2
    have hoo : ∀ k, k < n → okI (ss k) = true := fun k hk => by
      have h := ho
      unfold stOk at h
      rw [Bool.and_eq_true] at h
      cases hq : stOne ss k
      · rw [alN_no hq n hk] at h; cases h.1
      · unfold stOne at hq
        rw [Bool.and_eq_true] at hq
        rw [ok_eq (ss k) (hf k)]; exact hq.1
    exact dk_walk ao n cap ss (totN ss n) 0 e w hE hm hp (fun hn D w h => ldk_ok ss D n n w hn hf ho h6 h) (fun hn D w hE h => idk_ok ss D n e w hE hn hf ho h6 hoo h)
end Go.Proofs.YtfhfiaphdgfmnaaDoor
