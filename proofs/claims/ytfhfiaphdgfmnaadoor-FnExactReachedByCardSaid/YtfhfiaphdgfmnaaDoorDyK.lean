import Derived.Deep.RegionHeld3
import Derived.Test.YtfhfiaphdgfmnaaDoorPlA
import Derived.Test.YtfhfiaphdgfmnaaDoorUnlD
import Derived.Test.YtfhfiaphdgfmnaaDoorUnlE
import Derived.Test.YtfhfiaphdgfmnaaDoorDyO
import Derived.Test.YtfhfiaphdgfmnaaDoorDyes
import Derived.Test.YtfhfiaphdgfmnaaDoorSkX
import Derived.Test.YtfhfiaphdgfmnaaDoorCodeOf
namespace Go.Proofs.YtfhfiaphdgfmnaaDoor
open Go.RowKit
set_option maxRecDepth 100000
set_option linter.unusedVariables false
set_option linter.unusedSimpArgs false
def totN (ss : Nat → Sh) : Nat → Nat → Int
  | 0, _ => 0
  | k + 1, i => totN ss k i + isum (ss k) i 64
theorem totN_bd (ss : Nat → Sh) (hf : ∀ i, (ss i).fit) (i : Nat) (hi : i < 3) : ∀ k : Nat, -2097152 * (k : Int) ≤ totN ss k i ∧ totN ss k i ≤ 2097152 * (k : Int)
  | 0 => by simp [totN]
  | k + 1 => by
    have h1 := totN_bd ss hf i hi k
    have h2 := isum_bd (ss k) (hf k) i hi 64 (Nat.le_refl _)
    show _ ≤ totN ss k i + isum (ss k) i 64 ∧ totN ss k i + isum (ss k) i 64 ≤ _
    omega
theorem sum_iv (s : Sh) : vrow 3 (sumsF s 64 0) = vrow 3 (ivF fun i => isum s i 64) := vrow_ext _ _ _ fun m hm => by unfold sumsF ivF; rw [if_neg (by omega)]
theorem tot_bd (ss : Nat → Sh) (hf : ∀ i, (ss i).fit) (k : Nat) (hk : k ≤ 6) : ∀ i, i < 3 → -1099511627776 ≤ totN ss k i ∧ totN ss k i ≤ 1099511627776 ∧ -1099511627776 ≤ isum (ss k) i 64 ∧ isum (ss k) i 64 ≤ 1099511627776 := fun i hi => by
  have h1 := totN_bd ss hf i hi k
  have h2 := isum_bd (ss k) (hf k) i hi 64 (Nat.le_refl _)
  omega
theorem lsumK_any (ss : Nat → Sh) (D n k : Nat) (w : World) (hk : k < n) (hf : ∀ i, (ss i).fit) (h1 : w.heap[D]? = some (.cells (vrow (n * 266) (stF ss)) 39)) : Calls Tryd.prog 58 #[.pointer (some ⟨D, k * 266, none⟩)] w fun e w' => e = .returned (.agg (vrow 3 (ivF fun i => isum (ss k) i 64))) ∧ Below w.heap.size w w' := by
  have h := lsums_anyO (ss k) D (k * 266) (n * 266) (stF ss) (by omega) (stF_sub ss k) w h1 (hf k)
  rwa [sum_iv] at h
set_option maxHeartbeats 4000000 in
theorem ldk_bad (ss : Nat → Sh) (D n cp : Nat) (w : World) (hn : n ≤ 1048576) (hf : ∀ i, (ss i).fit) (ho : stOk ss n = false) (h1 : w.heap[D]? = some (.cells (vrow (n * 266) (stF ss)) 39)) : Calls Tryd.prog 24 #[.slice (some ⟨D, 0, none⟩) n cp] w fun e w' => e = .returned (.tuple #[.agg (vrow 3 (fun _ => .int .i64 0)), .int .i64 1]) ∧ Below w.heap.size w w' := by
  have HO0 := fun w h => lok5_any ss D n cp w hn hf h
  rw [ho] at HO0
  have HO := Go.Lib.hid HO0
  clear HO0 hf ho
  have za := zero_i3; have bz := built_zi3
  have hD := row_lt h1
  have P : Hid (((w.alloc (.cells (vrow 3 (fun _ => .int .i64 0)) 50)).alloc (.cells (vrow 3 (fun _ => .int .i64 0)) 50)).heap[D]? = some (.cells (vrow (n * 266) (stF ss)) 39)) := Go.Lib.hid (heap_past _ _ _ _ (by simp <;> omega) (heap_past _ _ _ _ hD h1))
  have Z : Hid (((w.alloc (.cells (vrow 3 (fun _ => .int .i64 0)) 50)).alloc (.cells (vrow 3 (fun _ => .int .i64 0)) 50)).heap[w.heap.size]? = some (.cells (vrow 3 (fun _ => .int .i64 0)) 50)) := heap_past _ _ _ _ (by simp <;> omega) (heap_at _ _ _ (by simp))
  have V : Hid (((w.alloc (.cells (vrow 3 (fun _ => .int .i64 0)) 50)).alloc (.cells (vrow 3 (fun _ => .int .i64 0)) 50)).heap[w.heap.size + 1]? = some (.cells (vrow 3 (fun _ => .int .i64 0)) 50)) := heap_at _ _ _ (by simp)
  have hB : Hid (Below w.heap.size w ((w.alloc (.cells (vrow 3 (fun _ => .int .i64 0)) 50)).alloc (.cells (vrow 3 (fun _ => .int .i64 0)) 50))) := Go.Lib.hid (((Below.refl w.heap.size w).alloc (by simp <;> omega) _).alloc (by simp <;> omega) _)
  clear h1
  go_enter Tryd.func24, Tryd.ntmps24
  go_wp2_with (first
    | go_skip
    | ((with_reducible refine wlOp (.store 50 (.tmp 4) (.tmp 6)) rfl ?_); refine wpList_storeall rfl 50 (.tmp 4) (.tmp 6) rfl (w.heap.size + 1) rfl 3 (fun _ => .int .i64 0) (fun _ => .int .i64 0) rfl 50 size_i3 V.out (fun i _ => rfl) ?_; replace P := Go.Lib.hid (row_set' (g := w.heap.size + 1) (by omega) P.out (vrow 3 (fun _ => .int .i64 0))); replace Z := Go.Lib.hid (row_set' (g := w.heap.size + 1) (by omega) Z.out (vrow 3 (fun _ => .int .i64 0))); replace V := Go.Lib.hid (row_set V.out (vrow 3 (fun _ => .int .i64 0))); replace hB := Go.Lib.hid (Below_setRow hB.out (show w.heap.size ≤ w.heap.size + 1 by omega) (vrow 3 (fun _ => .int .i64 0))); generalize World.setRow _ _ _ = w1 at P Z V hB ⊢)
    | (go_at_call 38; (refine (HO.out _ P.out).mono ?_); rintro o w2 ⟨rfl, hb⟩; replace P := Go.Lib.hid (row_next hb P.out); replace Z := Go.Lib.hid (row_next hb Z.out); replace V := Go.Lib.hid (row_next hb V.out); replace hB := Go.Lib.hid (below_next hB.out hb); clear hb)
    | ((with_reducible refine wlAt 10 rfl ?_); refine wpList_loadall rfl 50 (.tmp 4) rfl (w.heap.size + 1) rfl 3 (fun _ => .int .i64 0) 50 _ Tryd.underlying50 rfl size_i3 V.out ?_)
    | ((with_reducible refine wlOp (.store 50 (.tmp 2) (.tmp 10)) rfl ?_); refine wpList_storeall rfl 50 (.tmp 2) (.tmp 10) rfl w.heap.size rfl 3 (fun _ => .int .i64 0) (fun _ => .int .i64 0) rfl 50 size_i3 Z.out (fun i _ => rfl) ?_; replace Z := Go.Lib.hid (row_set Z.out (vrow 3 (fun _ => .int .i64 0))); replace hB := Go.Lib.hid (Below_setRow hB.out (Nat.le_refl _) (vrow 3 (fun _ => .int .i64 0)))))
  exact ret_row2 Tryd.results24 w.heap.size 3 (fun _ => .int .i64 0) 50 _ Tryd.underlying50 rfl size_i3 (.int .i64 1) rfl rfl rfl Z.out ⟨rfl, hB.out⟩
set_option maxHeartbeats 4000000 in
theorem ldk_ok (ss : Nat → Sh) (D n cp : Nat) (w : World) (hn : n ≤ 1048576) (hf : ∀ i, (ss i).fit) (ho : stOk ss n = true) (h6 : n ≤ 6) (h1 : w.heap[D]? = some (.cells (vrow (n * 266) (stF ss)) 39)) : Calls Tryd.prog 24 #[.slice (some ⟨D, 0, none⟩) n cp] w fun e w' => e = .returned (.tuple #[.agg (vrow 3 (ivF (totN ss n))), .int .i64 0]) ∧ Below w.heap.size w w' := by
  have HO0 := fun w h => lok5_any ss D n cp w hn hf h
  rw [ho] at HO0
  have HO := Go.Lib.hid HO0
  have HSM := Go.Lib.hid fun k w hk h => lsumK_any ss D n k w hk hf h
  have HPL := Go.Lib.hid fun k w hk => (show Calls Tryd.prog 57 #[.agg (vrow 3 (ivF (totN ss k))), .agg (vrow 3 (ivF fun i => isum (ss k) i 64))] w fun e w' => e = .returned (.agg (vrow 3 (ivF (totN ss (k + 1))))) ∧ Below w.heap.size w w' from lplus_any (totN ss k) (fun i => isum (ss k) i 64) w (tot_bd ss hf k hk))
  have ht0 : Hid (vrow 3 (fun _ => .int .i64 0) = vrow 3 (ivF (totN ss 0))) := Go.Lib.hid rfl
  clear HO0 hf ho
  have za := zero_i3; have bz := built_zi3
  have hD := row_lt h1
  have P : Hid (((w.alloc (.cells (vrow 3 (fun _ => .int .i64 0)) 50)).alloc (.cells (vrow 3 (fun _ => .int .i64 0)) 50)).heap[D]? = some (.cells (vrow (n * 266) (stF ss)) 39)) := Go.Lib.hid (heap_past _ _ _ _ (by simp <;> omega) (heap_past _ _ _ _ hD h1))
  have Z : Hid (((w.alloc (.cells (vrow 3 (fun _ => .int .i64 0)) 50)).alloc (.cells (vrow 3 (fun _ => .int .i64 0)) 50)).heap[w.heap.size]? = some (.cells (vrow 3 (fun _ => .int .i64 0)) 50)) := heap_past _ _ _ _ (by simp <;> omega) (heap_at _ _ _ (by simp))
  have V : Hid (((w.alloc (.cells (vrow 3 (fun _ => .int .i64 0)) 50)).alloc (.cells (vrow 3 (fun _ => .int .i64 0)) 50)).heap[w.heap.size + 1]? = some (.cells (vrow 3 (fun _ => .int .i64 0)) 50)) := heap_at _ _ _ (by simp)
  have hB : Hid (Below w.heap.size w ((w.alloc (.cells (vrow 3 (fun _ => .int .i64 0)) 50)).alloc (.cells (vrow 3 (fun _ => .int .i64 0)) 50))) := Go.Lib.hid (((Below.refl w.heap.size w).alloc (by simp <;> omega) _).alloc (by simp <;> omega) _)
  clear h1
  go_enter Tryd.func24, Tryd.ntmps24
  go_wp2_with (first
    | go_skip
    | ((with_reducible refine wlOp (.store 50 (.tmp 4) (.tmp 6)) rfl ?_); refine wpList_storeall rfl 50 (.tmp 4) (.tmp 6) rfl (w.heap.size + 1) rfl 3 (fun _ => .int .i64 0) (fun _ => .int .i64 0) rfl 50 size_i3 V.out (fun i _ => rfl) ?_; replace P := Go.Lib.hid (row_set' (g := w.heap.size + 1) (by omega) P.out (vrow 3 (fun _ => .int .i64 0))); replace Z := Go.Lib.hid (row_set' (g := w.heap.size + 1) (by omega) Z.out (vrow 3 (fun _ => .int .i64 0))); replace V := Go.Lib.hid (row_set V.out (vrow 3 (fun _ => .int .i64 0))); replace hB := Go.Lib.hid (Below_setRow hB.out (show w.heap.size ≤ w.heap.size + 1 by omega) (vrow 3 (fun _ => .int .i64 0))); generalize World.setRow _ _ _ = w1 at P Z V hB ⊢)
    | (go_at_call 38; (refine (HO.out _ P.out).mono ?_); rintro o w2 ⟨rfl, hb⟩; replace P := Go.Lib.hid (row_next hb P.out); replace Z := Go.Lib.hid (row_next hb Z.out); replace V := Go.Lib.hid (row_next hb V.out); replace hB := Go.Lib.hid (below_next hB.out hb); clear hb))
  have p1 := P.out; have z1 := Z.out; have v1 := V.out; have b1 := hB.out
  rw [ht0.out] at v1
  clear P Z V hB ht0 HO
  go_loopw [5] (fun iv wr => ∃ k : Nat, k ≤ n ∧ iv = .int .i64 k ∧ wr.heap[D]? = some (.cells (vrow (n * 266) (stF ss)) 39) ∧ wr.heap[w.heap.size]? = some (.cells (vrow 3 (fun _ => .int .i64 0)) 50) ∧ wr.heap[w.heap.size + 1]? = some (.cells (vrow 3 (ivF (totN ss k))) 50) ∧ Below w.heap.size w wr) (fun iv _ => n - (intOf iv).toNat)
  case atStart => exact ⟨0, by omega, rfl, p1, z1, v1, b1⟩
  case round =>
    clear p1 z1 v1 b1
    obtain ⟨k, hk, rfl, P, Z, V, hB⟩ := hrel
    by_cases hlt : k < n
    · have hkI : (k : Int) < (n : Int) := by omega
      have hnl : (n : Int) ≤ 6 := by omega
      have HS := Go.Lib.hid fun w h => HSM.out k w hlt h
      have HP := Go.Lib.hid fun w => HPL.out k w (by omega)
      generalize (fun i => isum (ss k) i 64) = g at HS HP
      generalize hu : totN ss (k + 1) = u at HP
      generalize totN ss k = t at V HP
      have HU := Go.Lib.hid hu
      clear hu
      replace P := Go.Lib.hid P; replace Z := Go.Lib.hid Z; replace V := Go.Lib.hid V; replace hB := Go.Lib.hid hB
      go_wp2
      refine region_qt 5 (by kernel_rfl) (by kernel_rfl) ?_
      intro W hW
      rw [hW] at P Z V hB
      clear hW
      simp only [List.take_succ_cons, List.take_zero, List.drop_succ_cons, List.drop_zero]
      have V' := Go.Lib.hid (cls_row' V.out)
      (repeat (first
        | go_big_quiet_skip
        | (refine wpQuiet_loadmid 50 (.tmp 4) rfl (want_n rfl) (w.heap.size + 1) 0 rfl 3 3 (ivF t) _ rw_i3 size_i3 V'.out (by omega) ?_; simp only [Nat.zero_add]; simp only [Act.put, List.setIfInBounds_toArray, List.set_cons_succ, List.set_cons_zero])
        | go_big_quiet_step ((go_at_call 58; exact cls_call _ (fun w hw => HS.out w (row_next hw P.out))))))
      refine wpQuiet_nil ?_
      intro Wn hb
      replace P := Go.Lib.hid (row_next hb P.out); replace Z := Go.Lib.hid (row_next hb Z.out); replace V := Go.Lib.hid (row_next hb V.out); replace hB := Go.Lib.hid (below_next hB.out hb)
      clear hb V'
      go_wp2_with (first
        | go_skip
        | (go_at_call 57; (refine (HP.out _).mono ?_); rintro o w2 ⟨rfl, hb⟩; replace P := Go.Lib.hid (row_next hb P.out); replace Z := Go.Lib.hid (row_next hb Z.out); replace V := Go.Lib.hid (row_next hb V.out); replace hB := Go.Lib.hid (below_next hB.out hb); clear hb)
        | ((with_reducible refine wlOp (.store 50 (.tmp 4) (.tmp 22)) rfl ?_); refine wpList_storeall rfl 50 (.tmp 4) (.tmp 22) rfl (w.heap.size + 1) rfl 3 (ivF t) (ivF u) rfl 50 size_i3 V.out (fun i _ => iv_one _ i) ?_; replace P := Go.Lib.hid (row_set' (g := w.heap.size + 1) (show D ≠ w.heap.size + 1 by omega) P.out (vrow 3 (ivF u))); replace Z := Go.Lib.hid (row_set' (g := w.heap.size + 1) (by omega) Z.out (vrow 3 (ivF u))); replace V := Go.Lib.hid (row_set V.out (vrow 3 (ivF u))); replace hB := Go.Lib.hid (Below_setRow hB.out (show w.heap.size ≤ w.heap.size + 1 by omega) (vrow 3 (ivF u)))))
      go_roundw
      case rel => exact ⟨k + 1, by omega, by go_num, P.out, Z.out, by rw [HU.out]; exact V.out, hB.out⟩
      case measure => simp [intOf]; omega
    · obtain rfl : k = n := by omega
      have hd : decide ((k : Int) < (k : Int)) = false := by simp
      obtain ⟨t, ht⟩ : ∃ t, totN ss k = t := ⟨_, rfl⟩
      rw [ht] at V
      have HT := Go.Lib.hid ht
      clear ht
      replace P := Go.Lib.hid P; replace Z := Go.Lib.hid Z; replace V := Go.Lib.hid V; replace hB := Go.Lib.hid hB
      go_wp2_with (first
        | go_skip
        | ((with_reducible refine wlAt 23 rfl ?_); refine wpList_loadall rfl 50 (.tmp 4) rfl (w.heap.size + 1) rfl 3 (ivF t) 50 _ Tryd.underlying50 rfl size_i3 V.out ?_)
        | ((with_reducible refine wlOp (.store 50 (.tmp 2) (.tmp 23)) rfl ?_); refine wpList_storeall rfl 50 (.tmp 2) (.tmp 23) rfl w.heap.size rfl 3 (fun _ => .int .i64 0) (ivF t) rfl 50 size_i3 Z.out (fun i _ => iv_one _ i) ?_; replace Z := Go.Lib.hid (row_set Z.out (vrow 3 (ivF t))); replace hB := Go.Lib.hid (Below_setRow hB.out (Nat.le_refl _) (vrow 3 (ivF t)))))
      exact ret_row2 Tryd.results24 w.heap.size 3 (ivF t) 50 _ Tryd.underlying50 rfl size_i3 (.int .i64 0) rfl rfl rfl Z.out ⟨by rw [HT.out], hB.out⟩
end Go.Proofs.YtfhfiaphdgfmnaaDoor
