import Derived.Deep.RegionHeld3
import Derived.Test.YtmcpaangofdmpaaDoorPathE
namespace Go.Proofs.YtmcpaangofdmpaaDoor
open Go.RowKit
set_option maxRecDepth 100000
set_option linter.unusedVariables false
set_option linter.unusedSimpArgs false
/-- the first c cells of a row of spots are marked, from k -/
def mkC (f : Nat → Value) (k : Int) (c i : Nat) : Value := if i < c then .int .i8 (IntKind.i8.wrap (k + i)) else f i
theorem mkC_0 (f : Nat → Value) (k : Int) (N : Nat) : vrow N (mkC f k 0) = vrow N f := vrow_ext _ _ _ fun i _ => by unfold mkC; rw [if_neg (by omega)]
theorem mkC_step (f : Nat → Value) (k z : Int) (N c : Nat) (hz : z = k + c) : vrow N (over (mkC f k c) c 1 fun _ => .int .i8 (IntKind.i8.wrap z)) = vrow N (mkC f k (c + 1)) := vrow_ext _ _ _ fun i _ => by
  unfold over mkC
  by_cases h : i = c
  · rw [if_pos (by omega), if_pos (by omega), h, hz]
  · rw [if_neg (by omega)]
    by_cases h2 : i < c
    · rw [if_pos h2, if_pos (by omega)]
    · rw [if_neg h2, if_neg (by omega)]
theorem mkC_at (f : Nat → Value) (k : Int) (c i : Nat) (h : i < c) : mkC f k c i = .int .i8 (IntKind.i8.wrap (k + i)) := by unfold mkC; rw [if_pos h]
theorem setRow_selfK {w : World} {g : Nat} {cs : Array Value} {t : TypeId} (h : w.heap[g]? = some (.cells cs t)) : w.setRow g cs = w := by
  have h' := h
  cases w with
  | mk heap os tape drawn output =>
    simp only [World.setRow] at h ⊢
    congr 1
    apply Array.ext_getElem?
    intro i
    rw [Array.getElem?_modify]
    by_cases hi : g = i
    · subst hi
      rw [if_pos rfl, h]
      rfl
    · rw [if_neg hi]
theorem setRow_twiceK (w : World) (g : Nat) (c1 c2 : Array Value) : (w.setRow g c1).setRow g c2 = w.setRow g c2 := by
  cases w with
  | mk heap os tape drawn output =>
    simp only [World.setRow]
    congr 1
    apply Array.ext_getElem?
    intro i
    rw [Array.getElem?_modify, Array.getElem?_modify, Array.getElem?_modify]
    by_cases hi : g = i
    · rw [if_pos hi, if_pos hi, if_pos hi]
      cases heap[i]? with
      | none => rfl
      | some o => cases o <;> rfl
    · rw [if_neg hi, if_neg hi, if_neg hi]
set_option maxHeartbeats 2000000 in
theorem markS_any (D n cap N : Nat) (f : Nat → Value) (k : Int) (w : World) (hn : n ≤ 1048576) (hN : n * 2 ≤ N) (hk : 0 ≤ k ∧ k ≤ 1048576) (h1 : w.heap[D]? = some (.cells (vrow N f) 111)) : Calls Tryd.prog 40 #[.slice (some ⟨D, 0, none⟩) n cap, .int .i64 k] w fun e w' => e = .returned (.int .i64 (k + n * 2)) ∧ w' = w.setRow D (vrow N (mkC f k (n * 2))) := by
  have R := Go.Lib.hid h1
  have hD := row_lt h1
  have E : Hid (w = w.setRow D (vrow N (mkC f k 0))) := Go.Lib.hid (by rw [mkC_0]; exact (setRow_selfK h1).symm)
  clear h1
  go_enter Tryd.func40, Tryd.ntmps40
  go_wp2
  go_loopw [1, 5] (fun kv iv wr => ∃ j : Nat, j ≤ n ∧ iv = .int .i64 j ∧ kv = .int .i64 (k + j * 2) ∧ wr = w.setRow D (vrow N (mkC f k (j * 2)))) (fun _ iv _ => n - (intOf iv).toNat)
  case atStart => exact ⟨0, by omega, rfl, by simp, E.out⟩
  case round =>
    obtain ⟨j, hj, rfl, rfl, rfl⟩ := hrel
    have R2 := Go.Lib.hid (row_set R.out (vrow N (mkC f k (j * 2))))
    by_cases hlt : j < n
    · have hkI : (j : Int) < n := by omega
      have hnl : (n : Int) ≤ 1048576 := by omega
      have hw : ∀ m : Int, 0 ≤ m → m ≤ 4000000 → IntKind.i64.wrap m = m := fun m h1 h2 => IntWalk.i64_in m (by omega)
      go_wp2_with (first
        | go_skip
        | ((with_reducible refine wlOp (.store 22 (.tmp 17) (.tmp 15)) rfl ?_); refine wpList_store1 rfl 22 (.tmp 17) (.tmp 15) rfl D (j * 2) rfl N (mkC f k (j * 2)) (.int .i8 (IntKind.i8.wrap (k + j * 2))) rfl 111 size_i8 R2.out (by omega) rfl ?_; rw [setRow_twiceK, mkC_step f k (k + j * 2) N (j * 2) (by omega)]; replace R2 := Go.Lib.hid (row_set R.out (vrow N (mkC f k (j * 2 + 1)))))
        | ((with_reducible refine wlOp (.store 22 (.tmp 25) (.tmp 23)) rfl ?_); refine wpList_store1 rfl 22 (.tmp 25) (.tmp 23) rfl D (j * 2 + 1) rfl N (mkC f k (j * 2 + 1)) (.int .i8 (IntKind.i8.wrap (k + j * 2 + 1))) rfl 111 size_i8 R2.out (by omega) rfl ?_; rw [setRow_twiceK, mkC_step f k (k + j * 2 + 1) N (j * 2 + 1) (by omega)]; replace R2 := Go.Lib.hid (row_set R.out (vrow N (mkC f k (j * 2 + 1 + 1))))))
      go_roundw
      case rel => exact ⟨j + 1, by omega, by go_num, by go_num, by rw [show (j + 1) * 2 = j * 2 + 1 + 1 by omega]⟩
      case measure => simp [intOf]; omega
    · obtain rfl : j = n := by omega
      have hd : decide ((j : Int) < (j : Int)) = false := by simp
      go_wp2
      go_ret
      exact ⟨rfl, rfl⟩
set_option maxHeartbeats 2000000 in
theorem heldS_any (D n cap N : Nat) (f : Nat → Value) (k : Int) (w : World) (hn : n ≤ 1048576) (hN : n * 2 ≤ N) (hk : 0 ≤ k ∧ k ≤ 1048576) (h1 : w.heap[D]? = some (.cells (vrow N (mkC f k (n * 2))) 111)) : Calls Tryd.prog 41 #[.slice (some ⟨D, 0, none⟩) n cap, .int .i64 k] w fun e w' => e = .returned (.int .i64 (k + n * 2)) ∧ Below w.heap.size w w' := by
  have R := Go.Lib.hid h1
  clear h1
  go_enter Tryd.func41, Tryd.ntmps41
  go_wp2
  go_loopw [1, 5] (fun kv iv wr => ∃ j : Nat, j ≤ n ∧ iv = .int .i64 j ∧ kv = .int .i64 (k + j * 2) ∧ wr = w) (fun _ iv _ => n - (intOf iv).toNat)
  case atStart => exact ⟨0, by omega, rfl, by simp, rfl⟩
  case round =>
    obtain ⟨j, hj, rfl, rfl, rfl⟩ := hrel
    by_cases hlt : j < n
    · have hkI : (j : Int) < n := by omega
      have hnl : (n : Int) ≤ 1048576 := by omega
      have hw : ∀ m : Int, 0 ≤ m → m ≤ 4000000 → IntKind.i64.wrap m = m := fun m h1 h2 => IntWalk.i64_in m (by omega)
      go_wp2_with (first
        | go_skip
        | ((with_reducible refine wlAt 16 rfl ?_); refine wpList_load1 rfl 22 (.tmp 15) rfl D (j * 2) rfl N (mkC f k (n * 2)) _ _ Tryd.underlying22 rfl R.out (by omega) ?_; rw [mkC_at f k (n * 2) (j * 2) (by omega), show k + ((j * 2 : Nat) : Int) = k + j * 2 by omega])
        | ((with_reducible refine wlAt 26 rfl ?_); refine wpList_load1 rfl 22 (.tmp 25) rfl D (j * 2 + 1) rfl N (mkC f k (n * 2)) _ _ Tryd.underlying22 rfl R.out (by omega) ?_; rw [mkC_at f k (n * 2) (j * 2 + 1) (by omega), show k + ((j * 2 + 1 : Nat) : Int) = k + j * 2 + 1 by omega]))
      go_roundw
      case rel => exact ⟨j + 1, by omega, by go_num, by go_num, by first | rfl | trivial⟩
      case measure => simp [intOf]; omega
    · obtain rfl : j = n := by omega
      have hd : decide ((j : Int) < (j : Int)) = false := by simp
      go_wp2
      go_ret
      exact ⟨rfl, Below.refl _ _⟩
set_option maxHeartbeats 2000000 in
theorem eqSpotN_any (D1 D2 n c1 c2 N1 N2 : Nat) (f1 f2 : Nat → Value) (px py : Nat → Int) (w : World) (hn : n ≤ 1048576) (hN1 : n * 2 ≤ N1) (hN2 : n * 2 ≤ N2) (hf1 : ∀ k, k < n → vrow 2 (fun j => f1 (k * 2 + j)) = vrow 2 (spAt (px k) (py k))) (hf2 : ∀ k, k < n → vrow 2 (fun j => f2 (k * 2 + j)) = vrow 2 (spAt (px k) (py k))) (h1 : w.heap[D1]? = some (.cells (vrow N1 f1) 111)) (h2 : w.heap[D2]? = some (.cells (vrow N2 f2) 111)) : Calls Tryd.prog 39 #[.slice (some ⟨D1, 0, none⟩) n c1, .slice (some ⟨D2, 0, none⟩) n c2] w fun e w' => e = .returned (.bool true) ∧ Below w.heap.size w w' := by
  have R1 := Go.Lib.hid h1
  have R2 := Go.Lib.hid h2
  have hB := Go.Lib.hid (Below.refl w.heap.size w)
  have HF1 := Go.Lib.hid hf1
  have HF2 := Go.Lib.hid hf2
  clear h1 h2 hf1 hf2
  go_enter Tryd.func39, Tryd.ntmps39
  go_wp2
  go_loopw [5] (fun iv wr => ∃ k : Nat, k ≤ n ∧ iv = .int .i64 k ∧ wr.heap[D1]? = some (.cells (vrow N1 f1) 111) ∧ wr.heap[D2]? = some (.cells (vrow N2 f2) 111) ∧ Below w.heap.size w wr) (fun iv _ => n - (intOf iv).toNat)
  case atStart => exact ⟨0, by omega, rfl, R1.out, R2.out, hB.out⟩
  case round =>
    clear R1 R2 hB
    obtain ⟨k, hk, rfl, R1, R2, hB⟩ := hrel
    replace R1 := Go.Lib.hid R1; replace R2 := Go.Lib.hid R2; replace hB := Go.Lib.hid hB
    by_cases hlt : k < n
    · have hkI : (k : Int) < (n : Int) := by omega
      have hnl : (n : Int) ≤ 1048576 := by omega
      have hsz := hB.out.size
      go_wp2
      refine wp_region_still_tail 8 (by kernel_rfl) (by kernel_rfl) ?_
      simp only [List.take_succ_cons, List.take_zero, List.drop_succ_cons, List.drop_zero, World.drew_eq]
      repeat (first
        | (refine wpStill_loadmid rfl 111 (.tmp 19) rfl D1 (k * 2) rfl N1 2 f1 111 _ Tryd.underlying111 rfl size_spot R1.out (by omega) ?_; rw [HF1.out k hlt]; (try simp only [Act.put, List.setIfInBounds_toArray, List.set_cons_succ, List.set_cons_zero]))
        | (refine wpStill_loadmid rfl 111 (.tmp 23) rfl D2 (k * 2) rfl N2 2 f2 111 _ Tryd.underlying111 rfl size_spot R2.out (by omega) ?_; rw [HF2.out k hlt]; (try simp only [Act.put, List.setIfInBounds_toArray, List.set_cons_succ, List.set_cons_zero]))
        | still_step)
      refine wpStill_nil ?_
      replace R1 := Go.Lib.hid (drwP R1.out); replace R2 := Go.Lib.hid (drwP R2.out); replace hB := Go.Lib.hid (hB.out.drew)
      generalize World.drew _ = W2 at R1 R2 hB ⊢
      go_wp2_with (first
        | go_skip
        | (go_at_call 92; (refine (eqSp_any (px k) (py k) _).mono ?_); rintro o w1 ⟨rfl, hb⟩; replace R1 := Go.Lib.hid (row_next hb R1.out); replace R2 := Go.Lib.hid (row_next hb R2.out); replace hB := Go.Lib.hid (below_next hB.out hb); clear hb))
      go_roundw
      case rel => exact ⟨k + 1, by omega, by go_num, R1.out, R2.out, hB.out⟩
      case measure => simp [intOf]; omega
    · obtain rfl : k = n := by omega
      have hd : decide ((k : Int) < (k : Int)) = false := by simp
      go_wp2
      go_ret
      exact ⟨rfl, hB.out⟩
end Go.Proofs.YtmcpaangofdmpaaDoor
