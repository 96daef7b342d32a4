import Derived.Deep.RegionHeld3
import Derived.Test.YtgbhchmpeioaiaaDoorBathF
namespace Go.Proofs.YtgbhchmpeioaiaaDoor
open Go.RowKit
set_option maxRecDepth 100000
set_option linter.unusedVariables false
set_option linter.unusedSimpArgs false
theorem setRow_selfA {w : World} {g : Nat} {cs : Array Value} {t : TypeId} (h : w.heap[g]? = some (.cells cs t)) : w.setRow g cs = w := by
  have h' := h
  cases w with
  | mk heap os tape drawn output =>
    simp only [World.setRow] at h ⊢
    congr 1
    apply Array.ext_getElem?
    intro i
    rw [Array.getElem?_modify]
    by_cases hi : g = i
    · subst hi
      rw [if_pos rfl, h]
      rfl
    · rw [if_neg hi]
theorem setRow_twiceA (w : World) (g : Nat) (c1 c2 : Array Value) : (w.setRow g c1).setRow g c2 = w.setRow g c2 := by
  cases w with
  | mk heap os tape drawn output =>
    simp only [World.setRow]
    congr 1
    apply Array.ext_getElem?
    intro i
    rw [Array.getElem?_modify, Array.getElem?_modify, Array.getElem?_modify]
    by_cases hi : g = i
    · rw [if_pos hi, if_pos hi, if_pos hi]
      cases heap[i]? with
      | none => rfl
      | some o => cases o <;> rfl
    · rw [if_neg hi, if_neg hi, if_neg hi]
set_option maxHeartbeats 2000000 in
theorem eqA3S_0 (a1 a2 : Option Addr) (c1 c2 : Nat) (w : World) : Calls Tryd.prog 31 #[.slice a1 0 c1, .slice a2 0 c2] w fun e w' => e = .returned (.bool true) ∧ Below w.heap.size w w' := by
  go_enter Tryd.func31, Tryd.ntmps31
  go_wp2
  go_loopw [5] (fun iv wr => iv = .int .i64 0 ∧ wr = w) (fun _ _ => 0)
  case atStart => exact ⟨rfl, rfl⟩
  case round =>
    obtain ⟨rfl, rfl⟩ := hrel
    go_wp2
    go_ret
    exact ⟨rfl, Below.refl _ _⟩
set_option maxHeartbeats 2000000 in
theorem eqA3S_any (D1 D2 n c1 c2 : Nat) (f1 f2 : Nat → Value) (O : Nat → Nat → Int) (w : World) (hn : n ≤ 100) (hc1 : n ≤ c1) (hc2 : n ≤ c2) (hf1 : ∀ i m, i < n → m < 3 → f1 (i * 3 + m) = .int .i64 (O i m)) (hf2 : ∀ i m, i < n → m < 3 → f2 (i * 3 + m) = .int .i64 (O i m)) (h1 : w.heap[D1]? = some (.cells (vrow (c1 * 3) f1) 32)) (h2 : w.heap[D2]? = some (.cells (vrow (c2 * 3) f2) 32)) : Calls Tryd.prog 31 #[.slice (some ⟨D1, 0, none⟩) n c1, .slice (some ⟨D2, 0, none⟩) n c2] w fun e w' => e = .returned (.bool true) ∧ Below w.heap.size w w' := by
  have R1 := Go.Lib.hid h1
  have R2 := Go.Lib.hid h2
  have hB := Go.Lib.hid (Below.refl w.heap.size w)
  have HF1 := Go.Lib.hid hf1
  have HF2 := Go.Lib.hid hf2
  clear h1 h2 hf1 hf2
  go_enter Tryd.func31, Tryd.ntmps31
  go_wp2
  go_loopw [5] (fun iv wr => ∃ k : Nat, k ≤ n ∧ iv = .int .i64 k ∧ wr.heap[D1]? = some (.cells (vrow (c1 * 3) f1) 32) ∧ wr.heap[D2]? = some (.cells (vrow (c2 * 3) f2) 32) ∧ Below w.heap.size w wr) (fun iv _ => n - (intOf iv).toNat)
  case atStart => exact ⟨0, by omega, rfl, R1.out, R2.out, hB.out⟩
  case round =>
    clear R1 R2 hB
    obtain ⟨k, hk, rfl, R1, R2, hB⟩ := hrel
    replace R1 := Go.Lib.hid R1; replace R2 := Go.Lib.hid R2; replace hB := Go.Lib.hid hB
    by_cases hlt : k < n
    · have hkI : (k : Int) < (n : Int) := by omega
      have e1 : vrow 3 (fun m => f1 (k * 3 + m)) = vrow 3 (fun i => .int .i64 (O k i)) := vrow_ext _ _ _ fun m hm => HF1.out k m hlt hm
      have e2 : vrow 3 (fun m => f2 (k * 3 + m)) = vrow 3 (fun i => .int .i64 (O k i)) := vrow_ext _ _ _ fun m hm => HF2.out k m hlt hm
      have E1 := Go.Lib.hid e1; have E2 := Go.Lib.hid e2
      clear e1 e2
      go_wp2
      refine wp_region_still_tail 8 (by kernel_rfl) (by kernel_rfl) ?_
      simp only [List.take_succ_cons, List.take_zero, List.drop_succ_cons, List.drop_zero, World.drew_eq]
      repeat (first
        | (refine wpStill_loadmid rfl 32 (.tmp 19) rfl D1 (k * 3) rfl (c1 * 3) 3 f1 32 _ Tryd.underlying32 rfl size_i3 R1.out (by omega) ?_; rw [E1.out]; (try simp only [Act.put, List.setIfInBounds_toArray, List.set_cons_succ, List.set_cons_zero]))
        | (refine wpStill_loadmid rfl 32 (.tmp 23) rfl D2 (k * 3) rfl (c2 * 3) 3 f2 32 _ Tryd.underlying32 rfl size_i3 R2.out (by omega) ?_; rw [E2.out]; (try simp only [Act.put, List.setIfInBounds_toArray, List.set_cons_succ, List.set_cons_zero]))
        | still_step)
      refine wpStill_nil ?_
      replace R1 := Go.Lib.hid (drwS R1.out); replace R2 := Go.Lib.hid (drwS R2.out); replace hB := Go.Lib.hid (hB.out.drew)
      generalize World.drew _ = W2 at R1 R2 hB ⊢
      go_wp2_with (first
        | go_skip
        | (go_at_call 18; (refine (eqI3_any (O k) _).mono ?_); rintro o w1 ⟨rfl, hb⟩; replace R1 := Go.Lib.hid (row_next hb R1.out); replace R2 := Go.Lib.hid (row_next hb R2.out); replace hB := Go.Lib.hid (below_next hB.out hb); clear hb))
      go_roundw
      case rel => exact ⟨k + 1, by omega, by go_num, R1.out, R2.out, hB.out⟩
      case measure => simp [intOf]; omega
    · obtain rfl : k = n := by omega
      have hd : decide ((k : Int) < (k : Int)) = false := by simp
      go_wp2
      go_ret
      exact ⟨rfl, hB.out⟩
/-- the first c numbers are marked, from 1 -/
def mkA (f : Nat → Value) (c i : Nat) : Value := if i < c then .int .i64 ((i : Int) + 1) else f i
theorem mkA_0 (f : Nat → Value) (N : Nat) : vrow N (mkA f 0) = vrow N f := vrow_ext _ _ _ fun i _ => by unfold mkA; rw [if_neg (by omega)]
theorem mkA_step (f : Nat → Value) (N c : Nat) : vrow N (over (mkA f c) c 1 fun _ => .int .i64 ((c : Int) + 1)) = vrow N (mkA f (c + 1)) := vrow_ext _ _ _ fun i _ => by
  unfold over mkA
  by_cases h : i = c
  · rw [if_pos (by omega), if_pos (by omega), h]
  · rw [if_neg (by omega)]
    by_cases h2 : i < c
    · rw [if_pos h2, if_pos (by omega)]
    · rw [if_neg h2, if_neg (by omega)]
theorem mkA_at (f : Nat → Value) (c i : Nat) (h : i < c) : mkA f c i = .int .i64 ((i : Int) + 1) := by unfold mkA; rw [if_pos h]
set_option maxHeartbeats 2000000 in
theorem markA_0 (a1 : Option Addr) (c1 : Nat) (w : World) : Calls Tryd.prog 32 #[.slice a1 0 c1, .int .i64 1] w fun e w' => e = .returned (.int .i64 1) ∧ Below w.heap.size w w' := by
  go_enter Tryd.func32, Tryd.ntmps32
  go_wp2
  go_loopw [1, 5] (fun kv iv wr => kv = .int .i64 1 ∧ iv = .int .i64 0 ∧ wr = w) (fun _ _ _ => 0)
  case atStart => exact ⟨rfl, rfl, rfl⟩
  case round =>
    obtain ⟨rfl, rfl, rfl⟩ := hrel
    go_wp2
    go_ret
    exact ⟨rfl, Below.refl _ _⟩
set_option maxHeartbeats 2000000 in
theorem heldA_0 (a1 : Option Addr) (c1 : Nat) (w : World) : Calls Tryd.prog 33 #[.slice a1 0 c1, .int .i64 1] w fun e w' => e = .returned (.int .i64 1) ∧ Below w.heap.size w w' := by
  go_enter Tryd.func33, Tryd.ntmps33
  go_wp2
  go_loopw [1, 5] (fun kv iv wr => kv = .int .i64 1 ∧ iv = .int .i64 0 ∧ wr = w) (fun _ _ _ => 0)
  case atStart => exact ⟨rfl, rfl, rfl⟩
  case round =>
    obtain ⟨rfl, rfl, rfl⟩ := hrel
    go_wp2
    go_ret
    exact ⟨rfl, Below.refl _ _⟩
set_option maxHeartbeats 4000000 in
theorem markA_any (D n cap : Nat) (f : Nat → Value) (w : World) (hn : n ≤ 100) (hN : n ≤ cap) (h1 : w.heap[D]? = some (.cells (vrow (cap * 3) f) 32)) : Calls Tryd.prog 32 #[.slice (some ⟨D, 0, none⟩) n cap, .int .i64 1] w fun e w' => e = .returned (.int .i64 ((n : Int) * 3 + 1)) ∧ w' = w.setRow D (vrow (cap * 3) (mkA f (n * 3))) := by
  have R := Go.Lib.hid h1
  have hD := row_lt h1
  have E : Hid (w = w.setRow D (vrow (cap * 3) (mkA f 0))) := Go.Lib.hid (by rw [mkA_0]; exact (setRow_selfA h1).symm)
  clear h1
  go_enter Tryd.func32, Tryd.ntmps32
  go_wp2
  go_loopw [1, 5] (fun kv iv wr => ∃ j : Nat, j ≤ n ∧ iv = .int .i64 j ∧ kv = .int .i64 ((j : Int) * 3 + 1) ∧ wr = w.setRow D (vrow (cap * 3) (mkA f (j * 3)))) (fun _ iv _ => n - (intOf iv).toNat)
  case atStart => exact ⟨0, by omega, rfl, by simp, E.out⟩
  case round =>
    obtain ⟨j, hj, rfl, rfl, rfl⟩ := hrel
    by_cases hlt : j < n
    · have hkI : (j : Int) < n := by omega
      have hnl : (n : Int) ≤ 100 := by omega
      go_wp2
      go_loopw [1, 6] (fun kv iv wr => ∃ m : Nat, m ≤ 3 ∧ iv = .int .i64 m ∧ kv = .int .i64 ((j : Int) * 3 + 1 + m) ∧ wr = w.setRow D (vrow (cap * 3) (mkA f (j * 3 + m)))) (fun _ iv _ => 3 - (intOf iv).toNat)
      case atStart => exact ⟨0, by omega, rfl, by simp, rfl⟩
      case round =>
        obtain ⟨m, hm, rfl, rfl, rfl⟩ := hrel
        have R2 := Go.Lib.hid (row_set R.out (vrow (cap * 3) (mkA f (j * 3 + m))))
        by_cases hlm : m < 3
        · have hmI : (m : Int) < 3 := by omega
          go_wp2_with (first
            | go_skip
            | ((with_reducible refine wlOp (.store 2 (.tmp 22) (.tmp 20)) rfl ?_); refine wpList_store1 rfl 2 (.tmp 22) (.tmp 20) rfl D (j * 3 + m) rfl (cap * 3) (mkA f (j * 3 + m)) (.int .i64 (((j * 3 + m : Nat) : Int) + 1)) (by show Value.int .i64 ((j : Int) * 3 + 1 + m) = _; congr 1; omega) 32 size_i64c R2.out (by omega) rfl ?_; rw [setRow_twiceA, mkA_step]))
          go_roundw
          case rel => exact ⟨m + 1, by omega, by go_num, by go_num, rfl⟩
          case measure => simp [intOf]; omega
        · obtain rfl : m = 3 := by omega
          go_wp2
          go_roundw
          case rel => exact ⟨j + 1, by omega, by go_num, by congr 1; omega, by rw [show (j + 1) * 3 = j * 3 + 3 by omega]⟩
          case measure => simp [intOf]; omega
    · obtain rfl : j = n := by omega
      have hd : decide ((j : Int) < (j : Int)) = false := by simp
      go_wp2
      go_ret
      exact ⟨rfl, rfl⟩
set_option maxHeartbeats 4000000 in
theorem heldA_any (D n cap : Nat) (f : Nat → Value) (w : World) (hn : n ≤ 100) (hN : n ≤ cap) (h1 : w.heap[D]? = some (.cells (vrow (cap * 3) (mkA f (n * 3))) 32)) : Calls Tryd.prog 33 #[.slice (some ⟨D, 0, none⟩) n cap, .int .i64 1] w fun e w' => e = .returned (.int .i64 ((n : Int) * 3 + 1)) ∧ Below w.heap.size w w' := by
  have R := Go.Lib.hid h1
  clear h1
  go_enter Tryd.func33, Tryd.ntmps33
  go_wp2
  go_loopw [1, 5] (fun kv iv wr => ∃ j : Nat, j ≤ n ∧ iv = .int .i64 j ∧ kv = .int .i64 ((j : Int) * 3 + 1) ∧ wr = w) (fun _ iv _ => n - (intOf iv).toNat)
  case atStart => exact ⟨0, by omega, rfl, by simp, rfl⟩
  case round =>
    obtain ⟨j, hj, rfl, rfl, rfl⟩ := hrel
    by_cases hlt : j < n
    · have hkI : (j : Int) < n := by omega
      have hnl : (n : Int) ≤ 100 := by omega
      go_wp2
      go_loopw [1, 6] (fun kv iv wq => ∃ m : Nat, m ≤ 3 ∧ iv = .int .i64 m ∧ kv = .int .i64 ((j : Int) * 3 + 1 + m) ∧ wq = wr) (fun _ iv _ => 3 - (intOf iv).toNat)
      case atStart => exact ⟨0, by omega, rfl, by simp, by first | rfl | trivial⟩
      case round =>
        obtain ⟨m, hm, rfl, rfl, rfl⟩ := hrel
        by_cases hlm : m < 3
        · have hmI : (m : Int) < 3 := by omega
          go_wp2_with (first
            | go_skip
            | ((with_reducible refine wlAt 22 rfl ?_); refine wpList_load1 rfl 2 (.tmp 21) rfl D (j * 3 + m) rfl (cap * 3) (mkA f (n * 3)) _ _ Tryd.underlying2 rfl R.out (by omega) ?_; rw [mkA_at f (n * 3) (j * 3 + m) (by omega), show ((j * 3 + m : Nat) : Int) + 1 = (j : Int) * 3 + 1 + m by omega]; (try simp only [Act.put, List.setIfInBounds_toArray, List.set_cons_succ, List.set_cons_zero])))
          go_roundw
          case rel => exact ⟨m + 1, by omega, by go_num, by go_num, by first | rfl | trivial⟩
          case measure => simp [intOf]; omega
        · obtain rfl : m = 3 := by omega
          go_wp2
          go_roundw
          case rel => exact ⟨j + 1, by omega, by go_num, by congr 1; omega, by first | rfl | trivial⟩
          case measure => simp [intOf]; omega
    · obtain rfl : j = n := by omega
      have hd : decide ((j : Int) < (j : Int)) = false := by simp
      go_wp2
      go_ret
      exact ⟨rfl, Below.refl _ _⟩
end Go.Proofs.YtgbhchmpeioaiaaDoor
