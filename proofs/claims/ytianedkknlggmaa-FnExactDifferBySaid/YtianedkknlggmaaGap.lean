import Derived.Deep.RegionHeld3
import Derived.StillTail
import Derived.StillTailTactics
import Derived.Test.YtianedkknlggmaaDiffer
import Derived.Test.YtianedkknlggmaaArms
import Derived.Test.YtianedkknlggmaaYield
namespace Go.Proofs.Ytianedkknlggmaa
open Go.RowKit
set_option maxRecDepth 100000
set_option linter.unusedVariables false
set_option linter.unusedSimpArgs false
/-- a row of three -/
def d3f (d : Nat → Int) (i : Nat) : Value := .int .i16 (d i)
theorem d3f_at (d : Nat → Int) (i : Nat) : d3f d i = .int .i16 (d i) := rfl
theorem d3f_row (d : Nat → Int) : vrow 3 (fun i => d3f d (0 + i)) = #[.int .i16 (d 0), .int .i16 (d 1), .int .i16 (d 2)] := rfl
theorem d3f_vrow (d : Nat → Int) : #[.int .i16 (d 0), .int .i16 (d 1), .int .i16 (d 2)] = vrow 3 (d3f d) := rfl
theorem idx_d (d : Nat → Int) (k : Nat) (hk : k < 3) (w : World) : (Instr.index 26 (.agg #[.int .i16 (d 0), .int .i16 (d 1), .int .i16 (d 2)]) (.int .i64 k)).run Try.prog w = .ok (.int .i16 (d k)) w := by
  have i0 : ∀ (a b c : Value) (w : World), (Instr.index 26 (.agg #[a, b, c]) (.int .i64 0)).run Try.prog w = .ok a w := fun _ _ _ _ => by kernel_rfl
  have i1 : ∀ (a b c : Value) (w : World), (Instr.index 26 (.agg #[a, b, c]) (.int .i64 1)).run Try.prog w = .ok b w := fun _ _ _ _ => by kernel_rfl
  have i2 : ∀ (a b c : Value) (w : World), (Instr.index 26 (.agg #[a, b, c]) (.int .i64 2)).run Try.prog w = .ok c w := fun _ _ _ _ => by kernel_rfl
  have : k = 0 ∨ k = 1 ∨ k = 2 := by omega
  rcases this with rfl | rfl | rfl
  · exact i0 _ _ _ w
  · exact i1 _ _ _ w
  · exact i2 _ _ _ w
def dsum (d : Nat → Int) : Nat → Int
  | 0 => 0
  | k + 1 => dsum d k + d k
theorem dsum_bd (d : Nat → Int) (hd : ∀ i, i < 3 → 0 ≤ d i ∧ d i ≤ 1000) : ∀ k, k ≤ 3 → 0 ≤ dsum d k ∧ dsum d k ≤ 1000 * k
  | 0, _ => by simp [dsum]
  | k + 1, hk => by
    have := dsum_bd d hd k (by omega)
    have := hd k (by omega)
    simp only [dsum]; omega
set_option maxHeartbeats 400000 in
theorem darkness_any (d : Nat → Int) (hd : ∀ i, i < 3 → 0 ≤ d i ∧ d i ≤ 1000) (w : World) : Calls Try.prog 67 #[.agg #[.int .i16 (d 0), .int .i16 (d 1), .int .i16 (d 2)]] w fun e w' => e = .returned (.int .i64 (dsum d 3)) ∧ Below w.heap.size w w' := by
  rw [d3f_vrow]
  have hB : Hid (Below w.heap.size w (w.alloc (.cells (vrow 3 (d3f d)) 26))) := ((Below.refl w.heap.size w).alloc (by simp <;> omega) _)
  have D : Hid ((w.alloc (.cells (vrow 3 (d3f d)) 26)).heap[(w.heap.size)]? = some (.cells (vrow 3 (d3f d)) 26)) := heap_at _ _ _ (by simp)
  go_enter Try.func67, Try.ntmps67
  go_wp2_with (first
    | (refine list_at 6 rfl ?_; intro W hW; rw [hW] at hB D; clear hW; have D' := Go.Lib.hid (cls_row' D.out); (repeat (first | go_big_quiet_skip | (refine wpQuiet_loadmid 26 _ rfl (by first | exact want_n rfl | exact want_g _ _ _ rfl rfl rfl) (w.heap.size) _ rfl 3 3 (d3f d) _ rw_d3 size_d3 D'.out (by omega) ?_; rw [d3f_row]; simp only [Act.put, List.setIfInBounds_toArray, List.set_cons_succ, List.set_cons_zero]) | go_big_quiet_step (fail))); refine wpQuiet_nil ?_; intro Wn hb; replace D := Go.Lib.hid (row_next hb D.out); replace hB := Go.Lib.hid (below_next hB.out hb); clear hb D'))
  go_loopw [3, 7] (fun sm i wr => ∃ k : Nat, k ≤ 3 ∧ i = .int .i64 k ∧ sm = .int .i64 (dsum d k) ∧ Below w.heap.size w wr) (fun _ i _ => 3 - (intOf i).toNat)
  case atStart => exact ⟨0, by omega, rfl, rfl, hB.out⟩
  case round =>
    clear hB D
    obtain ⟨k, hk, rfl, rfl, hB⟩ := hrel
    replace hB := Go.Lib.hid hB
    obtain ⟨hs1, hs2⟩ := dsum_bd d hd k hk
    by_cases hlt : k < 3
    · have hix := idx_d d k hlt
      obtain ⟨hd1, hd2⟩ := hd k hlt
      go_wp2
      go_roundw
      case rel => exact ⟨k + 1, by omega, by go_num, by first | rfl | (simp only [dsum]; go_num), hB.out⟩
      case measure => simp [intOf]; omega
    · obtain rfl : k = 3 := by omega
      go_wp2
      go_ret
      exact ⟨rfl, hB.out⟩
theorem drwS {w : World} {b : Nat} {x : Obj} (h : w.heap[b]? = some x) : w.drew.heap[b]? = some x := h
theorem zero_d3 : ∀ w, (zeroValue 26).run Try.prog w = .ok (.agg (vrow 3 fun _ => .int .i16 0)) w := fun _ => by kernel_rfl
theorem size_i16g : (Try.prog.info? 23).map (·.size) = some 1 := by kernel_rfl
/-- by how much two cells differ, ink by ink -/
def gp (p q : Nat → Int) (m : Nat) : Int := if q m ≤ p m then p m - q m else q m - p m
def gk (p q : Nat → Int) (k m : Nat) : Int := if m < k then gp p q m else 0
theorem gk_step (p q : Nat → Int) (k : Nat) : vrow 3 (over (d3f (gk p q k)) k 1 fun _ => .int .i16 (gp p q k)) = vrow 3 (d3f (gk p q (k + 1))) := vrow_ext _ _ _ fun m _ => by
  unfold over d3f gk
  by_cases h : m = k
  · rw [if_pos (by omega), if_pos (by omega), h]
  · rw [if_neg (by omega)]
    by_cases h2 : m < k
    · rw [if_pos h2, if_pos (by omega)]
    · rw [if_neg h2, if_neg (by omega)]
theorem gk_3 (p q : Nat → Int) : vrow 3 (d3f (gk p q 3)) = vrow 3 (d3f (gp p q)) := vrow_ext _ _ _ fun m hm => by
  unfold d3f gk
  rw [if_pos hm]
theorem gk_0 (p q : Nat → Int) : vrow 3 (d3f (gk p q 0)) = vrow 3 (fun _ => .int .i16 0) := vrow_ext _ _ _ fun m hm => by
  unfold d3f gk
  rw [if_neg (by omega)]
set_option maxHeartbeats 2000000 in
theorem gaps_any (p q : Nat → Int) (hp : ∀ i, i < 3 → 0 ≤ p i ∧ p i ≤ 1000) (hq : ∀ i, i < 3 → 0 ≤ q i ∧ q i ≤ 1000) (w : World) : Calls Try.prog 68 #[.agg (vrow 3 (d3f p)), .agg (vrow 3 (d3f q))] w fun e w' => e = .returned (.agg (vrow 3 (d3f (gp p q)))) ∧ Below w.heap.size w w' := by
  have hB : Hid (Below w.heap.size w ((((w.alloc (.cells (vrow 3 (d3f p)) 26)).alloc (.cells (vrow 3 (d3f q)) 26)).alloc (.cells (vrow 3 fun _ => .int .i16 0) 26)).alloc (.cells (vrow 3 fun _ => .int .i16 0) 26))) := (((((Below.refl w.heap.size w).alloc (by simp <;> omega) _).alloc (by simp <;> omega) _).alloc (by simp <;> omega) _).alloc (by simp <;> omega) _)
  have P : Hid (((((w.alloc (.cells (vrow 3 (d3f p)) 26)).alloc (.cells (vrow 3 (d3f q)) 26)).alloc (.cells (vrow 3 fun _ => .int .i16 0) 26)).alloc (.cells (vrow 3 fun _ => .int .i16 0) 26)).heap[w.heap.size]? = some (.cells (vrow 3 (d3f p)) 26)) := heap_past _ _ _ _ (by simp <;> omega) (heap_past _ _ _ _ (by simp <;> omega) (heap_past _ _ _ _ (by simp <;> omega) (heap_at _ _ _ (by simp))))
  have R : Hid (((((w.alloc (.cells (vrow 3 (d3f p)) 26)).alloc (.cells (vrow 3 (d3f q)) 26)).alloc (.cells (vrow 3 fun _ => .int .i16 0) 26)).alloc (.cells (vrow 3 fun _ => .int .i16 0) 26)).heap[w.heap.size + 1]? = some (.cells (vrow 3 (d3f q)) 26)) := heap_past _ _ _ _ (by simp <;> omega) (heap_past _ _ _ _ (by simp <;> omega) (heap_at _ _ _ (by simp)))
  have Z : Hid (((((w.alloc (.cells (vrow 3 (d3f p)) 26)).alloc (.cells (vrow 3 (d3f q)) 26)).alloc (.cells (vrow 3 fun _ => .int .i16 0) 26)).alloc (.cells (vrow 3 fun _ => .int .i16 0) 26)).heap[w.heap.size + 2]? = some (.cells (vrow 3 fun _ => .int .i16 0) 26)) := heap_past _ _ _ _ (by simp <;> omega) (heap_at _ _ _ (by simp))
  have Y : Hid (((((w.alloc (.cells (vrow 3 (d3f p)) 26)).alloc (.cells (vrow 3 (d3f q)) 26)).alloc (.cells (vrow 3 fun _ => .int .i16 0) 26)).alloc (.cells (vrow 3 fun _ => .int .i16 0) 26)).heap[w.heap.size + 3]? = some (.cells (vrow 3 fun _ => .int .i16 0) 26)) := heap_at _ _ _ (by simp)
  rw [← gk_0 p q] at Y
  have zz := zero_d3
  go_enter Try.func68, Try.ntmps68
  go_wp2
  go_loopw [7] (fun iv wr => ∃ k : Nat, k ≤ 3 ∧ iv = .int .i64 k ∧ wr.heap[w.heap.size]? = some (.cells (vrow 3 (d3f p)) 26) ∧ wr.heap[w.heap.size + 1]? = some (.cells (vrow 3 (d3f q)) 26) ∧ wr.heap[w.heap.size + 2]? = some (.cells (vrow 3 fun _ => .int .i16 0) 26) ∧ wr.heap[w.heap.size + 3]? = some (.cells (vrow 3 (d3f (gk p q k))) 26) ∧ Below w.heap.size w wr) (fun iv _ => 3 - (intOf iv).toNat)
  case atStart => exact ⟨0, by omega, rfl, P.out, R.out, Z.out, Y.out, hB.out⟩
  case round =>
    clear P R Z Y hB zz
    obtain ⟨k, hk, rfl, P, R, Z, Y, hB⟩ := hrel
    replace P := Go.Lib.hid P; replace R := Go.Lib.hid R; replace Z := Go.Lib.hid Z; replace Y := Go.Lib.hid Y; replace hB := Go.Lib.hid hB
    by_cases hlt : k < 3
    · have hkI : (k : Int) < 3 := by omega
      obtain ⟨p1, p2⟩ := hp k hlt
      obtain ⟨q1, q2⟩ := hq k hlt
      go_wp2
      refine wp_region_still_tail 17 (by kernel_rfl) (by kernel_rfl) ?_
      simp only [List.take_succ_cons, List.take_zero, List.drop_succ_cons, List.drop_zero, World.drew_eq]
      repeat (first
        | (refine wpStill_load1 rfl 23 (.tmp 12) rfl w.heap.size k rfl 3 (d3f p) _ _ Try.underlying23 rfl P.out (by omega) ?_; rw [d3f_at]; (try simp only [Act.put, List.setIfInBounds_toArray, List.set_cons_succ, List.set_cons_zero]))
        | (refine wpStill_load1 rfl 23 (.tmp 15) rfl (w.heap.size + 1) k rfl 3 (d3f q) _ _ Try.underlying23 rfl R.out (by omega) ?_; rw [d3f_at]; (try simp only [Act.put, List.setIfInBounds_toArray, List.set_cons_succ, List.set_cons_zero]))
        | (refine wpStill_load1 rfl 23 (.tmp 19) rfl w.heap.size k rfl 3 (d3f p) _ _ Try.underlying23 rfl P.out (by omega) ?_; rw [d3f_at]; (try simp only [Act.put, List.setIfInBounds_toArray, List.set_cons_succ, List.set_cons_zero]))
        | (refine wpStill_load1 rfl 23 (.tmp 22) rfl (w.heap.size + 1) k rfl 3 (d3f q) _ _ Try.underlying23 rfl R.out (by omega) ?_; rw [d3f_at]; (try simp only [Act.put, List.setIfInBounds_toArray, List.set_cons_succ, List.set_cons_zero]))
        | still_step)
      refine wpStill_nil ?_
      replace P := Go.Lib.hid (drwS P.out); replace R := Go.Lib.hid (drwS R.out); replace Z := Go.Lib.hid (drwS Z.out); replace Y := Go.Lib.hid (drwS Y.out); replace hB := Go.Lib.hid (hB.out.drew)
      generalize World.drew _ = W2 at P R Z Y hB ⊢
      have e : IntKind.i16.wrap ((if p k < q k then q k else p k) - if q k < p k then q k else p k) = gp p q k := by
        unfold gp
        rw [IntWalk.i16_in _ (by split <;> split <;> omega)]
        split <;> split <;> split <;> omega
      rw [e]
      go_wp2_with (first
        | go_skip
        | ((with_reducible refine wlOp (.store 23 (.tmp 26) (.tmp 25)) rfl ?_); refine wpList_store1 rfl 23 (.tmp 26) (.tmp 25) rfl (w.heap.size + 3) k rfl 3 (d3f (gk p q k)) (.int .i16 (gp p q k)) rfl 26 size_i16g Y.out (by omega) rfl ?_; rw [gk_step]))
      go_roundw
      case rel => exact ⟨k + 1, by omega, by go_num, row_set' (by omega) P.out _, row_set' (by omega) R.out _, row_set' (by omega) Z.out _, row_set Y.out _, Below_setRow hB.out (by omega) _⟩
      case measure => simp [intOf]; omega
    · obtain rfl : k = 3 := by omega
      rw [gk_3] at Y
      go_wp2_with (first
        | go_skip
        | ((with_reducible refine wlAt 28 rfl ?_); refine wpList_loadall rfl 26 (.tmp 5) rfl _ rfl 3 (d3f (gp p q)) 26 _ Try.underlying26 rfl size_d3 Y.out ?_)
        | ((with_reducible refine wlOp (.store 26 (.tmp 4) (.tmp 28)) rfl ?_); refine wpList_storeall rfl 26 (.tmp 4) (.tmp 28) rfl (w.heap.size + 2) rfl 3 (fun _ => .int .i16 0) (d3f (gp p q)) rfl 26 size_d3 Z.out (fun i _ => rfl) ?_))
      exact ret_row Try.results68 (w.heap.size + 2) 3 (d3f (gp p q)) 26 _ Try.underlying26 rfl size_d3 rfl rfl (row_set Z.out (vrow 3 (d3f (gp p q)))) ⟨rfl, Below_setRow hB.out (by omega) _⟩
end Go.Proofs.Ytianedkknlggmaa
