import Derived.Deep.RegionHeld3
import Derived.StillTail
import Derived.StillTailTactics
import Derived.Test.YtmcpaangofdmpaaDoorDark
import Derived.Test.YtmcpaangofdmpaaDoorG1
import Derived.Test.YtmcpaangofdmpaaDoorQT
namespace Go.Proofs.YtmcpaangofdmpaaDoor
open Go.RowKit
set_option maxRecDepth 100000
set_option linter.unusedVariables false
set_option linter.unusedSimpArgs false
theorem lmax_any (a b : Int) (w : World) : Calls Tryd.prog 106 #[.int .i64 a, .int .i64 b] w fun e w' => e = .returned (.int .i64 (max a b)) ∧ Below w.heap.size w w' := by
  by_cases h : b < a
  · have hm : max a b = a := by omega
    go_enter Tryd.func106, Tryd.ntmps106
    go_wp2
    go_ret
    exact ⟨by first | rfl | (rw [hm]; rfl), Below.refl _ _⟩
  · have hm : max a b = b := by omega
    go_enter Tryd.func106, Tryd.ntmps106
    go_wp2
    go_ret
    exact ⟨by first | rfl | (rw [hm]; rfl), Below.refl _ _⟩
theorem lsize0 (x y : Int) (hx : -32768 ≤ x ∧ x ≤ 32767) (hy : -32768 ≤ y ∧ y ≤ 32767) (w : World) : Calls Tryd.prog 95 #[.int .i64 (x - y)] w fun e w' => e = .returned (.int .i64 (max (x - y) (-(x - y)))) ∧ Below w.heap.size w w' := by
  have hn : IntKind.i64.wrap (-(x - y)) = -(x - y) := IntWalk.i64_in _ (by omega)
  have hB := Go.Lib.hid (Below.refl w.heap.size w)
  have HM := Go.Lib.hid fun w => lmax_any (x - y) (-(x - y)) w
  go_enter Tryd.func95, Tryd.ntmps95
  go_wp2_with (go_at_call 106; refine (HM.out _).mono ?_; rintro o w1 ⟨rfl, hb⟩; replace hB := Go.Lib.hid (below_next hB.out hb); clear hb)
  go_ret
  exact ⟨rfl, hB.out⟩
theorem lsize_any (x y : Int) (hx : -32768 ≤ x ∧ x ≤ 32767) (hy : -32768 ≤ y ∧ y ≤ 32767) (w : World) : Calls Tryd.prog 95 #[.int .i64 (x - y)] w fun e w' => e = .returned (.int .i64 (if y ≤ x then x - y else y - x)) ∧ Below w.heap.size w w' := by
  have h := lsize0 x y hx hy w
  rwa [show max (x - y) (-(x - y)) = (if y ≤ x then x - y else y - x) by split <;> omega] at h
theorem drwS {w : World} {b : Nat} {x : Obj} (h : w.heap[b]? = some x) : w.drew.heap[b]? = some x := h
theorem zero_d3 : ∀ w, (zeroValue 26).run Tryd.prog w = .ok (.agg (vrow 3 fun _ => .int .i16 0)) w := fun _ => by kernel_rfl
theorem size_i16g : (Tryd.prog.info? 23).map (·.size) = some 1 := by kernel_rfl
/-- by how much two cells differ, ink by ink -/
def gp (p q : Nat → Int) (m : Nat) : Int := if q m ≤ p m then p m - q m else q m - p m
def gk (p q : Nat → Int) (k m : Nat) : Int := if m < k then gp p q m else 0
theorem gk_step (p q : Nat → Int) (k : Nat) : vrow 3 (over (d3f (gk p q k)) k 1 fun _ => .int .i16 (gp p q k)) = vrow 3 (d3f (gk p q (k + 1))) := vrow_ext _ _ _ fun m _ => by
  unfold over d3f gk
  by_cases h : m = k
  · rw [if_pos (by omega), if_pos (by omega), h]
  · rw [if_neg (by omega)]
    by_cases h2 : m < k
    · rw [if_pos h2, if_pos (by omega)]
    · rw [if_neg h2, if_neg (by omega)]
theorem gk_3 (p q : Nat → Int) : vrow 3 (d3f (gk p q 3)) = vrow 3 (d3f (gp p q)) := vrow_ext _ _ _ fun m hm => by
  unfold d3f gk
  rw [if_pos hm]
theorem gk_0 (p q : Nat → Int) : vrow 3 (d3f (gk p q 0)) = vrow 3 (fun _ => .int .i16 0) := vrow_ext _ _ _ fun m hm => by
  unfold d3f gk
  rw [if_neg (by omega)]
set_option maxHeartbeats 2000000 in
theorem gaps_any (p q : Nat → Int) (hp : ∀ i, i < 3 → 0 ≤ p i ∧ p i ≤ 1000) (hq : ∀ i, i < 3 → 0 ≤ q i ∧ q i ≤ 1000) (w : World) : Calls Tryd.prog 134 #[.agg (vrow 3 (d3f p)), .agg (vrow 3 (d3f q))] w fun e w' => e = .returned (.agg (vrow 3 (d3f (gp p q)))) ∧ Below w.heap.size w w' := by
  have hB : Hid (Below w.heap.size w ((((w.alloc (.cells (vrow 3 (d3f p)) 26)).alloc (.cells (vrow 3 (d3f q)) 26)).alloc (.cells (vrow 3 fun _ => .int .i16 0) 26)).alloc (.cells (vrow 3 fun _ => .int .i16 0) 26))) := (((((Below.refl w.heap.size w).alloc (by simp <;> omega) _).alloc (by simp <;> omega) _).alloc (by simp <;> omega) _).alloc (by simp <;> omega) _)
  have P : Hid (((((w.alloc (.cells (vrow 3 (d3f p)) 26)).alloc (.cells (vrow 3 (d3f q)) 26)).alloc (.cells (vrow 3 fun _ => .int .i16 0) 26)).alloc (.cells (vrow 3 fun _ => .int .i16 0) 26)).heap[w.heap.size]? = some (.cells (vrow 3 (d3f p)) 26)) := heap_past _ _ _ _ (by simp <;> omega) (heap_past _ _ _ _ (by simp <;> omega) (heap_past _ _ _ _ (by simp <;> omega) (heap_at _ _ _ (by simp))))
  have R : Hid (((((w.alloc (.cells (vrow 3 (d3f p)) 26)).alloc (.cells (vrow 3 (d3f q)) 26)).alloc (.cells (vrow 3 fun _ => .int .i16 0) 26)).alloc (.cells (vrow 3 fun _ => .int .i16 0) 26)).heap[w.heap.size + 1]? = some (.cells (vrow 3 (d3f q)) 26)) := heap_past _ _ _ _ (by simp <;> omega) (heap_past _ _ _ _ (by simp <;> omega) (heap_at _ _ _ (by simp)))
  have Z : Hid (((((w.alloc (.cells (vrow 3 (d3f p)) 26)).alloc (.cells (vrow 3 (d3f q)) 26)).alloc (.cells (vrow 3 fun _ => .int .i16 0) 26)).alloc (.cells (vrow 3 fun _ => .int .i16 0) 26)).heap[w.heap.size + 2]? = some (.cells (vrow 3 fun _ => .int .i16 0) 26)) := heap_past _ _ _ _ (by simp <;> omega) (heap_at _ _ _ (by simp))
  have Y : Hid (((((w.alloc (.cells (vrow 3 (d3f p)) 26)).alloc (.cells (vrow 3 (d3f q)) 26)).alloc (.cells (vrow 3 fun _ => .int .i16 0) 26)).alloc (.cells (vrow 3 fun _ => .int .i16 0) 26)).heap[w.heap.size + 3]? = some (.cells (vrow 3 fun _ => .int .i16 0) 26)) := heap_at _ _ _ (by simp)
  rw [← gk_0 p q] at Y
  have zz := zero_d3
  go_enter Tryd.func134, Tryd.ntmps134
  go_wp2
  go_loopw [7] (fun iv wr => ∃ k : Nat, k ≤ 3 ∧ iv = .int .i64 k ∧ wr.heap[w.heap.size]? = some (.cells (vrow 3 (d3f p)) 26) ∧ wr.heap[w.heap.size + 1]? = some (.cells (vrow 3 (d3f q)) 26) ∧ wr.heap[w.heap.size + 2]? = some (.cells (vrow 3 fun _ => .int .i16 0) 26) ∧ wr.heap[w.heap.size + 3]? = some (.cells (vrow 3 (d3f (gk p q k))) 26) ∧ Below w.heap.size w wr) (fun iv _ => 3 - (intOf iv).toNat)
  case atStart => exact ⟨0, by omega, rfl, P.out, R.out, Z.out, Y.out, hB.out⟩
  case round =>
    clear P R Z Y hB zz
    obtain ⟨k, hk, rfl, P, R, Z, Y, hB⟩ := hrel
    replace P := Go.Lib.hid P; replace R := Go.Lib.hid R; replace Z := Go.Lib.hid Z; replace Y := Go.Lib.hid Y; replace hB := Go.Lib.hid hB
    by_cases hlt : k < 3
    · have hkI : (k : Int) < 3 := by omega
      obtain ⟨p1, p2⟩ := hp k hlt
      obtain ⟨q1, q2⟩ := hq k hlt
      go_wp2
      refine wp_region_still_tail 17 (by kernel_rfl) (by kernel_rfl) ?_
      simp only [List.take_succ_cons, List.take_zero, List.drop_succ_cons, List.drop_zero, World.drew_eq]
      repeat (first
        | (refine wpStill_load1 rfl 23 (.tmp 12) rfl w.heap.size k rfl 3 (d3f p) _ _ Tryd.underlying23 rfl P.out (by omega) ?_; rw [d3f_at]; (try simp only [Act.put, List.setIfInBounds_toArray, List.set_cons_succ, List.set_cons_zero]))
        | (refine wpStill_load1 rfl 23 (.tmp 15) rfl (w.heap.size + 1) k rfl 3 (d3f q) _ _ Tryd.underlying23 rfl R.out (by omega) ?_; rw [d3f_at]; (try simp only [Act.put, List.setIfInBounds_toArray, List.set_cons_succ, List.set_cons_zero]))
        | (refine wpStill_load1 rfl 23 (.tmp 19) rfl w.heap.size k rfl 3 (d3f p) _ _ Tryd.underlying23 rfl P.out (by omega) ?_; rw [d3f_at]; (try simp only [Act.put, List.setIfInBounds_toArray, List.set_cons_succ, List.set_cons_zero]))
        | (refine wpStill_load1 rfl 23 (.tmp 22) rfl (w.heap.size + 1) k rfl 3 (d3f q) _ _ Tryd.underlying23 rfl R.out (by omega) ?_; rw [d3f_at]; (try simp only [Act.put, List.setIfInBounds_toArray, List.set_cons_succ, List.set_cons_zero]))
        | still_step)
      refine wpStill_nil ?_
      replace P := Go.Lib.hid (drwS P.out); replace R := Go.Lib.hid (drwS R.out); replace Z := Go.Lib.hid (drwS Z.out); replace Y := Go.Lib.hid (drwS Y.out); replace hB := Go.Lib.hid (hB.out.drew)
      generalize World.drew _ = W2 at P R Z Y hB ⊢
      have e : IntKind.i16.wrap ((if p k < q k then q k else p k) - if q k < p k then q k else p k) = gp p q k := by
        unfold gp
        rw [IntWalk.i16_in _ (by split <;> split <;> omega)]
        split <;> split <;> split <;> omega
      rw [e]
      go_wp2_with (first
        | go_skip
        | ((with_reducible refine wlOp (.store 23 (.tmp 26) (.tmp 25)) rfl ?_); refine wpList_store1 rfl 23 (.tmp 26) (.tmp 25) rfl (w.heap.size + 3) k rfl 3 (d3f (gk p q k)) (.int .i16 (gp p q k)) rfl 26 size_i16g Y.out (by omega) rfl ?_; rw [gk_step]))
      go_roundw
      case rel => exact ⟨k + 1, by omega, by go_num, row_set' (by omega) P.out _, row_set' (by omega) R.out _, row_set' (by omega) Z.out _, row_set Y.out _, Below_setRow hB.out (by omega) _⟩
      case measure => simp [intOf]; omega
    · obtain rfl : k = 3 := by omega
      rw [gk_3] at Y
      go_wp2_with (first
        | go_skip
        | ((with_reducible refine wlAt 28 rfl ?_); refine wpList_loadall rfl 26 (.tmp 5) rfl _ rfl 3 (d3f (gp p q)) 26 _ Tryd.underlying26 rfl size_d3 Y.out ?_)
        | ((with_reducible refine wlOp (.store 26 (.tmp 4) (.tmp 28)) rfl ?_); refine wpList_storeall rfl 26 (.tmp 4) (.tmp 28) rfl (w.heap.size + 2) rfl 3 (fun _ => .int .i16 0) (d3f (gp p q)) rfl 26 size_d3 Z.out (fun i _ => rfl) ?_))
      exact ret_row Tryd.results134 (w.heap.size + 2) 3 (d3f (gp p q)) 26 _ Tryd.underlying26 rfl size_d3 rfl rfl (row_set Z.out (vrow 3 (d3f (gp p q)))) ⟨rfl, Below_setRow hB.out (by omega) _⟩
end Go.Proofs.YtmcpaangofdmpaaDoor
