import Derived.Deep.RegionHeld3
import Derived.Test.YtfhfiaphdgfmnaaDoorG1
namespace Go.Proofs.YtfhfiaphdgfmnaaDoor
open Go.RowKit
set_option maxRecDepth 100000
set_option linter.unusedVariables false
set_option linter.unusedSimpArgs false
/-- three numbers, and the first k of a sum -/
def ivF (g : Nat → Int) (m : Nat) : Value := .int .i64 (g m)
def plF3 (f g : Nat → Int) (k m : Nat) : Int := if m < k then f m + g m else f m
theorem pl_0 (f g : Nat → Int) : plF3 f g 0 = f := funext fun m => by unfold plF3; rw [if_neg (by omega)]
theorem pl_3 (f g : Nat → Int) : vrow 3 (ivF (plF3 f g 3)) = vrow 3 (ivF fun m => f m + g m) := vrow_ext _ _ _ fun m hm => by unfold ivF plF3; rw [if_pos hm]
theorem pl_at (f g : Nat → Int) (k : Nat) : ivF (plF3 f g k) k = .int .i64 (f k) := by unfold ivF plF3; rw [if_neg (by omega)]
theorem pl_step (f g : Nat → Int) (k : Nat) : vrow 3 (over (ivF (plF3 f g k)) k 1 fun _ => .int .i64 (f k + g k)) = vrow 3 (ivF (plF3 f g (k + 1))) := vrow_ext _ _ _ fun m hm => by
  unfold over ivF plF3
  by_cases h : k ≤ m ∧ m < k + 1
  · obtain rfl : m = k := by omega
    rw [if_pos h, if_pos (by omega)]
  · rw [if_neg h]
    by_cases h2 : m < k
    · rw [if_pos h2, if_pos (by omega)]
    · rw [if_neg h2, if_neg (by omega)]
theorem iv_one (g : Nat → Int) (i : Nat) : (ivF g i).oneCell' = true := rfl
theorem iv_at (g : Nat → Int) (i : Nat) : ivF g i = .int .i64 (g i) := rfl
theorem grd_refl (w : World) (row : Option Nat) : w.grownBy w row := ⟨rfl, rfl, rfl, Nat.le_refl _, fun _ _ _ => rfl⟩
theorem grd_next {W W1 W2 : World} {row : Option Nat} (h : W.grownBy W1 row) (hb : Below W1.heap.size W1 W2) : W.grownBy W2 row :=
  ⟨hb.os.trans h.os, hb.tape.trans h.tape, hb.output.trans h.output, Nat.le_trans h.size hb.size, fun k hk hne => (hb.block k (Nat.lt_of_lt_of_le hk h.size)).trans (h.block k hk hne)⟩
theorem grd_drew {W W1 : World} {row : Option Nat} (h : W.grownBy W1 row) : W.grownBy W1.drew row := ⟨h.os, h.tape, h.output, h.size, h.block⟩
theorem grd_set {W W1 : World} {g : Nat} (h : W.grownBy W1 (some g)) (cs : Array Value) : W.grownBy (W1.setRow g cs) (some g) :=
  ⟨h.os, h.tape, h.output, by simpa using h.size, fun k hk hne => (setRow_other W1 g k cs (fun e => hne (by rw [e]))).trans (h.block k hk hne)⟩
theorem grd_row {W W1 : World} {g b : Nat} {x : Obj} (h : W.grownBy W1 (some g)) (hb : W.heap[b]? = some x) (hne : b ≠ g) : W1.heap[b]? = some x :=
  (h.block b (row_lt hb) (fun e => hne (by simpa using e))).trans hb
theorem grd_below {B : Nat} {w W W1 : World} {g : Nat} (hb : Below B w W) (h : W.grownBy W1 (some g)) (hB : B ≤ W.heap.size) (hg : B ≤ g) : Below B w W1 :=
  ⟨h.os.trans hb.os, h.tape.trans hb.tape, h.output.trans hb.output, Nat.le_trans hb.size h.size, fun k hk => (h.block k (by omega) (fun e => by simp at e; omega)).trans (hb.block k hk)⟩
theorem drwD {w : World} {b : Nat} {x : Obj} (h : w.heap[b]? = some x) : w.drew.heap[b]? = some x := h
set_option maxHeartbeats 4000000 in
theorem lplus_any (f g : Nat → Int) (w : World) (hb0 : ∀ i, i < 3 → -1099511627776 ≤ f i ∧ f i ≤ 1099511627776 ∧ -1099511627776 ≤ g i ∧ g i ≤ 1099511627776) : Calls Tryd.prog 57 #[.agg (vrow 3 (ivF f)), .agg (vrow 3 (ivF g))] w fun e w' => e = .returned (.agg (vrow 3 (ivF fun m => f m + g m))) ∧ Below w.heap.size w w' := by
  have za := zero_i3
  have P : Hid ((((w.alloc (.cells (vrow 3 (ivF f)) 50)).alloc (.cells (vrow 3 (ivF g)) 50)).alloc (.cells (vrow 3 fun _ => .int .i64 0) 50)).heap[w.heap.size]? = some (.cells (vrow 3 (ivF f)) 50)) := heap_past _ _ _ _ (by simp <;> omega) (heap_past _ _ _ _ (by simp <;> omega) (heap_at _ _ _ (by simp)))
  have Q : Hid ((((w.alloc (.cells (vrow 3 (ivF f)) 50)).alloc (.cells (vrow 3 (ivF g)) 50)).alloc (.cells (vrow 3 fun _ => .int .i64 0) 50)).heap[w.heap.size + 1]? = some (.cells (vrow 3 (ivF g)) 50)) := heap_past _ _ _ _ (by simp <;> omega) (heap_at _ _ _ (by simp))
  have Z : Hid ((((w.alloc (.cells (vrow 3 (ivF f)) 50)).alloc (.cells (vrow 3 (ivF g)) 50)).alloc (.cells (vrow 3 fun _ => .int .i64 0) 50)).heap[w.heap.size + 2]? = some (.cells (vrow 3 fun _ => .int .i64 0) 50)) := heap_at _ _ _ (by simp)
  have hB : Hid (Below w.heap.size w (((w.alloc (.cells (vrow 3 (ivF f)) 50)).alloc (.cells (vrow 3 (ivF g)) 50)).alloc (.cells (vrow 3 fun _ => .int .i64 0) 50))) := Go.Lib.hid ((((Below.refl w.heap.size w).alloc (by simp <;> omega) _).alloc (by simp <;> omega) _).alloc (by simp <;> omega) _)
  go_enter Tryd.func57, Tryd.ntmps57
  go_wp2
  have p1 := P.out; have q1 := Q.out; have z1 := Z.out; have b1 := hB.out
  rw [← pl_0 f g] at p1
  clear P Q Z hB
  go_loopw [5] (fun iv wr => ∃ k : Nat, k ≤ 3 ∧ iv = .int .i64 k ∧ wr.heap[w.heap.size]? = some (.cells (vrow 3 (ivF (plF3 f g k))) 50) ∧ wr.heap[w.heap.size + 1]? = some (.cells (vrow 3 (ivF g)) 50) ∧ wr.heap[w.heap.size + 2]? = some (.cells (vrow 3 fun _ => .int .i64 0) 50) ∧ Below w.heap.size w wr) (fun iv _ => 3 - (intOf iv).toNat)
  case atStart => exact ⟨0, by omega, rfl, p1, q1, z1, b1⟩
  case round =>
    clear p1 q1 z1 b1
    obtain ⟨k, hk, rfl, P, Q, Z, hB⟩ := hrel
    by_cases hlt : k < 3
    · have hkI : (k : Int) < 3 := by omega
      have hk0 : (0 : Int) ≤ (k : Int) := by omega
      have hwr : IntKind.i64.wrap (f k + g k) = f k + g k := IntWalk.i64_in _ (by have := hb0 k hlt; omega)
      have EF := Go.Lib.hid (pl_at f g k)
      have EG := Go.Lib.hid (iv_at g k)
      have EST := Go.Lib.hid (pl_step f g k)
      replace P := Go.Lib.hid P; replace Q := Go.Lib.hid Q; replace Z := Go.Lib.hid Z; replace hB := Go.Lib.hid hB
      go_wp2
      refine wp_region_still_tail 8 (by kernel_rfl) (by kernel_rfl) ?_
      simp only [List.take_succ_cons, List.take_zero, List.drop_succ_cons, List.drop_zero, World.drew_eq]
      repeat (first
        | (refine wpStill_load1 rfl 2 (.tmp 11) rfl w.heap.size k rfl 3 (ivF (plF3 f g k)) _ _ Tryd.underlying2 rfl P.out (by omega) ?_; rw [EF.out]; simp only [Act.put, List.setIfInBounds_toArray, List.set_cons_succ, List.set_cons_zero])
        | (refine wpStill_load1 rfl 2 (.tmp 14) rfl (w.heap.size + 1) k rfl 3 (ivF g) _ _ Tryd.underlying2 rfl Q.out (by omega) ?_; rw [EG.out]; simp only [Act.put, List.setIfInBounds_toArray, List.set_cons_succ, List.set_cons_zero])
        | still_step
        | (refine wpStill_step (fun K hK => ?_); go_simp; simp only [hkI, hk0, if_true]; go_simp; refine hK _ ?_; clear hK K))
      refine wpStill_nil ?_
      refine wpList_store1 rfl 2 (.tmp 17) (.tmp 16) rfl w.heap.size k rfl 3 (ivF (plF3 f g k)) (.int .i64 (f k + g k)) (by first | rfl | (show Value.int .i64 (IntKind.i64.wrap (f k + g k)) = _; rw [hwr])) 50 size_i64c P.out (by omega) rfl ?_
      rw [EST.out]
      have P2 := row_set (w := wr.drew) P.out (vrow 3 (ivF (plF3 f g (k + 1))))
      have Q2 := row_set' (w := wr.drew) (g := w.heap.size) (by omega) Q.out (vrow 3 (ivF (plF3 f g (k + 1))))
      have Z2 := row_set' (w := wr.drew) (g := w.heap.size) (by omega) Z.out (vrow 3 (ivF (plF3 f g (k + 1))))
      have hB2 := Below_setRow hB.out.drew (Nat.le_refl _) (vrow 3 (ivF (plF3 f g (k + 1))))
      clear P Q Z hB
      generalize World.setRow wr.drew _ _ = w9 at P2 Q2 Z2 hB2 ⊢
      go_wp2
      go_roundw
      case rel => exact ⟨k + 1, by omega, by go_num, P2, Q2, Z2, hB2⟩
      case measure => simp [intOf]; omega
    · obtain rfl : k = 3 := by omega
      rw [pl_3] at P
      obtain ⟨s, hs⟩ : ∃ s : Nat → Int, (fun m => f m + g m) = s := ⟨_, rfl⟩
      rw [hs] at P
      have HS := Go.Lib.hid hs
      clear hs
      replace P := Go.Lib.hid P; replace Z := Go.Lib.hid Z; replace hB := Go.Lib.hid hB
      go_wp2_with (first
        | go_skip
        | ((with_reducible refine wlAt 18 rfl ?_); refine wpList_loadall rfl 50 (.tmp 2) rfl _ rfl 3 (ivF s) 50 _ Tryd.underlying50 rfl size_i3 P.out ?_)
        | ((with_reducible refine wlOp (.store 50 (.tmp 4) (.tmp 18)) rfl ?_); refine wpList_storeall rfl 50 (.tmp 4) (.tmp 18) rfl (w.heap.size + 2) rfl 3 (fun _ => .int .i64 0) (ivF s) rfl 50 size_i3 Z.out (fun i _ => iv_one _ i) ?_; replace Z := Go.Lib.hid (row_set Z.out (vrow 3 (ivF s))); replace hB := Go.Lib.hid (Below_setRow hB.out (show w.heap.size ≤ w.heap.size + 2 by omega) (vrow 3 (ivF s)))))
      refine ret_row Tryd.results57 (w.heap.size + 2) 3 (ivF s) 50 _ Tryd.underlying50 rfl size_i3 rfl rfl Z.out ?_
      exact ⟨by rw [HS.out], hB.out⟩
theorem idxA3 (g : Nat → Int) (k : Nat) (hk : k < 3) (w : World) : (Instr.index 50 (.agg (vrow 3 (ivF g))) (.int .i64 k)).run Tryd.prog w = .ok (.int .i64 (g k)) w := by
  have i0 : ∀ (a b c : Value) (w : World), (Instr.index 50 (.agg #[a, b, c]) (.int .i64 0)).run Tryd.prog w = .ok a w := fun _ _ _ _ => by kernel_rfl
  have i1 : ∀ (a b c : Value) (w : World), (Instr.index 50 (.agg #[a, b, c]) (.int .i64 1)).run Tryd.prog w = .ok b w := fun _ _ _ _ => by kernel_rfl
  have i2 : ∀ (a b c : Value) (w : World), (Instr.index 50 (.agg #[a, b, c]) (.int .i64 2)).run Tryd.prog w = .ok c w := fun _ _ _ _ => by kernel_rfl
  have : k = 0 ∨ k = 1 ∨ k = 2 := by omega
  rcases this with rfl | rfl | rfl
  · exact i0 _ _ _ w
  · exact i1 _ _ _ w
  · exact i2 _ _ _ w
set_option maxHeartbeats 4000000 in
theorem padd_any (f g : Nat → Int) (b : Nat) (w : World) (hb0 : ∀ i, i < 3 → -1099511627776 ≤ f i ∧ f i ≤ 1099511627776 ∧ -1099511627776 ≤ g i ∧ g i ≤ 1099511627776) (hr : w.heap[b]? = some (.cells (vrow 3 (ivF f)) 50)) : Calls Tryd.prog 94 #[.pointer (some ⟨b, 0, none⟩), .agg (vrow 3 (ivF g))] w fun e w' => (∃ r, e = .returned r) ∧ w.grownBy w' (some b) ∧ w'.heap[b]? = some (.cells (vrow 3 (ivF fun m => f m + g m)) 50) := by
  have hbl := row_lt hr
  have P : Hid ((w.alloc (.cells (vrow 3 (ivF g)) 50)).heap[b]? = some (.cells (vrow 3 (ivF f)) 50)) := Go.Lib.hid (heap_past _ _ _ _ hbl hr)
  have Q : Hid ((w.alloc (.cells (vrow 3 (ivF g)) 50)).heap[w.heap.size]? = some (.cells (vrow 3 (ivF g)) 50)) := heap_at _ _ _ (by simp)
  have hG : Hid (w.grownBy (w.alloc (.cells (vrow 3 (ivF g)) 50)) (some b)) := Go.Lib.hid (grd_next (grd_refl w _) ((Below.refl _ _).alloc (Nat.le_refl _) _))
  clear hr
  go_enter Tryd.func94, Tryd.ntmps94
  go_wp2_with (first
    | go_skip
    | ((with_reducible refine wlAt 6 rfl ?_); refine wpList_loadall rfl 50 (.tmp 3) rfl _ rfl 3 (ivF g) 50 _ Tryd.underlying50 rfl size_i3 Q.out ?_))
  have p1 := P.out; have g1 := hG.out
  rw [← pl_0 f g] at p1
  clear P Q hG
  go_loopw [7] (fun iv wr => ∃ k : Nat, k ≤ 3 ∧ iv = .int .i64 k ∧ wr.heap[b]? = some (.cells (vrow 3 (ivF (plF3 f g k))) 50) ∧ w.grownBy wr (some b)) (fun iv _ => 3 - (intOf iv).toNat)
  case atStart => exact ⟨0, by omega, rfl, p1, g1⟩
  case round =>
    clear p1 g1
    obtain ⟨k, hk, rfl, P, hG⟩ := hrel
    by_cases hlt : k < 3
    · have hkI : (k : Int) < 3 := by omega
      have hk0 : (0 : Int) ≤ (k : Int) := by omega
      have hwr : IntKind.i64.wrap (f k + g k) = f k + g k := IntWalk.i64_in _ (by have := hb0 k hlt; omega)
      have EF := Go.Lib.hid (pl_at f g k)
      have EST := Go.Lib.hid (pl_step f g k)
      have hix := idxA3 g k hlt
      replace P := Go.Lib.hid P; replace hG := Go.Lib.hid hG
      go_wp2
      refine wp_region_still_tail 9 (by kernel_rfl) (by kernel_rfl) ?_
      simp only [List.take_succ_cons, List.take_zero, List.drop_succ_cons, List.drop_zero, World.drew_eq]
      repeat (first
        | (refine wpStill_load1 rfl 2 (.tmp 14) rfl b k rfl 3 (ivF (plF3 f g k)) _ _ Tryd.underlying2 rfl P.out (by omega) ?_; rw [EF.out]; simp only [Act.put, List.setIfInBounds_toArray, List.set_cons_succ, List.set_cons_zero])
        | still_step
        | (refine wpStill_step (fun K hK => ?_); go_simp; simp only [hkI, hk0, if_true]; go_simp; refine hK _ ?_; clear hK K))
      refine wpStill_nil ?_
      refine wpList_store1 rfl 2 (.tmp 19) (.tmp 17) rfl b k rfl 3 (ivF (plF3 f g k)) (.int .i64 (f k + g k)) (by first | rfl | (show Value.int .i64 (IntKind.i64.wrap (f k + g k)) = _; rw [hwr])) 50 size_i64c P.out (by omega) rfl ?_
      rw [EST.out]
      have P2 := row_set (w := wr.drew) P.out (vrow 3 (ivF (plF3 f g (k + 1))))
      have G2 := grd_set (grd_drew hG.out) (vrow 3 (ivF (plF3 f g (k + 1))))
      clear P hG
      generalize World.setRow wr.drew _ _ = w9 at P2 G2 ⊢
      go_wp2
      go_roundw
      case rel => exact ⟨k + 1, by omega, by go_num, P2, G2⟩
      case measure => simp [intOf]; omega
    · obtain rfl : k = 3 := by omega
      rw [pl_3] at P
      go_wp2
      first | go_end0 | go_ret
      exact ⟨⟨_, rfl⟩, hG, P⟩
end Go.Proofs.YtfhfiaphdgfmnaaDoor
