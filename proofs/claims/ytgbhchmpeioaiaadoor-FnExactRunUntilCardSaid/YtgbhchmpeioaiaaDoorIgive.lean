import Derived.Deep.RegionHeld3
import Derived.Test.YtgbhchmpeioaiaaDoorGive
import Derived.Test.YtgbhchmpeioaiaaDoorArrBase
namespace Go.Proofs.YtgbhchmpeioaiaaDoor
open Go.RowKit
set_option maxRecDepth 100000
set_option linter.unusedVariables false
set_option linter.unusedSimpArgs false
set_option linter.unusedSimpArgs false
theorem giveInks_from (T : Sh) (x y u v : Nat) (wt : Int) (hx : x < 8) (hu : u < 8) (hne : 8 * y + x ≠ 8 * v + u) : ∀ k j, k ≤ j → j < 3 → (giveInks T x y u v wt k).dye (24 * y + 3 * x + j) = T.dye (24 * y + 3 * x + j)
  | 0, _, _, _ => rfl
  | k + 1, j, h, hj => by
    have ih := giveInks_from T x y u v wt hx hu hne k j (by omega) hj
    show (if 24 * y + 3 * x + j = 24 * v + 3 * u + k then _ else if 24 * y + 3 * x + j = 24 * y + 3 * x + k then _ else (giveInks T x y u v wt k).dye (24 * y + 3 * x + j)) = _
    rw [if_neg (by omega), if_neg (by omega), ih]
theorem idx3 (f : Nat → Int) (k : Nat) (hk : k < 3) (w : World) : (Instr.index 26 (.agg (vrow 3 fun i => .int .i16 (f i))) (.int .i64 k)).run Tryd.prog w = .ok (.int .i16 (f k)) w := by
  have i0 : ∀ (a b c : Value) (w : World), (Instr.index 26 (.agg #[a, b, c]) (.int .i64 0)).run Tryd.prog w = .ok a w := fun _ _ _ _ => by kernel_rfl
  have i1 : ∀ (a b c : Value) (w : World), (Instr.index 26 (.agg #[a, b, c]) (.int .i64 1)).run Tryd.prog w = .ok b w := fun _ _ _ _ => by kernel_rfl
  have i2 : ∀ (a b c : Value) (w : World), (Instr.index 26 (.agg #[a, b, c]) (.int .i64 2)).run Tryd.prog w = .ok c w := fun _ _ _ _ => by kernel_rfl
  have : k = 0 ∨ k = 1 ∨ k = 2 := by omega
  rcases this with rfl | rfl | rfl
  · exact i0 _ _ _ w
  · exact i1 _ _ _ w
  · exact i2 _ _ _ w
set_option maxHeartbeats 8000000 in
theorem igiveC (T : Sh) (mt x y u v : Nat) (w : World) (ht : w.heap[mt]? = some (.cells (vrow 266 T.at) 35)) (hx : x < 8) (hy : y < 8) (hu : u < 8) (hv : v < 8) (hne : 8 * y + x ≠ 8 * v + u) (hi : InkOk T) (hw : 1 ≤ T.wet (8 * y + x) ∧ T.wet (8 * y + x) ≤ 200) (hw2 : 0 ≤ T.wet (8 * v + u) ∧ T.wet (8 * v + u) ≤ 199) : Calls Tryd.prog 87 #[.pointer (some ⟨mt, 0, none⟩), .agg (vrow 2 (spAt x y)), .agg (vrow 2 (spAt u v))] w fun e w' => (∃ r, e = .returned r) ∧ w.grownBy w' (some mt) ∧ w'.heap[mt]? = some (.cells (vrow 266 (giveS T x y u v).at) 35) := by
  have hxI : (x : Int) < 8 := by omega
  have hyI : (y : Int) < 8 := by omega
  have huI : (u : Int) < 8 := by omega
  have hvI : (v : Int) < 8 := by omega
  obtain ⟨wt, hwt⟩ : ∃ wt, T.wet (8 * y + x) = wt := ⟨_, rfl⟩
  rw [hwt] at hw
  have HWT := Go.Lib.hid hwt
  clear hwt
  have hB : Hid (Below w.heap.size w ((w.alloc (.cells (vrow 2 (spAt x y)) 40)).alloc (.cells (vrow 2 (spAt u v)) 40))) := (((Below.refl w.heap.size w).alloc (by simp <;> omega) _).alloc (by simp <;> omega) _)
  have R : Hid (((w.alloc (.cells (vrow 2 (spAt x y)) 40)).alloc (.cells (vrow 2 (spAt u v)) 40)).heap[(w.heap.size)]? = some (.cells (vrow 2 (spAt x y)) 40)) := heap_past _ _ _ _ (by first | omega | (simp <;> omega)) (heap_at _ _ _ (by simp))
  have Q : Hid (((w.alloc (.cells (vrow 2 (spAt x y)) 40)).alloc (.cells (vrow 2 (spAt u v)) 40)).heap[(w.heap.size + 1)]? = some (.cells (vrow 2 (spAt u v)) 40)) := heap_at _ _ _ (by simp)
  have M : Hid (((w.alloc (.cells (vrow 2 (spAt x y)) 40)).alloc (.cells (vrow 2 (spAt u v)) 40)).heap[mt]? = some (.cells (vrow 266 T.at) 35)) := heap_past _ _ _ _ (by first | (have := row_lt ht; omega) | (have := row_lt ht; simp <;> omega)) (heap_past _ _ _ _ (by first | (have := row_lt ht; omega) | (have := row_lt ht; simp <;> omega)) (ht))
  have hG : Hid (w.grownBy ((w.alloc (.cells (vrow 2 (spAt x y)) 40)).alloc (.cells (vrow 2 (spAt u v)) 40)) (some mt)) := Go.Lib.hid (grown_alloc (grown_alloc (grown_refl w _) _) _)
  have hmt := row_lt ht
  have hkI : (0 : Int) < 3 := by omega
  clear ht hB
  go_enter Tryd.func87, Tryd.ntmps87
  go_wp2
  generalize hW1 : (w.alloc _).alloc _ = W1 at R Q M hG ⊢
  clear hW1
  refine wp_region_still_tail 10 (by kernel_rfl) (by kernel_rfl) ?_
  simp only [List.take_succ_cons, List.take_zero, List.drop_succ_cons, List.drop_zero, World.drew_eq]
  repeat (first
    | (refine wpStill_load1 rfl 22 (.tmp 11) rfl (w.heap.size) (1) rfl 2 (spAt x y) _ _ Tryd.underlying22 rfl R.out (by omega) ?_; rw [spAt_1]; simp only [Act.put, List.setIfInBounds_toArray, List.set_cons_succ, List.set_cons_zero])
    | (refine wpStill_load1 rfl 22 (.tmp 13) rfl (w.heap.size) (0) rfl 2 (spAt x y) _ _ Tryd.underlying22 rfl R.out (by omega) ?_; rw [spAt_0]; simp only [Act.put, List.setIfInBounds_toArray, List.set_cons_succ, List.set_cons_zero])
    | (refine wpStill_load1 rfl 23 (.tmp 18) rfl (mt) (2 + y * 8 + x) rfl 266 T.at _ _ Tryd.underlying23 rfl M.out (by omega) ?_; rw [Sh.at_wet1 _ _ (8 * y + x) (by omega) (by omega), HWT.out]; simp only [Act.put, List.setIfInBounds_toArray, List.set_cons_succ, List.set_cons_zero])
    | still_step
    | (refine wpStill_step (fun K hK => ?_); go_simp; simp only [hxI, hyI, huI, hvI, hkI, if_true]; go_simp; refine hK _ ?_; clear hK K))
  refine wpStill_nil ?_
  go_wp2
  refine wp_region_still_lit (by kernel_rfl) (by kernel_rfl) ?_
  simp only [World.drew_eq]
  repeat (first
    | (refine wpStill_load1 rfl 22 (.tmp 21) rfl (w.heap.size) (1) rfl 2 (spAt x y) _ _ Tryd.underlying22 rfl R.out (by omega) ?_; rw [spAt_1]; simp only [Act.put, List.setIfInBounds_toArray, List.set_cons_succ, List.set_cons_zero])
    | (refine wpStill_load1 rfl 22 (.tmp 23) rfl (w.heap.size) (0) rfl 2 (spAt x y) _ _ Tryd.underlying22 rfl R.out (by omega) ?_; rw [spAt_0]; simp only [Act.put, List.setIfInBounds_toArray, List.set_cons_succ, List.set_cons_zero])
    | (refine wpStill_loadmid rfl 26 (.tmp 28) rfl mt (66 + y * 24 + x * 3) rfl 266 3 T.at 35 _ Tryd.underlying26 rfl size_d3 M.out (by omega) ?_; rw [d3_row T _ (24 * y + 3 * x) (by omega) (by omega)]; simp only [Act.put, List.setIfInBounds_toArray, List.set_cons_succ, List.set_cons_zero])
    | still_step
    | (refine wpStill_step (fun K hK => ?_); go_simp; simp only [hxI, hyI, huI, hvI, hkI, if_true]; go_simp; refine hK _ ?_; clear hK K))
  refine wpStill_nil ?_
  go_wp2
  obtain ⟨wo, hwo⟩ : ∃ wo : World, wo = W1.drew.drew := ⟨_, rfl⟩
  have hwe : W1.drew.drew = wo := hwo.symm
  have R2 : wo.heap[w.heap.size]? = some (.cells (vrow 2 (spAt x y)) 40) := by rw [hwo]; exact R.out
  have Q2 : wo.heap[w.heap.size + 1]? = some (.cells (vrow 2 (spAt u v)) 40) := by rw [hwo]; exact Q.out
  have M2 : wo.heap[mt]? = some (.cells (vrow 266 T.at) 35) := by rw [hwo]; exact M.out
  have hG2 : w.grownBy wo (some mt) := by rw [hwo]; exact grown_drew (grown_drew hG.out)
  have R := Go.Lib.hid R2; have Q := Go.Lib.hid Q2; have M := Go.Lib.hid M2; have hG := Go.Lib.hid hG2
  first | rw [hwe] | trace "no hwe"
  clear R2 Q2 M2 hG2
  go_loopw [30] (fun kv wr => ∃ k : Nat, k ≤ 3 ∧ kv = .int .i64 k ∧ w.grownBy wr (some mt) ∧ wr.heap[mt]? = some (.cells (vrow 266 (giveInks T x y u v wt k).at) 35) ∧ wr.heap[w.heap.size]? = some (.cells (vrow 2 (spAt x y)) 40) ∧ wr.heap[w.heap.size + 1]? = some (.cells (vrow 2 (spAt u v)) 40)) (fun kv _ => 3 - (intOf kv).toNat)
  case atStart => exact ⟨0, by omega, rfl, hG.out, M.out, R.out, Q.out⟩
  case round =>
    clear R Q M hG
    obtain ⟨k, hk, rfl, hG, M, R, Q⟩ := hrel
    have hGi := giveInks_ok (x := x) (y := y) (u := u) (v := v) hi hw.1 k
    have hG := Go.Lib.hid hG; have M := Go.Lib.hid M; have R := Go.Lib.hid R; have Q := Go.Lib.hid Q
    by_cases hlt : k < 3
    · have hkd : decide ((k : Int) < 3) = true := by simp; omega
      have hkI : (k : Int) < 3 := by omega
      have hix := fun w => idx3 (fun i => T.dye (24 * y + 3 * x + i)) k hlt w
      obtain ⟨p1, p2, p3, p4, p5⟩ := part_bd (x := x) (y := y) (u := u) (v := v) (k := k) hGi hw.1
      have hd1 := hGi (24 * y + 3 * x + k)
      have hd2 := hGi (24 * v + 3 * u + k)
      have hgf := giveInks_from T x y u v wt hx hu hne k k (Nat.le_refl _) hlt
      have hst : giveInks T x y u v wt (k + 1) = giveInk (giveInks T x y u v wt k) x y u v wt k := rfl
      generalize giveInks T x y u v wt k = G at *
      have hpt : partOf G x y u v wt k = min ((G.dye (24 * y + 3 * x + k)).tdiv wt) (1000 - G.dye (24 * v + 3 * u + k)) := rfl
      have hgi : giveInk G x y u v wt k = (G.setDye (24 * y + 3 * x + k) (G.dye (24 * y + 3 * x + k) - partOf G x y u v wt k)).setDye (24 * v + 3 * u + k) (G.dye (24 * v + 3 * u + k) + partOf G x y u v wt k) := rfl
      have hne3 : ∀ z, (G.setDye (24 * y + 3 * x + k) z).dye (24 * v + 3 * u + k) = G.dye (24 * v + 3 * u + k) := fun z => if_neg (by omega)
      rw [hgi] at hst
      clear hgi
      generalize partOf G x y u v wt k = pt at *
      go_wp2
      clear hix
      rw [hgf] at hd1 p2 p4 p5 hpt hst
      generalize T.dye (24 * y + 3 * x + k) = d at *
      generalize hee : G.dye (24 * v + 3 * u + k) = ee at *
      have HST := Go.Lib.hid hst; have HPT := Go.Lib.hid hpt; have HNE := Go.Lib.hid hne3; have HDD := Go.Lib.hid hgf; have HEE := Go.Lib.hid hee
      clear hst hpt hne3 hgf hee hGi hi
      have hwz : ¬ wt = 0 := by omega
      refine wp_region_still_tail 16 (by kernel_rfl) (by kernel_rfl) ?_
      simp only [List.take_succ_cons, List.take_zero, List.drop_succ_cons, List.drop_zero, World.drew_eq]
      repeat (first
        | (refine wpStill_load1 rfl 22 (.tmp 38) rfl (w.heap.size + 1) (1) rfl 2 (spAt u v) _ _ Tryd.underlying22 rfl Q.out (by omega) ?_; rw [spAt_1]; simp only [Act.put, List.setIfInBounds_toArray, List.set_cons_succ, List.set_cons_zero])
        | (refine wpStill_load1 rfl 22 (.tmp 40) rfl (w.heap.size + 1) (0) rfl 2 (spAt u v) _ _ Tryd.underlying22 rfl Q.out (by omega) ?_; rw [spAt_0]; simp only [Act.put, List.setIfInBounds_toArray, List.set_cons_succ, List.set_cons_zero])
        | (refine wpStill_load1 rfl 23 (.tmp 47) rfl (mt) (66 + v * 24 + u * 3 + k) rfl 266 G.at _ _ Tryd.underlying23 rfl M.out (by omega) ?_; rw [Sh.at_dye1 _ _ (24 * v + 3 * u + k) (by omega) (by omega), HEE.out]; simp only [Act.put, List.setIfInBounds_toArray, List.set_cons_succ, List.set_cons_zero])
        | still_step
        | (refine wpStill_step (fun K hK => ?_); go_simp; simp only [hxI, hyI, huI, hvI, hkI, if_true]; go_simp; refine hK _ ?_; clear hK K))
      refine wpStill_nil ?_
      rw [IntWalk.i16_in (d.tdiv wt) (by omega), IntWalk.i16_in (1000 - ee) (by omega)]
      replace hG := Go.Lib.hid (grown_drew hG.out)
      go_wp2
      all_goals (first | rw [show 1000 - ee = pt by (have := HPT.out; omega)] | rw [show d.tdiv wt = pt by (have := HPT.out; omega)])
      all_goals (
        refine wp_region_still_tail 19 (by kernel_rfl) (by kernel_rfl) ?_
        simp only [List.take_succ_cons, List.take_zero, List.drop_succ_cons, List.drop_zero, World.drew_eq]
        repeat (first
          | (refine wpStill_load1 rfl 22 (.tmp 52) rfl (w.heap.size) (1) rfl 2 (spAt x y) _ _ Tryd.underlying22 rfl R.out (by omega) ?_; rw [spAt_1]; simp only [Act.put, List.setIfInBounds_toArray, List.set_cons_succ, List.set_cons_zero])
          | (refine wpStill_load1 rfl 22 (.tmp 54) rfl (w.heap.size) (0) rfl 2 (spAt x y) _ _ Tryd.underlying22 rfl R.out (by omega) ?_; rw [spAt_0]; simp only [Act.put, List.setIfInBounds_toArray, List.set_cons_succ, List.set_cons_zero])
          | (refine wpStill_load1 rfl 23 (.tmp 61) rfl (mt) (66 + y * 24 + x * 3 + k) rfl 266 G.at _ _ Tryd.underlying23 rfl M.out (by omega) ?_; rw [Sh.at_dye1 _ _ (24 * y + 3 * x + k) (by omega) (by omega), HDD.out]; simp only [Act.put, List.setIfInBounds_toArray, List.set_cons_succ, List.set_cons_zero])
          | still_step
          | (refine wpStill_step (fun K hK => ?_); go_simp; simp only [hxI, hyI, huI, hvI, hkI, if_true]; go_simp; refine hK _ ?_; clear hK K))
        refine wpStill_nil ?_
        refine wpList_store1 rfl 23 (.tmp 69) (.tmp 64) rfl mt (66 + y * 24 + x * 3 + k) rfl 266 G.at (.int .i16 (d - pt)) (by first | rfl | (show Value.int .i16 (IntKind.i16.wrap (d - pt)) = _; rw [IntWalk.i16_in (d - pt) (by omega)])) 35 size_i16 M.out (by omega) rfl ?_
        rw [dye_at G _ (24 * y + 3 * x + k) (by omega) (by omega)]
        have M2 := row_set (w := wr.drew.drew) M.out (vrow 266 (G.setDye (24 * y + 3 * x + k) (d - pt)).at)
        have R2 := row_set' (w := wr.drew.drew) (g := mt) (by omega) R.out (vrow 266 (G.setDye (24 * y + 3 * x + k) (d - pt)).at)
        have Q2 := row_set' (w := wr.drew.drew) (g := mt) (by omega) Q.out (vrow 266 (G.setDye (24 * y + 3 * x + k) (d - pt)).at)
        have hG2 := grown_set (grown_drew hG.out) (vrow 266 (G.setDye (24 * y + 3 * x + k) (d - pt)).at)
        clear R Q M hG
        generalize World.setRow wr.drew.drew _ _ = w5 at R2 Q2 M2 hG2 ⊢
        have R := Go.Lib.hid R2; have Q := Go.Lib.hid Q2; have M := Go.Lib.hid M2; have hG := Go.Lib.hid hG2
        clear R2 Q2 M2 hG2
        go_wp2
        refine wp_region_still_tail 19 (by kernel_rfl) (by kernel_rfl) ?_
        simp only [List.take_succ_cons, List.take_zero, List.drop_succ_cons, List.drop_zero, World.drew_eq]
        repeat (first
          | (refine wpStill_load1 rfl 22 (.tmp 71) rfl (w.heap.size + 1) (1) rfl 2 (spAt u v) _ _ Tryd.underlying22 rfl Q.out (by omega) ?_; rw [spAt_1]; simp only [Act.put, List.setIfInBounds_toArray, List.set_cons_succ, List.set_cons_zero])
          | (refine wpStill_load1 rfl 22 (.tmp 73) rfl (w.heap.size + 1) (0) rfl 2 (spAt u v) _ _ Tryd.underlying22 rfl Q.out (by omega) ?_; rw [spAt_0]; simp only [Act.put, List.setIfInBounds_toArray, List.set_cons_succ, List.set_cons_zero])
          | (refine wpStill_load1 rfl 23 (.tmp 80) rfl (mt) (66 + v * 24 + u * 3 + k) rfl 266 (G.setDye (24 * y + 3 * x + k) (d - pt)).at _ _ Tryd.underlying23 rfl M.out (by omega) ?_; rw [Sh.at_dye1 _ _ (24 * v + 3 * u + k) (by omega) (by omega), HNE.out]; simp only [Act.put, List.setIfInBounds_toArray, List.set_cons_succ, List.set_cons_zero])
          | still_step
          | (refine wpStill_step (fun K hK => ?_); go_simp; simp only [hxI, hyI, huI, hvI, hkI, if_true]; go_simp; refine hK _ ?_; clear hK K))
        refine wpStill_nil ?_
        refine wpList_store1 rfl 23 (.tmp 88) (.tmp 83) rfl mt (66 + v * 24 + u * 3 + k) rfl 266 (G.setDye (24 * y + 3 * x + k) (d - pt)).at (.int .i16 (ee + pt)) (by first | rfl | (show Value.int .i16 (IntKind.i16.wrap (ee + pt)) = _; rw [IntWalk.i16_in (ee + pt) (by omega)])) 35 size_i16 M.out (by omega) rfl ?_
        rw [dye_at (G.setDye (24 * y + 3 * x + k) (d - pt)) _ (24 * v + 3 * u + k) (by omega) (by omega)]
        have M2 := row_set (w := w5.drew) M.out (vrow 266 ((G.setDye (24 * y + 3 * x + k) (d - pt)).setDye (24 * v + 3 * u + k) (ee + pt)).at)
        have R2 := row_set' (w := w5.drew) (g := mt) (by omega) R.out (vrow 266 ((G.setDye (24 * y + 3 * x + k) (d - pt)).setDye (24 * v + 3 * u + k) (ee + pt)).at)
        have Q2 := row_set' (w := w5.drew) (g := mt) (by omega) Q.out (vrow 266 ((G.setDye (24 * y + 3 * x + k) (d - pt)).setDye (24 * v + 3 * u + k) (ee + pt)).at)
        have hG2 := grown_set (grown_drew hG.out) (vrow 266 ((G.setDye (24 * y + 3 * x + k) (d - pt)).setDye (24 * v + 3 * u + k) (ee + pt)).at)
        clear R Q M hG
        generalize World.setRow w5.drew _ _ = w6 at R2 Q2 M2 hG2 ⊢
        have R := Go.Lib.hid R2; have Q := Go.Lib.hid Q2; have M := Go.Lib.hid M2; have hG := Go.Lib.hid hG2
        clear R2 Q2 M2 hG2
        go_wp2
        go_roundw
        case rel => exact ⟨k + 1, by omega, by go_num, hG.out, by rw [HST.out]; exact M.out, R.out, Q.out⟩
        case measure => simp [intOf]; omega)
    · obtain rfl : k = 3 := by omega
      have hkd : decide (((3 : Nat) : Int) < 3) = false := by simp
      have hwf : (giveInks T x y u v wt 3).wet (8 * y + x) = wt := by rw [giveInks_wet]; exact HWT.out
      have hwt2 : (giveInks T x y u v wt 3).wet (8 * v + u) = T.wet (8 * v + u) := giveInks_wet T x y u v wt _ 3
      have hres : giveS T x y u v = ((giveInks T x y u v wt 3).setWet (8 * y + x) (wt - 1)).setWet (8 * v + u) (T.wet (8 * v + u) + 1) := by unfold giveS; rw [HWT.out]
      generalize giveInks T x y u v wt 3 = G at *
      generalize T.wet (8 * v + u) = w2 at *
      have HRES := Go.Lib.hid hres; have HWF := Go.Lib.hid hwf; have HW2 := Go.Lib.hid hwt2
      have hne3 : ∀ z, (G.setWet (8 * y + x) z).wet (8 * v + u) = w2 := fun z => (if_neg (by omega)).trans hwt2
      have HNE := Go.Lib.hid hne3
      clear hres hwf hwt2 hne3 hGi hi
      have hkI : (0 : Int) < 3 := by omega
      go_wp2
      refine wp_region_still_tail 15 (by kernel_rfl) (by kernel_rfl) ?_
      simp only [List.take_succ_cons, List.take_zero, List.drop_succ_cons, List.drop_zero, World.drew_eq]
      repeat (first
        | (refine wpStill_load1 rfl 22 (.tmp 91) rfl (w.heap.size) (1) rfl 2 (spAt x y) _ _ Tryd.underlying22 rfl R.out (by omega) ?_; rw [spAt_1]; simp only [Act.put, List.setIfInBounds_toArray, List.set_cons_succ, List.set_cons_zero])
        | (refine wpStill_load1 rfl 22 (.tmp 93) rfl (w.heap.size) (0) rfl 2 (spAt x y) _ _ Tryd.underlying22 rfl R.out (by omega) ?_; rw [spAt_0]; simp only [Act.put, List.setIfInBounds_toArray, List.set_cons_succ, List.set_cons_zero])
        | (refine wpStill_load1 rfl 23 (.tmp 98) rfl (mt) (2 + y * 8 + x) rfl 266 G.at _ _ Tryd.underlying23 rfl M.out (by omega) ?_; rw [Sh.at_wet1 _ _ (8 * y + x) (by omega) (by omega), HWF.out]; simp only [Act.put, List.setIfInBounds_toArray, List.set_cons_succ, List.set_cons_zero])
        | still_step
        | (refine wpStill_step (fun K hK => ?_); go_simp; simp only [hxI, hyI, huI, hvI, hkI, if_true]; go_simp; refine hK _ ?_; clear hK K))
      refine wpStill_nil ?_
      refine wpList_store1 rfl 23 (.tmp 104) (.tmp 100) rfl mt (2 + y * 8 + x) rfl 266 G.at (.int .i16 (wt - 1)) (by first | rfl | (show Value.int .i16 (IntKind.i16.wrap (wt - 1)) = _; rw [IntWalk.i16_in (wt - 1) (by omega)])) 35 size_i16 M.out (by omega) rfl ?_
      rw [wet_at G _ (8 * y + x) (by omega) (by omega)]
      have M2 := row_set (w := wr.drew) M.out (vrow 266 (G.setWet (8 * y + x) (wt - 1)).at)
      have R2 := row_set' (w := wr.drew) (g := mt) (by omega) R.out (vrow 266 (G.setWet (8 * y + x) (wt - 1)).at)
      have Q2 := row_set' (w := wr.drew) (g := mt) (by omega) Q.out (vrow 266 (G.setWet (8 * y + x) (wt - 1)).at)
      have hG2 := grown_set (grown_drew hG.out) (vrow 266 (G.setWet (8 * y + x) (wt - 1)).at)
      clear R Q M hG
      generalize World.setRow wr.drew _ _ = w5 at R2 Q2 M2 hG2 ⊢
      have R := Go.Lib.hid R2; have Q := Go.Lib.hid Q2; have M := Go.Lib.hid M2; have hG := Go.Lib.hid hG2
      clear R2 Q2 M2 hG2
      go_wp2
      refine wp_region_still_tail 15 (by kernel_rfl) (by kernel_rfl) ?_
      simp only [List.take_succ_cons, List.take_zero, List.drop_succ_cons, List.drop_zero, World.drew_eq]
      repeat (first
        | (refine wpStill_load1 rfl 22 (.tmp 106) rfl (w.heap.size + 1) (1) rfl 2 (spAt u v) _ _ Tryd.underlying22 rfl Q.out (by omega) ?_; rw [spAt_1]; simp only [Act.put, List.setIfInBounds_toArray, List.set_cons_succ, List.set_cons_zero])
        | (refine wpStill_load1 rfl 22 (.tmp 108) rfl (w.heap.size + 1) (0) rfl 2 (spAt u v) _ _ Tryd.underlying22 rfl Q.out (by omega) ?_; rw [spAt_0]; simp only [Act.put, List.setIfInBounds_toArray, List.set_cons_succ, List.set_cons_zero])
        | (refine wpStill_load1 rfl 23 (.tmp 113) rfl (mt) (2 + v * 8 + u) rfl 266 (G.setWet (8 * y + x) (wt - 1)).at _ _ Tryd.underlying23 rfl M.out (by omega) ?_; rw [Sh.at_wet1 _ _ (8 * v + u) (by omega) (by omega), HNE.out]; simp only [Act.put, List.setIfInBounds_toArray, List.set_cons_succ, List.set_cons_zero])
        | still_step
        | (refine wpStill_step (fun K hK => ?_); go_simp; simp only [hxI, hyI, huI, hvI, hkI, if_true]; go_simp; refine hK _ ?_; clear hK K))
      refine wpStill_nil ?_
      refine wpList_store1 rfl 23 (.tmp 119) (.tmp 115) rfl mt (2 + v * 8 + u) rfl 266 (G.setWet (8 * y + x) (wt - 1)).at (.int .i16 (w2 + 1)) (by first | rfl | (show Value.int .i16 (IntKind.i16.wrap (w2 + 1)) = _; rw [IntWalk.i16_in (w2 + 1) (by omega)])) 35 size_i16 M.out (by omega) rfl ?_
      rw [wet_at _ _ (8 * v + u) (by omega) (by omega)]
      have M2 := row_set (w := w5.drew) M.out (vrow 266 ((G.setWet (8 * y + x) (wt - 1)).setWet (8 * v + u) (w2 + 1)).at)
      have R2 := row_set' (w := w5.drew) (g := mt) (by omega) R.out (vrow 266 ((G.setWet (8 * y + x) (wt - 1)).setWet (8 * v + u) (w2 + 1)).at)
      have Q2 := row_set' (w := w5.drew) (g := mt) (by omega) Q.out (vrow 266 ((G.setWet (8 * y + x) (wt - 1)).setWet (8 * v + u) (w2 + 1)).at)
      have hG2 := grown_set (grown_drew hG.out) (vrow 266 ((G.setWet (8 * y + x) (wt - 1)).setWet (8 * v + u) (w2 + 1)).at)
      clear R Q M hG
      generalize World.setRow w5.drew _ _ = w6 at R2 Q2 M2 hG2 ⊢
      have R := Go.Lib.hid R2; have Q := Go.Lib.hid Q2; have M := Go.Lib.hid M2; have hG := Go.Lib.hid hG2
      clear R2 Q2 M2 hG2
      go_wp2
      go_end0
      exact ⟨⟨_, rfl⟩, hG.out, by rw [HRES.out]; exact M.out⟩
end Go.Proofs.YtgbhchmpeioaiaaDoor
