import Derived.Deep.RegionHeld3
import Derived.Test.YtfgcpiipndhllaaDoorLiftI1
namespace Go.Proofs.YtfgcpiipndhllaaDoor
open Go.RowKit
set_option maxRecDepth 100000
set_option linter.unusedVariables false
set_option linter.unusedSimpArgs false
set_option maxHeartbeats 8000000 in
theorem lift_any (s : Sh) (b : Br) (f : Value) (m x y : Nat) (p : Int) (w : World) (hx : x < 8) (hy : y < 8) (hp : 0 ≤ p ∧ p ≤ 16) (hb : b.lb) (hv : ∀ k, k < 3 → 0 ≤ s.dye (24 * y + 3 * x + k) ∧ s.dye (24 * y + 3 * x + k) ≤ 1000) (hm : w.heap[m]? = some (.cells (vrow 272 (stAt b s f)) 134)) :
    Calls Tryd.prog 81 #[.pointer (some ⟨m, 0, none⟩), .agg (vrow 2 (spAt x y)), .int .i64 p] w fun e w' => (∃ r, e = .returned r) ∧ w.grownBy w' (some m) ∧ w'.heap[m]? = some (.cells (vrow 272 (stAt (liftB s b (24 * y + 3 * x) p 3) (liftH s b (24 * y + 3 * x) p 3) f)) 134) := by
  have HLB := Go.Lib.hid (liftB_lb s b (24 * y + 3 * x) p hb hp hv)
  have HV := Go.Lib.hid hv
  have HP := Go.Lib.hid hp
  obtain ⟨hp1, hp2⟩ := hp
  have hxI : (x : Int) < 8 := by omega
  have hyI : (y : Int) < 8 := by omega
  have hmm := row_lt hm
  have T : Hid ((w.alloc (.cells (vrow 2 (spAt x y)) 33)).heap[w.heap.size]? = some (.cells (vrow 2 (spAt x y)) 33)) := heap_at _ _ _ (by simp)
  have M : Hid ((w.alloc (.cells (vrow 2 (spAt x y)) 33)).heap[m]? = some (.cells (vrow 272 (stAt b s f)) 134)) := heap_past _ _ _ _ hmm hm
  have hG : Hid (w.grownBy (w.alloc (.cells (vrow 2 (spAt x y)) 33)) (some m)) := Go.Lib.hid (gr_next (gr_refl w _) ((Below.refl _ _).alloc (Nat.le_refl _) _))
  clear hm hb hv
  go_enter Tryd.func81, Tryd.ntmps81
  go_wp2
  go_loopw [9] (fun iv wr => ∃ k : Nat, k ≤ 3 ∧ iv = .int .i64 k ∧ wr.heap[m]? = some (.cells (vrow 272 (stAt (liftB s b (24 * y + 3 * x) p k) (liftH s b (24 * y + 3 * x) p k) f)) 134) ∧ wr.heap[w.heap.size]? = some (.cells (vrow 2 (spAt x y)) 33) ∧ w.grownBy wr (some m)) (fun iv _ => 3 - (intOf iv).toNat)
  case atStart => exact ⟨0, by omega, rfl, M.out, T.out, hG.out⟩
  case round =>
    clear M T hG
    obtain ⟨k, hk, rfl, M, T, hG⟩ := hrel
    replace M := Go.Lib.hid M; replace T := Go.Lib.hid T; replace hG := Go.Lib.hid hG
    by_cases hlt : k < 3
    · have hkI : (k : Int) < 3 := by omega
      have hC := HLB.out k hk
      have hN := liftN_bd hC (HV.out k hlt) HP.out
      have hvb := HV.out k hlt
      have hdd := liftH_dye s b (24 * y + 3 * x) p k k (Nat.le_refl _)
      have hstB : liftB s b (24 * y + 3 * x) p (k + 1) = (liftB s b (24 * y + 3 * x) p k).setDye k ((liftB s b (24 * y + 3 * x) p k).dye k + liftN (liftB s b (24 * y + 3 * x) p k) (s.dye (24 * y + 3 * x + k)) p) := rfl
      have hstH : liftH s b (24 * y + 3 * x) p (k + 1) = (liftH s b (24 * y + 3 * x) p k).put (24 * y + 3 * x + k) (s.dye (24 * y + 3 * x + k) - liftN (liftB s b (24 * y + 3 * x) p k) (s.dye (24 * y + 3 * x + k)) p) := rfl
      obtain ⟨C1, hC1⟩ : ∃ c, c = liftB s b (24 * y + 3 * x) p (k + 1) := ⟨_, rfl⟩
      obtain ⟨G1, hG1⟩ : ∃ c, c = liftH s b (24 * y + 3 * x) p (k + 1) := ⟨_, rfl⟩
      rw [← hC1] at hstB
      rw [← hG1] at hstH
      have HC1 := Go.Lib.hid hC1; have HG1 := Go.Lib.hid hG1
      have HSB := Go.Lib.hid hstB; have HSH := Go.Lib.hid hstH; have HDD0 := Go.Lib.hid hdd
      clear hstB hstH hdd HLB HV HP hC1 hG1
      generalize liftB s b (24 * y + 3 * x) p k = C at *
      generalize liftH s b (24 * y + 3 * x) p k = G at *
      generalize s.dye (24 * y + 3 * x + k) = v at *
      have hn : min (v * p / 16) (900 - C.sum) = liftN C v p := rfl
      generalize liftN C v p = n at *
      have HN := Go.Lib.hid hn
      have HDD := HDD0
      clear hn HDD0
      obtain ⟨m1, m2, n1, n2, n3⟩ := hN
      obtain ⟨v1, v2⟩ := hvb
      obtain ⟨q1, q2⟩ := Br.lb_le hC k hlt
      obtain ⟨u1, u2⟩ := Br.lb_sum hC
      have HCF := Go.Lib.hid hC.fit
      clear hC
      have hsz := hG.out.size
      go_wp2
      refine wp_region_still_lit (by kernel_rfl) (by kernel_rfl) ?_
      simp only [World.drew_eq]
      repeat (first
        | (refine wpStill_load1 rfl 22 (.tmp 13) rfl w.heap.size 1 rfl 2 (spAt x y) _ _ Tryd.underlying22 rfl T.out (by omega) ?_; rw [spAt_1]; simp only [Act.put, List.setIfInBounds_toArray, List.set_cons_succ, List.set_cons_zero])
        | (refine wpStill_load1 rfl 22 (.tmp 15) rfl w.heap.size 0 rfl 2 (spAt x y) _ _ Tryd.underlying22 rfl T.out (by omega) ?_; rw [spAt_0]; simp only [Act.put, List.setIfInBounds_toArray, List.set_cons_succ, List.set_cons_zero])
        | still_step
        | (refine wpStill_step (fun K hK => ?_); go_simp; simp only [hxI, hyI, hkI, if_true]; go_simp; refine hK _ ?_; clear hK K))
      refine wpStill_nil ?_
      replace M := Go.Lib.hid (drwL M.out); replace T := Go.Lib.hid (drwL T.out); replace hG := Go.Lib.hid (gr_drew hG.out)
      generalize World.drew _ = W2 at M T hG ⊢
      go_wp2_with (first
        | go_skip
        | ((with_reducible refine wlAt 27 rfl ?_); refine wpList_loadmid rfl 49 (.tmp 26) rfl _ 0 rfl 272 5 (stAt C G f) 134 _ Tryd.underlying49 rfl size_br M.out (by omega) ?_; rw [stAt_b])
        | (go_at_call 132; (refine (bload_any C HCF.out _).mono ?_); rintro o w1 ⟨rfl, hb⟩; replace M := Go.Lib.hid (row_next hb M.out); replace T := Go.Lib.hid (row_next hb T.out); replace hG := Go.Lib.hid (gr_next hG.out hb); clear hb))
      refine wp_region_still_tail 14 (by kernel_rfl) (by kernel_rfl) ?_
      simp only [List.take_succ_cons, List.take_zero, List.drop_succ_cons, List.drop_zero, World.drew_eq]
      repeat (first
        | (refine wpStill_load1 rfl 23 (.tmp 39) rfl m (71 + y * 24 + x * 3 + k) rfl 272 (stAt C G f) _ _ Tryd.underlying23 rfl M.out (by omega) ?_; rw [stAt_j _ _ _ _ (24 * y + 3 * x + k) (by omega) (by omega), HDD.out]; simp only [Act.put, List.setIfInBounds_toArray, List.set_cons_succ, List.set_cons_zero])
        | still_step
        | (still_call (sixt_same v p ⟨v1, v2⟩ ⟨m1, m2⟩ _))
        | (refine wpStill_step (fun K hK => ?_); go_simp; simp only [hxI, hyI, hkI, if_true]; go_simp; refine hK _ ?_; clear hK K))
      refine wpStill_nil ?_
      rw [show (if 900 - C.sum < v * p / 16 then 900 - C.sum else v * p / 16) = n by rw [← HN.out]; split <;> omega]
      replace M := Go.Lib.hid (drwL M.out); replace T := Go.Lib.hid (drwL T.out); replace hG := Go.Lib.hid (gr_drew hG.out)
      generalize World.drew _ = W3 at M T hG ⊢
      go_wp2_with (first
        | go_skip
        | (go_at_call 133; (refine (move_any C G f m k (71 + y * 24 + x * 3 + k) (24 * y + 3 * x + k) n v (C.dye k) _ hlt (by omega) (by omega) HDD.out rfl ⟨n1, n3⟩ v2 ⟨q1, q2, by omega⟩ M.out).mono ?_); rintro o w3 ⟨⟨rr, rfl⟩, hg, hm3⟩; replace T := Go.Lib.hid ((hg.block _ (row_lt T.out) (by simp <;> omega)).trans T.out); replace hG := Go.Lib.hid (gr_trans hG.out hg); rw [← HSB.out, ← HSH.out] at hm3; replace M := Go.Lib.hid hm3; clear hg hm3))
      go_roundw
      case rel => exact ⟨k + 1, by omega, by go_num, by rw [← HC1.out, ← HG1.out]; exact M.out, T.out, hG.out⟩
      case measure => simp [intOf]; omega
    · obtain rfl : k = 3 := by omega
      clear HLB HV HP
      go_wp2
      first | go_end0 | go_ret
      exact ⟨⟨_, rfl⟩, hG.out, M.out⟩
end Go.Proofs.YtfgcpiipndhllaaDoor
