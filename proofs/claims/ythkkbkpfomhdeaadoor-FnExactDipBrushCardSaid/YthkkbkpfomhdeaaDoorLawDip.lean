import Derived.Test.YthkkbkpfomhdeaaDoorG1
import Derived.Test.YthkkbkpfomhdeaaDoorDip
namespace Go.Proofs.YthkkbkpfomhdeaaDoor
open Go.RowKit
set_option maxRecDepth 100000
set_option linter.unusedVariables false
set_option linter.unusedSimpArgs false
theorem ink_yes (k : Int) (h : 0 ≤ k ∧ k < 3) (w : World) : Calls Tryd.prog 45 #[.int .i64 k] w fun e w' => e = .returned (.bool true) ∧ Below w.heap.size w w' := by
  have hB := Go.Lib.hid (Below.refl w.heap.size w)
  have HI := Go.Lib.hid fun w => in_yes k 0 2 (by omega) (by omega) w
  clear h
  go_enter Tryd.func45, Tryd.ntmps45
  go_wp2_with (first
    | go_skip
    | (go_at_call 46; ((refine (HI.out _).mono ?_); rintro e w1 ⟨rfl, hb⟩; replace hB := Go.Lib.hid (below_next hB.out hb); clear hb)))
  go_ret
  exact ⟨rfl, hB.out⟩
theorem ink_no (k : Int) (h : k < 0 ∨ 3 ≤ k) (w : World) : Calls Tryd.prog 45 #[.int .i64 k] w fun e w' => e = .returned (.bool false) ∧ Below w.heap.size w w' := by
  have hB := Go.Lib.hid (Below.refl w.heap.size w)
  have HI := Go.Lib.hid fun w => in_no k 0 2 (by omega) w
  clear h
  go_enter Tryd.func45, Tryd.ntmps45
  go_wp2_with (first
    | go_skip
    | (go_at_call 46; ((refine (HI.out _).mono ?_); rintro e w1 ⟨rfl, hb⟩; replace hB := Go.Lib.hid (below_next hB.out hb); clear hb)))
  go_ret
  exact ⟨rfl, hB.out⟩
set_option maxHeartbeats 2000000 in
theorem specDip_bad (b : Br) (k n m : Int) (w : World) (hf : b.fit) (ho : b.ok = false) : Calls Tryd.prog 11 #[.agg b.row, .int .i64 k, .int .i64 n, .int .i64 m] w fun o w' => o = .returned (.tuple #[.agg Br.zero.row, .int .i64 1]) ∧ Below w.heap.size w w' := by
  have HO0 := fun n w hs => lok_any b n w hf hs
  rw [ho] at HO0
  have HO := Go.Lib.hid HO0
  have zz := zero_br
  clear HO0 hf ho
  have P : Hid (((w.alloc (.cells (vrow 5 b.at) 27)).alloc (.cells (vrow 5 Br.zero.at) 27)).heap[w.heap.size]? = some (.cells (vrow 5 b.at) 27)) := heap_past _ _ _ _ (by first | omega | (simp <;> omega)) (heap_at _ _ _ (by simp))
  have Z : Hid (((w.alloc (.cells (vrow 5 b.at) 27)).alloc (.cells (vrow 5 Br.zero.at) 27)).heap[w.heap.size + 1]? = some (.cells (vrow 5 Br.zero.at) 27)) := heap_at _ _ _ (by simp)
  have hB : Hid (Below w.heap.size w ((w.alloc (.cells (vrow 5 b.at) 27)).alloc (.cells (vrow 5 Br.zero.at) 27))) := (((Below.refl w.heap.size w).alloc (by simp <;> omega) _).alloc (by simp <;> omega) _)
  go_enter Tryd.func11, Tryd.ntmps11
  go_wp2_with (first
    | go_skip
    | (go_at_call 44; (refine (HO.out _ _ P.out).mono ?_); rintro o w1 ⟨rfl, hb⟩; replace P := Go.Lib.hid (row_next hb P.out); replace Z := Go.Lib.hid (row_next hb Z.out); replace hB := Go.Lib.hid (below_next hB.out hb); clear hb)
    | ((with_reducible refine wlAt 13 rfl ?_); refine wpList_built rfl 27 [] rfl [] (by rfl) _ built_zbr ?_)
    | ((with_reducible refine wlOp (.store 27 (.tmp 8) (.tmp 13)) rfl ?_); refine wpList_storeall rfl 27 (.tmp 8) (.tmp 13) rfl (w.heap.size + 1) rfl 5 Br.zero.at Br.zero.at rfl 27 size_br Z.out (fun i _ => Br.one _ i) ?_; replace Z := Go.Lib.hid (row_set Z.out (vrow 5 Br.zero.at)); replace hB := Go.Lib.hid (Below_setRow hB.out (show w.heap.size ≤ w.heap.size + 1 by omega) (vrow 5 Br.zero.at))))
  exact ret_row2 Tryd.results11 (w.heap.size + 1) 5 Br.zero.at 27 _ Tryd.underlying27 rfl size_br (.int .i64 1) rfl rfl rfl Z.out ⟨rfl, hB.out⟩
set_option maxHeartbeats 4000000 in
theorem specDip_un (b : Br) (k n m : Int) (w : World) (hf : b.fit) (ho : b.ok = true) (hF : dipFine k n m = false) : Calls Tryd.prog 11 #[.agg b.row, .int .i64 k, .int .i64 n, .int .i64 m] w fun o w' => o = .returned (.tuple #[.agg Br.zero.row, .int .i64 2]) ∧ Below w.heap.size w w' := by
  have HO0 := fun n w hs => lok_any b n w hf hs
  rw [ho] at HO0
  have HO := Go.Lib.hid HO0
  have zz := zero_br
  clear HO0 hf ho
  simp only [dipFine, decide_eq_false_iff_not] at hF
  have P : Hid (((w.alloc (.cells (vrow 5 b.at) 27)).alloc (.cells (vrow 5 Br.zero.at) 27)).heap[w.heap.size]? = some (.cells (vrow 5 b.at) 27)) := heap_past _ _ _ _ (by first | omega | (simp <;> omega)) (heap_at _ _ _ (by simp))
  have Z : Hid (((w.alloc (.cells (vrow 5 b.at) 27)).alloc (.cells (vrow 5 Br.zero.at) 27)).heap[w.heap.size + 1]? = some (.cells (vrow 5 Br.zero.at) 27)) := heap_at _ _ _ (by simp)
  have hB : Hid (Below w.heap.size w ((w.alloc (.cells (vrow 5 b.at) 27)).alloc (.cells (vrow 5 Br.zero.at) 27))) := (((Below.refl w.heap.size w).alloc (by simp <;> omega) _).alloc (by simp <;> omega) _)
  by_cases h1 : 0 ≤ k ∧ k < 3
  · have HK := Go.Lib.hid fun w => ink_yes k h1 w
    by_cases h2 : 0 ≤ n ∧ n ≤ 900
    · have HN := Go.Lib.hid fun w => in_yes n 0 900 h2.1 h2.2 w
      have HM := Go.Lib.hid fun w => in_no m 0 200 (by omega) w
      clear hF h1 h2
      go_enter Tryd.func11, Tryd.ntmps11
      go_wp2_with (first
        | go_skip
        | (go_at_call 44; (refine (HO.out _ _ P.out).mono ?_); rintro o w1 ⟨rfl, hb⟩; replace P := Go.Lib.hid (row_next hb P.out); replace Z := Go.Lib.hid (row_next hb Z.out); replace hB := Go.Lib.hid (below_next hB.out hb); clear hb)
        | (go_at_call 45; (refine (HK.out _).mono ?_); rintro o w1 ⟨rfl, hb⟩; replace P := Go.Lib.hid (row_next hb P.out); replace Z := Go.Lib.hid (row_next hb Z.out); replace hB := Go.Lib.hid (below_next hB.out hb); clear hb)
        | (go_at_call 46; (with_reducible refine (HN.out _).mono ?_); rintro o w1 ⟨rfl, hb⟩; replace P := Go.Lib.hid (row_next hb P.out); replace Z := Go.Lib.hid (row_next hb Z.out); replace hB := Go.Lib.hid (below_next hB.out hb); clear hb)
        | (go_at_call 46; (with_reducible refine (HM.out _).mono ?_); rintro o w1 ⟨rfl, hb⟩; replace P := Go.Lib.hid (row_next hb P.out); replace Z := Go.Lib.hid (row_next hb Z.out); replace hB := Go.Lib.hid (below_next hB.out hb); clear hb)
        | ((with_reducible refine wlAt 28 rfl ?_); refine wpList_built rfl 27 [] rfl [] (by rfl) _ built_zbr ?_)
        | ((with_reducible refine wlOp (.store 27 (.tmp 8) (.tmp 28)) rfl ?_); refine wpList_storeall rfl 27 (.tmp 8) (.tmp 28) rfl (w.heap.size + 1) rfl 5 Br.zero.at Br.zero.at rfl 27 size_br Z.out (fun i _ => Br.one _ i) ?_; replace Z := Go.Lib.hid (row_set Z.out (vrow 5 Br.zero.at)); replace hB := Go.Lib.hid (Below_setRow hB.out (show w.heap.size ≤ w.heap.size + 1 by omega) (vrow 5 Br.zero.at))))
      exact ret_row2 Tryd.results11 (w.heap.size + 1) 5 Br.zero.at 27 _ Tryd.underlying27 rfl size_br (.int .i64 2) rfl rfl rfl Z.out ⟨rfl, hB.out⟩
    · have HN := Go.Lib.hid fun w => in_no n 0 900 (by omega) w
      clear hF h1 h2
      go_enter Tryd.func11, Tryd.ntmps11
      go_wp2_with (first
        | go_skip
        | (go_at_call 44; (refine (HO.out _ _ P.out).mono ?_); rintro o w1 ⟨rfl, hb⟩; replace P := Go.Lib.hid (row_next hb P.out); replace Z := Go.Lib.hid (row_next hb Z.out); replace hB := Go.Lib.hid (below_next hB.out hb); clear hb)
        | (go_at_call 45; (refine (HK.out _).mono ?_); rintro o w1 ⟨rfl, hb⟩; replace P := Go.Lib.hid (row_next hb P.out); replace Z := Go.Lib.hid (row_next hb Z.out); replace hB := Go.Lib.hid (below_next hB.out hb); clear hb)
        | (go_at_call 46; (with_reducible refine (HN.out _).mono ?_); rintro o w1 ⟨rfl, hb⟩; replace P := Go.Lib.hid (row_next hb P.out); replace Z := Go.Lib.hid (row_next hb Z.out); replace hB := Go.Lib.hid (below_next hB.out hb); clear hb)
        | ((with_reducible refine wlAt 28 rfl ?_); refine wpList_built rfl 27 [] rfl [] (by rfl) _ built_zbr ?_)
        | ((with_reducible refine wlOp (.store 27 (.tmp 8) (.tmp 28)) rfl ?_); refine wpList_storeall rfl 27 (.tmp 8) (.tmp 28) rfl (w.heap.size + 1) rfl 5 Br.zero.at Br.zero.at rfl 27 size_br Z.out (fun i _ => Br.one _ i) ?_; replace Z := Go.Lib.hid (row_set Z.out (vrow 5 Br.zero.at)); replace hB := Go.Lib.hid (Below_setRow hB.out (show w.heap.size ≤ w.heap.size + 1 by omega) (vrow 5 Br.zero.at))))
      exact ret_row2 Tryd.results11 (w.heap.size + 1) 5 Br.zero.at 27 _ Tryd.underlying27 rfl size_br (.int .i64 2) rfl rfl rfl Z.out ⟨rfl, hB.out⟩
  · have HK := Go.Lib.hid fun w => ink_no k (by omega) w
    clear hF h1
    go_enter Tryd.func11, Tryd.ntmps11
    go_wp2_with (first
      | go_skip
      | (go_at_call 44; (refine (HO.out _ _ P.out).mono ?_); rintro o w1 ⟨rfl, hb⟩; replace P := Go.Lib.hid (row_next hb P.out); replace Z := Go.Lib.hid (row_next hb Z.out); replace hB := Go.Lib.hid (below_next hB.out hb); clear hb)
      | (go_at_call 45; (refine (HK.out _).mono ?_); rintro o w1 ⟨rfl, hb⟩; replace P := Go.Lib.hid (row_next hb P.out); replace Z := Go.Lib.hid (row_next hb Z.out); replace hB := Go.Lib.hid (below_next hB.out hb); clear hb)
      | ((with_reducible refine wlAt 28 rfl ?_); refine wpList_built rfl 27 [] rfl [] (by rfl) _ built_zbr ?_)
      | ((with_reducible refine wlOp (.store 27 (.tmp 8) (.tmp 28)) rfl ?_); refine wpList_storeall rfl 27 (.tmp 8) (.tmp 28) rfl (w.heap.size + 1) rfl 5 Br.zero.at Br.zero.at rfl 27 size_br Z.out (fun i _ => Br.one _ i) ?_; replace Z := Go.Lib.hid (row_set Z.out (vrow 5 Br.zero.at)); replace hB := Go.Lib.hid (Below_setRow hB.out (show w.heap.size ≤ w.heap.size + 1 by omega) (vrow 5 Br.zero.at))))
    exact ret_row2 Tryd.results11 (w.heap.size + 1) 5 Br.zero.at 27 _ Tryd.underlying27 rfl size_br (.int .i64 2) rfl rfl rfl Z.out ⟨rfl, hB.out⟩
/-- the brush behind a dip -/
def Br.dip (b : Br) (k : Nat) (n m : Int) : Br := (b.setDye k (b.dye k + n)).setWater (b.water + m)
theorem Br.dip_fit (b : Br) (k : Nat) (n m : Int) (hk : k < 3) (hf : b.fit) (ho : b.ok = true) (hn : 0 ≤ n ∧ n ≤ 900) (hm : 0 ≤ m ∧ m ≤ 200) : (b.dip k n m).fit := by
  obtain ⟨h0, h1, h2, h3, h4, h5, h6, h7⟩ := b.ok_iff.1 ho
  unfold Br.sum at h3
  refine ⟨fun i hi => ?_, ?_, ?_⟩
  · show -32768 ≤ (if i = k then b.dye k + n else b.dye i) ∧ (if i = k then b.dye k + n else b.dye i) ≤ 32767
    have : k = 0 ∨ k = 1 ∨ k = 2 := by omega
    have : i = 0 ∨ i = 1 ∨ i = 2 := by omega
    split
    · rename_i h; subst h; rcases this with rfl | rfl | rfl <;> omega
    · rcases this with rfl | rfl | rfl <;> omega
  · show -32768 ≤ b.water + m ∧ b.water + m ≤ 32767; omega
  · exact hf.share
set_option maxHeartbeats 4000000 in
theorem specDip_ok (b : Br) (k : Nat) (n m : Int) (w : World) (hf : b.fit) (ho : b.ok = true) (hlt : k < 3) (hn : 0 ≤ n ∧ n ≤ 900) (hm : 0 ≤ m ∧ m ≤ 200) : Calls Tryd.prog 11 #[.agg b.row, .int .i64 k, .int .i64 n, .int .i64 m] w fun o w' => o = .returned (if (b.dip k n m).ok = true then .tuple #[.agg (b.dip k n m).row, .int .i64 0] else .tuple #[.agg Br.zero.row, .int .i64 3]) ∧ Below w.heap.size w w' := by
  have HO0 := fun n w hs => lok_any b n w hf hs
  rw [ho] at HO0
  have HO := Go.Lib.hid HO0
  have HD0 := fun q w hs => lok_any (b.dip k n m) q w (b.dip_fit k n m hlt hf ho hn hm) hs
  have zz := zero_br
  have HK := Go.Lib.hid fun w => ink_yes k (by omega) w
  have HN := Go.Lib.hid fun w => in_yes n 0 900 hn.1 hn.2 w
  have HM := Go.Lib.hid fun w => in_yes m 0 200 hm.1 hm.2 w
  obtain ⟨g0, g1, g2, g3, g4, g5, g6, g7⟩ := b.ok_iff.1 ho
  have hdk : 0 ≤ b.dye k ∧ b.dye k ≤ 900 := by
    unfold Br.sum at g3
    have : k = 0 ∨ k = 1 ∨ k = 2 := by omega
    rcases this with rfl | rfl | rfl <;> omega
  obtain ⟨hd1, hd2⟩ := hdk
  obtain ⟨hn1, hn2⟩ := hn
  obtain ⟨hm1, hm2⟩ := hm
  have hkI : (k : Int) < 3 := by omega
  clear HO0 hf ho g0 g1 g2 g3
  have P : Hid (((w.alloc (.cells (vrow 5 b.at) 27)).alloc (.cells (vrow 5 Br.zero.at) 27)).heap[w.heap.size]? = some (.cells (vrow 5 b.at) 27)) := heap_past _ _ _ _ (by first | omega | (simp <;> omega)) (heap_at _ _ _ (by simp))
  have Z : Hid (((w.alloc (.cells (vrow 5 b.at) 27)).alloc (.cells (vrow 5 Br.zero.at) 27)).heap[w.heap.size + 1]? = some (.cells (vrow 5 Br.zero.at) 27)) := heap_at _ _ _ (by simp)
  have hB : Hid (Below w.heap.size w ((w.alloc (.cells (vrow 5 b.at) 27)).alloc (.cells (vrow 5 Br.zero.at) 27))) := (((Below.refl w.heap.size w).alloc (by simp <;> omega) _).alloc (by simp <;> omega) _)
  cases hbo : (b.dip k n m).ok
  · rw [hbo] at HD0
    have HO2 := Go.Lib.hid HD0
    clear HD0
    go_enter Tryd.func11, Tryd.ntmps11
    go_wp2_with (first
      | go_skip
      | (go_at_call 44; (refine (HO.out _ _ P.out).mono ?_); rintro o w1 ⟨rfl, hb⟩; replace P := Go.Lib.hid (row_next hb P.out); replace Z := Go.Lib.hid (row_next hb Z.out); replace hB := Go.Lib.hid (below_next hB.out hb); clear hb)
      | (go_at_call 45; (refine (HK.out _).mono ?_); rintro o w1 ⟨rfl, hb⟩; replace P := Go.Lib.hid (row_next hb P.out); replace Z := Go.Lib.hid (row_next hb Z.out); replace hB := Go.Lib.hid (below_next hB.out hb); clear hb)
      | (go_at_call 46; (with_reducible refine (HN.out _).mono ?_); rintro o w1 ⟨rfl, hb⟩; replace P := Go.Lib.hid (row_next hb P.out); replace Z := Go.Lib.hid (row_next hb Z.out); replace hB := Go.Lib.hid (below_next hB.out hb); clear hb)
      | (go_at_call 46; (with_reducible refine (HM.out _).mono ?_); rintro o w1 ⟨rfl, hb⟩; replace P := Go.Lib.hid (row_next hb P.out); replace Z := Go.Lib.hid (row_next hb Z.out); replace hB := Go.Lib.hid (below_next hB.out hb); clear hb)
      | ((with_reducible refine wlAt 32 rfl ?_); refine wpList_load1 rfl 22 (.tmp 31) rfl _ k rfl 5 b.at 27 _ Tryd.underlying22 rfl P.out (by omega) ?_; rw [Br.at_k _ _ hlt])
      | ((with_reducible refine wlOp (.store 22 (.tmp 37) (.tmp 35)) rfl ?_); refine wpList_store1 rfl 22 (.tmp 37) (.tmp 35) rfl _ k rfl 5 b.at (.int .i16 (b.dye k + n)) rfl 27 size_i16 P.out (by omega) rfl ?_; rw [Br.dye_at _ _ hlt]; replace Z := Go.Lib.hid (row_set' (g := w.heap.size) (show w.heap.size + 1 ≠ w.heap.size by omega) Z.out (vrow 5 (b.setDye k (b.dye k + n)).at)); replace P := Go.Lib.hid (row_set P.out (vrow 5 (b.setDye k (b.dye k + n)).at)); replace hB := Go.Lib.hid (Below_setRow hB.out (Nat.le_refl _) (vrow 5 (b.setDye k (b.dye k + n)).at)))
      | ((with_reducible refine wlAt 39 rfl ?_); refine wpList_load1 rfl 22 (.tmp 38) rfl _ 3 rfl 5 (b.setDye k (b.dye k + n)).at 27 _ Tryd.underlying22 rfl P.out (by omega) ?_; rw [Br.at_3, show (b.setDye k (b.dye k + n)).water = b.water from rfl])
      | ((with_reducible refine wlOp (.store 22 (.tmp 43) (.tmp 42)) rfl ?_); refine wpList_store1 rfl 22 (.tmp 43) (.tmp 42) rfl _ 3 rfl 5 (b.setDye k (b.dye k + n)).at (.int .i16 (b.water + m)) rfl 27 size_i16 P.out (by omega) rfl ?_; rw [Br.water_at]; replace Z := Go.Lib.hid (row_set' (g := w.heap.size) (show w.heap.size + 1 ≠ w.heap.size by omega) Z.out (vrow 5 (b.dip k n m).at)); replace P := Go.Lib.hid (row_set P.out (vrow 5 (b.dip k n m).at)); replace hB := Go.Lib.hid (Below_setRow hB.out (Nat.le_refl _) (vrow 5 (b.dip k n m).at)); change wpList _ _ _ _ _ (World.setRow _ _ (vrow 5 (b.dip k n m).at)))
      | (go_at_call 44; (refine (HO2.out _ _ P.out).mono ?_); rintro o w1 ⟨rfl, hb⟩; replace P := Go.Lib.hid (row_next hb P.out); replace Z := Go.Lib.hid (row_next hb Z.out); replace hB := Go.Lib.hid (below_next hB.out hb); clear hb)
      | ((with_reducible refine wlAt 46 rfl ?_); refine wpList_built rfl 27 [] rfl [] (by rfl) _ built_zbr ?_)
      | ((with_reducible refine wlOp (.store 27 (.tmp 8) (.tmp 46)) rfl ?_); refine wpList_storeall rfl 27 (.tmp 8) (.tmp 46) rfl (w.heap.size + 1) rfl 5 Br.zero.at Br.zero.at rfl 27 size_br Z.out (fun i _ => Br.one _ i) ?_; replace Z := Go.Lib.hid (row_set Z.out (vrow 5 Br.zero.at)); replace hB := Go.Lib.hid (Below_setRow hB.out (show w.heap.size ≤ w.heap.size + 1 by omega) (vrow 5 Br.zero.at))))
    exact ret_row2 Tryd.results11 (w.heap.size + 1) 5 Br.zero.at 27 _ Tryd.underlying27 rfl size_br (.int .i64 3) rfl rfl rfl Z.out ⟨by simp, hB.out⟩
  · rw [hbo] at HD0
    have HO2 := Go.Lib.hid HD0
    clear HD0
    go_enter Tryd.func11, Tryd.ntmps11
    go_wp2_with (first
      | go_skip
      | (go_at_call 44; (refine (HO.out _ _ P.out).mono ?_); rintro o w1 ⟨rfl, hb⟩; replace P := Go.Lib.hid (row_next hb P.out); replace Z := Go.Lib.hid (row_next hb Z.out); replace hB := Go.Lib.hid (below_next hB.out hb); clear hb)
      | (go_at_call 45; (refine (HK.out _).mono ?_); rintro o w1 ⟨rfl, hb⟩; replace P := Go.Lib.hid (row_next hb P.out); replace Z := Go.Lib.hid (row_next hb Z.out); replace hB := Go.Lib.hid (below_next hB.out hb); clear hb)
      | (go_at_call 46; (with_reducible refine (HN.out _).mono ?_); rintro o w1 ⟨rfl, hb⟩; replace P := Go.Lib.hid (row_next hb P.out); replace Z := Go.Lib.hid (row_next hb Z.out); replace hB := Go.Lib.hid (below_next hB.out hb); clear hb)
      | (go_at_call 46; (with_reducible refine (HM.out _).mono ?_); rintro o w1 ⟨rfl, hb⟩; replace P := Go.Lib.hid (row_next hb P.out); replace Z := Go.Lib.hid (row_next hb Z.out); replace hB := Go.Lib.hid (below_next hB.out hb); clear hb)
      | ((with_reducible refine wlAt 32 rfl ?_); refine wpList_load1 rfl 22 (.tmp 31) rfl _ k rfl 5 b.at 27 _ Tryd.underlying22 rfl P.out (by omega) ?_; rw [Br.at_k _ _ hlt])
      | ((with_reducible refine wlOp (.store 22 (.tmp 37) (.tmp 35)) rfl ?_); refine wpList_store1 rfl 22 (.tmp 37) (.tmp 35) rfl _ k rfl 5 b.at (.int .i16 (b.dye k + n)) rfl 27 size_i16 P.out (by omega) rfl ?_; rw [Br.dye_at _ _ hlt]; replace Z := Go.Lib.hid (row_set' (g := w.heap.size) (show w.heap.size + 1 ≠ w.heap.size by omega) Z.out (vrow 5 (b.setDye k (b.dye k + n)).at)); replace P := Go.Lib.hid (row_set P.out (vrow 5 (b.setDye k (b.dye k + n)).at)); replace hB := Go.Lib.hid (Below_setRow hB.out (Nat.le_refl _) (vrow 5 (b.setDye k (b.dye k + n)).at)))
      | ((with_reducible refine wlAt 39 rfl ?_); refine wpList_load1 rfl 22 (.tmp 38) rfl _ 3 rfl 5 (b.setDye k (b.dye k + n)).at 27 _ Tryd.underlying22 rfl P.out (by omega) ?_; rw [Br.at_3, show (b.setDye k (b.dye k + n)).water = b.water from rfl])
      | ((with_reducible refine wlOp (.store 22 (.tmp 43) (.tmp 42)) rfl ?_); refine wpList_store1 rfl 22 (.tmp 43) (.tmp 42) rfl _ 3 rfl 5 (b.setDye k (b.dye k + n)).at (.int .i16 (b.water + m)) rfl 27 size_i16 P.out (by omega) rfl ?_; rw [Br.water_at]; replace Z := Go.Lib.hid (row_set' (g := w.heap.size) (show w.heap.size + 1 ≠ w.heap.size by omega) Z.out (vrow 5 (b.dip k n m).at)); replace P := Go.Lib.hid (row_set P.out (vrow 5 (b.dip k n m).at)); replace hB := Go.Lib.hid (Below_setRow hB.out (Nat.le_refl _) (vrow 5 (b.dip k n m).at)); change wpList _ _ _ _ _ (World.setRow _ _ (vrow 5 (b.dip k n m).at)))
      | (go_at_call 44; (refine (HO2.out _ _ P.out).mono ?_); rintro o w1 ⟨rfl, hb⟩; replace P := Go.Lib.hid (row_next hb P.out); replace Z := Go.Lib.hid (row_next hb Z.out); replace hB := Go.Lib.hid (below_next hB.out hb); clear hb)
      | ((with_reducible refine wlAt 47 rfl ?_); refine wpList_loadall rfl 27 (.tmp 4) rfl _ rfl 5 (b.dip k n m).at 27 _ Tryd.underlying27 rfl size_br P.out ?_)
      | ((with_reducible refine wlOp (.store 27 (.tmp 8) (.tmp 47)) rfl ?_); refine wpList_storeall rfl 27 (.tmp 8) (.tmp 47) rfl (w.heap.size + 1) rfl 5 Br.zero.at (b.dip k n m).at rfl 27 size_br Z.out (fun i _ => Br.one _ i) ?_; replace Z := Go.Lib.hid (row_set Z.out (vrow 5 (b.dip k n m).at)); replace hB := Go.Lib.hid (Below_setRow hB.out (show w.heap.size ≤ w.heap.size + 1 by omega) (vrow 5 (b.dip k n m).at))))
    exact ret_row2 Tryd.results11 (w.heap.size + 1) 5 (b.dip k n m).at 27 _ Tryd.underlying27 rfl size_br (.int .i64 0) rfl rfl rfl Z.out ⟨by simp, hB.out⟩
set_option maxHeartbeats 4000000 in
theorem implDip_err (b : Br) (k n m : Int) (c : Nat) (hc : c = 1 ∨ c = 2) (e : ErrE) (w : World) (hE : Errs e w) (HC0 : ∀ w, Errs e w → Calls Tryd.prog 48 #[.agg b.row, .int .i64 k, .int .i64 n, .int .i64 m] w fun o w' => o = .returned (errP e c) ∧ Below w.heap.size w w') : Calls Tryd.prog 13 #[.agg b.row, .int .i64 k, .int .i64 n, .int .i64 m] w fun o w' => o = .returned (.tuple #[.agg Br.zero.row, .int .i64 c]) ∧ Below w.heap.size w w' := by
  have HC := Go.Lib.hid HC0
  clear HC0
  have zz := zero_br
  have P : Hid (((w.alloc (.cells (vrow 5 b.at) 27)).alloc (.cells (vrow 5 Br.zero.at) 27)).heap[w.heap.size]? = some (.cells (vrow 5 b.at) 27)) := heap_past _ _ _ _ (by first | omega | (simp <;> omega)) (heap_at _ _ _ (by simp))
  have Z : Hid (((w.alloc (.cells (vrow 5 b.at) 27)).alloc (.cells (vrow 5 Br.zero.at) 27)).heap[w.heap.size + 1]? = some (.cells (vrow 5 Br.zero.at) 27)) := heap_at _ _ _ (by simp)
  have hB : Hid (Below w.heap.size w ((w.alloc (.cells (vrow 5 b.at) 27)).alloc (.cells (vrow 5 Br.zero.at) 27))) := (((Below.refl w.heap.size w).alloc (by simp <;> omega) _).alloc (by simp <;> omega) _)
  have E : Hid (Errs e ((w.alloc (.cells (vrow 5 b.at) 27)).alloc (.cells (vrow 5 Br.zero.at) 27))) := (hE.alloc _).alloc _
  rcases hc with rfl | rfl
  · have HD := Go.Lib.hid fun w hE => codeOf_1 e w hE
    go_enter Tryd.func13, Tryd.ntmps13
    go_wp2_with (first
      | go_skip
      | ((with_reducible refine wlAt 11 rfl ?_); refine wpList_loadall rfl 27 (.tmp 4) rfl _ rfl 5 b.at 27 _ Tryd.underlying27 rfl size_br P.out ?_)
      | (go_at_call 48; (refine (HC.out _ E.out).mono ?_); rintro o w1 ⟨rfl, hb⟩; replace P := Go.Lib.hid (row_next hb P.out); replace Z := Go.Lib.hid (row_next hb Z.out); replace hB := Go.Lib.hid (below_next hB.out hb); replace E := Go.Lib.hid (E.out.next hb); clear hb)
      | ((with_reducible refine wlAt 18 rfl ?_); refine wpList_built rfl 27 [] rfl [] (by rfl) _ built_zbr ?_)
      | (go_at_call 49; (refine (HD.out _ E.out).mono ?_); rintro o w2 ⟨rfl, hb⟩; replace P := Go.Lib.hid (row_next hb P.out); replace Z := Go.Lib.hid (row_next hb Z.out); replace hB := Go.Lib.hid (below_next hB.out hb); replace E := Go.Lib.hid (E.out.next hb); clear hb)
      | ((with_reducible refine wlOp (.store 27 (.tmp 8) (.tmp 18)) rfl ?_); refine wpList_storeall rfl 27 (.tmp 8) (.tmp 18) rfl (w.heap.size + 1) rfl 5 Br.zero.at Br.zero.at rfl 27 size_br Z.out (fun i _ => Br.one _ i) ?_; replace Z := Go.Lib.hid (row_set Z.out (vrow 5 Br.zero.at)); replace hB := Go.Lib.hid (Below_setRow hB.out (show w.heap.size ≤ w.heap.size + 1 by omega) (vrow 5 Br.zero.at))))
    exact ret_row2 Tryd.results13 (w.heap.size + 1) 5 Br.zero.at 27 _ Tryd.underlying27 rfl size_br (.int .i64 1) rfl rfl rfl Z.out ⟨rfl, hB.out⟩
  · have HD := Go.Lib.hid fun w hE => codeOf_2 e w hE
    go_enter Tryd.func13, Tryd.ntmps13
    go_wp2_with (first
      | go_skip
      | ((with_reducible refine wlAt 11 rfl ?_); refine wpList_loadall rfl 27 (.tmp 4) rfl _ rfl 5 b.at 27 _ Tryd.underlying27 rfl size_br P.out ?_)
      | (go_at_call 48; (refine (HC.out _ E.out).mono ?_); rintro o w1 ⟨rfl, hb⟩; replace P := Go.Lib.hid (row_next hb P.out); replace Z := Go.Lib.hid (row_next hb Z.out); replace hB := Go.Lib.hid (below_next hB.out hb); replace E := Go.Lib.hid (E.out.next hb); clear hb)
      | ((with_reducible refine wlAt 18 rfl ?_); refine wpList_built rfl 27 [] rfl [] (by rfl) _ built_zbr ?_)
      | (go_at_call 49; (refine (HD.out _ E.out).mono ?_); rintro o w2 ⟨rfl, hb⟩; replace P := Go.Lib.hid (row_next hb P.out); replace Z := Go.Lib.hid (row_next hb Z.out); replace hB := Go.Lib.hid (below_next hB.out hb); replace E := Go.Lib.hid (E.out.next hb); clear hb)
      | ((with_reducible refine wlOp (.store 27 (.tmp 8) (.tmp 18)) rfl ?_); refine wpList_storeall rfl 27 (.tmp 8) (.tmp 18) rfl (w.heap.size + 1) rfl 5 Br.zero.at Br.zero.at rfl 27 size_br Z.out (fun i _ => Br.one _ i) ?_; replace Z := Go.Lib.hid (row_set Z.out (vrow 5 Br.zero.at)); replace hB := Go.Lib.hid (Below_setRow hB.out (show w.heap.size ≤ w.heap.size + 1 by omega) (vrow 5 Br.zero.at))))
    exact ret_row2 Tryd.results13 (w.heap.size + 1) 5 Br.zero.at 27 _ Tryd.underlying27 rfl size_br (.int .i64 2) rfl rfl rfl Z.out ⟨rfl, hB.out⟩
set_option maxHeartbeats 4000000 in
theorem implDip_ok (b : Br) (k : Nat) (n m : Int) (e : ErrE) (w : World) (hE : Errs e w) (hf : b.fit) (ho : b.ok = true) (hlt : k < 3) (hn : 0 ≤ n ∧ n ≤ 900) (hm : 0 ≤ m ∧ m ≤ 200) : Calls Tryd.prog 13 #[.agg b.row, .int .i64 k, .int .i64 n, .int .i64 m] w fun o w' => o = .returned (if (b.dip k n m).ok = true then .tuple #[.agg (b.dip k n m).row, .int .i64 0] else .tuple #[.agg Br.zero.row, .int .i64 3]) ∧ Below w.heap.size w w' := by
  have HC := Go.Lib.hid fun w hE => ckDip_ok b k n m e w hE hf ho (by simp [dipFine]; omega)
  have HD0 := fun w => vbrush_any (b.dip k n m) (b.dip_fit k n m hlt hf ho hn hm) w
  have zz := zero_br
  obtain ⟨g0, g1, g2, g3, g4, g5, g6, g7⟩ := b.ok_iff.1 ho
  have hdk : 0 ≤ b.dye k ∧ b.dye k ≤ 900 := by
    unfold Br.sum at g3
    have : k = 0 ∨ k = 1 ∨ k = 2 := by omega
    rcases this with rfl | rfl | rfl <;> omega
  obtain ⟨hd1, hd2⟩ := hdk
  obtain ⟨hn1, hn2⟩ := hn
  obtain ⟨hm1, hm2⟩ := hm
  have hkI : (k : Int) < 3 := by omega
  clear hf ho g0 g1 g2 g3
  have P : Hid (((w.alloc (.cells (vrow 5 b.at) 27)).alloc (.cells (vrow 5 Br.zero.at) 27)).heap[w.heap.size]? = some (.cells (vrow 5 b.at) 27)) := heap_past _ _ _ _ (by first | omega | (simp <;> omega)) (heap_at _ _ _ (by simp))
  have Z : Hid (((w.alloc (.cells (vrow 5 b.at) 27)).alloc (.cells (vrow 5 Br.zero.at) 27)).heap[w.heap.size + 1]? = some (.cells (vrow 5 Br.zero.at) 27)) := heap_at _ _ _ (by simp)
  have hB : Hid (Below w.heap.size w ((w.alloc (.cells (vrow 5 b.at) 27)).alloc (.cells (vrow 5 Br.zero.at) 27))) := (((Below.refl w.heap.size w).alloc (by simp <;> omega) _).alloc (by simp <;> omega) _)
  have E : Hid (Errs e ((w.alloc (.cells (vrow 5 b.at) 27)).alloc (.cells (vrow 5 Br.zero.at) 27))) := (hE.alloc _).alloc _
  cases hbo : (b.dip k n m).ok
  · rw [hbo] at HD0
    have HV := Go.Lib.hid HD0
    clear HD0
    go_enter Tryd.func13, Tryd.ntmps13
    go_wp2_with (first
      | go_skip
      | ((with_reducible refine wlAt 11 rfl ?_); refine wpList_loadall rfl 27 (.tmp 4) rfl _ rfl 5 b.at 27 _ Tryd.underlying27 rfl size_br P.out ?_)
      | (go_at_call 48; (refine (HC.out _ E.out).mono ?_); rintro o w1 ⟨rfl, hb⟩; replace P := Go.Lib.hid (row_next hb P.out); replace Z := Go.Lib.hid (row_next hb Z.out); replace hB := Go.Lib.hid (below_next hB.out hb); replace E := Go.Lib.hid (E.out.next hb); clear hb)
      | ((with_reducible refine wlAt 24 rfl ?_); refine wpList_load1 rfl 22 (.tmp 23) rfl _ k rfl 5 b.at 27 _ Tryd.underlying22 rfl P.out (by omega) ?_; rw [Br.at_k _ _ hlt])
      | ((with_reducible refine wlOp (.store 22 (.tmp 29) (.tmp 27)) rfl ?_); refine wpList_store1 rfl 22 (.tmp 29) (.tmp 27) rfl _ k rfl 5 b.at (.int .i16 (b.dye k + n)) rfl 27 size_i16 P.out (by omega) rfl ?_; rw [Br.dye_at _ _ hlt]; replace Z := Go.Lib.hid (row_set' (g := w.heap.size) (show w.heap.size + 1 ≠ w.heap.size by omega) Z.out (vrow 5 (b.setDye k (b.dye k + n)).at)); replace P := Go.Lib.hid (row_set P.out (vrow 5 (b.setDye k (b.dye k + n)).at)); replace hB := Go.Lib.hid (Below_setRow hB.out (Nat.le_refl _) (vrow 5 (b.setDye k (b.dye k + n)).at)))
      | ((with_reducible refine wlAt 31 rfl ?_); refine wpList_load1 rfl 22 (.tmp 30) rfl _ 3 rfl 5 (b.setDye k (b.dye k + n)).at 27 _ Tryd.underlying22 rfl P.out (by omega) ?_; rw [Br.at_3, show (b.setDye k (b.dye k + n)).water = b.water from rfl])
      | ((with_reducible refine wlOp (.store 22 (.tmp 35) (.tmp 34)) rfl ?_); refine wpList_store1 rfl 22 (.tmp 35) (.tmp 34) rfl _ 3 rfl 5 (b.setDye k (b.dye k + n)).at (.int .i16 (b.water + m)) rfl 27 size_i16 P.out (by omega) rfl ?_; rw [Br.water_at]; replace Z := Go.Lib.hid (row_set' (g := w.heap.size) (show w.heap.size + 1 ≠ w.heap.size by omega) Z.out (vrow 5 (b.dip k n m).at)); replace P := Go.Lib.hid (row_set P.out (vrow 5 (b.dip k n m).at)); replace hB := Go.Lib.hid (Below_setRow hB.out (Nat.le_refl _) (vrow 5 (b.dip k n m).at)); change wpList _ _ _ _ _ (World.setRow _ _ (vrow 5 (b.dip k n m).at)))
      | ((with_reducible refine wlAt 36 rfl ?_); refine wpList_loadall rfl 27 (.tmp 4) rfl _ rfl 5 (b.dip k n m).at 27 _ Tryd.underlying27 rfl size_br P.out ?_)
      | (go_at_call 50; (refine (HV.out _).mono ?_); rintro o w3 ⟨rfl, hb⟩; replace P := Go.Lib.hid (row_next hb P.out); replace Z := Go.Lib.hid (row_next hb Z.out); replace hB := Go.Lib.hid (below_next hB.out hb); clear hb)
      | ((with_reducible refine wlAt 39 rfl ?_); refine wpList_built rfl 27 [] rfl [] (by rfl) _ built_zbr ?_)
      | ((with_reducible refine wlOp (.store 27 (.tmp 8) (.tmp 39)) rfl ?_); refine wpList_storeall rfl 27 (.tmp 8) (.tmp 39) rfl (w.heap.size + 1) rfl 5 Br.zero.at Br.zero.at rfl 27 size_br Z.out (fun i _ => Br.one _ i) ?_; replace Z := Go.Lib.hid (row_set Z.out (vrow 5 Br.zero.at)); replace hB := Go.Lib.hid (Below_setRow hB.out (show w.heap.size ≤ w.heap.size + 1 by omega) (vrow 5 Br.zero.at))))
    exact ret_row2 Tryd.results13 (w.heap.size + 1) 5 Br.zero.at 27 _ Tryd.underlying27 rfl size_br (.int .i64 3) rfl rfl rfl Z.out ⟨by simp, hB.out⟩
  · rw [hbo] at HD0
    have HV := Go.Lib.hid HD0
    clear HD0
    go_enter Tryd.func13, Tryd.ntmps13
    go_wp2_with (first
      | go_skip
      | ((with_reducible refine wlAt 11 rfl ?_); refine wpList_loadall rfl 27 (.tmp 4) rfl _ rfl 5 b.at 27 _ Tryd.underlying27 rfl size_br P.out ?_)
      | (go_at_call 48; (refine (HC.out _ E.out).mono ?_); rintro o w1 ⟨rfl, hb⟩; replace P := Go.Lib.hid (row_next hb P.out); replace Z := Go.Lib.hid (row_next hb Z.out); replace hB := Go.Lib.hid (below_next hB.out hb); replace E := Go.Lib.hid (E.out.next hb); clear hb)
      | ((with_reducible refine wlAt 24 rfl ?_); refine wpList_load1 rfl 22 (.tmp 23) rfl _ k rfl 5 b.at 27 _ Tryd.underlying22 rfl P.out (by omega) ?_; rw [Br.at_k _ _ hlt])
      | ((with_reducible refine wlOp (.store 22 (.tmp 29) (.tmp 27)) rfl ?_); refine wpList_store1 rfl 22 (.tmp 29) (.tmp 27) rfl _ k rfl 5 b.at (.int .i16 (b.dye k + n)) rfl 27 size_i16 P.out (by omega) rfl ?_; rw [Br.dye_at _ _ hlt]; replace Z := Go.Lib.hid (row_set' (g := w.heap.size) (show w.heap.size + 1 ≠ w.heap.size by omega) Z.out (vrow 5 (b.setDye k (b.dye k + n)).at)); replace P := Go.Lib.hid (row_set P.out (vrow 5 (b.setDye k (b.dye k + n)).at)); replace hB := Go.Lib.hid (Below_setRow hB.out (Nat.le_refl _) (vrow 5 (b.setDye k (b.dye k + n)).at)))
      | ((with_reducible refine wlAt 31 rfl ?_); refine wpList_load1 rfl 22 (.tmp 30) rfl _ 3 rfl 5 (b.setDye k (b.dye k + n)).at 27 _ Tryd.underlying22 rfl P.out (by omega) ?_; rw [Br.at_3, show (b.setDye k (b.dye k + n)).water = b.water from rfl])
      | ((with_reducible refine wlOp (.store 22 (.tmp 35) (.tmp 34)) rfl ?_); refine wpList_store1 rfl 22 (.tmp 35) (.tmp 34) rfl _ 3 rfl 5 (b.setDye k (b.dye k + n)).at (.int .i16 (b.water + m)) rfl 27 size_i16 P.out (by omega) rfl ?_; rw [Br.water_at]; replace Z := Go.Lib.hid (row_set' (g := w.heap.size) (show w.heap.size + 1 ≠ w.heap.size by omega) Z.out (vrow 5 (b.dip k n m).at)); replace P := Go.Lib.hid (row_set P.out (vrow 5 (b.dip k n m).at)); replace hB := Go.Lib.hid (Below_setRow hB.out (Nat.le_refl _) (vrow 5 (b.dip k n m).at)); change wpList _ _ _ _ _ (World.setRow _ _ (vrow 5 (b.dip k n m).at)))
      | ((with_reducible refine wlAt 36 rfl ?_); refine wpList_loadall rfl 27 (.tmp 4) rfl _ rfl 5 (b.dip k n m).at 27 _ Tryd.underlying27 rfl size_br P.out ?_)
      | (go_at_call 50; (refine (HV.out _).mono ?_); rintro o w3 ⟨rfl, hb⟩; replace P := Go.Lib.hid (row_next hb P.out); replace Z := Go.Lib.hid (row_next hb Z.out); replace hB := Go.Lib.hid (below_next hB.out hb); clear hb)
      | ((with_reducible refine wlAt 40 rfl ?_); refine wpList_loadall rfl 27 (.tmp 4) rfl _ rfl 5 (b.dip k n m).at 27 _ Tryd.underlying27 rfl size_br P.out ?_)
      | ((with_reducible refine wlOp (.store 27 (.tmp 8) (.tmp 40)) rfl ?_); refine wpList_storeall rfl 27 (.tmp 8) (.tmp 40) rfl (w.heap.size + 1) rfl 5 Br.zero.at (b.dip k n m).at rfl 27 size_br Z.out (fun i _ => Br.one _ i) ?_; replace Z := Go.Lib.hid (row_set Z.out (vrow 5 (b.dip k n m).at)); replace hB := Go.Lib.hid (Below_setRow hB.out (show w.heap.size ≤ w.heap.size + 1 by omega) (vrow 5 (b.dip k n m).at))))
    exact ret_row2 Tryd.results13 (w.heap.size + 1) 5 (b.dip k n m).at 27 _ Tryd.underlying27 rfl size_br (.int .i64 0) rfl rfl rfl Z.out ⟨by simp, hB.out⟩
set_option maxHeartbeats 4000000 in
theorem dip_walk (b r : Br) (k n m c : Int) (e : ErrE) (w : World) (hE : Errs e w)
    (hS : ∀ w, Calls Tryd.prog 11 #[.agg b.row, .int .i64 k, .int .i64 n, .int .i64 m] w fun e w' => e = .returned (.tuple #[.agg r.row, .int .i64 c]) ∧ Below w.heap.size w w')
    (hI : ∀ w, Errs e w → Calls Tryd.prog 13 #[.agg b.row, .int .i64 k, .int .i64 n, .int .i64 m] w fun e w' => e = .returned (.tuple #[.agg r.row, .int .i64 c]) ∧ Below w.heap.size w w') : Calls Tryd.prog 3 #[.agg b.row, .int .i64 k, .int .i64 n, .int .i64 m] w fun o w' => o = .returned (.bool true) ∧ Below w.heap.size w w' := by
  have zz := zero_br
  have HS := Go.Lib.hid hS; have HI := Go.Lib.hid hI
  clear hS hI
  have P0 : Hid ((w.alloc (.cells (vrow 5 b.at) 26)).heap[w.heap.size]? = some (.cells (vrow 5 b.at) 26)) := heap_at _ _ _ (by simp)
  have hB : Hid (Below w.heap.size w (w.alloc (.cells (vrow 5 b.at) 26))) := ((Below.refl w.heap.size w).alloc (by simp <;> omega) _)
  go_enter Tryd.func3, Tryd.ntmps3
  go_wp2_with (first
    | go_skip
    | ((with_reducible refine wlAt 14 rfl ?_); refine wpList_loadall rfl 26 (.tmp 4) rfl _ rfl 5 b.at 26 _ Tryd.underlying26 rfl size_lbr P0.out ?_)
    | ((with_reducible refine wlAt 23 rfl ?_); refine wpList_loadall rfl 26 (.tmp 4) rfl _ rfl 5 b.at 26 _ Tryd.underlying26 rfl size_lbr P0.out ?_)
    | (go_at_call 12; refine (toBrush_any b _).mono ?_; rintro o w1 ⟨rfl, hb⟩; replace P0 := Go.Lib.hid (row_next hb P0.out); (try (replace V5 := Go.Lib.hid (row_next hb V5.out))); replace hB := Go.Lib.hid (below_next hB.out hb); clear hb)
    | (go_at_call 11; refine (HS.out _).mono ?_; rintro o w5 ⟨rfl, hb⟩; replace P0 := Go.Lib.hid (row_next hb P0.out); replace hB := Go.Lib.hid (below_next hB.out hb); clear hb)
    | ((with_reducible refine wlOp (.store 27 (.tmp 9) (.tmp 20)) rfl ?_); refine wpList_storeall rfl 27 (.tmp 9) (.tmp 20) rfl _ rfl 5 Br.zero.at r.at rfl 27 size_br (heap_at _ _ _ rfl) (fun i _ => r.one i) ?_; rw [setRow_at _ _ _ _ _ rfl]; replace P0 := Go.Lib.hid (heap_past _ (.cells (vrow 5 r.at) 27) _ _ (row_lt P0.out) P0.out); have V5 := Go.Lib.hid (heap_at w5 (.cells (vrow 5 r.at) 27) _ rfl); replace hB := Go.Lib.hid (hB.out.alloc hB.out.size (.cells (vrow 5 r.at) 27)); generalize hbvV5 : w5.heap.size = bV5 at V5 ⊢; generalize w5.alloc _ = W5 at hB V5 P0 ⊢; clear hbvV5)
    | (go_at_call 13; refine (HI.out _ (hE.next hB.out)).mono ?_; rintro o w7 ⟨rfl, hb⟩; replace P0 := Go.Lib.hid (row_next hb P0.out); (try (replace V5 := Go.Lib.hid (row_next hb V5.out))); replace hB := Go.Lib.hid (below_next hB.out hb); clear hb)
    | ((with_reducible refine wlOp (.store 27 (.tmp 11) (.tmp 29)) rfl ?_); refine wpList_storeall rfl 27 (.tmp 11) (.tmp 29) rfl _ rfl 5 Br.zero.at r.at rfl 27 size_br (heap_at _ _ _ rfl) (fun i _ => r.one i) ?_; rw [setRow_at _ _ _ _ _ rfl]; replace P0 := Go.Lib.hid (heap_past _ (.cells (vrow 5 r.at) 27) _ _ (row_lt P0.out) P0.out); replace V5 := Go.Lib.hid (heap_past _ (.cells (vrow 5 r.at) 27) _ _ (row_lt V5.out) V5.out); have V7 := Go.Lib.hid (heap_at w7 (.cells (vrow 5 r.at) 27) _ rfl); replace hB := Go.Lib.hid (hB.out.alloc hB.out.size (.cells (vrow 5 r.at) 27)); generalize hbvV7 : w7.heap.size = bV7 at V7 ⊢; generalize w7.alloc _ = W7 at hB V7 P0 V5 ⊢; clear hbvV7)
    | ((with_reducible refine wlAt 31 rfl ?_); refine wpList_loadall rfl 27 (.tmp 11) rfl _ rfl 5 r.at 27 _ Tryd.underlying27 rfl size_br V7.out ?_)
    | ((with_reducible refine wlAt 32 rfl ?_); refine wpList_loadall rfl 27 (.tmp 9) rfl _ rfl 5 r.at 27 _ Tryd.underlying27 rfl size_br V5.out ?_)
    | (go_at_call 14; refine (eqBrush_any r _).mono ?_; rintro o w3 ⟨rfl, hb⟩; replace hB := Go.Lib.hid (below_next hB.out hb); clear hb))
  go_ret
  exact ⟨rfl, hB.out⟩
theorem dip_law (b : Br) (k n m : Int) (e : ErrE) (w : World) (hE : Errs e w) (hf : b.fit) : Calls Tryd.prog 3 #[.agg b.row, .int .i64 k, .int .i64 n, .int .i64 m] w fun o w' => o = .returned (.bool true) ∧ Below w.heap.size w w' := by
  cases ho : b.ok
  · exact dip_walk b Br.zero k n m 1 e w hE (fun w => specDip_bad b k n m w hf ho) (fun w hE => implDip_err b k n m 1 (.inl rfl) e w hE fun w hE => ckDip_bad b k n m e w hE hf ho)
  · cases hF : dipFine k n m
    · exact dip_walk b Br.zero k n m 2 e w hE (fun w => specDip_un b k n m w hf ho hF) (fun w hE => implDip_err b k n m 2 (.inr rfl) e w hE fun w hE => ckDip_un b k n m e w hE hf ho hF)
    · simp only [dipFine, decide_eq_true_eq] at hF
      obtain ⟨h1, h2, h3, h4, h5, h6⟩ := hF
      obtain ⟨K, rfl⟩ : ∃ K : Nat, k = K := ⟨k.toNat, by omega⟩
      have hK : K < 3 := by omega
      have hs := fun w => specDip_ok b K n m w hf ho hK ⟨h3, h4⟩ ⟨h5, h6⟩
      have hi := fun w hE => implDip_ok b K n m e w hE hf ho hK ⟨h3, h4⟩ ⟨h5, h6⟩
      by_cases hr : (b.dip K n m).ok = true
      · simp only [hr, if_true] at hs hi
        exact dip_walk b _ K n m 0 e w hE hs hi
      · simp only [hr, if_false] at hs hi
        exact dip_walk b Br.zero K n m 3 e w hE hs hi
end Go.Proofs.YthkkbkpfomhdeaaDoor
