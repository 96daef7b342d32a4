import Derived.Test.YtfgcpiipndhllaaDoorBrush
namespace Go.Proofs.YtfgcpiipndhllaaDoor
open Go.RowKit
set_option maxRecDepth 100000
set_option linter.unusedVariables false
set_option linter.unusedSimpArgs false
theorem Br.at_lit (b : Br) : vrow 3 (fun i => b.at (0 + i)) = #[.int .i16 (b.dye 0), .int .i16 (b.dye 1), .int .i16 (b.dye 2)] := rfl
set_option maxHeartbeats 1000000 in
theorem lok_any (b : Br) (n : Nat) (w : World) (hf : b.fit) (hs : w.heap[n]? = some (.cells (vrow 5 b.at) 49)) : Calls Tryd.prog 128 #[.pointer (some ⟨n, 0, none⟩)] w fun e w' => e = .returned (.bool b.ok) ∧ Below w.heap.size w w' := by
  have HF := Go.Lib.hid hf
  go_enter Tryd.func128, Tryd.ntmps128
  go_wp2
  go_loopw [3] (fun i wr => ∃ k : Nat, k ≤ 3 ∧ i = .int .i64 k ∧ (∀ j, j < k → 0 ≤ b.dye j ∧ b.dye j ≤ 900) ∧ wr.heap[n]? = some (.cells (vrow 5 b.at) 49) ∧ Below w.heap.size w wr) (fun i _ => 3 - (intOf i).toNat)
  case atStart => exact ⟨0, by omega, rfl, fun j h => by omega, hs, Below.refl _ _⟩
  case round =>
    clear hs
    obtain ⟨k, hk, rfl, hall, P, hB⟩ := hrel
    replace P := Go.Lib.hid P; replace hB := Go.Lib.hid hB
    by_cases hlt : k < 3
    · have hkI : (k : Int) < 3 := by omega
      obtain ⟨g1, g2⟩ := hf.dye k hlt
      by_cases hin : 0 ≤ b.dye k ∧ b.dye k ≤ 900
      · have HI := Go.Lib.hid fun w => in_yes (b.dye k) 0 900 hin.1 hin.2 w
        have HA : ∀ j, j < k + 1 → 0 ≤ b.dye j ∧ b.dye j ≤ 900 := fun j h => by
          by_cases hj : j < k
          · exact hall j hj
          · obtain rfl : j = k := by omega
            exact hin
        clear hall hin hf
        go_wp2_with (first
          | go_skip
          | ((with_reducible refine wlAt 13 rfl ?_); refine wpList_load1 rfl 23 (.tmp 12) rfl _ k rfl 5 b.at 49 _ Tryd.underlying23 rfl P.out (by omega) ?_; rw [Br.at_k _ _ hlt])
          | (go_at_call 75; (refine (HI.out _).mono ?_); rintro o w1 ⟨rfl, hb⟩; replace P := Go.Lib.hid (row_next hb P.out); replace hB := Go.Lib.hid (below_next hB.out hb); clear hb))
        go_roundw
        case rel => exact ⟨k + 1, by omega, by go_num, HA, P.out, hB.out⟩
        case measure => simp [intOf]; omega
      · have HI := Go.Lib.hid fun w => in_no (b.dye k) 0 900 (by omega) w
        have hno : b.ok = false := b.ok_not fun ⟨h0, h1, h2, h3, _⟩ => by
          unfold Br.sum at h3
          have : k = 0 ∨ k = 1 ∨ k = 2 := by omega
          rcases this with rfl | rfl | rfl <;> omega
        clear hall hin hf
        go_wp2_with (first
          | go_skip
          | ((with_reducible refine wlAt 13 rfl ?_); refine wpList_load1 rfl 23 (.tmp 12) rfl _ k rfl 5 b.at 49 _ Tryd.underlying23 rfl P.out (by omega) ?_; rw [Br.at_k _ _ hlt])
          | (go_at_call 75; (refine (HI.out _).mono ?_); rintro o w1 ⟨rfl, hb⟩; replace P := Go.Lib.hid (row_next hb P.out); replace hB := Go.Lib.hid (below_next hB.out hb); clear hb))
        go_ret
        exact ⟨by rw [hno]; rfl, hB.out⟩
    · obtain rfl : k = 3 := by omega
      have d0 := hall 0 (by omega); have d1 := hall 1 (by omega); have d2 := hall 2 (by omega)
      have gw := hf.water; have gs := hf.share
      clear hall hf
      by_cases h1 : b.sum ≤ 900
      · by_cases h2 : 0 ≤ b.water ∧ b.water ≤ 200
        · have HW := Go.Lib.hid fun w => in_yes b.water 0 200 h2.1 h2.2 w
          by_cases h3 : 1 ≤ b.share ∧ b.share ≤ 16
          · have HS := Go.Lib.hid fun w => in_yes b.share 1 16 h3.1 h3.2 w
            have hok : b.ok = true := b.ok_iff.2 ⟨d0.1, d1.1, d2.1, h1, h2.1, h2.2, h3.1, h3.2⟩
            clear h2 h3 d0 d1 d2
            go_wp2_with (first
              | go_skip
              | (go_at_call 77; (refine (lload_any b n _ HF.out P.out).mono ?_); rintro o w1 ⟨rfl, hb⟩; replace P := Go.Lib.hid (row_next hb P.out); replace hB := Go.Lib.hid (below_next hB.out hb); clear hb)
              | ((with_reducible refine wlAt 24 rfl ?_); refine wpList_ld1 23 _ rfl (by first | exact want_n rfl | exact want_g _ _ _ rfl rfl rfl) n 3 rfl 5 b.at _ rw_i16 P.out (by omega) ?_; rw [Br.at_3])
              | (go_at_call 75; (with_reducible refine (HW.out _).mono ?_); rintro o w1 ⟨rfl, hb⟩; replace P := Go.Lib.hid (row_next hb P.out); replace hB := Go.Lib.hid (below_next hB.out hb); clear hb)
              | ((with_reducible refine wlAt 32 rfl ?_); refine wpList_ld1 22 _ rfl (by first | exact want_n rfl | exact want_g _ _ _ rfl rfl rfl) n 4 rfl 5 b.at _ rw_i8 P.out (by omega) ?_; rw [Br.at_4])
              | (go_at_call 75; (with_reducible refine (HS.out _).mono ?_); rintro o w1 ⟨rfl, hb⟩; replace P := Go.Lib.hid (row_next hb P.out); replace hB := Go.Lib.hid (below_next hB.out hb); clear hb))
            go_ret
            exact ⟨by rw [hok]; rfl, hB.out⟩
          · have HS := Go.Lib.hid fun w => in_no b.share 1 16 (by omega) w
            have hok : b.ok = false := b.ok_not fun h => by omega
            clear h2 h3 d0 d1 d2
            go_wp2_with (first
              | go_skip
              | (go_at_call 77; (refine (lload_any b n _ HF.out P.out).mono ?_); rintro o w1 ⟨rfl, hb⟩; replace P := Go.Lib.hid (row_next hb P.out); replace hB := Go.Lib.hid (below_next hB.out hb); clear hb)
              | ((with_reducible refine wlAt 24 rfl ?_); refine wpList_ld1 23 _ rfl (by first | exact want_n rfl | exact want_g _ _ _ rfl rfl rfl) n 3 rfl 5 b.at _ rw_i16 P.out (by omega) ?_; rw [Br.at_3])
              | (go_at_call 75; (with_reducible refine (HW.out _).mono ?_); rintro o w1 ⟨rfl, hb⟩; replace P := Go.Lib.hid (row_next hb P.out); replace hB := Go.Lib.hid (below_next hB.out hb); clear hb)
              | ((with_reducible refine wlAt 32 rfl ?_); refine wpList_ld1 22 _ rfl (by first | exact want_n rfl | exact want_g _ _ _ rfl rfl rfl) n 4 rfl 5 b.at _ rw_i8 P.out (by omega) ?_; rw [Br.at_4])
              | (go_at_call 75; (with_reducible refine (HS.out _).mono ?_); rintro o w1 ⟨rfl, hb⟩; replace P := Go.Lib.hid (row_next hb P.out); replace hB := Go.Lib.hid (below_next hB.out hb); clear hb))
            go_ret
            exact ⟨by rw [hok]; rfl, hB.out⟩
        · have HW := Go.Lib.hid fun w => in_no b.water 0 200 (by omega) w
          have hok : b.ok = false := b.ok_not fun h => by omega
          clear h2 d0 d1 d2
          go_wp2_with (first
            | go_skip
            | (go_at_call 77; (refine (lload_any b n _ HF.out P.out).mono ?_); rintro o w1 ⟨rfl, hb⟩; replace P := Go.Lib.hid (row_next hb P.out); replace hB := Go.Lib.hid (below_next hB.out hb); clear hb)
            | ((with_reducible refine wlAt 24 rfl ?_); refine wpList_ld1 23 _ rfl (by first | exact want_n rfl | exact want_g _ _ _ rfl rfl rfl) n 3 rfl 5 b.at _ rw_i16 P.out (by omega) ?_; rw [Br.at_3])
            | (go_at_call 75; (with_reducible refine (HW.out _).mono ?_); rintro o w1 ⟨rfl, hb⟩; replace P := Go.Lib.hid (row_next hb P.out); replace hB := Go.Lib.hid (below_next hB.out hb); clear hb))
          go_ret
          exact ⟨by rw [hok]; rfl, hB.out⟩
      · have hok : b.ok = false := b.ok_not fun h => by omega
        have h1' : decide (b.sum ≤ 900) = false := by simpa using h1
        clear d0 d1 d2
        go_wp2_with (first
          | go_skip
          | (go_at_call 77; (refine (lload_any b n _ HF.out P.out).mono ?_); rintro o w1 ⟨rfl, hb⟩; replace P := Go.Lib.hid (row_next hb P.out); replace hB := Go.Lib.hid (below_next hB.out hb); clear hb))
        go_ret
        exact ⟨by rw [hok]; rfl, hB.out⟩
set_option maxHeartbeats 1000000 in
theorem vbrush_any (b : Br) (hf : b.fit) (w : World) : Calls Tryd.prog 190 #[.agg b.row] w fun e w' => e = .returned (.bool b.ok) ∧ Below w.heap.size w w' := by
  have HF := Go.Lib.hid hf
  have P : Hid ((w.alloc (.cells (vrow 5 b.at) 49)).heap[w.heap.size]? = some (.cells (vrow 5 b.at) 49)) := heap_at _ _ _ (by simp)
  have hB : Hid (Below w.heap.size w (w.alloc (.cells (vrow 5 b.at) 49))) := ((Below.refl w.heap.size w).alloc (by simp <;> omega) _)
  go_enter Tryd.func190, Tryd.ntmps190
  go_wp2_with (first
    | go_skip
    | ((with_reducible refine wlAt 6 rfl ?_); refine wpList_loadmid rfl 26 (.tmp 5) rfl _ 0 rfl 5 3 b.at 49 _ Tryd.underlying26 rfl size_d3 P.out (by omega) ?_; rw [Br.at_lit]))
  go_loopw [7] (fun i wr => ∃ k : Nat, k ≤ 3 ∧ i = .int .i64 k ∧ (∀ j, j < k → 0 ≤ b.dye j) ∧ wr.heap[w.heap.size]? = some (.cells (vrow 5 b.at) 49) ∧ Below w.heap.size w wr) (fun i _ => 3 - (intOf i).toNat)
  case atStart => exact ⟨0, by omega, rfl, fun j h => by omega, P.out, hB.out⟩
  case round =>
    clear P hB
    obtain ⟨k, hk, rfl, hall, P, hB⟩ := hrel
    replace P := Go.Lib.hid P; replace hB := Go.Lib.hid hB
    by_cases hlt : k < 3
    · have hkI : (k : Int) < 3 := by omega
      have hix := idx_b b.dye k hlt
      by_cases hin : b.dye k < 0
      · have hd : decide (b.dye k < 0) = true := by simpa using hin
        have hno : b.ok = false := b.ok_not fun ⟨h0, h1, h2, h3, _⟩ => by
          have : k = 0 ∨ k = 1 ∨ k = 2 := by omega
          rcases this with rfl | rfl | rfl <;> omega
        clear hall hf
        go_wp2_with (first | go_skip)
        go_ret
        exact ⟨by rw [hno]; rfl, hB.out⟩
      · have hd : decide (b.dye k < 0) = false := by simpa using hin
        have HA : ∀ j, j < k + 1 → 0 ≤ b.dye j := fun j h => by
          by_cases hj : j < k
          · exact hall j hj
          · obtain rfl : j = k := by omega
            omega
        clear hall hf
        go_wp2_with (first | go_skip)
        go_roundw
        case rel => exact ⟨k + 1, by omega, by go_num, HA, P.out, hB.out⟩
        case measure => simp [intOf]; omega
    · obtain rfl : k = 3 := by omega
      have d0 := hall 0 (by omega); have d1 := hall 1 (by omega); have d2 := hall 2 (by omega)
      clear hall hf
      have q1 : ∀ x : Int, ¬ x ≤ 900 → decide (x ≤ 900) = false := fun x h => by simpa using h
      by_cases h1 : b.sum ≤ 900
      · by_cases h2 : 0 ≤ b.water
        · by_cases h3 : b.water ≤ 200
          · by_cases h4 : 1 ≤ b.share
            · by_cases h5 : b.share ≤ 16
              · have hok : b.ok = true := b.ok_iff.2 ⟨d0, d1, d2, h1, h2, h3, h4, h5⟩
                clear d0 d1 d2
                go_wp2_with (first | go_skip | ((with_reducible refine wlAt 13 rfl ?_); refine wpList_loadall rfl 49 (.tmp 1) rfl _ rfl 5 b.at 49 _ Tryd.underlying49 rfl size_br P.out ?_) | (go_at_call 132; (refine (bload_any b HF.out _).mono ?_); rintro o w1 ⟨rfl, hb⟩; replace P := Go.Lib.hid (row_next hb P.out); replace hB := Go.Lib.hid (below_next hB.out hb); clear hb) | ((with_reducible refine wlAt 18 rfl ?_); (refine wpList_ld1 23 _ rfl (by first | exact want_n rfl | exact want_g _ _ _ rfl rfl rfl) w.heap.size 3 rfl 5 b.at _ rw_i16 P.out (by omega) ?_; rw [Br.at_3])) | ((with_reducible refine wlAt 23 rfl ?_); (refine wpList_ld1 23 _ rfl (by first | exact want_n rfl | exact want_g _ _ _ rfl rfl rfl) w.heap.size 3 rfl 5 b.at _ rw_i16 P.out (by omega) ?_; rw [Br.at_3])) | ((with_reducible refine wlAt 28 rfl ?_); (refine wpList_ld1 22 _ rfl (by first | exact want_n rfl | exact want_g _ _ _ rfl rfl rfl) w.heap.size 4 rfl 5 b.at _ rw_i8 P.out (by omega) ?_; rw [Br.at_4])) | ((with_reducible refine wlAt 33 rfl ?_); (refine wpList_ld1 22 _ rfl (by first | exact want_n rfl | exact want_g _ _ _ rfl rfl rfl) w.heap.size 4 rfl 5 b.at _ rw_i8 P.out (by omega) ?_; rw [Br.at_4])))
                go_ret
                exact ⟨by rw [hok]; rfl, hB.out⟩
              · have hok : b.ok = false := b.ok_not fun h => by omega
                have hd : decide (b.share ≤ 16) = false := by simpa using h5
                clear d0 d1 d2
                go_wp2_with (first | go_skip | ((with_reducible refine wlAt 13 rfl ?_); refine wpList_loadall rfl 49 (.tmp 1) rfl _ rfl 5 b.at 49 _ Tryd.underlying49 rfl size_br P.out ?_) | (go_at_call 132; (refine (bload_any b HF.out _).mono ?_); rintro o w1 ⟨rfl, hb⟩; replace P := Go.Lib.hid (row_next hb P.out); replace hB := Go.Lib.hid (below_next hB.out hb); clear hb) | ((with_reducible refine wlAt 18 rfl ?_); (refine wpList_ld1 23 _ rfl (by first | exact want_n rfl | exact want_g _ _ _ rfl rfl rfl) w.heap.size 3 rfl 5 b.at _ rw_i16 P.out (by omega) ?_; rw [Br.at_3])) | ((with_reducible refine wlAt 23 rfl ?_); (refine wpList_ld1 23 _ rfl (by first | exact want_n rfl | exact want_g _ _ _ rfl rfl rfl) w.heap.size 3 rfl 5 b.at _ rw_i16 P.out (by omega) ?_; rw [Br.at_3])) | ((with_reducible refine wlAt 28 rfl ?_); (refine wpList_ld1 22 _ rfl (by first | exact want_n rfl | exact want_g _ _ _ rfl rfl rfl) w.heap.size 4 rfl 5 b.at _ rw_i8 P.out (by omega) ?_; rw [Br.at_4])) | ((with_reducible refine wlAt 33 rfl ?_); (refine wpList_ld1 22 _ rfl (by first | exact want_n rfl | exact want_g _ _ _ rfl rfl rfl) w.heap.size 4 rfl 5 b.at _ rw_i8 P.out (by omega) ?_; rw [Br.at_4])))
                go_ret
                exact ⟨by rw [hok]; rfl, hB.out⟩
            · have hok : b.ok = false := b.ok_not fun h => by omega
              have hd : decide (1 ≤ b.share) = false := by simpa using h4
              clear d0 d1 d2
              go_wp2_with (first | go_skip | ((with_reducible refine wlAt 13 rfl ?_); refine wpList_loadall rfl 49 (.tmp 1) rfl _ rfl 5 b.at 49 _ Tryd.underlying49 rfl size_br P.out ?_) | (go_at_call 132; (refine (bload_any b HF.out _).mono ?_); rintro o w1 ⟨rfl, hb⟩; replace P := Go.Lib.hid (row_next hb P.out); replace hB := Go.Lib.hid (below_next hB.out hb); clear hb) | ((with_reducible refine wlAt 18 rfl ?_); (refine wpList_ld1 23 _ rfl (by first | exact want_n rfl | exact want_g _ _ _ rfl rfl rfl) w.heap.size 3 rfl 5 b.at _ rw_i16 P.out (by omega) ?_; rw [Br.at_3])) | ((with_reducible refine wlAt 23 rfl ?_); (refine wpList_ld1 23 _ rfl (by first | exact want_n rfl | exact want_g _ _ _ rfl rfl rfl) w.heap.size 3 rfl 5 b.at _ rw_i16 P.out (by omega) ?_; rw [Br.at_3])) | ((with_reducible refine wlAt 28 rfl ?_); (refine wpList_ld1 22 _ rfl (by first | exact want_n rfl | exact want_g _ _ _ rfl rfl rfl) w.heap.size 4 rfl 5 b.at _ rw_i8 P.out (by omega) ?_; rw [Br.at_4])) | ((with_reducible refine wlAt 33 rfl ?_); (refine wpList_ld1 22 _ rfl (by first | exact want_n rfl | exact want_g _ _ _ rfl rfl rfl) w.heap.size 4 rfl 5 b.at _ rw_i8 P.out (by omega) ?_; rw [Br.at_4])))
              go_ret
              exact ⟨by rw [hok]; rfl, hB.out⟩
          · have hok : b.ok = false := b.ok_not fun h => by omega
            have hd : decide (b.water ≤ 200) = false := by simpa using h3
            clear d0 d1 d2
            go_wp2_with (first | go_skip | ((with_reducible refine wlAt 13 rfl ?_); refine wpList_loadall rfl 49 (.tmp 1) rfl _ rfl 5 b.at 49 _ Tryd.underlying49 rfl size_br P.out ?_) | (go_at_call 132; (refine (bload_any b HF.out _).mono ?_); rintro o w1 ⟨rfl, hb⟩; replace P := Go.Lib.hid (row_next hb P.out); replace hB := Go.Lib.hid (below_next hB.out hb); clear hb) | ((with_reducible refine wlAt 18 rfl ?_); (refine wpList_ld1 23 _ rfl (by first | exact want_n rfl | exact want_g _ _ _ rfl rfl rfl) w.heap.size 3 rfl 5 b.at _ rw_i16 P.out (by omega) ?_; rw [Br.at_3])) | ((with_reducible refine wlAt 23 rfl ?_); (refine wpList_ld1 23 _ rfl (by first | exact want_n rfl | exact want_g _ _ _ rfl rfl rfl) w.heap.size 3 rfl 5 b.at _ rw_i16 P.out (by omega) ?_; rw [Br.at_3])) | ((with_reducible refine wlAt 28 rfl ?_); (refine wpList_ld1 22 _ rfl (by first | exact want_n rfl | exact want_g _ _ _ rfl rfl rfl) w.heap.size 4 rfl 5 b.at _ rw_i8 P.out (by omega) ?_; rw [Br.at_4])) | ((with_reducible refine wlAt 33 rfl ?_); (refine wpList_ld1 22 _ rfl (by first | exact want_n rfl | exact want_g _ _ _ rfl rfl rfl) w.heap.size 4 rfl 5 b.at _ rw_i8 P.out (by omega) ?_; rw [Br.at_4])))
            go_ret
            exact ⟨by rw [hok]; rfl, hB.out⟩
        · have hok : b.ok = false := b.ok_not fun h => by omega
          have hd : decide (0 ≤ b.water) = false := by simpa using h2
          clear d0 d1 d2
          go_wp2_with (first | go_skip | ((with_reducible refine wlAt 13 rfl ?_); refine wpList_loadall rfl 49 (.tmp 1) rfl _ rfl 5 b.at 49 _ Tryd.underlying49 rfl size_br P.out ?_) | (go_at_call 132; (refine (bload_any b HF.out _).mono ?_); rintro o w1 ⟨rfl, hb⟩; replace P := Go.Lib.hid (row_next hb P.out); replace hB := Go.Lib.hid (below_next hB.out hb); clear hb) | ((with_reducible refine wlAt 18 rfl ?_); (refine wpList_ld1 23 _ rfl (by first | exact want_n rfl | exact want_g _ _ _ rfl rfl rfl) w.heap.size 3 rfl 5 b.at _ rw_i16 P.out (by omega) ?_; rw [Br.at_3])) | ((with_reducible refine wlAt 23 rfl ?_); (refine wpList_ld1 23 _ rfl (by first | exact want_n rfl | exact want_g _ _ _ rfl rfl rfl) w.heap.size 3 rfl 5 b.at _ rw_i16 P.out (by omega) ?_; rw [Br.at_3])) | ((with_reducible refine wlAt 28 rfl ?_); (refine wpList_ld1 22 _ rfl (by first | exact want_n rfl | exact want_g _ _ _ rfl rfl rfl) w.heap.size 4 rfl 5 b.at _ rw_i8 P.out (by omega) ?_; rw [Br.at_4])) | ((with_reducible refine wlAt 33 rfl ?_); (refine wpList_ld1 22 _ rfl (by first | exact want_n rfl | exact want_g _ _ _ rfl rfl rfl) w.heap.size 4 rfl 5 b.at _ rw_i8 P.out (by omega) ?_; rw [Br.at_4])))
          go_ret
          exact ⟨by rw [hok]; rfl, hB.out⟩
      · have hok : b.ok = false := b.ok_not fun h => by omega
        have h1' : decide (b.sum ≤ 900) = false := by simpa using h1
        clear d0 d1 d2
        go_wp2_with (first | go_skip | ((with_reducible refine wlAt 13 rfl ?_); refine wpList_loadall rfl 49 (.tmp 1) rfl _ rfl 5 b.at 49 _ Tryd.underlying49 rfl size_br P.out ?_) | (go_at_call 132; (refine (bload_any b HF.out _).mono ?_); rintro o w1 ⟨rfl, hb⟩; replace P := Go.Lib.hid (row_next hb P.out); replace hB := Go.Lib.hid (below_next hB.out hb); clear hb) | ((with_reducible refine wlAt 18 rfl ?_); (refine wpList_ld1 23 _ rfl (by first | exact want_n rfl | exact want_g _ _ _ rfl rfl rfl) w.heap.size 3 rfl 5 b.at _ rw_i16 P.out (by omega) ?_; rw [Br.at_3])) | ((with_reducible refine wlAt 23 rfl ?_); (refine wpList_ld1 23 _ rfl (by first | exact want_n rfl | exact want_g _ _ _ rfl rfl rfl) w.heap.size 3 rfl 5 b.at _ rw_i16 P.out (by omega) ?_; rw [Br.at_3])) | ((with_reducible refine wlAt 28 rfl ?_); (refine wpList_ld1 22 _ rfl (by first | exact want_n rfl | exact want_g _ _ _ rfl rfl rfl) w.heap.size 4 rfl 5 b.at _ rw_i8 P.out (by omega) ?_; rw [Br.at_4])) | ((with_reducible refine wlAt 33 rfl ?_); (refine wpList_ld1 22 _ rfl (by first | exact want_n rfl | exact want_g _ _ _ rfl rfl rfl) w.heap.size 4 rfl 5 b.at _ rw_i8 P.out (by omega) ?_; rw [Br.at_4])))
        go_ret
        exact ⟨by rw [hok]; rfl, hB.out⟩
end Go.Proofs.YtfgcpiipndhllaaDoor
