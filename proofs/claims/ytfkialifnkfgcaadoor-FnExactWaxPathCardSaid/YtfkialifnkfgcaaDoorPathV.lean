import Derived.Deep.RegionHeld3
import Derived.Test.YtfkialifnkfgcaaDoorPathU
import Derived.Test.YtfkialifnkfgcaaDoorG1
namespace Go.Proofs.YtfkialifnkfgcaaDoor
open Go.RowKit
set_option maxRecDepth 100000
set_option linter.unusedVariables false
set_option linter.unusedSimpArgs false
def lenB (n : Nat) : Bool := decide (1 ≤ n) && decide (n ≤ 80)
/-- what ValidPath answers -/
def vpathB (s : Sh) (px py : Nat → Int) (n : Nat) : Bool := okI s && (pathU s px py n && lenB n)
set_option maxHeartbeats 2000000 in
theorem implVP_any (s : Sh) (D n : Nat) (px py : Nat → Int) (w : World) (hf : s.fit) (hn : n ≤ 1048576) (h2 : w.heap[D]? = some (.cells (vrow (n * 2) (spf px py)) 73)) : Calls Tryd.prog 128 #[.agg s.row, .slice (some ⟨D, 0, none⟩) n n] w fun e w' => e = .returned (.bool (vpathB s px py n)) ∧ Below w.heap.size w w' := by
  have hB : Hid (Below w.heap.size w (w.alloc (.cells s.row 32))) := Go.Lib.hid ((Below.refl w.heap.size w).alloc (by simp <;> omega) _)
  have A : Hid ((w.alloc (.cells s.row 32)).heap[w.heap.size]? = some (.cells s.row 32)) := Go.Lib.hid (heap_at _ _ _ (by simp))
  have R : Hid ((w.alloc (.cells s.row 32)).heap[D]? = some (.cells (vrow (n * 2) (spf px py)) 73)) := Go.Lib.hid (heap_past _ _ _ _ (row_lt h2) h2)
  have HV := Go.Lib.hid fun w => implV_any s w
  have hDlt := row_lt h2
  have HD := Go.Lib.hid (show D ≠ w.heap.size by omega)
  clear h2
  cases hk : okI s
  · have HE : Hid (vpathB s px py n = false) := Go.Lib.hid (by unfold vpathB; rw [hk]; rfl)
    rw [hk] at HV
    clear hk
    go_enter Tryd.func128, Tryd.ntmps128
    go_wp2_with (first | go_skip | ((with_reducible refine wlAt 7 rfl ?_); refine wpList_loadall rfl 32 (.tmp 2) rfl _ rfl 266 s.at 32 _ Tryd.underlying32 rfl size_sheet A.out ?_) | (go_at_call 114; (refine (HV.out _).mono ?_); rintro e w1 ⟨rfl, hb⟩; replace A := Go.Lib.hid (row_next hb A.out); replace R := Go.Lib.hid (row_next hb R.out); replace hB := Go.Lib.hid (below_next hB.out hb); clear hb))
    go_ret
    exact ⟨by rw [HE.out]; rfl, hB.out⟩
  · by_cases hl1 : 1 ≤ n
    · have hl1I : ¬((n : Int) < 1) := by omega
      have hl1d : decide ((n : Int) < 1) = false := by simp; omega
      by_cases hl2 : n ≤ 80
      · have hl2d : decide (80 < (n : Int)) = false := by simp; omega
        have HE : Hid (vpathB s px py n = pathU s px py n) := Go.Lib.hid (by unfold vpathB lenB; rw [hk, decide_eq_true hl1, decide_eq_true hl2]; simp)
        have hok := Go.Lib.hid hk
        rw [hk] at HV
        clear hk
        go_enter Tryd.func128, Tryd.ntmps128
        go_wp2_with (first | go_skip | ((with_reducible refine wlAt 7 rfl ?_); refine wpList_loadall rfl 32 (.tmp 2) rfl _ rfl 266 s.at 32 _ Tryd.underlying32 rfl size_sheet A.out ?_) | (go_at_call 114; (refine (HV.out _).mono ?_); rintro e w1 ⟨rfl, hb⟩; replace A := Go.Lib.hid (row_next hb A.out); replace R := Go.Lib.hid (row_next hb R.out); replace hB := Go.Lib.hid (below_next hB.out hb); clear hb))
        --LOOP
        have zs := zero_spot
        go_loopw [22] (fun iv wr => ∃ k : Nat, k ≤ n ∧ iv = .int .i64 k ∧ pathU s px py k = true ∧ wr.heap[w.heap.size]? = some (.cells s.row 32) ∧ wr.heap[D]? = some (.cells (vrow (n * 2) (spf px py)) 73) ∧ Below w.heap.size w wr) (fun iv _ => n - (intOf iv).toNat)
        case atStart => exact ⟨0, by omega, rfl, rfl, A.out, R.out, hB.out⟩
        case round =>
          clear A R hB
          obtain ⟨k, hk, rfl, HU, A, R, hB⟩ := hrel
          replace HU := Go.Lib.hid HU
          replace A := Go.Lib.hid A; replace R := Go.Lib.hid R; replace hB := Go.Lib.hid hB
          by_cases hlt : k < n
          · have hkI : (k : Int) < n := by omega
            go_wp2_with (first
              | go_skip
              | ((with_reducible refine wlAt 26 rfl ?_); refine wpList_loadmid rfl 73 (.tmp 25) rfl D (k * 2) rfl (n * 2) 2 (spf px py) 73 _ Tryd.underlying73 rfl size_spot R.out (by omega) ?_; rw [spf_two])
              | ((with_reducible refine wlOp (.store 73 (.tmp 6) (.tmp 26)) rfl ?_); refine wpList_storeall rfl 73 (.tmp 6) (.tmp 26) rfl _ rfl 2 (spAt 0 0) (spAt (px k) (py k)) rfl 73 size_spot (heap_at _ _ _ rfl) (fun i _ => spAt_one _ _ i) ?_; rw [setRow_at _ _ _ _ _ rfl]; have Z := Go.Lib.hid (heap_at wr (.cells (vrow 2 (spAt (px k) (py k))) 73) _ rfl); have nA := row_lt A.out; have nR := row_lt R.out; replace A := Go.Lib.hid (heap_past wr (.cells (vrow 2 (spAt (px k) (py k))) 73) _ _ nA A.out); replace R := Go.Lib.hid (heap_past wr (.cells (vrow 2 (spAt (px k) (py k))) 73) _ _ nR R.out); replace hB := Go.Lib.hid (hB.out.alloc hB.out.size (.cells (vrow 2 (spAt (px k) (py k))) 73))))
            --ROUND
            have HI := Go.Lib.hid fun w' => has_any s (px k) (py k) w'
            (try simp only [Act.put, List.getElem_toArray, List.getElem_cons_succ, List.getElem_cons_zero, List.setIfInBounds_toArray, List.set_cons_succ, List.set_cons_zero])
            generalize wr.alloc _ = W5 at A R hB Z ⊢
            cases hh : hasB s (px k) (py k)
            · have HUn := pathU_no s px py k n hlt (by rw [hh, Bool.false_and])
              rw [hh] at HI
              clear hh
              refine Code.wp_mono (Q := fun e a' W' => e = .normal ∧ a' = { tmps := #[.agg s.row, .slice (some ⟨D, 0, none⟩) n n, .pointer (some ⟨w.heap.size, 0, none⟩), undef, u4, .int .i64 k, .pointer (some ⟨wr.heap.size, 0, none⟩), .agg (vrow 266 s.at), .bool true, .bool false, .bool false, .slice (some ⟨D, 0, none⟩) n n, .int .i64 n, .bool false, .bool false, .bool false, .slice (some ⟨D, 0, none⟩) n n, .int .i64 n, .bool false, .bool false, .slice (some ⟨D, 0, none⟩) n n, .int .i64 n, .int .i64 k, .bool true, .int .i64 k, .pointer (some ⟨D, k * 2, none⟩), .agg (vrow 2 (spAt (px k) (py k))), .agg (vrow 266 s.at), .agg (vrow 2 (spAt (px k) (py k))), .bool false, .bool true, .bool true, undef, undef, undef, undef, undef, undef, undef, undef, undef, undef, undef, undef, .bool true, u45], defers := [] } ∧ W'.heap[w.heap.size]? = some (.cells s.row 32) ∧ W'.heap[D]? = some (.cells (vrow (n * 2) (spf px py)) 73) ∧ W'.heap[wr.heap.size]? = some (.cells (vrow 2 (spAt (px k) (py k))) 73) ∧ Below w.heap.size w W') ?_ ?_
              rotate_left
              · refine wp_region_held_drew (S := fun W' => W'.heap[w.heap.size]? = some (.cells s.row 32) ∧ W'.heap[D]? = some (.cells (vrow (n * 2) (spf px py)) 73) ∧ W'.heap[wr.heap.size]? = some (.cells (vrow 2 (spAt (px k) (py k))) 73) ∧ Below w.heap.size w W') (by kernel_rfl) ⟨drwP A.out, drwP R.out, drwP Z.out, hB.out.drew⟩ (fun hH => ?_)
                generalize World.drew _ = W at hH ⊢
                refine wpAnyH_take (i := 0) (v := (.agg (vrow 266 s.at))) rfl (by kernel_rfl) (by kernel_rfl) (by kernel_rfl) (fun _ _ _ h => by cases h.1) (yields_row (by kernel_rfl) 32 _ rfl (w.heap.size) (by kernel_rfl) 266 s.at 32 _ Tryd.underlying32 rfl size_sheet (fun _ h => h.1)) hH ?_
                (try simp only [Act.put, List.getElem_toArray, List.getElem_cons_succ, List.getElem_cons_zero, List.setIfInBounds_toArray, List.set_cons_succ, List.set_cons_zero])
                refine wpAnyH_take (i := 1) (v := (.agg (vrow 2 (spAt (px k) (py k))))) rfl (by kernel_rfl) (by kernel_rfl) (by kernel_rfl) (fun _ _ _ h => by cases h.1) (yields_row (by kernel_rfl) 73 _ rfl (wr.heap.size) (by kernel_rfl) 2 (spAt (px k) (py k)) 73 _ Tryd.underlying73 rfl size_spot (fun _ h => h.2.2.1)) hH ?_
                (try simp only [Act.put, List.getElem_toArray, List.getElem_cons_succ, List.getElem_cons_zero, List.setIfInBounds_toArray, List.set_cons_succ, List.set_cons_zero])
                refine wpAnyH_ready (rs := [2]) (by kernel_rfl) (by simp) (AllReadyH.cons rfl (fun K hK => ?_) AllReadyH.nil)
                rw [if_pos (by kernel_rfl)]
                go_simp
                go_at_call 153
                refine (HI.out _).mono ?_
                rintro o X ⟨rfl, hb⟩
                replace hH : X.heap[w.heap.size]? = some (.cells s.row 32) ∧ X.heap[D]? = some (.cells (vrow (n * 2) (spf px py)) 73) ∧ X.heap[wr.heap.size]? = some (.cells (vrow 2 (spAt (px k) (py k))) 73) ∧ Below w.heap.size w X := ⟨row_next hb hH.1, row_next hb hH.2.1, row_next hb hH.2.2.1, hH.2.2.2.trans (hb.mono hH.2.2.2.size)⟩
                clear hb
                refine hK.out _ _ hH (fun hH => ?_)
                clear hK K
                (try simp only [Act.put, List.getElem_toArray, List.getElem_cons_succ, List.getElem_cons_zero, List.setIfInBounds_toArray, List.set_cons_succ, List.set_cons_zero])
                refine wpAnyH_take (i := 3) (v := (.bool true)) rfl (by kernel_rfl) (by kernel_rfl) (by kernel_rfl) (fun _ _ _ h => by cases h.1) (.inl ⟨by kernel_rfl, fun w hw => by go_simp⟩) hH ?_
                (try simp only [Act.put, List.getElem_toArray, List.getElem_cons_succ, List.getElem_cons_zero, List.setIfInBounds_toArray, List.set_cons_succ, List.set_cons_zero])
                refine wpAnyH_take (i := 4) (v := (.bool true)) rfl (by kernel_rfl) (by kernel_rfl) (by kernel_rfl) (fun _ _ _ h => by cases h.1) (.inl ⟨by kernel_rfl, fun w hw => by go_simp⟩) hH ?_
                (try simp only [Act.put, List.getElem_toArray, List.getElem_cons_succ, List.getElem_cons_zero, List.setIfInBounds_toArray, List.set_cons_succ, List.set_cons_zero])
                refine wpAnyH_take (i := 5) (v := undef) rfl (by kernel_rfl) (by kernel_rfl) (by kernel_rfl) (fun _ _ _ h => by cases h.1) (.inr ⟨by kernel_rfl, rfl⟩) hH ?_
                (try simp only [Act.put, List.getElem_toArray, List.getElem_cons_succ, List.getElem_cons_zero, List.setIfInBounds_toArray, List.set_cons_succ, List.set_cons_zero])
                refine wpAnyH_take (i := 6) (v := undef) rfl (by kernel_rfl) (by kernel_rfl) (by kernel_rfl) (fun _ _ _ h => by cases h.1) (.inr ⟨by kernel_rfl, rfl⟩) hH ?_
                (try simp only [Act.put, List.getElem_toArray, List.getElem_cons_succ, List.getElem_cons_zero, List.setIfInBounds_toArray, List.set_cons_succ, List.set_cons_zero])
                refine wpAnyH_take (i := 7) (v := undef) rfl (by kernel_rfl) (by kernel_rfl) (by kernel_rfl) (fun _ _ _ h => by cases h.1) (.inr ⟨by kernel_rfl, rfl⟩) hH ?_
                (try simp only [Act.put, List.getElem_toArray, List.getElem_cons_succ, List.getElem_cons_zero, List.setIfInBounds_toArray, List.set_cons_succ, List.set_cons_zero])
                refine wpAnyH_take (i := 8) (v := undef) rfl (by kernel_rfl) (by kernel_rfl) (by kernel_rfl) (fun _ _ _ h => by cases h.1) (.inr ⟨by kernel_rfl, rfl⟩) hH ?_
                (try simp only [Act.put, List.getElem_toArray, List.getElem_cons_succ, List.getElem_cons_zero, List.setIfInBounds_toArray, List.set_cons_succ, List.set_cons_zero])
                refine wpAnyH_take (i := 9) (v := undef) rfl (by kernel_rfl) (by kernel_rfl) (by kernel_rfl) (fun _ _ _ h => by cases h.1) (.inr ⟨by kernel_rfl, rfl⟩) hH ?_
                (try simp only [Act.put, List.getElem_toArray, List.getElem_cons_succ, List.getElem_cons_zero, List.setIfInBounds_toArray, List.set_cons_succ, List.set_cons_zero])
                refine wpAnyH_take (i := 10) (v := undef) rfl (by kernel_rfl) (by kernel_rfl) (by kernel_rfl) (fun _ _ _ h => by cases h.1) (.inr ⟨by kernel_rfl, rfl⟩) hH ?_
                (try simp only [Act.put, List.getElem_toArray, List.getElem_cons_succ, List.getElem_cons_zero, List.setIfInBounds_toArray, List.set_cons_succ, List.set_cons_zero])
                refine wpAnyH_take (i := 11) (v := undef) rfl (by kernel_rfl) (by kernel_rfl) (by kernel_rfl) (fun _ _ _ h => by cases h.1) (.inr ⟨by kernel_rfl, rfl⟩) hH ?_
                (try simp only [Act.put, List.getElem_toArray, List.getElem_cons_succ, List.getElem_cons_zero, List.setIfInBounds_toArray, List.set_cons_succ, List.set_cons_zero])
                refine wpAnyH_take (i := 12) (v := undef) rfl (by kernel_rfl) (by kernel_rfl) (by kernel_rfl) (fun _ _ _ h => by cases h.1) (.inr ⟨by kernel_rfl, rfl⟩) hH ?_
                (try simp only [Act.put, List.getElem_toArray, List.getElem_cons_succ, List.getElem_cons_zero, List.setIfInBounds_toArray, List.set_cons_succ, List.set_cons_zero])
                refine wpAnyH_take (i := 13) (v := undef) rfl (by kernel_rfl) (by kernel_rfl) (by kernel_rfl) (fun _ _ _ h => by cases h.1) (.inr ⟨by kernel_rfl, rfl⟩) hH ?_
                (try simp only [Act.put, List.getElem_toArray, List.getElem_cons_succ, List.getElem_cons_zero, List.setIfInBounds_toArray, List.set_cons_succ, List.set_cons_zero])
                refine wpAnyH_take (i := 14) (v := undef) rfl (by kernel_rfl) (by kernel_rfl) (by kernel_rfl) (fun _ _ _ h => by cases h.1) (.inr ⟨by kernel_rfl, rfl⟩) hH ?_
                (try simp only [Act.put, List.getElem_toArray, List.getElem_cons_succ, List.getElem_cons_zero, List.setIfInBounds_toArray, List.set_cons_succ, List.set_cons_zero])
                refine wpAnyH_take (i := 15) (v := undef) rfl (by kernel_rfl) (by kernel_rfl) (by kernel_rfl) (fun _ _ _ h => by cases h.1) (.inr ⟨by kernel_rfl, rfl⟩) hH ?_
                (try simp only [Act.put, List.getElem_toArray, List.getElem_cons_succ, List.getElem_cons_zero, List.setIfInBounds_toArray, List.set_cons_succ, List.set_cons_zero])
                refine wpAnyH_take (i := 16) (v := undef) rfl (by kernel_rfl) (by kernel_rfl) (by kernel_rfl) (fun _ _ _ h => by cases h.1) (.inr ⟨by kernel_rfl, rfl⟩) hH ?_
                (try simp only [Act.put, List.getElem_toArray, List.getElem_cons_succ, List.getElem_cons_zero, List.setIfInBounds_toArray, List.set_cons_succ, List.set_cons_zero])
                refine wpAnyH_take (i := 17) (v := (.bool true)) rfl (by kernel_rfl) (by kernel_rfl) (by kernel_rfl) (fun _ _ _ h => by cases h.1) (.inl ⟨by kernel_rfl, fun w hw => by go_simp⟩) hH ?_
                (try simp only [Act.put, List.getElem_toArray, List.getElem_cons_succ, List.getElem_cons_zero, List.setIfInBounds_toArray, List.set_cons_succ, List.set_cons_zero])
                refine wpAnyH_done (by kernel_rfl) ?_ _
                exact ⟨rfl, rfl, hH⟩
              rintro e1 a1 W1 ⟨rfl, rfl, A, R, Z, hB⟩
              replace A := Go.Lib.hid A; replace R := Go.Lib.hid R; replace hB := Go.Lib.hid hB
              have HP := Go.Lib.hid HUn
              clear HUn
              go_wp2
              go_ret
              exact ⟨by rw [HE.out, HP.out]; rfl, hB.out⟩
            · have hpr := ok_hasP s hok.out _ _ hh
              rw [hh] at HI
              rcases k with _ | j
              · have HUn : pathU s px py 1 = true := by
                  show (true && (hasB s (px 0) (py 0) && _)) = true
                  rw [hh]; rfl
                clear hh hpr
                refine Code.wp_mono (Q := fun e a' W' => e = .normal ∧ a' = { tmps := #[.agg s.row, .slice (some ⟨D, 0, none⟩) n n, .pointer (some ⟨w.heap.size, 0, none⟩), undef, u4, .int .i64 (0 : Nat), .pointer (some ⟨wr.heap.size, 0, none⟩), .agg (vrow 266 s.at), .bool true, .bool false, .bool false, .slice (some ⟨D, 0, none⟩) n n, .int .i64 n, .bool false, .bool false, .bool false, .slice (some ⟨D, 0, none⟩) n n, .int .i64 n, .bool false, .bool false, .slice (some ⟨D, 0, none⟩) n n, .int .i64 n, .int .i64 (0 : Nat), .bool true, .int .i64 (0 : Nat), .pointer (some ⟨D, 0 * 2, none⟩), .agg (vrow 2 (spAt (px 0) (py 0))), .agg (vrow 266 s.at), .agg (vrow 2 (spAt (px 0) (py 0))), .bool true, .bool false, .bool false, .int .i64 (0 : Nat), .bool false, .bool false, undef, undef, undef, undef, undef, undef, undef, undef, .bool false, .bool false, u45], defers := [] } ∧ W'.heap[w.heap.size]? = some (.cells s.row 32) ∧ W'.heap[D]? = some (.cells (vrow (n * 2) (spf px py)) 73) ∧ W'.heap[wr.heap.size]? = some (.cells (vrow 2 (spAt (px 0) (py 0))) 73) ∧ Below w.heap.size w W') ?_ ?_
                rotate_left
                · refine wp_region_held_drew (S := fun W' => W'.heap[w.heap.size]? = some (.cells s.row 32) ∧ W'.heap[D]? = some (.cells (vrow (n * 2) (spf px py)) 73) ∧ W'.heap[wr.heap.size]? = some (.cells (vrow 2 (spAt (px 0) (py 0))) 73) ∧ Below w.heap.size w W') (by kernel_rfl) ⟨drwP A.out, drwP R.out, drwP Z.out, hB.out.drew⟩ (fun hH => ?_)
                  generalize World.drew _ = W at hH ⊢
                  refine wpAnyH_take (i := 0) (v := (.agg (vrow 266 s.at))) rfl (by kernel_rfl) (by kernel_rfl) (by kernel_rfl) (fun _ _ _ h => by cases h.1) (yields_row (by kernel_rfl) 32 _ rfl (w.heap.size) (by kernel_rfl) 266 s.at 32 _ Tryd.underlying32 rfl size_sheet (fun _ h => h.1)) hH ?_
                  (try simp only [Act.put, List.getElem_toArray, List.getElem_cons_succ, List.getElem_cons_zero, List.setIfInBounds_toArray, List.set_cons_succ, List.set_cons_zero])
                  refine wpAnyH_take (i := 1) (v := (.agg (vrow 2 (spAt (px 0) (py 0))))) rfl (by kernel_rfl) (by kernel_rfl) (by kernel_rfl) (fun _ _ _ h => by cases h.1) (yields_row (by kernel_rfl) 73 _ rfl (wr.heap.size) (by kernel_rfl) 2 (spAt (px 0) (py 0)) 73 _ Tryd.underlying73 rfl size_spot (fun _ h => h.2.2.1)) hH ?_
                  (try simp only [Act.put, List.getElem_toArray, List.getElem_cons_succ, List.getElem_cons_zero, List.setIfInBounds_toArray, List.set_cons_succ, List.set_cons_zero])
                  refine wpAnyH_ready (rs := [2]) (by kernel_rfl) (by simp) (AllReadyH.cons rfl (fun K hK => ?_) AllReadyH.nil)
                  rw [if_pos (by kernel_rfl)]
                  go_simp
                  go_at_call 153
                  refine (HI.out _).mono ?_
                  rintro o X ⟨rfl, hb⟩
                  replace hH : X.heap[w.heap.size]? = some (.cells s.row 32) ∧ X.heap[D]? = some (.cells (vrow (n * 2) (spf px py)) 73) ∧ X.heap[wr.heap.size]? = some (.cells (vrow 2 (spAt (px 0) (py 0))) 73) ∧ Below w.heap.size w X := ⟨row_next hb hH.1, row_next hb hH.2.1, row_next hb hH.2.2.1, hH.2.2.2.trans (hb.mono hH.2.2.2.size)⟩
                  clear hb
                  refine hK.out _ _ hH (fun hH => ?_)
                  clear hK K
                  (try simp only [Act.put, List.getElem_toArray, List.getElem_cons_succ, List.getElem_cons_zero, List.setIfInBounds_toArray, List.set_cons_succ, List.set_cons_zero])
                  refine wpAnyH_take (i := 3) (v := (.bool false)) rfl (by kernel_rfl) (by kernel_rfl) (by kernel_rfl) (fun _ _ _ h => by cases h.1) (.inl ⟨by kernel_rfl, fun w hw => by go_simp⟩) hH ?_
                  (try simp only [Act.put, List.getElem_toArray, List.getElem_cons_succ, List.getElem_cons_zero, List.setIfInBounds_toArray, List.set_cons_succ, List.set_cons_zero])
                  refine wpAnyH_take (i := 4) (v := (.bool false)) rfl (by kernel_rfl) (by kernel_rfl) (by kernel_rfl) (fun _ _ _ h => by cases h.1) (.inl ⟨by kernel_rfl, fun w hw => by go_simp⟩) hH ?_
                  (try simp only [Act.put, List.getElem_toArray, List.getElem_cons_succ, List.getElem_cons_zero, List.setIfInBounds_toArray, List.set_cons_succ, List.set_cons_zero])
                  refine wpAnyH_take (i := 5) (v := (.int .i64 (0 : Nat))) rfl (by kernel_rfl) (by kernel_rfl) (by kernel_rfl) (fun _ _ _ h => by cases h.1) (.inl ⟨by kernel_rfl, fun w hw => by go_simp⟩) hH ?_
                  (try simp only [Act.put, List.getElem_toArray, List.getElem_cons_succ, List.getElem_cons_zero, List.setIfInBounds_toArray, List.set_cons_succ, List.set_cons_zero])
                  refine wpAnyH_take (i := 6) (v := (.bool false)) rfl (by kernel_rfl) (by kernel_rfl) (by kernel_rfl) (fun _ _ _ h => by cases h.1) (.inl ⟨by kernel_rfl, fun w hw => by go_simp⟩) hH ?_
                  (try simp only [Act.put, List.getElem_toArray, List.getElem_cons_succ, List.getElem_cons_zero, List.setIfInBounds_toArray, List.set_cons_succ, List.set_cons_zero])
                  refine wpAnyH_take (i := 7) (v := (.bool false)) rfl (by kernel_rfl) (by kernel_rfl) (by kernel_rfl) (fun _ _ _ h => by cases h.1) (.inl ⟨by kernel_rfl, fun w hw => by go_simp⟩) hH ?_
                  (try simp only [Act.put, List.getElem_toArray, List.getElem_cons_succ, List.getElem_cons_zero, List.setIfInBounds_toArray, List.set_cons_succ, List.set_cons_zero])
                  refine wpAnyH_take (i := 8) (v := undef) rfl (by kernel_rfl) (by kernel_rfl) (by kernel_rfl) (fun _ _ _ h => by cases h.1) (.inr ⟨by kernel_rfl, rfl⟩) hH ?_
                  (try simp only [Act.put, List.getElem_toArray, List.getElem_cons_succ, List.getElem_cons_zero, List.setIfInBounds_toArray, List.set_cons_succ, List.set_cons_zero])
                  refine wpAnyH_take (i := 9) (v := undef) rfl (by kernel_rfl) (by kernel_rfl) (by kernel_rfl) (fun _ _ _ h => by cases h.1) (.inr ⟨by kernel_rfl, rfl⟩) hH ?_
                  (try simp only [Act.put, List.getElem_toArray, List.getElem_cons_succ, List.getElem_cons_zero, List.setIfInBounds_toArray, List.set_cons_succ, List.set_cons_zero])
                  refine wpAnyH_take (i := 10) (v := undef) rfl (by kernel_rfl) (by kernel_rfl) (by kernel_rfl) (fun _ _ _ h => by cases h.1) (.inr ⟨by kernel_rfl, rfl⟩) hH ?_
                  (try simp only [Act.put, List.getElem_toArray, List.getElem_cons_succ, List.getElem_cons_zero, List.setIfInBounds_toArray, List.set_cons_succ, List.set_cons_zero])
                  refine wpAnyH_take (i := 11) (v := undef) rfl (by kernel_rfl) (by kernel_rfl) (by kernel_rfl) (fun _ _ _ h => by cases h.1) (.inr ⟨by kernel_rfl, rfl⟩) hH ?_
                  (try simp only [Act.put, List.getElem_toArray, List.getElem_cons_succ, List.getElem_cons_zero, List.setIfInBounds_toArray, List.set_cons_succ, List.set_cons_zero])
                  refine wpAnyH_take (i := 12) (v := undef) rfl (by kernel_rfl) (by kernel_rfl) (by kernel_rfl) (fun _ _ _ h => by cases h.1) (.inr ⟨by kernel_rfl, rfl⟩) hH ?_
                  (try simp only [Act.put, List.getElem_toArray, List.getElem_cons_succ, List.getElem_cons_zero, List.setIfInBounds_toArray, List.set_cons_succ, List.set_cons_zero])
                  refine wpAnyH_take (i := 13) (v := undef) rfl (by kernel_rfl) (by kernel_rfl) (by kernel_rfl) (fun _ _ _ h => by cases h.1) (.inr ⟨by kernel_rfl, rfl⟩) hH ?_
                  (try simp only [Act.put, List.getElem_toArray, List.getElem_cons_succ, List.getElem_cons_zero, List.setIfInBounds_toArray, List.set_cons_succ, List.set_cons_zero])
                  refine wpAnyH_take (i := 14) (v := undef) rfl (by kernel_rfl) (by kernel_rfl) (by kernel_rfl) (fun _ _ _ h => by cases h.1) (.inr ⟨by kernel_rfl, rfl⟩) hH ?_
                  (try simp only [Act.put, List.getElem_toArray, List.getElem_cons_succ, List.getElem_cons_zero, List.setIfInBounds_toArray, List.set_cons_succ, List.set_cons_zero])
                  refine wpAnyH_take (i := 15) (v := undef) rfl (by kernel_rfl) (by kernel_rfl) (by kernel_rfl) (fun _ _ _ h => by cases h.1) (.inr ⟨by kernel_rfl, rfl⟩) hH ?_
                  (try simp only [Act.put, List.getElem_toArray, List.getElem_cons_succ, List.getElem_cons_zero, List.setIfInBounds_toArray, List.set_cons_succ, List.set_cons_zero])
                  refine wpAnyH_take (i := 16) (v := (.bool false)) rfl (by kernel_rfl) (by kernel_rfl) (by kernel_rfl) (fun _ _ _ h => by cases h.1) (.inl ⟨by kernel_rfl, fun w hw => by go_simp⟩) hH ?_
                  (try simp only [Act.put, List.getElem_toArray, List.getElem_cons_succ, List.getElem_cons_zero, List.setIfInBounds_toArray, List.set_cons_succ, List.set_cons_zero])
                  refine wpAnyH_take (i := 17) (v := (.bool false)) rfl (by kernel_rfl) (by kernel_rfl) (by kernel_rfl) (fun _ _ _ h => by cases h.1) (.inl ⟨by kernel_rfl, fun w hw => by go_simp⟩) hH ?_
                  (try simp only [Act.put, List.getElem_toArray, List.getElem_cons_succ, List.getElem_cons_zero, List.setIfInBounds_toArray, List.set_cons_succ, List.set_cons_zero])
                  refine wpAnyH_done (by kernel_rfl) ?_ _
                  exact ⟨rfl, rfl, hH⟩
                rintro e1 a1 W1 ⟨rfl, rfl, A, R, Z, hB⟩
                replace A := Go.Lib.hid A; replace R := Go.Lib.hid R; replace hB := Go.Lib.hid hB
                have HP := Go.Lib.hid HUn
                clear HUn
                go_wp2
                go_roundw
                case rel => exact ⟨_, hlt, by go_num, HP.out, A.out, R.out, hB.out⟩
                case measure => simp [intOf]; omega
              · obtain ⟨x, y, ex, ey, hx, hy⟩ := ok_hasP s hok.out _ _ (pathU_prev s px py j HU.out)
                have HN := Go.Lib.hid fun w => stepOf_any x y (px (j + 1)) (py (j + 1)) w hx hy
                rw [← ex, ← ey] at HN
                have hst : pathU s px py (j + 1 + 1) = (pathU s px py (j + 1) && (hasB s (px (j + 1)) (py (j + 1)) && (decide (j + 1 = 0) || stepU (px j) (py j) (px (j + 1)) (py (j + 1)) 4))) := rfl
                rw [HU.out, hh] at hst
                have hno := pathU_no s px py (j + 1) n hlt
                rw [hh] at hno
                clear hh hpr ex ey
                refine Code.wp_mono (Q := fun e a' W' => e = .normal ∧ (∃ r : Int, a' = { tmps := #[.agg s.row, .slice (some ⟨D, 0, none⟩) n n, .pointer (some ⟨w.heap.size, 0, none⟩), undef, u4, .int .i64 (j + 1 : Nat), .pointer (some ⟨wr.heap.size, 0, none⟩), .agg (vrow 266 s.at), .bool true, .bool false, .bool false, .slice (some ⟨D, 0, none⟩) n n, .int .i64 n, .bool false, .bool false, .bool false, .slice (some ⟨D, 0, none⟩) n n, .int .i64 n, .bool false, .bool false, .slice (some ⟨D, 0, none⟩) n n, .int .i64 n, .int .i64 (j + 1 : Nat), .bool true, .int .i64 (j + 1 : Nat), .pointer (some ⟨D, (j + 1) * 2, none⟩), .agg (vrow 2 (spAt (px (j + 1)) (py (j + 1)))), .agg (vrow 266 s.at), .agg (vrow 2 (spAt (px (j + 1)) (py (j + 1)))), .bool true, .bool false, .bool false, .int .i64 (j + 1 : Nat), .bool true, .bool true, .slice (some ⟨D, 0, none⟩) n n, .int .i64 (j + 1 : Nat), .int .i64 j, .pointer (some ⟨D, j * 2, none⟩), .agg (vrow 2 (spAt (px j) (py j))), .agg (vrow 2 (spAt (px (j + 1)) (py (j + 1)))), .int .i64 r, .bool (!stepU (px j) (py j) (px (j + 1)) (py (j + 1)) 4), .bool (!stepU (px j) (py j) (px (j + 1)) (py (j + 1)) 4), .bool (!stepU (px j) (py j) (px (j + 1)) (py (j + 1)) 4), u45], defers := [] }) ∧ W'.heap[w.heap.size]? = some (.cells s.row 32) ∧ W'.heap[D]? = some (.cells (vrow (n * 2) (spf px py)) 73) ∧ W'.heap[wr.heap.size]? = some (.cells (vrow 2 (spAt (px (j + 1)) (py (j + 1)))) 73) ∧ Below w.heap.size w W') ?_ ?_
                rotate_left
                · refine wp_region_held_drew (S := fun W' => W'.heap[w.heap.size]? = some (.cells s.row 32) ∧ W'.heap[D]? = some (.cells (vrow (n * 2) (spf px py)) 73) ∧ W'.heap[wr.heap.size]? = some (.cells (vrow 2 (spAt (px (j + 1)) (py (j + 1)))) 73) ∧ Below w.heap.size w W') (by kernel_rfl) ⟨drwP A.out, drwP R.out, drwP Z.out, hB.out.drew⟩ (fun hH => ?_)
                  generalize World.drew _ = W at hH ⊢
                  refine wpAnyH_take (i := 0) (v := (.agg (vrow 266 s.at))) rfl (by kernel_rfl) (by kernel_rfl) (by kernel_rfl) (fun _ _ _ h => by cases h.1) (yields_row (by kernel_rfl) 32 _ rfl (w.heap.size) (by kernel_rfl) 266 s.at 32 _ Tryd.underlying32 rfl size_sheet (fun _ h => h.1)) hH ?_
                  (try simp only [Act.put, List.getElem_toArray, List.getElem_cons_succ, List.getElem_cons_zero, List.setIfInBounds_toArray, List.set_cons_succ, List.set_cons_zero])
                  refine wpAnyH_take (i := 1) (v := (.agg (vrow 2 (spAt (px (j + 1)) (py (j + 1)))))) rfl (by kernel_rfl) (by kernel_rfl) (by kernel_rfl) (fun _ _ _ h => by cases h.1) (yields_row (by kernel_rfl) 73 _ rfl (wr.heap.size) (by kernel_rfl) 2 (spAt (px (j + 1)) (py (j + 1))) 73 _ Tryd.underlying73 rfl size_spot (fun _ h => h.2.2.1)) hH ?_
                  (try simp only [Act.put, List.getElem_toArray, List.getElem_cons_succ, List.getElem_cons_zero, List.setIfInBounds_toArray, List.set_cons_succ, List.set_cons_zero])
                  refine wpAnyH_ready (rs := [2]) (by kernel_rfl) (by simp) (AllReadyH.cons rfl (fun K hK => ?_) AllReadyH.nil)
                  rw [if_pos (by kernel_rfl)]
                  go_simp
                  go_at_call 153
                  refine (HI.out _).mono ?_
                  rintro o X ⟨rfl, hb⟩
                  replace hH : X.heap[w.heap.size]? = some (.cells s.row 32) ∧ X.heap[D]? = some (.cells (vrow (n * 2) (spf px py)) 73) ∧ X.heap[wr.heap.size]? = some (.cells (vrow 2 (spAt (px (j + 1)) (py (j + 1)))) 73) ∧ Below w.heap.size w X := ⟨row_next hb hH.1, row_next hb hH.2.1, row_next hb hH.2.2.1, hH.2.2.2.trans (hb.mono hH.2.2.2.size)⟩
                  clear hb
                  refine hK.out _ _ hH (fun hH => ?_)
                  clear hK K
                  (try simp only [Act.put, List.getElem_toArray, List.getElem_cons_succ, List.getElem_cons_zero, List.setIfInBounds_toArray, List.set_cons_succ, List.set_cons_zero])
                  refine wpAnyH_take (i := 3) (v := (.bool false)) rfl (by kernel_rfl) (by kernel_rfl) (by kernel_rfl) (fun _ _ _ h => by cases h.1) (.inl ⟨by kernel_rfl, fun w hw => by go_simp⟩) hH ?_
                  (try simp only [Act.put, List.getElem_toArray, List.getElem_cons_succ, List.getElem_cons_zero, List.setIfInBounds_toArray, List.set_cons_succ, List.set_cons_zero])
                  refine wpAnyH_take (i := 4) (v := (.bool false)) rfl (by kernel_rfl) (by kernel_rfl) (by kernel_rfl) (fun _ _ _ h => by cases h.1) (.inl ⟨by kernel_rfl, fun w hw => by go_simp⟩) hH ?_
                  (try simp only [Act.put, List.getElem_toArray, List.getElem_cons_succ, List.getElem_cons_zero, List.setIfInBounds_toArray, List.set_cons_succ, List.set_cons_zero])
                  refine wpAnyH_take (i := 5) (v := (.int .i64 (j + 1 : Nat))) rfl (by kernel_rfl) (by kernel_rfl) (by kernel_rfl) (fun _ _ _ h => by cases h.1) (.inl ⟨by kernel_rfl, fun w hw => by go_simp⟩) hH ?_
                  (try simp only [Act.put, List.getElem_toArray, List.getElem_cons_succ, List.getElem_cons_zero, List.setIfInBounds_toArray, List.set_cons_succ, List.set_cons_zero])
                  refine wpAnyH_take (i := 6) (v := (.bool true)) rfl (by kernel_rfl) (by kernel_rfl) (by kernel_rfl) (fun _ _ _ h => by cases h.1) (.inl ⟨by kernel_rfl, fun w hw => by go_simp⟩) hH ?_
                  (try simp only [Act.put, List.getElem_toArray, List.getElem_cons_succ, List.getElem_cons_zero, List.setIfInBounds_toArray, List.set_cons_succ, List.set_cons_zero])
                  refine wpAnyH_take (i := 7) (v := (.bool true)) rfl (by kernel_rfl) (by kernel_rfl) (by kernel_rfl) (fun _ _ _ h => by cases h.1) (.inl ⟨by kernel_rfl, fun w hw => by go_simp⟩) hH ?_
                  (try simp only [Act.put, List.getElem_toArray, List.getElem_cons_succ, List.getElem_cons_zero, List.setIfInBounds_toArray, List.set_cons_succ, List.set_cons_zero])
                  refine wpAnyH_take (i := 8) (v := (.slice (some ⟨D, 0, none⟩) n n)) rfl (by kernel_rfl) (by kernel_rfl) (by kernel_rfl) (fun _ _ _ h => by cases h.1) (.inl ⟨by kernel_rfl, fun w hw => by go_simp⟩) hH ?_
                  (try simp only [Act.put, List.getElem_toArray, List.getElem_cons_succ, List.getElem_cons_zero, List.setIfInBounds_toArray, List.set_cons_succ, List.set_cons_zero])
                  refine wpAnyH_take (i := 9) (v := (.int .i64 (j + 1 : Nat))) rfl (by kernel_rfl) (by kernel_rfl) (by kernel_rfl) (fun _ _ _ h => by cases h.1) (.inl ⟨by kernel_rfl, fun w hw => by go_simp⟩) hH ?_
                  (try simp only [Act.put, List.getElem_toArray, List.getElem_cons_succ, List.getElem_cons_zero, List.setIfInBounds_toArray, List.set_cons_succ, List.set_cons_zero])
                  refine wpAnyH_take (i := 10) (v := (.int .i64 j)) rfl (by kernel_rfl) (by kernel_rfl) (by kernel_rfl) (fun _ _ _ h => by cases h.1) (.inl ⟨by kernel_rfl, fun w hw => by go_simp <;> (first | exact IntWalk.i64_in _ (by omega) | exact IntWalk.i64_in _ ⟨by omega, by omega⟩)⟩) hH ?_
                  (try simp only [Act.put, List.getElem_toArray, List.getElem_cons_succ, List.getElem_cons_zero, List.setIfInBounds_toArray, List.set_cons_succ, List.set_cons_zero])
                  refine wpAnyH_take (i := 11) (v := (.pointer (some ⟨D, j * 2, none⟩))) rfl (by kernel_rfl) (by kernel_rfl) (by kernel_rfl) (fun _ _ _ h => by cases h.1) (.inl ⟨by kernel_rfl, fun w hw => by go_simp <;> (intro hh; exfalso; omega)⟩) hH ?_
                  (try simp only [Act.put, List.getElem_toArray, List.getElem_cons_succ, List.getElem_cons_zero, List.setIfInBounds_toArray, List.set_cons_succ, List.set_cons_zero])
                  refine wpAnyH_take (i := 12) (v := (.agg (vrow 2 (spAt (px j) (py j))))) rfl (by kernel_rfl) (by kernel_rfl) (by kernel_rfl) (fun _ _ _ h => by cases h.1) (yields_midP (by kernel_rfl) 73 _ rfl D (j * 2) (by kernel_rfl) (n * 2) 2 (spf px py) _ (by omega) 73 _ Tryd.underlying73 rfl size_spot (spf_two px py j) (fun _ h => h.2.1)) hH ?_
                  (try simp only [Act.put, List.getElem_toArray, List.getElem_cons_succ, List.getElem_cons_zero, List.setIfInBounds_toArray, List.set_cons_succ, List.set_cons_zero])
                  refine wpAnyH_take (i := 13) (v := (.agg (vrow 2 (spAt (px (j + 1)) (py (j + 1)))))) rfl (by kernel_rfl) (by kernel_rfl) (by kernel_rfl) (fun _ _ _ h => by cases h.1) (yields_row (by kernel_rfl) 73 _ rfl (wr.heap.size) (by kernel_rfl) 2 (spAt (px (j + 1)) (py (j + 1))) 73 _ Tryd.underlying73 rfl size_spot (fun _ h => h.2.2.1)) hH ?_
                  (try simp only [Act.put, List.getElem_toArray, List.getElem_cons_succ, List.getElem_cons_zero, List.setIfInBounds_toArray, List.set_cons_succ, List.set_cons_zero])
                  refine wpAnyH_ready (rs := [14]) (by kernel_rfl) (by simp) (AllReadyH.cons rfl (fun K hK => ?_) AllReadyH.nil)
                  rw [if_pos (by kernel_rfl)]
                  go_simp
                  go_at_call 155
                  refine (HN.out _).mono ?_
                  rintro o X ⟨⟨r, rfl, hr⟩, hb⟩
                  replace hH : X.heap[w.heap.size]? = some (.cells s.row 32) ∧ X.heap[D]? = some (.cells (vrow (n * 2) (spf px py)) 73) ∧ X.heap[wr.heap.size]? = some (.cells (vrow 2 (spAt (px (j + 1)) (py (j + 1)))) 73) ∧ Below w.heap.size w X := ⟨row_next hb hH.1, row_next hb hH.2.1, row_next hb hH.2.2.1, hH.2.2.2.trans (hb.mono hH.2.2.2.size)⟩
                  clear hb
                  refine hK.out _ _ hH (fun hH => ?_)
                  clear hK K
                  (try simp only [Act.put, List.getElem_toArray, List.getElem_cons_succ, List.getElem_cons_zero, List.setIfInBounds_toArray, List.set_cons_succ, List.set_cons_zero])
                  refine wpAnyH_take (i := 15) (v := (.bool (!stepU (px j) (py j) (px (j + 1)) (py (j + 1)) 4))) rfl (by kernel_rfl) (by kernel_rfl) (by kernel_rfl) (fun _ _ _ h => by cases h.1) (.inl ⟨by kernel_rfl, fun w hw => by go_simp <;> exact hr⟩) hH ?_
                  (try simp only [Act.put, List.getElem_toArray, List.getElem_cons_succ, List.getElem_cons_zero, List.setIfInBounds_toArray, List.set_cons_succ, List.set_cons_zero])
                  refine wpAnyH_take (i := 16) (v := (.bool (!stepU (px j) (py j) (px (j + 1)) (py (j + 1)) 4))) rfl (by kernel_rfl) (by kernel_rfl) (by kernel_rfl) (fun _ _ _ h => by cases h.1) (.inl ⟨by kernel_rfl, fun w hw => by go_simp⟩) hH ?_
                  (try simp only [Act.put, List.getElem_toArray, List.getElem_cons_succ, List.getElem_cons_zero, List.setIfInBounds_toArray, List.set_cons_succ, List.set_cons_zero])
                  refine wpAnyH_take (i := 17) (v := (.bool (!stepU (px j) (py j) (px (j + 1)) (py (j + 1)) 4))) rfl (by kernel_rfl) (by kernel_rfl) (by kernel_rfl) (fun _ _ _ h => by cases h.1) (.inl ⟨by kernel_rfl, fun w hw => by go_simp⟩) hH ?_
                  (try simp only [Act.put, List.getElem_toArray, List.getElem_cons_succ, List.getElem_cons_zero, List.setIfInBounds_toArray, List.set_cons_succ, List.set_cons_zero])
                  refine wpAnyH_done (by kernel_rfl) ?_ _
                  exact ⟨rfl, ⟨r, rfl⟩, hH⟩
                rintro e1 a1 W1 ⟨rfl, ⟨r, rfl⟩, A, R, Z, hB⟩
                replace A := Go.Lib.hid A; replace R := Go.Lib.hid R; replace hB := Go.Lib.hid hB
                cases hs : stepU (px j) (py j) (px (j + 1)) (py (j + 1)) 4
                · have HUn := hno (by show (true && (decide (j + 1 = 0) || stepU (px j) (py j) (px (j + 1)) (py (j + 1)) 4)) = false; rw [hs]; simp)
                  clear hst hno hs
                  have HP := Go.Lib.hid HUn
                  clear HUn
                  go_wp2
                  go_ret
                  exact ⟨by rw [HE.out, HP.out]; rfl, hB.out⟩
                · have HUn : pathU s px py (j + 1 + 1) = true := by rw [hst, hs]; simp
                  clear hst hno hs
                  have HP := Go.Lib.hid HUn
                  clear HUn
                  go_wp2
                  go_roundw
                  case rel => exact ⟨_, hlt, by go_num, HP.out, A.out, R.out, hB.out⟩
                  case measure => simp [intOf]; omega
          · obtain rfl : k = n := by omega
            have hd : decide ((k : Int) < (k : Int)) = false := by simp
            go_wp2
            go_ret
            exact ⟨by rw [HE.out, HU.out]; rfl, hB.out⟩
      · have hl2d : decide (80 < (n : Int)) = true := by simp; omega
        have HE : Hid (vpathB s px py n = false) := Go.Lib.hid (by unfold vpathB lenB; rw [decide_eq_false hl2]; simp)
        rw [hk] at HV
        clear hk
        go_enter Tryd.func128, Tryd.ntmps128
        go_wp2_with (first | go_skip | ((with_reducible refine wlAt 7 rfl ?_); refine wpList_loadall rfl 32 (.tmp 2) rfl _ rfl 266 s.at 32 _ Tryd.underlying32 rfl size_sheet A.out ?_) | (go_at_call 114; (refine (HV.out _).mono ?_); rintro e w1 ⟨rfl, hb⟩; replace A := Go.Lib.hid (row_next hb A.out); replace R := Go.Lib.hid (row_next hb R.out); replace hB := Go.Lib.hid (below_next hB.out hb); clear hb))
        go_ret
        exact ⟨by rw [HE.out]; rfl, hB.out⟩
    · have hl1d : decide ((n : Int) < 1) = true := by simp; omega
      have HE : Hid (vpathB s px py n = false) := Go.Lib.hid (by unfold vpathB lenB; rw [decide_eq_false hl1]; simp)
      rw [hk] at HV
      clear hk
      go_enter Tryd.func128, Tryd.ntmps128
      go_wp2_with (first | go_skip | ((with_reducible refine wlAt 7 rfl ?_); refine wpList_loadall rfl 32 (.tmp 2) rfl _ rfl 266 s.at 32 _ Tryd.underlying32 rfl size_sheet A.out ?_) | (go_at_call 114; (refine (HV.out _).mono ?_); rintro e w1 ⟨rfl, hb⟩; replace A := Go.Lib.hid (row_next hb A.out); replace R := Go.Lib.hid (row_next hb R.out); replace hB := Go.Lib.hid (below_next hB.out hb); clear hb))
      go_ret
      exact ⟨by rw [HE.out]; rfl, hB.out⟩
end Go.Proofs.YtfkialifnkfgcaaDoor
