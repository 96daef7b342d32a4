import Derived.Deep.RegionHeld3
import Derived.Test.YtflmkhjleifbbaaDoorRA
import Derived.Test.YtflmkhjleifbbaaDoorRB1
import Derived.Test.YtflmkhjleifbbaaDoorCodeOf
namespace Go.Proofs.YtflmkhjleifbbaaDoor
open Go.RowKit
set_option maxRecDepth 100000
set_option linter.unusedVariables false
set_option linter.unusedSimpArgs false
set_option maxHeartbeats 4000000 in
theorem lastWet_any (s : Sh) (r : Nat → Int) (e : ErrE) (w : World) (hE : Err6 e w) (hr : ∀ i, -1 ≤ r i ∧ r i ≤ 12800) (a c : Nat) (ea : s.wide = a) (ec : s.high = c) (ha : 1 ≤ a ∧ a ≤ 8) (hc : 1 ≤ c ∧ c ≤ 8) (HRG0 : ∀ w, Calls Tryd.prog 29 #[.agg s.row] w fun o w' => o = .returned (.agg (vrow 64 (rgf r))) ∧ Below w.heap.size w w') : Calls Tryd.prog 28 #[.agg s.row] w fun o w' => o = .returned (firstRes (errP e 6) (best (rgF r) (cellsL a c))) ∧ Below w.heap.size w w' := by
  have HFi := Go.Lib.hid fun b w hE hs => firstRg s r b e w hE hs hr (by omega) (by omega) (by omega) (by omega) (fun x y hx hy => by
    have := hr (8 * y + x)
    unfold rgF; omega)
  rw [show s.wide.toNat = a by omega, show s.high.toNat = c by omega] at HFi
  have HRG := Go.Lib.hid HRG0
  clear HRG0 hr ea ec ha hc
  obtain ⟨bp, hbp⟩ : ∃ bp, best (rgF r) (cellsL a c) = bp := ⟨_, rfl⟩
  rw [hbp] at HFi ⊢
  clear hbp
  have zs := zero_spot
  have zr := zero_rg
  have hB : Hid (Below w.heap.size w ((w.alloc (.cells (vrow 266 s.at) 34)).alloc (.cells (vrow 2 (spAt 0 0)) 42))) := Go.Lib.hid (((Below.refl w.heap.size w).alloc (by simp <;> omega) _).alloc (by simp <;> omega) _)
  have P : Hid (((w.alloc (.cells (vrow 266 s.at) 34)).alloc (.cells (vrow 2 (spAt 0 0)) 42)).heap[w.heap.size]? = some (.cells (vrow 266 s.at) 34)) := heap_past _ _ _ _ (by first | omega | (simp <;> omega)) (heap_at _ _ _ (by simp))
  have Z : Hid (((w.alloc (.cells (vrow 266 s.at) 34)).alloc (.cells (vrow 2 (spAt 0 0)) 42)).heap[w.heap.size + 1]? = some (.cells (vrow 2 (spAt 0 0)) 42)) := heap_at _ _ _ (by simp)
  have E : Hid (Err6 e ((w.alloc (.cells (vrow 266 s.at) 34)).alloc (.cells (vrow 2 (spAt 0 0)) 42))) := Go.Lib.hid (((hE).alloc _).alloc _)
  by_cases h0 : bp.2 = 0
  · have hfr := firstRes_no (ev := errP e 6) h0
    have HR := Go.Lib.hid hfr
    rw [firstRes_no h0]
    clear hfr
    go_enter Tryd.func28, Tryd.ntmps28
    go_wp2_with (first
      | go_skip
      | ((with_reducible refine wlAt 6 rfl ?_); refine wpList_loadall rfl 34 (.tmp 1) rfl _ rfl 266 s.at 34 _ Tryd.underlying34 rfl size_sheet P.out ?_)
      | (go_at_call 29; (refine (HRG.out _).mono ?_; rintro o w1 ⟨rfl, hb⟩; replace P := Go.Lib.hid (row_next hb P.out); replace Z := Go.Lib.hid (row_next hb Z.out); replace E := Go.Lib.hid (E.out.next hb); replace hB := Go.Lib.hid (below_next hB.out hb); clear hb))
      | ((with_reducible refine wlOp (.store 37 (.tmp 5) (.tmp 7)) rfl ?_); refine wpList_storeall rfl 37 (.tmp 5) (.tmp 7) rfl _ rfl 64 (rgf fun _ => 0) (rgf r) rfl 37 size_rg (heap_at _ _ _ rfl) (fun i _ => rgf_one _ i) ?_; rw [setRow_at _ _ _ _ _ rfl]; have V := Go.Lib.hid (heap_at w1 (.cells (vrow 64 (rgf r)) 37) _ rfl); have nP := row_lt P.out; replace P := Go.Lib.hid (heap_past _ (.cells (vrow 64 (rgf r)) 37) _ _ nP P.out); have nZ := row_lt Z.out; replace Z := Go.Lib.hid (heap_past _ (.cells (vrow 64 (rgf r)) 37) _ _ nZ Z.out); replace E := Go.Lib.hid (E.out.alloc (.cells (vrow 64 (rgf r)) 37)); replace hB := Go.Lib.hid (hB.out.alloc hB.out.size (.cells (vrow 64 (rgf r)) 37)); generalize w1.heap.size = vb at V nP nZ ⊢; generalize w1.alloc _ = w1' at P Z V E hB ⊢)
      | ((with_reducible refine wlAt 8 rfl ?_); refine wpList_loadall rfl 34 (.tmp 1) rfl _ rfl 266 s.at 34 _ Tryd.underlying34 rfl size_sheet P.out ?_)
      | (go_at_call 48; (refine (HFi.out _ _ E.out V.out).mono ?_; rintro o w2 ⟨rfl, hb⟩; replace Z := Go.Lib.hid (row_next hb Z.out); replace hB := Go.Lib.hid (below_next hB.out hb); clear hb; rw [HR.out]))
      | ((with_reducible refine wlOp (.store 42 (.tmp 2) (.tmp 11)) rfl ?_); refine wpList_storeall rfl 42 (.tmp 2) (.tmp 11) rfl (w.heap.size + 1) rfl 2 (spAt 0 0) (spAt 0 0) rfl 42 size_spot Z.out (fun i _ => spAt_one _ _ i) ?_; replace Z := Go.Lib.hid (row_set Z.out (vrow 2 (spAt 0 0))); replace hB := Go.Lib.hid (Below_setRow hB.out (show w.heap.size ≤ w.heap.size + 1 by omega) (vrow 2 (spAt 0 0)))))
    exact ret_row3 Tryd.results28 (w.heap.size + 1) 2 (spAt 0 0) 42 _ Tryd.underlying42 rfl size_spot (.int .i64 0) (errP e 6) rfl rfl rfl rfl Z.out ⟨rfl, hB.out⟩
  · have hfr := firstRes_yes (ev := errP e 6) h0
    have HR := Go.Lib.hid hfr
    rw [firstRes_yes h0]
    clear hfr
    go_enter Tryd.func28, Tryd.ntmps28
    go_wp2_with (first
      | go_skip
      | ((with_reducible refine wlAt 6 rfl ?_); refine wpList_loadall rfl 34 (.tmp 1) rfl _ rfl 266 s.at 34 _ Tryd.underlying34 rfl size_sheet P.out ?_)
      | (go_at_call 29; (refine (HRG.out _).mono ?_; rintro o w1 ⟨rfl, hb⟩; replace P := Go.Lib.hid (row_next hb P.out); replace Z := Go.Lib.hid (row_next hb Z.out); replace E := Go.Lib.hid (E.out.next hb); replace hB := Go.Lib.hid (below_next hB.out hb); clear hb))
      | ((with_reducible refine wlOp (.store 37 (.tmp 5) (.tmp 7)) rfl ?_); refine wpList_storeall rfl 37 (.tmp 5) (.tmp 7) rfl _ rfl 64 (rgf fun _ => 0) (rgf r) rfl 37 size_rg (heap_at _ _ _ rfl) (fun i _ => rgf_one _ i) ?_; rw [setRow_at _ _ _ _ _ rfl]; have V := Go.Lib.hid (heap_at w1 (.cells (vrow 64 (rgf r)) 37) _ rfl); have nP := row_lt P.out; replace P := Go.Lib.hid (heap_past _ (.cells (vrow 64 (rgf r)) 37) _ _ nP P.out); have nZ := row_lt Z.out; replace Z := Go.Lib.hid (heap_past _ (.cells (vrow 64 (rgf r)) 37) _ _ nZ Z.out); replace E := Go.Lib.hid (E.out.alloc (.cells (vrow 64 (rgf r)) 37)); replace hB := Go.Lib.hid (hB.out.alloc hB.out.size (.cells (vrow 64 (rgf r)) 37)); generalize w1.heap.size = vb at V nP nZ ⊢; generalize w1.alloc _ = w1' at P Z V E hB ⊢)
      | ((with_reducible refine wlAt 8 rfl ?_); refine wpList_loadall rfl 34 (.tmp 1) rfl _ rfl 266 s.at 34 _ Tryd.underlying34 rfl size_sheet P.out ?_)
      | (go_at_call 48; (refine (HFi.out _ _ E.out V.out).mono ?_; rintro o w2 ⟨rfl, hb⟩; replace Z := Go.Lib.hid (row_next hb Z.out); replace hB := Go.Lib.hid (below_next hB.out hb); clear hb; rw [HR.out]))
      | ((with_reducible refine wlOp (.store 42 (.tmp 2) (.tmp 11)) rfl ?_); refine wpList_storeall rfl 42 (.tmp 2) (.tmp 11) rfl (w.heap.size + 1) rfl 2 (spAt 0 0) (spAt bp.1.1 bp.1.2) rfl 42 size_spot Z.out (fun i _ => spAt_one _ _ i) ?_; replace Z := Go.Lib.hid (row_set Z.out (vrow 2 (spAt bp.1.1 bp.1.2))); replace hB := Go.Lib.hid (Below_setRow hB.out (show w.heap.size ≤ w.heap.size + 1 by omega) (vrow 2 (spAt bp.1.1 bp.1.2)))))
    exact ret_row3 Tryd.results28 (w.heap.size + 1) 2 (spAt bp.1.1 bp.1.2) 42 _ Tryd.underlying42 rfl size_spot (.int .i64 bp.2) (.nilIface) rfl rfl rfl rfl Z.out ⟨rfl, hB.out⟩
end Go.Proofs.YtflmkhjleifbbaaDoor
namespace Go.Proofs.YtflmkhjleifbbaaDoor
open Go.RowKit
set_option maxRecDepth 100000
set_option linter.unusedVariables false
set_option linter.unusedSimpArgs false
theorem built_zspR : Tryd.prog.built 42 [] = some (vrow 2 (spAt 0 0)) := by kernel_rfl
set_option maxHeartbeats 2000000 in
theorem specDI_bad (s : Sh) (w : World) (hf : s.fit) (ho : okI s = false) : Calls Tryd.prog 7 #[.agg s.row] w fun o w' => o = .returned (.tuple #[.int .i64 0, .int .i64 1]) ∧ Below w.heap.size w w' := by
  have HO0 := fun b w hs => ok_any s b w hs hf
  rw [← ok_eq s hf, ho] at HO0
  have HO := Go.Lib.hid HO0
  clear HO0 hf ho
  have zz := zero_sheet
  have zr := zero_rg
  have zs := zero_spot
  have hB : Hid (Below w.heap.size w (w.alloc (.cells (vrow 266 s.at) 34))) := Go.Lib.hid ((Below.refl w.heap.size w).alloc (by simp <;> omega) _)
  have P : Hid ((w.alloc (.cells (vrow 266 s.at) 34)).heap[w.heap.size]? = some (.cells (vrow 266 s.at) 34)) := heap_at _ _ _ (by simp)
  go_enter Tryd.func7, Tryd.ntmps7
  go_wp2_with (first
    | go_skip
    | (go_at_call 21; (refine (HO.out _ _ P.out).mono ?_); rintro o w1 ⟨rfl, hb⟩; replace P := Go.Lib.hid (row_next hb P.out); replace hB := Go.Lib.hid (below_next hB.out hb); clear hb))
  go_ret2
  exact ⟨rfl, hB.out⟩
set_option maxHeartbeats 2000000 in
theorem specRO_bad (s : Sh) (w : World) (hf : s.fit) (ho : okI s = false) : Calls Tryd.prog 10 #[.agg s.row] w fun o w' => o = .returned (.tuple #[.agg (vrow 64 (rgf fun _ => 0)), .int .i64 1]) ∧ Below w.heap.size w w' := by
  have HO0 := fun b w hs => ok_any s b w hs hf
  rw [← ok_eq s hf, ho] at HO0
  have HO := Go.Lib.hid HO0
  clear HO0 hf ho
  have zz := zero_sheet
  have zr := zero_rg
  have zs := zero_spot
  have hB : Hid (Below w.heap.size w ((w.alloc (.cells (vrow 266 s.at) 34)).alloc (.cells (vrow 64 (rgf fun _ => 0)) 37))) := Go.Lib.hid (((Below.refl w.heap.size w).alloc (by simp <;> omega) _).alloc (by simp <;> omega) _)
  have P : Hid (((w.alloc (.cells (vrow 266 s.at) 34)).alloc (.cells (vrow 64 (rgf fun _ => 0)) 37)).heap[w.heap.size]? = some (.cells (vrow 266 s.at) 34)) := heap_past _ _ _ _ (by first | omega | (simp <;> omega)) (heap_at _ _ _ (by simp))
  have Z : Hid (((w.alloc (.cells (vrow 266 s.at) 34)).alloc (.cells (vrow 64 (rgf fun _ => 0)) 37)).heap[w.heap.size + 1]? = some (.cells (vrow 64 (rgf fun _ => 0)) 37)) := heap_at _ _ _ (by simp)
  go_enter Tryd.func10, Tryd.ntmps10
  go_wp2_with (first
    | go_skip
    | (go_at_call 21; (refine (HO.out _ _ P.out).mono ?_); rintro o w1 ⟨rfl, hb⟩; replace P := Go.Lib.hid (row_next hb P.out); replace Z := Go.Lib.hid (row_next hb Z.out); replace hB := Go.Lib.hid (below_next hB.out hb); clear hb)
    | ((with_reducible refine wlAt 8 rfl ?_); refine wpList_built rfl 37 [] rfl [] (by rfl) _ built_rg ?_)
    | ((with_reducible refine wlOp (.store 37 (.tmp 2) (.tmp 8)) rfl ?_); refine wpList_storeall rfl 37 (.tmp 2) (.tmp 8) rfl (w.heap.size + 1) rfl 64 (rgf fun _ => 0) (rgf fun _ => 0) rfl 37 size_rg Z.out (fun i _ => rgf_one _ i) ?_; replace Z := Go.Lib.hid (row_set Z.out (vrow 64 (rgf fun _ => 0))); replace hB := Go.Lib.hid (Below_setRow hB.out (show w.heap.size ≤ w.heap.size + 1 by omega) (vrow 64 (rgf fun _ => 0)))))
  exact ret_row2 Tryd.results10 (w.heap.size + 1) 64 (rgf fun _ => 0) 37 _ Tryd.underlying37 rfl size_rg (.int .i64 1) rfl rfl rfl Z.out ⟨rfl, hB.out⟩
set_option maxHeartbeats 2000000 in
theorem specLW_bad (s : Sh) (w : World) (hf : s.fit) (ho : okI s = false) : Calls Tryd.prog 13 #[.agg s.row] w fun o w' => o = .returned (.tuple #[.agg (vrow 2 (spAt 0 0)), .int .i64 0, .int .i64 1]) ∧ Below w.heap.size w w' := by
  have HO0 := fun b w hs => ok_any s b w hs hf
  rw [← ok_eq s hf, ho] at HO0
  have HO := Go.Lib.hid HO0
  clear HO0 hf ho
  have zz := zero_sheet
  have zr := zero_rg
  have zs := zero_spot
  have hB : Hid (Below w.heap.size w ((w.alloc (.cells (vrow 266 s.at) 34)).alloc (.cells (vrow 2 (spAt 0 0)) 42))) := Go.Lib.hid (((Below.refl w.heap.size w).alloc (by simp <;> omega) _).alloc (by simp <;> omega) _)
  have P : Hid (((w.alloc (.cells (vrow 266 s.at) 34)).alloc (.cells (vrow 2 (spAt 0 0)) 42)).heap[w.heap.size]? = some (.cells (vrow 266 s.at) 34)) := heap_past _ _ _ _ (by first | omega | (simp <;> omega)) (heap_at _ _ _ (by simp))
  have Z : Hid (((w.alloc (.cells (vrow 266 s.at) 34)).alloc (.cells (vrow 2 (spAt 0 0)) 42)).heap[w.heap.size + 1]? = some (.cells (vrow 2 (spAt 0 0)) 42)) := heap_at _ _ _ (by simp)
  go_enter Tryd.func13, Tryd.ntmps13
  go_wp2_with (first
    | go_skip
    | (go_at_call 21; (refine (HO.out _ _ P.out).mono ?_); rintro o w1 ⟨rfl, hb⟩; replace P := Go.Lib.hid (row_next hb P.out); replace Z := Go.Lib.hid (row_next hb Z.out); replace hB := Go.Lib.hid (below_next hB.out hb); clear hb)
    | ((with_reducible refine wlAt 12 rfl ?_); refine wpList_built rfl 42 [] rfl [] (by rfl) _ built_zspR ?_)
    | ((with_reducible refine wlOp (.store 42 (.tmp 2) (.tmp 12)) rfl ?_); refine wpList_storeall rfl 42 (.tmp 2) (.tmp 12) rfl (w.heap.size + 1) rfl 2 (spAt 0 0) (spAt 0 0) rfl 42 size_spot Z.out (fun i _ => spAt_one _ _ i) ?_; replace Z := Go.Lib.hid (row_set Z.out (vrow 2 (spAt 0 0))); replace hB := Go.Lib.hid (Below_setRow hB.out (show w.heap.size ≤ w.heap.size + 1 by omega) (vrow 2 (spAt 0 0)))))
  exact ret_row3 Tryd.results13 (w.heap.size + 1) 2 (spAt 0 0) 42 _ Tryd.underlying42 rfl size_spot (.int .i64 0) (.int .i64 1) rfl rfl rfl rfl Z.out ⟨rfl, hB.out⟩
set_option maxHeartbeats 2000000 in
theorem specDI_ok (s : Sh) (r : Nat → Int) (N : Int) (w : World) (hf : s.fit) (ho : okI s = true) (HRL0 : ∀ w, Calls Tryd.prog 22 #[.agg s.row] w fun o w' => o = .returned (.tuple #[.agg (vrow 64 (rgf r)), .int .i64 N]) ∧ Below w.heap.size w w') : Calls Tryd.prog 7 #[.agg s.row] w fun o w' => o = .returned (.tuple #[.int .i64 N, .int .i64 0]) ∧ Below w.heap.size w w' := by
  have HO0 := fun b w hs => ok_any s b w hs hf
  rw [← ok_eq s hf, ho] at HO0
  have HO := Go.Lib.hid HO0
  clear HO0 hf ho
  have HRL := Go.Lib.hid HRL0
  clear HRL0
  have zz := zero_sheet
  have zr := zero_rg
  have zs := zero_spot
  have hB : Hid (Below w.heap.size w (w.alloc (.cells (vrow 266 s.at) 34))) := Go.Lib.hid ((Below.refl w.heap.size w).alloc (by simp <;> omega) _)
  have P : Hid ((w.alloc (.cells (vrow 266 s.at) 34)).heap[w.heap.size]? = some (.cells (vrow 266 s.at) 34)) := heap_at _ _ _ (by simp)
  go_enter Tryd.func7, Tryd.ntmps7
  go_wp2_with (first
    | go_skip
    | (go_at_call 21; (refine (HO.out _ _ P.out).mono ?_); rintro o w1 ⟨rfl, hb⟩; replace P := Go.Lib.hid (row_next hb P.out); replace hB := Go.Lib.hid (below_next hB.out hb); clear hb)
    | ((with_reducible refine wlAt 9 rfl ?_); refine wpList_loadall rfl 34 (.tmp 1) rfl w.heap.size rfl 266 s.at 34 _ Tryd.underlying34 rfl size_sheet P.out ?_)
    | (go_at_call 22; (refine (HRL.out _).mono ?_); rintro o w2 ⟨rfl, hb⟩; replace P := Go.Lib.hid (row_next hb P.out); replace hB := Go.Lib.hid (below_next hB.out hb); clear hb)
    | ((with_reducible refine wlOp (.store 37 (.tmp 4) (.tmp 11)) rfl ?_); refine wpList_storeall rfl 37 (.tmp 4) (.tmp 11) rfl _ rfl 64 (rgf fun _ => 0) (rgf r) rfl 37 size_rg (heap_at _ _ _ rfl) (fun i _ => rgf_one _ i) ?_; rw [setRow_at _ _ _ _ _ rfl]; have V := Go.Lib.hid (heap_at w2 (.cells (vrow 64 (rgf r)) 37) _ rfl); have nP := row_lt P.out; replace P := Go.Lib.hid (heap_past _ (.cells (vrow 64 (rgf r)) 37) _ _ nP P.out); replace hB := Go.Lib.hid (hB.out.alloc hB.out.size (.cells (vrow 64 (rgf r)) 37)); generalize w2.heap.size = vb at V nP ⊢; generalize w2.alloc _ = w2' at V hB P ⊢))
  go_ret2
  exact ⟨rfl, hB.out⟩
set_option maxHeartbeats 2000000 in
theorem specRO_ok (s : Sh) (r : Nat → Int) (N : Int) (w : World) (hf : s.fit) (ho : okI s = true) (HRL0 : ∀ w, Calls Tryd.prog 22 #[.agg s.row] w fun o w' => o = .returned (.tuple #[.agg (vrow 64 (rgf r)), .int .i64 N]) ∧ Below w.heap.size w w') : Calls Tryd.prog 10 #[.agg s.row] w fun o w' => o = .returned (.tuple #[.agg (vrow 64 (rgf r)), .int .i64 0]) ∧ Below w.heap.size w w' := by
  have HO0 := fun b w hs => ok_any s b w hs hf
  rw [← ok_eq s hf, ho] at HO0
  have HO := Go.Lib.hid HO0
  clear HO0 hf ho
  have HRL := Go.Lib.hid HRL0
  clear HRL0
  have zz := zero_sheet
  have zr := zero_rg
  have zs := zero_spot
  have hB : Hid (Below w.heap.size w ((w.alloc (.cells (vrow 266 s.at) 34)).alloc (.cells (vrow 64 (rgf fun _ => 0)) 37))) := Go.Lib.hid (((Below.refl w.heap.size w).alloc (by simp <;> omega) _).alloc (by simp <;> omega) _)
  have P : Hid (((w.alloc (.cells (vrow 266 s.at) 34)).alloc (.cells (vrow 64 (rgf fun _ => 0)) 37)).heap[w.heap.size]? = some (.cells (vrow 266 s.at) 34)) := heap_past _ _ _ _ (by first | omega | (simp <;> omega)) (heap_at _ _ _ (by simp))
  have Z : Hid (((w.alloc (.cells (vrow 266 s.at) 34)).alloc (.cells (vrow 64 (rgf fun _ => 0)) 37)).heap[w.heap.size + 1]? = some (.cells (vrow 64 (rgf fun _ => 0)) 37)) := heap_at _ _ _ (by simp)
  go_enter Tryd.func10, Tryd.ntmps10
  go_wp2_with (first
    | go_skip
    | (go_at_call 21; (refine (HO.out _ _ P.out).mono ?_); rintro o w1 ⟨rfl, hb⟩; replace P := Go.Lib.hid (row_next hb P.out); replace Z := Go.Lib.hid (row_next hb Z.out); replace hB := Go.Lib.hid (below_next hB.out hb); clear hb)
    | ((with_reducible refine wlAt 10 rfl ?_); refine wpList_loadall rfl 34 (.tmp 1) rfl w.heap.size rfl 266 s.at 34 _ Tryd.underlying34 rfl size_sheet P.out ?_)
    | (go_at_call 22; (refine (HRL.out _).mono ?_); rintro o w2 ⟨rfl, hb⟩; replace P := Go.Lib.hid (row_next hb P.out); replace Z := Go.Lib.hid (row_next hb Z.out); replace hB := Go.Lib.hid (below_next hB.out hb); clear hb)
    | ((with_reducible refine wlOp (.store 37 (.tmp 4) (.tmp 12)) rfl ?_); refine wpList_storeall rfl 37 (.tmp 4) (.tmp 12) rfl _ rfl 64 (rgf fun _ => 0) (rgf r) rfl 37 size_rg (heap_at _ _ _ rfl) (fun i _ => rgf_one _ i) ?_; rw [setRow_at _ _ _ _ _ rfl]; have V := Go.Lib.hid (heap_at w2 (.cells (vrow 64 (rgf r)) 37) _ rfl); have nP := row_lt P.out; replace P := Go.Lib.hid (heap_past _ (.cells (vrow 64 (rgf r)) 37) _ _ nP P.out); have nZ := row_lt Z.out; replace Z := Go.Lib.hid (heap_past _ (.cells (vrow 64 (rgf r)) 37) _ _ nZ Z.out); replace hB := Go.Lib.hid (hB.out.alloc hB.out.size (.cells (vrow 64 (rgf r)) 37)); generalize w2.heap.size = vb at V nP nZ ⊢; generalize w2.alloc _ = w2' at V hB P Z ⊢)
    | ((with_reducible refine wlAt 14 rfl ?_); refine wpList_loadall rfl 37 (.tmp 4) rfl vb rfl 64 (rgf r) 37 _ Tryd.underlying37 rfl size_rg V.out ?_)
    | ((with_reducible refine wlOp (.store 37 (.tmp 2) (.tmp 14)) rfl ?_); refine wpList_storeall rfl 37 (.tmp 2) (.tmp 14) rfl (w.heap.size + 1) rfl 64 (rgf fun _ => 0) (rgf r) rfl 37 size_rg Z.out (fun i _ => rgf_one _ i) ?_; replace Z := Go.Lib.hid (row_set Z.out (vrow 64 (rgf r))); replace hB := Go.Lib.hid (Below_setRow hB.out (show w.heap.size ≤ w.heap.size + 1 by omega) (vrow 64 (rgf r)))))
  exact ret_row2 Tryd.results10 (w.heap.size + 1) 64 (rgf r) 37 _ Tryd.underlying37 rfl size_rg (.int .i64 0) rfl rfl rfl Z.out ⟨rfl, hB.out⟩
set_option maxHeartbeats 2000000 in
theorem implDI_bad (s : Sh) (e : ErrE) (w : World) (hE : Errs e w) (hf : s.fit) (hv : okI s = false) : Calls Tryd.prog 9 #[.agg s.row] w fun o w' => o = .returned (.tuple #[.int .i64 0, .int .i64 1]) ∧ Below w.heap.size w w' := by
  have HC := Go.Lib.hid fun w hE => checkSheet_bad s hv e w hE
  clear hv
  have zz := zero_sheet
  have zr := zero_rg
  have zs := zero_spot
  have hB : Hid (Below w.heap.size w (w.alloc (.cells (vrow 266 s.at) 34))) := Go.Lib.hid ((Below.refl w.heap.size w).alloc (by simp <;> omega) _)
  have P : Hid ((w.alloc (.cells (vrow 266 s.at) 34)).heap[w.heap.size]? = some (.cells (vrow 266 s.at) 34)) := heap_at _ _ _ (by simp)
  have E : Hid (Errs e (w.alloc (.cells (vrow 266 s.at) 34))) := Go.Lib.hid ((hE.alloc _))
  go_enter Tryd.func9, Tryd.ntmps9
  go_wp2_with (first
    | go_skip
    | ((with_reducible refine wlAt 8 rfl ?_); refine wpList_loadall rfl 34 (.tmp 1) rfl w.heap.size rfl 266 s.at 34 _ Tryd.underlying34 rfl size_sheet P.out ?_)
    | (go_at_call 26; (refine (HC.out _ E.out).mono ?_); rintro o w1 ⟨rfl, hb⟩; replace P := Go.Lib.hid (row_next hb P.out); replace hB := Go.Lib.hid (below_next hB.out hb); replace E := Go.Lib.hid (E.out.next hb); clear hb)
    | (go_at_call 27; (refine (codeOf_1 e _ E.out).mono ?_); rintro o w2 ⟨rfl, hb⟩; replace P := Go.Lib.hid (row_next hb P.out); replace hB := Go.Lib.hid (below_next hB.out hb); clear hb))
  go_ret2
  exact ⟨rfl, hB.out⟩
set_option maxHeartbeats 2000000 in
theorem implDI_ok (s : Sh) (p q n : Int) (ev : Value) (e : ErrE) (w : World) (hE : Err6 e w) (hf : s.fit) (hv : okI s = true) (HLW0 : ∀ w, Err6 e w → Calls Tryd.prog 28 #[.agg s.row] w fun o w' => o = .returned (.tuple #[.agg (vrow 2 (spAt p q)), .int .i64 n, ev]) ∧ Below w.heap.size w w') : Calls Tryd.prog 9 #[.agg s.row] w fun o w' => o = .returned (.tuple #[.int .i64 n, .int .i64 0]) ∧ Below w.heap.size w w' := by
  have HC := Go.Lib.hid fun w hE => checkSheet_ok s hv e w hE
  have HLW := Go.Lib.hid HLW0
  clear hv HLW0
  have zz := zero_sheet
  have zr := zero_rg
  have zs := zero_spot
  have hB : Hid (Below w.heap.size w (w.alloc (.cells (vrow 266 s.at) 34))) := Go.Lib.hid ((Below.refl w.heap.size w).alloc (by simp <;> omega) _)
  have P : Hid ((w.alloc (.cells (vrow 266 s.at) 34)).heap[w.heap.size]? = some (.cells (vrow 266 s.at) 34)) := heap_at _ _ _ (by simp)
  have E : Hid (Err6 e (w.alloc (.cells (vrow 266 s.at) 34))) := Go.Lib.hid ((hE.alloc _))
  go_enter Tryd.func9, Tryd.ntmps9
  go_wp2_with (first
    | go_skip
    | ((with_reducible refine wlAt 8 rfl ?_); refine wpList_loadall rfl 34 (.tmp 1) rfl w.heap.size rfl 266 s.at 34 _ Tryd.underlying34 rfl size_sheet P.out ?_)
    | (go_at_call 26; (refine (HC.out _ E.out.base).mono ?_); rintro o w1 ⟨rfl, hb⟩; replace P := Go.Lib.hid (row_next hb P.out); replace hB := Go.Lib.hid (below_next hB.out hb); replace E := Go.Lib.hid (E.out.next hb); clear hb)
    | ((with_reducible refine wlAt 15 rfl ?_); refine wpList_loadall rfl 34 (.tmp 1) rfl w.heap.size rfl 266 s.at 34 _ Tryd.underlying34 rfl size_sheet P.out ?_)
    | (go_at_call 28; (refine (HLW.out _ E.out).mono ?_); rintro o w2 ⟨rfl, hb⟩; replace P := Go.Lib.hid (row_next hb P.out); replace hB := Go.Lib.hid (below_next hB.out hb); clear hb)
    | ((with_reducible refine wlOp (.store 42 (.tmp 5) (.tmp 17)) rfl ?_); refine wpList_storeall rfl 42 (.tmp 5) (.tmp 17) rfl _ rfl 2 (spAt 0 0) (spAt p q) rfl 42 size_spot (heap_at _ _ _ rfl) (fun i _ => spAt_one _ _ i) ?_; rw [setRow_at _ _ _ _ _ rfl]; have V := Go.Lib.hid (heap_at w2 (.cells (vrow 2 (spAt p q)) 42) _ rfl); have nP := row_lt P.out; replace P := Go.Lib.hid (heap_past _ (.cells (vrow 2 (spAt p q)) 42) _ _ nP P.out); replace hB := Go.Lib.hid (hB.out.alloc hB.out.size (.cells (vrow 2 (spAt p q)) 42)); generalize w2.heap.size = vb at V nP ⊢; generalize w2.alloc _ = w2' at V hB P ⊢))
  go_ret2
  exact ⟨rfl, hB.out⟩
set_option maxHeartbeats 2000000 in
theorem implRO_bad (s : Sh) (e : ErrE) (w : World) (hE : Errs e w) (hf : s.fit) (hv : okI s = false) : Calls Tryd.prog 11 #[.agg s.row] w fun o w' => o = .returned (.tuple #[.agg (vrow 64 (rgf fun _ => 0)), .int .i64 1]) ∧ Below w.heap.size w w' := by
  have HC := Go.Lib.hid fun w hE => checkSheet_bad s hv e w hE
  clear hv
  have zz := zero_sheet
  have zr := zero_rg
  have zs := zero_spot
  have hB : Hid (Below w.heap.size w ((w.alloc (.cells (vrow 266 s.at) 34)).alloc (.cells (vrow 64 (rgf fun _ => 0)) 37))) := Go.Lib.hid (((Below.refl w.heap.size w).alloc (by simp <;> omega) _).alloc (by simp <;> omega) _)
  have P : Hid (((w.alloc (.cells (vrow 266 s.at) 34)).alloc (.cells (vrow 64 (rgf fun _ => 0)) 37)).heap[w.heap.size]? = some (.cells (vrow 266 s.at) 34)) := heap_past _ _ _ _ (by first | omega | (simp <;> omega)) (heap_at _ _ _ (by simp))
  have Z : Hid (((w.alloc (.cells (vrow 266 s.at) 34)).alloc (.cells (vrow 64 (rgf fun _ => 0)) 37)).heap[w.heap.size + 1]? = some (.cells (vrow 64 (rgf fun _ => 0)) 37)) := heap_at _ _ _ (by simp)
  have E : Hid (Errs e ((w.alloc (.cells (vrow 266 s.at) 34)).alloc (.cells (vrow 64 (rgf fun _ => 0)) 37))) := Go.Lib.hid (((hE.alloc _).alloc _))
  go_enter Tryd.func11, Tryd.ntmps11
  go_wp2_with (first
    | go_skip
    | ((with_reducible refine wlAt 5 rfl ?_); refine wpList_loadall rfl 34 (.tmp 1) rfl w.heap.size rfl 266 s.at 34 _ Tryd.underlying34 rfl size_sheet P.out ?_)
    | (go_at_call 26; (refine (HC.out _ E.out).mono ?_); rintro o w1 ⟨rfl, hb⟩; replace P := Go.Lib.hid (row_next hb P.out); replace Z := Go.Lib.hid (row_next hb Z.out); replace hB := Go.Lib.hid (below_next hB.out hb); replace E := Go.Lib.hid (E.out.next hb); clear hb)
    | (go_at_call 27; (refine (codeOf_1 e _ E.out).mono ?_); rintro o w2 ⟨rfl, hb⟩; replace P := Go.Lib.hid (row_next hb P.out); replace Z := Go.Lib.hid (row_next hb Z.out); replace hB := Go.Lib.hid (below_next hB.out hb); clear hb)
    | ((with_reducible refine wlAt 9 rfl ?_); refine wpList_built rfl 37 [] rfl [] (by rfl) _ built_rg ?_)
    | ((with_reducible refine wlOp (.store 37 (.tmp 2) (.tmp 9)) rfl ?_); refine wpList_storeall rfl 37 (.tmp 2) (.tmp 9) rfl (w.heap.size + 1) rfl 64 (rgf fun _ => 0) (rgf fun _ => 0) rfl 37 size_rg Z.out (fun i _ => rgf_one _ i) ?_; replace Z := Go.Lib.hid (row_set Z.out (vrow 64 (rgf fun _ => 0))); replace hB := Go.Lib.hid (Below_setRow hB.out (show w.heap.size ≤ w.heap.size + 1 by omega) (vrow 64 (rgf fun _ => 0)))))
  exact ret_row2 Tryd.results11 (w.heap.size + 1) 64 (rgf fun _ => 0) 37 _ Tryd.underlying37 rfl size_rg (.int .i64 1) rfl rfl rfl Z.out ⟨rfl, hB.out⟩
set_option maxHeartbeats 2000000 in
theorem implRO_ok (s : Sh) (r : Nat → Int) (e : ErrE) (w : World) (hE : Errs e w) (hf : s.fit) (hv : okI s = true) (HRG0 : ∀ w, Calls Tryd.prog 29 #[.agg s.row] w fun o w' => o = .returned (.agg (vrow 64 (rgf r))) ∧ Below w.heap.size w w') : Calls Tryd.prog 11 #[.agg s.row] w fun o w' => o = .returned (.tuple #[.agg (vrow 64 (rgf r)), .int .i64 0]) ∧ Below w.heap.size w w' := by
  have HC := Go.Lib.hid fun w hE => checkSheet_ok s hv e w hE
  have HRG := Go.Lib.hid HRG0
  clear hv HRG0
  have zz := zero_sheet
  have zr := zero_rg
  have zs := zero_spot
  have hB : Hid (Below w.heap.size w ((w.alloc (.cells (vrow 266 s.at) 34)).alloc (.cells (vrow 64 (rgf fun _ => 0)) 37))) := Go.Lib.hid (((Below.refl w.heap.size w).alloc (by simp <;> omega) _).alloc (by simp <;> omega) _)
  have P : Hid (((w.alloc (.cells (vrow 266 s.at) 34)).alloc (.cells (vrow 64 (rgf fun _ => 0)) 37)).heap[w.heap.size]? = some (.cells (vrow 266 s.at) 34)) := heap_past _ _ _ _ (by first | omega | (simp <;> omega)) (heap_at _ _ _ (by simp))
  have Z : Hid (((w.alloc (.cells (vrow 266 s.at) 34)).alloc (.cells (vrow 64 (rgf fun _ => 0)) 37)).heap[w.heap.size + 1]? = some (.cells (vrow 64 (rgf fun _ => 0)) 37)) := heap_at _ _ _ (by simp)
  have E : Hid (Errs e ((w.alloc (.cells (vrow 266 s.at) 34)).alloc (.cells (vrow 64 (rgf fun _ => 0)) 37))) := Go.Lib.hid (((hE.alloc _).alloc _))
  go_enter Tryd.func11, Tryd.ntmps11
  go_wp2_with (first
    | go_skip
    | ((with_reducible refine wlAt 5 rfl ?_); refine wpList_loadall rfl 34 (.tmp 1) rfl w.heap.size rfl 266 s.at 34 _ Tryd.underlying34 rfl size_sheet P.out ?_)
    | (go_at_call 26; (refine (HC.out _ E.out).mono ?_); rintro o w1 ⟨rfl, hb⟩; replace P := Go.Lib.hid (row_next hb P.out); replace Z := Go.Lib.hid (row_next hb Z.out); replace hB := Go.Lib.hid (below_next hB.out hb); replace E := Go.Lib.hid (E.out.next hb); clear hb)
    | ((with_reducible refine wlAt 12 rfl ?_); refine wpList_loadall rfl 34 (.tmp 1) rfl w.heap.size rfl 266 s.at 34 _ Tryd.underlying34 rfl size_sheet P.out ?_)
    | (go_at_call 29; (refine (HRG.out _).mono ?_); rintro o w2 ⟨rfl, hb⟩; replace P := Go.Lib.hid (row_next hb P.out); replace Z := Go.Lib.hid (row_next hb Z.out); replace hB := Go.Lib.hid (below_next hB.out hb); clear hb)
    | ((with_reducible refine wlOp (.store 37 (.tmp 2) (.tmp 13)) rfl ?_); refine wpList_storeall rfl 37 (.tmp 2) (.tmp 13) rfl (w.heap.size + 1) rfl 64 (rgf fun _ => 0) (rgf r) rfl 37 size_rg Z.out (fun i _ => rgf_one _ i) ?_; replace Z := Go.Lib.hid (row_set Z.out (vrow 64 (rgf r))); replace hB := Go.Lib.hid (Below_setRow hB.out (show w.heap.size ≤ w.heap.size + 1 by omega) (vrow 64 (rgf r)))))
  exact ret_row2 Tryd.results11 (w.heap.size + 1) 64 (rgf r) 37 _ Tryd.underlying37 rfl size_rg (.int .i64 0) rfl rfl rfl Z.out ⟨rfl, hB.out⟩
end Go.Proofs.YtflmkhjleifbbaaDoor
namespace Go.Proofs.YtflmkhjleifbbaaDoor
open Go.RowKit
set_option maxRecDepth 100000
set_option linter.unusedVariables false
set_option linter.unusedSimpArgs false
def specResL (b : (Nat × Nat) × Int) : Value := if b.2 = 0 then .tuple #[.agg (vrow 2 (spAt 0 0)), .int .i64 0, .int .i64 6] else .tuple #[.agg (vrow 2 (spAt b.1.1 b.1.2)), .int .i64 b.2, .int .i64 0]
theorem specResL_no {b : (Nat × Nat) × Int} (h : b.2 = 0) : specResL b = .tuple #[.agg (vrow 2 (spAt 0 0)), .int .i64 0, .int .i64 6] := if_pos h
theorem specResL_yes {b : (Nat × Nat) × Int} (h : ¬ b.2 = 0) : specResL b = .tuple #[.agg (vrow 2 (spAt b.1.1 b.1.2)), .int .i64 b.2, .int .i64 0] := if_neg h
/-- the model's best one: the first cell to begin with -/
def lbest (f : Nat → Nat → Int) : List Sp8 → (Nat × Nat) × Int
  | [] => ((0, 0), 0)
  | p :: l => l.foldl (bestStep f) (p.1, f p.1.1 p.1.2)
theorem lbest_step (f : Nat → Nat → Int) (L : List Sp8) (i : Nat) (h1 : 1 ≤ i) (hi : i < L.length) : lbest f (L.take (i + 1)) = bestStep f (lbest f (L.take i)) (L[i]'hi) := by
  rw [List.take_succ_eq_append_getElem hi]
  cases L with
  | nil => simp at hi
  | cons p l =>
    obtain ⟨j, rfl⟩ : ∃ j, i = j + 1 := ⟨i - 1, by omega⟩
    have hj : j < l.length := by simpa using hi
    show (l.take j ++ [l[j]'hj]).foldl (bestStep f) (p.1, f p.1.1 p.1.2) = bestStep f ((l.take j).foldl (bestStep f) (p.1, f p.1.1 p.1.2)) (l[j]'hj)
    rw [List.foldl_append]; rfl
theorem fold_in (f : Nat → Nat → Int) : ∀ (l : List Sp8) (b : (Nat × Nat) × Int), (b.1.1 < 8 ∧ b.1.2 < 8 ∧ b.2 = f b.1.1 b.1.2) → ((l.foldl (bestStep f) b).1.1 < 8 ∧ (l.foldl (bestStep f) b).1.2 < 8 ∧ (l.foldl (bestStep f) b).2 = f (l.foldl (bestStep f) b).1.1 (l.foldl (bestStep f) b).1.2)
  | [], b, h => h
  | q :: l, b, h => by
    rw [List.foldl_cons]
    refine fold_in f l _ ?_
    unfold bestStep; split
    · exact ⟨q.2.1, q.2.2, rfl⟩
    · exact h
theorem lbest_in (f : Nat → Nat → Int) (l : List Sp8) (h : 1 ≤ l.length) : (lbest f l).1.1 < 8 ∧ (lbest f l).1.2 < 8 ∧ (lbest f l).2 = f (lbest f l).1.1 (lbest f l).1.2 := by
  cases l with
  | nil => simp at h
  | cons p l => exact fold_in f l _ ⟨p.2.1, p.2.2, rfl⟩
theorem lbest_best (f : Nat → Nat → Int) (l : List Sp8) (h : 0 < (best f l).2) : lbest f l = best f l := by
  cases l with
  | nil => simp [best] at h
  | cons p l =>
    unfold best at h ⊢
    show l.foldl (bestStep f) (p.1, f p.1.1 p.1.2) = l.foldl (bestStep f) (bestStep f ((0, 0), 0) p)
    change 0 < (l.foldl (bestStep f) (bestStep f ((0, 0), 0) p)).2 at h
    by_cases hp : 0 < f p.1.1 p.1.2
    · have e : bestStep f ((0, 0), 0) p = (p.1, f p.1.1 p.1.2) := by unfold bestStep; rw [if_pos hp]
      rw [e]
    · have e : bestStep f ((0, 0), 0) p = ((0, 0), 0) := by unfold bestStep; rw [if_neg hp]
      rw [e] at h ⊢
      exact best_start f l _ _ (by simp only; omega) rfl h
set_option maxHeartbeats 2000000 in
theorem specLW_no (s : Sh) (r : Nat → Int) (w : World) (hf : s.fit) (ho : okI s = true) (HRL0 : ∀ w, Calls Tryd.prog 22 #[.agg s.row] w fun o w' => o = .returned (.tuple #[.agg (vrow 64 (rgf r)), .int .i64 0]) ∧ Below w.heap.size w w') : Calls Tryd.prog 13 #[.agg s.row] w fun o w' => o = .returned (.tuple #[.agg (vrow 2 (spAt 0 0)), .int .i64 0, .int .i64 6]) ∧ Below w.heap.size w w' := by
  have HO0 := fun b w hs => ok_any s b w hs hf
  rw [← ok_eq s hf, ho] at HO0
  have HO := Go.Lib.hid HO0
  clear HO0 hf ho
  have HRL := Go.Lib.hid HRL0
  clear HRL0
  have zz := zero_sheet
  have zr := zero_rg
  have zs := zero_spot
  have hB : Hid (Below w.heap.size w ((w.alloc (.cells (vrow 266 s.at) 34)).alloc (.cells (vrow 2 (spAt 0 0)) 42))) := Go.Lib.hid (((Below.refl w.heap.size w).alloc (by simp <;> omega) _).alloc (by simp <;> omega) _)
  have P : Hid (((w.alloc (.cells (vrow 266 s.at) 34)).alloc (.cells (vrow 2 (spAt 0 0)) 42)).heap[w.heap.size]? = some (.cells (vrow 266 s.at) 34)) := heap_past _ _ _ _ (by first | omega | (simp <;> omega)) (heap_at _ _ _ (by simp))
  have Z : Hid (((w.alloc (.cells (vrow 266 s.at) 34)).alloc (.cells (vrow 2 (spAt 0 0)) 42)).heap[w.heap.size + 1]? = some (.cells (vrow 2 (spAt 0 0)) 42)) := heap_at _ _ _ (by simp)
  go_enter Tryd.func13, Tryd.ntmps13
  go_wp2_with (first
    | go_skip
    | (go_at_call 21; (refine (HO.out _ _ P.out).mono ?_); rintro o w1 ⟨rfl, hb⟩; replace P := Go.Lib.hid (row_next hb P.out); replace Z := Go.Lib.hid (row_next hb Z.out); replace hB := Go.Lib.hid (below_next hB.out hb); clear hb)
    | ((with_reducible refine wlAt 14 rfl ?_); refine wpList_loadall rfl 34 (.tmp 1) rfl w.heap.size rfl 266 s.at 34 _ Tryd.underlying34 rfl size_sheet P.out ?_)
    | (go_at_call 22; (refine (HRL.out _).mono ?_); rintro o w2 ⟨rfl, hb⟩; replace P := Go.Lib.hid (row_next hb P.out); replace Z := Go.Lib.hid (row_next hb Z.out); replace hB := Go.Lib.hid (below_next hB.out hb); clear hb)
    | ((with_reducible refine wlOp (.store 37 (.tmp 5) (.tmp 16)) rfl ?_); refine wpList_storeall rfl 37 (.tmp 5) (.tmp 16) rfl _ rfl 64 (rgf fun _ => 0) (rgf r) rfl 37 size_rg (heap_at _ _ _ rfl) (fun i _ => rgf_one _ i) ?_; rw [setRow_at _ _ _ _ _ rfl]; have V := Go.Lib.hid (heap_at w2 (.cells (vrow 64 (rgf r)) 37) _ rfl); have nP := row_lt P.out; replace P := Go.Lib.hid (heap_past _ (.cells (vrow 64 (rgf r)) 37) _ _ nP P.out); have nZ := row_lt Z.out; replace Z := Go.Lib.hid (heap_past _ (.cells (vrow 64 (rgf r)) 37) _ _ nZ Z.out); replace hB := Go.Lib.hid (hB.out.alloc hB.out.size (.cells (vrow 64 (rgf r)) 37)); generalize w2.heap.size = vb at V nP nZ ⊢; generalize w2.alloc _ = w2' at V hB P Z ⊢)
    | ((with_reducible refine wlAt 20 rfl ?_); refine wpList_built rfl 42 [] rfl [] (by rfl) _ built_zspR ?_)
    | ((with_reducible refine wlOp (.store 42 (.tmp 2) (.tmp 20)) rfl ?_); refine wpList_storeall rfl 42 (.tmp 2) (.tmp 20) rfl (w.heap.size + 1) rfl 2 (spAt 0 0) (spAt 0 0) rfl 42 size_spot Z.out (fun i _ => spAt_one _ _ i) ?_; replace Z := Go.Lib.hid (row_set Z.out (vrow 2 (spAt 0 0))); replace hB := Go.Lib.hid (Below_setRow hB.out (show w.heap.size ≤ w.heap.size + 1 by omega) (vrow 2 (spAt 0 0)))))
  exact ret_row3 Tryd.results13 (w.heap.size + 1) 2 (spAt 0 0) 42 _ Tryd.underlying42 rfl size_spot (.int .i64 0) (.int .i64 6) rfl rfl rfl rfl Z.out ⟨rfl, hB.out⟩
set_option maxHeartbeats 8000000 in
theorem specLW_ok (s : Sh) (r : Nat → Int) (N : Int) (a c : Nat) (w : World) (hf : s.fit) (ho : okI s = true) (ea : s.wide = a) (ec : s.high = c) (ha : 1 ≤ a ∧ a ≤ 8) (hc : 1 ≤ c ∧ c ≤ 8) (hN : N ≠ 0) (hr : ∀ i, -1 ≤ r i ∧ r i ≤ 12800) (HRL0 : ∀ w, Calls Tryd.prog 22 #[.agg s.row] w fun o w' => o = .returned (.tuple #[.agg (vrow 64 (rgf r)), .int .i64 N]) ∧ Below w.heap.size w w') : Calls Tryd.prog 13 #[.agg s.row] w fun o w' => o = .returned (.tuple #[.agg (vrow 2 (spAt (lbest (rgF r) (cellsL a c)).1.1 (lbest (rgF r) (cellsL a c)).1.2)), .int .i64 (lbest (rgF r) (cellsL a c)).2, .int .i64 0]) ∧ Below w.heap.size w w' := by
  have HSp := Go.Lib.hid fun b w hs => spots_any s b a c w hs ea ec ha.2 hc.2
  have hn : (cellsL a c).length = a * c := cellsL_length a c
  have hac : 1 ≤ a * c ∧ a * c ≤ 64 := ⟨Nat.mul_le_mul ha.1 hc.1, Nat.mul_le_mul ha.2 hc.2⟩
  rw [← hn] at hac
  clear hn ea ec ha hc
  generalize cellsL a c = L at *
  have hz1 : (N == 0) = false := by simpa using hN
  have hz2 : decide (N = 0) = false := by simpa using hN
  have HO0 := fun b w hs => ok_any s b w hs hf
  rw [← ok_eq s hf, ho] at HO0
  have HO := Go.Lib.hid HO0
  clear HO0 hf ho
  have HRL := Go.Lib.hid HRL0
  clear HRL0
  have zz := zero_sheet
  have zr := zero_rg
  have zs := zero_spot
  have hB : Hid (Below w.heap.size w ((w.alloc (.cells (vrow 266 s.at) 34)).alloc (.cells (vrow 2 (spAt 0 0)) 42))) := Go.Lib.hid (((Below.refl w.heap.size w).alloc (by simp <;> omega) _).alloc (by simp <;> omega) _)
  have P : Hid (((w.alloc (.cells (vrow 266 s.at) 34)).alloc (.cells (vrow 2 (spAt 0 0)) 42)).heap[w.heap.size]? = some (.cells (vrow 266 s.at) 34)) := heap_past _ _ _ _ (by first | omega | (simp <;> omega)) (heap_at _ _ _ (by simp))
  have Z : Hid (((w.alloc (.cells (vrow 266 s.at) 34)).alloc (.cells (vrow 2 (spAt 0 0)) 42)).heap[w.heap.size + 1]? = some (.cells (vrow 2 (spAt 0 0)) 42)) := heap_at _ _ _ (by simp)
  go_enter Tryd.func13, Tryd.ntmps13
  go_wp2_with (first
    | go_skip
    | (go_at_call 21; (refine (HO.out _ _ P.out).mono ?_); rintro o w1 ⟨rfl, hb⟩; replace P := Go.Lib.hid (row_next hb P.out); replace Z := Go.Lib.hid (row_next hb Z.out); replace hB := Go.Lib.hid (below_next hB.out hb); clear hb)
    | ((with_reducible refine wlAt 14 rfl ?_); refine wpList_loadall rfl 34 (.tmp 1) rfl w.heap.size rfl 266 s.at 34 _ Tryd.underlying34 rfl size_sheet P.out ?_)
    | (go_at_call 22; (refine (HRL.out _).mono ?_); rintro o w2 ⟨rfl, hb⟩; replace P := Go.Lib.hid (row_next hb P.out); replace Z := Go.Lib.hid (row_next hb Z.out); replace hB := Go.Lib.hid (below_next hB.out hb); clear hb)
    | ((with_reducible refine wlOp (.store 37 (.tmp 5) (.tmp 16)) rfl ?_); refine wpList_storeall rfl 37 (.tmp 5) (.tmp 16) rfl _ rfl 64 (rgf fun _ => 0) (rgf r) rfl 37 size_rg (heap_at _ _ _ rfl) (fun i _ => rgf_one _ i) ?_; rw [setRow_at _ _ _ _ _ rfl]; have V := Go.Lib.hid (heap_at w2 (.cells (vrow 64 (rgf r)) 37) _ rfl); have nP := row_lt P.out; replace P := Go.Lib.hid (heap_past _ (.cells (vrow 64 (rgf r)) 37) _ _ nP P.out); have nZ := row_lt Z.out; replace Z := Go.Lib.hid (heap_past _ (.cells (vrow 64 (rgf r)) 37) _ _ nZ Z.out); replace hB := Go.Lib.hid (hB.out.alloc hB.out.size (.cells (vrow 64 (rgf r)) 37)); generalize w2.heap.size = vb at V nP nZ ⊢; generalize w2.alloc _ = w2' at V hB P Z ⊢)
    | (go_at_call 31; (refine (HSp.out _ _ P.out).mono ?_; rintro e w3 ⟨v, rfl, hO, hb⟩; have qv := row_lt V.out; replace P := Go.Lib.hid (row_next hb P.out); replace Z := Go.Lib.hid (row_next hb Z.out); replace V := Go.Lib.hid (row_next hb V.out); replace hB := Go.Lib.hid (below_next hB.out hb); clear hb; obtain ⟨g, cap, f, rfl, hg, hcap, hO2, hf2⟩ := hO.row (by omega); have G := Go.Lib.hid hO2; have hg0 := hf2 0 (by omega); have HF := Go.Lib.hid hf2; have HR0 := Go.Lib.hid (row_spot f (0 * 2) (L[0]'(by omega)) hg0); clear hO hO2 hf2 hg0))
    | ((with_reducible refine wlAt 24 rfl ?_); refine wpList_loadmid rfl 42 (.tmp 23) rfl g (0 * 2) rfl (cap * 2) 2 f 42 _ Tryd.underlying42 rfl size_spot G.out (by omega) ?_; rw [HR0.out])
    | ((with_reducible refine wlOp (.store 42 (.tmp 8) (.tmp 24)) rfl ?_); refine wpList_storeall rfl 42 (.tmp 8) (.tmp 24) rfl _ rfl 2 (spAt 0 0) (spAt (L[0]'(by omega)).1.1 (L[0]'(by omega)).1.2) rfl 42 size_spot (heap_at _ _ _ rfl) (fun i _ => spAt_one _ _ i) ?_; rw [setRow_at _ _ _ _ _ rfl]; have X := Go.Lib.hid (heap_at w3 (.cells (vrow 2 (spAt (L[0]'(by omega)).1.1 (L[0]'(by omega)).1.2)) 42) _ rfl); have nZ := row_lt Z.out; replace Z := Go.Lib.hid (heap_past _ (.cells (vrow 2 (spAt (L[0]'(by omega)).1.1 (L[0]'(by omega)).1.2)) 42) _ _ nZ Z.out); have nV := row_lt V.out; replace V := Go.Lib.hid (heap_past _ (.cells (vrow 2 (spAt (L[0]'(by omega)).1.1 (L[0]'(by omega)).1.2)) 42) _ _ nV V.out); have nG := row_lt G.out; replace G := Go.Lib.hid (heap_past _ (.cells (vrow 2 (spAt (L[0]'(by omega)).1.1 (L[0]'(by omega)).1.2)) 42) _ _ nG G.out); replace hB := Go.Lib.hid (hB.out.alloc hB.out.size (.cells (vrow 2 (spAt (L[0]'(by omega)).1.1 (L[0]'(by omega)).1.2)) 42)); generalize w3.heap.size = cb at X nZ nV nG ⊢; generalize w3.alloc _ = w3' at Z V G X hB ⊢))
  have e1 : lbest (rgF r) (L.take 1) = ((L[0]'(by omega)).1, rgF r (L[0]'(by omega)).1.1 (L[0]'(by omega)).1.2) := by
    cases L with
    | nil => simp at hac
    | cons p l => simp [lbest]
  have a2 := Z.out; have a3 := V.out; have a4 := hB.out; have a5 := G.out; have a6 := X.out
  clear P Z V hB G X HSp HO HRL
  go_loopw [9] (fun iv wr => ∃ i : Nat, 1 ≤ i ∧ i ≤ L.length ∧ iv = .int .i64 i ∧ wr.heap[w.heap.size + 1]? = some (.cells (vrow 2 (spAt 0 0)) 42) ∧ wr.heap[vb]? = some (.cells (vrow 64 (rgf r)) 37) ∧ wr.heap[g]? = some (.cells (vrow (cap * 2) f) 42) ∧ wr.heap[cb]? = some (.cells (vrow 2 (spAt (lbest (rgF r) (L.take i)).1.1 (lbest (rgF r) (L.take i)).1.2)) 42) ∧ Below w.heap.size w wr) (fun iv _ => L.length - (intOf iv).toNat)
  case atStart => exact ⟨1, by omega, by omega, rfl, a2, a3, a5, by rw [e1]; exact a6, a4⟩
  case round =>
    clear a2 a3 a4 a5 a6 e1
    obtain ⟨i, hi1, hi, rfl, Z, V, G, X, hB⟩ := hrel
    have hin := lbest_in (rgF r) (L.take i) (by rw [List.length_take]; omega)
    by_cases hlt : i < L.length
    · have hst := lbest_step (rgF r) L i hi1 hlt
      have HFk := HF.out i hlt
      have HR1 := row_spot f (i * 2) (L[i]'hlt) HFk
      obtain ⟨⟨⟨x, y⟩, hx, hy⟩, hp⟩ : ∃ p, L[i]'hlt = p := ⟨_, rfl⟩
      rw [hp] at hst HR1 HFk
      clear hp
      replace hx : x < 8 := hx
      replace hy : y < 8 := hy
      have HR : Hid (vrow 2 (fun q => f (i * 2 + q)) = vrow 2 (spAt x y)) := HR1
      have HX := Go.Lib.hid (show f (i * 2) = .int .i8 (x : Int) from HFk.1)
      have HY := Go.Lib.hid (show f (i * 2 + 1) = .int .i8 (y : Int) from HFk.2)
      clear HR1 HFk
      generalize lbest (rgF r) (L.take i) = bp at *
      obtain ⟨⟨p, q⟩, bv⟩ := bp
      obtain ⟨hp8, hq8, hbv⟩ := hin
      replace hp8 : p < 8 := hp8
      replace hq8 : q < 8 := hq8
      replace hbv : bv = rgF r p q := hbv
      change lbest (rgF r) (L.take (i + 1)) = (if bv < rgF r x y then ((x, y), rgF r x y) else ((p, q), bv)) at hst
      have b1 : -1 ≤ rgF r x y ∧ rgF r x y ≤ 12800 := hr (8 * y + x)
      have RF1 := Go.Lib.hid (rgf_at r x y)
      have RF2 := Go.Lib.hid (rgf_at r p q)
      rw [← hbv] at RF2
      clear hbv
      generalize rgF r x y = cv at *
      have HST := Go.Lib.hid hst
      clear hst
      have hiI : (i : Int) < (L.length : Int) := by omega
      have hi0 : (0 : Int) ≤ (i : Int) := by omega
      have hid : decide ((i : Int) < (L.length : Int)) = true := by simpa using hiI
      have hxI : (x : Int) < 8 := by omega
      have hyI : (y : Int) < 8 := by omega
      have hpI : (p : Int) < 8 := by omega
      have hqI : (q : Int) < 8 := by omega
      replace Z := Go.Lib.hid Z; replace V := Go.Lib.hid V; replace G := Go.Lib.hid G; replace X := Go.Lib.hid X; replace hB := Go.Lib.hid hB
      go_wp2
      refine wp_region_still_lit (by kernel_rfl) (by kernel_rfl) ?_
      simp only [World.drew_eq]
      repeat (first
        | (refine wpStill_load1 rfl 22 (.tmp 34) rfl g (i * 2 + 1) rfl (cap * 2) f _ _ Tryd.underlying22 rfl G.out (by omega) ?_; rw [HY.out]; simp only [Act.put, List.setIfInBounds_toArray, List.set_cons_succ, List.set_cons_zero])
        | (refine wpStill_load1 rfl 22 (.tmp 39) rfl g (i * 2) rfl (cap * 2) f _ _ Tryd.underlying22 rfl G.out (by omega) ?_; rw [HX.out]; simp only [Act.put, List.setIfInBounds_toArray, List.set_cons_succ, List.set_cons_zero])
        | (refine wpStill_load1 rfl 23 (.tmp 42) rfl vb (y * 8 + x) rfl 64 (rgf r) _ _ Tryd.underlying23 rfl V.out (by omega) ?_; rw [RF1.out]; simp only [Act.put, List.setIfInBounds_toArray, List.set_cons_succ, List.set_cons_zero])
        | (refine wpStill_load1 rfl 22 (.tmp 44) rfl cb 1 rfl 2 (spAt p q) _ _ Tryd.underlying22 rfl X.out (by omega) ?_; rw [spAt_1]; simp only [Act.put, List.setIfInBounds_toArray, List.set_cons_succ, List.set_cons_zero])
        | (refine wpStill_load1 rfl 22 (.tmp 46) rfl cb 0 rfl 2 (spAt p q) _ _ Tryd.underlying22 rfl X.out (by omega) ?_; rw [spAt_0]; simp only [Act.put, List.setIfInBounds_toArray, List.set_cons_succ, List.set_cons_zero])
        | (refine wpStill_load1 rfl 23 (.tmp 49) rfl vb (q * 8 + p) rfl 64 (rgf r) _ _ Tryd.underlying23 rfl V.out (by omega) ?_; rw [RF2.out]; simp only [Act.put, List.setIfInBounds_toArray, List.set_cons_succ, List.set_cons_zero])
        | still_step
        | (refine wpStill_step (fun K hK => ?_); go_simp; simp only [hxI, hyI, hpI, hqI, hiI, if_true]; go_simp; refine hK _ ?_; clear hK K))
      refine wpStill_nil ?_
      have Z2 := drew_row Z.out; have V2 := drew_row V.out; have G2 := drew_row G.out; have X2 := drew_row X.out; have hB2 := hB.out.drew
      clear Z V G X hB
      generalize World.drew wr = w9 at Z2 V2 G2 X2 hB2 ⊢
      by_cases hgt : bv < cv
      · have hd1 : decide (bv < cv) = true := by simpa using hgt
        have HST2 := HST.out
        rw [if_pos hgt] at HST2
        have Z := Go.Lib.hid Z2; have V := Go.Lib.hid V2; have G := Go.Lib.hid G2; have X := Go.Lib.hid X2; have hB := Go.Lib.hid hB2
        clear Z2 V2 G2 X2 hB2
        have HS3 := Go.Lib.hid HST2
        clear HST2 HST
        go_wp2_with (first
          | go_skip
          | ((with_reducible refine wlAt 55 rfl ?_); refine wpList_loadmid rfl 42 (.tmp 54) rfl g (i * 2) rfl (cap * 2) 2 f 42 _ Tryd.underlying42 rfl size_spot G.out (by omega) ?_; rw [HR.out])
          | ((with_reducible refine wlOp (.store 42 (.tmp 8) (.tmp 55)) rfl ?_); refine wpList_storeall rfl 42 (.tmp 8) (.tmp 55) rfl cb rfl 2 (spAt p q) (spAt x y) rfl 42 size_spot X.out (fun i _ => spAt_one _ _ i) ?_; replace Z := Go.Lib.hid (row_set' (g := cb) (by omega) Z.out (vrow 2 (spAt x y))); replace V := Go.Lib.hid (row_set' (g := cb) (by omega) V.out (vrow 2 (spAt x y))); replace G := Go.Lib.hid (row_set' (g := cb) (by omega) G.out (vrow 2 (spAt x y))); replace X := Go.Lib.hid (row_set X.out (vrow 2 (spAt x y))); replace hB := Go.Lib.hid (Below_setRow hB.out (show w.heap.size ≤ cb by omega) (vrow 2 (spAt x y)))))
        go_roundw
        case rel => exact ⟨i + 1, by omega, by omega, by go_num, Z.out, V.out, G.out, by rw [HS3.out]; exact X.out, hB.out⟩
        case measure => simp [intOf]; omega
      · have hd1 : decide (bv < cv) = false := by simpa using hgt
        have HST2 := HST.out
        rw [if_neg hgt] at HST2
        have HS3 := Go.Lib.hid HST2
        clear HST2 HST
        go_wp2
        go_roundw
        case rel => exact ⟨i + 1, by omega, by omega, by go_num, Z2, V2, G2, by rw [HS3.out]; exact X2, hB2⟩
        case measure => simp [intOf]; omega
    · obtain rfl : i = L.length := by omega
      have hid : decide ((L.length : Int) < (L.length : Int)) = false := by simp
      rw [List.take_length] at X hin
      obtain ⟨bp, hbpe⟩ : ∃ bp, lbest (rgF r) L = bp := ⟨_, rfl⟩
      rw [hbpe] at X hin
      have HBP := Go.Lib.hid hbpe
      clear hbpe
      obtain ⟨⟨p, q⟩, bv⟩ := bp
      obtain ⟨hp8, hq8, hbv⟩ := hin
      replace hp8 : p < 8 := hp8
      replace hq8 : q < 8 := hq8
      replace hbv : bv = rgF r p q := hbv
      have b1 : -1 ≤ rgF r p q ∧ rgF r p q ≤ 12800 := hr (8 * q + p)
      have RF2 := Go.Lib.hid (rgf_at r p q)
      rw [← hbv] at RF2 b1
      clear hbv
      have hpI : (p : Int) < 8 := by omega
      have hqI : (q : Int) < 8 := by omega
      replace Z := Go.Lib.hid Z; replace V := Go.Lib.hid V; replace G := Go.Lib.hid G; replace X := Go.Lib.hid X; replace hB := Go.Lib.hid hB
      go_wp2
      refine Code.wp_mono (Q := fun ex a' W' => ex = .normal ∧ a'.tmps.getD 2 undef = .pointer (some ⟨w.heap.size + 1, 0, none⟩) ∧ a'.tmps.getD 3 undef = .int .i64 bv ∧ a'.tmps.getD 4 undef = .int .i64 0 ∧ a'.defers = [] ∧ Below w.heap.size w W' ∧ W'.heap[w.heap.size + 1]? = some (.cells (vrow 2 (spAt p q)) 42)) ?_ ?_
      rotate_left
      · have Vz : wr.drew.heap[w.heap.size + 1]? = some (.cells (vrow 2 (spAt 0 0)) 42) := Z.out
        refine wp_region_held_drew (S := fun W' => W'.heap[cb]? = some (.cells (vrow 2 (spAt p q)) 42) ∧ W'.heap[vb]? = some (.cells (vrow 64 (rgf r)) 37) ∧ Below w.heap.size w W') (by kernel_rfl) ⟨X.out, V.out, hB.out.drew⟩ (fun hH => ?_)
        clear Z V G X hB
        generalize World.drew _ = W4 at hH Vz ⊢
        refine wpAnyH_take (i := 0) (v := (.agg (vrow 2 (spAt p q)))) rfl (by kernel_rfl) (by kernel_rfl) (by kernel_rfl) (fun _ _ _ h => by cases h.1) (yields_row (by kernel_rfl) 42 _ rfl cb rfl 2 (spAt p q) 42 _ Tryd.underlying42 rfl size_spot (fun _ h => h.1)) hH ?_
        (try simp only [Act.put, List.setIfInBounds_toArray, List.set_cons_succ, List.set_cons_zero])
        refine wpAnyH_take (i := 1) (v := (.pointer (some ⟨cb, 1, none⟩))) rfl (by kernel_rfl) (by kernel_rfl) (by kernel_rfl) (fun _ _ _ h => by cases h.1) (.inl ⟨by kernel_rfl, fun w hw => by go_simp⟩) hH ?_
        (try simp only [Act.put, List.setIfInBounds_toArray, List.set_cons_succ, List.set_cons_zero])
        refine wpAnyH_take (i := 2) (v := (.int .i8 (q : Int))) rfl (by kernel_rfl) (by kernel_rfl) (by kernel_rfl) (fun _ _ _ h => by cases h.1) (by rw [show (Value.int .i8 (q : Int)) = spAt p q 1 from rfl]; exact yields_one (by kernel_rfl) 22 _ rfl cb 1 (by kernel_rfl) 2 (spAt p q) 42 _ Tryd.underlying22 rfl (by omega) (fun _ h => h.1)) hH ?_
        (try simp only [Act.put, List.setIfInBounds_toArray, List.set_cons_succ, List.set_cons_zero])
        refine wpAnyH_take (i := 3) (v := (.pointer (some ⟨cb, 0, none⟩))) rfl (by kernel_rfl) (by kernel_rfl) (by kernel_rfl) (fun _ _ _ h => by cases h.1) (.inl ⟨by kernel_rfl, fun w hw => by go_simp⟩) hH ?_
        (try simp only [Act.put, List.setIfInBounds_toArray, List.set_cons_succ, List.set_cons_zero])
        refine wpAnyH_take (i := 4) (v := (.int .i8 (p : Int))) rfl (by kernel_rfl) (by kernel_rfl) (by kernel_rfl) (fun _ _ _ h => by cases h.1) (by rw [show (Value.int .i8 (p : Int)) = spAt p q 0 from rfl]; exact yields_one (by kernel_rfl) 22 _ rfl cb 0 (by kernel_rfl) 2 (spAt p q) 42 _ Tryd.underlying22 rfl (by omega) (fun _ h => h.1)) hH ?_
        (try simp only [Act.put, List.setIfInBounds_toArray, List.set_cons_succ, List.set_cons_zero])
        refine wpAnyH_take (i := 5) (v := (.pointer (some ⟨vb, q * 8, none⟩))) rfl (by kernel_rfl) (by kernel_rfl) (by kernel_rfl) (fun _ _ _ h => by cases h.1) (.inl ⟨by kernel_rfl, fun w hw => by go_simp <;> (intro hh; exfalso; omega)⟩) hH ?_
        (try simp only [Act.put, List.setIfInBounds_toArray, List.set_cons_succ, List.set_cons_zero])
        refine wpAnyH_take (i := 6) (v := (.pointer (some ⟨vb, q * 8 + p, none⟩))) rfl (by kernel_rfl) (by kernel_rfl) (by kernel_rfl) (fun _ _ _ h => by cases h.1) (.inl ⟨by kernel_rfl, fun w hw => by go_simp <;> (intro hh; exfalso; omega)⟩) hH ?_
        (try simp only [Act.put, List.setIfInBounds_toArray, List.set_cons_succ, List.set_cons_zero])
        refine wpAnyH_take (i := 7) (v := (.int .i16 bv)) rfl (by kernel_rfl) (by kernel_rfl) (by kernel_rfl) (fun _ _ _ h => by cases h.1) (by rw [← RF2.out]; exact yields_one (by kernel_rfl) 23 _ rfl vb (q * 8 + p) (by kernel_rfl) 64 (rgf r) 37 _ Tryd.underlying23 rfl (by omega) (fun _ h => h.2.1)) hH ?_
        (try simp only [Act.put, List.setIfInBounds_toArray, List.set_cons_succ, List.set_cons_zero])
        refine wpAnyH_take (i := 8) (v := (.int .i64 bv)) rfl (by kernel_rfl) (by kernel_rfl) (by kernel_rfl) (fun _ _ _ h => by cases h.1) (.inl ⟨by kernel_rfl, fun w hw => by go_simp; rw [IntWalk.i64_in bv (by omega)]⟩) hH ?_
        (try simp only [Act.put, List.setIfInBounds_toArray, List.set_cons_succ, List.set_cons_zero])
        refine wpAnyH_ready (rs := [9]) (by kernel_rfl) (by simp) (AllReadyH.cons rfl (fun K hK => ?_) AllReadyH.nil)
        rw [if_pos (by kernel_rfl)]
        unfold Oper.wp
        rw [run_storemid 42 (.tmp 2) (.tmp 56) rfl (w.heap.size + 1) 0 (by kernel_rfl) 2 2 (spAt 0 0) (spAt p q) (by kernel_rfl) 42 size_spot Vz (by omega) (fun i _ => spAt_one _ _ i), vrow_over_all, Oper.upon_skip]
        have V2 := row_set Vz (vrow 2 (spAt p q))
        have hH2 : (W4.setRow (w.heap.size + 1) (vrow 2 (spAt p q))).heap[cb]? = some (.cells (vrow 2 (spAt p q)) 42) ∧ (W4.setRow (w.heap.size + 1) (vrow 2 (spAt p q))).heap[vb]? = some (.cells (vrow 64 (rgf r)) 37) ∧ Below w.heap.size w (W4.setRow (w.heap.size + 1) (vrow 2 (spAt p q))) := ⟨row_set' (by omega) hH.1 _, row_set' (by omega) hH.2.1 _, Below_setRow hH.2.2 (by omega) _⟩
        clear Vz hH
        generalize World.setRow W4 _ _ = WS at V2 hH2 ⊢
        refine hK.out _ _ hH2 (fun hH => ?_)
        clear hK K hH2
        (try simp only [Act.put, List.setIfInBounds_toArray, List.set_cons_succ, List.set_cons_zero])
        refine wpAnyH_take (i := 10) (v := (.int .i64 bv)) rfl (by kernel_rfl) (by kernel_rfl) (by kernel_rfl) (fun _ _ _ h => by cases h.1) (.inl ⟨by kernel_rfl, fun w hw => by go_simp⟩) hH ?_
        (try simp only [Act.put, List.setIfInBounds_toArray, List.set_cons_succ, List.set_cons_zero])
        refine wpAnyH_take (i := 11) (v := (.int .i64 0)) rfl (by kernel_rfl) (by kernel_rfl) (by kernel_rfl) (fun _ _ _ h => by cases h.1) (.inl ⟨by kernel_rfl, fun w hw => by go_simp⟩) hH ?_
        (try simp only [Act.put, List.setIfInBounds_toArray, List.set_cons_succ, List.set_cons_zero])
        refine wpAnyH_done (by kernel_rfl) ?_ _
        exact ⟨rfl, by kernel_rfl, by kernel_rfl, by kernel_rfl, rfl, hH.2.2, V2⟩
      · rintro e1 a1 W1 ⟨rfl, t4, t5, t6, hdf, hB, Z⟩
        go_wp2
        exact ret_row3 Tryd.results13 (w.heap.size + 1) 2 (spAt p q) 42 _ Tryd.underlying42 rfl size_spot (.int .i64 bv) (.int .i64 0) t4 t5 t6 hdf Z ⟨by rw [HBP.out], hB⟩
end Go.Proofs.YtflmkhjleifbbaaDoor
