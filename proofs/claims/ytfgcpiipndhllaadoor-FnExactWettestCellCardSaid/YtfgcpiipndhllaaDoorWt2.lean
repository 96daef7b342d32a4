import Derived.Deep.RegionHeld3
import Derived.Test.YtfgcpiipndhllaaDoorWt
import Derived.Test.YtfgcpiipndhllaaDoorWettest
namespace Go.Proofs.YtfgcpiipndhllaaDoor
open Go.RowKit
set_option maxRecDepth 100000
set_option linter.unusedVariables false
set_option linter.unusedSimpArgs false
set_option linter.unusedSimpArgs false
set_option maxHeartbeats 400000 in
theorem implWt_bad (s : Sh) (e : ErrE) (w : World) (hE : Errs e w) (hv : okI s = false) (hf : s.fit := by assumption) : Calls Tryd.prog 16 #[.agg s.row] w fun o w' => o = .returned (.tuple #[.agg (vrow 2 (spAt 0 0)), .int .i64 0, .int .i64 1]) ∧ Below w.heap.size w w' := by
  have HC := Go.Lib.hid fun w hE => checkSheet_bad s hv e w hE
  clear hv
  have zs := zero_spot
  have hB : Hid (Below w.heap.size w ((w.alloc (.cells (vrow 266 s.at) 36)).alloc (.cells (vrow 2 (spAt 0 0)) 33))) := (((Below.refl w.heap.size w).alloc (by simp <;> omega) _).alloc (by simp <;> omega) _)
  have P : Hid (((w.alloc (.cells (vrow 266 s.at) 36)).alloc (.cells (vrow 2 (spAt 0 0)) 33)).heap[(w.heap.size)]? = some (.cells (vrow 266 s.at) 36)) := heap_past _ _ _ _ (by first | omega | (simp <;> omega)) (heap_at _ _ _ (by simp))
  have Z : Hid (((w.alloc (.cells (vrow 266 s.at) 36)).alloc (.cells (vrow 2 (spAt 0 0)) 33)).heap[(w.heap.size + 1)]? = some (.cells (vrow 2 (spAt 0 0)) 33)) := heap_at _ _ _ (by simp)
  have E : Hid (Errs e ((w.alloc (.cells (vrow 266 s.at) 36)).alloc (.cells (vrow 2 (spAt 0 0)) 33))) := ((hE).alloc _).alloc _
  go_enter Tryd.func16, Tryd.ntmps16
  go_wp2_with (first
    | (refine wpList_built rfl 33 [] rfl [] (by rfl) _ built_zspot ?_)
    | (refine wpList_loadall rfl 36 (.tmp 1) rfl _ rfl 266 s.at 36 _ Tryd.underlying36 rfl size_sheet P.out ?_)
    | (refine wpList_storeall rfl 33 (.tmp 2) (.tmp 13) rfl (w.heap.size + 1) rfl 2 (spAt 0 0) (spAt 0 0) rfl 33 size_spot Z.out (fun i _ => spAt_one _ _ i) ?_; replace Z := Go.Lib.hid (row_set Z.out (vrow 2 (spAt 0 0))); replace hB := Go.Lib.hid (Below_setRow hB.out (show w.heap.size ≤ w.heap.size + 1 by omega) (vrow 2 (spAt 0 0))))
    | (go_at_call 61; (refine (HC.out _ E.out).mono ?_; rintro e w1 ⟨rfl, hb⟩; replace P := Go.Lib.hid (row_next hb P.out); replace Z := Go.Lib.hid (row_next hb Z.out); replace hB := Go.Lib.hid (below_next hB.out hb); replace E := Go.Lib.hid (E.out.next hb); clear hb ))
    | (go_at_call 62; (refine (codeOf_1 e _ E.out).mono ?_; rintro e w1 ⟨rfl, hb⟩; replace P := Go.Lib.hid (row_next hb P.out); replace Z := Go.Lib.hid (row_next hb Z.out); replace hB := Go.Lib.hid (below_next hB.out hb); replace E := Go.Lib.hid (E.out.next hb); clear hb ))
    | (refine list_at 9 rfl ?_; intro W hW; rw [hW] at hB E P Z; clear hW; have P' := Go.Lib.hid (cls_row' P.out); have Z' := Go.Lib.hid (cls_row' Z.out); (repeat (first | go_big_quiet_skip | (refine wpQuiet_loadmid 36 _ rfl (by first | exact want_n rfl | exact want_g _ _ _ rfl rfl rfl) (w.heap.size) _ rfl 266 266 s.at _ rw_sheet size_sheet P'.out (by omega) ?_; rw [sh_row]; simp only [Act.put, List.setIfInBounds_toArray, List.set_cons_succ, List.set_cons_zero]) | go_big_quiet_step (first | (go_at_call 61; exact cls_call _ (fun w hw => HC.out w (E.out.next hw))) | (go_at_call 62; exact cls_call _ (fun w hw => codeOf_1 e w (E.out.next hw)))))); refine wpQuiet_nil ?_; intro Wn hb; replace P := Go.Lib.hid (row_next hb P.out); replace Z := Go.Lib.hid (row_next hb Z.out); replace hB := Go.Lib.hid (below_next hB.out hb); replace E := Go.Lib.hid (E.out.next hb); clear hb P' Z'))
  exact ret_row3 Tryd.results16 (w.heap.size + 1) 2 (spAt 0 0) 33 _ Tryd.underlying33 rfl size_spot (.int .i64 0) (.int .i64 1) rfl rfl rfl rfl Z.out ⟨rfl, hB.out⟩
set_option maxHeartbeats 4000000 in
theorem implWt_ok (s : Sh) (e : ErrE) (w : World) (hE : Err6 e w) (hf : s.fit) (hv : okI s = true) (a c : Nat) (ea : s.wide = a) (ec : s.high = c) (ha : 1 ≤ a ∧ a ≤ 8) (hc : 1 ≤ c ∧ c ≤ 8) : Calls Tryd.prog 16 #[.agg s.row] w fun o w' => o = .returned (specRes (best (wetF s) (cellsL a c))) ∧ Below w.heap.size w w' := by
  have HC := Go.Lib.hid fun w hE => checkSheet_ok s hv e w hE
  have HFi := Go.Lib.hid fun w hE => wettest_any s e w hE hf hv a c ea ec ha hc
  clear hv hf ea ec ha hc
  obtain ⟨bp, hbp⟩ : ∃ bp, best (wetF s) (cellsL a c) = bp := ⟨_, rfl⟩
  rw [hbp] at HFi ⊢
  clear hbp
  have zs := zero_spot
  have hB : Hid (Below w.heap.size w ((w.alloc (.cells (vrow 266 s.at) 36)).alloc (.cells (vrow 2 (spAt 0 0)) 33))) := (((Below.refl w.heap.size w).alloc (by simp <;> omega) _).alloc (by simp <;> omega) _)
  have P : Hid (((w.alloc (.cells (vrow 266 s.at) 36)).alloc (.cells (vrow 2 (spAt 0 0)) 33)).heap[(w.heap.size)]? = some (.cells (vrow 266 s.at) 36)) := heap_past _ _ _ _ (by first | omega | (simp <;> omega)) (heap_at _ _ _ (by simp))
  have Z : Hid (((w.alloc (.cells (vrow 266 s.at) 36)).alloc (.cells (vrow 2 (spAt 0 0)) 33)).heap[(w.heap.size + 1)]? = some (.cells (vrow 2 (spAt 0 0)) 33)) := heap_at _ _ _ (by simp)
  have E : Hid (Err6 e ((w.alloc (.cells (vrow 266 s.at) 36)).alloc (.cells (vrow 2 (spAt 0 0)) 33))) := ((hE).alloc _).alloc _
  by_cases h0 : bp.2 = 0
  · have hfr := firstRes_no (ev := errP e 6) h0
    have HR := Go.Lib.hid hfr
    rw [specRes_no h0]
    clear hfr
    go_enter Tryd.func16, Tryd.ntmps16
    go_wp2_with (first
      | (refine wpList_loadall rfl 36 (.tmp 1) rfl _ rfl 266 s.at 36 _ Tryd.underlying36 rfl size_sheet P.out ?_)
      | (go_at_call 61; (refine (HC.out _ E.out.base).mono ?_; rintro o w1 ⟨rfl, hb⟩; replace P := Go.Lib.hid (row_next hb P.out); replace Z := Go.Lib.hid (row_next hb Z.out); replace hB := Go.Lib.hid (below_next hB.out hb); replace E := Go.Lib.hid (E.out.next hb); clear hb))
      | (go_at_call 63; (refine (HFi.out _ E.out).mono ?_; rintro o w2 ⟨rfl, hb⟩; replace P := Go.Lib.hid (row_next hb P.out); replace Z := Go.Lib.hid (row_next hb Z.out); replace hB := Go.Lib.hid (below_next hB.out hb); replace E := Go.Lib.hid (E.out.next hb); clear hb; rw [HR.out]))
      | (refine wpList_storeall rfl 33 (.tmp 6) (.tmp 19) rfl _ rfl 2 (spAt 0 0) (spAt 0 0) rfl 33 size_spot (heap_at _ _ _ rfl) (fun i _ => spAt_one _ _ i) ?_; rw [setRow_at _ _ _ _ _ rfl]; have n0 := row_lt P.out; have n1 := row_lt Z.out; have V := Go.Lib.hid (heap_at w2 (.cells (vrow 2 (spAt 0 0)) 33) _ rfl); replace P := Go.Lib.hid (heap_past _ (.cells (vrow 2 (spAt 0 0)) 33) _ _ n0 P.out); replace Z := Go.Lib.hid (heap_past _ (.cells (vrow 2 (spAt 0 0)) 33) _ _ n1 Z.out); have hsz := hB.out.size; replace hB := Go.Lib.hid (hB.out.alloc hsz (.cells (vrow 2 (spAt 0 0)) 33)); replace E := Go.Lib.hid (E.out.alloc (.cells (vrow 2 (spAt 0 0)) 33)); generalize hbv : w2.heap.size = bv at V n0 n1 hsz ⊢; generalize w2.alloc _ = W2 at P Z V hB E ⊢; clear hbv))
    have nbw := row_lt V.out
    refine Code.wp_mono (Q := fun ex a' W' => ex = .normal ∧ a'.tmps.getD 2 undef = .pointer (some ⟨w.heap.size + 1, 0, none⟩) ∧ a'.tmps.getD 3 undef = .int .i64 0 ∧ a'.tmps.getD 4 undef = .int .i64 6 ∧ a'.defers = [] ∧ Below w.heap.size w W' ∧ W'.heap[w.heap.size + 1]? = some (.cells (vrow 2 (spAt 0 0)) 33)) ?_ ?_
    rotate_left
    · have Vz : W2.drew.heap[w.heap.size + 1]? = some (.cells (vrow 2 (spAt 0 0)) 33) := Z.out
      refine wp_region_held_drew (S := fun W' => Below w.heap.size w W' ∧ W'.heap[bv]? = some (.cells (vrow 2 (spAt 0 0)) 33)) (by kernel_rfl) ⟨hB.out.drew, V.out⟩ (fun hH => ?_)
      clear hB Z V E P
      generalize World.drew _ = W4 at hH Vz ⊢
      refine wpAnyH_take (i := 0) (v := (.agg (vrow 2 (spAt 0 0)))) rfl (by kernel_rfl) (by kernel_rfl) (by kernel_rfl) (fun _ _ _ h => by cases h.1) (yields_row (by rfl) 33 _ rfl bv rfl 2 (spAt 0 0) 33 _ Tryd.underlying33 rfl size_spot (fun _ h => h.2)) hH ?_
      (try simp only [Act.put, List.setIfInBounds_toArray, List.set_cons_succ, List.set_cons_zero])
      refine wpAnyH_take (i := 1) (v := (.int .i64 0)) rfl (by kernel_rfl) (by kernel_rfl) (by kernel_rfl) (fun _ _ _ h => by cases h.1) (.inl ⟨by rfl, fun w _ => by go_simp⟩) hH ?_
      (try simp only [Act.put, List.setIfInBounds_toArray, List.set_cons_succ, List.set_cons_zero])
      refine wpAnyH_take (i := 2) (v := (errP e 6)) rfl (by kernel_rfl) (by kernel_rfl) (by kernel_rfl) (fun _ _ _ h => by cases h.1) (.inl ⟨by rfl, fun w _ => by go_simp⟩) hH ?_
      (try simp only [Act.put, List.setIfInBounds_toArray, List.set_cons_succ, List.set_cons_zero])
      refine wpAnyH_ready (rs := [3]) (by kernel_rfl) (by simp) (AllReadyH.cons rfl (fun K hK => ?_) AllReadyH.nil)
      rw [if_pos (by rfl)]
      go_simp
      go_at_call 62
      refine (codeOf_6 e _ (hE.next hH.1)).mono ?_
      rintro o X1 ⟨rfl, hb⟩
      replace hH : Below w.heap.size w X1 ∧ X1.heap[bv]? = some (.cells (vrow 2 (spAt 0 0)) 33) := ⟨hH.1.trans (hb.mono hH.1.size), row_next hb hH.2⟩
      replace Vz := row_next hb Vz
      clear hb
      refine hK.out _ _ hH (fun hH => ?_)
      clear hK K
      (try simp only [Act.put, List.setIfInBounds_toArray, List.set_cons_succ, List.set_cons_zero])
      refine wpAnyH_ready (rs := [4]) (by kernel_rfl) (by simp) (AllReadyH.cons rfl (fun K hK => ?_) AllReadyH.nil)
      rw [if_pos (by rfl)]
      unfold Oper.wp
      rw [run_storemid 33 (.tmp 2) (.tmp 22) rfl (w.heap.size + 1) 0 rfl 2 2 (spAt 0 0) (spAt 0 0) rfl 33 size_spot Vz (by omega) (fun i _ => spAt_one _ _ i), vrow_over_all, Oper.upon_skip]
      have V2 := row_set Vz (vrow 2 (spAt 0 0))
      have hH2 : Below w.heap.size w (X1.setRow (w.heap.size + 1) (vrow 2 (spAt 0 0))) ∧ (X1.setRow (w.heap.size + 1) (vrow 2 (spAt 0 0))).heap[bv]? = some (.cells (vrow 2 (spAt 0 0)) 33) := ⟨Below_setRow hH.1 (by omega) _, row_set' (by omega) hH.2 _⟩
      clear Vz
      generalize World.setRow X1 _ _ = WS at V2 hH2 ⊢
      refine hK.out _ _ hH2 (fun hH => ?_)
      clear hK K hH2
      (try simp only [Act.put, List.setIfInBounds_toArray, List.set_cons_succ, List.set_cons_zero])
      refine wpAnyH_take (i := 5) (v := (.int .i64 0)) rfl (by kernel_rfl) (by kernel_rfl) (by kernel_rfl) (fun _ _ _ h => by cases h.1) (.inl ⟨by rfl, fun w _ => by go_simp⟩) hH ?_
      (try simp only [Act.put, List.setIfInBounds_toArray, List.set_cons_succ, List.set_cons_zero])
      refine wpAnyH_take (i := 6) (v := (.int .i64 6)) rfl (by kernel_rfl) (by kernel_rfl) (by kernel_rfl) (fun _ _ _ h => by cases h.1) (.inl ⟨by rfl, fun w _ => by go_simp⟩) hH ?_
      (try simp only [Act.put, List.setIfInBounds_toArray, List.set_cons_succ, List.set_cons_zero])
      refine wpAnyH_done (by kernel_rfl) ?_ _
      exact ⟨rfl, rfl, rfl, rfl, rfl, hH.1, V2⟩
    · rintro e1 a1 W1 ⟨rfl, t4, t5, t6, hdf, hB, Z⟩
      go_wp2
      exact ret_row3 Tryd.results16 (w.heap.size + 1) 2 (spAt 0 0) 33 _ Tryd.underlying33 rfl size_spot (.int .i64 0) (.int .i64 6) t4 t5 t6 hdf Z ⟨rfl, hB⟩
  · have hfr := firstRes_yes (ev := errP e 6) h0
    have HR := Go.Lib.hid hfr
    rw [specRes_yes h0]
    clear hfr
    go_enter Tryd.func16, Tryd.ntmps16
    go_wp2_with (first
      | (refine wpList_loadall rfl 36 (.tmp 1) rfl _ rfl 266 s.at 36 _ Tryd.underlying36 rfl size_sheet P.out ?_)
      | (go_at_call 61; (refine (HC.out _ E.out.base).mono ?_; rintro o w1 ⟨rfl, hb⟩; replace P := Go.Lib.hid (row_next hb P.out); replace Z := Go.Lib.hid (row_next hb Z.out); replace hB := Go.Lib.hid (below_next hB.out hb); replace E := Go.Lib.hid (E.out.next hb); clear hb))
      | (go_at_call 63; (refine (HFi.out _ E.out).mono ?_; rintro o w2 ⟨rfl, hb⟩; replace P := Go.Lib.hid (row_next hb P.out); replace Z := Go.Lib.hid (row_next hb Z.out); replace hB := Go.Lib.hid (below_next hB.out hb); replace E := Go.Lib.hid (E.out.next hb); clear hb; rw [HR.out]))
      | (refine wpList_storeall rfl 33 (.tmp 6) (.tmp 19) rfl _ rfl 2 (spAt 0 0) (spAt bp.1.1 bp.1.2) rfl 33 size_spot (heap_at _ _ _ rfl) (fun i _ => spAt_one _ _ i) ?_; rw [setRow_at _ _ _ _ _ rfl]; have n0 := row_lt P.out; have n1 := row_lt Z.out; have V := Go.Lib.hid (heap_at w2 (.cells (vrow 2 (spAt bp.1.1 bp.1.2)) 33) _ rfl); replace P := Go.Lib.hid (heap_past _ (.cells (vrow 2 (spAt bp.1.1 bp.1.2)) 33) _ _ n0 P.out); replace Z := Go.Lib.hid (heap_past _ (.cells (vrow 2 (spAt bp.1.1 bp.1.2)) 33) _ _ n1 Z.out); have hsz := hB.out.size; replace hB := Go.Lib.hid (hB.out.alloc hsz (.cells (vrow 2 (spAt bp.1.1 bp.1.2)) 33)); replace E := Go.Lib.hid (E.out.alloc (.cells (vrow 2 (spAt bp.1.1 bp.1.2)) 33)); generalize hbv : w2.heap.size = bv at V n0 n1 hsz ⊢; generalize w2.alloc _ = W2 at P Z V hB E ⊢; clear hbv))
    have nbw := row_lt V.out
    refine Code.wp_mono (Q := fun ex a' W' => ex = .normal ∧ a'.tmps.getD 2 undef = .pointer (some ⟨w.heap.size + 1, 0, none⟩) ∧ a'.tmps.getD 3 undef = .int .i64 bp.2 ∧ a'.tmps.getD 4 undef = .int .i64 0 ∧ a'.defers = [] ∧ Below w.heap.size w W' ∧ W'.heap[w.heap.size + 1]? = some (.cells (vrow 2 (spAt bp.1.1 bp.1.2)) 33)) ?_ ?_
    rotate_left
    · have Vz : W2.drew.heap[w.heap.size + 1]? = some (.cells (vrow 2 (spAt 0 0)) 33) := Z.out
      refine wp_region_held_drew (S := fun W' => Below w.heap.size w W' ∧ W'.heap[bv]? = some (.cells (vrow 2 (spAt bp.1.1 bp.1.2)) 33)) (by kernel_rfl) ⟨hB.out.drew, V.out⟩ (fun hH => ?_)
      clear hB Z V E P
      generalize World.drew _ = W4 at hH Vz ⊢
      refine wpAnyH_take (i := 0) (v := (.agg (vrow 2 (spAt bp.1.1 bp.1.2)))) rfl (by kernel_rfl) (by kernel_rfl) (by kernel_rfl) (fun _ _ _ h => by cases h.1) (yields_row (by rfl) 33 _ rfl bv rfl 2 (spAt bp.1.1 bp.1.2) 33 _ Tryd.underlying33 rfl size_spot (fun _ h => h.2)) hH ?_
      (try simp only [Act.put, List.setIfInBounds_toArray, List.set_cons_succ, List.set_cons_zero])
      refine wpAnyH_take (i := 1) (v := (.int .i64 bp.2)) rfl (by kernel_rfl) (by kernel_rfl) (by kernel_rfl) (fun _ _ _ h => by cases h.1) (.inl ⟨by rfl, fun w _ => by go_simp⟩) hH ?_
      (try simp only [Act.put, List.setIfInBounds_toArray, List.set_cons_succ, List.set_cons_zero])
      refine wpAnyH_take (i := 2) (v := (.nilIface)) rfl (by kernel_rfl) (by kernel_rfl) (by kernel_rfl) (fun _ _ _ h => by cases h.1) (.inl ⟨by rfl, fun w _ => by go_simp⟩) hH ?_
      (try simp only [Act.put, List.setIfInBounds_toArray, List.set_cons_succ, List.set_cons_zero])
      refine wpAnyH_ready (rs := [3]) (by kernel_rfl) (by simp) (AllReadyH.cons rfl (fun K hK => ?_) AllReadyH.nil)
      rw [if_pos (by rfl)]
      go_simp
      go_at_call 62
      refine (codeOf_nil _).mono ?_
      rintro o X1 ⟨rfl, hb⟩
      replace hH : Below w.heap.size w X1 ∧ X1.heap[bv]? = some (.cells (vrow 2 (spAt bp.1.1 bp.1.2)) 33) := ⟨hH.1.trans (hb.mono hH.1.size), row_next hb hH.2⟩
      replace Vz := row_next hb Vz
      clear hb
      refine hK.out _ _ hH (fun hH => ?_)
      clear hK K
      (try simp only [Act.put, List.setIfInBounds_toArray, List.set_cons_succ, List.set_cons_zero])
      refine wpAnyH_ready (rs := [4]) (by kernel_rfl) (by simp) (AllReadyH.cons rfl (fun K hK => ?_) AllReadyH.nil)
      rw [if_pos (by rfl)]
      unfold Oper.wp
      rw [run_storemid 33 (.tmp 2) (.tmp 22) rfl (w.heap.size + 1) 0 rfl 2 2 (spAt 0 0) (spAt bp.1.1 bp.1.2) rfl 33 size_spot Vz (by omega) (fun i _ => spAt_one _ _ i), vrow_over_all, Oper.upon_skip]
      have V2 := row_set Vz (vrow 2 (spAt bp.1.1 bp.1.2))
      have hH2 : Below w.heap.size w (X1.setRow (w.heap.size + 1) (vrow 2 (spAt bp.1.1 bp.1.2))) ∧ (X1.setRow (w.heap.size + 1) (vrow 2 (spAt bp.1.1 bp.1.2))).heap[bv]? = some (.cells (vrow 2 (spAt bp.1.1 bp.1.2)) 33) := ⟨Below_setRow hH.1 (by omega) _, row_set' (by omega) hH.2 _⟩
      clear Vz
      generalize World.setRow X1 _ _ = WS at V2 hH2 ⊢
      refine hK.out _ _ hH2 (fun hH => ?_)
      clear hK K hH2
      (try simp only [Act.put, List.setIfInBounds_toArray, List.set_cons_succ, List.set_cons_zero])
      refine wpAnyH_take (i := 5) (v := (.int .i64 bp.2)) rfl (by kernel_rfl) (by kernel_rfl) (by kernel_rfl) (fun _ _ _ h => by cases h.1) (.inl ⟨by rfl, fun w _ => by go_simp⟩) hH ?_
      (try simp only [Act.put, List.setIfInBounds_toArray, List.set_cons_succ, List.set_cons_zero])
      refine wpAnyH_take (i := 6) (v := (.int .i64 0)) rfl (by kernel_rfl) (by kernel_rfl) (by kernel_rfl) (fun _ _ _ h => by cases h.1) (.inl ⟨by rfl, fun w _ => by go_simp⟩) hH ?_
      (try simp only [Act.put, List.setIfInBounds_toArray, List.set_cons_succ, List.set_cons_zero])
      refine wpAnyH_done (by kernel_rfl) ?_ _
      exact ⟨rfl, rfl, rfl, rfl, rfl, hH.1, V2⟩
    · rintro e1 a1 W1 ⟨rfl, t4, t5, t6, hdf, hB, Z⟩
      go_wp2
      exact ret_row3 Tryd.results16 (w.heap.size + 1) 2 (spAt bp.1.1 bp.1.2) 33 _ Tryd.underlying33 rfl size_spot (.int .i64 bp.2) (.int .i64 0) t4 t5 t6 hdf Z ⟨rfl, hB⟩
set_option maxHeartbeats 400000 in
theorem eqSpot_any (p q : Int) (w : World) : Calls Tryd.prog 17 #[.agg (vrow 2 (spAt p q)), .agg (vrow 2 (spAt p q))] w fun e w' => e = .returned (.bool true) ∧ Below w.heap.size w w' := by
  have hB : Hid (Below w.heap.size w ((w.alloc (.cells (vrow 2 (spAt p q)) 33)).alloc (.cells (vrow 2 (spAt p q)) 33))) := (((Below.refl w.heap.size w).alloc (by simp <;> omega) _).alloc (by simp <;> omega) _)
  have A : Hid (((w.alloc (.cells (vrow 2 (spAt p q)) 33)).alloc (.cells (vrow 2 (spAt p q)) 33)).heap[(w.heap.size)]? = some (.cells (vrow 2 (spAt p q)) 33)) := heap_past _ _ _ _ (by first | omega | (simp <;> omega)) (heap_at _ _ _ (by simp))
  have R : Hid (((w.alloc (.cells (vrow 2 (spAt p q)) 33)).alloc (.cells (vrow 2 (spAt p q)) 33)).heap[(w.heap.size + 1)]? = some (.cells (vrow 2 (spAt p q)) 33)) := heap_at _ _ _ (by simp)
  go_enter Tryd.func17, Tryd.ntmps17
  go_wp2_with (first
    | (refine list_at 6 rfl ?_; intro W hW; rw [hW] at hB A R; clear hW; have A' := Go.Lib.hid (cls_row' A.out); have R' := Go.Lib.hid (cls_row' R.out); (repeat (first | go_big_quiet_skip | (refine wpQuiet_load1 22 _ rfl (by first | exact want_n rfl | exact want_g _ _ _ rfl rfl rfl) (w.heap.size) _ rfl 2 (spAt p q) _ rw_i8 A'.out (by omega) ?_; (first | rw [spAt_0] | rw [spAt_1]); simp only [Act.put, List.setIfInBounds_toArray, List.set_cons_succ, List.set_cons_zero]) | (refine wpQuiet_load1 22 _ rfl (by first | exact want_n rfl | exact want_g _ _ _ rfl rfl rfl) (w.heap.size + 1) _ rfl 2 (spAt p q) _ rw_i8 R'.out (by omega) ?_; (first | rw [spAt_0] | rw [spAt_1]); simp only [Act.put, List.setIfInBounds_toArray, List.set_cons_succ, List.set_cons_zero]) | go_big_quiet_step (fail))); refine wpQuiet_nil ?_; intro Wn hb; replace A := Go.Lib.hid (row_next hb A.out); replace R := Go.Lib.hid (row_next hb R.out); replace hB := Go.Lib.hid (below_next hB.out hb); clear hb A' R')
    | (refine list_at 11 rfl ?_; intro W hW; rw [hW] at hB A R; clear hW; have A' := Go.Lib.hid (cls_row' A.out); have R' := Go.Lib.hid (cls_row' R.out); (repeat (first | go_big_quiet_skip | (refine wpQuiet_load1 22 _ rfl (by first | exact want_n rfl | exact want_g _ _ _ rfl rfl rfl) (w.heap.size) _ rfl 2 (spAt p q) _ rw_i8 A'.out (by omega) ?_; (first | rw [spAt_0] | rw [spAt_1]); simp only [Act.put, List.setIfInBounds_toArray, List.set_cons_succ, List.set_cons_zero]) | (refine wpQuiet_load1 22 _ rfl (by first | exact want_n rfl | exact want_g _ _ _ rfl rfl rfl) (w.heap.size + 1) _ rfl 2 (spAt p q) _ rw_i8 R'.out (by omega) ?_; (first | rw [spAt_0] | rw [spAt_1]); simp only [Act.put, List.setIfInBounds_toArray, List.set_cons_succ, List.set_cons_zero]) | go_big_quiet_step (fail))); refine wpQuiet_nil ?_; intro Wn hb; replace A := Go.Lib.hid (row_next hb A.out); replace R := Go.Lib.hid (row_next hb R.out); replace hB := Go.Lib.hid (below_next hB.out hb); clear hb A' R'))
  go_ret
  exact ⟨rfl, hB.out⟩
set_option maxHeartbeats 4000000 in
theorem Wt_walk (s : Sh) (p q : Int) (c : Int) (d : Int) (e : ErrE) (w : World) (hE : Err6 e w)
    (hS : ∀ w, Calls Tryd.prog 14 #[.agg s.row] w fun e w' => e = .returned (.tuple #[.agg #[.int .i8 p, .int .i8 q], .int .i64 c, .int .i64 d]) ∧ Below w.heap.size w w')
    (hI : ∀ w, Err6 e w → Calls Tryd.prog 16 #[.agg s.row] w fun e w' => e = .returned (.tuple #[.agg #[.int .i8 p, .int .i8 q], .int .i64 c, .int .i64 d]) ∧ Below w.heap.size w w') : Calls Tryd.prog 3 #[.agg s.row] w fun o w' => o = .returned (.bool true) ∧ Below w.heap.size w w' := by
  have zz := zero_sheet
  have zs := zero_spot
  have HT0 := Go.Lib.hid (fun w => toSheet_any s w)
  simp only [sp_vrow] at hS hI
  have HS := Go.Lib.hid hS; have HI := Go.Lib.hid hI
  clear hS hI
  have hB : Hid (Below w.heap.size w (w.alloc (.cells (vrow 266 s.at) 31))) := ((Below.refl w.heap.size w).alloc (by simp <;> omega) _)
  have P0 : Hid ((w.alloc (.cells (vrow 266 s.at) 31)).heap[(w.heap.size)]? = some (.cells (vrow 266 s.at) 31)) := heap_at _ _ _ (by simp)
  go_enter Tryd.func3, Tryd.ntmps3
  go_wp2_with (first
    | (refine wpList_loadall rfl 31 (.tmp 1) rfl _ rfl 266 s.at 31 _ Tryd.underlying31 rfl size_lsheet P0.out ?_)
    | (go_at_call 15; refine (HT0.out _).mono ?_; rintro o w1 ⟨rfl, hb⟩; replace P0 := Go.Lib.hid (row_next hb P0.out); (try (replace V5 := Go.Lib.hid (row_next hb V5.out))); replace hB := Go.Lib.hid (below_next hB.out hb); clear hb)
    | (go_at_call 14; refine (HS.out _).mono ?_; rintro o w5 ⟨rfl, hb⟩; replace P0 := Go.Lib.hid (row_next hb P0.out); replace hB := Go.Lib.hid (below_next hB.out hb); clear hb)
    | (refine wpList_storeall rfl 33 (.tmp 3) (.tmp 13) rfl _ rfl 2 (spAt 0 0) (spAt p q) rfl 33 size_spot (heap_at _ _ _ rfl) (fun i _ => spAt_one _ _ i) ?_; rw [setRow_at _ _ _ _ _ rfl]; replace P0 := Go.Lib.hid (heap_past _ (.cells (vrow 2 (spAt p q)) 33) _ _ (row_lt P0.out) P0.out); have V5 := Go.Lib.hid (heap_at w5 (.cells (vrow 2 (spAt p q)) 33) _ rfl); replace hB := Go.Lib.hid (hB.out.alloc hB.out.size (.cells (vrow 2 (spAt p q)) 33)); generalize hbvV5 : w5.heap.size = bV5 at V5 ⊢; generalize w5.alloc _ = W5 at hB V5 P0 ⊢; clear hbvV5)
    | (go_at_call 16; refine (HI.out _ (hE.next hB.out)).mono ?_; rintro o w7 ⟨rfl, hb⟩; replace P0 := Go.Lib.hid (row_next hb P0.out); (try (replace V5 := Go.Lib.hid (row_next hb V5.out))); replace hB := Go.Lib.hid (below_next hB.out hb); clear hb)
    | (refine wpList_storeall rfl 33 (.tmp 6) (.tmp 20) rfl _ rfl 2 (spAt 0 0) (spAt p q) rfl 33 size_spot (heap_at _ _ _ rfl) (fun i _ => spAt_one _ _ i) ?_; rw [setRow_at _ _ _ _ _ rfl]; replace P0 := Go.Lib.hid (heap_past _ (.cells (vrow 2 (spAt p q)) 33) _ _ (row_lt P0.out) P0.out); replace V5 := Go.Lib.hid (heap_past _ (.cells (vrow 2 (spAt p q)) 33) _ _ (row_lt V5.out) V5.out); have V7 := Go.Lib.hid (heap_at w7 (.cells (vrow 2 (spAt p q)) 33) _ rfl); replace hB := Go.Lib.hid (hB.out.alloc hB.out.size (.cells (vrow 2 (spAt p q)) 33)); generalize hbvV7 : w7.heap.size = bV7 at V7 ⊢; generalize w7.alloc _ = W7 at hB V7 P0 V5 ⊢; clear hbvV7)
    | (refine wpList_loadall rfl 33 (.tmp 6) rfl _ rfl 2 (spAt p q) 33 _ Tryd.underlying33 rfl size_spot V7.out ?_)
    | (refine wpList_loadall rfl 33 (.tmp 3) rfl _ rfl 2 (spAt p q) 33 _ Tryd.underlying33 rfl size_spot V5.out ?_)
    | (go_at_call 17; refine (eqSpot_any p q _).mono ?_; rintro o w3 ⟨rfl, hb⟩; replace hB := Go.Lib.hid (below_next hB.out hb); clear hb))
  go_ret
  exact ⟨rfl, hB.out⟩
theorem Wt_law (s : Sh) (e : ErrE) (w : World) (hE : Err6 e w) (hf : s.fit) : Calls Tryd.prog 3 #[.agg s.row] w fun o w' => o = .returned (.bool true) ∧ Below w.heap.size w w' := by
  cases hv : okI s
  · exact Wt_walk s 0 0 0 1 e w hE (fun w => specWt_bad s w hf hv) (fun w hE => implWt_bad s e w hE.base hv)
  · have hw : 1 ≤ s.wide ∧ s.wide ≤ 8 ∧ 1 ≤ s.high ∧ s.high ≤ 8 := by
      simp only [okI, Bool.and_eq_true, decide_eq_true_eq] at hv
      omega
    obtain ⟨a, ha⟩ : ∃ a : Nat, s.wide = a := ⟨s.wide.toNat, by omega⟩
    obtain ⟨c, hc⟩ : ∃ c : Nat, s.high = c := ⟨s.high.toNat, by omega⟩
    have hS := fun w => specWt_ok s w hf hv a c ha hc (by omega) (by omega)
    have hI := fun w hE => implWt_ok s e w hE hf hv a c ha hc (by omega) (by omega)
    generalize best (wetF s) (cellsL a c) = b at hS hI
    by_cases h0 : b.2 = 0
    · simp only [specRes_no h0] at hS hI
      exact Wt_walk s 0 0 0 6 e w hE hS hI
    · simp only [specRes_yes h0] at hS hI
      exact Wt_walk s b.1.1 b.1.2 b.2 0 e w hE hS hI
end Go.Proofs.YtfgcpiipndhllaaDoor
