import Derived.Deep.RegionHeld3
import Derived.Test.YtflmkhjleifbbaaDoorRB2
import Derived.Test.YtflmkhjleifbbaaDoorG1
import Derived.Test.YtflmkhjleifbbaaDoorRA
import Derived.Test.YtflmkhjleifbbaaDoorEqs
import Derived.Test.YtflmkhjleifbbaaDoorCodeOf
import Derived.Test.YtflmkhjleifbbaaDoorNorm
namespace Go.Proofs.YtflmkhjleifbbaaDoor
open Go.RowKit
set_option maxRecDepth 100000
set_option linter.unusedVariables false
set_option linter.unusedSimpArgs false
set_option maxHeartbeats 400000 in
theorem implLW_bad (s : Sh) (e : ErrE) (w : World) (hE : Errs e w) (hv : okI s = false) (hf : s.fit := by assumption) : Calls Tryd.prog 14 #[.agg s.row] w fun o w' => o = .returned (.tuple #[.agg (vrow 2 (spAt 0 0)), .int .i64 0, .int .i64 1]) ∧ Below w.heap.size w w' := by
  have HC := Go.Lib.hid fun w hE => checkSheet_bad s hv e w hE
  clear hv
  have zs := zero_spot
  have hB : Hid (Below w.heap.size w ((w.alloc (.cells (vrow 266 s.at) 34)).alloc (.cells (vrow 2 (spAt 0 0)) 42))) := (((Below.refl w.heap.size w).alloc (by simp <;> omega) _).alloc (by simp <;> omega) _)
  have P : Hid (((w.alloc (.cells (vrow 266 s.at) 34)).alloc (.cells (vrow 2 (spAt 0 0)) 42)).heap[(w.heap.size)]? = some (.cells (vrow 266 s.at) 34)) := heap_past _ _ _ _ (by first | omega | (simp <;> omega)) (heap_at _ _ _ (by simp))
  have Z : Hid (((w.alloc (.cells (vrow 266 s.at) 34)).alloc (.cells (vrow 2 (spAt 0 0)) 42)).heap[(w.heap.size + 1)]? = some (.cells (vrow 2 (spAt 0 0)) 42)) := heap_at _ _ _ (by simp)
  have E : Hid (Errs e ((w.alloc (.cells (vrow 266 s.at) 34)).alloc (.cells (vrow 2 (spAt 0 0)) 42))) := ((hE).alloc _).alloc _
  go_enter Tryd.func14, Tryd.ntmps14
  go_wp2_with (first
    | (refine wpList_built rfl 42 [] rfl [] (by rfl) _ built_zspR ?_)
    | (refine wpList_loadall rfl 34 (.tmp 1) rfl _ rfl 266 s.at 34 _ Tryd.underlying34 rfl size_sheet P.out ?_)
    | (refine wpList_storeall rfl 42 (.tmp 2) (.tmp 13) rfl (w.heap.size + 1) rfl 2 (spAt 0 0) (spAt 0 0) rfl 42 size_spot Z.out (fun i _ => spAt_one _ _ i) ?_; replace Z := Go.Lib.hid (row_set Z.out (vrow 2 (spAt 0 0))); replace hB := Go.Lib.hid (Below_setRow hB.out (show w.heap.size ≤ w.heap.size + 1 by omega) (vrow 2 (spAt 0 0))))
    | (go_at_call 26; (refine (HC.out _ E.out).mono ?_; rintro e w1 ⟨rfl, hb⟩; replace P := Go.Lib.hid (row_next hb P.out); replace Z := Go.Lib.hid (row_next hb Z.out); replace hB := Go.Lib.hid (below_next hB.out hb); replace E := Go.Lib.hid (E.out.next hb); clear hb ))
    | (go_at_call 27; (refine (codeOf_1 e _ E.out).mono ?_; rintro e w1 ⟨rfl, hb⟩; replace P := Go.Lib.hid (row_next hb P.out); replace Z := Go.Lib.hid (row_next hb Z.out); replace hB := Go.Lib.hid (below_next hB.out hb); replace E := Go.Lib.hid (E.out.next hb); clear hb ))
    | (refine list_at 9 rfl ?_; intro W hW; rw [hW] at hB E P Z; clear hW; have P' := Go.Lib.hid (cls_row' P.out); have Z' := Go.Lib.hid (cls_row' Z.out); (repeat (first | go_big_quiet_skip | (refine wpQuiet_loadmid 34 _ rfl (by first | exact want_n rfl | exact want_g _ _ _ rfl rfl rfl) (w.heap.size) _ rfl 266 266 s.at _ rw_sheet size_sheet P'.out (by omega) ?_; rw [sh_row]; simp only [Act.put, List.setIfInBounds_toArray, List.set_cons_succ, List.set_cons_zero]) | go_big_quiet_step (first | (go_at_call 26; exact cls_call _ (fun w hw => HC.out w (E.out.next hw))) | (go_at_call 27; exact cls_call _ (fun w hw => codeOf_1 e w (E.out.next hw)))))); refine wpQuiet_nil ?_; intro Wn hb; replace P := Go.Lib.hid (row_next hb P.out); replace Z := Go.Lib.hid (row_next hb Z.out); replace hB := Go.Lib.hid (below_next hB.out hb); replace E := Go.Lib.hid (E.out.next hb); clear hb P' Z'))
  exact ret_row3 Tryd.results14 (w.heap.size + 1) 2 (spAt 0 0) 42 _ Tryd.underlying42 rfl size_spot (.int .i64 0) (.int .i64 1) rfl rfl rfl rfl Z.out ⟨rfl, hB.out⟩
set_option maxHeartbeats 4000000 in
theorem implLW_ok (s : Sh) (e : ErrE) (w : World) (hE : Err6 e w) (hf : s.fit) (hv : okI s = true) (bp0 : (Nat × Nat) × Int) (HLW0 : ∀ w, Err6 e w → Calls Tryd.prog 28 #[.agg s.row] w fun o w' => o = .returned (firstRes (errP e 6) bp0) ∧ Below w.heap.size w w') : Calls Tryd.prog 14 #[.agg s.row] w fun o w' => o = .returned (specResL bp0) ∧ Below w.heap.size w w' := by
  have HC := Go.Lib.hid fun w hE => checkSheet_ok s hv e w hE
  have HFi := Go.Lib.hid HLW0
  clear hv hf HLW0
  obtain ⟨bp, hbp⟩ : ∃ bp, bp0 = bp := ⟨_, rfl⟩
  rw [hbp] at HFi ⊢
  clear hbp
  have zs := zero_spot
  have hB : Hid (Below w.heap.size w ((w.alloc (.cells (vrow 266 s.at) 34)).alloc (.cells (vrow 2 (spAt 0 0)) 42))) := (((Below.refl w.heap.size w).alloc (by simp <;> omega) _).alloc (by simp <;> omega) _)
  have P : Hid (((w.alloc (.cells (vrow 266 s.at) 34)).alloc (.cells (vrow 2 (spAt 0 0)) 42)).heap[(w.heap.size)]? = some (.cells (vrow 266 s.at) 34)) := heap_past _ _ _ _ (by first | omega | (simp <;> omega)) (heap_at _ _ _ (by simp))
  have Z : Hid (((w.alloc (.cells (vrow 266 s.at) 34)).alloc (.cells (vrow 2 (spAt 0 0)) 42)).heap[(w.heap.size + 1)]? = some (.cells (vrow 2 (spAt 0 0)) 42)) := heap_at _ _ _ (by simp)
  have E : Hid (Err6 e ((w.alloc (.cells (vrow 266 s.at) 34)).alloc (.cells (vrow 2 (spAt 0 0)) 42))) := ((hE).alloc _).alloc _
  by_cases h0 : bp.2 = 0
  · have hfr := firstRes_no (ev := errP e 6) h0
    have HR := Go.Lib.hid hfr
    rw [specResL_no h0]
    clear hfr
    go_enter Tryd.func14, Tryd.ntmps14
    go_wp2_with (first
      | (refine wpList_loadall rfl 34 (.tmp 1) rfl _ rfl 266 s.at 34 _ Tryd.underlying34 rfl size_sheet P.out ?_)
      | (go_at_call 26; (refine (HC.out _ E.out.base).mono ?_; rintro o w1 ⟨rfl, hb⟩; replace P := Go.Lib.hid (row_next hb P.out); replace Z := Go.Lib.hid (row_next hb Z.out); replace hB := Go.Lib.hid (below_next hB.out hb); replace E := Go.Lib.hid (E.out.next hb); clear hb))
      | (go_at_call 28; (refine (HFi.out _ E.out).mono ?_; rintro o w2 ⟨rfl, hb⟩; replace P := Go.Lib.hid (row_next hb P.out); replace Z := Go.Lib.hid (row_next hb Z.out); replace hB := Go.Lib.hid (below_next hB.out hb); replace E := Go.Lib.hid (E.out.next hb); clear hb; rw [HR.out]))
      | (refine wpList_storeall rfl 42 (.tmp 6) (.tmp 19) rfl _ rfl 2 (spAt 0 0) (spAt 0 0) rfl 42 size_spot (heap_at _ _ _ rfl) (fun i _ => spAt_one _ _ i) ?_; rw [setRow_at _ _ _ _ _ rfl]; have n0 := row_lt P.out; have n1 := row_lt Z.out; have V := Go.Lib.hid (heap_at w2 (.cells (vrow 2 (spAt 0 0)) 42) _ rfl); replace P := Go.Lib.hid (heap_past _ (.cells (vrow 2 (spAt 0 0)) 42) _ _ n0 P.out); replace Z := Go.Lib.hid (heap_past _ (.cells (vrow 2 (spAt 0 0)) 42) _ _ n1 Z.out); have hsz := hB.out.size; replace hB := Go.Lib.hid (hB.out.alloc hsz (.cells (vrow 2 (spAt 0 0)) 42)); replace E := Go.Lib.hid (E.out.alloc (.cells (vrow 2 (spAt 0 0)) 42)); generalize hbv : w2.heap.size = bv at V n0 n1 hsz ⊢; generalize w2.alloc _ = W2 at P Z V hB E ⊢; clear hbv))
    have nbw := row_lt V.out
    refine Code.wp_mono (Q := fun ex a' W' => ex = .normal ∧ a'.tmps.getD 2 undef = .pointer (some ⟨w.heap.size + 1, 0, none⟩) ∧ a'.tmps.getD 3 undef = .int .i64 0 ∧ a'.tmps.getD 4 undef = .int .i64 6 ∧ a'.defers = [] ∧ Below w.heap.size w W' ∧ W'.heap[w.heap.size + 1]? = some (.cells (vrow 2 (spAt 0 0)) 42)) ?_ ?_
    rotate_left
    · have Vz : W2.drew.heap[w.heap.size + 1]? = some (.cells (vrow 2 (spAt 0 0)) 42) := Z.out
      refine wp_region_held_drew (S := fun W' => Below w.heap.size w W' ∧ W'.heap[bv]? = some (.cells (vrow 2 (spAt 0 0)) 42)) (by kernel_rfl) ⟨hB.out.drew, V.out⟩ (fun hH => ?_)
      clear hB Z V E P
      generalize World.drew _ = W4 at hH Vz ⊢
      refine wpAnyH_take (i := 0) (v := (.agg (vrow 2 (spAt 0 0)))) rfl (by kernel_rfl) (by kernel_rfl) (by kernel_rfl) (fun _ _ _ h => by cases h.1) (yields_row (by rfl) 42 _ rfl bv rfl 2 (spAt 0 0) 42 _ Tryd.underlying42 rfl size_spot (fun _ h => h.2)) hH ?_
      (try simp only [Act.put, List.setIfInBounds_toArray, List.set_cons_succ, List.set_cons_zero])
      refine wpAnyH_take (i := 1) (v := (.int .i64 0)) rfl (by kernel_rfl) (by kernel_rfl) (by kernel_rfl) (fun _ _ _ h => by cases h.1) (.inl ⟨by rfl, fun w _ => by go_simp⟩) hH ?_
      (try simp only [Act.put, List.setIfInBounds_toArray, List.set_cons_succ, List.set_cons_zero])
      refine wpAnyH_take (i := 2) (v := (errP e 6)) rfl (by kernel_rfl) (by kernel_rfl) (by kernel_rfl) (fun _ _ _ h => by cases h.1) (.inl ⟨by rfl, fun w _ => by go_simp⟩) hH ?_
      (try simp only [Act.put, List.setIfInBounds_toArray, List.set_cons_succ, List.set_cons_zero])
      refine wpAnyH_ready (rs := [3]) (by kernel_rfl) (by simp) (AllReadyH.cons rfl (fun K hK => ?_) AllReadyH.nil)
      rw [if_pos (by rfl)]
      go_simp
      go_at_call 27
      refine (codeOf_6 e _ (hE.next hH.1)).mono ?_
      rintro o X1 ⟨rfl, hb⟩
      replace hH : Below w.heap.size w X1 ∧ X1.heap[bv]? = some (.cells (vrow 2 (spAt 0 0)) 42) := ⟨hH.1.trans (hb.mono hH.1.size), row_next hb hH.2⟩
      replace Vz := row_next hb Vz
      clear hb
      refine hK.out _ _ hH (fun hH => ?_)
      clear hK K
      (try simp only [Act.put, List.setIfInBounds_toArray, List.set_cons_succ, List.set_cons_zero])
      refine wpAnyH_ready (rs := [4]) (by kernel_rfl) (by simp) (AllReadyH.cons rfl (fun K hK => ?_) AllReadyH.nil)
      rw [if_pos (by rfl)]
      unfold Oper.wp
      rw [run_storemid 42 (.tmp 2) (.tmp 22) rfl (w.heap.size + 1) 0 rfl 2 2 (spAt 0 0) (spAt 0 0) rfl 42 size_spot Vz (by omega) (fun i _ => spAt_one _ _ i), vrow_over_all, Oper.upon_skip]
      have V2 := row_set Vz (vrow 2 (spAt 0 0))
      have hH2 : Below w.heap.size w (X1.setRow (w.heap.size + 1) (vrow 2 (spAt 0 0))) ∧ (X1.setRow (w.heap.size + 1) (vrow 2 (spAt 0 0))).heap[bv]? = some (.cells (vrow 2 (spAt 0 0)) 42) := ⟨Below_setRow hH.1 (by omega) _, row_set' (by omega) hH.2 _⟩
      clear Vz
      generalize World.setRow X1 _ _ = WS at V2 hH2 ⊢
      refine hK.out _ _ hH2 (fun hH => ?_)
      clear hK K hH2
      (try simp only [Act.put, List.setIfInBounds_toArray, List.set_cons_succ, List.set_cons_zero])
      refine wpAnyH_take (i := 5) (v := (.int .i64 0)) rfl (by kernel_rfl) (by kernel_rfl) (by kernel_rfl) (fun _ _ _ h => by cases h.1) (.inl ⟨by rfl, fun w _ => by go_simp⟩) hH ?_
      (try simp only [Act.put, List.setIfInBounds_toArray, List.set_cons_succ, List.set_cons_zero])
      refine wpAnyH_take (i := 6) (v := (.int .i64 6)) rfl (by kernel_rfl) (by kernel_rfl) (by kernel_rfl) (fun _ _ _ h => by cases h.1) (.inl ⟨by rfl, fun w _ => by go_simp⟩) hH ?_
      (try simp only [Act.put, List.setIfInBounds_toArray, List.set_cons_succ, List.set_cons_zero])
      refine wpAnyH_done (by kernel_rfl) ?_ _
      exact ⟨rfl, rfl, rfl, rfl, rfl, hH.1, V2⟩
    · rintro e1 a1 W1 ⟨rfl, t4, t5, t6, hdf, hB, Z⟩
      go_wp2
      exact ret_row3 Tryd.results14 (w.heap.size + 1) 2 (spAt 0 0) 42 _ Tryd.underlying42 rfl size_spot (.int .i64 0) (.int .i64 6) t4 t5 t6 hdf Z ⟨rfl, hB⟩
  · have hfr := firstRes_yes (ev := errP e 6) h0
    have HR := Go.Lib.hid hfr
    rw [specResL_yes h0]
    clear hfr
    go_enter Tryd.func14, Tryd.ntmps14
    go_wp2_with (first
      | (refine wpList_loadall rfl 34 (.tmp 1) rfl _ rfl 266 s.at 34 _ Tryd.underlying34 rfl size_sheet P.out ?_)
      | (go_at_call 26; (refine (HC.out _ E.out.base).mono ?_; rintro o w1 ⟨rfl, hb⟩; replace P := Go.Lib.hid (row_next hb P.out); replace Z := Go.Lib.hid (row_next hb Z.out); replace hB := Go.Lib.hid (below_next hB.out hb); replace E := Go.Lib.hid (E.out.next hb); clear hb))
      | (go_at_call 28; (refine (HFi.out _ E.out).mono ?_; rintro o w2 ⟨rfl, hb⟩; replace P := Go.Lib.hid (row_next hb P.out); replace Z := Go.Lib.hid (row_next hb Z.out); replace hB := Go.Lib.hid (below_next hB.out hb); replace E := Go.Lib.hid (E.out.next hb); clear hb; rw [HR.out]))
      | (refine wpList_storeall rfl 42 (.tmp 6) (.tmp 19) rfl _ rfl 2 (spAt 0 0) (spAt bp.1.1 bp.1.2) rfl 42 size_spot (heap_at _ _ _ rfl) (fun i _ => spAt_one _ _ i) ?_; rw [setRow_at _ _ _ _ _ rfl]; have n0 := row_lt P.out; have n1 := row_lt Z.out; have V := Go.Lib.hid (heap_at w2 (.cells (vrow 2 (spAt bp.1.1 bp.1.2)) 42) _ rfl); replace P := Go.Lib.hid (heap_past _ (.cells (vrow 2 (spAt bp.1.1 bp.1.2)) 42) _ _ n0 P.out); replace Z := Go.Lib.hid (heap_past _ (.cells (vrow 2 (spAt bp.1.1 bp.1.2)) 42) _ _ n1 Z.out); have hsz := hB.out.size; replace hB := Go.Lib.hid (hB.out.alloc hsz (.cells (vrow 2 (spAt bp.1.1 bp.1.2)) 42)); replace E := Go.Lib.hid (E.out.alloc (.cells (vrow 2 (spAt bp.1.1 bp.1.2)) 42)); generalize hbv : w2.heap.size = bv at V n0 n1 hsz ⊢; generalize w2.alloc _ = W2 at P Z V hB E ⊢; clear hbv))
    have nbw := row_lt V.out
    refine Code.wp_mono (Q := fun ex a' W' => ex = .normal ∧ a'.tmps.getD 2 undef = .pointer (some ⟨w.heap.size + 1, 0, none⟩) ∧ a'.tmps.getD 3 undef = .int .i64 bp.2 ∧ a'.tmps.getD 4 undef = .int .i64 0 ∧ a'.defers = [] ∧ Below w.heap.size w W' ∧ W'.heap[w.heap.size + 1]? = some (.cells (vrow 2 (spAt bp.1.1 bp.1.2)) 42)) ?_ ?_
    rotate_left
    · have Vz : W2.drew.heap[w.heap.size + 1]? = some (.cells (vrow 2 (spAt 0 0)) 42) := Z.out
      refine wp_region_held_drew (S := fun W' => Below w.heap.size w W' ∧ W'.heap[bv]? = some (.cells (vrow 2 (spAt bp.1.1 bp.1.2)) 42)) (by kernel_rfl) ⟨hB.out.drew, V.out⟩ (fun hH => ?_)
      clear hB Z V E P
      generalize World.drew _ = W4 at hH Vz ⊢
      refine wpAnyH_take (i := 0) (v := (.agg (vrow 2 (spAt bp.1.1 bp.1.2)))) rfl (by kernel_rfl) (by kernel_rfl) (by kernel_rfl) (fun _ _ _ h => by cases h.1) (yields_row (by rfl) 42 _ rfl bv rfl 2 (spAt bp.1.1 bp.1.2) 42 _ Tryd.underlying42 rfl size_spot (fun _ h => h.2)) hH ?_
      (try simp only [Act.put, List.setIfInBounds_toArray, List.set_cons_succ, List.set_cons_zero])
      refine wpAnyH_take (i := 1) (v := (.int .i64 bp.2)) rfl (by kernel_rfl) (by kernel_rfl) (by kernel_rfl) (fun _ _ _ h => by cases h.1) (.inl ⟨by rfl, fun w _ => by go_simp⟩) hH ?_
      (try simp only [Act.put, List.setIfInBounds_toArray, List.set_cons_succ, List.set_cons_zero])
      refine wpAnyH_take (i := 2) (v := (.nilIface)) rfl (by kernel_rfl) (by kernel_rfl) (by kernel_rfl) (fun _ _ _ h => by cases h.1) (.inl ⟨by rfl, fun w _ => by go_simp⟩) hH ?_
      (try simp only [Act.put, List.setIfInBounds_toArray, List.set_cons_succ, List.set_cons_zero])
      refine wpAnyH_ready (rs := [3]) (by kernel_rfl) (by simp) (AllReadyH.cons rfl (fun K hK => ?_) AllReadyH.nil)
      rw [if_pos (by rfl)]
      go_simp
      go_at_call 27
      refine (codeOf_nil _).mono ?_
      rintro o X1 ⟨rfl, hb⟩
      replace hH : Below w.heap.size w X1 ∧ X1.heap[bv]? = some (.cells (vrow 2 (spAt bp.1.1 bp.1.2)) 42) := ⟨hH.1.trans (hb.mono hH.1.size), row_next hb hH.2⟩
      replace Vz := row_next hb Vz
      clear hb
      refine hK.out _ _ hH (fun hH => ?_)
      clear hK K
      (try simp only [Act.put, List.setIfInBounds_toArray, List.set_cons_succ, List.set_cons_zero])
      refine wpAnyH_ready (rs := [4]) (by kernel_rfl) (by simp) (AllReadyH.cons rfl (fun K hK => ?_) AllReadyH.nil)
      rw [if_pos (by rfl)]
      unfold Oper.wp
      rw [run_storemid 42 (.tmp 2) (.tmp 22) rfl (w.heap.size + 1) 0 rfl 2 2 (spAt 0 0) (spAt bp.1.1 bp.1.2) rfl 42 size_spot Vz (by omega) (fun i _ => spAt_one _ _ i), vrow_over_all, Oper.upon_skip]
      have V2 := row_set Vz (vrow 2 (spAt bp.1.1 bp.1.2))
      have hH2 : Below w.heap.size w (X1.setRow (w.heap.size + 1) (vrow 2 (spAt bp.1.1 bp.1.2))) ∧ (X1.setRow (w.heap.size + 1) (vrow 2 (spAt bp.1.1 bp.1.2))).heap[bv]? = some (.cells (vrow 2 (spAt bp.1.1 bp.1.2)) 42) := ⟨Below_setRow hH.1 (by omega) _, row_set' (by omega) hH.2 _⟩
      clear Vz
      generalize World.setRow X1 _ _ = WS at V2 hH2 ⊢
      refine hK.out _ _ hH2 (fun hH => ?_)
      clear hK K hH2
      (try simp only [Act.put, List.setIfInBounds_toArray, List.set_cons_succ, List.set_cons_zero])
      refine wpAnyH_take (i := 5) (v := (.int .i64 bp.2)) rfl (by kernel_rfl) (by kernel_rfl) (by kernel_rfl) (fun _ _ _ h => by cases h.1) (.inl ⟨by rfl, fun w _ => by go_simp⟩) hH ?_
      (try simp only [Act.put, List.setIfInBounds_toArray, List.set_cons_succ, List.set_cons_zero])
      refine wpAnyH_take (i := 6) (v := (.int .i64 0)) rfl (by kernel_rfl) (by kernel_rfl) (by kernel_rfl) (fun _ _ _ h => by cases h.1) (.inl ⟨by rfl, fun w _ => by go_simp⟩) hH ?_
      (try simp only [Act.put, List.setIfInBounds_toArray, List.set_cons_succ, List.set_cons_zero])
      refine wpAnyH_done (by kernel_rfl) ?_ _
      exact ⟨rfl, rfl, rfl, rfl, rfl, hH.1, V2⟩
    · rintro e1 a1 W1 ⟨rfl, t4, t5, t6, hdf, hB, Z⟩
      go_wp2
      exact ret_row3 Tryd.results14 (w.heap.size + 1) 2 (spAt bp.1.1 bp.1.2) 42 _ Tryd.underlying42 rfl size_spot (.int .i64 bp.2) (.int .i64 0) t4 t5 t6 hdf Z ⟨rfl, hB⟩
set_option maxHeartbeats 400000 in
theorem eqSpot_any (p q : Int) (w : World) : Calls Tryd.prog 15 #[.agg (vrow 2 (spAt p q)), .agg (vrow 2 (spAt p q))] w fun e w' => e = .returned (.bool true) ∧ Below w.heap.size w w' := by
  have hB : Hid (Below w.heap.size w ((w.alloc (.cells (vrow 2 (spAt p q)) 42)).alloc (.cells (vrow 2 (spAt p q)) 42))) := (((Below.refl w.heap.size w).alloc (by simp <;> omega) _).alloc (by simp <;> omega) _)
  have A : Hid (((w.alloc (.cells (vrow 2 (spAt p q)) 42)).alloc (.cells (vrow 2 (spAt p q)) 42)).heap[(w.heap.size)]? = some (.cells (vrow 2 (spAt p q)) 42)) := heap_past _ _ _ _ (by first | omega | (simp <;> omega)) (heap_at _ _ _ (by simp))
  have R : Hid (((w.alloc (.cells (vrow 2 (spAt p q)) 42)).alloc (.cells (vrow 2 (spAt p q)) 42)).heap[(w.heap.size + 1)]? = some (.cells (vrow 2 (spAt p q)) 42)) := heap_at _ _ _ (by simp)
  go_enter Tryd.func15, Tryd.ntmps15
  go_wp2_with (first
    | (refine list_at 6 rfl ?_; intro W hW; rw [hW] at hB A R; clear hW; have A' := Go.Lib.hid (cls_row' A.out); have R' := Go.Lib.hid (cls_row' R.out); (repeat (first | go_big_quiet_skip | (refine wpQuiet_load1 22 _ rfl (by first | exact want_n rfl | exact want_g _ _ _ rfl rfl rfl) (w.heap.size) _ rfl 2 (spAt p q) _ rw_i8 A'.out (by omega) ?_; (first | rw [spAt_0] | rw [spAt_1]); simp only [Act.put, List.setIfInBounds_toArray, List.set_cons_succ, List.set_cons_zero]) | (refine wpQuiet_load1 22 _ rfl (by first | exact want_n rfl | exact want_g _ _ _ rfl rfl rfl) (w.heap.size + 1) _ rfl 2 (spAt p q) _ rw_i8 R'.out (by omega) ?_; (first | rw [spAt_0] | rw [spAt_1]); simp only [Act.put, List.setIfInBounds_toArray, List.set_cons_succ, List.set_cons_zero]) | go_big_quiet_step (fail))); refine wpQuiet_nil ?_; intro Wn hb; replace A := Go.Lib.hid (row_next hb A.out); replace R := Go.Lib.hid (row_next hb R.out); replace hB := Go.Lib.hid (below_next hB.out hb); clear hb A' R')
    | (refine list_at 11 rfl ?_; intro W hW; rw [hW] at hB A R; clear hW; have A' := Go.Lib.hid (cls_row' A.out); have R' := Go.Lib.hid (cls_row' R.out); (repeat (first | go_big_quiet_skip | (refine wpQuiet_load1 22 _ rfl (by first | exact want_n rfl | exact want_g _ _ _ rfl rfl rfl) (w.heap.size) _ rfl 2 (spAt p q) _ rw_i8 A'.out (by omega) ?_; (first | rw [spAt_0] | rw [spAt_1]); simp only [Act.put, List.setIfInBounds_toArray, List.set_cons_succ, List.set_cons_zero]) | (refine wpQuiet_load1 22 _ rfl (by first | exact want_n rfl | exact want_g _ _ _ rfl rfl rfl) (w.heap.size + 1) _ rfl 2 (spAt p q) _ rw_i8 R'.out (by omega) ?_; (first | rw [spAt_0] | rw [spAt_1]); simp only [Act.put, List.setIfInBounds_toArray, List.set_cons_succ, List.set_cons_zero]) | go_big_quiet_step (fail))); refine wpQuiet_nil ?_; intro Wn hb; replace A := Go.Lib.hid (row_next hb A.out); replace R := Go.Lib.hid (row_next hb R.out); replace hB := Go.Lib.hid (below_next hB.out hb); clear hb A' R'))
  go_ret
  exact ⟨rfl, hB.out⟩
set_option maxHeartbeats 4000000 in
theorem LW_walk (s : Sh) (p q : Int) (c : Int) (d : Int) (e : ErrE) (w : World) (hE : Err6 e w)
    (hS : ∀ w, Calls Tryd.prog 13 #[.agg s.row] w fun e w' => e = .returned (.tuple #[.agg #[.int .i8 p, .int .i8 q], .int .i64 c, .int .i64 d]) ∧ Below w.heap.size w w')
    (hI : ∀ w, Err6 e w → Calls Tryd.prog 14 #[.agg s.row] w fun e w' => e = .returned (.tuple #[.agg #[.int .i8 p, .int .i8 q], .int .i64 c, .int .i64 d]) ∧ Below w.heap.size w w') : Calls Tryd.prog 5 #[.agg s.row] w fun o w' => o = .returned (.bool true) ∧ Below w.heap.size w w' := by
  have zz := zero_sheet
  have zs := zero_spot
  have HT0 := Go.Lib.hid (fun w => toSheet_any s w)
  simp only [sp_vrow] at hS hI
  have HS := Go.Lib.hid hS; have HI := Go.Lib.hid hI
  clear hS hI
  have hB : Hid (Below w.heap.size w (w.alloc (.cells (vrow 266 s.at) 31))) := ((Below.refl w.heap.size w).alloc (by simp <;> omega) _)
  have P0 : Hid ((w.alloc (.cells (vrow 266 s.at) 31)).heap[(w.heap.size)]? = some (.cells (vrow 266 s.at) 31)) := heap_at _ _ _ (by simp)
  go_enter Tryd.func5, Tryd.ntmps5
  go_wp2_with (first
    | (refine wpList_loadall rfl 31 (.tmp 1) rfl _ rfl 266 s.at 31 _ Tryd.underlying31 rfl size_lsheet P0.out ?_)
    | (go_at_call 8; refine (HT0.out _).mono ?_; rintro o w1 ⟨rfl, hb⟩; replace P0 := Go.Lib.hid (row_next hb P0.out); (try (replace V5 := Go.Lib.hid (row_next hb V5.out))); replace hB := Go.Lib.hid (below_next hB.out hb); clear hb)
    | (go_at_call 13; refine (HS.out _).mono ?_; rintro o w5 ⟨rfl, hb⟩; replace P0 := Go.Lib.hid (row_next hb P0.out); replace hB := Go.Lib.hid (below_next hB.out hb); clear hb)
    | (refine wpList_storeall rfl 42 (.tmp 3) (.tmp 13) rfl _ rfl 2 (spAt 0 0) (spAt p q) rfl 42 size_spot (heap_at _ _ _ rfl) (fun i _ => spAt_one _ _ i) ?_; rw [setRow_at _ _ _ _ _ rfl]; replace P0 := Go.Lib.hid (heap_past _ (.cells (vrow 2 (spAt p q)) 42) _ _ (row_lt P0.out) P0.out); have V5 := Go.Lib.hid (heap_at w5 (.cells (vrow 2 (spAt p q)) 42) _ rfl); replace hB := Go.Lib.hid (hB.out.alloc hB.out.size (.cells (vrow 2 (spAt p q)) 42)); generalize hbvV5 : w5.heap.size = bV5 at V5 ⊢; generalize w5.alloc _ = W5 at hB V5 P0 ⊢; clear hbvV5)
    | (go_at_call 14; refine (HI.out _ (hE.next hB.out)).mono ?_; rintro o w7 ⟨rfl, hb⟩; replace P0 := Go.Lib.hid (row_next hb P0.out); (try (replace V5 := Go.Lib.hid (row_next hb V5.out))); replace hB := Go.Lib.hid (below_next hB.out hb); clear hb)
    | (refine wpList_storeall rfl 42 (.tmp 6) (.tmp 20) rfl _ rfl 2 (spAt 0 0) (spAt p q) rfl 42 size_spot (heap_at _ _ _ rfl) (fun i _ => spAt_one _ _ i) ?_; rw [setRow_at _ _ _ _ _ rfl]; replace P0 := Go.Lib.hid (heap_past _ (.cells (vrow 2 (spAt p q)) 42) _ _ (row_lt P0.out) P0.out); replace V5 := Go.Lib.hid (heap_past _ (.cells (vrow 2 (spAt p q)) 42) _ _ (row_lt V5.out) V5.out); have V7 := Go.Lib.hid (heap_at w7 (.cells (vrow 2 (spAt p q)) 42) _ rfl); replace hB := Go.Lib.hid (hB.out.alloc hB.out.size (.cells (vrow 2 (spAt p q)) 42)); generalize hbvV7 : w7.heap.size = bV7 at V7 ⊢; generalize w7.alloc _ = W7 at hB V7 P0 V5 ⊢; clear hbvV7)
    | (refine wpList_loadall rfl 42 (.tmp 6) rfl _ rfl 2 (spAt p q) 42 _ Tryd.underlying42 rfl size_spot V7.out ?_)
    | (refine wpList_loadall rfl 42 (.tmp 3) rfl _ rfl 2 (spAt p q) 42 _ Tryd.underlying42 rfl size_spot V5.out ?_)
    | (go_at_call 15; refine (eqSpot_any p q _).mono ?_; rintro o w3 ⟨rfl, hb⟩; replace hB := Go.Lib.hid (below_next hB.out hb); clear hb))
  go_ret
  exact ⟨rfl, hB.out⟩
end Go.Proofs.YtflmkhjleifbbaaDoor
namespace Go.Proofs.YtflmkhjleifbbaaDoor
open Go.RowKit
set_option maxRecDepth 100000
set_option linter.unusedVariables false
set_option linter.unusedSimpArgs false
set_option maxHeartbeats 2000000 in
theorem eqRg0 (a : Nat → Int) (w : World) :
    Calls Tryd.prog 12 #[.agg (irow .i16 64 a), .agg (irow .i16 64 a)] w fun e w' => e = .returned (.bool true) ∧ Below w.heap.size w w' := by
  go_enter Tryd.func12, Tryd.ntmps12
  go_wp2
  go_loopw [5] (fun i wr => ∃ k : Nat, k ≤ 8 ∧ i = .int .i64 k ∧ Twin 64 (fun i => .int .i16 (a i)) 37 w wr) (fun i _ => 8 - (intOf i).toNat)
  case atStart => exact ⟨0, by omega, rfl, Twin.start _ _ _ _⟩
  case round =>
    obtain ⟨k, hk, rfl, hI⟩ := hrel
    by_cases hlt : k < 8
    · have HI := Go.Lib.hid hI.drew1
      clear hk hI
      go_wp2
      refine wp_region_still_tail 6 (by kernel_rfl) (by kernel_rfl) ?_
      simp only [List.take_succ_cons, List.take_zero, List.drop_succ_cons, List.drop_zero, World.drew_eq]
      repeat (first
        | (refine wpStill_loadmid rfl 24 (.tmp 11) rfl _ (k * 8) rfl 64 8 (fun i => .int .i16 (a i)) 37 _ Tryd.underlying24 rfl size_r8 HI.out.2.1 (by omega) ?_)
        | (refine wpStill_loadmid rfl 24 (.tmp 14) rfl _ (k * 8) rfl 64 8 (fun i => .int .i16 (a i)) 37 _ Tryd.underlying24 rfl size_r8 HI.out.2.2 (by omega) ?_)
        | still_step)
      refine wpStill_nil ?_
      go_wp2_with (go_at_call 30; refine (eqInt16A8_any _ _).mono ?_; rintro e w1 ⟨rfl, hb1⟩; have HI1 := Go.Lib.hid (HI.out.call hb1 (by simp)); clear hb1)
      go_roundw
      case rel => exact ⟨k + 1, by omega, by go_num, HI1.out⟩
      case measure => simp [intOf]; omega
    · have HI := Go.Lib.hid hI
      obtain rfl : k = 8 := by omega
      clear hI hk
      go_wp2
      go_ret
      exact ⟨rfl, HI.out.1⟩
theorem eqRg_any (r : Nat → Int) (w : World) : Calls Tryd.prog 12 #[.agg (vrow 64 (rgf r)), .agg (vrow 64 (rgf r))] w fun e w' => e = .returned (.bool true) ∧ Below w.heap.size w w' := eqRg0 r w
set_option maxHeartbeats 8000000 in
theorem roL_walk (s : Sh) (r : Nat → Int) (c : Int) (e : ErrE) (w : World) (hE : Errs e w)
    (hS : ∀ w, Calls Tryd.prog 10 #[.agg (vrow 266 s.at)] w fun e w' => e = .returned (.tuple #[.agg (vrow 64 (rgf r)), .int .i64 c]) ∧ Below w.heap.size w w')
    (hI : ∀ w, Errs e w → Calls Tryd.prog 11 #[.agg (vrow 266 s.at)] w fun e w' => e = .returned (.tuple #[.agg (vrow 64 (rgf r)), .int .i64 c]) ∧ Below w.heap.size w w') : Calls Tryd.prog 4 #[.agg (vrow 266 s.at)] w fun o w' => o = .returned (.bool true) ∧ Below w.heap.size w w' := by
  have zz_sheet := zero_sheet
  have zz_rings := zero_rg
  have HT0 := Go.Lib.hid (fun w => toSheet_any s w)
  have HS := Go.Lib.hid hS; have HI := Go.Lib.hid hI
  clear hS hI
  have hB : Hid (Below w.heap.size w (w.alloc (.cells (vrow 266 s.at) 31))) := ((Below.refl w.heap.size w).alloc (by simp <;> omega) _)
  have P0 : Hid ((w.alloc (.cells (vrow 266 s.at) 31)).heap[w.heap.size]? = some (.cells (vrow 266 s.at) 31)) := heap_at _ _ _ (by simp)
  go_enter Tryd.func4, Tryd.ntmps4
  go_wp2_with (first
    | go_skip
    | ((with_reducible refine wlAt 8 rfl ?_); refine wpList_loadall rfl 31 (.tmp 1) rfl _ rfl 266 s.at 31 _ Tryd.underlying31 rfl size_lsheet P0.out ?_)
    | ((with_reducible refine wlAt 14 rfl ?_); refine wpList_loadall rfl 31 (.tmp 1) rfl _ rfl 266 s.at 31 _ Tryd.underlying31 rfl size_lsheet P0.out ?_)
    | (go_at_call 8; ((with_reducible refine (HT0.out _).mono ?_)); rintro o w1 ⟨rfl, hb⟩; replace P0 := Go.Lib.hid (row_next hb P0.out); (try (replace U0 := Go.Lib.hid (row_next hb U0.out))); replace hB := Go.Lib.hid (below_next hB.out hb); clear hb)
    | (go_at_call 10; refine (HS.out _).mono ?_; rintro o w5 ⟨rfl, hb⟩; replace P0 := Go.Lib.hid (row_next hb P0.out); replace hB := Go.Lib.hid (below_next hB.out hb); clear hb)
    | (go_at_call 11; refine (HI.out _ (hE.next hB.out)).mono ?_; rintro o w7 ⟨rfl, hb⟩; replace P0 := Go.Lib.hid (row_next hb P0.out); (try (replace U0 := Go.Lib.hid (row_next hb U0.out))); replace hB := Go.Lib.hid (below_next hB.out hb); clear hb)
    | ((with_reducible refine wlOp (.store 37 (.tmp 3) (.tmp 11)) rfl ?_); have nbP0 := row_lt P0.out; have gb := hB.out.size; replace P0 := Go.Lib.hid (heap_past w5 (.cells (vrow 64 (rgf fun _ => 0)) 37) _ _ (row_lt P0.out) P0.out); have U0 := Go.Lib.hid (heap_at w5 (.cells (vrow 64 (rgf fun _ => 0)) 37) (w5.heap.size) (by simp)); replace hB := Go.Lib.hid (hB.out.alloc hB.out.size (.cells (vrow 64 (rgf fun _ => 0)) 37)); generalize hxb : w5.heap.size = bb at U0 nbP0 gb ⊢; generalize (World.alloc w5 _) = Xb at hB U0 P0 ⊢; clear hxb; refine wpList_storeall rfl 37 (.tmp 3) (.tmp 11) rfl (bb) rfl 64 (rgf fun _ => 0) (rgf r) rfl 37 size_rg U0.out (fun i _ => rgf_one _ i) ?_; replace U0 := Go.Lib.hid (row_set U0.out (vrow 64 (rgf r))); replace P0 := Go.Lib.hid (row_set' (g := bb) (by omega) P0.out (vrow 64 (rgf r))); replace hB := Go.Lib.hid (Below_setRow hB.out (g := bb) (by omega) (vrow 64 (rgf r))))
    | ((with_reducible refine wlOp (.store 37 (.tmp 5) (.tmp 17)) rfl ?_); have ncP0 := row_lt P0.out; have ncU0 := row_lt U0.out; have gc := hB.out.size; replace P0 := Go.Lib.hid (heap_past w7 (.cells (vrow 64 (rgf fun _ => 0)) 37) _ _ (row_lt P0.out) P0.out); replace U0 := Go.Lib.hid (heap_past w7 (.cells (vrow 64 (rgf fun _ => 0)) 37) _ _ (row_lt U0.out) U0.out); have V0 := Go.Lib.hid (heap_at w7 (.cells (vrow 64 (rgf fun _ => 0)) 37) (w7.heap.size) (by simp)); replace hB := Go.Lib.hid (hB.out.alloc hB.out.size (.cells (vrow 64 (rgf fun _ => 0)) 37)); generalize hxc : w7.heap.size = bc at V0 ncP0 ncU0 gc ⊢; generalize (World.alloc w7 _) = Xc at hB V0 P0 U0 ⊢; clear hxc; refine wpList_storeall rfl 37 (.tmp 5) (.tmp 17) rfl (bc) rfl 64 (rgf fun _ => 0) (rgf r) rfl 37 size_rg V0.out (fun i _ => rgf_one _ i) ?_; replace V0 := Go.Lib.hid (row_set V0.out (vrow 64 (rgf r))); replace P0 := Go.Lib.hid (row_set' (g := bc) (by omega) P0.out (vrow 64 (rgf r))); replace U0 := Go.Lib.hid (row_set' (g := bc) (by omega) U0.out (vrow 64 (rgf r))); replace hB := Go.Lib.hid (Below_setRow hB.out (g := bc) (by omega) (vrow 64 (rgf r))))
    | ((with_reducible refine wlAt 19 rfl ?_); refine wpList_loadall rfl 37 (.tmp 5) rfl _ rfl 64 (rgf r) 37 _ Tryd.underlying37 rfl size_rg V0.out ?_)
    | ((with_reducible refine wlAt 20 rfl ?_); refine wpList_loadall rfl 37 (.tmp 3) rfl _ rfl 64 (rgf r) 37 _ Tryd.underlying37 rfl size_rg U0.out ?_)
    | (go_at_call 12; (first | (with_reducible refine (eqRg_any r _).mono ?_)); rintro o w3 ⟨rfl, hb⟩; (try (replace U0 := Go.Lib.hid (row_next hb U0.out))); (try (replace V0 := Go.Lib.hid (row_next hb V0.out))); replace hB := Go.Lib.hid (below_next hB.out hb); clear hb))
  go_ret
  exact ⟨rfl, hB.out⟩
end Go.Proofs.YtflmkhjleifbbaaDoor
namespace Go.Proofs.YtflmkhjleifbbaaDoor
open Go.RowKit
set_option maxRecDepth 100000
set_option linter.unusedVariables false
set_option linter.unusedSimpArgs false
set_option maxHeartbeats 8000000 in
theorem diL_walk (s : Sh) (n : Int) (c : Int) (e : ErrE) (w : World) (hE : Err6 e w)
    (hS : ∀ w, Calls Tryd.prog 7 #[.agg (vrow 266 s.at)] w fun e w' => e = .returned (.tuple #[.int .i64 n, .int .i64 c]) ∧ Below w.heap.size w w')
    (hI : ∀ w, Err6 e w → Calls Tryd.prog 9 #[.agg (vrow 266 s.at)] w fun e w' => e = .returned (.tuple #[.int .i64 n, .int .i64 c]) ∧ Below w.heap.size w w') : Calls Tryd.prog 3 #[.agg (vrow 266 s.at)] w fun o w' => o = .returned (.bool true) ∧ Below w.heap.size w w' := by
  have zz_sheet := zero_sheet
  have HT0 := Go.Lib.hid (fun w => toSheet_any s w)
  have HS := Go.Lib.hid hS; have HI := Go.Lib.hid hI
  clear hS hI
  have hB : Hid (Below w.heap.size w (w.alloc (.cells (vrow 266 s.at) 31))) := ((Below.refl w.heap.size w).alloc (by simp <;> omega) _)
  have P0 : Hid ((w.alloc (.cells (vrow 266 s.at) 31)).heap[w.heap.size]? = some (.cells (vrow 266 s.at) 31)) := heap_at _ _ _ (by simp)
  go_enter Tryd.func3, Tryd.ntmps3
  go_wp2_with (first
    | go_skip
    | ((with_reducible refine wlAt 8 rfl ?_); refine wpList_loadall rfl 31 (.tmp 1) rfl _ rfl 266 s.at 31 _ Tryd.underlying31 rfl size_lsheet P0.out ?_)
    | ((with_reducible refine wlAt 14 rfl ?_); refine wpList_loadall rfl 31 (.tmp 1) rfl _ rfl 266 s.at 31 _ Tryd.underlying31 rfl size_lsheet P0.out ?_)
    | (go_at_call 8; ((with_reducible refine (HT0.out _).mono ?_)); rintro o w1 ⟨rfl, hb⟩; replace P0 := Go.Lib.hid (row_next hb P0.out); replace hB := Go.Lib.hid (below_next hB.out hb); clear hb)
    | (go_at_call 7; refine (HS.out _).mono ?_; rintro o w5 ⟨rfl, hb⟩; replace P0 := Go.Lib.hid (row_next hb P0.out); replace hB := Go.Lib.hid (below_next hB.out hb); clear hb)
    | (go_at_call 9; refine (HI.out _ (hE.next hB.out)).mono ?_; rintro o w7 ⟨rfl, hb⟩; replace P0 := Go.Lib.hid (row_next hb P0.out); replace hB := Go.Lib.hid (below_next hB.out hb); clear hb))
  go_ret
  exact ⟨rfl, hB.out⟩
end Go.Proofs.YtflmkhjleifbbaaDoor
namespace Go.Proofs.YtflmkhjleifbbaaDoor
open Go.RowKit
set_option maxRecDepth 100000
set_option linter.unusedVariables false
set_option linter.unusedSimpArgs false
theorem rg_data (s : Sh) (ho : okI s = true) (hi : InkOk s) (hf : s.fit) : ∃ (a c N : Nat) (r : Nat → Int), s.wide = a ∧ s.high = c ∧ (1 ≤ a ∧ a ≤ 8) ∧ (1 ≤ c ∧ c ≤ 8) ∧ (∀ i, -1 ≤ r i ∧ r i ≤ 12800) ∧
    (∀ w, Calls Tryd.prog 22 #[.agg s.row] w fun o w' => o = .returned (.tuple #[.agg (vrow 64 (rgf r)), .int .i64 N]) ∧ Below w.heap.size w w') ∧
    (∀ w, Calls Tryd.prog 29 #[.agg s.row] w fun o w' => o = .returned (.agg (vrow 64 (rgf r))) ∧ Below w.heap.size w w') ∧ (best (rgF r) (cellsL a c)).2 = N := by
  obtain ⟨⟨h1, h2, h3, h4⟩, _⟩ := (okI_iff s).1 ho
  obtain ⟨a, ha⟩ : ∃ a : Nat, s.wide = a := ⟨s.wide.toNat, by omega⟩
  obtain ⟨c, hc⟩ : ∃ c : Nat, s.high = c := ⟨s.high.toNat, by omega⟩
  have ha8 : 1 ≤ a ∧ a ≤ 8 := by omega
  have hc8 : 1 ≤ c ∧ c ≤ 8 := by omega
  have hr := rd_in ha hc ha8.2 hc8.2 ho
  obtain ⟨N, hN, hz, hnz⟩ := dt_num hr hi hf
  have hnd : ((dryL s (cellsL a c)).map pix).Nodup := (List.filter_sublist.map pix).nodup hr.nodup
  have e : vrow 64 (rgf (modR s (cellsL a c) N)) = vrow 64 (rgf (progR s (cellsL a c) (dryL s (cellsL a c)) N)) := vrow_ext _ _ _ fun i hi9 => by unfold rgf; rw [prog_mod_end ha hc ha8.2 hc8.2 ho hi hf hz i hi9]
  refine ⟨a, c, N, progR s (cellsL a c) (dryL s (cellsL a c)) N, ha, hc, ha8, hc8, fun i => by have := progR_le s (cellsL a c) (dryL s (cellsL a c)) hnd N i; omega, fun w => ?_, fun w => irings_any s a c N w ha hc ha8 hc8 hf ho hi hN hz hnz, best_N ha hc ha8.2 hc8.2 ho hi hf hnz⟩
  have h := lrings_any s a c N w ha hc ha8 hc8 hf ho hi hN hz hnz
  rw [e] at h
  exact h
theorem ro_law0 (s : Sh) (e : ErrE) (w : World) (hE : Errs e w) (hf : s.fit) (hi : okI s = true → InkOk s) : Calls Tryd.prog 4 #[.agg s.row] w fun o w' => o = .returned (.bool true) ∧ Below w.heap.size w w' := by
  cases ho : okI s
  · exact roL_walk s (fun _ => 0) 1 e w hE (fun w => specRO_bad s w hf ho) (fun w hE => implRO_bad s e w hE hf ho)
  · obtain ⟨a, c, N, r, ha, hc, ha8, hc8, hr, HL, HI, hb⟩ := rg_data s ho (hi ho) hf
    exact roL_walk s r 0 e w hE (fun w => specRO_ok s r N w hf ho HL) (fun w hE => implRO_ok s r e w hE hf ho HI)
theorem ro_law (s : Sh) (e : ErrE) (w : World) (hE : Errs e w) (hf : s.fit) : Calls Tryd.prog 4 #[.agg s.row] w fun o w' => o = .returned (.bool true) ∧ Below w.heap.size w w' := by
  rw [← norm_row s]
  exact ro_law0 s.norm e w hE (norm_fit hf) inkOk_norm
theorem di_law0 (s : Sh) (e : ErrE) (w : World) (hE : Err6 e w) (hf : s.fit) (hi : okI s = true → InkOk s) : Calls Tryd.prog 3 #[.agg s.row] w fun o w' => o = .returned (.bool true) ∧ Below w.heap.size w w' := by
  cases ho : okI s
  · exact diL_walk s 0 1 e w hE (fun w => specDI_bad s w hf ho) (fun w hE => implDI_bad s e w hE.base hf ho)
  · obtain ⟨a, c, N, r, ha, hc, ha8, hc8, hr, HL, HI, hb⟩ := rg_data s ho (hi ho) hf
    have HW := fun w hE => lastWet_any s r e w hE hr a c ha hc ha8 hc8 HI
    by_cases h0 : (best (rgF r) (cellsL a c)).2 = 0
    · simp only [firstRes_no h0] at HW
      rw [hb] at h0
      exact diL_walk s N 0 e w hE (fun w => specDI_ok s r N w hf ho HL) (fun w hE => by rw [h0]; exact implDI_ok s 0 0 0 _ e w hE hf ho HW)
    · simp only [firstRes_yes h0] at HW
      rw [hb] at HW
      exact diL_walk s N 0 e w hE (fun w => specDI_ok s r N w hf ho HL) (fun w hE => implDI_ok s _ _ N _ e w hE hf ho HW)
theorem di_law (s : Sh) (e : ErrE) (w : World) (hE : Err6 e w) (hf : s.fit) : Calls Tryd.prog 3 #[.agg s.row] w fun o w' => o = .returned (.bool true) ∧ Below w.heap.size w w' := by
  rw [← norm_row s]
  exact di_law0 s.norm e w hE (norm_fit hf) inkOk_norm
theorem lw_law0 (s : Sh) (e : ErrE) (w : World) (hE : Err6 e w) (hf : s.fit) (hi : okI s = true → InkOk s) : Calls Tryd.prog 5 #[.agg s.row] w fun o w' => o = .returned (.bool true) ∧ Below w.heap.size w w' := by
  cases ho : okI s
  · exact LW_walk s 0 0 0 1 e w hE (fun w => specLW_bad s w hf ho) (fun w hE => implLW_bad s e w hE.base ho)
  · obtain ⟨a, c, N, r, ha, hc, ha8, hc8, hr, HL, HI, hb⟩ := rg_data s ho (hi ho) hf
    have HI2 := fun w hE => implLW_ok s e w hE hf ho (best (rgF r) (cellsL a c)) (fun w hE => lastWet_any s r e w hE hr a c ha hc ha8 hc8 HI)
    by_cases h0 : (best (rgF r) (cellsL a c)).2 = 0
    · simp only [specResL_no h0] at HI2
      rw [hb] at h0
      rw [h0] at HL
      exact LW_walk s 0 0 0 6 e w hE (fun w => specLW_no s r w hf ho HL) HI2
    · simp only [specResL_yes h0] at HI2
      have hpos : 0 < (best (rgF r) (cellsL a c)).2 := by rw [hb] at h0 ⊢; omega
      have HS := fun w => specLW_ok s r N a c w hf ho ha hc ha8 hc8 (by rw [← hb]; exact h0) hr HL
      rw [lbest_best _ _ hpos] at HS
      exact LW_walk s _ _ _ 0 e w hE HS HI2
theorem lw_law (s : Sh) (e : ErrE) (w : World) (hE : Err6 e w) (hf : s.fit) : Calls Tryd.prog 5 #[.agg s.row] w fun o w' => o = .returned (.bool true) ∧ Below w.heap.size w w' := by
  rw [← norm_row s]
  exact lw_law0 s.norm e w hE (norm_fit hf) inkOk_norm
end Go.Proofs.YtflmkhjleifbbaaDoor
