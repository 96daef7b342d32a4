import Derived.Deep.RegionHeld3
import Derived.Test.YthkkbkpfomhdeaaDoorDip
import Derived.Test.YthkkbkpfomhdeaaDoorG1
namespace Go.Proofs.YthkkbkpfomhdeaaDoor
open Go.RowKit
set_option maxRecDepth 100000
set_option linter.unusedVariables false
set_option linter.unusedSimpArgs false
theorem drwR {w : World} {b : Nat} {x : Obj} (h : w.heap[b]? = some x) : w.drew.heap[b]? = some x := h
/-- THE RESULTS: two rows and a slot. -/
theorem ret_rowsR {P : Program} {fn : Func} {R : Ending → World → Prop} {a : Act} {w : World} {p u q : Tmp} {ty ty' : TypeId} (hr : fn.results = #[.cell p ty, .cell u ty', .tmp q]) (b : Nat) (n : Nat) (f : Nat → Value) (t : TypeId) (d : TypeDesc) (hu : P.underlying ty = some d) (hd : d.isRow = true) (hi : (P.info? ty).map (·.size) = some n) (b' : Nat) (n' : Nat) (f' : Nat → Value) (t' : TypeId) (d' : TypeDesc) (hu' : P.underlying ty' = some d') (hd' : d'.isRow = true) (hi' : (P.info? ty').map (·.size) = some n') (v : Value)
    (hp : a.tmps.getD p undef = .pointer (some ⟨b, 0, none⟩)) (hp' : a.tmps.getD u undef = .pointer (some ⟨b', 0, none⟩)) (hv : a.tmps.getD q undef = v) (hdf : a.defers = []) (hg : w.heap[b]? = some (.cells (vrow n f) t)) (hg' : w.heap[b']? = some (.cells (vrow n' f') t')) (h : R (.returned (.tuple #[.agg (vrow n f), .agg (vrow n' f'), v])) w) : bodyPost P fn R .ret a w := by
  refine bodyPost_ret ?_ hdf h
  have hl := run_loadVar_row (P := P) w b t ty (vrow n f) (0, 0) d hg hu (by cases d <;> first | rfl | exact hd) (by rw [vrow_size]; exact hi)
  have hl' := run_loadVar_row (P := P) w b' t' ty' (vrow n' f') (0, 0) d' hg' hu' (by cases d' <;> first | rfl | exact hd') (by rw [vrow_size]; exact hi')
  have hp1 : a.tmps[p]?.getD undef = .pointer (some ⟨b, 0, none⟩) := by simpa using hp
  have hp2 : a.tmps[u]?.getD undef = .pointer (some ⟨b', 0, none⟩) := by simpa using hp'
  have hv1 : a.tmps[q]?.getD undef = v := by simpa using hv
  simp [results, hr, hp1, hp2, hv1, asAddr, hl, hl', Result.andThen]
def Br.rinsed (b : Br) : Br := ⟨fun _ => 0, 0, b.share⟩
def Br.noDye (b : Br) : Br := ⟨fun _ => 0, b.water, b.share⟩
theorem Br.noDye_at (b : Br) : vrow 5 (over b.at 0 3 fun _ => .int .i16 0) = vrow 5 b.noDye.at := vrow_ext _ _ _ fun i hi => by
  unfold over Br.at Br.noDye
  by_cases h : i < 3
  · rw [if_pos (by omega), if_pos h]
  · rw [if_neg (by omega), if_neg h, if_neg h]
theorem Br.rinsed_at (b : Br) : vrow 5 (over b.noDye.at 3 1 fun _ => .int .i16 0) = vrow 5 b.rinsed.at := by
  rw [Br.water_at]; rfl
theorem built_d3 (x y z : Int) : Tryd.prog.built 33 [(0, .int .i64 x), (1, .int .i64 y), (2, .int .i64 z)] = some #[.int .i64 x, .int .i64 y, .int .i64 z] := by kernel_rfl
theorem built_zd3 : Tryd.prog.built 23 [] = some (vrow 3 fun _ => .int .i16 0) := by kernel_rfl
theorem built_share (x : Int) : Tryd.prog.built 27 [(2, .int .i8 x)] = some #[.int .i16 0, .int .i16 0, .int .i16 0, .int .i16 0, .int .i8 x] := by kernel_rfl
set_option maxHeartbeats 2000000 in
theorem specRi_bad (b : Br) (w : World) (hf : b.fit) (ho : b.ok = false) : Calls Tryd.prog 15 #[.agg b.row] w fun o w' => o = .returned (.tuple #[.agg Br.zero.row, .agg (vrow 3 (fun _ => .int .i64 0)), .int .i64 1]) ∧ Below w.heap.size w w' := by
  have HO0 := fun n w hs => lok_any b n w hf hs
  rw [ho] at HO0
  have HO := Go.Lib.hid HO0
  have zz := zero_br
  have zy := zero_i3
  clear HO0 hf ho
  have P : Hid ((((w.alloc (.cells (vrow 5 b.at) 27)).alloc (.cells (vrow 5 Br.zero.at) 27)).alloc (.cells (vrow 3 (fun _ => .int .i64 0)) 33)).heap[w.heap.size]? = some (.cells (vrow 5 b.at) 27)) := heap_past _ _ _ _ (by simp <;> omega) (heap_past _ _ _ _ (by simp <;> omega) (heap_at _ _ _ (by simp)))
  have Z : Hid ((((w.alloc (.cells (vrow 5 b.at) 27)).alloc (.cells (vrow 5 Br.zero.at) 27)).alloc (.cells (vrow 3 (fun _ => .int .i64 0)) 33)).heap[w.heap.size + 1]? = some (.cells (vrow 5 Br.zero.at) 27)) := heap_past _ _ _ _ (by simp <;> omega) (heap_at _ _ _ (by simp))
  have Y : Hid ((((w.alloc (.cells (vrow 5 b.at) 27)).alloc (.cells (vrow 5 Br.zero.at) 27)).alloc (.cells (vrow 3 (fun _ => .int .i64 0)) 33)).heap[w.heap.size + 2]? = some (.cells (vrow 3 (fun _ => .int .i64 0)) 33)) := heap_at _ _ _ (by simp)
  have hB : Hid (Below w.heap.size w (((w.alloc (.cells (vrow 5 b.at) 27)).alloc (.cells (vrow 5 Br.zero.at) 27)).alloc (.cells (vrow 3 (fun _ => .int .i64 0)) 33))) := ((((Below.refl w.heap.size w).alloc (by simp <;> omega) _).alloc (by simp <;> omega) _).alloc (by simp <;> omega) _)
  go_enter Tryd.func15, Tryd.ntmps15
  go_wp2_with (first
    | go_skip
    | (go_at_call 44; (refine (HO.out _ _ P.out).mono ?_); rintro o w1 ⟨rfl, hb⟩; replace P := Go.Lib.hid (row_next hb P.out); replace Z := Go.Lib.hid (row_next hb Z.out); replace Y := Go.Lib.hid (row_next hb Y.out); replace hB := Go.Lib.hid (below_next hB.out hb); clear hb)
    | ((with_reducible refine wlAt 8 rfl ?_); refine wpList_built rfl 27 [] rfl [] (by rfl) _ built_zbr ?_)
    | ((with_reducible refine wlAt 9 rfl ?_); refine wpList_built rfl 33 [] rfl [] (by rfl) _ built_zi3 ?_)
    | ((with_reducible refine wlOp (.store 27 (.tmp 2) (.tmp 8)) rfl ?_); refine wpList_storeall rfl 27 (.tmp 2) (.tmp 8) rfl (w.heap.size + 1) rfl 5 Br.zero.at Br.zero.at rfl 27 size_br Z.out (fun i _ => Br.one _ i) ?_; replace Y := Go.Lib.hid (row_set' (g := w.heap.size + 1) (show w.heap.size + 2 ≠ w.heap.size + 1 by omega) Y.out (vrow 5 Br.zero.at)); replace Z := Go.Lib.hid (row_set Z.out (vrow 5 Br.zero.at)); replace hB := Go.Lib.hid (Below_setRow hB.out (show w.heap.size ≤ w.heap.size + 1 by omega) (vrow 5 Br.zero.at)))
    | ((with_reducible refine wlOp (.store 33 (.tmp 3) (.tmp 9)) rfl ?_); refine wpList_storeall rfl 33 (.tmp 3) (.tmp 9) rfl (w.heap.size + 2) rfl 3 (fun _ => .int .i64 0) (fun _ => .int .i64 0) rfl 33 size_i3 Y.out (fun _ _ => rfl) ?_; replace Z := Go.Lib.hid (row_set' (g := w.heap.size + 2) (show w.heap.size + 1 ≠ w.heap.size + 2 by omega) Z.out (vrow 3 (fun _ => .int .i64 0))); replace Y := Go.Lib.hid (row_set Y.out (vrow 3 (fun _ => .int .i64 0))); replace hB := Go.Lib.hid (Below_setRow hB.out (show w.heap.size ≤ w.heap.size + 2 by omega) (vrow 3 (fun _ => .int .i64 0)))))
  exact ret_rowsR Tryd.results15 (w.heap.size + 1) 5 Br.zero.at 27 _ Tryd.underlying27 rfl size_br (w.heap.size + 2) 3 (fun _ => .int .i64 0) 33 _ Tryd.underlying33 rfl size_i3 (.int .i64 1) rfl rfl rfl rfl Z.out Y.out ⟨rfl, hB.out⟩
set_option maxHeartbeats 4000000 in
theorem specRi_ok (b : Br) (w : World) (hf : b.fit) (ho : b.ok = true) : Calls Tryd.prog 15 #[.agg b.row] w fun o w' => o = .returned (.tuple #[.agg b.rinsed.row, .agg (vrow 3 (fun i => .int .i64 (b.dye i))), .int .i64 0]) ∧ Below w.heap.size w w' := by
  have HO0 := fun n w hs => lok_any b n w hf hs
  rw [ho] at HO0
  have HO := Go.Lib.hid HO0
  have zz := zero_br
  have zy := zero_i3
  obtain ⟨g0, g0'⟩ := hf.dye 0 (by omega)
  obtain ⟨g1, g1'⟩ := hf.dye 1 (by omega)
  obtain ⟨g2, g2'⟩ := hf.dye 2 (by omega)
  clear HO0 hf ho
  have P : Hid ((((w.alloc (.cells (vrow 5 b.at) 27)).alloc (.cells (vrow 5 Br.zero.at) 27)).alloc (.cells (vrow 3 (fun _ => .int .i64 0)) 33)).heap[w.heap.size]? = some (.cells (vrow 5 b.at) 27)) := heap_past _ _ _ _ (by simp <;> omega) (heap_past _ _ _ _ (by simp <;> omega) (heap_at _ _ _ (by simp)))
  have Z : Hid ((((w.alloc (.cells (vrow 5 b.at) 27)).alloc (.cells (vrow 5 Br.zero.at) 27)).alloc (.cells (vrow 3 (fun _ => .int .i64 0)) 33)).heap[w.heap.size + 1]? = some (.cells (vrow 5 Br.zero.at) 27)) := heap_past _ _ _ _ (by simp <;> omega) (heap_at _ _ _ (by simp))
  have Y : Hid ((((w.alloc (.cells (vrow 5 b.at) 27)).alloc (.cells (vrow 5 Br.zero.at) 27)).alloc (.cells (vrow 3 (fun _ => .int .i64 0)) 33)).heap[w.heap.size + 2]? = some (.cells (vrow 3 (fun _ => .int .i64 0)) 33)) := heap_at _ _ _ (by simp)
  have hB : Hid (Below w.heap.size w (((w.alloc (.cells (vrow 5 b.at) 27)).alloc (.cells (vrow 5 Br.zero.at) 27)).alloc (.cells (vrow 3 (fun _ => .int .i64 0)) 33))) := ((((Below.refl w.heap.size w).alloc (by simp <;> omega) _).alloc (by simp <;> omega) _).alloc (by simp <;> omega) _)
  go_enter Tryd.func15, Tryd.ntmps15
  go_wp2_with (first
    | go_skip
    | (go_at_call 44; (refine (HO.out _ _ P.out).mono ?_); rintro o w1 ⟨rfl, hb⟩; replace P := Go.Lib.hid (row_next hb P.out); replace Z := Go.Lib.hid (row_next hb Z.out); replace Y := Go.Lib.hid (row_next hb Y.out); replace hB := Go.Lib.hid (below_next hB.out hb); clear hb)
    | ((with_reducible refine wlAt 12 rfl ?_); refine wpList_load1 rfl 22 (.tmp 11) rfl _ 0 rfl 5 b.at 27 _ Tryd.underlying22 rfl P.out (by omega) ?_; rw [Br.at_0])
    | ((with_reducible refine wlAt 16 rfl ?_); refine wpList_load1 rfl 22 (.tmp 15) rfl _ 1 rfl 5 b.at 27 _ Tryd.underlying22 rfl P.out (by omega) ?_; rw [Br.at_1])
    | ((with_reducible refine wlAt 20 rfl ?_); refine wpList_load1 rfl 22 (.tmp 19) rfl _ 2 rfl 5 b.at 27 _ Tryd.underlying22 rfl P.out (by omega) ?_; rw [Br.at_2])
    | ((with_reducible refine wlAt 22 rfl ?_); refine wpList_built rfl 33 [(0, .tmp 13), (1, .tmp 17), (2, .tmp 21)] rfl [(0, .int .i64 (b.dye 0)), (1, .int .i64 (b.dye 1)), (2, .int .i64 (b.dye 2))] (by rfl) _ (built_d3 _ _ _) ?_)
    | ((with_reducible refine wlOp (.store 33 (.tmp 5) (.tmp 22)) rfl ?_); refine wpList_storeall rfl 33 (.tmp 5) (.tmp 22) rfl _ rfl 3 (fun _ => .int .i64 0) (fun i => .int .i64 (b.dye i)) rfl 33 size_i3 (heap_at _ _ _ rfl) (fun _ _ => rfl) ?_; rw [setRow_at _ _ _ _ _ rfl]; have V := Go.Lib.hid (heap_at w1 (.cells (vrow 3 (fun i => .int .i64 (b.dye i))) 33) _ rfl); have nY := row_lt Y.out; replace P := Go.Lib.hid (heap_past _ (.cells (vrow 3 (fun i => .int .i64 (b.dye i))) 33) _ _ (row_lt P.out) P.out); replace Z := Go.Lib.hid (heap_past _ (.cells (vrow 3 (fun i => .int .i64 (b.dye i))) 33) _ _ (row_lt Z.out) Z.out); replace Y := Go.Lib.hid (heap_past _ (.cells (vrow 3 (fun i => .int .i64 (b.dye i))) 33) _ _ (row_lt Y.out) Y.out); replace hB := Go.Lib.hid (hB.out.alloc hB.out.size (.cells (vrow 3 (fun i => .int .i64 (b.dye i))) 33)); generalize w1.heap.size = nb at V nY ⊢; generalize w1.alloc _ = w3 at P Z Y V hB ⊢)
    | ((with_reducible refine wlAt 23 rfl ?_); refine wpList_built rfl 23 [] rfl [] (by rfl) _ built_zd3 ?_)
    | ((with_reducible refine wlOp (.store 23 (.tmp 24) (.tmp 23)) rfl ?_); refine wpList_storemid rfl 23 (.tmp 24) (.tmp 23) rfl _ 0 rfl 5 3 b.at (fun _ => .int .i16 0) rfl 27 size_d3 P.out (by omega) (fun _ _ => rfl) ?_; rw [Br.noDye_at]; replace V := Go.Lib.hid (row_set' (g := w.heap.size) (show nb ≠ w.heap.size by omega) V.out (vrow 5 b.noDye.at)); replace Y := Go.Lib.hid (row_set' (g := w.heap.size) (show w.heap.size + 2 ≠ w.heap.size by omega) Y.out (vrow 5 b.noDye.at)); replace Z := Go.Lib.hid (row_set' (g := w.heap.size) (show w.heap.size + 1 ≠ w.heap.size by omega) Z.out (vrow 5 b.noDye.at)); replace P := Go.Lib.hid (row_set P.out (vrow 5 b.noDye.at)); replace hB := Go.Lib.hid (Below_setRow hB.out (Nat.le_refl _) (vrow 5 b.noDye.at)))
    | ((with_reducible refine wlOp (.store 22 (.tmp 25) (.const (.int .i16 0))) rfl ?_); refine wpList_store1 rfl 22 (.tmp 25) (.const (.int .i16 0)) rfl _ 3 rfl 5 b.noDye.at (.int .i16 0) rfl 27 size_i16 P.out (by omega) rfl ?_; rw [Br.rinsed_at]; replace V := Go.Lib.hid (row_set' (g := w.heap.size) (show nb ≠ w.heap.size by omega) V.out (vrow 5 b.rinsed.at)); replace Y := Go.Lib.hid (row_set' (g := w.heap.size) (show w.heap.size + 2 ≠ w.heap.size by omega) Y.out (vrow 5 b.rinsed.at)); replace Z := Go.Lib.hid (row_set' (g := w.heap.size) (show w.heap.size + 1 ≠ w.heap.size by omega) Z.out (vrow 5 b.rinsed.at)); replace P := Go.Lib.hid (row_set P.out (vrow 5 b.rinsed.at)); replace hB := Go.Lib.hid (Below_setRow hB.out (Nat.le_refl _) (vrow 5 b.rinsed.at))))
  refine Code.wp_mono (Q := fun e a' W' => e = .normal ∧ a'.tmps.getD 2 undef = .pointer (some ⟨w.heap.size + 1, 0, none⟩) ∧ a'.tmps.getD 3 undef = .pointer (some ⟨w.heap.size + 2, 0, none⟩) ∧ a'.tmps.getD 4 undef = .int .i64 0 ∧ a'.defers = [] ∧ Below w.heap.size w W' ∧ W'.heap[w.heap.size + 1]? = some (.cells (vrow 5 b.rinsed.at) 27) ∧ W'.heap[w.heap.size + 2]? = some (.cells (vrow 3 (fun i => .int .i64 (b.dye i))) 33)) ?_ ?_
  rotate_left
  · refine wp_region_held_drew (S := fun W' => Below w.heap.size w W' ∧ W'.heap[w.heap.size]? = some (.cells (vrow 5 b.rinsed.at) 27) ∧ W'.heap[nb]? = some (.cells (vrow 3 (fun i => .int .i64 (b.dye i))) 33)) (by kernel_rfl) ⟨hB.out.drew, P.out, V.out⟩ (fun hH => ?_)
    have V2 := drwR Z.out
    have V3 := drwR Y.out
    generalize World.drew _ = W at hH V2 V3 ⊢
    refine wpAnyH_take (i := 0) (v := (.agg (vrow 5 b.rinsed.at))) rfl (by kernel_rfl) (by kernel_rfl) (by kernel_rfl) (fun _ _ _ h => by cases h.1) (yields_row (by rfl) 27 _ rfl (w.heap.size) rfl 5 b.rinsed.at 27 _ Tryd.underlying27 rfl size_br (fun _ h => h.2.1)) hH ?_
    (try simp only [Act.put, List.setIfInBounds_toArray, List.set_cons_succ, List.set_cons_zero])
    refine wpAnyH_take (i := 1) (v := (.agg (vrow 3 (fun i => .int .i64 (b.dye i))))) rfl (by kernel_rfl) (by kernel_rfl) (by kernel_rfl) (fun _ _ _ h => by cases h.1) (yields_row (by rfl) 33 _ rfl (nb) rfl 3 (fun i => .int .i64 (b.dye i)) 33 _ Tryd.underlying33 rfl size_i3 (fun _ h => h.2.2)) hH ?_
    (try simp only [Act.put, List.setIfInBounds_toArray, List.set_cons_succ, List.set_cons_zero])
    refine wpAnyH_ready (rs := [2]) (by kernel_rfl) (by simp) (AllReadyH.cons rfl (fun K hK => ?_) AllReadyH.nil)
    rw [if_pos (by rfl)]
    unfold Oper.wp
    rw [run_storemid 27 (.tmp 2) (.tmp 26) rfl (w.heap.size + 1) 0 rfl 5 5 Br.zero.at b.rinsed.at rfl 27 size_br V2 (by omega) (fun i _ => Br.one _ i), vrow_over_all, Oper.upon_skip]
    replace V2 := row_set V2 (vrow 5 b.rinsed.at)
    replace V3 := row_set' (show w.heap.size + 2 ≠ w.heap.size + 1 by omega) V3 (vrow 5 b.rinsed.at)
    have hH2 : Below w.heap.size w (W.setRow (w.heap.size + 1) (vrow 5 b.rinsed.at)) ∧ (W.setRow (w.heap.size + 1) (vrow 5 b.rinsed.at)).heap[w.heap.size]? = some (.cells (vrow 5 b.rinsed.at) 27) ∧ (W.setRow (w.heap.size + 1) (vrow 5 b.rinsed.at)).heap[nb]? = some (.cells (vrow 3 (fun i => .int .i64 (b.dye i))) 33) := ⟨Below_setRow hH.1 (by omega) _, row_set' (by omega) hH.2.1 _, row_set' (by omega) hH.2.2 _⟩
    refine hK.out _ _ hH2 (fun hH => ?_)
    clear hK K hH2
    (try simp only [Act.put, List.setIfInBounds_toArray, List.set_cons_succ, List.set_cons_zero])
    generalize (W.setRow (w.heap.size + 1) (vrow 5 b.rinsed.at)) = Y0 at hH V2 V3 ⊢
    refine wpAnyH_ready (rs := [3]) (by kernel_rfl) (by simp) (AllReadyH.cons rfl (fun K hK => ?_) AllReadyH.nil)
    rw [if_pos (by rfl)]
    unfold Oper.wp
    rw [run_storemid 33 (.tmp 3) (.tmp 27) rfl (w.heap.size + 2) 0 rfl 3 3 (fun _ => .int .i64 0) (fun i => .int .i64 (b.dye i)) rfl 33 size_i3 V3 (by omega) (fun i _ => rfl), vrow_over_all, Oper.upon_skip]
    replace V2 := row_set' (show w.heap.size + 1 ≠ w.heap.size + 2 by omega) V2 (vrow 3 (fun i => .int .i64 (b.dye i)))
    replace V3 := row_set V3 (vrow 3 (fun i => .int .i64 (b.dye i)))
    have hH2 : Below w.heap.size w (Y0.setRow (w.heap.size + 2) (vrow 3 (fun i => .int .i64 (b.dye i)))) ∧ (Y0.setRow (w.heap.size + 2) (vrow 3 (fun i => .int .i64 (b.dye i)))).heap[w.heap.size]? = some (.cells (vrow 5 b.rinsed.at) 27) ∧ (Y0.setRow (w.heap.size + 2) (vrow 3 (fun i => .int .i64 (b.dye i)))).heap[nb]? = some (.cells (vrow 3 (fun i => .int .i64 (b.dye i))) 33) := ⟨Below_setRow hH.1 (by omega) _, row_set' (by omega) hH.2.1 _, row_set' (by omega) hH.2.2 _⟩
    refine hK.out _ _ hH2 (fun hH => ?_)
    clear hK K hH2
    (try simp only [Act.put, List.setIfInBounds_toArray, List.set_cons_succ, List.set_cons_zero])
    generalize (Y0.setRow (w.heap.size + 2) (vrow 3 (fun i => .int .i64 (b.dye i)))) = Y1 at hH V2 V3 ⊢
    refine wpAnyH_take (i := 4) (v := (.int .i64 0)) rfl (by kernel_rfl) (by kernel_rfl) (by kernel_rfl) (fun _ _ _ h => by cases h.1) (.inl ⟨by rfl, fun w _ => by go_simp⟩) hH ?_
    (try simp only [Act.put, List.setIfInBounds_toArray, List.set_cons_succ, List.set_cons_zero])
    refine wpAnyH_done (by kernel_rfl) ?_ _
    exact ⟨rfl, rfl, rfl, rfl, rfl, hH.1, V2, V3⟩
  rintro e1 a1 W1 ⟨rfl, h_2, h_3, h_4, hdf, hB1, V2, V3⟩
  go_wp2
  exact ret_rowsR Tryd.results15 (w.heap.size + 1) 5 b.rinsed.at 27 _ Tryd.underlying27 rfl size_br (w.heap.size + 2) 3 (fun i => .int .i64 (b.dye i)) 33 _ Tryd.underlying33 rfl size_i3 (.int .i64 0) h_2 h_3 h_4 hdf V2 V3 ⟨rfl, hB1⟩
set_option maxHeartbeats 1000000 in
theorem amounts_b (d : Nat → Int) (hd : ∀ i, i < 3 → -32768 ≤ d i ∧ d i ≤ 32767) (w : World) : Calls Tryd.prog 53 #[.agg (irow .i16 3 d)] w fun e w' => e = .returned (.agg (vrow 3 fun i => .int .i64 (d i))) ∧ Below w.heap.size w w' := by
  have zy := zero_i3
  have hB : Hid (Below w.heap.size w (((w.alloc (.cells (irow .i16 3 d) 23)).alloc (.cells (vrow 3 (fun _ => .int .i64 0)) 33)).alloc (.cells (vrow 3 (fun _ => .int .i64 0)) 33))) := ((((Below.refl w.heap.size w).alloc (by simp <;> omega) _).alloc (by simp <;> omega) _).alloc (by simp <;> omega) _)
  have D : Hid ((((w.alloc (.cells (irow .i16 3 d) 23)).alloc (.cells (vrow 3 (fun _ => .int .i64 0)) 33)).alloc (.cells (vrow 3 (fun _ => .int .i64 0)) 33)).heap[(w.heap.size)]? = some (.cells (irow .i16 3 d) 23)) := heap_past _ _ _ _ (by simp <;> omega) (heap_past _ _ _ _ (by simp <;> omega) (heap_at _ _ _ (by simp)))
  have Z : Hid ((((w.alloc (.cells (irow .i16 3 d) 23)).alloc (.cells (vrow 3 (fun _ => .int .i64 0)) 33)).alloc (.cells (vrow 3 (fun _ => .int .i64 0)) 33)).heap[(w.heap.size + 1)]? = some (.cells (vrow 3 (fun _ => .int .i64 0)) 33)) := heap_past _ _ _ _ (by simp <;> omega) (heap_at _ _ _ (by simp))
  have L : Hid ((((w.alloc (.cells (irow .i16 3 d) 23)).alloc (.cells (vrow 3 (fun _ => .int .i64 0)) 33)).alloc (.cells (vrow 3 (fun _ => .int .i64 0)) 33)).heap[(w.heap.size + 2)]? = some (.cells (vrow 3 (fun _ => .int .i64 0)) 33)) := heap_at _ _ _ (by simp)
  go_enter Tryd.func53, Tryd.ntmps53
  go_wp2_with (first
    | go_skip
    | ((with_reducible refine wlAt 6 rfl ?_); refine wpList_loadall rfl 23 (.tmp 1) rfl _ rfl 3 (fun i => .int .i16 (d i)) 23 _ Tryd.underlying23 rfl size_d3 D.out ?_; rw [d3_lit]))
  go_loopw [7] (fun i wr => ∃ k : Nat, k ≤ 3 ∧ i = .int .i64 k ∧ wr.heap[w.heap.size + 1]? = some (.cells (vrow 3 (fun _ => .int .i64 0)) 33) ∧ wr.heap[w.heap.size + 2]? = some (.cells (irow .i64 3 (upto d k)) 33) ∧ Below w.heap.size w wr) (fun i _ => 3 - (intOf i).toNat)
  case atStart => exact ⟨0, by omega, rfl, Z.out, by rw [upto_zero]; exact L.out, hB.out⟩
  case round =>
    clear hB D Z L
    obtain ⟨k, hk, rfl, Z, L, hB⟩ := hrel
    replace hB := Go.Lib.hid hB; replace Z := Go.Lib.hid Z; replace L := Go.Lib.hid L
    by_cases hlt : k < 3
    · have hkI : (k : Int) < 3 := by omega
      have hix := idx_b d k hlt
      obtain ⟨hd1, hd2⟩ := hd k hlt
      clear hd
      go_wp2_with (first
        | go_skip
        | ((with_reducible refine wlOp (.store 2 (.tmp 14) (.tmp 13)) rfl ?_); refine wpList_store1 rfl 2 (.tmp 14) (.tmp 13) rfl _ k rfl 3 (fun i => .int .i64 (upto d k i)) (.int .i64 (d k)) rfl 33 size_i64c L.out (by omega) rfl ?_; rw [over_one _ k fun i => .int .i64 (d i), upto_over]; replace Z := Go.Lib.hid (row_set' (g := w.heap.size + 2) (show w.heap.size + 1 ≠ w.heap.size + 2 by omega) Z.out (irow .i64 3 (upto d (k + 1)))); replace L := Go.Lib.hid (row_set L.out (irow .i64 3 (upto d (k + 1)))); replace hB := Go.Lib.hid (Below_setRow hB.out (show w.heap.size ≤ w.heap.size + 2 by omega) (irow .i64 3 (upto d (k + 1))))))
      go_roundw
      case rel => exact ⟨k + 1, by omega, by go_num, Z.out, L.out, hB.out⟩
      case measure => simp [intOf]; omega
    · obtain rfl : k = 3 := by omega
      have L0 := L.out
      rw [upto_full] at L0
      replace L := Go.Lib.hid L0
      clear L0
      go_wp2_with (first
        | go_skip
        | ((with_reducible refine wlAt 16 rfl ?_); refine wpList_loadall rfl 33 (.tmp 3) rfl _ rfl 3 (fun i => .int .i64 (d i)) 33 _ Tryd.underlying33 rfl size_i3 L.out ?_)
        | ((with_reducible refine wlOp (.store 33 (.tmp 2) (.tmp 16)) rfl ?_); refine wpList_storeall rfl 33 (.tmp 2) (.tmp 16) rfl (w.heap.size + 1) rfl 3 (fun _ => .int .i64 0) (fun i => .int .i64 (d i)) rfl 33 size_i3 Z.out (fun _ _ => rfl) ?_; replace Z := Go.Lib.hid (row_set Z.out (vrow 3 fun i => .int .i64 (d i))); replace hB := Go.Lib.hid (Below_setRow hB.out (show w.heap.size ≤ w.heap.size + 1 by omega) (vrow 3 fun i => .int .i64 (d i)))))
      exact ret_row Tryd.results53 (w.heap.size + 1) 3 (fun i => .int .i64 (d i)) 33 _ Tryd.underlying33 rfl size_i3 rfl rfl Z.out ⟨rfl, hB.out⟩
set_option maxHeartbeats 2000000 in
theorem implRi_bad (b : Br) (e : ErrE) (w : World) (hE : Errs e w) (hf : b.fit) (ho : b.ok = false) : Calls Tryd.prog 16 #[.agg b.row] w fun o w' => o = .returned (.tuple #[.agg Br.zero.row, .agg (vrow 3 (fun _ => .int .i64 0)), .int .i64 1]) ∧ Below w.heap.size w w' := by
  have HC := Go.Lib.hid fun w hE => ckBrush_bad b e w hE hf ho
  have HD := Go.Lib.hid fun w hE => codeOf_1 e w hE
  have zz := zero_br
  have zy := zero_i3
  clear hf ho
  have P : Hid ((((w.alloc (.cells (vrow 5 b.at) 27)).alloc (.cells (vrow 5 Br.zero.at) 27)).alloc (.cells (vrow 3 (fun _ => .int .i64 0)) 33)).heap[w.heap.size]? = some (.cells (vrow 5 b.at) 27)) := heap_past _ _ _ _ (by simp <;> omega) (heap_past _ _ _ _ (by simp <;> omega) (heap_at _ _ _ (by simp)))
  have Z : Hid ((((w.alloc (.cells (vrow 5 b.at) 27)).alloc (.cells (vrow 5 Br.zero.at) 27)).alloc (.cells (vrow 3 (fun _ => .int .i64 0)) 33)).heap[w.heap.size + 1]? = some (.cells (vrow 5 Br.zero.at) 27)) := heap_past _ _ _ _ (by simp <;> omega) (heap_at _ _ _ (by simp))
  have Y : Hid ((((w.alloc (.cells (vrow 5 b.at) 27)).alloc (.cells (vrow 5 Br.zero.at) 27)).alloc (.cells (vrow 3 (fun _ => .int .i64 0)) 33)).heap[w.heap.size + 2]? = some (.cells (vrow 3 (fun _ => .int .i64 0)) 33)) := heap_at _ _ _ (by simp)
  have hB : Hid (Below w.heap.size w (((w.alloc (.cells (vrow 5 b.at) 27)).alloc (.cells (vrow 5 Br.zero.at) 27)).alloc (.cells (vrow 3 (fun _ => .int .i64 0)) 33))) := ((((Below.refl w.heap.size w).alloc (by simp <;> omega) _).alloc (by simp <;> omega) _).alloc (by simp <;> omega) _)
  have E : Hid (Errs e (((w.alloc (.cells (vrow 5 b.at) 27)).alloc (.cells (vrow 5 Br.zero.at) 27)).alloc (.cells (vrow 3 (fun _ => .int .i64 0)) 33))) := ((hE.alloc _).alloc _).alloc _
  go_enter Tryd.func16, Tryd.ntmps16
  go_wp2_with (first
    | go_skip
    | ((with_reducible refine wlAt 6 rfl ?_); refine wpList_loadall rfl 27 (.tmp 1) rfl _ rfl 5 b.at 27 _ Tryd.underlying27 rfl size_br P.out ?_)
    | (go_at_call 52; (refine (HC.out _ E.out).mono ?_); rintro o w1 ⟨rfl, hb⟩; replace P := Go.Lib.hid (row_next hb P.out); replace Z := Go.Lib.hid (row_next hb Z.out); replace Y := Go.Lib.hid (row_next hb Y.out); replace hB := Go.Lib.hid (below_next hB.out hb); replace E := Go.Lib.hid (E.out.next hb); clear hb)
    | (go_at_call 49; (refine (HD.out _ E.out).mono ?_); rintro o w2 ⟨rfl, hb⟩; replace P := Go.Lib.hid (row_next hb P.out); replace Z := Go.Lib.hid (row_next hb Z.out); replace Y := Go.Lib.hid (row_next hb Y.out); replace hB := Go.Lib.hid (below_next hB.out hb); replace E := Go.Lib.hid (E.out.next hb); clear hb)
    | ((with_reducible refine wlAt 10 rfl ?_); refine wpList_built rfl 27 [] rfl [] (by rfl) _ built_zbr ?_)
    | ((with_reducible refine wlAt 11 rfl ?_); refine wpList_built rfl 33 [] rfl [] (by rfl) _ built_zi3 ?_)
    | ((with_reducible refine wlOp (.store 27 (.tmp 2) (.tmp 10)) rfl ?_); refine wpList_storeall rfl 27 (.tmp 2) (.tmp 10) rfl (w.heap.size + 1) rfl 5 Br.zero.at Br.zero.at rfl 27 size_br Z.out (fun i _ => Br.one _ i) ?_; replace Y := Go.Lib.hid (row_set' (g := w.heap.size + 1) (show w.heap.size + 2 ≠ w.heap.size + 1 by omega) Y.out (vrow 5 Br.zero.at)); replace Z := Go.Lib.hid (row_set Z.out (vrow 5 Br.zero.at)); replace hB := Go.Lib.hid (Below_setRow hB.out (show w.heap.size ≤ w.heap.size + 1 by omega) (vrow 5 Br.zero.at)))
    | ((with_reducible refine wlOp (.store 33 (.tmp 3) (.tmp 11)) rfl ?_); refine wpList_storeall rfl 33 (.tmp 3) (.tmp 11) rfl (w.heap.size + 2) rfl 3 (fun _ => .int .i64 0) (fun _ => .int .i64 0) rfl 33 size_i3 Y.out (fun _ _ => rfl) ?_; replace Z := Go.Lib.hid (row_set' (g := w.heap.size + 2) (show w.heap.size + 1 ≠ w.heap.size + 2 by omega) Z.out (vrow 3 (fun _ => .int .i64 0))); replace Y := Go.Lib.hid (row_set Y.out (vrow 3 (fun _ => .int .i64 0))); replace hB := Go.Lib.hid (Below_setRow hB.out (show w.heap.size ≤ w.heap.size + 2 by omega) (vrow 3 (fun _ => .int .i64 0)))))
  exact ret_rowsR Tryd.results16 (w.heap.size + 1) 5 Br.zero.at 27 _ Tryd.underlying27 rfl size_br (w.heap.size + 2) 3 (fun _ => .int .i64 0) 33 _ Tryd.underlying33 rfl size_i3 (.int .i64 1) rfl rfl rfl rfl Z.out Y.out ⟨rfl, hB.out⟩
set_option maxHeartbeats 4000000 in
theorem implRi_ok (b : Br) (e : ErrE) (w : World) (hE : Errs e w) (hf : b.fit) (ho : b.ok = true) : Calls Tryd.prog 16 #[.agg b.row] w fun o w' => o = .returned (.tuple #[.agg b.rinsed.row, .agg (vrow 3 (fun i => .int .i64 (b.dye i))), .int .i64 0]) ∧ Below w.heap.size w w' := by
  have HC := Go.Lib.hid fun w hE => ckBrush_ok b e w hE hf ho
  have HA := Go.Lib.hid fun w => amounts_b b.dye hf.dye w
  have zz := zero_br
  have zy := zero_i3
  clear hf ho
  have P : Hid ((((w.alloc (.cells (vrow 5 b.at) 27)).alloc (.cells (vrow 5 Br.zero.at) 27)).alloc (.cells (vrow 3 (fun _ => .int .i64 0)) 33)).heap[w.heap.size]? = some (.cells (vrow 5 b.at) 27)) := heap_past _ _ _ _ (by simp <;> omega) (heap_past _ _ _ _ (by simp <;> omega) (heap_at _ _ _ (by simp)))
  have Z : Hid ((((w.alloc (.cells (vrow 5 b.at) 27)).alloc (.cells (vrow 5 Br.zero.at) 27)).alloc (.cells (vrow 3 (fun _ => .int .i64 0)) 33)).heap[w.heap.size + 1]? = some (.cells (vrow 5 Br.zero.at) 27)) := heap_past _ _ _ _ (by simp <;> omega) (heap_at _ _ _ (by simp))
  have Y : Hid ((((w.alloc (.cells (vrow 5 b.at) 27)).alloc (.cells (vrow 5 Br.zero.at) 27)).alloc (.cells (vrow 3 (fun _ => .int .i64 0)) 33)).heap[w.heap.size + 2]? = some (.cells (vrow 3 (fun _ => .int .i64 0)) 33)) := heap_at _ _ _ (by simp)
  have hB : Hid (Below w.heap.size w (((w.alloc (.cells (vrow 5 b.at) 27)).alloc (.cells (vrow 5 Br.zero.at) 27)).alloc (.cells (vrow 3 (fun _ => .int .i64 0)) 33))) := ((((Below.refl w.heap.size w).alloc (by simp <;> omega) _).alloc (by simp <;> omega) _).alloc (by simp <;> omega) _)
  have E : Hid (Errs e (((w.alloc (.cells (vrow 5 b.at) 27)).alloc (.cells (vrow 5 Br.zero.at) 27)).alloc (.cells (vrow 3 (fun _ => .int .i64 0)) 33))) := ((hE.alloc _).alloc _).alloc _
  go_enter Tryd.func16, Tryd.ntmps16
  go_wp2_with (first
    | go_skip
    | ((with_reducible refine wlAt 6 rfl ?_); refine wpList_loadall rfl 27 (.tmp 1) rfl _ rfl 5 b.at 27 _ Tryd.underlying27 rfl size_br P.out ?_)
    | (go_at_call 52; (refine (HC.out _ E.out).mono ?_); rintro o w1 ⟨rfl, hb⟩; replace P := Go.Lib.hid (row_next hb P.out); replace Z := Go.Lib.hid (row_next hb Z.out); replace Y := Go.Lib.hid (row_next hb Y.out); replace hB := Go.Lib.hid (below_next hB.out hb); replace E := Go.Lib.hid (E.out.next hb); clear hb))
  refine Code.wp_mono (Q := fun e a' W' => e = .normal ∧ a'.tmps.getD 2 undef = .pointer (some ⟨w.heap.size + 1, 0, none⟩) ∧ a'.tmps.getD 3 undef = .pointer (some ⟨w.heap.size + 2, 0, none⟩) ∧ a'.tmps.getD 4 undef = .int .i64 0 ∧ a'.defers = [] ∧ Below w.heap.size w W' ∧ W'.heap[w.heap.size + 1]? = some (.cells (vrow 5 b.rinsed.at) 27) ∧ W'.heap[w.heap.size + 2]? = some (.cells (vrow 3 (fun i => .int .i64 (b.dye i))) 33)) ?_ ?_
  rotate_left
  · refine wp_region_held_drew (S := fun W' => (Below w.heap.size w W' ∧ W'.heap[w.heap.size]? = some (.cells (vrow 5 b.at) 27))) (by kernel_rfl) ⟨hB.out.drew, P.out⟩ (fun hH => ?_)
    have V2 := drwR Z.out
    have V3 := drwR Y.out
    generalize World.drew _ = W at hH V2 V3 ⊢
    refine wpAnyH_take (i := 0) (v := (.pointer (some ⟨w.heap.size, 4, none⟩))) rfl (by kernel_rfl) (by kernel_rfl) (by kernel_rfl) (fun _ _ _ h => by cases h.1) (.inl ⟨by rfl, fun w _ => by go_simp⟩) hH ?_
    (try simp only [Act.put, List.setIfInBounds_toArray, List.set_cons_succ, List.set_cons_zero])
    refine wpAnyH_take (i := 1) (v := (.int .i8 b.share)) rfl (by kernel_rfl) (by kernel_rfl) (by kernel_rfl) (fun _ _ _ h => by cases h.1) (yields_one (by rfl) 24 _ rfl (w.heap.size) 4 rfl 5 b.at 27 _ Tryd.underlying24 rfl (by omega) (fun _ h => h.2)) hH ?_
    (try simp only [Act.put, List.setIfInBounds_toArray, List.set_cons_succ, List.set_cons_zero])
    refine wpAnyH_take (i := 2) (v := (.agg b.rinsed.row)) rfl (by kernel_rfl) (by kernel_rfl) (by kernel_rfl) (fun _ _ _ h => by cases h.1) (yields_b (by rfl) 27 [(2, .tmp 15)] rfl [(2, .int .i8 b.share)] (by rfl) _ (built_share _)) hH ?_
    (try simp only [Act.put, List.setIfInBounds_toArray, List.set_cons_succ, List.set_cons_zero])
    refine wpAnyH_take (i := 3) (v := (.pointer (some ⟨w.heap.size, 0, none⟩))) rfl (by kernel_rfl) (by kernel_rfl) (by kernel_rfl) (fun _ _ _ h => by cases h.1) (.inl ⟨by rfl, fun w _ => by go_simp⟩) hH ?_
    (try simp only [Act.put, List.setIfInBounds_toArray, List.set_cons_succ, List.set_cons_zero])
    refine wpAnyH_take (i := 4) (v := (.agg (irow .i16 3 b.dye))) rfl (by kernel_rfl) (by kernel_rfl) (by kernel_rfl) (fun _ _ _ h => by cases h.1) (yields_m (by rfl) 23 _ rfl (w.heap.size) 0 rfl 5 3 b.at _ (by omega) 27 _ Tryd.underlying23 rfl size_d3 b.at_dye (fun _ h => h.2)) hH ?_
    (try simp only [Act.put, List.setIfInBounds_toArray, List.set_cons_succ, List.set_cons_zero])
    refine wpAnyH_ready (rs := [5]) (by kernel_rfl) (by simp) (AllReadyH.cons rfl (fun K hK => ?_) AllReadyH.nil)
    rw [if_pos (by rfl)]
    go_simp
    go_at_call 53
    refine (HA.out _).mono ?_
    rintro o X ⟨rfl, hb⟩
    replace hH : Below w.heap.size w X ∧ X.heap[w.heap.size]? = some (.cells (vrow 5 b.at) 27) := ⟨hH.1.trans (hb.mono hH.1.size), row_next hb hH.2⟩
    replace V2 := row_next hb V2
    replace V3 := row_next hb V3
    clear hb
    refine hK.out _ _ hH (fun hH => ?_)
    clear hK K
    (try simp only [Act.put, List.setIfInBounds_toArray, List.set_cons_succ, List.set_cons_zero])
    refine wpAnyH_ready (rs := [6]) (by kernel_rfl) (by simp) (AllReadyH.cons rfl (fun K hK => ?_) AllReadyH.nil)
    rw [if_pos (by rfl)]
    unfold Oper.wp
    rw [run_storemid 27 (.tmp 2) (.tmp 16) rfl (w.heap.size + 1) 0 rfl 5 5 Br.zero.at b.rinsed.at rfl 27 size_br V2 (by omega) (fun i _ => Br.one _ i), vrow_over_all, Oper.upon_skip]
    replace V2 := row_set V2 (vrow 5 b.rinsed.at)
    replace V3 := row_set' (show w.heap.size + 2 ≠ w.heap.size + 1 by omega) V3 (vrow 5 b.rinsed.at)
    have hH2 : Below w.heap.size w (X.setRow (w.heap.size + 1) (vrow 5 b.rinsed.at)) ∧ (X.setRow (w.heap.size + 1) (vrow 5 b.rinsed.at)).heap[w.heap.size]? = some (.cells (vrow 5 b.at) 27) := ⟨Below_setRow hH.1 (by omega) _, row_set' (by omega) hH.2 _⟩
    refine hK.out _ _ hH2 (fun hH => ?_)
    clear hK K hH2
    (try simp only [Act.put, List.setIfInBounds_toArray, List.set_cons_succ, List.set_cons_zero])
    generalize (X.setRow (w.heap.size + 1) (vrow 5 b.rinsed.at)) = Y0 at hH V2 V3 ⊢
    refine wpAnyH_ready (rs := [7]) (by kernel_rfl) (by simp) (AllReadyH.cons rfl (fun K hK => ?_) AllReadyH.nil)
    rw [if_pos (by rfl)]
    unfold Oper.wp
    rw [run_storemid 33 (.tmp 3) (.tmp 19) rfl (w.heap.size + 2) 0 rfl 3 3 (fun _ => .int .i64 0) (fun i => .int .i64 (b.dye i)) rfl 33 size_i3 V3 (by omega) (fun i _ => rfl), vrow_over_all, Oper.upon_skip]
    replace V2 := row_set' (show w.heap.size + 1 ≠ w.heap.size + 2 by omega) V2 (vrow 3 (fun i => .int .i64 (b.dye i)))
    replace V3 := row_set V3 (vrow 3 (fun i => .int .i64 (b.dye i)))
    have hH2 : Below w.heap.size w (Y0.setRow (w.heap.size + 2) (vrow 3 (fun i => .int .i64 (b.dye i)))) ∧ (Y0.setRow (w.heap.size + 2) (vrow 3 (fun i => .int .i64 (b.dye i)))).heap[w.heap.size]? = some (.cells (vrow 5 b.at) 27) := ⟨Below_setRow hH.1 (by omega) _, row_set' (by omega) hH.2 _⟩
    refine hK.out _ _ hH2 (fun hH => ?_)
    clear hK K hH2
    (try simp only [Act.put, List.setIfInBounds_toArray, List.set_cons_succ, List.set_cons_zero])
    generalize (Y0.setRow (w.heap.size + 2) (vrow 3 (fun i => .int .i64 (b.dye i)))) = Y1 at hH V2 V3 ⊢
    refine wpAnyH_take (i := 8) (v := (.int .i64 0)) rfl (by kernel_rfl) (by kernel_rfl) (by kernel_rfl) (fun _ _ _ h => by cases h.1) (.inl ⟨by rfl, fun w _ => by go_simp⟩) hH ?_
    (try simp only [Act.put, List.setIfInBounds_toArray, List.set_cons_succ, List.set_cons_zero])
    refine wpAnyH_done (by kernel_rfl) ?_ _
    exact ⟨rfl, rfl, rfl, rfl, rfl, hH.1, V2, V3⟩
  rintro e1 a1 W1 ⟨rfl, h_2, h_3, h_4, hdf, hB1, V2, V3⟩
  go_wp2
  exact ret_rowsR Tryd.results16 (w.heap.size + 1) 5 b.rinsed.at 27 _ Tryd.underlying27 rfl size_br (w.heap.size + 2) 3 (fun i => .int .i64 (b.dye i)) 33 _ Tryd.underlying33 rfl size_i3 (.int .i64 0) h_2 h_3 h_4 hdf V2 V3 ⟨rfl, hB1⟩
end Go.Proofs.YthkkbkpfomhdeaaDoor
