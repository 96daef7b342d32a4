import Derived.Test.YtfhfiaphdgfmnaaDoorG1
namespace Go.Proofs.YtfhfiaphdgfmnaaDoor
open Go.RowKit
set_option maxRecDepth 100000
set_option linter.unusedVariables false
attribute [local go_sem] Oper.semAt_some
theorem size_bool : (Tryd.prog.info? 4).map (·.size) = some 1 := by kernel_rfl
def okI (s : Sh) : Bool := (decide (1 ≤ s.wide) && decide (s.wide ≤ 8)) && ((decide (1 ≤ s.high) && decide (s.high ≤ 8)) && (cellsL 8 8).all fun p => validB s p.1.1 p.1.2)
theorem mem_cells (p : Sp8) : p ∈ cellsL 8 8 := by
  obtain ⟨⟨x, y⟩, hx, hy⟩ := p
  simp only [cellsL, List.mem_flatMap, List.mem_range, rowOf, List.mem_map]
  exact ⟨y, hy, x, hx, Subtype.ext (mk8_x hx hy)⟩
theorem okI_no (s : Sh) (p : Sp8) (h : validB s p.1.1 p.1.2 = false) : okI s = false := by
  have : ((cellsL 8 8).all fun p => validB s p.1.1 p.1.2) = false := by rw [List.all_eq_false]; exact ⟨p, mem_cells p, by simp [h]⟩
  simp [okI, this]
theorem okI_yes (s : Sh) (h1 : 1 ≤ s.wide) (h2 : s.wide ≤ 8) (h3 : 1 ≤ s.high) (h4 : s.high ≤ 8) (h : ∀ p ∈ cellsL 8 8, validB s p.1.1 p.1.2 = true) : okI s = true := by
  have : ((cellsL 8 8).all fun p => validB s p.1.1 p.1.2) = true := by rw [List.all_eq_true]; exact h
  simp [okI, this, h1, h2, h3, h4]
theorem ff_row : vrow 1 (over (fun _ => Value.bool false) 0 1 fun _ => Value.bool false) = vrow 1 (fun _ => Value.bool false) := vrow_over_all _ _ _
theorem ft_row : vrow 1 (over (fun _ => Value.bool false) 0 1 fun _ => Value.bool true) = vrow 1 (fun _ => Value.bool true) := vrow_over_all _ _ _
/-- A result that is one cell. -/
theorem res_cell1 {P : Program} {fn : Func} {p : Tmp} {ty : TypeId} (h : fn.results = #[.cell p ty]) (tmps : Array Value) (w : World) (g n : Nat) (f : Nat → Value) (t : TypeId) (hu : (P.underlying ty).map (·.isRow) = some false)
    (hp : tmps.getD p undef = .pointer (some ⟨g, 0, none⟩)) (hg : w.heap[g]? = some (.cells (vrow n f) t)) (hn : 0 < n) : (results fn tmps).run P w = .ok (f 0) w := by
  obtain ⟨d, hu', hd⟩ := Option.map_eq_some_iff.1 hu
  have hp' : tmps[p]?.getD undef = .pointer (some ⟨g, 0, none⟩) := by simpa using hp
  have hc := cell_row hg hn
  have hl : (loadVar ty ⟨g, 0, none⟩).run P w = .ok (f 0) w := by
    simp only [loadVar, Sem.run_bind, run_isAgg_row w ty d hu', hd, Result.andThen_ok, Bool.false_eq_true, if_false, run_load, hc]
  simp [results, h, hp', asAddr, hl]
/-- BEHIND A RANGE OVER A FUNCTION: the return. -/
theorem leaveM {n : Nat} {P : Program} {fn : Func} {R : Ending → World → Prop} {a : Act} {W : World} {D : Nat} {v : Value} (hd : a.defers = [{ target := .collected D, args := #[] }]) (hh : W.heap[D]? = some (.deferred (some [])))
    (hres : (results fn a.tmps).run P (W.putObj D (.deferred none)) = .ok v (W.putObj D (.deferred none))) (hR : R (.returned v) (W.putObj D (.deferred none))) : bodyPostM Fence.wide n P fn R .ret a W := by
  show LeavesInM Fence.wide n P fn a.tmps R a.defers .returning W
  rw [hd]
  exact ⟨by simp, .inl ⟨D, _, rfl, run_takeDeferred hh, ⟨v, hres, hR⟩⟩⟩
theorem row_put {W : World} {b D : Nat} {o x : Obj} (h : W.heap[b]? = some o) (hne : b ≠ D) : (W.putObj D x).heap[b]? = some o := (World.putObj_heap_other hne).trans h
theorem below_put {w W : World} {D : Nat} (x : Obj) (h : Below w.heap.size w W) (hD : w.heap.size ≤ D) (hlt : D < W.heap.size) : Below w.heap.size w (W.putObj D x) :=
  h.grown (grownBy_putObj' W D x) h.size (fun k e => by cases e; exact hD)
theorem rw_bool : (Tryd.prog.underlying 4).map (·.isRow) = some false := by kernel_rfl
set_option maxRecDepth 100000 in
set_option maxHeartbeats 2000000 in
theorem implV_loop (s : Sh) (w : World) (h1 : 1 ≤ s.wide) (h2 : s.wide ≤ 8) (h3 : 1 ≤ s.high) (h4 : s.high ≤ 8) : Calls Tryd.prog 81 #[.agg s.row] w fun e w' => e = .returned (.bool (okI s)) ∧ Below w.heap.size w w' := by
  have HS := Go.Lib.hid (fun w => isSize_any s.wide s.high w)
  rw [sizeB_yes h1 h2 h3 h4] at HS
  have hB : Hid (Below w.heap.size w ((w.alloc (.cells (vrow 266 s.at) 39)).alloc (.cells #[.bool false] 4))) := (((Below.refl w.heap.size w).alloc (by simp <;> omega) _).alloc (by simp <;> omega) _)
  have P : Hid (((w.alloc (.cells (vrow 266 s.at) 39)).alloc (.cells #[.bool false] 4)).heap[(w.heap.size)]? = some (.cells (vrow 266 s.at) 39)) := heap_past _ _ _ _ (by first | omega | (simp <;> omega)) (heap_at _ _ _ (by simp))
  have V : Hid (((w.alloc (.cells (vrow 266 s.at) 39)).alloc (.cells #[.bool false] 4)).heap[(w.heap.size + 1)]? = some (.cells (vrow 1 (fun _ => .bool false)) 4)) := heap_at _ _ _ (by simp)
  refine (callsIn_wide (n := 9)).1 ?_
  refine callsIn_of_wp_marks Tryd.func81 rfl trivial ?_ rfl
  simp only [Tryd.ntmps81, List.size_toArray, List.length_cons, List.length_nil, Nat.reduceAdd, Nat.reduceSub, Array.replicate_succ, Array.replicate_zero, List.push_toArray, List.append_toArray, List.nil_append, List.cons_append]
  refine wpIn_wide.2 ?_
  go_wp2_with (first
    | (go_at_call 95; refine (cells_any _ _ _).mono ?_; rintro e w1 ⟨rfl, rfl⟩)
    | (refine wpList_ld1 23 _ rfl (by first | exact want_n rfl | exact want_g _ _ _ rfl rfl rfl) (w.heap.size) _ rfl 266 s.at _ rw_i8 P.out (by omega) ?_; (first | rw [Sh.at_0] | rw [Sh.at_1]))
    | (go_at_call 103; (refine (HS.out _).mono ?_; rintro e Wn ⟨rfl, hW⟩; rw [hW] at hB P V; clear hW)))
  clear HS
  have hn := row_lt V.out
  have c1 := heap_at (Wn.alloc (.cells #[.int .i8 8] 23)) (.cells #[.int .i8 8] 23) (Wn.heap.size + 1) (by simp)
  have c2 := heap_past (Wn.alloc (.cells #[.int .i8 8] 23)) (.cells #[.int .i8 8] 23) _ Wn.heap.size (by simp) (heap_at Wn (.cells #[.int .i8 8] 23) _ rfl)
  have hB1 : Below Wn.heap.size Wn ((Wn.alloc (.cells #[.int .i8 8] 23)).alloc (.cells #[.int .i8 8] 23)) := ((Below.refl _ _).alloc (Nat.le_refl _) _).alloc (by simp) _
  obtain ⟨W0, hW0⟩ : ∃ W0, (Wn.alloc (.cells #[.int .i8 8] 23)).alloc (.cells #[.int .i8 8] 23) = W0 := ⟨_, rfl⟩
  rw [hW0] at c1 c2 hB1 ⊢
  clear hW0
  replace P := row_next hB1 P.out; replace V := row_next hB1 V.out; replace hB := below_next hB.out hB1
  have hs0 := row_lt c1
  refine wp_cells (d := 3) (Wn.heap.size + 1) Wn.heap.size 8 8 (by omega) (by omega) rfl c1 c2
    (fun pre W => (∀ p ∈ pre, validB s p.1.1 p.1.2 = true) ∧ W.heap[w.heap.size]? = some (.cells (vrow 266 s.at) 39) ∧ W.heap[w.heap.size + 1]? = some (.cells (vrow 1 fun _ => .bool false) 4) ∧ Below w.heap.size w W)
    (fun c _ W => c = .ret ∧ okI s = false ∧ W.heap[w.heap.size + 1]? = some (.cells (vrow 1 fun _ => .bool false) 4) ∧ Below w.heap.size w W)
    (OwnFrom.and (own_pure _) (OwnFrom.and (own_row (by omega)) (OwnFrom.and (own_row (by omega)) (ownFrom_below (Nat.le_refl _) (by omega)))))
    (fun c => OwnFrom.and (own_pure _) (OwnFrom.and (own_pure _) (OwnFrom.and (own_row (by omega)) (ownFrom_below (Nat.le_refl _) (by omega)))))
    ⟨(fun _ h => by cases h), P, V, hB⟩ ?assign ?body ?done ?stop
  case assign =>
    intro l x W K hK
    simp only [List.setIfInBounds_toArray, List.set_cons_succ, List.set_cons_zero] at hK ⊢
    have zz := zero_spot
    gi_wp2_with (refine wpListIn_storeall rfl 105 (.tmp 3) (.tmp 13) rfl _ rfl 2 (spAt 0 0) (spAt x.1.1 x.1.2) rfl 105 size_spot (heap_at _ _ _ rfl) (fun i _ => spAt_one _ _ i) ?_; rw [setRow_at _ _ _ _ _ rfl])
    exact hK
  case body =>
    rintro l pre ⟨⟨x, y⟩, hx, hy⟩ Wb W Bx hK hBx R hsz ⟨hv, P, V, hB⟩ hlen
    simp only [List.setIfInBounds_toArray, List.set_cons_succ, List.set_cons_zero] at R ⊢
    replace R := Go.Lib.hid R; replace P := Go.Lib.hid P; replace V := Go.Lib.hid V; replace hB := Go.Lib.hid hB; replace hK := Go.Lib.hid hK; replace hv := Go.Lib.hid hv
    have HV0 := fun w => validAt_any s x y w hx hy
    by_cases hok : validB s x y = true
    · rw [hok] at HV0
      have HG := Go.Lib.hid (show ∀ p ∈ pre ++ [(⟨(x, y), hx, hy⟩ : Sp8)], validB s p.1.1 p.1.2 = true from fun p hp => by
        rcases List.mem_append.1 hp with h | h
        · exact hv.out p h
        · rw [List.mem_singleton.1 h]; exact hok)
      have HV := Go.Lib.hid HV0
      clear HV0 hok hv
      gi_wp2_with (first
        | (gi_at_call 104; (refine (callsFW (ro := some _) (HV.out _)).mono ?_; rintro e w1 ⟨rfl, hb⟩; replace P := Go.Lib.hid (row_next hb P.out); replace R := Go.Lib.hid (row_next hb R.out); replace V := Go.Lib.hid (row_next hb V.out); replace hB := Go.Lib.hid (below_next hB.out hb); replace hK := Go.Lib.hid (below_next hK.out hb); clear hb ))
        | (refine list_atI 5 rfl ?_; intro W hW; rw [hW] at hB hK P R V; clear hW; have P' := Go.Lib.hid (cls_row' P.out); have R' := Go.Lib.hid (cls_row' R.out); have V' := Go.Lib.hid (cls_row' V.out); (repeat (first | go_big_quiet_skip | (refine wpQuiet_loadmid 39 _ rfl (by first | exact want_n rfl | exact want_g _ _ _ rfl rfl rfl) (w.heap.size) _ rfl 266 266 s.at _ rw_sheet size_sheet P'.out (by omega) ?_; rw [sh_row]; simp only [Act.put, List.setIfInBounds_toArray, List.set_cons_succ, List.set_cons_zero]) | (refine wpQuiet_loadmid 105 _ rfl (by first | exact want_n rfl | exact want_g _ _ _ rfl rfl rfl) Bx _ rfl 2 2 (spAt x y) _ rw_spot size_spot R'.out (by omega) ?_; rw [sp_row]; simp only [Act.put, List.setIfInBounds_toArray, List.set_cons_succ, List.set_cons_zero]) | go_big_quiet_step ((go_at_call 104; exact cls_call _ (fun w hw => HV.out w))))); refine wpQuiet_nil ?_; intro Wn hb; replace P := Go.Lib.hid (row_next hb P.out); replace R := Go.Lib.hid (row_next hb R.out); replace V := Go.Lib.hid (row_next hb V.out); replace hB := Go.Lib.hid (below_next hB.out hb); replace hK := Go.Lib.hid (below_next hK.out hb); clear hb P' R' V')
        | (refine list_atI 14 rfl ?_; intro W hW; rw [hW] at hB hK P R V; clear hW; have P' := Go.Lib.hid (cls_row' P.out); have R' := Go.Lib.hid (cls_row' R.out); have V' := Go.Lib.hid (cls_row' V.out); (repeat (first | go_big_quiet_skip | (refine wpQuiet_loadmid 39 _ rfl (by first | exact want_n rfl | exact want_g _ _ _ rfl rfl rfl) (w.heap.size) _ rfl 266 266 s.at _ rw_sheet size_sheet P'.out (by omega) ?_; rw [sh_row]; simp only [Act.put, List.setIfInBounds_toArray, List.set_cons_succ, List.set_cons_zero]) | (refine wpQuiet_loadmid 105 _ rfl (by first | exact want_n rfl | exact want_g _ _ _ rfl rfl rfl) Bx _ rfl 2 2 (spAt x y) _ rw_spot size_spot R'.out (by omega) ?_; rw [sp_row]; simp only [Act.put, List.setIfInBounds_toArray, List.set_cons_succ, List.set_cons_zero]) | go_big_quiet_step ((go_at_call 104; exact cls_call _ (fun w hw => HV.out w))))); refine wpQuiet_nil ?_; intro Wn hb; replace P := Go.Lib.hid (row_next hb P.out); replace R := Go.Lib.hid (row_next hb R.out); replace V := Go.Lib.hid (row_next hb V.out); replace hB := Go.Lib.hid (below_next hB.out hb); replace hK := Go.Lib.hid (below_next hK.out hb); clear hb P' R' V'))
      exact ⟨keeps_below hK.out, Kp2.of_lt hK.out (by omega) (by omega), HG.out, P.out, V.out, hB.out⟩
    · have hok' : validB s x y = false := by simpa using hok
      have HR := Go.Lib.hid (okI_no s ⟨(x, y), hx, hy⟩ hok')
      rw [hok'] at HV0
      have HV := Go.Lib.hid HV0
      clear HV0 hok hok' hv
      gi_wp2_with (first
        | (refine wpListIn_store1 rfl 4 (.tmp 2) _ rfl (w.heap.size + 1) 0 rfl 1 (fun _ => .bool false) (.bool false) rfl 4 size_bool V.out (by omega) rfl ?_; rw [ff_row])
        | (gi_at_call 104; (refine (callsFW (ro := some _) (HV.out _)).mono ?_; rintro e w1 ⟨rfl, hb⟩; replace P := Go.Lib.hid (row_next hb P.out); replace R := Go.Lib.hid (row_next hb R.out); replace V := Go.Lib.hid (row_next hb V.out); replace hB := Go.Lib.hid (below_next hB.out hb); replace hK := Go.Lib.hid (below_next hK.out hb); clear hb ))
        | (refine list_atI 5 rfl ?_; intro W hW; rw [hW] at hB hK P R V; clear hW; have P' := Go.Lib.hid (cls_row' P.out); have R' := Go.Lib.hid (cls_row' R.out); have V' := Go.Lib.hid (cls_row' V.out); (repeat (first | go_big_quiet_skip | (refine wpQuiet_loadmid 39 _ rfl (by first | exact want_n rfl | exact want_g _ _ _ rfl rfl rfl) (w.heap.size) _ rfl 266 266 s.at _ rw_sheet size_sheet P'.out (by omega) ?_; rw [sh_row]; simp only [Act.put, List.setIfInBounds_toArray, List.set_cons_succ, List.set_cons_zero]) | (refine wpQuiet_loadmid 105 _ rfl (by first | exact want_n rfl | exact want_g _ _ _ rfl rfl rfl) Bx _ rfl 2 2 (spAt x y) _ rw_spot size_spot R'.out (by omega) ?_; rw [sp_row]; simp only [Act.put, List.setIfInBounds_toArray, List.set_cons_succ, List.set_cons_zero]) | go_big_quiet_step ((go_at_call 104; exact cls_call _ (fun w hw => HV.out w))))); refine wpQuiet_nil ?_; intro Wn hb; replace P := Go.Lib.hid (row_next hb P.out); replace R := Go.Lib.hid (row_next hb R.out); replace V := Go.Lib.hid (row_next hb V.out); replace hB := Go.Lib.hid (below_next hB.out hb); replace hK := Go.Lib.hid (below_next hK.out hb); clear hb P' R' V')
        | (refine list_atI 14 rfl ?_; intro W hW; rw [hW] at hB hK P R V; clear hW; have P' := Go.Lib.hid (cls_row' P.out); have R' := Go.Lib.hid (cls_row' R.out); have V' := Go.Lib.hid (cls_row' V.out); (repeat (first | go_big_quiet_skip | (refine wpQuiet_loadmid 39 _ rfl (by first | exact want_n rfl | exact want_g _ _ _ rfl rfl rfl) (w.heap.size) _ rfl 266 266 s.at _ rw_sheet size_sheet P'.out (by omega) ?_; rw [sh_row]; simp only [Act.put, List.setIfInBounds_toArray, List.set_cons_succ, List.set_cons_zero]) | (refine wpQuiet_loadmid 105 _ rfl (by first | exact want_n rfl | exact want_g _ _ _ rfl rfl rfl) Bx _ rfl 2 2 (spAt x y) _ rw_spot size_spot R'.out (by omega) ?_; rw [sp_row]; simp only [Act.put, List.setIfInBounds_toArray, List.set_cons_succ, List.set_cons_zero]) | go_big_quiet_step ((go_at_call 104; exact cls_call _ (fun w hw => HV.out w))))); refine wpQuiet_nil ?_; intro Wn hb; replace P := Go.Lib.hid (row_next hb P.out); replace R := Go.Lib.hid (row_next hb R.out); replace V := Go.Lib.hid (row_next hb V.out); replace hB := Go.Lib.hid (below_next hB.out hb); replace hK := Go.Lib.hid (below_next hK.out hb); clear hb P' R' V'))
      have V' := row_set V.out (vrow 1 fun _ => .bool false)
      exact ⟨(keeps_below hK.out).trans (keeps_setRow V.out _), rfl, HR.out, V', Below_setRow hB.out (by omega) _⟩
  case done =>
    rintro D W hD ⟨hv, P, V, hB⟩ hd
    have HR := Go.Lib.hid (okI_yes s h1 h2 h3 h4 hv)
    clear hv
    replace V := Go.Lib.hid V; replace hd := Go.Lib.hid hd; replace hB := Go.Lib.hid hB; replace P := Go.Lib.hid P
    go_wp2_with (refine wpList_store1 rfl 4 (.tmp 2) _ rfl (w.heap.size + 1) 0 rfl 1 (fun _ => .bool false) (.bool true) rfl 4 size_bool V.out (by omega) rfl ?_; rw [ft_row])
    have hlt := row_lt hd.out
    have V' := row_set V.out (vrow 1 fun _ => .bool true)
    refine leaveM rfl ((setRow_other _ _ D _ (by omega)).trans hd.out) (res_cell1 Tryd.results81 _ _ (w.heap.size + 1) 1 (fun _ => .bool true) _ rw_bool rfl (row_put V' (by omega)) (by omega)) ?_
    exact ⟨by rw [HR.out], below_put _ (Below_setRow hB.out (by omega) _) (by omega) (by simp; omega)⟩
  case stop =>
    rintro D c pre W hD ⟨rfl, hno, V, hB⟩ hd
    replace V := Go.Lib.hid V; replace hd := Go.Lib.hid hd; replace hB := Go.Lib.hid hB; have HR := Go.Lib.hid hno; clear hno
    go_wp2
    have hlt := row_lt hd.out
    refine leaveM rfl hd.out (res_cell1 Tryd.results81 _ _ (w.heap.size + 1) 1 (fun _ => .bool false) _ rw_bool rfl (row_put V.out (by omega)) (by omega)) ?_
    exact ⟨by rw [HR.out], below_put _ hB.out (by omega) hlt⟩
set_option maxHeartbeats 1000000 in
theorem implV_any (s : Sh) (w : World) (hf : okI s = true ∨ s.fit := by first | exact .inl (by assumption) | exact .inr (by assumption)) : Calls Tryd.prog 81 #[.agg s.row] w fun e w' => e = .returned (.bool (okI s)) ∧ Below w.heap.size w w' := by
  by_cases h : 1 ≤ s.wide ∧ s.wide ≤ 8 ∧ 1 ≤ s.high ∧ s.high ≤ 8
  · exact implV_loop s w h.1 h.2.1 h.2.2.1 h.2.2.2
  · have h' : s.wide < 1 ∨ 8 < s.wide ∨ s.high < 1 ∨ 8 < s.high := by omega
    have hr : okI s = false := by simp only [okI]; rcases h' with h | h | h | h <;> simp <;> omega
    have hf := hf.resolve_left (by rw [hr]; simp)
    have hf1 := hf.wide; have hf2 := hf.high
    have HR := Go.Lib.hid hr
    clear hr
    have HS := Go.Lib.hid (fun w => isSize_any s.wide s.high w)
    rw [sizeB_no h'] at HS
    clear h h'
    have hB : Hid (Below w.heap.size w ((w.alloc (.cells (vrow 266 s.at) 39)).alloc (.cells #[.bool false] 4))) := (((Below.refl w.heap.size w).alloc (by simp <;> omega) _).alloc (by simp <;> omega) _)
    have P : Hid (((w.alloc (.cells (vrow 266 s.at) 39)).alloc (.cells #[.bool false] 4)).heap[(w.heap.size)]? = some (.cells (vrow 266 s.at) 39)) := heap_past _ _ _ _ (by first | omega | (simp <;> omega)) (heap_at _ _ _ (by simp))
    have V : Hid (((w.alloc (.cells (vrow 266 s.at) 39)).alloc (.cells #[.bool false] 4)).heap[(w.heap.size + 1)]? = some (.cells (vrow 1 (fun _ => .bool false)) 4)) := heap_at _ _ _ (by simp)
    go_enter Tryd.func81, Tryd.ntmps81
    go_wp2_with (first
      | (refine wpList_store1 rfl 4 (.tmp 2) _ rfl (w.heap.size + 1) 0 rfl 1 (fun _ => .bool false) (.bool false) rfl 4 size_bool V.out (by omega) rfl ?_; rw [ff_row])
      | (refine wpList_ld1 23 _ rfl (by first | exact want_n rfl | exact want_g _ _ _ rfl rfl rfl) (w.heap.size) _ rfl 266 s.at _ rw_i8 P.out (by omega) ?_; (first | rw [Sh.at_0] | rw [Sh.at_1]))
      | (go_at_call 103; (refine (HS.out _).mono ?_; rintro e Wn ⟨rfl, hW⟩; rw [hW] at hB P V; clear hW)))
    have V' := row_set V.out (vrow 1 fun _ => .bool false)
    refine bodyPost_ret (res_cell1 Tryd.results81 _ _ (w.heap.size + 1) 1 (fun _ => .bool false) _ rw_bool rfl V' (by omega)) rfl ?_
    exact ⟨by rw [HR.out], Below_setRow hB.out (by omega) _⟩
end Go.Proofs.YtfhfiaphdgfmnaaDoor
