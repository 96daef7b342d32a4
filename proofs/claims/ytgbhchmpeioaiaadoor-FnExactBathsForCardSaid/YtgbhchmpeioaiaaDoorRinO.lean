import Derived.Deep.RegionHeld3
import Derived.Test.YtgbhchmpeioaiaaDoorRinI
import Derived.Test.YtgbhchmpeioaiaaDoorG1
import Derived.Test.YtgbhchmpeioaiaaDoorCodeOf
namespace Go.Proofs.YtgbhchmpeioaiaaDoor
open Go.RowKit
set_option maxRecDepth 100000
set_option linter.unusedVariables false
set_option linter.unusedSimpArgs false
theorem built_zsR : Tryd.prog.built 35 [] = some Sh.zero.row := by kernel_rfl
theorem ret_rowsO {P : Program} {fn : Func} {R : Ending → World → Prop} {a : Act} {w : World} {p u q : Tmp} {ty ty' : TypeId} (hr : fn.results = #[.cell p ty, .cell u ty', .tmp q]) (b : Nat) (n : Nat) (f : Nat → Value) (t : TypeId) (d : TypeDesc) (hu : P.underlying ty = some d) (hd : d.isRow = true) (hi : (P.info? ty).map (·.size) = some n) (b' : Nat) (n' : Nat) (f' : Nat → Value) (t' : TypeId) (d' : TypeDesc) (hu' : P.underlying ty' = some d') (hd' : d'.isRow = true) (hi' : (P.info? ty').map (·.size) = some n') (v : Value)
    (hp : a.tmps.getD p undef = .pointer (some ⟨b, 0, none⟩)) (hp' : a.tmps.getD u undef = .pointer (some ⟨b', 0, none⟩)) (hv : a.tmps.getD q undef = v) (hdf : a.defers = []) (hg : w.heap[b]? = some (.cells (vrow n f) t)) (hg' : w.heap[b']? = some (.cells (vrow n' f') t')) (h : R (.returned (.tuple #[.agg (vrow n f), .agg (vrow n' f'), v])) w) : bodyPost P fn R .ret a w := by
  refine bodyPost_ret ?_ hdf h
  have hl := run_loadVar_row (P := P) w b t ty (vrow n f) (0, 0) d hg hu (by cases d <;> first | rfl | exact hd) (by rw [vrow_size]; exact hi)
  have hl' := run_loadVar_row (P := P) w b' t' ty' (vrow n' f') (0, 0) d' hg' hu' (by cases d' <;> first | rfl | exact hd') (by rw [vrow_size]; exact hi')
  have hp1 : a.tmps[p]?.getD undef = .pointer (some ⟨b, 0, none⟩) := by simpa using hp
  have hp2 : a.tmps[u]?.getD undef = .pointer (some ⟨b', 0, none⟩) := by simpa using hp'
  have hv1 : a.tmps[q]?.getD undef = v := by simpa using hv
  simp [results, hr, hp1, hp2, hv1, asAddr, hl, hl', Result.andThen]
theorem lshare_any (n : Int) (w : World) : Calls Tryd.prog 100 #[.int .i64 n] w fun e w' => e = .returned (.bool (decide (1 ≤ n) && decide (n ≤ 15))) ∧ Below w.heap.size w w' := by
  by_cases h : 1 ≤ n ∧ n ≤ 15
  · rw [decide_eq_true h.1, decide_eq_true h.2]
    have HI := Go.Lib.hid fun w => in_yes n 1 15 h.1 h.2 w
    go_enter Tryd.func100, Tryd.ntmps100
    go_wp2_with (first
      | go_skip
      | (go_at_call 71; (refine (HI.out _).mono ?_); rintro o w1 ⟨rfl, hb⟩))
    go_ret
    exact ⟨rfl, hb⟩
  · rw [show (decide (1 ≤ n) && decide (n ≤ 15)) = false by simp; omega]
    have HI := Go.Lib.hid fun w => in_no n 1 15 (by omega) w
    go_enter Tryd.func100, Tryd.ntmps100
    go_wp2_with (first
      | go_skip
      | (go_at_call 71; (refine (HI.out _).mono ?_); rintro o w1 ⟨rfl, hb⟩))
    go_ret
    exact ⟨rfl, hb⟩
/-- the code of a sheet, a share, and whether numbers are as told -/
def bathC (o : Bool) (k : Int) (fi : Bool) : Int := if o then (if (decide (1 ≤ k) && decide (k ≤ 15)) && fi then 0 else 2) else 1
set_option maxHeartbeats 1000000 in
theorem lbath_any (s : Sh) (b : Nat) (k : Int) (fi : Bool) (w : World) (hs : w.heap[b]? = some (.cells (vrow 266 s.at) 35)) (hf : s.fit) :
    Calls Tryd.prog 60 #[.pointer (some ⟨b, 0, none⟩), .int .i64 k, .bool fi] w fun e w' => e = .returned (.int .i64 (bathC (okI s) k fi)) ∧ Below w.heap.size w w' := by
  have HO0 := fun w' hs => ok_any s b w' hs hf
  have HS0 := fun w => lshare_any k w
  rw [← ok_eq s hf] at HO0
  unfold bathC
  have hB : Hid (Below w.heap.size w w) := Below.refl _ _
  have P := Go.Lib.hid hs
  generalize okI s = o at *
  generalize (decide (1 ≤ k) && decide (k ≤ 15)) = sh at *
  have HO := Go.Lib.hid HO0; have HS := Go.Lib.hid HS0
  clear HO0 HS0 hs hf
  cases o <;> cases sh <;> cases fi
  all_goals
    go_enter Tryd.func60, Tryd.ntmps60
    go_wp2_with (first
      | go_skip
      | (go_at_call 47; (refine (HO.out _ P.out).mono ?_); rintro o w1 ⟨rfl, hb⟩; replace hB := Go.Lib.hid (below_next hB.out hb); clear hb)
      | (go_at_call 100; (refine (HS.out _).mono ?_); rintro o w1 ⟨rfl, hb⟩; replace hB := Go.Lib.hid (below_next hB.out hb); clear hb))
    go_ret
    exact ⟨rfl, hB.out⟩
set_option maxHeartbeats 2000000 in
theorem specRO_err (s : Sh) (k v : Int) (hv : v = 1 ∨ v = 2) (w : World) (hf : s.fit) (hc : bathC (okI s) k true = v) : Calls Tryd.prog 24 #[.agg s.row, .int .i64 k] w fun o w' => o = .returned (.tuple #[.agg Sh.zero.row, .agg (vrow 3 (fun _ => .int .i64 0)), .int .i64 v]) ∧ Below w.heap.size w w' := by
  have HB0 := fun w hs => lbath_any s w.heap.size k true w hs hf
  have HB := Go.Lib.hid fun v b hs => lbath_any s b k true v hs hf
  rw [hc] at HB
  have zz := zero_sheet
  have zy := zero_i3
  clear HB0 hf hc
  have P : Hid ((((w.alloc (.cells (vrow 266 s.at) 35)).alloc (.cells (vrow 266 Sh.zero.at) 35)).alloc (.cells (vrow 3 (fun _ => .int .i64 0)) 32)).heap[w.heap.size]? = some (.cells (vrow 266 s.at) 35)) := heap_past _ _ _ _ (by simp <;> omega) (heap_past _ _ _ _ (by simp <;> omega) (heap_at _ _ _ (by simp)))
  have Z : Hid ((((w.alloc (.cells (vrow 266 s.at) 35)).alloc (.cells (vrow 266 Sh.zero.at) 35)).alloc (.cells (vrow 3 (fun _ => .int .i64 0)) 32)).heap[w.heap.size + 1]? = some (.cells (vrow 266 Sh.zero.at) 35)) := heap_past _ _ _ _ (by simp <;> omega) (heap_at _ _ _ (by simp))
  have Y : Hid ((((w.alloc (.cells (vrow 266 s.at) 35)).alloc (.cells (vrow 266 Sh.zero.at) 35)).alloc (.cells (vrow 3 (fun _ => .int .i64 0)) 32)).heap[w.heap.size + 2]? = some (.cells (vrow 3 (fun _ => .int .i64 0)) 32)) := heap_at _ _ _ (by simp)
  have hB : Hid (Below w.heap.size w (((w.alloc (.cells (vrow 266 s.at) 35)).alloc (.cells (vrow 266 Sh.zero.at) 35)).alloc (.cells (vrow 3 (fun _ => .int .i64 0)) 32))) := ((((Below.refl w.heap.size w).alloc (by simp <;> omega) _).alloc (by simp <;> omega) _).alloc (by simp <;> omega) _)
  rcases hv with rfl | rfl
  all_goals
    go_enter Tryd.func24, Tryd.ntmps24
    go_wp2_with (first
      | go_skip
      | (go_at_call 60; (refine (HB.out _ _ P.out).mono ?_); rintro o w1 ⟨rfl, hb⟩; replace P := Go.Lib.hid (row_next hb P.out); replace Z := Go.Lib.hid (row_next hb Z.out); replace Y := Go.Lib.hid (row_next hb Y.out); replace hB := Go.Lib.hid (below_next hB.out hb); clear hb)
      | ((with_reducible refine wlAt 13 rfl ?_); refine wpList_built rfl 35 [] rfl [] (by rfl) _ built_zsR ?_)
      | ((with_reducible refine wlAt 14 rfl ?_); refine wpList_built rfl 32 [] rfl [] (by rfl) _ built_zi3 ?_)
      | ((with_reducible refine wlOp (.store 35 (.tmp 4) (.tmp 13)) rfl ?_); refine wpList_storeall rfl 35 (.tmp 4) (.tmp 13) rfl (w.heap.size + 1) rfl 266 Sh.zero.at Sh.zero.at rfl 35 size_sheet Z.out (fun i _ => Sh.one _ i) ?_; replace Y := Go.Lib.hid (row_set' (g := w.heap.size + 1) (show w.heap.size + 2 ≠ w.heap.size + 1 by omega) Y.out (vrow 266 Sh.zero.at)); replace Z := Go.Lib.hid (row_set Z.out (vrow 266 Sh.zero.at)); replace hB := Go.Lib.hid (Below_setRow hB.out (show w.heap.size ≤ w.heap.size + 1 by omega) (vrow 266 Sh.zero.at)))
      | ((with_reducible refine wlOp (.store 32 (.tmp 5) (.tmp 14)) rfl ?_); refine wpList_storeall rfl 32 (.tmp 5) (.tmp 14) rfl (w.heap.size + 2) rfl 3 (fun _ => .int .i64 0) (fun _ => .int .i64 0) rfl 32 size_i3 Y.out (fun _ _ => rfl) ?_; replace Z := Go.Lib.hid (row_set' (g := w.heap.size + 2) (show w.heap.size + 1 ≠ w.heap.size + 2 by omega) Z.out (vrow 3 (fun _ => .int .i64 0))); replace Y := Go.Lib.hid (row_set Y.out (vrow 3 (fun _ => .int .i64 0))); replace hB := Go.Lib.hid (Below_setRow hB.out (show w.heap.size ≤ w.heap.size + 2 by omega) (vrow 3 (fun _ => .int .i64 0)))))
    exact ret_rowsO Tryd.results24 (w.heap.size + 1) 266 Sh.zero.at 35 _ Tryd.underlying35 rfl size_sheet (w.heap.size + 2) 3 (fun _ => .int .i64 0) 32 _ Tryd.underlying32 rfl size_i3 (.int .i64 _) rfl rfl rfl rfl Z.out Y.out ⟨rfl, hB.out⟩
set_option maxHeartbeats 4000000 in
theorem specRO_ok (s : Sh) (k : Int) (a c : Nat) (w : World) (hf : s.fit) (hc0 : bathC (okI s) k true = 0) (ea : s.wide = a) (ec : s.high = c) (ha : 1 ≤ a ∧ a ≤ 8) (hc : 1 ≤ c ∧ c ≤ 8) (hgd : Gd s s) (h1 : 1 ≤ k) (h2 : k ≤ 15) :
    Calls Tryd.prog 24 #[.agg s.row, .int .i64 k] w fun o w' => o = .returned (.tuple #[.agg (rinS k (s, fun _ => 0) (cellsL a c)).1.row, .agg (vrow 3 (fun i => .int .i64 ((rinS k (s, fun _ => 0) (cellsL a c)).2 i))), .int .i64 0]) ∧ Below w.heap.size w w' := by
  have HB := Go.Lib.hid fun v b hs => lbath_any s b k true v hs hf
  rw [hc0] at HB
  have HR := Go.Lib.hid fun w b hs => lrinse_any s b a c k w hs ea ec ha hc hgd h1 h2
  have zz := zero_sheet
  have zy := zero_i3
  clear hf hc0 hgd
  have P : Hid ((((w.alloc (.cells (vrow 266 s.at) 35)).alloc (.cells (vrow 266 Sh.zero.at) 35)).alloc (.cells (vrow 3 (fun _ => .int .i64 0)) 32)).heap[w.heap.size]? = some (.cells (vrow 266 s.at) 35)) := heap_past _ _ _ _ (by simp <;> omega) (heap_past _ _ _ _ (by simp <;> omega) (heap_at _ _ _ (by simp)))
  have Z : Hid ((((w.alloc (.cells (vrow 266 s.at) 35)).alloc (.cells (vrow 266 Sh.zero.at) 35)).alloc (.cells (vrow 3 (fun _ => .int .i64 0)) 32)).heap[w.heap.size + 1]? = some (.cells (vrow 266 Sh.zero.at) 35)) := heap_past _ _ _ _ (by simp <;> omega) (heap_at _ _ _ (by simp))
  have Y : Hid ((((w.alloc (.cells (vrow 266 s.at) 35)).alloc (.cells (vrow 266 Sh.zero.at) 35)).alloc (.cells (vrow 3 (fun _ => .int .i64 0)) 32)).heap[w.heap.size + 2]? = some (.cells (vrow 3 (fun _ => .int .i64 0)) 32)) := heap_at _ _ _ (by simp)
  have hB : Hid (Below w.heap.size w (((w.alloc (.cells (vrow 266 s.at) 35)).alloc (.cells (vrow 266 Sh.zero.at) 35)).alloc (.cells (vrow 3 (fun _ => .int .i64 0)) 32))) := ((((Below.refl w.heap.size w).alloc (by simp <;> omega) _).alloc (by simp <;> omega) _).alloc (by simp <;> omega) _)
  generalize (rinS k (s, fun _ => 0) (cellsL a c)) = T at *
  obtain ⟨T, oo⟩ := T
  dsimp only at HR ⊢
  go_enter Tryd.func24, Tryd.ntmps24
  go_wp2_with (first
    | go_skip
    | (go_at_call 60; (refine (HB.out _ _ P.out).mono ?_); rintro o w1 ⟨rfl, hb⟩; replace P := Go.Lib.hid (row_next hb P.out); replace Z := Go.Lib.hid (row_next hb Z.out); replace Y := Go.Lib.hid (row_next hb Y.out); replace hB := Go.Lib.hid (below_next hB.out hb); clear hb)
    | (go_at_call 61; (refine (HR.out _ _ P.out).mono ?_); rintro o w2 ⟨rfl, hg, hp⟩; replace Z := Go.Lib.hid ((hg.block _ (row_lt Z.out) (by simp <;> omega)).trans Z.out); replace Y := Go.Lib.hid ((hg.block _ (row_lt Y.out) (by simp <;> omega)).trans Y.out); replace hB := Go.Lib.hid (hB.out.grown hg hB.out.size (fun q hq => by cases hq; omega)); replace P := Go.Lib.hid hp; clear hg hp)
    | ((with_reducible refine wlOp (.store 32 (.tmp 8) (.tmp 17)) rfl ?_); refine wpList_storeall rfl 32 (.tmp 8) (.tmp 17) rfl _ rfl 3 (fun _ => .int .i64 0) (a3f oo) rfl 32 size_i3 (heap_at _ _ _ rfl) (fun i _ => rfl) ?_; rw [setRow_at _ _ _ _ _ rfl]; have V := Go.Lib.hid (heap_at w2 (.cells (vrow 3 (a3f oo)) 32) _ rfl); have nP := row_lt P.out; have nZ := row_lt Z.out; have nY := row_lt Y.out; have hbs := hB.out.size; replace P := Go.Lib.hid (heap_past _ (.cells (vrow 3 (a3f oo)) 32) _ _ nP P.out); replace Z := Go.Lib.hid (heap_past _ (.cells (vrow 3 (a3f oo)) 32) _ _ nZ Z.out); replace Y := Go.Lib.hid (heap_past _ (.cells (vrow 3 (a3f oo)) 32) _ _ nY Y.out); replace hB := Go.Lib.hid (hB.out.alloc hbs (.cells (vrow 3 (a3f oo)) 32)); generalize w2.heap.size = nb at V nP nZ nY hbs ⊢; generalize w2.alloc _ = w3 at P Z Y V hB ⊢))
  refine Code.wp_mono (Q := fun e a' W' => e = .normal ∧ a'.tmps.getD 4 undef = .pointer (some ⟨w.heap.size + 1, 0, none⟩) ∧ a'.tmps.getD 5 undef = .pointer (some ⟨w.heap.size + 2, 0, none⟩) ∧ a'.tmps.getD 6 undef = .int .i64 0 ∧ a'.defers = [] ∧ Below w.heap.size w W' ∧ W'.heap[w.heap.size + 1]? = some (.cells (vrow 266 T.at) 35) ∧ W'.heap[w.heap.size + 2]? = some (.cells (vrow 3 (a3f oo)) 32)) ?_ ?_
  rotate_left
  · refine wp_region_held_drew (S := fun W' => Below w.heap.size w W' ∧ W'.heap[w.heap.size]? = some (.cells (vrow 266 T.at) 35) ∧ W'.heap[nb]? = some (.cells (vrow 3 (a3f oo)) 32)) (by kernel_rfl) ⟨hB.out.drew, P.out, V.out⟩ (fun hH => ?_)
    have V4 := drwS Z.out
    have V5 := drwS Y.out
    generalize World.drew _ = W at hH V4 V5 ⊢
    refine wpAnyH_take (i := 0) (v := (.agg (vrow 266 T.at))) rfl (by kernel_rfl) (by kernel_rfl) (by kernel_rfl) (fun _ _ _ h => by cases h.1) (yields_row (by rfl) 35 _ rfl (w.heap.size) rfl 266 T.at 35 _ Tryd.underlying35 rfl size_sheet (fun _ h => h.2.1)) hH ?_
    (try simp only [Act.put, List.setIfInBounds_toArray, List.set_cons_succ, List.set_cons_zero])
    refine wpAnyH_take (i := 1) (v := (.agg (vrow 3 (a3f oo)))) rfl (by kernel_rfl) (by kernel_rfl) (by kernel_rfl) (fun _ _ _ h => by cases h.1) (yields_row (by rfl) 32 _ rfl (nb) rfl 3 (a3f oo) 32 _ Tryd.underlying32 rfl size_i3 (fun _ h => h.2.2)) hH ?_
    (try simp only [Act.put, List.setIfInBounds_toArray, List.set_cons_succ, List.set_cons_zero])
    refine wpAnyH_ready (rs := [2]) (by kernel_rfl) (by simp) (AllReadyH.cons rfl (fun K hK => ?_) AllReadyH.nil)
    rw [if_pos (by rfl)]
    unfold Oper.wp
    rw [run_storemid 35 (.tmp 4) (.tmp 18) rfl (w.heap.size + 1) 0 rfl 266 266 Sh.zero.at T.at rfl 35 size_sheet V4 (by omega) (fun i _ => Sh.one _ i), vrow_over_all, Oper.upon_skip]
    replace V4 := row_set V4 (vrow 266 T.at)
    replace V5 := row_set' (show w.heap.size + 2 ≠ w.heap.size + 1 by omega) V5 (vrow 266 T.at)
    have hH2 : Below w.heap.size w (W.setRow (w.heap.size + 1) (vrow 266 T.at)) ∧ (W.setRow (w.heap.size + 1) (vrow 266 T.at)).heap[w.heap.size]? = some (.cells (vrow 266 T.at) 35) ∧ (W.setRow (w.heap.size + 1) (vrow 266 T.at)).heap[nb]? = some (.cells (vrow 3 (a3f oo)) 32) := ⟨Below_setRow hH.1 (by omega) _, row_set' (by omega) hH.2.1 _, row_set' (by omega) hH.2.2 _⟩
    refine hK.out _ _ hH2 (fun hH => ?_)
    clear hK K hH2
    (try simp only [Act.put, List.setIfInBounds_toArray, List.set_cons_succ, List.set_cons_zero])
    generalize (W.setRow (w.heap.size + 1) (vrow 266 T.at)) = Y0 at hH V4 V5 ⊢
    refine wpAnyH_ready (rs := [3]) (by kernel_rfl) (by simp) (AllReadyH.cons rfl (fun K hK => ?_) AllReadyH.nil)
    rw [if_pos (by rfl)]
    unfold Oper.wp
    rw [run_storemid 32 (.tmp 5) (.tmp 19) rfl (w.heap.size + 2) 0 rfl 3 3 (fun _ => .int .i64 0) (a3f oo) rfl 32 size_i3 V5 (by omega) (fun i _ => rfl), vrow_over_all, Oper.upon_skip]
    replace V4 := row_set' (show w.heap.size + 1 ≠ w.heap.size + 2 by omega) V4 (vrow 3 (a3f oo))
    replace V5 := row_set V5 (vrow 3 (a3f oo))
    have hH2 : Below w.heap.size w (Y0.setRow (w.heap.size + 2) (vrow 3 (a3f oo))) ∧ (Y0.setRow (w.heap.size + 2) (vrow 3 (a3f oo))).heap[w.heap.size]? = some (.cells (vrow 266 T.at) 35) ∧ (Y0.setRow (w.heap.size + 2) (vrow 3 (a3f oo))).heap[nb]? = some (.cells (vrow 3 (a3f oo)) 32) := ⟨Below_setRow hH.1 (by omega) _, row_set' (by omega) hH.2.1 _, row_set' (by omega) hH.2.2 _⟩
    refine hK.out _ _ hH2 (fun hH => ?_)
    clear hK K hH2
    (try simp only [Act.put, List.setIfInBounds_toArray, List.set_cons_succ, List.set_cons_zero])
    generalize (Y0.setRow (w.heap.size + 2) (vrow 3 (a3f oo))) = Y1 at hH V4 V5 ⊢
    refine wpAnyH_take (i := 4) (v := (.int .i64 0)) rfl (by kernel_rfl) (by kernel_rfl) (by kernel_rfl) (fun _ _ _ h => by cases h.1) (.inl ⟨by rfl, fun w _ => by go_simp⟩) hH ?_
    (try simp only [Act.put, List.setIfInBounds_toArray, List.set_cons_succ, List.set_cons_zero])
    refine wpAnyH_done (by kernel_rfl) ?_ _
    exact ⟨rfl, rfl, rfl, rfl, rfl, hH.1, V4, V5⟩
  rintro e1 a1 W1 ⟨rfl, h_4, h_5, h_6, hdf, hB1, V4, V5⟩
  go_wp2
  exact ret_rowsO Tryd.results24 (w.heap.size + 1) 266 T.at 35 _ Tryd.underlying35 rfl size_sheet (w.heap.size + 2) 3 (a3f oo) 32 _ Tryd.underlying32 rfl size_i3 (.int .i64 0) h_4 h_5 h_6 hdf V4 V5 ⟨rfl, hB1⟩
set_option maxHeartbeats 2000000 in
theorem ckRi_bad (s : Sh) (k r : Int) (e : ErrE) (w : World) (hE : Errs e w) (ho : okI s = false) (hf : s.fit := by assumption) : Calls Tryd.prog 62 #[.agg s.row, .int .i64 k, .int .i64 r] w fun o w' => o = .returned (errP e 1) ∧ Below w.heap.size w w' := by
  have HC := Go.Lib.hid fun w hE => checkSheet_bad s ho e w hE
  have hB : Hid (Below w.heap.size w (w.alloc (.cells (vrow 266 s.at) 35))) := ((Below.refl w.heap.size w).alloc (by simp <;> omega) _)
  have P : Hid ((w.alloc (.cells (vrow 266 s.at) 35)).heap[(w.heap.size)]? = some (.cells (vrow 266 s.at) 35)) := heap_at _ _ _ (by simp)
  have E : Hid (Errs e (w.alloc (.cells (vrow 266 s.at) 35))) := hE.alloc _
  clear hE
  go_enter Tryd.func62, Tryd.ntmps62
  go_wp2_with (first | go_skip | (with_reducible refine wlAt 8 rfl ?_; refine wpList_loadall rfl 35 (.tmp 3) rfl _ rfl 266 s.at 35 _ Tryd.underlying35 rfl size_sheet P.out ?_) | (go_at_call 52; (refine (HC.out _ E.out).mono ?_; rintro o w1 ⟨rfl, hb⟩; replace P := Go.Lib.hid (row_next hb P.out); replace hB := Go.Lib.hid (below_next hB.out hb); replace E := Go.Lib.hid (E.out.next hb); clear hb)) | (with_reducible refine wlAt 27 rfl ?_; refine wpList_ld1 76 _ rfl (by first | exact want_n rfl | exact want_g _ _ _ rfl rfl rfl) 1 0 rfl 1 (fun _ => errP e 2) _ rw_err E.out.v2 (by omega) ?_))
  go_ret
  exact ⟨rfl, hB.out⟩
set_option maxHeartbeats 2000000 in
theorem ckRi_ok (s : Sh) (k r : Int) (e : ErrE) (w : World) (hE : Errs e w) (ho : okI s = true) (hk : 1 ≤ k ∧ k ≤ 15) (hr : 0 ≤ r ∧ r ≤ 100) : Calls Tryd.prog 62 #[.agg s.row, .int .i64 k, .int .i64 r] w fun o w' => o = .returned .nilIface ∧ Below w.heap.size w w' := by
  have HC := Go.Lib.hid fun w hE => checkSheet_ok s ho e w hE
  have q1 : decide (k < 1) = false := by simp; omega
  have q2 : decide (15 < k) = false := by simp; omega
  have q3 : decide (r < 0) = false := by simp; omega
  have q4 : decide (100 < r) = false := by simp; omega
  have hB : Hid (Below w.heap.size w (w.alloc (.cells (vrow 266 s.at) 35))) := ((Below.refl w.heap.size w).alloc (by simp <;> omega) _)
  have P : Hid ((w.alloc (.cells (vrow 266 s.at) 35)).heap[(w.heap.size)]? = some (.cells (vrow 266 s.at) 35)) := heap_at _ _ _ (by simp)
  have E : Hid (Errs e (w.alloc (.cells (vrow 266 s.at) 35))) := hE.alloc _
  clear hE
  go_enter Tryd.func62, Tryd.ntmps62
  go_wp2_with (first | go_skip | (with_reducible refine wlAt 8 rfl ?_; refine wpList_loadall rfl 35 (.tmp 3) rfl _ rfl 266 s.at 35 _ Tryd.underlying35 rfl size_sheet P.out ?_) | (go_at_call 52; (refine (HC.out _ E.out).mono ?_; rintro o w1 ⟨rfl, hb⟩; replace P := Go.Lib.hid (row_next hb P.out); replace hB := Go.Lib.hid (below_next hB.out hb); replace E := Go.Lib.hid (E.out.next hb); clear hb)) | (with_reducible refine wlAt 27 rfl ?_; refine wpList_ld1 76 _ rfl (by first | exact want_n rfl | exact want_g _ _ _ rfl rfl rfl) 1 0 rfl 1 (fun _ => errP e 2) _ rw_err E.out.v2 (by omega) ?_))
  go_ret
  exact ⟨rfl, hB.out⟩
set_option maxHeartbeats 8000000 in
theorem ckRi_rng (s : Sh) (k r : Int) (e : ErrE) (w : World) (hE : Errs e w) (ho : okI s = true) (hk : k < 1 ∨ 15 < k ∨ r < 0 ∨ 100 < r) : Calls Tryd.prog 62 #[.agg s.row, .int .i64 k, .int .i64 r] w fun o w' => o = .returned (errP e 2) ∧ Below w.heap.size w w' := by
  have HC := Go.Lib.hid fun w hE => checkSheet_ok s ho e w hE
  have hcs : (decide (k < 1) = true) ∨ (decide (k < 1) = false ∧ decide (15 < k) = true) ∨ (decide (k < 1) = false ∧ decide (15 < k) = false ∧ decide (r < 0) = true) ∨ (decide (k < 1) = false ∧ decide (15 < k) = false ∧ decide (r < 0) = false ∧ decide (100 < r) = true) := by
    simp only [decide_eq_true_eq, decide_eq_false_iff_not]; omega
  have hB : Hid (Below w.heap.size w (w.alloc (.cells (vrow 266 s.at) 35))) := ((Below.refl w.heap.size w).alloc (by simp <;> omega) _)
  have P : Hid ((w.alloc (.cells (vrow 266 s.at) 35)).heap[(w.heap.size)]? = some (.cells (vrow 266 s.at) 35)) := heap_at _ _ _ (by simp)
  have E : Hid (Errs e (w.alloc (.cells (vrow 266 s.at) 35))) := hE.alloc _
  clear hE hk
  rcases hcs with q1 | ⟨q1, q2⟩ | ⟨q1, q2, q3⟩ | ⟨q1, q2, q3, q4⟩
  all_goals
    go_enter Tryd.func62, Tryd.ntmps62
    go_wp2_with (first | go_skip | (with_reducible refine wlAt 8 rfl ?_; refine wpList_loadall rfl 35 (.tmp 3) rfl _ rfl 266 s.at 35 _ Tryd.underlying35 rfl size_sheet P.out ?_) | (go_at_call 52; (refine (HC.out _ E.out).mono ?_; rintro o w1 ⟨rfl, hb⟩; replace P := Go.Lib.hid (row_next hb P.out); replace hB := Go.Lib.hid (below_next hB.out hb); replace E := Go.Lib.hid (E.out.next hb); clear hb)) | (with_reducible refine wlAt 27 rfl ?_; refine wpList_ld1 76 _ rfl (by first | exact want_n rfl | exact want_g _ _ _ rfl rfl rfl) 1 0 rfl 1 (fun _ => errP e 2) _ rw_err E.out.v2 (by omega) ?_))
    go_ret
    exact ⟨rfl, hB.out⟩
set_option maxHeartbeats 2000000 in
theorem implRO_err (s : Sh) (k v : Int) (n : Nat) (hv : v = n) (e : ErrE) (w : World) (hE : Errs e w) (HC0 : ∀ w, Errs e w → Calls Tryd.prog 62 #[.agg s.row, .int .i64 k, .int .i64 1] w fun o w' => o = .returned (errP e n) ∧ Below w.heap.size w w')
    (HD0 : ∀ w, Errs e w → Calls Tryd.prog 53 #[errP e n] w fun o w' => o = .returned (.int .i64 v) ∧ Below w.heap.size w w') :
    Calls Tryd.prog 25 #[.agg s.row, .int .i64 k] w fun o w' => o = .returned (.tuple #[.agg Sh.zero.row, .agg (vrow 3 (fun _ => .int .i64 0)), .int .i64 v]) ∧ Below w.heap.size w w' := by
  have HC := Go.Lib.hid HC0
  have HD := Go.Lib.hid HD0
  have zz := zero_sheet
  have zy := zero_i3
  clear HC0 HD0 hv
  have P : Hid ((((w.alloc (.cells (vrow 266 s.at) 35)).alloc (.cells (vrow 266 Sh.zero.at) 35)).alloc (.cells (vrow 3 (fun _ => .int .i64 0)) 32)).heap[w.heap.size]? = some (.cells (vrow 266 s.at) 35)) := heap_past _ _ _ _ (by simp <;> omega) (heap_past _ _ _ _ (by simp <;> omega) (heap_at _ _ _ (by simp)))
  have Z : Hid ((((w.alloc (.cells (vrow 266 s.at) 35)).alloc (.cells (vrow 266 Sh.zero.at) 35)).alloc (.cells (vrow 3 (fun _ => .int .i64 0)) 32)).heap[w.heap.size + 1]? = some (.cells (vrow 266 Sh.zero.at) 35)) := heap_past _ _ _ _ (by simp <;> omega) (heap_at _ _ _ (by simp))
  have Y : Hid ((((w.alloc (.cells (vrow 266 s.at) 35)).alloc (.cells (vrow 266 Sh.zero.at) 35)).alloc (.cells (vrow 3 (fun _ => .int .i64 0)) 32)).heap[w.heap.size + 2]? = some (.cells (vrow 3 (fun _ => .int .i64 0)) 32)) := heap_at _ _ _ (by simp)
  have hB : Hid (Below w.heap.size w (((w.alloc (.cells (vrow 266 s.at) 35)).alloc (.cells (vrow 266 Sh.zero.at) 35)).alloc (.cells (vrow 3 (fun _ => .int .i64 0)) 32))) := ((((Below.refl w.heap.size w).alloc (by simp <;> omega) _).alloc (by simp <;> omega) _).alloc (by simp <;> omega) _)
  have E : Hid (Errs e (((w.alloc (.cells (vrow 266 s.at) 35)).alloc (.cells (vrow 266 Sh.zero.at) 35)).alloc (.cells (vrow 3 (fun _ => .int .i64 0)) 32))) := ((hE.alloc _).alloc _).alloc _
  clear hE
  go_enter Tryd.func25, Tryd.ntmps25
  go_wp2_with (first
    | go_skip
    | ((with_reducible refine wlAt 10 rfl ?_); refine wpList_loadall rfl 35 (.tmp 2) rfl _ rfl 266 s.at 35 _ Tryd.underlying35 rfl size_sheet P.out ?_)
    | (go_at_call 62; (refine (HC.out _ E.out).mono ?_); rintro o w1 ⟨rfl, hb⟩; replace P := Go.Lib.hid (row_next hb P.out); replace Z := Go.Lib.hid (row_next hb Z.out); replace Y := Go.Lib.hid (row_next hb Y.out); replace hB := Go.Lib.hid (below_next hB.out hb); replace E := Go.Lib.hid (E.out.next hb); clear hb)
    | (go_at_call 53; (refine (HD.out _ E.out).mono ?_); rintro o w1 ⟨rfl, hb⟩; replace P := Go.Lib.hid (row_next hb P.out); replace Z := Go.Lib.hid (row_next hb Z.out); replace Y := Go.Lib.hid (row_next hb Y.out); replace hB := Go.Lib.hid (below_next hB.out hb); replace E := Go.Lib.hid (E.out.next hb); clear hb)
    | ((with_reducible refine wlAt 15 rfl ?_); refine wpList_built rfl 35 [] rfl [] (by rfl) _ built_zsR ?_)
    | ((with_reducible refine wlAt 16 rfl ?_); refine wpList_built rfl 32 [] rfl [] (by rfl) _ built_zi3 ?_)
    | ((with_reducible refine wlOp (.store 35 (.tmp 4) (.tmp 15)) rfl ?_); refine wpList_storeall rfl 35 (.tmp 4) (.tmp 15) rfl (w.heap.size + 1) rfl 266 Sh.zero.at Sh.zero.at rfl 35 size_sheet Z.out (fun i _ => Sh.one _ i) ?_; replace Y := Go.Lib.hid (row_set' (g := w.heap.size + 1) (show w.heap.size + 2 ≠ w.heap.size + 1 by omega) Y.out (vrow 266 Sh.zero.at)); replace Z := Go.Lib.hid (row_set Z.out (vrow 266 Sh.zero.at)); replace hB := Go.Lib.hid (Below_setRow hB.out (show w.heap.size ≤ w.heap.size + 1 by omega) (vrow 266 Sh.zero.at)))
    | ((with_reducible refine wlOp (.store 32 (.tmp 5) (.tmp 16)) rfl ?_); refine wpList_storeall rfl 32 (.tmp 5) (.tmp 16) rfl (w.heap.size + 2) rfl 3 (fun _ => .int .i64 0) (fun _ => .int .i64 0) rfl 32 size_i3 Y.out (fun _ _ => rfl) ?_; replace Z := Go.Lib.hid (row_set' (g := w.heap.size + 2) (show w.heap.size + 1 ≠ w.heap.size + 2 by omega) Z.out (vrow 3 (fun _ => .int .i64 0))); replace Y := Go.Lib.hid (row_set Y.out (vrow 3 (fun _ => .int .i64 0))); replace hB := Go.Lib.hid (Below_setRow hB.out (show w.heap.size ≤ w.heap.size + 2 by omega) (vrow 3 (fun _ => .int .i64 0)))))
  exact ret_rowsO Tryd.results25 (w.heap.size + 1) 266 Sh.zero.at 35 _ Tryd.underlying35 rfl size_sheet (w.heap.size + 2) 3 (fun _ => .int .i64 0) 32 _ Tryd.underlying32 rfl size_i3 (.int .i64 _) rfl rfl rfl rfl Z.out Y.out ⟨rfl, hB.out⟩
set_option maxHeartbeats 8000000 in
theorem implRO_ok (s : Sh) (k : Int) (a c : Nat) (e : ErrE) (w : World) (hE : Errs e w) (ho : okI s = true) (ea : s.wide = a) (ec : s.high = c) (ha : 1 ≤ a ∧ a ≤ 8) (hc : 1 ≤ c ∧ c ≤ 8) (hgd : Gd s s) (h1 : 1 ≤ k) (h2 : k ≤ 15) :
    Calls Tryd.prog 25 #[.agg s.row, .int .i64 k] w fun o w' => o = .returned (.tuple #[.agg (rinS k (s, fun _ => 0) (cellsL a c)).1.row, .agg (vrow 3 (fun i => .int .i64 ((rinS k (s, fun _ => 0) (cellsL a c)).2 i))), .int .i64 0]) ∧ Below w.heap.size w w' := by
  have HC := Go.Lib.hid fun w hE => ckRi_ok s k 1 e w hE ho ⟨h1, h2⟩ (by omega)
  have HR := Go.Lib.hid fun w mt hm => irinse_any s k mt a c w hm ea ec ha hc hgd h1 h2
  have zz := zero_sheet
  have zy := zero_i3
  have zb := zero_ba
  clear ho hgd
  have P : Hid ((((w.alloc (.cells (vrow 266 s.at) 35)).alloc (.cells (vrow 266 Sh.zero.at) 35)).alloc (.cells (vrow 3 (fun _ => .int .i64 0)) 32)).heap[w.heap.size]? = some (.cells (vrow 266 s.at) 35)) := heap_past _ _ _ _ (by simp <;> omega) (heap_past _ _ _ _ (by simp <;> omega) (heap_at _ _ _ (by simp)))
  have Z : Hid ((((w.alloc (.cells (vrow 266 s.at) 35)).alloc (.cells (vrow 266 Sh.zero.at) 35)).alloc (.cells (vrow 3 (fun _ => .int .i64 0)) 32)).heap[w.heap.size + 1]? = some (.cells (vrow 266 Sh.zero.at) 35)) := heap_past _ _ _ _ (by simp <;> omega) (heap_at _ _ _ (by simp))
  have Y : Hid ((((w.alloc (.cells (vrow 266 s.at) 35)).alloc (.cells (vrow 266 Sh.zero.at) 35)).alloc (.cells (vrow 3 (fun _ => .int .i64 0)) 32)).heap[w.heap.size + 2]? = some (.cells (vrow 3 (fun _ => .int .i64 0)) 32)) := heap_at _ _ _ (by simp)
  have hB : Hid (Below w.heap.size w (((w.alloc (.cells (vrow 266 s.at) 35)).alloc (.cells (vrow 266 Sh.zero.at) 35)).alloc (.cells (vrow 3 (fun _ => .int .i64 0)) 32))) := ((((Below.refl w.heap.size w).alloc (by simp <;> omega) _).alloc (by simp <;> omega) _).alloc (by simp <;> omega) _)
  have E : Hid (Errs e (((w.alloc (.cells (vrow 266 s.at) 35)).alloc (.cells (vrow 266 Sh.zero.at) 35)).alloc (.cells (vrow 3 (fun _ => .int .i64 0)) 32))) := ((hE.alloc _).alloc _).alloc _
  clear hE
  generalize (rinS k (s, fun _ => 0) (cellsL a c)) = T at *
  obtain ⟨T, oo⟩ := T
  dsimp only at HR ⊢
  go_enter Tryd.func25, Tryd.ntmps25
  go_wp2_with (first
    | go_skip
    | ((with_reducible refine wlAt 10 rfl ?_); refine wpList_loadall rfl 35 (.tmp 2) rfl _ rfl 266 s.at 35 _ Tryd.underlying35 rfl size_sheet P.out ?_)
    | ((with_reducible refine wlAt 19 rfl ?_); refine wpList_loadall rfl 35 (.tmp 2) rfl _ rfl 266 s.at 35 _ Tryd.underlying35 rfl size_sheet P.out ?_)
    | (go_at_call 62; (refine (HC.out _ E.out).mono ?_); rintro o w1 ⟨rfl, hb⟩; replace P := Go.Lib.hid (row_next hb P.out); replace Z := Go.Lib.hid (row_next hb Z.out); replace Y := Go.Lib.hid (row_next hb Y.out); replace hB := Go.Lib.hid (below_next hB.out hb); replace E := Go.Lib.hid (E.out.next hb); clear hb)
    | ((with_reducible refine wlAt 21 rfl ?_); refine wpList_built rfl 89 [(0, .tmp 19), (1, .tmp 20)] rfl [(0, .agg (vrow 266 s.at)), (1, .int .i64 k)] (by rfl) _ (built_ba _ _) ?_)
    | ((with_reducible refine wlOp (.store 89 (.tmp 8) (.tmp 21)) rfl ?_); refine wpList_storeall rfl 89 (.tmp 8) (.tmp 21) rfl _ rfl 267 (baAt Sh.zero 0) (baAt s k) rfl 89 size_ba (heap_at _ _ _ rfl) (fun i _ => baAt_one _ _ i) ?_; rw [setRow_at _ _ _ _ _ rfl]; have M := Go.Lib.hid (heap_at w1 (.cells (vrow 267 (baAt s k)) 89) _ rfl); have nZ := row_lt Z.out; have nY := row_lt Y.out; have hbs := hB.out.size; replace Z := Go.Lib.hid (heap_past _ (.cells (vrow 267 (baAt s k)) 89) _ _ nZ Z.out); replace Y := Go.Lib.hid (heap_past _ (.cells (vrow 267 (baAt s k)) 89) _ _ nY Y.out); replace hB := Go.Lib.hid (hB.out.alloc hbs (.cells (vrow 267 (baAt s k)) 89)); clear P; generalize w1.heap.size = mb at M nZ nY hbs ⊢; generalize w1.alloc _ = w2 at Z Y M hB ⊢)
    | (go_at_call 63; (refine (HR.out _ _ M.out).mono ?_); rintro o w3 ⟨rfl, hg, hp⟩; replace Z := Go.Lib.hid ((hg.block _ (row_lt Z.out) (by simp <;> omega)).trans Z.out); replace Y := Go.Lib.hid ((hg.block _ (row_lt Y.out) (by simp <;> omega)).trans Y.out); replace hB := Go.Lib.hid (hB.out.grown hg hB.out.size (fun q hq => by cases hq; omega)); replace M := Go.Lib.hid hp; clear hg hp)
    | ((with_reducible refine wlOp (.store 32 (.tmp 9) (.tmp 22)) rfl ?_); refine wpList_storeall rfl 32 (.tmp 9) (.tmp 22) rfl _ rfl 3 (fun _ => .int .i64 0) (a3f oo) rfl 32 size_i3 (heap_at _ _ _ rfl) (fun i _ => rfl) ?_; rw [setRow_at _ _ _ _ _ rfl]; have V := Go.Lib.hid (heap_at w3 (.cells (vrow 3 (a3f oo)) 32) _ rfl); have nM := row_lt M.out; have mZ := row_lt Z.out; have mY := row_lt Y.out; have hbs3 := hB.out.size; replace M := Go.Lib.hid (heap_past _ (.cells (vrow 3 (a3f oo)) 32) _ _ nM M.out); replace Z := Go.Lib.hid (heap_past _ (.cells (vrow 3 (a3f oo)) 32) _ _ mZ Z.out); replace Y := Go.Lib.hid (heap_past _ (.cells (vrow 3 (a3f oo)) 32) _ _ mY Y.out); replace hB := Go.Lib.hid (hB.out.alloc hbs3 (.cells (vrow 3 (a3f oo)) 32)); generalize w3.heap.size = nb at V nM mZ mY hbs3 ⊢; generalize w3.alloc _ = w4 at M Z Y V hB ⊢))
  refine Code.wp_mono (Q := fun e a' W' => e = .normal ∧ a'.tmps.getD 4 undef = .pointer (some ⟨w.heap.size + 1, 0, none⟩) ∧ a'.tmps.getD 5 undef = .pointer (some ⟨w.heap.size + 2, 0, none⟩) ∧ a'.tmps.getD 6 undef = .int .i64 0 ∧ a'.defers = [] ∧ Below w.heap.size w W' ∧ W'.heap[w.heap.size + 1]? = some (.cells (vrow 266 T.at) 35) ∧ W'.heap[w.heap.size + 2]? = some (.cells (vrow 3 (a3f oo)) 32)) ?_ ?_
  rotate_left
  · refine wp_region_held_drew (S := fun W' => Below w.heap.size w W' ∧ W'.heap[mb]? = some (.cells (vrow 267 (baAt T k)) 89) ∧ W'.heap[nb]? = some (.cells (vrow 3 (a3f oo)) 32)) (by kernel_rfl) ⟨hB.out.drew, M.out, V.out⟩ (fun hH => ?_)
    have V8 := drwS Z.out
    have V9 := drwS Y.out
    generalize World.drew _ = W at hH V8 V9 ⊢
    refine wpAnyH_take (i := 0) (v := (.pointer (some ⟨mb, 0, none⟩))) rfl (by kernel_rfl) (by kernel_rfl) (by kernel_rfl) (fun _ _ _ h => by cases h.1) (.inl ⟨by rfl, fun w _ => by go_simp⟩) hH ?_
    (try simp only [Act.put, List.setIfInBounds_toArray, List.set_cons_succ, List.set_cons_zero])
    refine wpAnyH_take (i := 1) (v := (.agg (vrow 266 T.at))) rfl (by kernel_rfl) (by kernel_rfl) (by kernel_rfl) (fun _ _ _ h => by cases h.1) (yields_m (by rfl) 35 _ rfl mb 0 rfl 267 266 (baAt T k) _ (by omega) 89 _ Tryd.underlying35 rfl size_sheet (baAt_s _ _) (fun _ h => h.2.1)) hH ?_
    (try simp only [Act.put, List.setIfInBounds_toArray, List.set_cons_succ, List.set_cons_zero])
    refine wpAnyH_take (i := 2) (v := (.agg (vrow 3 (a3f oo)))) rfl (by kernel_rfl) (by kernel_rfl) (by kernel_rfl) (fun _ _ _ h => by cases h.1) (yields_row (by rfl) 32 _ rfl nb rfl 3 (a3f oo) 32 _ Tryd.underlying32 rfl size_i3 (fun _ h => h.2.2)) hH ?_
    (try simp only [Act.put, List.setIfInBounds_toArray, List.set_cons_succ, List.set_cons_zero])
    refine wpAnyH_ready (rs := [3]) (by kernel_rfl) (by simp) (AllReadyH.cons rfl (fun K hK => ?_) AllReadyH.nil)
    rw [if_pos (by rfl)]
    unfold Oper.wp
    rw [run_storemid 35 (.tmp 4) (.tmp 24) rfl (w.heap.size + 1) 0 rfl 266 266 Sh.zero.at T.at rfl 35 size_sheet V8 (by omega) (fun i _ => Sh.one _ i), vrow_over_all, Oper.upon_skip]
    replace V8 := row_set V8 (vrow 266 T.at)
    replace V9 := row_set' (show w.heap.size + 2 ≠ w.heap.size + 1 by omega) V9 (vrow 266 T.at)
    have hH2 : Below w.heap.size w (W.setRow (w.heap.size + 1) (vrow 266 T.at)) ∧ (W.setRow (w.heap.size + 1) (vrow 266 T.at)).heap[mb]? = some (.cells (vrow 267 (baAt T k)) 89) ∧ (W.setRow (w.heap.size + 1) (vrow 266 T.at)).heap[nb]? = some (.cells (vrow 3 (a3f oo)) 32) := ⟨Below_setRow hH.1 (by omega) _, row_set' (by omega) hH.2.1 _, row_set' (by omega) hH.2.2 _⟩
    refine hK.out _ _ hH2 (fun hH => ?_)
    clear hK K hH2
    (try simp only [Act.put, List.setIfInBounds_toArray, List.set_cons_succ, List.set_cons_zero])
    generalize (W.setRow (w.heap.size + 1) (vrow 266 T.at)) = Y0 at hH V8 V9 ⊢
    refine wpAnyH_ready (rs := [4]) (by kernel_rfl) (by simp) (AllReadyH.cons rfl (fun K hK => ?_) AllReadyH.nil)
    rw [if_pos (by rfl)]
    unfold Oper.wp
    rw [run_storemid 32 (.tmp 5) (.tmp 25) rfl (w.heap.size + 2) 0 rfl 3 3 (fun _ => .int .i64 0) (a3f oo) rfl 32 size_i3 V9 (by omega) (fun i _ => rfl), vrow_over_all, Oper.upon_skip]
    replace V8 := row_set' (show w.heap.size + 1 ≠ w.heap.size + 2 by omega) V8 (vrow 3 (a3f oo))
    replace V9 := row_set V9 (vrow 3 (a3f oo))
    have hH2 : Below w.heap.size w (Y0.setRow (w.heap.size + 2) (vrow 3 (a3f oo))) ∧ (Y0.setRow (w.heap.size + 2) (vrow 3 (a3f oo))).heap[mb]? = some (.cells (vrow 267 (baAt T k)) 89) ∧ (Y0.setRow (w.heap.size + 2) (vrow 3 (a3f oo))).heap[nb]? = some (.cells (vrow 3 (a3f oo)) 32) := ⟨Below_setRow hH.1 (by omega) _, row_set' (by omega) hH.2.1 _, row_set' (by omega) hH.2.2 _⟩
    refine hK.out _ _ hH2 (fun hH => ?_)
    clear hK K hH2
    (try simp only [Act.put, List.setIfInBounds_toArray, List.set_cons_succ, List.set_cons_zero])
    generalize (Y0.setRow (w.heap.size + 2) (vrow 3 (a3f oo))) = Y1 at hH V8 V9 ⊢
    refine wpAnyH_take (i := 5) (v := (.int .i64 0)) rfl (by kernel_rfl) (by kernel_rfl) (by kernel_rfl) (fun _ _ _ h => by cases h.1) (.inl ⟨by rfl, fun w _ => by go_simp⟩) hH ?_
    (try simp only [Act.put, List.setIfInBounds_toArray, List.set_cons_succ, List.set_cons_zero])
    refine wpAnyH_done (by kernel_rfl) ?_ _
    exact ⟨rfl, rfl, rfl, rfl, rfl, hH.1, V8, V9⟩
  rintro e1 a1 W1 ⟨rfl, h_8, h_9, h_10, hdf, hB1, V8, V9⟩
  go_wp2
  exact ret_rowsO Tryd.results25 (w.heap.size + 1) 266 T.at 35 _ Tryd.underlying35 rfl size_sheet (w.heap.size + 2) 3 (a3f oo) 32 _ Tryd.underlying32 rfl size_i3 (.int .i64 0) h_8 h_9 h_10 hdf V8 V9 ⟨rfl, hB1⟩
end Go.Proofs.YtgbhchmpeioaiaaDoor
