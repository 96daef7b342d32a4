import Derived.Deep.RegionHeld3
import Derived.Test.YtfgcpiipndhllaaDoorRinU3
namespace Go.Proofs.YtfgcpiipndhllaaDoor
open Go.RowKit
set_option maxRecDepth 100000
set_option linter.unusedVariables false
set_option linter.unusedSimpArgs false
set_option maxHeartbeats 2000000 in
theorem implRU_err (s : Sh) (k b v : Int) (n : Nat) (e : ErrE) (w : World) (hE : Errs e w) (HC0 : ∀ w, Errs e w → Calls Tryd.prog 69 #[.agg s.row, .int .i64 k, .int .i64 1] w fun o w' => o = .returned (errP e n) ∧ Below w.heap.size w w')
    (HD0 : ∀ w, Errs e w → Calls Tryd.prog 62 #[errP e n] w fun o w' => o = .returned (.int .i64 v) ∧ Below w.heap.size w w') :
    Calls Tryd.prog 19 #[.agg s.row, .int .i64 k, .int .i64 b] w fun o w' => o = .returned (.tuple #[.agg Sh.zero.row, .int .i64 0, .agg (vrow 3 (fun _ => .int .i64 0)), .int .i64 v]) ∧ Below w.heap.size w w' := by
  have HC := Go.Lib.hid HC0
  have HD := Go.Lib.hid HD0
  have zz := zero_sheet
  have zy := zero_i3
  clear HC0 HD0
  have P : Hid ((((w.alloc (.cells (vrow 266 s.at) 36)).alloc (.cells (vrow 266 Sh.zero.at) 36)).alloc (.cells (vrow 3 (fun _ => .int .i64 0)) 40)).heap[w.heap.size]? = some (.cells (vrow 266 s.at) 36)) := heap_past _ _ _ _ (by simp <;> omega) (heap_past _ _ _ _ (by simp <;> omega) (heap_at _ _ _ (by simp)))
  have Z : Hid ((((w.alloc (.cells (vrow 266 s.at) 36)).alloc (.cells (vrow 266 Sh.zero.at) 36)).alloc (.cells (vrow 3 (fun _ => .int .i64 0)) 40)).heap[w.heap.size + 1]? = some (.cells (vrow 266 Sh.zero.at) 36)) := heap_past _ _ _ _ (by simp <;> omega) (heap_at _ _ _ (by simp))
  have Y : Hid ((((w.alloc (.cells (vrow 266 s.at) 36)).alloc (.cells (vrow 266 Sh.zero.at) 36)).alloc (.cells (vrow 3 (fun _ => .int .i64 0)) 40)).heap[w.heap.size + 2]? = some (.cells (vrow 3 (fun _ => .int .i64 0)) 40)) := heap_at _ _ _ (by simp)
  have hB : Hid (Below w.heap.size w (((w.alloc (.cells (vrow 266 s.at) 36)).alloc (.cells (vrow 266 Sh.zero.at) 36)).alloc (.cells (vrow 3 (fun _ => .int .i64 0)) 40))) := ((((Below.refl w.heap.size w).alloc (by simp <;> omega) _).alloc (by simp <;> omega) _).alloc (by simp <;> omega) _)
  go_enter Tryd.func19, Tryd.ntmps19
  go_wp2_with (first
    | go_skip
    | ((with_reducible refine wlAt 14 rfl ?_); refine wpList_loadall rfl 36 (.tmp 3) rfl _ rfl 266 s.at 36 _ Tryd.underlying36 rfl size_sheet P.out ?_) | (go_at_call 69; (refine (HC.out _ (hE.next hB.out)).mono ?_); rintro o w1 ⟨rfl, hb⟩; replace P := Go.Lib.hid (row_next hb P.out); replace Z := Go.Lib.hid (row_next hb Z.out); replace Y := Go.Lib.hid (row_next hb Y.out); replace hB := Go.Lib.hid (below_next hB.out hb); clear hb)
    | (go_at_call 62; (refine (HD.out _ (hE.next hB.out)).mono ?_); rintro o w1 ⟨rfl, hb⟩; replace P := Go.Lib.hid (row_next hb P.out); replace Z := Go.Lib.hid (row_next hb Z.out); replace Y := Go.Lib.hid (row_next hb Y.out); replace hB := Go.Lib.hid (below_next hB.out hb); clear hb)
    | ((with_reducible refine wlAt 19 rfl ?_); refine wpList_built rfl 36 [] rfl [] (by rfl) _ built_zsR ?_) | ((with_reducible refine wlAt 20 rfl ?_); refine wpList_built rfl 40 [] rfl [] (by rfl) _ built_zi3 ?_) | ((with_reducible refine wlOp (.store 36 (.tmp 6) (.tmp 19)) rfl ?_); refine wpList_storeall rfl 36 (.tmp 6) (.tmp 19) rfl (w.heap.size + 1) rfl 266 Sh.zero.at Sh.zero.at rfl 36 size_sheet Z.out (fun i _ => Sh.one _ i) ?_; replace Y := Go.Lib.hid (row_set' (g := w.heap.size + 1) (show w.heap.size + 2 ≠ w.heap.size + 1 by omega) Y.out (vrow 266 Sh.zero.at)); replace Z := Go.Lib.hid (row_set Z.out (vrow 266 Sh.zero.at)); replace hB := Go.Lib.hid (Below_setRow hB.out (show w.heap.size ≤ w.heap.size + 1 by omega) (vrow 266 Sh.zero.at))) | ((with_reducible refine wlOp (.store 40 (.tmp 8) (.tmp 20)) rfl ?_); refine wpList_storeall rfl 40 (.tmp 8) (.tmp 20) rfl (w.heap.size + 2) rfl 3 (fun _ => .int .i64 0) (fun _ => .int .i64 0) rfl 40 size_i3 Y.out (fun _ _ => rfl) ?_; replace Z := Go.Lib.hid (row_set' (g := w.heap.size + 2) (show w.heap.size + 1 ≠ w.heap.size + 2 by omega) Z.out (vrow 3 (fun _ => .int .i64 0))); replace Y := Go.Lib.hid (row_set Y.out (vrow 3 (fun _ => .int .i64 0))); replace hB := Go.Lib.hid (Below_setRow hB.out (show w.heap.size ≤ w.heap.size + 2 by omega) (vrow 3 (fun _ => .int .i64 0)))))
  exact ret_rowsU Tryd.results19 (w.heap.size + 1) 266 Sh.zero.at 36 _ Tryd.underlying36 rfl size_sheet (w.heap.size + 2) 3 (fun _ => .int .i64 0) 40 _ Tryd.underlying40 rfl size_i3 (.int .i64 0) (.int .i64 _) rfl rfl rfl rfl rfl Z.out Y.out ⟨rfl, hB.out⟩
set_option maxHeartbeats 4000000 in
theorem implRU_rng (s : Sh) (k b : Int) (e : ErrE) (w : World) (hE : Errs e w) (HC0 : ∀ w, Errs e w → Calls Tryd.prog 69 #[.agg s.row, .int .i64 k, .int .i64 1] w fun o w' => o = .returned .nilIface ∧ Below w.heap.size w w') (hb : b < 0 ∨ 3000 < b) :
    Calls Tryd.prog 19 #[.agg s.row, .int .i64 k, .int .i64 b] w fun o w' => o = .returned (.tuple #[.agg Sh.zero.row, .int .i64 0, .agg (vrow 3 (fun _ => .int .i64 0)), .int .i64 2]) ∧ Below w.heap.size w w' := by
  have HC := Go.Lib.hid HC0
  have zz := zero_sheet
  have zy := zero_i3
  have hcs : (decide (b < 0) = true) ∨ (decide (b < 0) = false ∧ decide (3000 < b) = true) := by
    simp only [decide_eq_true_eq, decide_eq_false_iff_not]; omega
  clear HC0 hb
  have P : Hid ((((w.alloc (.cells (vrow 266 s.at) 36)).alloc (.cells (vrow 266 Sh.zero.at) 36)).alloc (.cells (vrow 3 (fun _ => .int .i64 0)) 40)).heap[w.heap.size]? = some (.cells (vrow 266 s.at) 36)) := heap_past _ _ _ _ (by simp <;> omega) (heap_past _ _ _ _ (by simp <;> omega) (heap_at _ _ _ (by simp)))
  have Z : Hid ((((w.alloc (.cells (vrow 266 s.at) 36)).alloc (.cells (vrow 266 Sh.zero.at) 36)).alloc (.cells (vrow 3 (fun _ => .int .i64 0)) 40)).heap[w.heap.size + 1]? = some (.cells (vrow 266 Sh.zero.at) 36)) := heap_past _ _ _ _ (by simp <;> omega) (heap_at _ _ _ (by simp))
  have Y : Hid ((((w.alloc (.cells (vrow 266 s.at) 36)).alloc (.cells (vrow 266 Sh.zero.at) 36)).alloc (.cells (vrow 3 (fun _ => .int .i64 0)) 40)).heap[w.heap.size + 2]? = some (.cells (vrow 3 (fun _ => .int .i64 0)) 40)) := heap_at _ _ _ (by simp)
  have hB : Hid (Below w.heap.size w (((w.alloc (.cells (vrow 266 s.at) 36)).alloc (.cells (vrow 266 Sh.zero.at) 36)).alloc (.cells (vrow 3 (fun _ => .int .i64 0)) 40))) := ((((Below.refl w.heap.size w).alloc (by simp <;> omega) _).alloc (by simp <;> omega) _).alloc (by simp <;> omega) _)
  rcases hcs with q1 | ⟨q1, q2⟩
  all_goals
    go_enter Tryd.func19, Tryd.ntmps19
    go_wp2_with (first
      | go_skip
      | ((with_reducible refine wlAt 14 rfl ?_); refine wpList_loadall rfl 36 (.tmp 3) rfl _ rfl 266 s.at 36 _ Tryd.underlying36 rfl size_sheet P.out ?_) | (go_at_call 69; (refine (HC.out _ (hE.next hB.out)).mono ?_); rintro o w1 ⟨rfl, hb⟩; replace P := Go.Lib.hid (row_next hb P.out); replace Z := Go.Lib.hid (row_next hb Z.out); replace Y := Go.Lib.hid (row_next hb Y.out); replace hB := Go.Lib.hid (below_next hB.out hb); clear hb)
      | ((with_reducible refine wlAt 29 rfl ?_); refine wpList_built rfl 36 [] rfl [] (by rfl) _ built_zsR ?_) | ((with_reducible refine wlAt 30 rfl ?_); refine wpList_built rfl 40 [] rfl [] (by rfl) _ built_zi3 ?_) | ((with_reducible refine wlOp (.store 36 (.tmp 6) (.tmp 29)) rfl ?_); refine wpList_storeall rfl 36 (.tmp 6) (.tmp 29) rfl (w.heap.size + 1) rfl 266 Sh.zero.at Sh.zero.at rfl 36 size_sheet Z.out (fun i _ => Sh.one _ i) ?_; replace Y := Go.Lib.hid (row_set' (g := w.heap.size + 1) (show w.heap.size + 2 ≠ w.heap.size + 1 by omega) Y.out (vrow 266 Sh.zero.at)); replace Z := Go.Lib.hid (row_set Z.out (vrow 266 Sh.zero.at)); replace hB := Go.Lib.hid (Below_setRow hB.out (show w.heap.size ≤ w.heap.size + 1 by omega) (vrow 266 Sh.zero.at))) | ((with_reducible refine wlOp (.store 40 (.tmp 8) (.tmp 30)) rfl ?_); refine wpList_storeall rfl 40 (.tmp 8) (.tmp 30) rfl (w.heap.size + 2) rfl 3 (fun _ => .int .i64 0) (fun _ => .int .i64 0) rfl 40 size_i3 Y.out (fun _ _ => rfl) ?_; replace Z := Go.Lib.hid (row_set' (g := w.heap.size + 2) (show w.heap.size + 1 ≠ w.heap.size + 2 by omega) Z.out (vrow 3 (fun _ => .int .i64 0))); replace Y := Go.Lib.hid (row_set Y.out (vrow 3 (fun _ => .int .i64 0))); replace hB := Go.Lib.hid (Below_setRow hB.out (show w.heap.size ≤ w.heap.size + 2 by omega) (vrow 3 (fun _ => .int .i64 0)))))
    exact ret_rowsU Tryd.results19 (w.heap.size + 1) 266 Sh.zero.at 36 _ Tryd.underlying36 rfl size_sheet (w.heap.size + 2) 3 (fun _ => .int .i64 0) 40 _ Tryd.underlying40 rfl size_i3 (.int .i64 0) (.int .i64 _) rfl rfl rfl rfl rfl Z.out Y.out ⟨rfl, hB.out⟩
set_option maxHeartbeats 8000000 in
theorem implRU_ok (s : Sh) (k b : Int) (j a c : Nat) (e : ErrE) (w : World) (hE : Err6 e w) (ho : okI s = true) (ea : s.wide = a) (ec : s.high = c) (ha : 1 ≤ a ∧ a ≤ 8) (hc : 1 ≤ c ∧ c ≤ 8) (hgd : Gd s s) (h1 : 1 ≤ k) (h2 : k ≤ 15) (hb : 0 ≤ b ∧ b ≤ 3000) (hj : j ≤ 200000) (hj1 : dk (cellsL a c) (rnds k (cellsL a c) ⟨s, 0, fun _ => 0⟩ j).s ≤ b) (hj2 : ∀ i, i < j → b < dk (cellsL a c) (rnds k (cellsL a c) ⟨s, 0, fun _ => 0⟩ i).s) :
    Calls Tryd.prog 19 #[.agg s.row, .int .i64 k, .int .i64 b] w fun o w' => o = .returned (.tuple #[.agg (rnds k (cellsL a c) ⟨s, 0, fun _ => 0⟩ j).s.row, .int .i64 (rnds k (cellsL a c) ⟨s, 0, fun _ => 0⟩ j).n, .agg (vrow 3 (fun i => .int .i64 ((rnds k (cellsL a c) ⟨s, 0, fun _ => 0⟩ j).o i))), .int .i64 0]) ∧ Below w.heap.size w w' := by
  have HC := Go.Lib.hid fun w hE => ckRi_ok s k 1 e w hE ho ⟨h1, h2⟩ (by omega)
  have HR := Go.Lib.hid fun mt w' hw hmt hm => rinseUntil_any s k b j mt a c e w w' hE hw hmt hm ea ec ha hc hgd h1 h2 hj hj1 hj2
  have q1 : decide (b < 0) = false := by simp; omega
  have q2 : decide (3000 < b) = false := by simp; omega
  replace hE := hE.base
  have zz := zero_sheet
  have zy := zero_i3
  have zb := zero_ba
  clear ho hgd hj1 hj2
  generalize (rnds k (cellsL a c) ⟨s, 0, fun _ => 0⟩ j) = V at *
  have P : Hid ((((w.alloc (.cells (vrow 266 s.at) 36)).alloc (.cells (vrow 266 Sh.zero.at) 36)).alloc (.cells (vrow 3 (fun _ => .int .i64 0)) 40)).heap[w.heap.size]? = some (.cells (vrow 266 s.at) 36)) := heap_past _ _ _ _ (by simp <;> omega) (heap_past _ _ _ _ (by simp <;> omega) (heap_at _ _ _ (by simp)))
  have Z : Hid ((((w.alloc (.cells (vrow 266 s.at) 36)).alloc (.cells (vrow 266 Sh.zero.at) 36)).alloc (.cells (vrow 3 (fun _ => .int .i64 0)) 40)).heap[w.heap.size + 1]? = some (.cells (vrow 266 Sh.zero.at) 36)) := heap_past _ _ _ _ (by simp <;> omega) (heap_at _ _ _ (by simp))
  have Y : Hid ((((w.alloc (.cells (vrow 266 s.at) 36)).alloc (.cells (vrow 266 Sh.zero.at) 36)).alloc (.cells (vrow 3 (fun _ => .int .i64 0)) 40)).heap[w.heap.size + 2]? = some (.cells (vrow 3 (fun _ => .int .i64 0)) 40)) := heap_at _ _ _ (by simp)
  have hB : Hid (Below w.heap.size w (((w.alloc (.cells (vrow 266 s.at) 36)).alloc (.cells (vrow 266 Sh.zero.at) 36)).alloc (.cells (vrow 3 (fun _ => .int .i64 0)) 40))) := ((((Below.refl w.heap.size w).alloc (by simp <;> omega) _).alloc (by simp <;> omega) _).alloc (by simp <;> omega) _)
  go_enter Tryd.func19, Tryd.ntmps19
  go_wp2_with (first
    | go_skip
    | ((with_reducible refine wlAt 14 rfl ?_); refine wpList_loadall rfl 36 (.tmp 3) rfl _ rfl 266 s.at 36 _ Tryd.underlying36 rfl size_sheet P.out ?_) | (go_at_call 69; (refine (HC.out _ (hE.next hB.out)).mono ?_); rintro o w1 ⟨rfl, hb⟩; replace P := Go.Lib.hid (row_next hb P.out); replace Z := Go.Lib.hid (row_next hb Z.out); replace Y := Go.Lib.hid (row_next hb Y.out); replace hB := Go.Lib.hid (below_next hB.out hb); clear hb)
    | ((with_reducible refine wlAt 31 rfl ?_); refine wpList_loadall rfl 36 (.tmp 3) rfl _ rfl 266 s.at 36 _ Tryd.underlying36 rfl size_sheet P.out ?_)
    | ((with_reducible refine wlAt 33 rfl ?_); refine wpList_built rfl 119 [(0, .tmp 31), (1, .tmp 32)] rfl [(0, .agg (vrow 266 s.at)), (1, .int .i64 k)] (by rfl) _ (built_ba _ _) ?_)
    | ((with_reducible refine wlOp (.store 119 (.tmp 11) (.tmp 33)) rfl ?_); refine wpList_storeall rfl 119 (.tmp 11) (.tmp 33) rfl _ rfl 267 (baAt Sh.zero 0) (baAt s k) rfl 119 size_ba (heap_at _ _ _ rfl) (fun i _ => baAt_one _ _ i) ?_; rw [setRow_at _ _ _ _ _ rfl]; have M := Go.Lib.hid (heap_at w1 (.cells (vrow 267 (baAt s k)) 119) _ rfl); have nZ := row_lt Z.out; have nY := row_lt Y.out; have hbs := hB.out.size; replace Z := Go.Lib.hid (heap_past _ (.cells (vrow 267 (baAt s k)) 119) _ _ nZ Z.out); replace Y := Go.Lib.hid (heap_past _ (.cells (vrow 267 (baAt s k)) 119) _ _ nY Y.out); replace hB := Go.Lib.hid (hB.out.alloc hbs (.cells (vrow 267 (baAt s k)) 119)); clear P; generalize w1.heap.size = mb at M nZ nY hbs ⊢; generalize w1.alloc _ = w2 at Z Y M hB ⊢)
    | (go_at_call 70; (refine (HR.out mb _ hB.out hbs M.out).mono ?_); rintro o w3 ⟨rfl, hg, hp⟩; replace Z := Go.Lib.hid ((hg.block _ (row_lt Z.out) (by simp <;> omega)).trans Z.out); replace Y := Go.Lib.hid ((hg.block _ (row_lt Y.out) (by simp <;> omega)).trans Y.out); replace hB := Go.Lib.hid (hB.out.grown hg hB.out.size (fun q hq => by cases hq; omega)); replace M := Go.Lib.hid hp; clear hg hp)
    | ((with_reducible refine wlOp (.store 40 (.tmp 13) (.tmp 38)) rfl ?_); refine wpList_storeall rfl 40 (.tmp 13) (.tmp 38) rfl _ rfl 3 (fun _ => .int .i64 0) (a3f V.o) rfl 40 size_i3 (heap_at _ _ _ rfl) (fun i _ => rfl) ?_; rw [setRow_at _ _ _ _ _ rfl]; have D := Go.Lib.hid (heap_at w3 (.cells (vrow 3 (a3f V.o)) 40) _ rfl); have nM := row_lt M.out; have mZ := row_lt Z.out; have mY := row_lt Y.out; have hbs3 := hB.out.size; replace M := Go.Lib.hid (heap_past _ (.cells (vrow 3 (a3f V.o)) 40) _ _ nM M.out); replace Z := Go.Lib.hid (heap_past _ (.cells (vrow 3 (a3f V.o)) 40) _ _ mZ Z.out); replace Y := Go.Lib.hid (heap_past _ (.cells (vrow 3 (a3f V.o)) 40) _ _ mY Y.out); replace hB := Go.Lib.hid (hB.out.alloc hbs3 (.cells (vrow 3 (a3f V.o)) 40)); generalize w3.heap.size = nb at D nM mZ mY hbs3 ⊢; generalize w3.alloc _ = w4 at M Z Y D hB ⊢))
  refine Code.wp_mono (Q := fun e a' W' => e = .normal ∧ a'.tmps.getD 6 undef = .pointer (some ⟨w.heap.size + 1, 0, none⟩) ∧ a'.tmps.getD 8 undef = .pointer (some ⟨w.heap.size + 2, 0, none⟩) ∧ a'.tmps.getD 7 undef = .int .i64 V.n ∧ a'.tmps.getD 9 undef = .int .i64 0 ∧ a'.defers = [] ∧ Below w.heap.size w W' ∧ W'.heap[w.heap.size + 1]? = some (.cells (vrow 266 V.s.at) 36) ∧ W'.heap[w.heap.size + 2]? = some (.cells (vrow 3 (a3f V.o)) 40)) ?_ ?_
  rotate_left
  · refine wp_region_held_drew (S := fun W' => Below w.heap.size w W' ∧ W'.heap[mb]? = some (.cells (vrow 267 (baAt V.s k)) 119) ∧ W'.heap[nb]? = some (.cells (vrow 3 (a3f V.o)) 40)) (by kernel_rfl) ⟨hB.out.drew, M.out, D.out⟩ (fun hH => ?_)
    have V6 := drwS Z.out
    have V8 := drwS Y.out
    generalize World.drew _ = W at hH V6 V8 ⊢
    refine wpAnyH_take (i := 0) (v := (.pointer (some ⟨mb, 0, none⟩))) rfl (by kernel_rfl) (by kernel_rfl) (by kernel_rfl) (fun _ _ _ h => by cases h.1) (.inl ⟨by rfl, fun w _ => by go_simp⟩) hH ?_
    (try simp only [Act.put, List.setIfInBounds_toArray, List.set_cons_succ, List.set_cons_zero])
    refine wpAnyH_take (i := 1) (v := (.agg (vrow 266 V.s.at))) rfl (by kernel_rfl) (by kernel_rfl) (by kernel_rfl) (fun _ _ _ h => by cases h.1) (yields_m (by rfl) 36 _ rfl (mb) 0 rfl 267 266 (baAt V.s k) _ (by omega) 119 _ Tryd.underlying36 rfl size_sheet (baAt_s _ _) (fun _ h => h.2.1)) hH ?_
    (try simp only [Act.put, List.setIfInBounds_toArray, List.set_cons_succ, List.set_cons_zero])
    refine wpAnyH_take (i := 2) (v := (.int .i64 V.n)) rfl (by kernel_rfl) (by kernel_rfl) (by kernel_rfl) (fun _ _ _ h => by cases h.1) (.inl ⟨by rfl, fun w _ => by go_simp⟩) hH ?_
    (try simp only [Act.put, List.setIfInBounds_toArray, List.set_cons_succ, List.set_cons_zero])
    refine wpAnyH_take (i := 3) (v := (.agg (vrow 3 (a3f V.o)))) rfl (by kernel_rfl) (by kernel_rfl) (by kernel_rfl) (fun _ _ _ h => by cases h.1) (yields_row (by rfl) 40 _ rfl (nb) rfl 3 (a3f V.o) 40 _ Tryd.underlying40 rfl size_i3 (fun _ h => h.2.2)) hH ?_
    (try simp only [Act.put, List.setIfInBounds_toArray, List.set_cons_succ, List.set_cons_zero])
    refine wpAnyH_ready (rs := [4]) (by kernel_rfl) (by simp) (AllReadyH.cons rfl (fun K hK => ?_) AllReadyH.nil)
    rw [if_pos (by rfl)]
    unfold Oper.wp
    rw [run_storemid 36 (.tmp 6) (.tmp 40) rfl (w.heap.size + 1) 0 rfl 266 266 Sh.zero.at V.s.at rfl 36 size_sheet V6 (by omega) (fun i _ => Sh.one _ i), vrow_over_all, Oper.upon_skip]
    replace V6 := row_set V6 (vrow 266 V.s.at)
    replace V8 := row_set' (show w.heap.size + 2 ≠ w.heap.size + 1 by omega) V8 (vrow 266 V.s.at)
    have hH2 : Below w.heap.size w (W.setRow (w.heap.size + 1) (vrow 266 V.s.at)) ∧ (W.setRow (w.heap.size + 1) (vrow 266 V.s.at)).heap[mb]? = some (.cells (vrow 267 (baAt V.s k)) 119) ∧ (W.setRow (w.heap.size + 1) (vrow 266 V.s.at)).heap[nb]? = some (.cells (vrow 3 (a3f V.o)) 40) := ⟨Below_setRow hH.1 (by omega) _, row_set' (by omega) hH.2.1 _, row_set' (by omega) hH.2.2 _⟩
    refine hK.out _ _ hH2 (fun hH => ?_)
    clear hK K hH2
    (try simp only [Act.put, List.setIfInBounds_toArray, List.set_cons_succ, List.set_cons_zero])
    generalize (W.setRow (w.heap.size + 1) (vrow 266 V.s.at)) = Y0 at hH V6 V8 ⊢
    refine wpAnyH_take (i := 5) (v := (.int .i64 V.n)) rfl (by kernel_rfl) (by kernel_rfl) (by kernel_rfl) (fun _ _ _ h => by cases h.1) (.inl ⟨by rfl, fun w _ => by go_simp⟩) hH ?_
    (try simp only [Act.put, List.setIfInBounds_toArray, List.set_cons_succ, List.set_cons_zero])
    refine wpAnyH_ready (rs := [6]) (by kernel_rfl) (by simp) (AllReadyH.cons rfl (fun K hK => ?_) AllReadyH.nil)
    rw [if_pos (by rfl)]
    unfold Oper.wp
    rw [run_storemid 40 (.tmp 8) (.tmp 42) rfl (w.heap.size + 2) 0 rfl 3 3 (fun _ => .int .i64 0) (a3f V.o) rfl 40 size_i3 V8 (by omega) (fun i _ => rfl), vrow_over_all, Oper.upon_skip]
    replace V6 := row_set' (show w.heap.size + 1 ≠ w.heap.size + 2 by omega) V6 (vrow 3 (a3f V.o))
    replace V8 := row_set V8 (vrow 3 (a3f V.o))
    have hH2 : Below w.heap.size w (Y0.setRow (w.heap.size + 2) (vrow 3 (a3f V.o))) ∧ (Y0.setRow (w.heap.size + 2) (vrow 3 (a3f V.o))).heap[mb]? = some (.cells (vrow 267 (baAt V.s k)) 119) ∧ (Y0.setRow (w.heap.size + 2) (vrow 3 (a3f V.o))).heap[nb]? = some (.cells (vrow 3 (a3f V.o)) 40) := ⟨Below_setRow hH.1 (by omega) _, row_set' (by omega) hH.2.1 _, row_set' (by omega) hH.2.2 _⟩
    refine hK.out _ _ hH2 (fun hH => ?_)
    clear hK K hH2
    (try simp only [Act.put, List.setIfInBounds_toArray, List.set_cons_succ, List.set_cons_zero])
    generalize (Y0.setRow (w.heap.size + 2) (vrow 3 (a3f V.o))) = Y1 at hH V6 V8 ⊢
    refine wpAnyH_take (i := 7) (v := (.int .i64 0)) rfl (by kernel_rfl) (by kernel_rfl) (by kernel_rfl) (fun _ _ _ h => by cases h.1) (.inl ⟨by rfl, fun w _ => by go_simp⟩) hH ?_
    (try simp only [Act.put, List.setIfInBounds_toArray, List.set_cons_succ, List.set_cons_zero])
    refine wpAnyH_done (by kernel_rfl) ?_ _
    exact ⟨rfl, rfl, rfl, rfl, rfl, rfl, hH.1, V6, V8⟩
  rintro e1 a1 W1 ⟨rfl, h_6, h_8, h_7, h_9, hdf, hB1, V6, V8⟩
  go_wp2
  exact ret_rowsU Tryd.results19 (w.heap.size + 1) 266 V.s.at 36 _ Tryd.underlying36 rfl size_sheet (w.heap.size + 2) 3 (a3f V.o) 40 _ Tryd.underlying40 rfl size_i3 (.int .i64 V.n) (.int .i64 0) h_6 h_8 h_7 h_9 hdf V6 V8 ⟨rfl, hB1⟩
end Go.Proofs.YtfgcpiipndhllaaDoor
