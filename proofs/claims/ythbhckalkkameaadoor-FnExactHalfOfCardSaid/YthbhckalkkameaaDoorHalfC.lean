import Derived.Deep.RegionHeld3
import Derived.Test.YthbhckalkkameaaDoorArrH
import Derived.Test.YthbhckalkkameaaDoorTurn
import Derived.Test.YthbhckalkkameaaDoorUnlH
namespace Go.Proofs.YthbhckalkkameaaDoor
open Go.RowKit
set_option maxRecDepth 100000
set_option linter.unusedVariables false
set_option linter.unusedSimpArgs false
set_option maxHeartbeats 1000000 in
theorem half1_any (x y : Nat) (w : World) : Calls Tryd.prog 115 #[.agg (vrow 2 (spAt x y))] w fun e w' => e = .returned (.agg (vrow 2 (spAt x y))) ∧ Below w.heap.size w w' := by
  have zs := zero_spot
  have hB : Hid (Below w.heap.size w ((w.alloc (.cells (vrow 2 (spAt x y)) 36)).alloc (.cells (vrow 2 (spAt 0 0)) 36))) := (((Below.refl w.heap.size w).alloc (by simp <;> omega) _).alloc (by simp <;> omega) _)
  have R : Hid (((w.alloc (.cells (vrow 2 (spAt x y)) 36)).alloc (.cells (vrow 2 (spAt 0 0)) 36)).heap[w.heap.size]? = some (.cells (vrow 2 (spAt x y)) 36)) := heap_past _ _ _ _ (by first | omega | (simp <;> omega)) (heap_at _ _ _ (by simp))
  have Z : Hid (((w.alloc (.cells (vrow 2 (spAt x y)) 36)).alloc (.cells (vrow 2 (spAt 0 0)) 36)).heap[w.heap.size + 1]? = some (.cells (vrow 2 (spAt 0 0)) 36)) := heap_at _ _ _ (by simp)
  go_enter Tryd.func115, Tryd.ntmps115
  go_wp2_with (first
    | ((with_reducible refine wlAt 3 rfl ?_); refine wpList_loadall rfl 36 (.tmp 1) rfl w.heap.size rfl 2 (spAt x y) 36 _ Tryd.underlying36 rfl size_spot R.out ?_)
    | ((with_reducible refine wlOp (.store 36 (.tmp 2) (.tmp 3)) rfl ?_); refine wpList_storeall rfl 36 (.tmp 2) (.tmp 3) rfl (w.heap.size + 1) rfl 2 (spAt 0 0) (spAt x y) rfl 36 size_spot Z.out (fun i _ => spAt_one _ _ i) ?_; replace Z := Go.Lib.hid (row_set Z.out (vrow 2 (spAt x y))); replace hB := Go.Lib.hid (Below_setRow hB.out (show w.heap.size ≤ w.heap.size + 1 by omega) (vrow 2 (spAt x y)))))
  refine ret_row Tryd.results115 (w.heap.size + 1) 2 (spAt x y) 36 _ Tryd.underlying36 rfl size_spot rfl rfl Z.out ?_
  exact ⟨rfl, hB.out⟩
def hfA (s : Sh) (ax : Int) (d : Bool) : Int := if d then s.wide else ax
def hfC (s : Sh) (ax : Int) (d : Bool) : Int := if d then ax else s.high
def halfR (s : Sh) (ax : Int) (d : Bool) : Sh := arrI s (fun x y => x) (fun x y => y) (plainSh (hfA s ax d).toNat (hfC s ax d).toNat) (pairsL (hfA s ax d).toNat (hfC s ax d).toNat)
theorem hf_bd {s : Sh} {ax : Int} {d : Bool} {p : Int} (hv : (okI s && foldOk s ax d p) = true) : (1 ≤ hfA s ax d ∧ hfA s ax d ≤ 8) ∧ (1 ≤ hfC s ax d ∧ hfC s ax d ≤ 8) := by
  obtain ⟨h1, h2⟩ : okI s = true ∧ foldOk s ax d p = true := by simpa using hv
  simp only [okI, Bool.and_eq_true, decide_eq_true_eq] at h1
  simp only [foldOk, Bool.and_eq_true, decide_eq_true_eq] at h2
  obtain ⟨⟨a1, a2⟩, ⟨a3, a4⟩, _⟩ := h1
  obtain ⟨⟨b1, b2⟩, _⟩ := h2
  unfold hfA hfC
  cases d
  · rw [if_neg (by simp)] at b2; simp; omega
  · rw [if_pos rfl] at b2; simp; omega
set_option maxHeartbeats 2000000 in
theorem half_bad (s : Sh) (ax : Int) (d : Bool) (p : Int) (w : World) (hv : (okI s && foldOk s ax d p) = false) (hf : s.fit := by assumption) : Calls Tryd.prog 69 #[.agg s.row, .agg (vrow 3 (foAt ax d p))] w fun e w' => e = .panicked [{ v := .iface 141 (.agg #[.int .i8 ax, .bool d, .int .i8 p]), recovered := false }] ∧ Below w.heap.size w w' := by
  have HM := Go.Lib.hid fun w => must_bad s ax d p w hv
  have zz := zero_sheet
  have hB : Hid (Below w.heap.size w (((w.alloc (.cells (vrow 266 s.at) 39)).alloc (.cells (vrow 3 (foAt ax d p)) 41)).alloc (.cells (vrow 266 Sh.zero.at) 39))) := Go.Lib.hid ((((Below.refl w.heap.size w).alloc (by simp <;> omega) _).alloc (by simp <;> omega) _).alloc (by simp <;> omega) _)
  have P : Hid ((((w.alloc (.cells (vrow 266 s.at) 39)).alloc (.cells (vrow 3 (foAt ax d p)) 41)).alloc (.cells (vrow 266 Sh.zero.at) 39)).heap[w.heap.size]? = some (.cells (vrow 266 s.at) 39)) := heap_past _ _ _ _ (by simp <;> omega) (heap_past _ _ _ _ (by simp <;> omega) (heap_at _ _ _ (by simp)))
  have F : Hid ((((w.alloc (.cells (vrow 266 s.at) 39)).alloc (.cells (vrow 3 (foAt ax d p)) 41)).alloc (.cells (vrow 266 Sh.zero.at) 39)).heap[w.heap.size + 1]? = some (.cells (vrow 3 (foAt ax d p)) 41)) := heap_past _ _ _ _ (by simp <;> omega) (heap_at _ _ _ (by simp))
  have Z : Hid ((((w.alloc (.cells (vrow 266 s.at) 39)).alloc (.cells (vrow 3 (foAt ax d p)) 41)).alloc (.cells (vrow 266 Sh.zero.at) 39)).heap[w.heap.size + 2]? = some (.cells (vrow 266 Sh.zero.at) 39)) := heap_at _ _ _ (by simp)
  go_enter Tryd.func69, Tryd.ntmps69
  go_wp2_with (first
    | go_skip
    | ((with_reducible refine wlAt 7 rfl ?_); refine wpList_loadall rfl 41 (.tmp 3) rfl (w.heap.size + 1) rfl 3 (foAt ax d p) 41 _ Tryd.underlying41 rfl size_fold F.out ?_)
    | ((with_reducible refine wlAt 8 rfl ?_); refine wpList_loadall rfl 39 (.tmp 2) rfl w.heap.size rfl 266 s.at 39 _ Tryd.underlying39 rfl size_sheet P.out ?_)
    | (go_at_call 61; (refine (HM.out _).mono ?_); rintro o w1 ⟨rfl, hb⟩; replace P := Go.Lib.hid (row_next hb P.out); replace F := Go.Lib.hid (row_next hb F.out); replace Z := Go.Lib.hid (row_next hb Z.out); replace hB := Go.Lib.hid (below_next hB.out hb); clear hb)
    | fail)
  exact ⟨rfl, rfl, hB.out⟩
set_option maxHeartbeats 4000000 in
theorem half_true (s : Sh) (ax p : Int) (w : World) (hv : (okI s && foldOk s ax true p) = true) (a c : Nat) (hA : hfA s ax true = a) (hC : hfC s ax true = c) (ha : 1 ≤ a ∧ a ≤ 8) (hc : 1 ≤ c ∧ c ≤ 8) (hf : s.fit := by assumption) : Calls Tryd.prog 69 #[.agg s.row, .agg (vrow 3 (foAt ax true p))] w fun e w' => e = .returned (.agg (arrI s (fun x y => x) (fun x y => y) (plainSh a c) (pairsL a c)).row) ∧ Below w.heap.size w w' := by
  have HM := Go.Lib.hid fun w => must_ok s ax true p w hv
  have HH := Go.Lib.hid fun W hs => arrHalf s w.heap.size a c (fun x y => x) (fun x y => y) ha.2 hc.2 (fun x y hx hy => ⟨by show x < 8; omega, by show y < 8; omega⟩) W hs (fun x y W hx hy hW => half1_any x y W)
  have HA : Hid (s.wide = a) := Go.Lib.hid hA
  have HC : Hid (ax = c) := Go.Lib.hid hC
  clear hA hC
  have zz := zero_sheet
  have hB : Hid (Below w.heap.size w (((w.alloc (.cells (vrow 266 s.at) 39)).alloc (.cells (vrow 3 (foAt ax true p)) 41)).alloc (.cells (vrow 266 Sh.zero.at) 39))) := Go.Lib.hid ((((Below.refl w.heap.size w).alloc (by simp <;> omega) _).alloc (by simp <;> omega) _).alloc (by simp <;> omega) _)
  have P : Hid ((((w.alloc (.cells (vrow 266 s.at) 39)).alloc (.cells (vrow 3 (foAt ax true p)) 41)).alloc (.cells (vrow 266 Sh.zero.at) 39)).heap[w.heap.size]? = some (.cells (vrow 266 s.at) 39)) := heap_past _ _ _ _ (by simp <;> omega) (heap_past _ _ _ _ (by simp <;> omega) (heap_at _ _ _ (by simp)))
  have F : Hid ((((w.alloc (.cells (vrow 266 s.at) 39)).alloc (.cells (vrow 3 (foAt ax true p)) 41)).alloc (.cells (vrow 266 Sh.zero.at) 39)).heap[w.heap.size + 1]? = some (.cells (vrow 3 (foAt ax true p)) 41)) := heap_past _ _ _ _ (by simp <;> omega) (heap_at _ _ _ (by simp))
  have Z : Hid ((((w.alloc (.cells (vrow 266 s.at) 39)).alloc (.cells (vrow 3 (foAt ax true p)) 41)).alloc (.cells (vrow 266 Sh.zero.at) 39)).heap[w.heap.size + 2]? = some (.cells (vrow 266 Sh.zero.at) 39)) := heap_at _ _ _ (by simp)
  go_enter Tryd.func69, Tryd.ntmps69
  go_wp2_with (first
    | go_skip
    | ((with_reducible refine wlAt 7 rfl ?_); refine wpList_loadall rfl 41 (.tmp 3) rfl (w.heap.size + 1) rfl 3 (foAt ax true p) 41 _ Tryd.underlying41 rfl size_fold F.out ?_)
    | ((with_reducible refine wlAt 8 rfl ?_); refine wpList_loadall rfl 39 (.tmp 2) rfl w.heap.size rfl 266 s.at 39 _ Tryd.underlying39 rfl size_sheet P.out ?_)
    | (go_at_call 61; (refine (HM.out _).mono ?_); rintro o w1 ⟨rfl, hb⟩; replace P := Go.Lib.hid (row_next hb P.out); replace F := Go.Lib.hid (row_next hb F.out); replace Z := Go.Lib.hid (row_next hb Z.out); replace hB := Go.Lib.hid (below_next hB.out hb); clear hb)
    | fail)
  refine region_at (by kernel_rfl) (by kernel_rfl) ?_
  intro W hW
  rw [hW] at hB P F Z
  clear hW
  (try simp only [Act.put, List.setIfInBounds_toArray, List.set_cons_succ, List.set_cons_zero])
  have P' := Go.Lib.hid (cls_row' P.out); have F' := Go.Lib.hid (cls_row' F.out)
  (repeat (first
    | go_big_quiet_skip
    | (refine wpQuiet_load1 22 _ rfl (want_n rfl) (w.heap.size + 1) 0 rfl 3 (foAt ax true p) _ rw_i8 F'.out (by omega) ?_; rw [foAt_0]; simp only [Act.put, List.setIfInBounds_toArray, List.set_cons_succ, List.set_cons_zero])
    | (refine wpQuiet_load1 22 _ rfl (want_n rfl) w.heap.size 1 rfl 266 s.at _ rw_i8 P'.out (by omega) ?_; rw [Sh.at_1]; simp only [Act.put, List.setIfInBounds_toArray, List.set_cons_succ, List.set_cons_zero])
    | (refine wpQuiet_load1 22 _ rfl (want_n rfl) w.heap.size 0 rfl 266 s.at _ rw_i8 P'.out (by omega) ?_; rw [Sh.at_0]; simp only [Act.put, List.setIfInBounds_toArray, List.set_cons_succ, List.set_cons_zero])
    | go_big_quiet_step (fail)))
  refine wpQuiet_nil ?_
  intro Wn hb
  replace P := Go.Lib.hid (row_next hb P.out); replace F := Go.Lib.hid (row_next hb F.out); replace Z := Go.Lib.hid (row_next hb Z.out); replace hB := Go.Lib.hid (below_next hB.out hb); clear hb
  clear P' F'
  go_wp2_with (first
    | go_skip
    | ((with_reducible refine wlAt 15 rfl ?_); refine wpList_load1 rfl 4 (.tmp 14) rfl (w.heap.size + 1) 1 rfl 3 (foAt ax true p) _ _ Tryd.underlying4 rfl F.out (by omega) ?_; rw [foAt_1]))
  refine region_at (by kernel_rfl) (by kernel_rfl) ?_
  intro W hW
  rw [hW] at hB P F Z
  clear hW
  (try simp only [Act.put, List.setIfInBounds_toArray, List.set_cons_succ, List.set_cons_zero])
  have P' := Go.Lib.hid (cls_row' P.out); have F' := Go.Lib.hid (cls_row' F.out)
  (repeat (first
    | go_big_quiet_skip
    | (refine wpQuiet_load1 22 _ rfl (want_n rfl) (w.heap.size + 1) 0 rfl 3 (foAt ax true p) _ rw_i8 F'.out (by omega) ?_; rw [foAt_0]; simp only [Act.put, List.setIfInBounds_toArray, List.set_cons_succ, List.set_cons_zero])
    | (refine wpQuiet_load1 22 _ rfl (want_n rfl) w.heap.size 1 rfl 266 s.at _ rw_i8 P'.out (by omega) ?_; rw [Sh.at_1]; simp only [Act.put, List.setIfInBounds_toArray, List.set_cons_succ, List.set_cons_zero])
    | (refine wpQuiet_load1 22 _ rfl (want_n rfl) w.heap.size 0 rfl 266 s.at _ rw_i8 P'.out (by omega) ?_; rw [Sh.at_0]; simp only [Act.put, List.setIfInBounds_toArray, List.set_cons_succ, List.set_cons_zero])
    | go_big_quiet_step (fail)))
  refine wpQuiet_nil ?_
  intro Wn hb
  replace P := Go.Lib.hid (row_next hb P.out); replace F := Go.Lib.hid (row_next hb F.out); replace Z := Go.Lib.hid (row_next hb Z.out); replace hB := Go.Lib.hid (below_next hB.out hb); clear hb
  clear P' F'
  go_wp2_with (first
    | go_skip
    | ((with_reducible refine wlAt 20 rfl ?_); refine wpList_loadall rfl 39 (.tmp 2) rfl w.heap.size rfl 266 s.at 39 _ Tryd.underlying39 rfl size_sheet P.out ?_)
    | (go_at_call 100; (try rw [HA.out]); (try rw [HC.out]); (refine (HH.out _ P.out).mono ?_); rintro o w5 ⟨rfl, hb⟩; replace P := Go.Lib.hid (row_next hb P.out); replace F := Go.Lib.hid (row_next hb F.out); replace Z := Go.Lib.hid (row_next hb Z.out); replace hB := Go.Lib.hid (below_next hB.out hb); clear hb)
    | ((with_reducible refine wlOp (.store 39 (.tmp 4) (.tmp 23)) rfl ?_); refine wpList_storeall rfl 39 (.tmp 4) (.tmp 23) rfl (w.heap.size + 2) rfl 266 Sh.zero.at (arrI s (fun x y => x) (fun x y => y) (plainSh a c) (pairsL a c)).at rfl 39 size_sheet Z.out (fun i _ => Sh.one _ i) ?_; replace Z := Go.Lib.hid (row_set Z.out (vrow 266 (arrI s (fun x y => x) (fun x y => y) (plainSh a c) (pairsL a c)).at)); replace hB := Go.Lib.hid (Below_setRow hB.out (show w.heap.size ≤ w.heap.size + 2 by omega) (vrow 266 (arrI s (fun x y => x) (fun x y => y) (plainSh a c) (pairsL a c)).at))))
  exact ret_row Tryd.results69 (w.heap.size + 2) 266 (arrI s (fun x y => x) (fun x y => y) (plainSh a c) (pairsL a c)).at 39 _ Tryd.underlying39 rfl size_sheet rfl rfl Z.out ⟨rfl, hB.out⟩
set_option maxHeartbeats 4000000 in
theorem half_false (s : Sh) (ax p : Int) (w : World) (hv : (okI s && foldOk s ax false p) = true) (a c : Nat) (hA : hfA s ax false = a) (hC : hfC s ax false = c) (ha : 1 ≤ a ∧ a ≤ 8) (hc : 1 ≤ c ∧ c ≤ 8) (hf : s.fit := by assumption) : Calls Tryd.prog 69 #[.agg s.row, .agg (vrow 3 (foAt ax false p))] w fun e w' => e = .returned (.agg (arrI s (fun x y => x) (fun x y => y) (plainSh a c) (pairsL a c)).row) ∧ Below w.heap.size w w' := by
  have HM := Go.Lib.hid fun w => must_ok s ax false p w hv
  have HH := Go.Lib.hid fun W hs => arrHalf s w.heap.size a c (fun x y => x) (fun x y => y) ha.2 hc.2 (fun x y hx hy => ⟨by show x < 8; omega, by show y < 8; omega⟩) W hs (fun x y W hx hy hW => half1_any x y W)
  have HA : Hid (ax = a) := Go.Lib.hid hA
  have HC : Hid (s.high = c) := Go.Lib.hid hC
  clear hA hC
  have zz := zero_sheet
  have hB : Hid (Below w.heap.size w (((w.alloc (.cells (vrow 266 s.at) 39)).alloc (.cells (vrow 3 (foAt ax false p)) 41)).alloc (.cells (vrow 266 Sh.zero.at) 39))) := Go.Lib.hid ((((Below.refl w.heap.size w).alloc (by simp <;> omega) _).alloc (by simp <;> omega) _).alloc (by simp <;> omega) _)
  have P : Hid ((((w.alloc (.cells (vrow 266 s.at) 39)).alloc (.cells (vrow 3 (foAt ax false p)) 41)).alloc (.cells (vrow 266 Sh.zero.at) 39)).heap[w.heap.size]? = some (.cells (vrow 266 s.at) 39)) := heap_past _ _ _ _ (by simp <;> omega) (heap_past _ _ _ _ (by simp <;> omega) (heap_at _ _ _ (by simp)))
  have F : Hid ((((w.alloc (.cells (vrow 266 s.at) 39)).alloc (.cells (vrow 3 (foAt ax false p)) 41)).alloc (.cells (vrow 266 Sh.zero.at) 39)).heap[w.heap.size + 1]? = some (.cells (vrow 3 (foAt ax false p)) 41)) := heap_past _ _ _ _ (by simp <;> omega) (heap_at _ _ _ (by simp))
  have Z : Hid ((((w.alloc (.cells (vrow 266 s.at) 39)).alloc (.cells (vrow 3 (foAt ax false p)) 41)).alloc (.cells (vrow 266 Sh.zero.at) 39)).heap[w.heap.size + 2]? = some (.cells (vrow 266 Sh.zero.at) 39)) := heap_at _ _ _ (by simp)
  go_enter Tryd.func69, Tryd.ntmps69
  go_wp2_with (first
    | go_skip
    | ((with_reducible refine wlAt 7 rfl ?_); refine wpList_loadall rfl 41 (.tmp 3) rfl (w.heap.size + 1) rfl 3 (foAt ax false p) 41 _ Tryd.underlying41 rfl size_fold F.out ?_)
    | ((with_reducible refine wlAt 8 rfl ?_); refine wpList_loadall rfl 39 (.tmp 2) rfl w.heap.size rfl 266 s.at 39 _ Tryd.underlying39 rfl size_sheet P.out ?_)
    | (go_at_call 61; (refine (HM.out _).mono ?_); rintro o w1 ⟨rfl, hb⟩; replace P := Go.Lib.hid (row_next hb P.out); replace F := Go.Lib.hid (row_next hb F.out); replace Z := Go.Lib.hid (row_next hb Z.out); replace hB := Go.Lib.hid (below_next hB.out hb); clear hb)
    | fail)
  refine region_at (by kernel_rfl) (by kernel_rfl) ?_
  intro W hW
  rw [hW] at hB P F Z
  clear hW
  (try simp only [Act.put, List.setIfInBounds_toArray, List.set_cons_succ, List.set_cons_zero])
  have P' := Go.Lib.hid (cls_row' P.out); have F' := Go.Lib.hid (cls_row' F.out)
  (repeat (first
    | go_big_quiet_skip
    | (refine wpQuiet_load1 22 _ rfl (want_n rfl) (w.heap.size + 1) 0 rfl 3 (foAt ax false p) _ rw_i8 F'.out (by omega) ?_; rw [foAt_0]; simp only [Act.put, List.setIfInBounds_toArray, List.set_cons_succ, List.set_cons_zero])
    | (refine wpQuiet_load1 22 _ rfl (want_n rfl) w.heap.size 1 rfl 266 s.at _ rw_i8 P'.out (by omega) ?_; rw [Sh.at_1]; simp only [Act.put, List.setIfInBounds_toArray, List.set_cons_succ, List.set_cons_zero])
    | (refine wpQuiet_load1 22 _ rfl (want_n rfl) w.heap.size 0 rfl 266 s.at _ rw_i8 P'.out (by omega) ?_; rw [Sh.at_0]; simp only [Act.put, List.setIfInBounds_toArray, List.set_cons_succ, List.set_cons_zero])
    | go_big_quiet_step (fail)))
  refine wpQuiet_nil ?_
  intro Wn hb
  replace P := Go.Lib.hid (row_next hb P.out); replace F := Go.Lib.hid (row_next hb F.out); replace Z := Go.Lib.hid (row_next hb Z.out); replace hB := Go.Lib.hid (below_next hB.out hb); clear hb
  clear P' F'
  go_wp2_with (first
    | go_skip
    | ((with_reducible refine wlAt 15 rfl ?_); refine wpList_load1 rfl 4 (.tmp 14) rfl (w.heap.size + 1) 1 rfl 3 (foAt ax false p) _ _ Tryd.underlying4 rfl F.out (by omega) ?_; rw [foAt_1])
    | ((with_reducible refine wlAt 20 rfl ?_); refine wpList_loadall rfl 39 (.tmp 2) rfl w.heap.size rfl 266 s.at 39 _ Tryd.underlying39 rfl size_sheet P.out ?_)
    | (go_at_call 100; (try rw [HA.out]); (try rw [HC.out]); (refine (HH.out _ P.out).mono ?_); rintro o w5 ⟨rfl, hb⟩; replace P := Go.Lib.hid (row_next hb P.out); replace F := Go.Lib.hid (row_next hb F.out); replace Z := Go.Lib.hid (row_next hb Z.out); replace hB := Go.Lib.hid (below_next hB.out hb); clear hb)
    | ((with_reducible refine wlOp (.store 39 (.tmp 4) (.tmp 23)) rfl ?_); refine wpList_storeall rfl 39 (.tmp 4) (.tmp 23) rfl (w.heap.size + 2) rfl 266 Sh.zero.at (arrI s (fun x y => x) (fun x y => y) (plainSh a c) (pairsL a c)).at rfl 39 size_sheet Z.out (fun i _ => Sh.one _ i) ?_; replace Z := Go.Lib.hid (row_set Z.out (vrow 266 (arrI s (fun x y => x) (fun x y => y) (plainSh a c) (pairsL a c)).at)); replace hB := Go.Lib.hid (Below_setRow hB.out (show w.heap.size ≤ w.heap.size + 2 by omega) (vrow 266 (arrI s (fun x y => x) (fun x y => y) (plainSh a c) (pairsL a c)).at))))
  exact ret_row Tryd.results69 (w.heap.size + 2) 266 (arrI s (fun x y => x) (fun x y => y) (plainSh a c) (pairsL a c)).at 39 _ Tryd.underlying39 rfl size_sheet rfl rfl Z.out ⟨rfl, hB.out⟩
end Go.Proofs.YthbhckalkkameaaDoor
