import Derived.Deep.RegionHeld3
import Derived.Test.YtmcpaangofdmpaaDoorPartC
import Derived.Test.YtmcpaangofdmpaaDoorOkEq
namespace Go.Proofs.YtmcpaangofdmpaaDoor
open Go.RowKit
set_option maxRecDepth 100000
set_option linter.unusedVariables false
set_option linter.unusedSimpArgs false
def askC (A F fine : Bool) : Int := if A then (if F && fine then 0 else 2) else 1
set_option maxHeartbeats 2000000 in
theorem asked_any (s : Sh) (b : Nat) (ax : Int) (d : Bool) (p : Int) (fine : Bool) (w : World) (hs : w.heap[b]? = some (.cells s.row 34)) (hf : s.fit) (hax : -128 ≤ ax ∧ ax ≤ 127) (hap : -128 ≤ p ∧ p ≤ 127) : Calls Tryd.prog 42 #[.pointer (some ⟨b, 0, none⟩), .agg #[.int .i8 ax, .bool d, .int .i8 p], .bool fine] w fun e w' => e = .returned (.int .i64 (askC (okB s) (foldOk s ax d p) fine)) ∧ Below w.heap.size w w' := by
  have HA := Go.Lib.hid fun w h => ok_any s b w h hf
  have HF := Go.Lib.hid fun w h => foldL_any s b ax d p w h hf hax hap
  rw [fo_vrow] at HF ⊢
  generalize okB s = A at HA ⊢
  generalize foldOk s ax d p = FK at HF ⊢
  have hB : Hid (Below w.heap.size w (w.alloc (.cells (vrow 3 (foAt ax d p)) 38))) := Go.Lib.hid ((Below.refl w.heap.size w).alloc (Nat.le_refl _) _)
  have P := Go.Lib.hid (heap_past w (.cells (vrow 3 (foAt ax d p)) 38) _ _ (row_lt hs) hs)
  have R := Go.Lib.hid (heap_at w (.cells (vrow 3 (foAt ax d p)) 38) _ rfl)
  cases A <;> cases FK <;> cases fine <;>
  · go_enter Tryd.func42, Tryd.ntmps42
    go_wp2_with (first
      | go_skip
      | ((with_reducible refine wlAt 11 rfl ?_); refine wpList_loadall rfl 38 (.tmp 4) rfl w.heap.size rfl 3 (foAt ax d p) 38 _ Tryd.underlying38 rfl size_fold R.out ?_)
      | (go_at_call 50; (refine (HA.out _ P.out).mono ?_); rintro o w1 ⟨rfl, hb⟩; replace R := Go.Lib.hid (row_next hb R.out); replace P := Go.Lib.hid (row_next hb P.out); replace hB := Go.Lib.hid (below_next hB.out hb); clear hb)
      | (go_at_call 51; (refine (HF.out _ P.out).mono ?_); rintro o w1 ⟨rfl, hb⟩; replace R := Go.Lib.hid (row_next hb R.out); replace P := Go.Lib.hid (row_next hb P.out); replace hB := Go.Lib.hid (below_next hB.out hb); clear hb))
    go_ret
    exact ⟨rfl, hB.out⟩
set_option maxHeartbeats 2000000 in
theorem lpart_true (ax p x y : Int) (w : World) (hax : 1 ≤ ax ∧ ax ≤ 8) (hx : 0 ≤ x ∧ x ≤ 8) (hy : 0 ≤ y ∧ y ≤ 8) : Calls Tryd.prog 73 #[.agg (vrow 3 (foAt ax true p)), .agg (vrow 2 (spAt x y))] w fun e w' => e = .returned (.agg (vrow 2 (spAt x (2 * ax - 1 - y)))) ∧ Below w.heap.size w w' := by
  have zz := zero_spot
  have hq1 : IntKind.i8.wrap (2 * ax) = 2 * ax := IntWalk.i8_in _ (by omega)
  have hq2 : IntKind.i8.wrap (2 * ax - 1) = 2 * ax - 1 := IntWalk.i8_in _ (by omega)
  have hq3 : IntKind.i8.wrap (2 * ax - 1 - y) = 2 * ax - 1 - y := IntWalk.i8_in _ (by omega)
  have hB : Hid (Below w.heap.size w (((w.alloc (.cells (vrow 3 (foAt ax true p)) 38)).alloc (.cells (vrow 2 (spAt x y)) 111)).alloc (.cells (vrow 2 (spAt 0 0)) 111))) := Go.Lib.hid ((((Below.refl w.heap.size w).alloc (by simp <;> omega) _).alloc (by simp <;> omega) _).alloc (by simp <;> omega) _)
  have F : Hid ((((w.alloc (.cells (vrow 3 (foAt ax true p)) 38)).alloc (.cells (vrow 2 (spAt x y)) 111)).alloc (.cells (vrow 2 (spAt 0 0)) 111)).heap[w.heap.size]? = some (.cells (vrow 3 (foAt ax true p)) 38)) := heap_past _ _ _ _ (by simp <;> omega) (heap_past _ _ _ _ (by simp <;> omega) (heap_at _ _ _ (by simp)))
  have R : Hid ((((w.alloc (.cells (vrow 3 (foAt ax true p)) 38)).alloc (.cells (vrow 2 (spAt x y)) 111)).alloc (.cells (vrow 2 (spAt 0 0)) 111)).heap[w.heap.size + 1]? = some (.cells (vrow 2 (spAt x y)) 111)) := heap_past _ _ _ _ (by simp <;> omega) (heap_at _ _ _ (by simp))
  have Z : Hid ((((w.alloc (.cells (vrow 3 (foAt ax true p)) 38)).alloc (.cells (vrow 2 (spAt x y)) 111)).alloc (.cells (vrow 2 (spAt 0 0)) 111)).heap[w.heap.size + 2]? = some (.cells (vrow 2 (spAt 0 0)) 111)) := heap_at _ _ _ (by simp)
  have hov : vrow 2 (over (spAt x y) 1 1 fun _ => .int .i8 (2 * ax - 1 - y)) = vrow 2 (spAt x (2 * ax - 1 - y)) := by rfl
  go_enter Tryd.func73, Tryd.ntmps73
  go_wp2_with (first
    | go_skip
    | ((with_reducible refine wlAt 6 rfl ?_); refine wpList_load1 rfl 4 (.tmp 5) rfl w.heap.size 1 rfl 3 (foAt ax true p) _ _ Tryd.underlying4 rfl F.out (by omega) ?_; rw [foAt_1])
    | ((with_reducible refine wlAt 8 rfl ?_); refine wpList_load1 rfl 22 (.tmp 7) rfl w.heap.size 0 rfl 3 (foAt ax true p) _ _ Tryd.underlying22 rfl F.out (by omega) ?_; rw [foAt_0])
    | ((with_reducible refine wlAt 12 rfl ?_); refine wpList_load1 rfl 22 (.tmp 11) rfl (w.heap.size + 1) 1 rfl 2 (spAt x y) _ _ Tryd.underlying22 rfl R.out (by omega) ?_; (first | rw [spAt_0] | rw [spAt_1]))
    | ((with_reducible refine wlOp (.store 22 (.tmp 14) (.tmp 13)) rfl ?_); refine wpList_store1 rfl 22 (.tmp 14) (.tmp 13) rfl (w.heap.size + 1) 1 rfl 2 (spAt x y) (.int .i8 (2 * ax - 1 - y)) rfl 111 size_i8T R.out (by omega) rfl ?_; rw [hov]; replace Z := Go.Lib.hid (row_set' (g := w.heap.size + 1) (by omega) Z.out (vrow 2 (spAt x (2 * ax - 1 - y)))); replace R := Go.Lib.hid (row_set R.out (vrow 2 (spAt x (2 * ax - 1 - y)))); replace hB := Go.Lib.hid (Below_setRow hB.out (show w.heap.size ≤ w.heap.size + 1 by omega) (vrow 2 (spAt x (2 * ax - 1 - y)))))
    | ((with_reducible refine wlAt 15 rfl ?_); refine wpList_loadall rfl 111 (.tmp 3) rfl (w.heap.size + 1) rfl 2 (spAt x (2 * ax - 1 - y)) 111 _ Tryd.underlying111 rfl size_spot R.out ?_)
    | ((with_reducible refine wlOp (.store 111 (.tmp 4) (.tmp 15)) rfl ?_); refine wpList_storeall rfl 111 (.tmp 4) (.tmp 15) rfl (w.heap.size + 2) rfl 2 (spAt 0 0) (spAt x (2 * ax - 1 - y)) rfl 111 size_spot Z.out (fun i _ => spAt_one _ _ i) ?_; replace Z := Go.Lib.hid (row_set Z.out (vrow 2 (spAt x (2 * ax - 1 - y)))); replace hB := Go.Lib.hid (Below_setRow hB.out (show w.heap.size ≤ w.heap.size + 2 by omega) (vrow 2 (spAt x (2 * ax - 1 - y))))))
  refine ret_row Tryd.results73 (w.heap.size + 2) 2 (spAt x (2 * ax - 1 - y)) 111 _ Tryd.underlying111 rfl size_spot rfl rfl Z.out ?_
  exact ⟨rfl, hB.out⟩
set_option maxHeartbeats 2000000 in
theorem lpart_false (ax p x y : Int) (w : World) (hax : 1 ≤ ax ∧ ax ≤ 8) (hx : 0 ≤ x ∧ x ≤ 8) (hy : 0 ≤ y ∧ y ≤ 8) : Calls Tryd.prog 73 #[.agg (vrow 3 (foAt ax false p)), .agg (vrow 2 (spAt x y))] w fun e w' => e = .returned (.agg (vrow 2 (spAt (2 * ax - 1 - x) y))) ∧ Below w.heap.size w w' := by
  have zz := zero_spot
  have hq1 : IntKind.i8.wrap (2 * ax) = 2 * ax := IntWalk.i8_in _ (by omega)
  have hq2 : IntKind.i8.wrap (2 * ax - 1) = 2 * ax - 1 := IntWalk.i8_in _ (by omega)
  have hq3 : IntKind.i8.wrap (2 * ax - 1 - x) = 2 * ax - 1 - x := IntWalk.i8_in _ (by omega)
  have hB : Hid (Below w.heap.size w (((w.alloc (.cells (vrow 3 (foAt ax false p)) 38)).alloc (.cells (vrow 2 (spAt x y)) 111)).alloc (.cells (vrow 2 (spAt 0 0)) 111))) := Go.Lib.hid ((((Below.refl w.heap.size w).alloc (by simp <;> omega) _).alloc (by simp <;> omega) _).alloc (by simp <;> omega) _)
  have F : Hid ((((w.alloc (.cells (vrow 3 (foAt ax false p)) 38)).alloc (.cells (vrow 2 (spAt x y)) 111)).alloc (.cells (vrow 2 (spAt 0 0)) 111)).heap[w.heap.size]? = some (.cells (vrow 3 (foAt ax false p)) 38)) := heap_past _ _ _ _ (by simp <;> omega) (heap_past _ _ _ _ (by simp <;> omega) (heap_at _ _ _ (by simp)))
  have R : Hid ((((w.alloc (.cells (vrow 3 (foAt ax false p)) 38)).alloc (.cells (vrow 2 (spAt x y)) 111)).alloc (.cells (vrow 2 (spAt 0 0)) 111)).heap[w.heap.size + 1]? = some (.cells (vrow 2 (spAt x y)) 111)) := heap_past _ _ _ _ (by simp <;> omega) (heap_at _ _ _ (by simp))
  have Z : Hid ((((w.alloc (.cells (vrow 3 (foAt ax false p)) 38)).alloc (.cells (vrow 2 (spAt x y)) 111)).alloc (.cells (vrow 2 (spAt 0 0)) 111)).heap[w.heap.size + 2]? = some (.cells (vrow 2 (spAt 0 0)) 111)) := heap_at _ _ _ (by simp)
  have hov : vrow 2 (over (spAt x y) 0 1 fun _ => .int .i8 (2 * ax - 1 - x)) = vrow 2 (spAt (2 * ax - 1 - x) y) := by rfl
  go_enter Tryd.func73, Tryd.ntmps73
  go_wp2_with (first
    | go_skip
    | ((with_reducible refine wlAt 6 rfl ?_); refine wpList_load1 rfl 4 (.tmp 5) rfl w.heap.size 1 rfl 3 (foAt ax false p) _ _ Tryd.underlying4 rfl F.out (by omega) ?_; rw [foAt_1])
    | ((with_reducible refine wlAt 17 rfl ?_); refine wpList_load1 rfl 22 (.tmp 16) rfl w.heap.size 0 rfl 3 (foAt ax false p) _ _ Tryd.underlying22 rfl F.out (by omega) ?_; rw [foAt_0])
    | ((with_reducible refine wlAt 21 rfl ?_); refine wpList_load1 rfl 22 (.tmp 20) rfl (w.heap.size + 1) 0 rfl 2 (spAt x y) _ _ Tryd.underlying22 rfl R.out (by omega) ?_; (first | rw [spAt_0] | rw [spAt_1]))
    | ((with_reducible refine wlOp (.store 22 (.tmp 23) (.tmp 22)) rfl ?_); refine wpList_store1 rfl 22 (.tmp 23) (.tmp 22) rfl (w.heap.size + 1) 0 rfl 2 (spAt x y) (.int .i8 (2 * ax - 1 - x)) rfl 111 size_i8T R.out (by omega) rfl ?_; rw [hov]; replace Z := Go.Lib.hid (row_set' (g := w.heap.size + 1) (by omega) Z.out (vrow 2 (spAt (2 * ax - 1 - x) y))); replace R := Go.Lib.hid (row_set R.out (vrow 2 (spAt (2 * ax - 1 - x) y))); replace hB := Go.Lib.hid (Below_setRow hB.out (show w.heap.size ≤ w.heap.size + 1 by omega) (vrow 2 (spAt (2 * ax - 1 - x) y))))
    | ((with_reducible refine wlAt 24 rfl ?_); refine wpList_loadall rfl 111 (.tmp 3) rfl (w.heap.size + 1) rfl 2 (spAt (2 * ax - 1 - x) y) 111 _ Tryd.underlying111 rfl size_spot R.out ?_)
    | ((with_reducible refine wlOp (.store 111 (.tmp 4) (.tmp 24)) rfl ?_); refine wpList_storeall rfl 111 (.tmp 4) (.tmp 24) rfl (w.heap.size + 2) rfl 2 (spAt 0 0) (spAt (2 * ax - 1 - x) y) rfl 111 size_spot Z.out (fun i _ => spAt_one _ _ i) ?_; replace Z := Go.Lib.hid (row_set Z.out (vrow 2 (spAt (2 * ax - 1 - x) y))); replace hB := Go.Lib.hid (Below_setRow hB.out (show w.heap.size ≤ w.heap.size + 2 by omega) (vrow 2 (spAt (2 * ax - 1 - x) y)))))
  refine ret_row Tryd.results73 (w.heap.size + 2) 2 (spAt (2 * ax - 1 - x) y) 111 _ Tryd.underlying111 rfl size_spot rfl rfl Z.out ?_
  exact ⟨rfl, hB.out⟩
theorem lpart3_any (ax : Int) (d : Bool) (p x y : Int) (w : World) (hax : 1 ≤ ax ∧ ax ≤ 8) (hx : 0 ≤ x ∧ x ≤ 8) (hy : 0 ≤ y ∧ y ≤ 8) : Calls Tryd.prog 73 #[.agg (vrow 3 (foAt ax d p)), .agg (vrow 2 (spAt x y))] w fun e w' => e = .returned (.agg (vrow 2 (spAt (prX ax d x) (prY ax d y)))) ∧ Below w.heap.size w w' := by
  cases d
  · exact lpart_false ax p x y w hax hx hy
  · exact lpart_true ax p x y w hax hx hy
def partC (s : Sh) (ax : Int) (d : Bool) (p x y : Int) : Int := askC (okI s) (foldOk s ax d p) (hasB s x y)
theorem partC_0 {s : Sh} {ax : Int} {d : Bool} {p x y : Int} (h : partC s ax d p x y = 0) : okI s = true ∧ foldOk s ax d p = true ∧ hasB s x y = true := by
  unfold partC askC at h
  cases h1 : okI s <;> cases h2 : foldOk s ax d p <;> cases h3 : hasB s x y <;> simp_all
theorem partB {s : Sh} {ax : Int} {d : Bool} {p x y : Int} (h : partC s ax d p x y = 0) : (1 ≤ ax ∧ ax ≤ 8) ∧ (0 ≤ x ∧ x ≤ 8) ∧ (0 ≤ y ∧ y ≤ 8) := by
  obtain ⟨h1, h2, h3⟩ := partC_0 h
  simp only [okI, Bool.and_eq_true, decide_eq_true_eq] at h1
  simp only [foldOk, Bool.and_eq_true, decide_eq_true_eq] at h2
  simp only [hasB, Bool.and_eq_true, decide_eq_true_eq] at h3
  obtain ⟨⟨a1, a2⟩, ⟨a3, a4⟩, _⟩ := h1
  obtain ⟨⟨b1, b2⟩, _⟩ := h2
  obtain ⟨c1, c2, c3, c4⟩ := h3
  refine ⟨⟨b1, ?_⟩, ⟨c1, by omega⟩, c3, by omega⟩
  cases d
  · rw [if_neg (by simp)] at b2; omega
  · rw [if_pos rfl] at b2; omega
theorem pr_bd {ax : Int} {d : Bool} {x y : Int} (h1 : 1 ≤ ax ∧ ax ≤ 8) (h2 : 0 ≤ x ∧ x ≤ 8) (h3 : 0 ≤ y ∧ y ≤ 8) : (-128 ≤ prX ax d x ∧ prX ax d x ≤ 127) ∧ (-128 ≤ prY ax d y ∧ prY ax d y ≤ 127) := by
  unfold prX prY
  cases d <;> simp <;> omega
end Go.Proofs.YtmcpaangofdmpaaDoor
