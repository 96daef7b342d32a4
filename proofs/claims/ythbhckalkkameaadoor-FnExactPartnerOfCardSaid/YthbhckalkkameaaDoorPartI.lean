import Derived.Deep.RegionHeld3
import Derived.Test.YthbhckalkkameaaDoorPartS
namespace Go.Proofs.YthbhckalkkameaaDoor
open Go.RowKit
set_option maxRecDepth 100000
set_option linter.unusedVariables false
set_option linter.unusedSimpArgs false
set_option maxHeartbeats 4000000 in
theorem implP_e1true (s : Sh) (ax : Int) (d : Bool) (p x y q1 q2 : Int) (ev : Value) (e : ErrE) (w : World) (hE : Errs e w) (hh : hasB s 0 0 = true)
    (HC0 : ∀ W, Errs e W → Calls Tryd.prog 59 #[.agg s.row, .agg #[.int .i8 x, .int .i8 y]] W fun o w' => o = .returned ev ∧ Below W.heap.size W w')
    (HU0 : ∀ W, Errs e W → W.heap[w.heap.size]? = some (.cells (vrow 266 s.at) 39) → W.heap[w.heap.size + 1]? = some (.cells (vrow 3 (foAt ax d p)) 41) → W.heap[w.heap.size + 2]? = some (.cells (vrow 2 (spAt x y)) 36) → Calls Tryd.prog 58 #[ev, .func (.func 60) #[] #[.pointer (some ⟨w.heap.size + 1, 0, none⟩), .pointer (some ⟨w.heap.size, 0, none⟩), .pointer (some ⟨w.heap.size + 2, 0, none⟩)]] W fun o w' => o = .returned (.tuple #[.agg (vrow 2 (spAt 0 0)), .int .i64 1]) ∧ Below W.heap.size W w') :
    Calls Tryd.prog 19 #[.agg s.row, .agg #[.int .i8 ax, .bool d, .int .i8 p], .agg #[.int .i8 x, .int .i8 y]] w fun o w' => o = .returned (.tuple #[.agg (vrow 2 (spAt 0 0)), .int .i64 1]) ∧ Below w.heap.size w w' := by
  have HC := Go.Lib.hid HC0
  have HU := Go.Lib.hid HU0
  have HH := Go.Lib.hid fun W => has_any s 0 0 W
  rw [hh] at HH
  rw [sp_vrow] at HC HH
  rw [fo_vrow, sp_vrow]
  clear HC0 HU0 hh
  have hmf : ∀ (fn : Fn) (first cap : Array Value) (w : World), (Instr.makeFunc fn first cap).run Tryd.prog w = .ok (.func fn first cap) w := fun _ _ _ _ => rfl
  have zz := zero_spot
  have hB : Hid (Below w.heap.size w ((((w.alloc (.cells (vrow 266 s.at) 39)).alloc (.cells (vrow 3 (foAt ax d p)) 41)).alloc (.cells (vrow 2 (spAt x y)) 36)).alloc (.cells (vrow 2 (spAt 0 0)) 36))) := Go.Lib.hid (((((Below.refl w.heap.size w).alloc (by simp <;> omega) _).alloc (by simp <;> omega) _).alloc (by simp <;> omega) _).alloc (by simp <;> omega) _)
  have P : Hid (((((w.alloc (.cells (vrow 266 s.at) 39)).alloc (.cells (vrow 3 (foAt ax d p)) 41)).alloc (.cells (vrow 2 (spAt x y)) 36)).alloc (.cells (vrow 2 (spAt 0 0)) 36)).heap[w.heap.size]? = some (.cells (vrow 266 s.at) 39)) := heap_past _ _ _ _ (by simp <;> omega) (heap_past _ _ _ _ (by simp <;> omega) (heap_past _ _ _ _ (by simp <;> omega) (heap_at _ _ _ (by simp))))
  have F : Hid (((((w.alloc (.cells (vrow 266 s.at) 39)).alloc (.cells (vrow 3 (foAt ax d p)) 41)).alloc (.cells (vrow 2 (spAt x y)) 36)).alloc (.cells (vrow 2 (spAt 0 0)) 36)).heap[w.heap.size + 1]? = some (.cells (vrow 3 (foAt ax d p)) 41)) := heap_past _ _ _ _ (by simp <;> omega) (heap_past _ _ _ _ (by simp <;> omega) (heap_at _ _ _ (by simp)))
  have R : Hid (((((w.alloc (.cells (vrow 266 s.at) 39)).alloc (.cells (vrow 3 (foAt ax d p)) 41)).alloc (.cells (vrow 2 (spAt x y)) 36)).alloc (.cells (vrow 2 (spAt 0 0)) 36)).heap[w.heap.size + 2]? = some (.cells (vrow 2 (spAt x y)) 36)) := heap_past _ _ _ _ (by simp <;> omega) (heap_at _ _ _ (by simp))
  have Z : Hid (((((w.alloc (.cells (vrow 266 s.at) 39)).alloc (.cells (vrow 3 (foAt ax d p)) 41)).alloc (.cells (vrow 2 (spAt x y)) 36)).alloc (.cells (vrow 2 (spAt 0 0)) 36)).heap[w.heap.size + 3]? = some (.cells (vrow 2 (spAt 0 0)) 36)) := heap_at _ _ _ (by simp)
  go_enter Tryd.func19, Tryd.ntmps19
  go_wp2_with (first
    | go_skip
    | ((with_reducible refine wlAt 11 rfl ?_); refine wpList_loadall rfl 39 (.tmp 3) rfl w.heap.size rfl 266 s.at 39 _ Tryd.underlying39 rfl size_sheet P.out ?_)
    | ((with_reducible refine wlAt 12 rfl ?_); refine wpList_loadall rfl 36 (.tmp 5) rfl (w.heap.size + 2) rfl 2 (spAt x y) 36 _ Tryd.underlying36 rfl size_spot R.out ?_)
    | (go_at_call 59; (refine (HC.out _ (hE.next hB.out)).mono ?_); rintro o w1 ⟨rfl, hb⟩; replace P := Go.Lib.hid (row_next hb P.out); replace F := Go.Lib.hid (row_next hb F.out); replace R := Go.Lib.hid (row_next hb R.out); replace Z := Go.Lib.hid (row_next hb Z.out); (try (replace X := Go.Lib.hid (row_next hb X.out))); replace hB := Go.Lib.hid (below_next hB.out hb); clear hb)
    | (go_at_call 58; (refine (HU.out _ (hE.next hB.out) P.out F.out R.out).mono ?_); rintro o w2 ⟨rfl, hb⟩; replace P := Go.Lib.hid (row_next hb P.out); replace F := Go.Lib.hid (row_next hb F.out); replace R := Go.Lib.hid (row_next hb R.out); replace Z := Go.Lib.hid (row_next hb Z.out); (try (replace X := Go.Lib.hid (row_next hb X.out))); replace hB := Go.Lib.hid (below_next hB.out hb); clear hb)
    | ((with_reducible refine wlOp (.store 36 (.tmp 8) (.tmp 16)) rfl ?_); refine wpList_storeall rfl 36 (.tmp 8) (.tmp 16) rfl w2.heap.size rfl 2 (spAt 0 0) (spAt 0 0) rfl 36 size_spot (heap_at _ _ _ rfl) (fun i _ => spAt_one _ _ i) ?_; rw [setRow_at _ _ _ _ _ rfl]; have X := Go.Lib.hid (heap_at w2 (.cells (vrow 2 (spAt 0 0)) 36) _ rfl); have hb := (Below.refl _ w2).alloc (Nat.le_refl _) (.cells (vrow 2 (spAt 0 0)) 36); replace P := Go.Lib.hid (row_next hb P.out); replace F := Go.Lib.hid (row_next hb F.out); replace R := Go.Lib.hid (row_next hb R.out); have hzl := row_lt Z.out; replace Z := Go.Lib.hid (row_next hb Z.out); replace hB := Go.Lib.hid (below_next hB.out hb); clear hb; generalize w2.heap.size = nb at X hzl ⊢; generalize w2.alloc _ = w3 at P F R Z X hB ⊢)
    | ((with_reducible refine wlAt 18 rfl ?_); refine wpList_loadall rfl 39 (.tmp 3) rfl w.heap.size rfl 266 s.at 39 _ Tryd.underlying39 rfl size_sheet P.out ?_)
    | ((with_reducible refine wlAt 19 rfl ?_); refine wpList_loadall rfl 36 (.tmp 8) rfl nb rfl 2 (spAt 0 0) 36 _ Tryd.underlying36 rfl size_spot X.out ?_)
    | (go_at_call 63; (refine (HH.out _).mono ?_); rintro o w4 ⟨rfl, hb⟩; replace P := Go.Lib.hid (row_next hb P.out); replace F := Go.Lib.hid (row_next hb F.out); replace R := Go.Lib.hid (row_next hb R.out); replace Z := Go.Lib.hid (row_next hb Z.out); (try (replace X := Go.Lib.hid (row_next hb X.out))); replace hB := Go.Lib.hid (below_next hB.out hb); clear hb)
    | ((with_reducible refine wlAt 27 rfl ?_); refine wpList_loadall rfl 36 (.tmp 8) rfl nb rfl 2 (spAt 0 0) 36 _ Tryd.underlying36 rfl size_spot X.out ?_)
    | ((with_reducible refine wlOp (.store 36 (.tmp 6) (.tmp 27)) rfl ?_); refine wpList_storeall rfl 36 (.tmp 6) (.tmp 27) rfl (w.heap.size + 3) rfl 2 (spAt 0 0) (spAt 0 0) rfl 36 size_spot Z.out (fun i _ => spAt_one _ _ i) ?_; replace Z := Go.Lib.hid (row_set Z.out (vrow 2 (spAt 0 0))); replace hB := Go.Lib.hid (Below_setRow hB.out (show w.heap.size ≤ w.heap.size + 3 by omega) (vrow 2 (spAt 0 0)))))
  refine ret_row2 Tryd.results19 (w.heap.size + 3) 2 (spAt 0 0) 36 _ Tryd.underlying36 rfl size_spot (.int .i64 1) rfl rfl rfl Z.out ⟨rfl, hB.out⟩
set_option maxHeartbeats 4000000 in
theorem implP_e1false (s : Sh) (ax : Int) (d : Bool) (p x y q1 q2 : Int) (ev : Value) (e : ErrE) (w : World) (hE : Errs e w) (hh : hasB s 0 0 = false)
    (HC0 : ∀ W, Errs e W → Calls Tryd.prog 59 #[.agg s.row, .agg #[.int .i8 x, .int .i8 y]] W fun o w' => o = .returned ev ∧ Below W.heap.size W w')
    (HU0 : ∀ W, Errs e W → W.heap[w.heap.size]? = some (.cells (vrow 266 s.at) 39) → W.heap[w.heap.size + 1]? = some (.cells (vrow 3 (foAt ax d p)) 41) → W.heap[w.heap.size + 2]? = some (.cells (vrow 2 (spAt x y)) 36) → Calls Tryd.prog 58 #[ev, .func (.func 60) #[] #[.pointer (some ⟨w.heap.size + 1, 0, none⟩), .pointer (some ⟨w.heap.size, 0, none⟩), .pointer (some ⟨w.heap.size + 2, 0, none⟩)]] W fun o w' => o = .returned (.tuple #[.agg (vrow 2 (spAt 0 0)), .int .i64 1]) ∧ Below W.heap.size W w') :
    Calls Tryd.prog 19 #[.agg s.row, .agg #[.int .i8 ax, .bool d, .int .i8 p], .agg #[.int .i8 x, .int .i8 y]] w fun o w' => o = .returned (.tuple #[.agg (vrow 2 (spAt 0 0)), .int .i64 1]) ∧ Below w.heap.size w w' := by
  have HC := Go.Lib.hid HC0
  have HU := Go.Lib.hid HU0
  have HH := Go.Lib.hid fun W => has_any s 0 0 W
  rw [hh] at HH
  rw [sp_vrow] at HC HH
  rw [fo_vrow, sp_vrow]
  clear HC0 HU0 hh
  have hmf : ∀ (fn : Fn) (first cap : Array Value) (w : World), (Instr.makeFunc fn first cap).run Tryd.prog w = .ok (.func fn first cap) w := fun _ _ _ _ => rfl
  have zz := zero_spot
  have hB : Hid (Below w.heap.size w ((((w.alloc (.cells (vrow 266 s.at) 39)).alloc (.cells (vrow 3 (foAt ax d p)) 41)).alloc (.cells (vrow 2 (spAt x y)) 36)).alloc (.cells (vrow 2 (spAt 0 0)) 36))) := Go.Lib.hid (((((Below.refl w.heap.size w).alloc (by simp <;> omega) _).alloc (by simp <;> omega) _).alloc (by simp <;> omega) _).alloc (by simp <;> omega) _)
  have P : Hid (((((w.alloc (.cells (vrow 266 s.at) 39)).alloc (.cells (vrow 3 (foAt ax d p)) 41)).alloc (.cells (vrow 2 (spAt x y)) 36)).alloc (.cells (vrow 2 (spAt 0 0)) 36)).heap[w.heap.size]? = some (.cells (vrow 266 s.at) 39)) := heap_past _ _ _ _ (by simp <;> omega) (heap_past _ _ _ _ (by simp <;> omega) (heap_past _ _ _ _ (by simp <;> omega) (heap_at _ _ _ (by simp))))
  have F : Hid (((((w.alloc (.cells (vrow 266 s.at) 39)).alloc (.cells (vrow 3 (foAt ax d p)) 41)).alloc (.cells (vrow 2 (spAt x y)) 36)).alloc (.cells (vrow 2 (spAt 0 0)) 36)).heap[w.heap.size + 1]? = some (.cells (vrow 3 (foAt ax d p)) 41)) := heap_past _ _ _ _ (by simp <;> omega) (heap_past _ _ _ _ (by simp <;> omega) (heap_at _ _ _ (by simp)))
  have R : Hid (((((w.alloc (.cells (vrow 266 s.at) 39)).alloc (.cells (vrow 3 (foAt ax d p)) 41)).alloc (.cells (vrow 2 (spAt x y)) 36)).alloc (.cells (vrow 2 (spAt 0 0)) 36)).heap[w.heap.size + 2]? = some (.cells (vrow 2 (spAt x y)) 36)) := heap_past _ _ _ _ (by simp <;> omega) (heap_at _ _ _ (by simp))
  have Z : Hid (((((w.alloc (.cells (vrow 266 s.at) 39)).alloc (.cells (vrow 3 (foAt ax d p)) 41)).alloc (.cells (vrow 2 (spAt x y)) 36)).alloc (.cells (vrow 2 (spAt 0 0)) 36)).heap[w.heap.size + 3]? = some (.cells (vrow 2 (spAt 0 0)) 36)) := heap_at _ _ _ (by simp)
  go_enter Tryd.func19, Tryd.ntmps19
  go_wp2_with (first
    | go_skip
    | ((with_reducible refine wlAt 11 rfl ?_); refine wpList_loadall rfl 39 (.tmp 3) rfl w.heap.size rfl 266 s.at 39 _ Tryd.underlying39 rfl size_sheet P.out ?_)
    | ((with_reducible refine wlAt 12 rfl ?_); refine wpList_loadall rfl 36 (.tmp 5) rfl (w.heap.size + 2) rfl 2 (spAt x y) 36 _ Tryd.underlying36 rfl size_spot R.out ?_)
    | (go_at_call 59; (refine (HC.out _ (hE.next hB.out)).mono ?_); rintro o w1 ⟨rfl, hb⟩; replace P := Go.Lib.hid (row_next hb P.out); replace F := Go.Lib.hid (row_next hb F.out); replace R := Go.Lib.hid (row_next hb R.out); replace Z := Go.Lib.hid (row_next hb Z.out); (try (replace X := Go.Lib.hid (row_next hb X.out))); replace hB := Go.Lib.hid (below_next hB.out hb); clear hb)
    | (go_at_call 58; (refine (HU.out _ (hE.next hB.out) P.out F.out R.out).mono ?_); rintro o w2 ⟨rfl, hb⟩; replace P := Go.Lib.hid (row_next hb P.out); replace F := Go.Lib.hid (row_next hb F.out); replace R := Go.Lib.hid (row_next hb R.out); replace Z := Go.Lib.hid (row_next hb Z.out); (try (replace X := Go.Lib.hid (row_next hb X.out))); replace hB := Go.Lib.hid (below_next hB.out hb); clear hb)
    | ((with_reducible refine wlOp (.store 36 (.tmp 8) (.tmp 16)) rfl ?_); refine wpList_storeall rfl 36 (.tmp 8) (.tmp 16) rfl w2.heap.size rfl 2 (spAt 0 0) (spAt 0 0) rfl 36 size_spot (heap_at _ _ _ rfl) (fun i _ => spAt_one _ _ i) ?_; rw [setRow_at _ _ _ _ _ rfl]; have X := Go.Lib.hid (heap_at w2 (.cells (vrow 2 (spAt 0 0)) 36) _ rfl); have hb := (Below.refl _ w2).alloc (Nat.le_refl _) (.cells (vrow 2 (spAt 0 0)) 36); replace P := Go.Lib.hid (row_next hb P.out); replace F := Go.Lib.hid (row_next hb F.out); replace R := Go.Lib.hid (row_next hb R.out); have hzl := row_lt Z.out; replace Z := Go.Lib.hid (row_next hb Z.out); replace hB := Go.Lib.hid (below_next hB.out hb); clear hb; generalize w2.heap.size = nb at X hzl ⊢; generalize w2.alloc _ = w3 at P F R Z X hB ⊢)
    | ((with_reducible refine wlAt 18 rfl ?_); refine wpList_loadall rfl 39 (.tmp 3) rfl w.heap.size rfl 266 s.at 39 _ Tryd.underlying39 rfl size_sheet P.out ?_)
    | ((with_reducible refine wlAt 19 rfl ?_); refine wpList_loadall rfl 36 (.tmp 8) rfl nb rfl 2 (spAt 0 0) 36 _ Tryd.underlying36 rfl size_spot X.out ?_)
    | (go_at_call 63; (refine (HH.out _).mono ?_); rintro o w4 ⟨rfl, hb⟩; replace P := Go.Lib.hid (row_next hb P.out); replace F := Go.Lib.hid (row_next hb F.out); replace R := Go.Lib.hid (row_next hb R.out); replace Z := Go.Lib.hid (row_next hb Z.out); (try (replace X := Go.Lib.hid (row_next hb X.out))); replace hB := Go.Lib.hid (below_next hB.out hb); clear hb)
    | ((with_reducible refine wlAt 27 rfl ?_); refine wpList_loadall rfl 36 (.tmp 8) rfl nb rfl 2 (spAt 0 0) 36 _ Tryd.underlying36 rfl size_spot X.out ?_)
    | ((with_reducible refine wlOp (.store 36 (.tmp 6) (.tmp 27)) rfl ?_); refine wpList_storeall rfl 36 (.tmp 6) (.tmp 27) rfl (w.heap.size + 3) rfl 2 (spAt 0 0) (spAt 0 0) rfl 36 size_spot Z.out (fun i _ => spAt_one _ _ i) ?_; replace Z := Go.Lib.hid (row_set Z.out (vrow 2 (spAt 0 0))); replace hB := Go.Lib.hid (Below_setRow hB.out (show w.heap.size ≤ w.heap.size + 3 by omega) (vrow 2 (spAt 0 0)))))
  refine ret_row2 Tryd.results19 (w.heap.size + 3) 2 (spAt 0 0) 36 _ Tryd.underlying36 rfl size_spot (.int .i64 1) rfl rfl rfl Z.out ⟨rfl, hB.out⟩
set_option maxHeartbeats 4000000 in
theorem implP_e2true (s : Sh) (ax : Int) (d : Bool) (p x y q1 q2 : Int) (ev : Value) (e : ErrE) (w : World) (hE : Errs e w) (hh : hasB s 0 0 = true)
    (HC0 : ∀ W, Errs e W → Calls Tryd.prog 59 #[.agg s.row, .agg #[.int .i8 x, .int .i8 y]] W fun o w' => o = .returned ev ∧ Below W.heap.size W w')
    (HU0 : ∀ W, Errs e W → W.heap[w.heap.size]? = some (.cells (vrow 266 s.at) 39) → W.heap[w.heap.size + 1]? = some (.cells (vrow 3 (foAt ax d p)) 41) → W.heap[w.heap.size + 2]? = some (.cells (vrow 2 (spAt x y)) 36) → Calls Tryd.prog 58 #[ev, .func (.func 60) #[] #[.pointer (some ⟨w.heap.size + 1, 0, none⟩), .pointer (some ⟨w.heap.size, 0, none⟩), .pointer (some ⟨w.heap.size + 2, 0, none⟩)]] W fun o w' => o = .returned (.tuple #[.agg (vrow 2 (spAt 0 0)), .int .i64 2]) ∧ Below W.heap.size W w') :
    Calls Tryd.prog 19 #[.agg s.row, .agg #[.int .i8 ax, .bool d, .int .i8 p], .agg #[.int .i8 x, .int .i8 y]] w fun o w' => o = .returned (.tuple #[.agg (vrow 2 (spAt 0 0)), .int .i64 2]) ∧ Below w.heap.size w w' := by
  have HC := Go.Lib.hid HC0
  have HU := Go.Lib.hid HU0
  have HH := Go.Lib.hid fun W => has_any s 0 0 W
  rw [hh] at HH
  rw [sp_vrow] at HC HH
  rw [fo_vrow, sp_vrow]
  clear HC0 HU0 hh
  have hmf : ∀ (fn : Fn) (first cap : Array Value) (w : World), (Instr.makeFunc fn first cap).run Tryd.prog w = .ok (.func fn first cap) w := fun _ _ _ _ => rfl
  have zz := zero_spot
  have hB : Hid (Below w.heap.size w ((((w.alloc (.cells (vrow 266 s.at) 39)).alloc (.cells (vrow 3 (foAt ax d p)) 41)).alloc (.cells (vrow 2 (spAt x y)) 36)).alloc (.cells (vrow 2 (spAt 0 0)) 36))) := Go.Lib.hid (((((Below.refl w.heap.size w).alloc (by simp <;> omega) _).alloc (by simp <;> omega) _).alloc (by simp <;> omega) _).alloc (by simp <;> omega) _)
  have P : Hid (((((w.alloc (.cells (vrow 266 s.at) 39)).alloc (.cells (vrow 3 (foAt ax d p)) 41)).alloc (.cells (vrow 2 (spAt x y)) 36)).alloc (.cells (vrow 2 (spAt 0 0)) 36)).heap[w.heap.size]? = some (.cells (vrow 266 s.at) 39)) := heap_past _ _ _ _ (by simp <;> omega) (heap_past _ _ _ _ (by simp <;> omega) (heap_past _ _ _ _ (by simp <;> omega) (heap_at _ _ _ (by simp))))
  have F : Hid (((((w.alloc (.cells (vrow 266 s.at) 39)).alloc (.cells (vrow 3 (foAt ax d p)) 41)).alloc (.cells (vrow 2 (spAt x y)) 36)).alloc (.cells (vrow 2 (spAt 0 0)) 36)).heap[w.heap.size + 1]? = some (.cells (vrow 3 (foAt ax d p)) 41)) := heap_past _ _ _ _ (by simp <;> omega) (heap_past _ _ _ _ (by simp <;> omega) (heap_at _ _ _ (by simp)))
  have R : Hid (((((w.alloc (.cells (vrow 266 s.at) 39)).alloc (.cells (vrow 3 (foAt ax d p)) 41)).alloc (.cells (vrow 2 (spAt x y)) 36)).alloc (.cells (vrow 2 (spAt 0 0)) 36)).heap[w.heap.size + 2]? = some (.cells (vrow 2 (spAt x y)) 36)) := heap_past _ _ _ _ (by simp <;> omega) (heap_at _ _ _ (by simp))
  have Z : Hid (((((w.alloc (.cells (vrow 266 s.at) 39)).alloc (.cells (vrow 3 (foAt ax d p)) 41)).alloc (.cells (vrow 2 (spAt x y)) 36)).alloc (.cells (vrow 2 (spAt 0 0)) 36)).heap[w.heap.size + 3]? = some (.cells (vrow 2 (spAt 0 0)) 36)) := heap_at _ _ _ (by simp)
  go_enter Tryd.func19, Tryd.ntmps19
  go_wp2_with (first
    | go_skip
    | ((with_reducible refine wlAt 11 rfl ?_); refine wpList_loadall rfl 39 (.tmp 3) rfl w.heap.size rfl 266 s.at 39 _ Tryd.underlying39 rfl size_sheet P.out ?_)
    | ((with_reducible refine wlAt 12 rfl ?_); refine wpList_loadall rfl 36 (.tmp 5) rfl (w.heap.size + 2) rfl 2 (spAt x y) 36 _ Tryd.underlying36 rfl size_spot R.out ?_)
    | (go_at_call 59; (refine (HC.out _ (hE.next hB.out)).mono ?_); rintro o w1 ⟨rfl, hb⟩; replace P := Go.Lib.hid (row_next hb P.out); replace F := Go.Lib.hid (row_next hb F.out); replace R := Go.Lib.hid (row_next hb R.out); replace Z := Go.Lib.hid (row_next hb Z.out); (try (replace X := Go.Lib.hid (row_next hb X.out))); replace hB := Go.Lib.hid (below_next hB.out hb); clear hb)
    | (go_at_call 58; (refine (HU.out _ (hE.next hB.out) P.out F.out R.out).mono ?_); rintro o w2 ⟨rfl, hb⟩; replace P := Go.Lib.hid (row_next hb P.out); replace F := Go.Lib.hid (row_next hb F.out); replace R := Go.Lib.hid (row_next hb R.out); replace Z := Go.Lib.hid (row_next hb Z.out); (try (replace X := Go.Lib.hid (row_next hb X.out))); replace hB := Go.Lib.hid (below_next hB.out hb); clear hb)
    | ((with_reducible refine wlOp (.store 36 (.tmp 8) (.tmp 16)) rfl ?_); refine wpList_storeall rfl 36 (.tmp 8) (.tmp 16) rfl w2.heap.size rfl 2 (spAt 0 0) (spAt 0 0) rfl 36 size_spot (heap_at _ _ _ rfl) (fun i _ => spAt_one _ _ i) ?_; rw [setRow_at _ _ _ _ _ rfl]; have X := Go.Lib.hid (heap_at w2 (.cells (vrow 2 (spAt 0 0)) 36) _ rfl); have hb := (Below.refl _ w2).alloc (Nat.le_refl _) (.cells (vrow 2 (spAt 0 0)) 36); replace P := Go.Lib.hid (row_next hb P.out); replace F := Go.Lib.hid (row_next hb F.out); replace R := Go.Lib.hid (row_next hb R.out); have hzl := row_lt Z.out; replace Z := Go.Lib.hid (row_next hb Z.out); replace hB := Go.Lib.hid (below_next hB.out hb); clear hb; generalize w2.heap.size = nb at X hzl ⊢; generalize w2.alloc _ = w3 at P F R Z X hB ⊢)
    | ((with_reducible refine wlAt 18 rfl ?_); refine wpList_loadall rfl 39 (.tmp 3) rfl w.heap.size rfl 266 s.at 39 _ Tryd.underlying39 rfl size_sheet P.out ?_)
    | ((with_reducible refine wlAt 19 rfl ?_); refine wpList_loadall rfl 36 (.tmp 8) rfl nb rfl 2 (spAt 0 0) 36 _ Tryd.underlying36 rfl size_spot X.out ?_)
    | (go_at_call 63; (refine (HH.out _).mono ?_); rintro o w4 ⟨rfl, hb⟩; replace P := Go.Lib.hid (row_next hb P.out); replace F := Go.Lib.hid (row_next hb F.out); replace R := Go.Lib.hid (row_next hb R.out); replace Z := Go.Lib.hid (row_next hb Z.out); (try (replace X := Go.Lib.hid (row_next hb X.out))); replace hB := Go.Lib.hid (below_next hB.out hb); clear hb)
    | ((with_reducible refine wlAt 27 rfl ?_); refine wpList_loadall rfl 36 (.tmp 8) rfl nb rfl 2 (spAt 0 0) 36 _ Tryd.underlying36 rfl size_spot X.out ?_)
    | ((with_reducible refine wlOp (.store 36 (.tmp 6) (.tmp 27)) rfl ?_); refine wpList_storeall rfl 36 (.tmp 6) (.tmp 27) rfl (w.heap.size + 3) rfl 2 (spAt 0 0) (spAt 0 0) rfl 36 size_spot Z.out (fun i _ => spAt_one _ _ i) ?_; replace Z := Go.Lib.hid (row_set Z.out (vrow 2 (spAt 0 0))); replace hB := Go.Lib.hid (Below_setRow hB.out (show w.heap.size ≤ w.heap.size + 3 by omega) (vrow 2 (spAt 0 0)))))
  refine ret_row2 Tryd.results19 (w.heap.size + 3) 2 (spAt 0 0) 36 _ Tryd.underlying36 rfl size_spot (.int .i64 2) rfl rfl rfl Z.out ⟨rfl, hB.out⟩
set_option maxHeartbeats 4000000 in
theorem implP_e2false (s : Sh) (ax : Int) (d : Bool) (p x y q1 q2 : Int) (ev : Value) (e : ErrE) (w : World) (hE : Errs e w) (hh : hasB s 0 0 = false)
    (HC0 : ∀ W, Errs e W → Calls Tryd.prog 59 #[.agg s.row, .agg #[.int .i8 x, .int .i8 y]] W fun o w' => o = .returned ev ∧ Below W.heap.size W w')
    (HU0 : ∀ W, Errs e W → W.heap[w.heap.size]? = some (.cells (vrow 266 s.at) 39) → W.heap[w.heap.size + 1]? = some (.cells (vrow 3 (foAt ax d p)) 41) → W.heap[w.heap.size + 2]? = some (.cells (vrow 2 (spAt x y)) 36) → Calls Tryd.prog 58 #[ev, .func (.func 60) #[] #[.pointer (some ⟨w.heap.size + 1, 0, none⟩), .pointer (some ⟨w.heap.size, 0, none⟩), .pointer (some ⟨w.heap.size + 2, 0, none⟩)]] W fun o w' => o = .returned (.tuple #[.agg (vrow 2 (spAt 0 0)), .int .i64 2]) ∧ Below W.heap.size W w') :
    Calls Tryd.prog 19 #[.agg s.row, .agg #[.int .i8 ax, .bool d, .int .i8 p], .agg #[.int .i8 x, .int .i8 y]] w fun o w' => o = .returned (.tuple #[.agg (vrow 2 (spAt 0 0)), .int .i64 2]) ∧ Below w.heap.size w w' := by
  have HC := Go.Lib.hid HC0
  have HU := Go.Lib.hid HU0
  have HH := Go.Lib.hid fun W => has_any s 0 0 W
  rw [hh] at HH
  rw [sp_vrow] at HC HH
  rw [fo_vrow, sp_vrow]
  clear HC0 HU0 hh
  have hmf : ∀ (fn : Fn) (first cap : Array Value) (w : World), (Instr.makeFunc fn first cap).run Tryd.prog w = .ok (.func fn first cap) w := fun _ _ _ _ => rfl
  have zz := zero_spot
  have hB : Hid (Below w.heap.size w ((((w.alloc (.cells (vrow 266 s.at) 39)).alloc (.cells (vrow 3 (foAt ax d p)) 41)).alloc (.cells (vrow 2 (spAt x y)) 36)).alloc (.cells (vrow 2 (spAt 0 0)) 36))) := Go.Lib.hid (((((Below.refl w.heap.size w).alloc (by simp <;> omega) _).alloc (by simp <;> omega) _).alloc (by simp <;> omega) _).alloc (by simp <;> omega) _)
  have P : Hid (((((w.alloc (.cells (vrow 266 s.at) 39)).alloc (.cells (vrow 3 (foAt ax d p)) 41)).alloc (.cells (vrow 2 (spAt x y)) 36)).alloc (.cells (vrow 2 (spAt 0 0)) 36)).heap[w.heap.size]? = some (.cells (vrow 266 s.at) 39)) := heap_past _ _ _ _ (by simp <;> omega) (heap_past _ _ _ _ (by simp <;> omega) (heap_past _ _ _ _ (by simp <;> omega) (heap_at _ _ _ (by simp))))
  have F : Hid (((((w.alloc (.cells (vrow 266 s.at) 39)).alloc (.cells (vrow 3 (foAt ax d p)) 41)).alloc (.cells (vrow 2 (spAt x y)) 36)).alloc (.cells (vrow 2 (spAt 0 0)) 36)).heap[w.heap.size + 1]? = some (.cells (vrow 3 (foAt ax d p)) 41)) := heap_past _ _ _ _ (by simp <;> omega) (heap_past _ _ _ _ (by simp <;> omega) (heap_at _ _ _ (by simp)))
  have R : Hid (((((w.alloc (.cells (vrow 266 s.at) 39)).alloc (.cells (vrow 3 (foAt ax d p)) 41)).alloc (.cells (vrow 2 (spAt x y)) 36)).alloc (.cells (vrow 2 (spAt 0 0)) 36)).heap[w.heap.size + 2]? = some (.cells (vrow 2 (spAt x y)) 36)) := heap_past _ _ _ _ (by simp <;> omega) (heap_at _ _ _ (by simp))
  have Z : Hid (((((w.alloc (.cells (vrow 266 s.at) 39)).alloc (.cells (vrow 3 (foAt ax d p)) 41)).alloc (.cells (vrow 2 (spAt x y)) 36)).alloc (.cells (vrow 2 (spAt 0 0)) 36)).heap[w.heap.size + 3]? = some (.cells (vrow 2 (spAt 0 0)) 36)) := heap_at _ _ _ (by simp)
  go_enter Tryd.func19, Tryd.ntmps19
  go_wp2_with (first
    | go_skip
    | ((with_reducible refine wlAt 11 rfl ?_); refine wpList_loadall rfl 39 (.tmp 3) rfl w.heap.size rfl 266 s.at 39 _ Tryd.underlying39 rfl size_sheet P.out ?_)
    | ((with_reducible refine wlAt 12 rfl ?_); refine wpList_loadall rfl 36 (.tmp 5) rfl (w.heap.size + 2) rfl 2 (spAt x y) 36 _ Tryd.underlying36 rfl size_spot R.out ?_)
    | (go_at_call 59; (refine (HC.out _ (hE.next hB.out)).mono ?_); rintro o w1 ⟨rfl, hb⟩; replace P := Go.Lib.hid (row_next hb P.out); replace F := Go.Lib.hid (row_next hb F.out); replace R := Go.Lib.hid (row_next hb R.out); replace Z := Go.Lib.hid (row_next hb Z.out); (try (replace X := Go.Lib.hid (row_next hb X.out))); replace hB := Go.Lib.hid (below_next hB.out hb); clear hb)
    | (go_at_call 58; (refine (HU.out _ (hE.next hB.out) P.out F.out R.out).mono ?_); rintro o w2 ⟨rfl, hb⟩; replace P := Go.Lib.hid (row_next hb P.out); replace F := Go.Lib.hid (row_next hb F.out); replace R := Go.Lib.hid (row_next hb R.out); replace Z := Go.Lib.hid (row_next hb Z.out); (try (replace X := Go.Lib.hid (row_next hb X.out))); replace hB := Go.Lib.hid (below_next hB.out hb); clear hb)
    | ((with_reducible refine wlOp (.store 36 (.tmp 8) (.tmp 16)) rfl ?_); refine wpList_storeall rfl 36 (.tmp 8) (.tmp 16) rfl w2.heap.size rfl 2 (spAt 0 0) (spAt 0 0) rfl 36 size_spot (heap_at _ _ _ rfl) (fun i _ => spAt_one _ _ i) ?_; rw [setRow_at _ _ _ _ _ rfl]; have X := Go.Lib.hid (heap_at w2 (.cells (vrow 2 (spAt 0 0)) 36) _ rfl); have hb := (Below.refl _ w2).alloc (Nat.le_refl _) (.cells (vrow 2 (spAt 0 0)) 36); replace P := Go.Lib.hid (row_next hb P.out); replace F := Go.Lib.hid (row_next hb F.out); replace R := Go.Lib.hid (row_next hb R.out); have hzl := row_lt Z.out; replace Z := Go.Lib.hid (row_next hb Z.out); replace hB := Go.Lib.hid (below_next hB.out hb); clear hb; generalize w2.heap.size = nb at X hzl ⊢; generalize w2.alloc _ = w3 at P F R Z X hB ⊢)
    | ((with_reducible refine wlAt 18 rfl ?_); refine wpList_loadall rfl 39 (.tmp 3) rfl w.heap.size rfl 266 s.at 39 _ Tryd.underlying39 rfl size_sheet P.out ?_)
    | ((with_reducible refine wlAt 19 rfl ?_); refine wpList_loadall rfl 36 (.tmp 8) rfl nb rfl 2 (spAt 0 0) 36 _ Tryd.underlying36 rfl size_spot X.out ?_)
    | (go_at_call 63; (refine (HH.out _).mono ?_); rintro o w4 ⟨rfl, hb⟩; replace P := Go.Lib.hid (row_next hb P.out); replace F := Go.Lib.hid (row_next hb F.out); replace R := Go.Lib.hid (row_next hb R.out); replace Z := Go.Lib.hid (row_next hb Z.out); (try (replace X := Go.Lib.hid (row_next hb X.out))); replace hB := Go.Lib.hid (below_next hB.out hb); clear hb)
    | ((with_reducible refine wlAt 27 rfl ?_); refine wpList_loadall rfl 36 (.tmp 8) rfl nb rfl 2 (spAt 0 0) 36 _ Tryd.underlying36 rfl size_spot X.out ?_)
    | ((with_reducible refine wlOp (.store 36 (.tmp 6) (.tmp 27)) rfl ?_); refine wpList_storeall rfl 36 (.tmp 6) (.tmp 27) rfl (w.heap.size + 3) rfl 2 (spAt 0 0) (spAt 0 0) rfl 36 size_spot Z.out (fun i _ => spAt_one _ _ i) ?_; replace Z := Go.Lib.hid (row_set Z.out (vrow 2 (spAt 0 0))); replace hB := Go.Lib.hid (Below_setRow hB.out (show w.heap.size ≤ w.heap.size + 3 by omega) (vrow 2 (spAt 0 0)))))
  refine ret_row2 Tryd.results19 (w.heap.size + 3) 2 (spAt 0 0) 36 _ Tryd.underlying36 rfl size_spot (.int .i64 2) rfl rfl rfl Z.out ⟨rfl, hB.out⟩
set_option maxHeartbeats 4000000 in
theorem implP_ok (s : Sh) (ax : Int) (d : Bool) (p x y q1 q2 : Int) (ev : Value) (e : ErrE) (w : World) (hE : Errs e w) (hh : hasB s q1 q2 = true)
    (HC0 : ∀ W, Errs e W → Calls Tryd.prog 59 #[.agg s.row, .agg #[.int .i8 x, .int .i8 y]] W fun o w' => o = .returned ev ∧ Below W.heap.size W w')
    (HU0 : ∀ W, Errs e W → W.heap[w.heap.size]? = some (.cells (vrow 266 s.at) 39) → W.heap[w.heap.size + 1]? = some (.cells (vrow 3 (foAt ax d p)) 41) → W.heap[w.heap.size + 2]? = some (.cells (vrow 2 (spAt x y)) 36) → Calls Tryd.prog 58 #[ev, .func (.func 60) #[] #[.pointer (some ⟨w.heap.size + 1, 0, none⟩), .pointer (some ⟨w.heap.size, 0, none⟩), .pointer (some ⟨w.heap.size + 2, 0, none⟩)]] W fun o w' => o = .returned (.tuple #[.agg (vrow 2 (spAt q1 q2)), .int .i64 0]) ∧ Below W.heap.size W w') :
    Calls Tryd.prog 19 #[.agg s.row, .agg #[.int .i8 ax, .bool d, .int .i8 p], .agg #[.int .i8 x, .int .i8 y]] w fun o w' => o = .returned (.tuple #[.agg (vrow 2 (spAt q1 q2)), .int .i64 0]) ∧ Below w.heap.size w w' := by
  have HC := Go.Lib.hid HC0
  have HU := Go.Lib.hid HU0
  have HH := Go.Lib.hid fun W => has_any s q1 q2 W
  rw [hh] at HH
  rw [sp_vrow] at HC HH
  rw [fo_vrow, sp_vrow]
  clear HC0 HU0 hh
  have hmf : ∀ (fn : Fn) (first cap : Array Value) (w : World), (Instr.makeFunc fn first cap).run Tryd.prog w = .ok (.func fn first cap) w := fun _ _ _ _ => rfl
  have zz := zero_spot
  have hB : Hid (Below w.heap.size w ((((w.alloc (.cells (vrow 266 s.at) 39)).alloc (.cells (vrow 3 (foAt ax d p)) 41)).alloc (.cells (vrow 2 (spAt x y)) 36)).alloc (.cells (vrow 2 (spAt 0 0)) 36))) := Go.Lib.hid (((((Below.refl w.heap.size w).alloc (by simp <;> omega) _).alloc (by simp <;> omega) _).alloc (by simp <;> omega) _).alloc (by simp <;> omega) _)
  have P : Hid (((((w.alloc (.cells (vrow 266 s.at) 39)).alloc (.cells (vrow 3 (foAt ax d p)) 41)).alloc (.cells (vrow 2 (spAt x y)) 36)).alloc (.cells (vrow 2 (spAt 0 0)) 36)).heap[w.heap.size]? = some (.cells (vrow 266 s.at) 39)) := heap_past _ _ _ _ (by simp <;> omega) (heap_past _ _ _ _ (by simp <;> omega) (heap_past _ _ _ _ (by simp <;> omega) (heap_at _ _ _ (by simp))))
  have F : Hid (((((w.alloc (.cells (vrow 266 s.at) 39)).alloc (.cells (vrow 3 (foAt ax d p)) 41)).alloc (.cells (vrow 2 (spAt x y)) 36)).alloc (.cells (vrow 2 (spAt 0 0)) 36)).heap[w.heap.size + 1]? = some (.cells (vrow 3 (foAt ax d p)) 41)) := heap_past _ _ _ _ (by simp <;> omega) (heap_past _ _ _ _ (by simp <;> omega) (heap_at _ _ _ (by simp)))
  have R : Hid (((((w.alloc (.cells (vrow 266 s.at) 39)).alloc (.cells (vrow 3 (foAt ax d p)) 41)).alloc (.cells (vrow 2 (spAt x y)) 36)).alloc (.cells (vrow 2 (spAt 0 0)) 36)).heap[w.heap.size + 2]? = some (.cells (vrow 2 (spAt x y)) 36)) := heap_past _ _ _ _ (by simp <;> omega) (heap_at _ _ _ (by simp))
  have Z : Hid (((((w.alloc (.cells (vrow 266 s.at) 39)).alloc (.cells (vrow 3 (foAt ax d p)) 41)).alloc (.cells (vrow 2 (spAt x y)) 36)).alloc (.cells (vrow 2 (spAt 0 0)) 36)).heap[w.heap.size + 3]? = some (.cells (vrow 2 (spAt 0 0)) 36)) := heap_at _ _ _ (by simp)
  go_enter Tryd.func19, Tryd.ntmps19
  go_wp2_with (first
    | go_skip
    | ((with_reducible refine wlAt 11 rfl ?_); refine wpList_loadall rfl 39 (.tmp 3) rfl w.heap.size rfl 266 s.at 39 _ Tryd.underlying39 rfl size_sheet P.out ?_)
    | ((with_reducible refine wlAt 12 rfl ?_); refine wpList_loadall rfl 36 (.tmp 5) rfl (w.heap.size + 2) rfl 2 (spAt x y) 36 _ Tryd.underlying36 rfl size_spot R.out ?_)
    | (go_at_call 59; (refine (HC.out _ (hE.next hB.out)).mono ?_); rintro o w1 ⟨rfl, hb⟩; replace P := Go.Lib.hid (row_next hb P.out); replace F := Go.Lib.hid (row_next hb F.out); replace R := Go.Lib.hid (row_next hb R.out); replace Z := Go.Lib.hid (row_next hb Z.out); (try (replace X := Go.Lib.hid (row_next hb X.out))); replace hB := Go.Lib.hid (below_next hB.out hb); clear hb)
    | (go_at_call 58; (refine (HU.out _ (hE.next hB.out) P.out F.out R.out).mono ?_); rintro o w2 ⟨rfl, hb⟩; replace P := Go.Lib.hid (row_next hb P.out); replace F := Go.Lib.hid (row_next hb F.out); replace R := Go.Lib.hid (row_next hb R.out); replace Z := Go.Lib.hid (row_next hb Z.out); (try (replace X := Go.Lib.hid (row_next hb X.out))); replace hB := Go.Lib.hid (below_next hB.out hb); clear hb)
    | ((with_reducible refine wlOp (.store 36 (.tmp 8) (.tmp 16)) rfl ?_); refine wpList_storeall rfl 36 (.tmp 8) (.tmp 16) rfl w2.heap.size rfl 2 (spAt 0 0) (spAt q1 q2) rfl 36 size_spot (heap_at _ _ _ rfl) (fun i _ => spAt_one _ _ i) ?_; rw [setRow_at _ _ _ _ _ rfl]; have X := Go.Lib.hid (heap_at w2 (.cells (vrow 2 (spAt q1 q2)) 36) _ rfl); have hb := (Below.refl _ w2).alloc (Nat.le_refl _) (.cells (vrow 2 (spAt q1 q2)) 36); replace P := Go.Lib.hid (row_next hb P.out); replace F := Go.Lib.hid (row_next hb F.out); replace R := Go.Lib.hid (row_next hb R.out); have hzl := row_lt Z.out; replace Z := Go.Lib.hid (row_next hb Z.out); replace hB := Go.Lib.hid (below_next hB.out hb); clear hb; generalize w2.heap.size = nb at X hzl ⊢; generalize w2.alloc _ = w3 at P F R Z X hB ⊢)
    | ((with_reducible refine wlAt 18 rfl ?_); refine wpList_loadall rfl 39 (.tmp 3) rfl w.heap.size rfl 266 s.at 39 _ Tryd.underlying39 rfl size_sheet P.out ?_)
    | ((with_reducible refine wlAt 19 rfl ?_); refine wpList_loadall rfl 36 (.tmp 8) rfl nb rfl 2 (spAt q1 q2) 36 _ Tryd.underlying36 rfl size_spot X.out ?_)
    | (go_at_call 63; (refine (HH.out _).mono ?_); rintro o w4 ⟨rfl, hb⟩; replace P := Go.Lib.hid (row_next hb P.out); replace F := Go.Lib.hid (row_next hb F.out); replace R := Go.Lib.hid (row_next hb R.out); replace Z := Go.Lib.hid (row_next hb Z.out); (try (replace X := Go.Lib.hid (row_next hb X.out))); replace hB := Go.Lib.hid (below_next hB.out hb); clear hb)
    | ((with_reducible refine wlAt 27 rfl ?_); refine wpList_loadall rfl 36 (.tmp 8) rfl nb rfl 2 (spAt q1 q2) 36 _ Tryd.underlying36 rfl size_spot X.out ?_)
    | ((with_reducible refine wlOp (.store 36 (.tmp 6) (.tmp 27)) rfl ?_); refine wpList_storeall rfl 36 (.tmp 6) (.tmp 27) rfl (w.heap.size + 3) rfl 2 (spAt 0 0) (spAt q1 q2) rfl 36 size_spot Z.out (fun i _ => spAt_one _ _ i) ?_; replace Z := Go.Lib.hid (row_set Z.out (vrow 2 (spAt q1 q2))); replace hB := Go.Lib.hid (Below_setRow hB.out (show w.heap.size ≤ w.heap.size + 3 by omega) (vrow 2 (spAt q1 q2)))))
  refine ret_row2 Tryd.results19 (w.heap.size + 3) 2 (spAt q1 q2) 36 _ Tryd.underlying36 rfl size_spot (.int .i64 0) rfl rfl rfl Z.out ⟨rfl, hB.out⟩
set_option maxHeartbeats 4000000 in
theorem implP_nf (s : Sh) (ax : Int) (d : Bool) (p x y q1 q2 : Int) (ev : Value) (e : ErrE) (w : World) (hE : Errs e w) (hh : hasB s q1 q2 = false)
    (HC0 : ∀ W, Errs e W → Calls Tryd.prog 59 #[.agg s.row, .agg #[.int .i8 x, .int .i8 y]] W fun o w' => o = .returned ev ∧ Below W.heap.size W w')
    (HU0 : ∀ W, Errs e W → W.heap[w.heap.size]? = some (.cells (vrow 266 s.at) 39) → W.heap[w.heap.size + 1]? = some (.cells (vrow 3 (foAt ax d p)) 41) → W.heap[w.heap.size + 2]? = some (.cells (vrow 2 (spAt x y)) 36) → Calls Tryd.prog 58 #[ev, .func (.func 60) #[] #[.pointer (some ⟨w.heap.size + 1, 0, none⟩), .pointer (some ⟨w.heap.size, 0, none⟩), .pointer (some ⟨w.heap.size + 2, 0, none⟩)]] W fun o w' => o = .returned (.tuple #[.agg (vrow 2 (spAt q1 q2)), .int .i64 0]) ∧ Below W.heap.size W w') :
    Calls Tryd.prog 19 #[.agg s.row, .agg #[.int .i8 ax, .bool d, .int .i8 p], .agg #[.int .i8 x, .int .i8 y]] w fun o w' => o = .returned (.tuple #[.agg (vrow 2 (spAt 0 0)), .int .i64 6]) ∧ Below w.heap.size w w' := by
  have HC := Go.Lib.hid HC0
  have HU := Go.Lib.hid HU0
  have HH := Go.Lib.hid fun W => has_any s q1 q2 W
  rw [hh] at HH
  rw [sp_vrow] at HC HH
  rw [fo_vrow, sp_vrow]
  clear HC0 HU0 hh
  have hmf : ∀ (fn : Fn) (first cap : Array Value) (w : World), (Instr.makeFunc fn first cap).run Tryd.prog w = .ok (.func fn first cap) w := fun _ _ _ _ => rfl
  have zz := zero_spot
  have hB : Hid (Below w.heap.size w ((((w.alloc (.cells (vrow 266 s.at) 39)).alloc (.cells (vrow 3 (foAt ax d p)) 41)).alloc (.cells (vrow 2 (spAt x y)) 36)).alloc (.cells (vrow 2 (spAt 0 0)) 36))) := Go.Lib.hid (((((Below.refl w.heap.size w).alloc (by simp <;> omega) _).alloc (by simp <;> omega) _).alloc (by simp <;> omega) _).alloc (by simp <;> omega) _)
  have P : Hid (((((w.alloc (.cells (vrow 266 s.at) 39)).alloc (.cells (vrow 3 (foAt ax d p)) 41)).alloc (.cells (vrow 2 (spAt x y)) 36)).alloc (.cells (vrow 2 (spAt 0 0)) 36)).heap[w.heap.size]? = some (.cells (vrow 266 s.at) 39)) := heap_past _ _ _ _ (by simp <;> omega) (heap_past _ _ _ _ (by simp <;> omega) (heap_past _ _ _ _ (by simp <;> omega) (heap_at _ _ _ (by simp))))
  have F : Hid (((((w.alloc (.cells (vrow 266 s.at) 39)).alloc (.cells (vrow 3 (foAt ax d p)) 41)).alloc (.cells (vrow 2 (spAt x y)) 36)).alloc (.cells (vrow 2 (spAt 0 0)) 36)).heap[w.heap.size + 1]? = some (.cells (vrow 3 (foAt ax d p)) 41)) := heap_past _ _ _ _ (by simp <;> omega) (heap_past _ _ _ _ (by simp <;> omega) (heap_at _ _ _ (by simp)))
  have R : Hid (((((w.alloc (.cells (vrow 266 s.at) 39)).alloc (.cells (vrow 3 (foAt ax d p)) 41)).alloc (.cells (vrow 2 (spAt x y)) 36)).alloc (.cells (vrow 2 (spAt 0 0)) 36)).heap[w.heap.size + 2]? = some (.cells (vrow 2 (spAt x y)) 36)) := heap_past _ _ _ _ (by simp <;> omega) (heap_at _ _ _ (by simp))
  have Z : Hid (((((w.alloc (.cells (vrow 266 s.at) 39)).alloc (.cells (vrow 3 (foAt ax d p)) 41)).alloc (.cells (vrow 2 (spAt x y)) 36)).alloc (.cells (vrow 2 (spAt 0 0)) 36)).heap[w.heap.size + 3]? = some (.cells (vrow 2 (spAt 0 0)) 36)) := heap_at _ _ _ (by simp)
  go_enter Tryd.func19, Tryd.ntmps19
  go_wp2_with (first
    | go_skip
    | ((with_reducible refine wlAt 11 rfl ?_); refine wpList_loadall rfl 39 (.tmp 3) rfl w.heap.size rfl 266 s.at 39 _ Tryd.underlying39 rfl size_sheet P.out ?_)
    | ((with_reducible refine wlAt 12 rfl ?_); refine wpList_loadall rfl 36 (.tmp 5) rfl (w.heap.size + 2) rfl 2 (spAt x y) 36 _ Tryd.underlying36 rfl size_spot R.out ?_)
    | (go_at_call 59; (refine (HC.out _ (hE.next hB.out)).mono ?_); rintro o w1 ⟨rfl, hb⟩; replace P := Go.Lib.hid (row_next hb P.out); replace F := Go.Lib.hid (row_next hb F.out); replace R := Go.Lib.hid (row_next hb R.out); replace Z := Go.Lib.hid (row_next hb Z.out); (try (replace X := Go.Lib.hid (row_next hb X.out))); replace hB := Go.Lib.hid (below_next hB.out hb); clear hb)
    | (go_at_call 58; (refine (HU.out _ (hE.next hB.out) P.out F.out R.out).mono ?_); rintro o w2 ⟨rfl, hb⟩; replace P := Go.Lib.hid (row_next hb P.out); replace F := Go.Lib.hid (row_next hb F.out); replace R := Go.Lib.hid (row_next hb R.out); replace Z := Go.Lib.hid (row_next hb Z.out); (try (replace X := Go.Lib.hid (row_next hb X.out))); replace hB := Go.Lib.hid (below_next hB.out hb); clear hb)
    | ((with_reducible refine wlOp (.store 36 (.tmp 8) (.tmp 16)) rfl ?_); refine wpList_storeall rfl 36 (.tmp 8) (.tmp 16) rfl w2.heap.size rfl 2 (spAt 0 0) (spAt q1 q2) rfl 36 size_spot (heap_at _ _ _ rfl) (fun i _ => spAt_one _ _ i) ?_; rw [setRow_at _ _ _ _ _ rfl]; have X := Go.Lib.hid (heap_at w2 (.cells (vrow 2 (spAt q1 q2)) 36) _ rfl); have hb := (Below.refl _ w2).alloc (Nat.le_refl _) (.cells (vrow 2 (spAt q1 q2)) 36); replace P := Go.Lib.hid (row_next hb P.out); replace F := Go.Lib.hid (row_next hb F.out); replace R := Go.Lib.hid (row_next hb R.out); have hzl := row_lt Z.out; replace Z := Go.Lib.hid (row_next hb Z.out); replace hB := Go.Lib.hid (below_next hB.out hb); clear hb; generalize w2.heap.size = nb at X hzl ⊢; generalize w2.alloc _ = w3 at P F R Z X hB ⊢)
    | ((with_reducible refine wlAt 18 rfl ?_); refine wpList_loadall rfl 39 (.tmp 3) rfl w.heap.size rfl 266 s.at 39 _ Tryd.underlying39 rfl size_sheet P.out ?_)
    | ((with_reducible refine wlAt 19 rfl ?_); refine wpList_loadall rfl 36 (.tmp 8) rfl nb rfl 2 (spAt q1 q2) 36 _ Tryd.underlying36 rfl size_spot X.out ?_)
    | (go_at_call 63; (refine (HH.out _).mono ?_); rintro o w4 ⟨rfl, hb⟩; replace P := Go.Lib.hid (row_next hb P.out); replace F := Go.Lib.hid (row_next hb F.out); replace R := Go.Lib.hid (row_next hb R.out); replace Z := Go.Lib.hid (row_next hb Z.out); (try (replace X := Go.Lib.hid (row_next hb X.out))); replace hB := Go.Lib.hid (below_next hB.out hb); clear hb)
    | ((with_reducible refine wlOp (.store 36 (.tmp 6) (.tmp 26)) rfl ?_); refine wpList_storeall rfl 36 (.tmp 6) (.tmp 26) rfl (w.heap.size + 3) rfl 2 (spAt 0 0) (spAt 0 0) rfl 36 size_spot Z.out (fun i _ => spAt_one _ _ i) ?_; replace Z := Go.Lib.hid (row_set Z.out (vrow 2 (spAt 0 0))); replace hB := Go.Lib.hid (Below_setRow hB.out (show w.heap.size ≤ w.heap.size + 3 by omega) (vrow 2 (spAt 0 0)))))
  refine ret_row2 Tryd.results19 (w.heap.size + 3) 2 (spAt 0 0) 36 _ Tryd.underlying36 rfl size_spot (.int .i64 6) rfl rfl rfl Z.out ⟨rfl, hB.out⟩
end Go.Proofs.YthbhckalkkameaaDoor
