import Derived.Test.YtmcpaangofdmpaaDoorUnlS
namespace Go.Proofs.YtmcpaangofdmpaaDoor
open Go.RowKit
set_option maxRecDepth 100000
set_option linter.unusedVariables false
set_option linter.unusedSimpArgs false
set_option maxHeartbeats 1000000 in
theorem turn1_any (x y both : Int) (b : Nat) (w : World) (hs : w.heap[b]? = some (.cells (vrow 1 fun _ => .int .i8 both) 22)) (hw : -128 ≤ both - y ∧ both - y ≤ 127) : Calls Tryd.prog 116 #[.agg (vrow 2 (spAt x y)), .pointer (some ⟨b, 0, none⟩)] w fun e w' => e = .returned (.agg (vrow 2 (spAt x (both - y)))) ∧ Below w.heap.size w w' := by
  have zs := zero_spot
  have hq : IntKind.i8.wrap (both - y) = both - y := IntWalk.i8_in _ hw
  have hB : Hid (Below w.heap.size w ((w.alloc (.cells (vrow 2 (spAt x y)) 111)).alloc (.cells (vrow 2 (spAt 0 0)) 111))) := (((Below.refl w.heap.size w).alloc (by simp <;> omega) _).alloc (by simp <;> omega) _)
  have R : Hid (((w.alloc (.cells (vrow 2 (spAt x y)) 111)).alloc (.cells (vrow 2 (spAt 0 0)) 111)).heap[w.heap.size]? = some (.cells (vrow 2 (spAt x y)) 111)) := heap_past _ _ _ _ (by first | omega | (simp <;> omega)) (heap_at _ _ _ (by simp))
  have Z : Hid (((w.alloc (.cells (vrow 2 (spAt x y)) 111)).alloc (.cells (vrow 2 (spAt 0 0)) 111)).heap[w.heap.size + 1]? = some (.cells (vrow 2 (spAt 0 0)) 111)) := heap_at _ _ _ (by simp)
  have C : Hid (((w.alloc (.cells (vrow 2 (spAt x y)) 111)).alloc (.cells (vrow 2 (spAt 0 0)) 111)).heap[b]? = some (.cells (vrow 1 fun _ => .int .i8 both) 22)) := heap_past _ _ _ _ (by first | (have := row_lt hs; omega) | (have := row_lt hs; simp <;> omega)) (heap_past _ _ _ _ (by first | (have := row_lt hs; omega) | (have := row_lt hs; simp <;> omega)) (hs))
  go_enter Tryd.func116, Tryd.ntmps116
  go_wp2_with (first
    | ((with_reducible refine wlOp (.load 22 (.tmp 1)) rfl ?_); refine wpList_load1 rfl 22 (.tmp 1) rfl b 0 rfl 1 (fun _ => .int .i8 both) _ _ Tryd.underlying22 rfl C.out (by omega) ?_)
    | (refine wpList_load1 rfl 22 _ rfl (w.heap.size) _ rfl 2 (spAt x y) _ _ Tryd.underlying22 rfl R.out (by omega) ?_; (first | rw [spAt_0] | rw [spAt_1]))
    | ((with_reducible refine wlOp (.store 111 (.tmp 3) (.tmp 10)) rfl ?_); refine wpList_storeall rfl 111 (.tmp 3) (.tmp 10) rfl (w.heap.size + 1) rfl 2 (spAt 0 0) (spAt x (both - y)) rfl 111 size_spot Z.out (fun i _ => spAt_one _ _ i) ?_; replace Z := Go.Lib.hid (row_set Z.out (vrow 2 (spAt x (both - y)))); replace hB := Go.Lib.hid (Below_setRow hB.out (show w.heap.size ≤ w.heap.size + 1 by omega) (vrow 2 (spAt x (both - y))))))
  refine ret_row Tryd.results116 (w.heap.size + 1) 2 (spAt x (both - y)) 111 _ Tryd.underlying111 rfl size_spot rfl rfl Z.out ?_
  exact ⟨rfl, hB.out⟩
set_option maxHeartbeats 1000000 in
theorem turn2_any (x y both : Int) (b : Nat) (w : World) (hs : w.heap[b]? = some (.cells (vrow 1 fun _ => .int .i8 both) 22)) (hw : -128 ≤ both - x ∧ both - x ≤ 127) : Calls Tryd.prog 117 #[.agg (vrow 2 (spAt x y)), .pointer (some ⟨b, 0, none⟩)] w fun e w' => e = .returned (.agg (vrow 2 (spAt (both - x) y))) ∧ Below w.heap.size w w' := by
  have zs := zero_spot
  have hq : IntKind.i8.wrap (both - x) = both - x := IntWalk.i8_in _ hw
  have hB : Hid (Below w.heap.size w ((w.alloc (.cells (vrow 2 (spAt x y)) 111)).alloc (.cells (vrow 2 (spAt 0 0)) 111))) := (((Below.refl w.heap.size w).alloc (by simp <;> omega) _).alloc (by simp <;> omega) _)
  have R : Hid (((w.alloc (.cells (vrow 2 (spAt x y)) 111)).alloc (.cells (vrow 2 (spAt 0 0)) 111)).heap[w.heap.size]? = some (.cells (vrow 2 (spAt x y)) 111)) := heap_past _ _ _ _ (by first | omega | (simp <;> omega)) (heap_at _ _ _ (by simp))
  have Z : Hid (((w.alloc (.cells (vrow 2 (spAt x y)) 111)).alloc (.cells (vrow 2 (spAt 0 0)) 111)).heap[w.heap.size + 1]? = some (.cells (vrow 2 (spAt 0 0)) 111)) := heap_at _ _ _ (by simp)
  have C : Hid (((w.alloc (.cells (vrow 2 (spAt x y)) 111)).alloc (.cells (vrow 2 (spAt 0 0)) 111)).heap[b]? = some (.cells (vrow 1 fun _ => .int .i8 both) 22)) := heap_past _ _ _ _ (by first | (have := row_lt hs; omega) | (have := row_lt hs; simp <;> omega)) (heap_past _ _ _ _ (by first | (have := row_lt hs; omega) | (have := row_lt hs; simp <;> omega)) (hs))
  go_enter Tryd.func117, Tryd.ntmps117
  go_wp2_with (first
    | ((with_reducible refine wlOp (.load 22 (.tmp 1)) rfl ?_); refine wpList_load1 rfl 22 (.tmp 1) rfl b 0 rfl 1 (fun _ => .int .i8 both) _ _ Tryd.underlying22 rfl C.out (by omega) ?_)
    | (refine wpList_load1 rfl 22 _ rfl (w.heap.size) _ rfl 2 (spAt x y) _ _ Tryd.underlying22 rfl R.out (by omega) ?_; (first | rw [spAt_0] | rw [spAt_1]))
    | ((with_reducible refine wlOp (.store 111 (.tmp 3) (.tmp 10)) rfl ?_); refine wpList_storeall rfl 111 (.tmp 3) (.tmp 10) rfl (w.heap.size + 1) rfl 2 (spAt 0 0) (spAt (both - x) y) rfl 111 size_spot Z.out (fun i _ => spAt_one _ _ i) ?_; replace Z := Go.Lib.hid (row_set Z.out (vrow 2 (spAt (both - x) y))); replace hB := Go.Lib.hid (Below_setRow hB.out (show w.heap.size ≤ w.heap.size + 1 by omega) (vrow 2 (spAt (both - x) y)))))
  refine ret_row Tryd.results117 (w.heap.size + 1) 2 (spAt (both - x) y) 111 _ Tryd.underlying111 rfl size_spot rfl rfl Z.out ?_
  exact ⟨rfl, hB.out⟩
theorem size_i8T : (Tryd.prog.info? 22).map (·.size) = some 1 := by kernel_rfl
theorem zero_i8T : ∀ w, (zeroValue 22).run Tryd.prog w = .ok (.int .i8 0) w := fun _ => by kernel_rfl
/-- the closure that turns: where its box lies -/
def turnV (d : Bool) (b : Nat) : Value := if d then .func (.func 116) #[] #[.pointer (some ⟨b, 0, none⟩)] else .func (.func 117) #[] #[.pointer (some ⟨b, 0, none⟩)]
set_option maxHeartbeats 2000000 in
theorem turn_any (ax : Int) (d : Bool) (p : Int) (w : World) (hax : 1 ≤ ax ∧ ax ≤ 8) : Calls Tryd.prog 74 #[.agg #[.int .i8 ax, .bool d, .int .i8 p]] w fun e w' => e = .returned (turnV d (w.heap.size + 1)) ∧ w'.heap[w.heap.size + 1]? = some (.cells (vrow 1 fun _ => .int .i8 (2 * ax - 1)) 22) ∧ Below w.heap.size w w' := by
  have z8 := zero_i8T
  have hmf : ∀ (fn : Fn) (first cap : Array Value) (w : World), (Instr.makeFunc fn first cap).run Tryd.prog w = .ok (.func fn first cap) w := fun _ _ _ _ => rfl
  have hq1 : IntKind.i8.wrap (2 * ax) = 2 * ax := IntWalk.i8_in _ (by omega)
  have hq2 : IntKind.i8.wrap (2 * ax - 1) = 2 * ax - 1 := IntWalk.i8_in _ (by omega)
  rw [fo_vrow]
  have hB : Hid (Below w.heap.size w (w.alloc (.cells (vrow 3 (foAt ax d p)) 38))) := Go.Lib.hid ((Below.refl w.heap.size w).alloc (Nat.le_refl _) _)
  have P : Hid ((w.alloc (.cells (vrow 3 (foAt ax d p)) 38)).heap[w.heap.size]? = some (.cells (vrow 3 (foAt ax d p)) 38)) := Go.Lib.hid (heap_at _ _ _ rfl)
  have hs1 : (w.alloc (.cells (vrow 3 (foAt ax d p)) 38)).heap.size = w.heap.size + 1 := by simp
  cases d <;>
  · go_enter Tryd.func74, Tryd.ntmps74
    go_wp2_with (first
      | go_skip
      | ((with_reducible refine wlAt 5 rfl ?_); refine wpList_load1 rfl 22 (.tmp 4) rfl w.heap.size 0 rfl 3 (foAt ax _ p) _ _ Tryd.underlying22 rfl P.out (by omega) ?_; rw [foAt_0])
      | ((with_reducible refine wlAt 9 rfl ?_); refine wpList_load1 rfl 4 (.tmp 8) rfl w.heap.size 1 rfl 3 (foAt ax _ p) _ _ Tryd.underlying4 rfl (heap_past _ _ _ _ (row_lt P.out) P.out) (by omega) ?_; rw [foAt_1]))
    go_ret
    exact ⟨rfl, heap_at _ _ _ (by simp), hB.out.alloc hB.out.size _⟩
set_option maxHeartbeats 2000000 in
theorem must_ok (s : Sh) (ax : Int) (d : Bool) (p : Int) (w : World) (hv : (okI s && foldOk s ax d p) = true) (hf : s.fit := by assumption) : Calls Tryd.prog 112 #[.agg #[.int .i8 ax, .bool d, .int .i8 p], .agg s.row] w fun e w' => e = .returned (.tuple #[]) ∧ Below w.heap.size w w' := by
  have HV := Go.Lib.hid fun w => implVF s ax d p w
  rw [hv] at HV
  rw [fo_vrow]
  have hB : Hid (Below w.heap.size w ((w.alloc (.cells (vrow 3 (foAt ax d p)) 38)).alloc (.cells (vrow 266 s.at) 34))) := Go.Lib.hid (((Below.refl w.heap.size w).alloc (by simp <;> omega) _).alloc (by simp <;> omega) _)
  have R : Hid (((w.alloc (.cells (vrow 3 (foAt ax d p)) 38)).alloc (.cells (vrow 266 s.at) 34)).heap[w.heap.size]? = some (.cells (vrow 3 (foAt ax d p)) 38)) := heap_past _ _ _ _ (by first | omega | (simp <;> omega)) (heap_at _ _ _ (by simp))
  have P : Hid (((w.alloc (.cells (vrow 3 (foAt ax d p)) 38)).alloc (.cells (vrow 266 s.at) 34)).heap[w.heap.size + 1]? = some (.cells (vrow 266 s.at) 34)) := heap_at _ _ _ (by simp)
  go_enter Tryd.func112, Tryd.ntmps112
  go_wp2_with (first
    | go_skip
    | ((with_reducible refine wlAt 4 rfl ?_); refine wpList_loadall rfl 34 (.tmp 3) rfl (w.heap.size + 1) rfl 266 s.at 34 _ Tryd.underlying34 rfl size_sheet P.out ?_)
    | ((with_reducible refine wlAt 5 rfl ?_); refine wpList_loadall rfl 38 (.tmp 2) rfl w.heap.size rfl 3 (foAt ax d p) 38 _ Tryd.underlying38 rfl size_fold R.out ?_)
    | ((with_reducible refine wlAt 8 rfl ?_); refine wpList_loadall rfl 38 (.tmp 2) rfl w.heap.size rfl 3 (foAt ax d p) 38 _ Tryd.underlying38 rfl size_fold R.out ?_)
    | (go_at_call 139; (refine (HV.out _).mono ?_); rintro o w1 ⟨rfl, hb⟩; replace R := Go.Lib.hid (row_next hb R.out); replace P := Go.Lib.hid (row_next hb P.out); replace hB := Go.Lib.hid (below_next hB.out hb); clear hb))
  go_end0
  exact ⟨rfl, hB.out⟩
set_option maxHeartbeats 2000000 in
theorem must_bad (s : Sh) (ax : Int) (d : Bool) (p : Int) (w : World) (hv : (okI s && foldOk s ax d p) = false) (hf : s.fit := by assumption) : Calls Tryd.prog 112 #[.agg #[.int .i8 ax, .bool d, .int .i8 p], .agg s.row] w fun e w' => e = .panicked [{ v := .iface 179 (.agg #[.int .i8 ax, .bool d, .int .i8 p]), recovered := false }] ∧ Below w.heap.size w w' := by
  have HV := Go.Lib.hid fun w => implVF s ax d p w
  rw [hv] at HV
  rw [fo_vrow]
  have hB : Hid (Below w.heap.size w ((w.alloc (.cells (vrow 3 (foAt ax d p)) 38)).alloc (.cells (vrow 266 s.at) 34))) := Go.Lib.hid (((Below.refl w.heap.size w).alloc (by simp <;> omega) _).alloc (by simp <;> omega) _)
  have R : Hid (((w.alloc (.cells (vrow 3 (foAt ax d p)) 38)).alloc (.cells (vrow 266 s.at) 34)).heap[w.heap.size]? = some (.cells (vrow 3 (foAt ax d p)) 38)) := heap_past _ _ _ _ (by first | omega | (simp <;> omega)) (heap_at _ _ _ (by simp))
  have P : Hid (((w.alloc (.cells (vrow 3 (foAt ax d p)) 38)).alloc (.cells (vrow 266 s.at) 34)).heap[w.heap.size + 1]? = some (.cells (vrow 266 s.at) 34)) := heap_at _ _ _ (by simp)
  go_enter Tryd.func112, Tryd.ntmps112
  go_wp2_with (first
    | go_skip
    | ((with_reducible refine wlAt 4 rfl ?_); refine wpList_loadall rfl 34 (.tmp 3) rfl (w.heap.size + 1) rfl 266 s.at 34 _ Tryd.underlying34 rfl size_sheet P.out ?_)
    | ((with_reducible refine wlAt 5 rfl ?_); refine wpList_loadall rfl 38 (.tmp 2) rfl w.heap.size rfl 3 (foAt ax d p) 38 _ Tryd.underlying38 rfl size_fold R.out ?_)
    | ((with_reducible refine wlAt 8 rfl ?_); refine wpList_loadall rfl 38 (.tmp 2) rfl w.heap.size rfl 3 (foAt ax d p) 38 _ Tryd.underlying38 rfl size_fold R.out ?_)
    | (go_at_call 139; (refine (HV.out _).mono ?_); rintro o w1 ⟨rfl, hb⟩; replace R := Go.Lib.hid (row_next hb R.out); replace P := Go.Lib.hid (row_next hb P.out); replace hB := Go.Lib.hid (below_next hB.out hb); clear hb))
  exact ⟨rfl, rfl, hB.out⟩
end Go.Proofs.YtmcpaangofdmpaaDoor
