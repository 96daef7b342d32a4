import Derived.Deep.RegionHeld3
import Derived.Test.YtmcpaangofdmpaaDoorClos
import Derived.Test.YtmcpaangofdmpaaDoorTurn
import Derived.Test.YtmcpaangofdmpaaDoorCodeOf
namespace Go.Proofs.YtmcpaangofdmpaaDoor
open Go.RowKit
set_option maxRecDepth 100000
set_option linter.unusedVariables false
set_option linter.unusedSimpArgs false
/-- where a cell of the greater sheet comes from -/
def unX (d : Bool) (a x : Nat) : Nat := if d then x else if x < a then x else 2 * a - 1 - x
def unY (d : Bool) (c y : Nat) : Nat := if d then (if y < c then y else 2 * c - 1 - y) else y
set_option maxHeartbeats 4000000 in
theorem un1_in (s : Sh) (b b2 b3 : Nat) (x y both : Int) (fv : Value) (w : World) (h1 : w.heap[b]? = some (.cells (vrow 266 s.at) 34)) (h2 : w.heap[b2]? = some (.cells (vrow 1 fun _ => fv) 113)) (h3 : w.heap[b3]? = some (.cells (vrow 1 fun _ => .int .i8 both) 22)) (hh : hasB s x y = true) : Calls Tryd.prog 76 #[.agg (vrow 2 (spAt x y)), .pointer (some ⟨b, 0, none⟩), .pointer (some ⟨b2, 0, none⟩)] w fun e w' => e = .returned (.agg (vrow 2 (spAt x y))) ∧ Below w.heap.size w w' := by
  have HH := Go.Lib.hid fun w => has_any s x y w
  rw [hh] at HH
  have zs := zero_spot
  have hB : Hid (Below w.heap.size w ((w.alloc (.cells (vrow 2 (spAt x y)) 111)).alloc (.cells (vrow 2 (spAt 0 0)) 111))) := (((Below.refl w.heap.size w).alloc (by simp <;> omega) _).alloc (by simp <;> omega) _)
  have R : Hid (((w.alloc (.cells (vrow 2 (spAt x y)) 111)).alloc (.cells (vrow 2 (spAt 0 0)) 111)).heap[w.heap.size]? = some (.cells (vrow 2 (spAt x y)) 111)) := heap_past _ _ _ _ (by simp <;> omega) (heap_at _ _ _ (by simp))
  have Z : Hid (((w.alloc (.cells (vrow 2 (spAt x y)) 111)).alloc (.cells (vrow 2 (spAt 0 0)) 111)).heap[w.heap.size + 1]? = some (.cells (vrow 2 (spAt 0 0)) 111)) := heap_at _ _ _ (by simp)
  have r1 := row_lt h1; have r2 := row_lt h2; have r3 := row_lt h3
  have P : Hid (((w.alloc (.cells (vrow 2 (spAt x y)) 111)).alloc (.cells (vrow 2 (spAt 0 0)) 111)).heap[b]? = some (.cells (vrow 266 s.at) 34)) := heap_past _ _ _ _ (by simp <;> omega) (heap_past _ _ _ _ r1 h1)
  have T : Hid (((w.alloc (.cells (vrow 2 (spAt x y)) 111)).alloc (.cells (vrow 2 (spAt 0 0)) 111)).heap[b2]? = some (.cells (vrow 1 fun _ => fv) 113)) := heap_past _ _ _ _ (by simp <;> omega) (heap_past _ _ _ _ r2 h2)
  have U : Hid (((w.alloc (.cells (vrow 2 (spAt x y)) 111)).alloc (.cells (vrow 2 (spAt 0 0)) 111)).heap[b3]? = some (.cells (vrow 1 fun _ => .int .i8 both) 22)) := heap_past _ _ _ _ (by simp <;> omega) (heap_past _ _ _ _ r3 h3)
  clear h1 h2 h3 hh
  go_enter Tryd.func76, Tryd.ntmps76
  go_wp2_with (first
    | go_skip
    | ((with_reducible refine wlAt 5 rfl ?_); refine wpList_loadall rfl 34 (.tmp 1) rfl b rfl 266 s.at 34 _ Tryd.underlying34 rfl size_sheet P.out ?_)
    | (refine wpList_loadall rfl 111 (.tmp 3) rfl w.heap.size rfl 2 (spAt x y) 111 _ Tryd.underlying111 rfl size_spot R.out ?_)
    | (go_at_call 77; (refine (HH.out _).mono ?_); rintro o w1 ⟨rfl, hb⟩; replace P := Go.Lib.hid (row_next hb P.out); replace R := Go.Lib.hid (row_next hb R.out); replace Z := Go.Lib.hid (row_next hb Z.out); replace T := Go.Lib.hid (row_next hb T.out); replace U := Go.Lib.hid (row_next hb U.out); replace hB := Go.Lib.hid (below_next hB.out hb); clear hb)
    | ((with_reducible refine wlOp (.store 111 (.tmp 4) (.tmp 8)) rfl ?_); refine wpList_storeall rfl 111 (.tmp 4) (.tmp 8) rfl (w.heap.size + 1) rfl 2 (spAt 0 0) (spAt x y) rfl 111 size_spot Z.out (fun i _ => spAt_one _ _ i) ?_; replace Z := Go.Lib.hid (row_set Z.out (vrow 2 (spAt x y))); replace hB := Go.Lib.hid (Below_setRow hB.out (show w.heap.size ≤ w.heap.size + 1 by omega) (vrow 2 (spAt x y)))))
  refine ret_row Tryd.results76 (w.heap.size + 1) 2 (spAt x y) 111 _ Tryd.underlying111 rfl size_spot rfl rfl Z.out ?_
  exact ⟨rfl, hB.out⟩
set_option maxHeartbeats 4000000 in
theorem un1_v (s : Sh) (b b2 b3 : Nat) (x y both : Int) (w : World) (h1 : w.heap[b]? = some (.cells (vrow 266 s.at) 34)) (h2 : w.heap[b2]? = some (.cells (vrow 1 fun _ => .func (.func 117) #[] #[.pointer (some ⟨b3, 0, none⟩)]) 113)) (h3 : w.heap[b3]? = some (.cells (vrow 1 fun _ => .int .i8 both) 22)) (hh : hasB s x y = false) (hw : -128 ≤ both - x ∧ both - x ≤ 127) : Calls Tryd.prog 76 #[.agg (vrow 2 (spAt x y)), .pointer (some ⟨b, 0, none⟩), .pointer (some ⟨b2, 0, none⟩)] w fun e w' => e = .returned (.agg (vrow 2 (spAt (both - x) y))) ∧ Below w.heap.size w w' := by
  have HH := Go.Lib.hid fun w => has_any s x y w
  rw [hh] at HH
  have zs := zero_spot
  have hB : Hid (Below w.heap.size w ((w.alloc (.cells (vrow 2 (spAt x y)) 111)).alloc (.cells (vrow 2 (spAt 0 0)) 111))) := (((Below.refl w.heap.size w).alloc (by simp <;> omega) _).alloc (by simp <;> omega) _)
  have R : Hid (((w.alloc (.cells (vrow 2 (spAt x y)) 111)).alloc (.cells (vrow 2 (spAt 0 0)) 111)).heap[w.heap.size]? = some (.cells (vrow 2 (spAt x y)) 111)) := heap_past _ _ _ _ (by simp <;> omega) (heap_at _ _ _ (by simp))
  have Z : Hid (((w.alloc (.cells (vrow 2 (spAt x y)) 111)).alloc (.cells (vrow 2 (spAt 0 0)) 111)).heap[w.heap.size + 1]? = some (.cells (vrow 2 (spAt 0 0)) 111)) := heap_at _ _ _ (by simp)
  have r1 := row_lt h1; have r2 := row_lt h2; have r3 := row_lt h3
  have P : Hid (((w.alloc (.cells (vrow 2 (spAt x y)) 111)).alloc (.cells (vrow 2 (spAt 0 0)) 111)).heap[b]? = some (.cells (vrow 266 s.at) 34)) := heap_past _ _ _ _ (by simp <;> omega) (heap_past _ _ _ _ r1 h1)
  have T : Hid (((w.alloc (.cells (vrow 2 (spAt x y)) 111)).alloc (.cells (vrow 2 (spAt 0 0)) 111)).heap[b2]? = some (.cells (vrow 1 fun _ => .func (.func 117) #[] #[.pointer (some ⟨b3, 0, none⟩)]) 113)) := heap_past _ _ _ _ (by simp <;> omega) (heap_past _ _ _ _ r2 h2)
  have U : Hid (((w.alloc (.cells (vrow 2 (spAt x y)) 111)).alloc (.cells (vrow 2 (spAt 0 0)) 111)).heap[b3]? = some (.cells (vrow 1 fun _ => .int .i8 both) 22)) := heap_past _ _ _ _ (by simp <;> omega) (heap_past _ _ _ _ r3 h3)
  clear h1 h2 h3 hh
  go_enter Tryd.func76, Tryd.ntmps76
  go_wp2_with (first
    | go_skip
    | ((with_reducible refine wlAt 5 rfl ?_); refine wpList_loadall rfl 34 (.tmp 1) rfl b rfl 266 s.at 34 _ Tryd.underlying34 rfl size_sheet P.out ?_)
    | (refine wpList_loadall rfl 111 (.tmp 3) rfl w.heap.size rfl 2 (spAt x y) 111 _ Tryd.underlying111 rfl size_spot R.out ?_)
    | (go_at_call 77; (refine (HH.out _).mono ?_); rintro o w1 ⟨rfl, hb⟩; replace P := Go.Lib.hid (row_next hb P.out); replace R := Go.Lib.hid (row_next hb R.out); replace Z := Go.Lib.hid (row_next hb Z.out); replace T := Go.Lib.hid (row_next hb T.out); replace U := Go.Lib.hid (row_next hb U.out); replace hB := Go.Lib.hid (below_next hB.out hb); clear hb)
    | ((with_reducible refine wlAt 9 rfl ?_); refine wpList_load1 rfl 113 (.tmp 2) rfl b2 0 rfl 1 (fun _ => .func (.func 117) #[] #[.pointer (some ⟨b3, 0, none⟩)]) _ _ Tryd.underlying113 rfl T.out (by omega) ?_)
    | (go_at_call 117; (refine (turn2_any x y both b3 _ U.out hw).mono ?_); rintro o w1 ⟨rfl, hb⟩; replace P := Go.Lib.hid (row_next hb P.out); replace R := Go.Lib.hid (row_next hb R.out); replace Z := Go.Lib.hid (row_next hb Z.out); replace T := Go.Lib.hid (row_next hb T.out); replace U := Go.Lib.hid (row_next hb U.out); replace hB := Go.Lib.hid (below_next hB.out hb); clear hb)
    | ((with_reducible refine wlOp (.store 111 (.tmp 4) (.tmp 11)) rfl ?_); refine wpList_storeall rfl 111 (.tmp 4) (.tmp 11) rfl (w.heap.size + 1) rfl 2 (spAt 0 0) (spAt (both - x) y) rfl 111 size_spot Z.out (fun i _ => spAt_one _ _ i) ?_; replace Z := Go.Lib.hid (row_set Z.out (vrow 2 (spAt (both - x) y))); replace hB := Go.Lib.hid (Below_setRow hB.out (show w.heap.size ≤ w.heap.size + 1 by omega) (vrow 2 (spAt (both - x) y)))))
  refine ret_row Tryd.results76 (w.heap.size + 1) 2 (spAt (both - x) y) 111 _ Tryd.underlying111 rfl size_spot rfl rfl Z.out ?_
  exact ⟨rfl, hB.out⟩
set_option maxHeartbeats 4000000 in
theorem un1_h (s : Sh) (b b2 b3 : Nat) (x y both : Int) (w : World) (h1 : w.heap[b]? = some (.cells (vrow 266 s.at) 34)) (h2 : w.heap[b2]? = some (.cells (vrow 1 fun _ => .func (.func 116) #[] #[.pointer (some ⟨b3, 0, none⟩)]) 113)) (h3 : w.heap[b3]? = some (.cells (vrow 1 fun _ => .int .i8 both) 22)) (hh : hasB s x y = false) (hw : -128 ≤ both - y ∧ both - y ≤ 127) : Calls Tryd.prog 76 #[.agg (vrow 2 (spAt x y)), .pointer (some ⟨b, 0, none⟩), .pointer (some ⟨b2, 0, none⟩)] w fun e w' => e = .returned (.agg (vrow 2 (spAt x (both - y)))) ∧ Below w.heap.size w w' := by
  have HH := Go.Lib.hid fun w => has_any s x y w
  rw [hh] at HH
  have zs := zero_spot
  have hB : Hid (Below w.heap.size w ((w.alloc (.cells (vrow 2 (spAt x y)) 111)).alloc (.cells (vrow 2 (spAt 0 0)) 111))) := (((Below.refl w.heap.size w).alloc (by simp <;> omega) _).alloc (by simp <;> omega) _)
  have R : Hid (((w.alloc (.cells (vrow 2 (spAt x y)) 111)).alloc (.cells (vrow 2 (spAt 0 0)) 111)).heap[w.heap.size]? = some (.cells (vrow 2 (spAt x y)) 111)) := heap_past _ _ _ _ (by simp <;> omega) (heap_at _ _ _ (by simp))
  have Z : Hid (((w.alloc (.cells (vrow 2 (spAt x y)) 111)).alloc (.cells (vrow 2 (spAt 0 0)) 111)).heap[w.heap.size + 1]? = some (.cells (vrow 2 (spAt 0 0)) 111)) := heap_at _ _ _ (by simp)
  have r1 := row_lt h1; have r2 := row_lt h2; have r3 := row_lt h3
  have P : Hid (((w.alloc (.cells (vrow 2 (spAt x y)) 111)).alloc (.cells (vrow 2 (spAt 0 0)) 111)).heap[b]? = some (.cells (vrow 266 s.at) 34)) := heap_past _ _ _ _ (by simp <;> omega) (heap_past _ _ _ _ r1 h1)
  have T : Hid (((w.alloc (.cells (vrow 2 (spAt x y)) 111)).alloc (.cells (vrow 2 (spAt 0 0)) 111)).heap[b2]? = some (.cells (vrow 1 fun _ => .func (.func 116) #[] #[.pointer (some ⟨b3, 0, none⟩)]) 113)) := heap_past _ _ _ _ (by simp <;> omega) (heap_past _ _ _ _ r2 h2)
  have U : Hid (((w.alloc (.cells (vrow 2 (spAt x y)) 111)).alloc (.cells (vrow 2 (spAt 0 0)) 111)).heap[b3]? = some (.cells (vrow 1 fun _ => .int .i8 both) 22)) := heap_past _ _ _ _ (by simp <;> omega) (heap_past _ _ _ _ r3 h3)
  clear h1 h2 h3 hh
  go_enter Tryd.func76, Tryd.ntmps76
  go_wp2_with (first
    | go_skip
    | ((with_reducible refine wlAt 5 rfl ?_); refine wpList_loadall rfl 34 (.tmp 1) rfl b rfl 266 s.at 34 _ Tryd.underlying34 rfl size_sheet P.out ?_)
    | (refine wpList_loadall rfl 111 (.tmp 3) rfl w.heap.size rfl 2 (spAt x y) 111 _ Tryd.underlying111 rfl size_spot R.out ?_)
    | (go_at_call 77; (refine (HH.out _).mono ?_); rintro o w1 ⟨rfl, hb⟩; replace P := Go.Lib.hid (row_next hb P.out); replace R := Go.Lib.hid (row_next hb R.out); replace Z := Go.Lib.hid (row_next hb Z.out); replace T := Go.Lib.hid (row_next hb T.out); replace U := Go.Lib.hid (row_next hb U.out); replace hB := Go.Lib.hid (below_next hB.out hb); clear hb)
    | ((with_reducible refine wlAt 9 rfl ?_); refine wpList_load1 rfl 113 (.tmp 2) rfl b2 0 rfl 1 (fun _ => .func (.func 116) #[] #[.pointer (some ⟨b3, 0, none⟩)]) _ _ Tryd.underlying113 rfl T.out (by omega) ?_)
    | (go_at_call 116; (refine (turn1_any x y both b3 _ U.out hw).mono ?_); rintro o w1 ⟨rfl, hb⟩; replace P := Go.Lib.hid (row_next hb P.out); replace R := Go.Lib.hid (row_next hb R.out); replace Z := Go.Lib.hid (row_next hb Z.out); replace T := Go.Lib.hid (row_next hb T.out); replace U := Go.Lib.hid (row_next hb U.out); replace hB := Go.Lib.hid (below_next hB.out hb); clear hb)
    | ((with_reducible refine wlOp (.store 111 (.tmp 4) (.tmp 11)) rfl ?_); refine wpList_storeall rfl 111 (.tmp 4) (.tmp 11) rfl (w.heap.size + 1) rfl 2 (spAt 0 0) (spAt x (both - y)) rfl 111 size_spot Z.out (fun i _ => spAt_one _ _ i) ?_; replace Z := Go.Lib.hid (row_set Z.out (vrow 2 (spAt x (both - y)))); replace hB := Go.Lib.hid (Below_setRow hB.out (show w.heap.size ≤ w.heap.size + 1 by omega) (vrow 2 (spAt x (both - y))))))
  refine ret_row Tryd.results76 (w.heap.size + 1) 2 (spAt x (both - y)) 111 _ Tryd.underlying111 rfl size_spot rfl rfl Z.out ?_
  exact ⟨rfl, hB.out⟩
/-- the closure, for a cell of the greater sheet -/
theorem un1_any (s : Sh) (b b2 b3 a c : Nat) (d : Bool) (both : Int) (x y : Nat) (w : World) (h1 : w.heap[b]? = some (.cells (vrow 266 s.at) 34)) (h2 : w.heap[b2]? = some (.cells (vrow 1 fun _ => turnV d b3) 113)) (h3 : w.heap[b3]? = some (.cells (vrow 1 fun _ => .int .i8 both) 22)) (ea : s.wide = a) (ec : s.high = c) (ha : 1 ≤ a ∧ a ≤ 8) (hc : 1 ≤ c ∧ c ≤ 8) (hb : both = if d then 2 * (c : Int) - 1 else 2 * (a : Int) - 1) (hx : x < if d then a else 2 * a) (hy : y < if d then 2 * c else c) : Calls Tryd.prog 76 #[.agg (vrow 2 (spAt x y)), .pointer (some ⟨b, 0, none⟩), .pointer (some ⟨b2, 0, none⟩)] w fun e w' => e = .returned (.agg (vrow 2 (spAt (unX d a x) (unY d c y)))) ∧ Below w.heap.size w w' := by
  have hh : hasB s x y = (decide (x < a) && decide (y < c)) := by
    rw [Bool.eq_iff_iff]; simp [hasB, ea, ec] <;> omega
  cases d
  · simp only [Bool.false_eq_true, if_false] at hb hx hy
    by_cases h : x < a
    · have e := un1_in s b b2 b3 x y both _ w h1 h2 h3 (by rw [hh]; simp [h, hy])
      simp only [unX, unY, Bool.false_eq_true, if_false, if_pos h]
      exact e
    · have e := un1_v s b b2 b3 x y both w h1 h2 h3 (by rw [hh]; simp [h]) (by omega)
      have e2 : both - x = ((2 * a - 1 - x : Nat) : Int) := by omega
      simp only [unX, unY, Bool.false_eq_true, if_false, if_neg h]
      rw [← e2]
      exact e
  · simp only [if_true] at hb hx hy
    by_cases h : y < c
    · have e := un1_in s b b2 b3 x y both _ w h1 h2 h3 (by rw [hh]; simp [h, hx])
      simp only [unX, unY, if_true, if_pos h]
      exact e
    · have e := un1_h s b b2 b3 x y both w h1 h2 h3 (by rw [hh]; simp [h]) (by omega)
      have e2 : both - y = ((2 * c - 1 - y : Nat) : Int) := by omega
      simp only [unX, unY, if_true, if_neg h]
      rw [← e2]
      exact e
end Go.Proofs.YtmcpaangofdmpaaDoor
