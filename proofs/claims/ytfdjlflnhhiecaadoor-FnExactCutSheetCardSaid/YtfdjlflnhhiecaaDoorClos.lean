import Derived.Test.YtfdjlflnhhiecaaDoorG1
import Derived.Deep.RegionHeld3
import Derived.Test.YtfdjlflnhhiecaaDoorArr
namespace Go.Proofs.YtfdjlflnhhiecaaDoor
open Go.RowKit
set_option maxRecDepth 100000
set_option linter.unusedVariables false
set_option linter.unusedSimpArgs false
set_option linter.unusedSimpArgs false
theorem loadoneIn {r n' : Nat} {P : Program} {ops : Array Oper} {rest : List Oper} {o : Oper} {a : Act} {w : World} {Q : Exit → Act → World → Prop} (hgd : o.guard = none) (ty : TypeId) (x : Operand) (ho : o.op = .load ty x)
    (b off : Nat) (hx : a.eval x = .pointer (some ⟨b, off, none⟩)) (n : Nat) (f : Nat → Value) (t : TypeId) (d : TypeDesc) (hu : P.underlying ty = some d) (hd : d.isRow = false)
    (hg : w.heap[b]? = some (.cells (vrow n f) t)) (hb : off < n)
    (h : wpListIn (Fence.wide.inRound r) n' P ops Q rest (a.put o.dst (f off)) w) : wpListIn (Fence.wide.inRound r) n' P ops Q (o :: rest) a w := by
  have hc := cell_row hg hb
  have hr : (Instr.loadAt ty (.pointer (some ⟨b, off, none⟩))).run P w = .ok (f off) w := by
    simp only [Instr.loadAt, Instr.sureAddr, Sem.run_bind, Sem.run_pure, Result.andThen_ok, loadVar, run_isAgg_row w ty d hu, hd, Bool.false_eq_true, if_false, run_load, hc]
  exact valuedIn hgd (fun c hc => by rw [ho] at hc; cases hc) (by unfold execOp; simp only [ho, hx, Sem.run_bind, hr, Result.andThen_ok, Sem.run_pure]) h
theorem run_ld1 {P : Program} {o : Oper} {a : Act} {w : World} {K : Act → World → Prop} {Q : Exit → Act → World → Prop} (ty : TypeId) (x : Operand) (ho : o.op = .load ty x)
    (b off : Nat) (hx : a.eval x = .pointer (some ⟨b, off, none⟩)) (n : Nat) (f : Nat → Value) (t : TypeId) (d : TypeDesc) (hu : P.underlying ty = some d) (hd : d.isRow = false)
    (hg : w.heap[b]? = some (.cells (vrow n f) t)) (hb : off < n) : o.upon P a K Q ((execOp a.eval o).run P w) = K (a.put o.dst (f off)) w := by
  have hc := cell_row hg hb
  have hr : (Instr.loadAt ty (.pointer (some ⟨b, off, none⟩))).run P w = .ok (f off) w := by
    simp only [Instr.loadAt, Instr.sureAddr, Sem.run_bind, Sem.run_pure, Result.andThen_ok, loadVar, run_isAgg_row w ty d hu, hd, Bool.false_eq_true, if_false, run_load, hc]
  unfold execOp
  simp only [ho, hx, Sem.run_bind, hr, Result.andThen_ok, Sem.run_pure]
  rfl
set_option maxHeartbeats 1000000 in
theorem turC (b x y : Nat) (s : Sh) (c : Nat) (w : World) (hs : w.heap[b]? = some (.cells s.row 36)) (ec : s.high = c) (hc : c ≤ 8) (hx : x < c) (hy : y < 8) : Calls Tryd.prog 69 #[.agg (vrow 2 (spAt x y)), .pointer (some ⟨b, 0, none⟩)] w fun e w' => e = .returned (.agg (vrow 2 (spAt ((y : Nat) : Int) ((c - 1 - x : Nat) : Int)))) ∧ Below w.heap.size w w' := by
  have e1 : ((y : Nat) : Int) = y := by omega
  have e2 : ((c - 1 - x : Nat) : Int) = (c : Int) - 1 - x := by omega
  rw [e1, e2]
  have zs := zero_spot
  have hB : Hid (Below w.heap.size w ((w.alloc (.cells (vrow 2 (spAt x y)) 38)).alloc (.cells (vrow 2 (spAt 0 0)) 38))) := (((Below.refl w.heap.size w).alloc (by simp <;> omega) _).alloc (by simp <;> omega) _)
  have R : Hid (((w.alloc (.cells (vrow 2 (spAt x y)) 38)).alloc (.cells (vrow 2 (spAt 0 0)) 38)).heap[(w.heap.size)]? = some (.cells (vrow 2 (spAt x y)) 38)) := heap_past _ _ _ _ (by first | omega | (simp <;> omega)) (heap_at _ _ _ (by simp))
  have Z : Hid (((w.alloc (.cells (vrow 2 (spAt x y)) 38)).alloc (.cells (vrow 2 (spAt 0 0)) 38)).heap[(w.heap.size + 1)]? = some (.cells (vrow 2 (spAt 0 0)) 38)) := heap_at _ _ _ (by simp)
  have P : Hid (((w.alloc (.cells (vrow 2 (spAt x y)) 38)).alloc (.cells (vrow 2 (spAt 0 0)) 38)).heap[b]? = some (.cells (vrow 266 s.at) 36)) := heap_past _ _ _ _ (by first | (have := row_lt hs; omega) | (have := row_lt hs; simp <;> omega)) (heap_past _ _ _ _ (by first | (have := row_lt hs; omega) | (have := row_lt hs; simp <;> omega)) (hs))
  go_enter Tryd.func69, Tryd.ntmps69
  go_wp2_with (first
    | (refine wpList_load1 rfl 22 _ rfl b _ rfl 266 s.at _ _ Tryd.underlying22 rfl P.out (by omega) ?_; (first | rw [Sh.at_0, ea] | rw [Sh.at_1, ec]))
    | (refine wpList_load1 rfl 22 _ rfl (w.heap.size) _ rfl 2 (spAt x y) _ _ Tryd.underlying22 rfl R.out (by omega) ?_; (first | rw [spAt_0] | rw [spAt_1]))
    | (refine wpList_storeall rfl 38 (.tmp 3) (.tmp 12) rfl (w.heap.size + 1) rfl 2 (spAt 0 0) (spAt (y) ((c : Int) - 1 - x)) rfl 38 size_spot Z.out (fun i _ => spAt_one _ _ i) ?_; replace Z := Go.Lib.hid (row_set Z.out (vrow 2 (spAt (y) ((c : Int) - 1 - x)))); replace hB := Go.Lib.hid (Below_setRow hB.out (show w.heap.size ≤ w.heap.size + 1 by omega) (vrow 2 (spAt (y) ((c : Int) - 1 - x))))))
  refine ret_row Tryd.results69 (w.heap.size + 1) 2 (spAt (y) ((c : Int) - 1 - x)) 38 _ Tryd.underlying38 rfl size_spot rfl rfl Z.out ?_
  exact ⟨rfl, hB.out⟩
set_option maxHeartbeats 1000000 in
theorem cutC (b x y : Nat) (p q : Nat) (w : World) (hs : w.heap[b]? = some (.cells (vrow 2 (spAt p q)) 38)) (hx : p + x < 8) (hy : q + y < 8) : Calls Tryd.prog 72 #[.agg (vrow 2 (spAt x y)), .pointer (some ⟨b, 0, none⟩)] w fun e w' => e = .returned (.agg (vrow 2 (spAt ((p + x : Nat) : Int) ((q + y : Nat) : Int)))) ∧ Below w.heap.size w w' := by
  have e1 : ((p + x : Nat) : Int) = (p : Int) + x := by omega
  have e2 : ((q + y : Nat) : Int) = (q : Int) + y := by omega
  rw [e1, e2]
  have zs := zero_spot
  have hB : Hid (Below w.heap.size w ((w.alloc (.cells (vrow 2 (spAt x y)) 38)).alloc (.cells (vrow 2 (spAt 0 0)) 38))) := (((Below.refl w.heap.size w).alloc (by simp <;> omega) _).alloc (by simp <;> omega) _)
  have R : Hid (((w.alloc (.cells (vrow 2 (spAt x y)) 38)).alloc (.cells (vrow 2 (spAt 0 0)) 38)).heap[(w.heap.size)]? = some (.cells (vrow 2 (spAt x y)) 38)) := heap_past _ _ _ _ (by first | omega | (simp <;> omega)) (heap_at _ _ _ (by simp))
  have Z : Hid (((w.alloc (.cells (vrow 2 (spAt x y)) 38)).alloc (.cells (vrow 2 (spAt 0 0)) 38)).heap[(w.heap.size + 1)]? = some (.cells (vrow 2 (spAt 0 0)) 38)) := heap_at _ _ _ (by simp)
  have C : Hid (((w.alloc (.cells (vrow 2 (spAt x y)) 38)).alloc (.cells (vrow 2 (spAt 0 0)) 38)).heap[b]? = some (.cells (vrow 2 (spAt p q)) 38)) := heap_past _ _ _ _ (by first | (have := row_lt hs; omega) | (have := row_lt hs; simp <;> omega)) (heap_past _ _ _ _ (by first | (have := row_lt hs; omega) | (have := row_lt hs; simp <;> omega)) (hs))
  go_enter Tryd.func72, Tryd.ntmps72
  go_wp2_with (first
    | (refine wpList_load1 rfl 22 _ rfl b _ rfl 2 (spAt p q) _ _ Tryd.underlying22 rfl C.out (by omega) ?_; (first | rw [spAt_0] | rw [spAt_1]))
    | (refine wpList_load1 rfl 22 _ rfl (w.heap.size) _ rfl 2 (spAt x y) _ _ Tryd.underlying22 rfl R.out (by omega) ?_; (first | rw [spAt_0] | rw [spAt_1]))
    | (refine wpList_storeall rfl 38 (.tmp 3) (.tmp 14) rfl (w.heap.size + 1) rfl 2 (spAt 0 0) (spAt ((p : Int) + x) ((q : Int) + y)) rfl 38 size_spot Z.out (fun i _ => spAt_one _ _ i) ?_; replace Z := Go.Lib.hid (row_set Z.out (vrow 2 (spAt ((p : Int) + x) ((q : Int) + y)))); replace hB := Go.Lib.hid (Below_setRow hB.out (show w.heap.size ≤ w.heap.size + 1 by omega) (vrow 2 (spAt ((p : Int) + x) ((q : Int) + y))))))
  refine ret_row Tryd.results72 (w.heap.size + 1) 2 (spAt ((p : Int) + x) ((q : Int) + y)) 38 _ Tryd.underlying38 rfl size_spot rfl rfl Z.out ?_
  exact ⟨rfl, hB.out⟩
end Go.Proofs.YtfdjlflnhhiecaaDoor
