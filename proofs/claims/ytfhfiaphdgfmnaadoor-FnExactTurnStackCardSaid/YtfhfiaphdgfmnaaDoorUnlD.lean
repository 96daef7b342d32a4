import Derived.Defers
import Derived.Recover
import Derived.Deep.RegionHeld3
import Derived.Test.YtfhfiaphdgfmnaaDoorCodeOf
import Derived.Test.YtfhfiaphdgfmnaaDoorQT
import Derived.Test.YtfhfiaphdgfmnaaDoorG1
namespace Go.Proofs.YtfhfiaphdgfmnaaDoor
open Go.RowKit
set_option maxRecDepth 100000
set_option linter.unusedVariables false
set_option linter.unusedSimpArgs false
theorem ta_nil (w : World) : (Instr.typeAssert .nilIface 20 119 true).run Tryd.prog w = .ok (.tuple #[.nilIface, .bool false]) w := by kernel_rfl
theorem rw_i64u : (Tryd.prog.underlying 2).map (·.isRow) = some false := by kernel_rfl
section
variable {P : Program}
theorem load_one (ti : TypeId) (hu : (P.underlying ti).map (·.isRow) = some false) (b : Nat) (v : Value) (t : TypeId) (w : World) (hg : w.heap[b]? = some (.cells (vrow 1 fun _ => v) t)) : (loadVar ti ⟨b, 0, none⟩).run P w = .ok v w := by
  obtain ⟨d, hu', hd⟩ := Option.map_eq_some_iff.1 hu
  have hc := cell_row hg (show 0 < 1 by omega)
  simp only [loadVar, Sem.run_bind, run_isAgg_row w ti d hu', hd, Result.andThen_ok, Bool.false_eq_true, if_false, run_load, hc]
/-- the results: a row and one cell -/
theorem res_cc {fn : Func} {tmps : Array Value} {p q : Tmp} {ty ti : TypeId} {w : World} (hr : fn.results = #[.cell p ty, .cell q ti]) (b n : Nat) (f : Nat → Value) (t : TypeId) (d : TypeDesc) (hu : P.underlying ty = some d) (hd : d.isRow = true) (hi : (P.info? ty).map (·.size) = some n)
    (hp : tmps.getD p undef = .pointer (some ⟨b, 0, none⟩)) (hg : w.heap[b]? = some (.cells (vrow n f) t)) (hui : (P.underlying ti).map (·.isRow) = some false) (b2 : Nat) (v : Value) (t2 : TypeId) (hq : tmps.getD q undef = .pointer (some ⟨b2, 0, none⟩)) (hg2 : w.heap[b2]? = some (.cells (vrow 1 fun _ => v) t2)) :
    (results fn tmps).run P w = .ok (.tuple #[.agg (vrow n f), v]) w := by
  have hl := run_loadVar_row (P := P) w b t ty (vrow n f) (0, 0) d hg hu (by cases d <;> first | rfl | exact hd) (by rw [vrow_size]; exact hi)
  have hl2 := load_one ti hui b2 v t2 w hg2
  have hp' : tmps[p]?.getD undef = .pointer (some ⟨b, 0, none⟩) := by simpa using hp
  have hq' : tmps[q]?.getD undef = .pointer (some ⟨b2, 0, none⟩) := by simpa using hq
  simp [results, hr, hp', hq', asAddr, hl, hl2, Result.andThen]
/-- the results: a slot and one cell -/
theorem res_tc {fn : Func} {tmps : Array Value} {p q : Tmp} {ti : TypeId} {w : World} (hr : fn.results = #[.tmp p, .cell q ti]) (hui : (P.underlying ti).map (·.isRow) = some false) (u : Value) (hp : tmps.getD p undef = u) (b2 : Nat) (v : Value) (t2 : TypeId) (hq : tmps.getD q undef = .pointer (some ⟨b2, 0, none⟩)) (hg2 : w.heap[b2]? = some (.cells (vrow 1 fun _ => v) t2)) :
    (results fn tmps).run P w = .ok (.tuple #[u, v]) w := by
  have hl2 := load_one ti hui b2 v t2 w hg2
  have hp' : tmps[p]?.getD undef = u := by simpa using hp
  have hq' : tmps[q]?.getD undef = .pointer (some ⟨b2, 0, none⟩) := by simpa using hq
  simp [results, hr, hp', hq', asAddr, hl2, Result.andThen]
end
theorem size_i64w : (Tryd.prog.info? 2).map (·.size) = some 1 := by kernel_rfl
theorem size_a3u : (Tryd.prog.info? 50).map (·.size) = some 3 := by kernel_rfl
theorem zero_a3u : ∀ w, (zeroValue 50).run Tryd.prog w = .ok (.agg (vrow 3 fun _ => .int .i64 0)) w := fun _ => by kernel_rfl
set_option maxHeartbeats 1000000 in
theorem idle_d3 (p : Addr) (w : World) : CallsD Tryd.prog 93 #[.pointer (some p)] .returning w fun e u' w' => e = .returned (.tuple #[]) ∧ u' = .returning ∧ w' = w := by
  refine callsD_of_wpS Tryd.func93 rfl fun c₀ cs hu => ?_
  apply wpS_seq
  apply wpS_region
  simp [wpOpsS, go_sem, recoverD, hu, Tryd.ntmps93, Exit.thenS, ta_nil]
  apply wpS_seq
  apply wpS_region
  simp [wpOpsS, go_sem, Exit.thenS]
  refine wpS_cond (t := false) (by simp [Act.eval]) ?_
  simp only [Bool.false_eq_true, if_false]
  refine wpS_of_wp (wp_skip ?_)
  cases c₀
  simp_all [bodyPostS, results, Tryd.results93]
set_option maxHeartbeats 2000000 in
theorem unl_d3_ok (g : Nat → Int) (sv : Value) (w : World) 
    (HW0 : ∀ W, Below w.heap.size w W → Calls Tryd.prog 60 #[sv] W fun e w' => e = .returned (.agg (vrow 3 (fun i => .int .i64 (g i)))) ∧ Below W.heap.size W w') :
    Calls Tryd.prog 59 #[.nilIface, .func (.func 60) #[sv] #[]] w fun e w' => e = .returned (.tuple #[(.agg (vrow 3 (fun i => .int .i64 (g i)))), .int .i64 0]) ∧ Below w.heap.size w w' := by
  have HW := Go.Lib.hid HW0
  clear HW0
  have hmf : ∀ (fn : Fn) (first cap : Array Value) (w : World), (Instr.makeFunc fn first cap).run Tryd.prog w = .ok (.func fn first cap) w := fun _ _ _ _ => rfl
  have zz := zero_a3u
  have hB : Hid (Below w.heap.size w ((w.alloc (.cells (vrow 3 (fun _ => .int .i64 0)) 50)).alloc (.cells (vrow 1 fun _ => .int .i64 0) 2))) := (((Below.refl w.heap.size w).alloc (by simp <;> omega) _).alloc (by simp <;> omega) _)
  have RZ : Hid (((w.alloc (.cells (vrow 3 (fun _ => .int .i64 0)) 50)).alloc (.cells (vrow 1 fun _ => .int .i64 0) 2)).heap[w.heap.size]? = some (.cells (vrow 3 (fun _ => .int .i64 0)) 50)) := heap_past _ _ _ _ (by first | omega | (simp <;> omega)) (heap_at _ _ _ (by simp))
  have C : Hid (((w.alloc (.cells (vrow 3 (fun _ => .int .i64 0)) 50)).alloc (.cells (vrow 1 fun _ => .int .i64 0) 2)).heap[w.heap.size + 1]? = some (.cells (vrow 1 fun _ => .int .i64 0) 2)) := heap_at _ _ _ (by simp)
  go_enter_defers Tryd.func59, Tryd.ntmps59
  go_wp2_with (first
    | go_skip
    | ((with_reducible refine wlOp (.store 2 (.tmp 5) (.const (.int .i64 1))) rfl ?_); refine wpList_store1 rfl 2 (.tmp 5) (.const (.int .i64 1)) rfl (w.heap.size + 1) 0 rfl 1 (fun _ => .int .i64 0) (.int .i64 1) rfl 2 size_i64w C.out (by omega) rfl ?_; rw [vrow_over_all]; replace RZ := Go.Lib.hid (row_set' (g := (w.heap.size + 1)) (by omega) RZ.out (vrow 1 fun _ => .int .i64 1)); replace C := Go.Lib.hid (row_set C.out (vrow 1 fun _ => .int .i64 1)); replace hB := Go.Lib.hid (Below_setRow hB.out (show w.heap.size ≤ (w.heap.size + 1) by omega) (vrow 1 fun _ => .int .i64 1)))
    | (go_at_call 60; (refine (HW.out _ hB.out).mono ?_); rintro o w1 ⟨rfl, hb⟩; replace RZ := Go.Lib.hid (row_next hb RZ.out); replace C := Go.Lib.hid (row_next hb C.out); replace hB := Go.Lib.hid (below_next hB.out hb); clear hb)
    | ((with_reducible refine wlOp (.store 50 (.tmp 4) (.tmp 13)) rfl ?_); refine wpList_storeall rfl 50 (.tmp 4) (.tmp 13) rfl w.heap.size rfl 3 (fun _ => .int .i64 0) (fun i => .int .i64 (g i)) rfl 50 size_a3u RZ.out (fun _ _ => rfl) ?_; replace C := Go.Lib.hid (row_set' (g := w.heap.size) (by omega) C.out (vrow 3 (fun i => .int .i64 (g i)))); replace RZ := Go.Lib.hid (row_set RZ.out (vrow 3 (fun i => .int .i64 (g i)))); replace hB := Go.Lib.hid (Below_setRow hB.out (Nat.le_refl _) (vrow 3 (fun i => .int .i64 (g i)))))
    | ((with_reducible refine wlOp (.store 2 (.tmp 5) (.const (.int .i64 0))) rfl ?_); refine wpList_store1 rfl 2 (.tmp 5) (.const (.int .i64 0)) rfl (w.heap.size + 1) 0 rfl 1 (fun _ => .int .i64 1) (.int .i64 0) rfl 2 size_i64w C.out (by omega) rfl ?_; rw [vrow_over_all]; replace RZ := Go.Lib.hid (row_set' (g := (w.heap.size + 1)) (by omega) RZ.out (vrow 1 fun _ => .int .i64 0)); replace C := Go.Lib.hid (row_set C.out (vrow 1 fun _ => .int .i64 0)); replace hB := Go.Lib.hid (Below_setRow hB.out (show w.heap.size ≤ (w.heap.size + 1) by omega) (vrow 1 fun _ => .int .i64 0))))
  refine leaves_cons (f := 93) (args := #[.pointer (some ⟨(w.heap.size + 1), 0, none⟩)]) (by simp) (by simp [go_sem]) ?_
  refine (idle_d3 ⟨(w.heap.size + 1), 0, none⟩ _).mono ?_
  rintro e u' w'' ⟨rfl, rfl, rfl⟩
  exact ⟨_, res_cc Tryd.results59 w.heap.size 3 (fun i => .int .i64 (g i)) 50 _ Tryd.underlying50 rfl size_a3u rfl RZ.out rw_i64u (w.heap.size + 1) (.int .i64 0) 2 rfl C.out, rfl, hB.out⟩
end Go.Proofs.YtfhfiaphdgfmnaaDoor
