import Derived.Defers
import Derived.Recover
import Derived.Deep.RegionHeld3
import Derived.Stop.Asserts
import Derived.Test.YthbhckalkkameaaDoorCodeOf
import Derived.Test.YthbhckalkkameaaDoorQT
import Derived.Test.YthbhckalkkameaaDoorG1
import Derived.Test.YthbhckalkkameaaDoorFoV
namespace Go.Proofs.YthbhckalkkameaaDoor
open Go.RowKit
set_option maxRecDepth 100000
set_option linter.unusedVariables false
set_option linter.unusedSimpArgs false
theorem ta_nil (w : World) : (Instr.typeAssert .nilIface 20 137 true).run Tryd.prog w = .ok (.tuple #[.nilIface, .bool false]) w := by kernel_rfl
theorem rw_i64u : (Tryd.prog.underlying 2).map (·.isRow) = some false := by kernel_rfl
section
variable {P : Program}
theorem load_one (ti : TypeId) (hu : (P.underlying ti).map (·.isRow) = some false) (b : Nat) (v : Value) (t : TypeId) (w : World) (hg : w.heap[b]? = some (.cells (vrow 1 fun _ => v) t)) : (loadVar ti ⟨b, 0, none⟩).run P w = .ok v w := by
  obtain ⟨d, hu', hd⟩ := Option.map_eq_some_iff.1 hu
  have hc := cell_row hg (show 0 < 1 by omega)
  simp only [loadVar, Sem.run_bind, run_isAgg_row w ti d hu', hd, Result.andThen_ok, Bool.false_eq_true, if_false, run_load, hc]
/-- the results: a row and one cell -/
theorem res_cc {fn : Func} {tmps : Array Value} {p q : Tmp} {ty ti : TypeId} {w : World} (hr : fn.results = #[.cell p ty, .cell q ti]) (b n : Nat) (f : Nat → Value) (t : TypeId) (d : TypeDesc) (hu : P.underlying ty = some d) (hd : d.isRow = true) (hi : (P.info? ty).map (·.size) = some n)
    (hp : tmps.getD p undef = .pointer (some ⟨b, 0, none⟩)) (hg : w.heap[b]? = some (.cells (vrow n f) t)) (hui : (P.underlying ti).map (·.isRow) = some false) (b2 : Nat) (v : Value) (t2 : TypeId) (hq : tmps.getD q undef = .pointer (some ⟨b2, 0, none⟩)) (hg2 : w.heap[b2]? = some (.cells (vrow 1 fun _ => v) t2)) :
    (results fn tmps).run P w = .ok (.tuple #[.agg (vrow n f), v]) w := by
  have hl := run_loadVar_row (P := P) w b t ty (vrow n f) (0, 0) d hg hu (by cases d <;> first | rfl | exact hd) (by rw [vrow_size]; exact hi)
  have hl2 := load_one ti hui b2 v t2 w hg2
  have hp' : tmps[p]?.getD undef = .pointer (some ⟨b, 0, none⟩) := by simpa using hp
  have hq' : tmps[q]?.getD undef = .pointer (some ⟨b2, 0, none⟩) := by simpa using hq
  simp [results, hr, hp', hq', asAddr, hl, hl2, Result.andThen]
/-- the results: a slot and one cell -/
theorem res_tc {fn : Func} {tmps : Array Value} {p q : Tmp} {ti : TypeId} {w : World} (hr : fn.results = #[.tmp p, .cell q ti]) (hui : (P.underlying ti).map (·.isRow) = some false) (u : Value) (hp : tmps.getD p undef = u) (b2 : Nat) (v : Value) (t2 : TypeId) (hq : tmps.getD q undef = .pointer (some ⟨b2, 0, none⟩)) (hg2 : w.heap[b2]? = some (.cells (vrow 1 fun _ => v) t2)) :
    (results fn tmps).run P w = .ok (.tuple #[u, v]) w := by
  have hl2 := load_one ti hui b2 v t2 w hg2
  have hp' : tmps[p]?.getD undef = u := by simpa using hp
  have hq' : tmps[q]?.getD undef = .pointer (some ⟨b2, 0, none⟩) := by simpa using hq
  simp [results, hr, hp', hq', asAddr, hl2, Result.andThen]
end
theorem size_i64w : (Tryd.prog.info? 2).map (·.size) = some 1 := by kernel_rfl
set_option maxHeartbeats 1000000 in
theorem idle_sp (p : Addr) (w : World) : CallsD Tryd.prog 107 #[.pointer (some p)] .returning w fun e u' w' => e = .returned (.tuple #[]) ∧ u' = .returning ∧ w' = w := by
  refine callsD_of_wpS Tryd.func107 rfl fun c₀ cs hu => ?_
  apply wpS_seq
  apply wpS_region
  simp [wpOpsS, go_sem, recoverD, hu, Tryd.ntmps107, Exit.thenS, ta_nil]
  apply wpS_seq
  apply wpS_region
  simp [wpOpsS, go_sem, Exit.thenS]
  refine wpS_cond (t := false) (by simp [Act.eval]) ?_
  simp only [Bool.false_eq_true, if_false]
  refine wpS_of_wp (wp_skip ?_)
  cases c₀
  simp_all [bodyPostS, results, Tryd.results107]
theorem ta_bf (v : Value) (w : World) : (Instr.typeAssert (.iface 141 v) 20 137 true).run Tryd.prog w = .ok (.tuple #[.iface 141 v, .bool true]) w := run_typeAssert_hasB Tryd.underlying137 (by kernel_rfl) v _ w
theorem m_refused (v : Value) (w : World) : (Go.method 330 141 v "loop.example/g01360/impl.refused").run Tryd.prog w = .ok (172, v) w := by kernel_rfl
theorem refused_any (ax : Int) (d : Bool) (p : Int) (e : ErrE) (w : World) (hE : Errs e w) : Calls Tryd.prog 172 #[.agg #[.int .i8 ax, .bool d, .int .i8 p]] w fun o w' => o = .returned (errP e 2) ∧ Below w.heap.size w w' := by
  have E : Hid (Errs e (w.alloc (.cells #[.int .i8 ax, .bool d, .int .i8 p] 141))) := Go.Lib.hid (hE.alloc _)
  have hB : Hid (Below w.heap.size w (w.alloc (.cells #[.int .i8 ax, .bool d, .int .i8 p] 141))) := Go.Lib.hid ((Below.refl _ _).alloc (Nat.le_refl _) _)
  go_enter Tryd.func172, Tryd.ntmps172
  go_wp2_with (first
    | go_skip
    | ((with_reducible refine wlAt 3 rfl ?_); refine wpList_ld1 85 _ rfl (by first | exact want_n rfl | exact want_g _ _ _ rfl rfl rfl) 0 0 rfl 1 (fun _ => errP e 2) _ rw_err E.out.v2 (by omega) ?_))
  go_ret
  exact ⟨rfl, hB.out⟩
set_option maxHeartbeats 2000000 in
theorem catch_sp (ax : Int) (d : Bool) (pr : Int) (e : ErrE) (p : Nat) (v0 : Value) (w : World) (hE : Errs e w) (hp : w.heap[p]? = some (.cells (vrow 1 fun _ => v0) 2)) : CallsD Tryd.prog 107 #[.pointer (some ⟨p, 0, none⟩)] (.panicking [{ v := .iface 141 (.agg #[.int .i8 ax, .bool d, .int .i8 pr]), recovered := false }]) w fun en u' w' => en = .returned (.tuple #[]) ∧ u' = .panicking [{ v := .iface 141 (.agg #[.int .i8 ax, .bool d, .int .i8 pr]), recovered := true }] ∧ ∃ w1, Below w.heap.size w w1 ∧ w' = w1.setRow p (vrow 1 fun _ => .int .i64 2) := by
  have E := Go.Lib.hid hE
  have C := Go.Lib.hid hp
  have hB := Go.Lib.hid (Below.refl w.heap.size w)
  refine callsD_of_wpS Tryd.func107 rfl fun c₀ cs hu => ?_
  apply wpS_seq
  apply wpS_region
  simp [wpOpsS, go_sem, recoverD, hu, Tryd.ntmps107, Exit.thenS, ta_bf]
  apply wpS_seq
  apply wpS_region
  simp [wpOpsS, go_sem, Exit.thenS]
  refine wpS_cond (t := true) (by simp [Act.eval]) ?_
  simp only [if_true]
  refine wpS_of_wp ?_
  clear hE hp
  have hmr := m_refused (.agg #[.int .i8 ax, .bool d, .int .i8 pr])
  simp only [List.size_toArray, List.length_cons, List.length_nil, Nat.reduceAdd, Nat.reduceSub, Array.replicate_succ, Array.replicate_zero, List.push_toArray, List.append_toArray, List.nil_append, List.cons_append, List.setIfInBounds_toArray, List.set_cons_succ, List.set_cons_zero]
  go_wp2_with (first
    | go_skip
    | (go_at_call 172; (refine (refused_any _ _ _ e _ E.out).mono ?_); rintro o w1 ⟨rfl, hb⟩; replace E := Go.Lib.hid (E.out.next hb); replace C := Go.Lib.hid (row_next hb C.out); replace hB := Go.Lib.hid (below_next hB.out hb); clear hb)
    | (go_at_call 99; (refine (codeOf_2 e _ E.out).mono ?_); rintro o w1 ⟨rfl, hb⟩; replace E := Go.Lib.hid (E.out.next hb); replace C := Go.Lib.hid (row_next hb C.out); replace hB := Go.Lib.hid (below_next hB.out hb); clear hb)
    | ((with_reducible refine wlOp (.store 2 (.tmp 0) (.tmp 11)) rfl ?_); refine wpList_store1 rfl 2 (.tmp 0) (.tmp 11) rfl p 0 rfl 1 (fun _ => v0) (.int .i64 2) rfl 2 size_i64w C.out (by omega) rfl ?_; rw [vrow_over_all]))
  simp [bodyPostS, results, Tryd.results107]
  exact ⟨_, hB.out, rfl⟩
set_option maxHeartbeats 2000000 in
theorem unl_sp_ok (b1 b2 b3 : Nat) (x y : Int) (w : World) 
    (HW0 : ∀ W, Below w.heap.size w W → Calls Tryd.prog 60 #[.pointer (some ⟨b1, 0, none⟩), .pointer (some ⟨b2, 0, none⟩), .pointer (some ⟨b3, 0, none⟩)] W fun e w' => e = .returned (.agg (vrow 2 (spAt x y))) ∧ Below W.heap.size W w') :
    Calls Tryd.prog 58 #[.nilIface, .func (.func 60) #[] #[.pointer (some ⟨b1, 0, none⟩), .pointer (some ⟨b2, 0, none⟩), .pointer (some ⟨b3, 0, none⟩)]] w fun e w' => e = .returned (.tuple #[(.agg (vrow 2 (spAt x y))), .int .i64 0]) ∧ Below w.heap.size w w' := by
  have HW := Go.Lib.hid HW0
  clear HW0
  have hmf : ∀ (fn : Fn) (first cap : Array Value) (w : World), (Instr.makeFunc fn first cap).run Tryd.prog w = .ok (.func fn first cap) w := fun _ _ _ _ => rfl
  have zz := zero_spot
  have hB : Hid (Below w.heap.size w ((w.alloc (.cells (vrow 2 (spAt 0 0)) 36)).alloc (.cells (vrow 1 fun _ => .int .i64 0) 2))) := (((Below.refl w.heap.size w).alloc (by simp <;> omega) _).alloc (by simp <;> omega) _)
  have RZ : Hid (((w.alloc (.cells (vrow 2 (spAt 0 0)) 36)).alloc (.cells (vrow 1 fun _ => .int .i64 0) 2)).heap[w.heap.size]? = some (.cells (vrow 2 (spAt 0 0)) 36)) := heap_past _ _ _ _ (by first | omega | (simp <;> omega)) (heap_at _ _ _ (by simp))
  have C : Hid (((w.alloc (.cells (vrow 2 (spAt 0 0)) 36)).alloc (.cells (vrow 1 fun _ => .int .i64 0) 2)).heap[w.heap.size + 1]? = some (.cells (vrow 1 fun _ => .int .i64 0) 2)) := heap_at _ _ _ (by simp)
  go_enter_defers Tryd.func58, Tryd.ntmps58
  go_wp2_with (first
    | go_skip
    | ((with_reducible refine wlOp (.store 2 (.tmp 5) (.const (.int .i64 1))) rfl ?_); refine wpList_store1 rfl 2 (.tmp 5) (.const (.int .i64 1)) rfl (w.heap.size + 1) 0 rfl 1 (fun _ => .int .i64 0) (.int .i64 1) rfl 2 size_i64w C.out (by omega) rfl ?_; rw [vrow_over_all]; replace RZ := Go.Lib.hid (row_set' (g := (w.heap.size + 1)) (by omega) RZ.out (vrow 1 fun _ => .int .i64 1)); replace C := Go.Lib.hid (row_set C.out (vrow 1 fun _ => .int .i64 1)); replace hB := Go.Lib.hid (Below_setRow hB.out (show w.heap.size ≤ (w.heap.size + 1) by omega) (vrow 1 fun _ => .int .i64 1)))
    | (go_at_call 60; (refine (HW.out _ hB.out).mono ?_); rintro o w1 ⟨rfl, hb⟩; replace RZ := Go.Lib.hid (row_next hb RZ.out); replace C := Go.Lib.hid (row_next hb C.out); replace hB := Go.Lib.hid (below_next hB.out hb); clear hb)
    | ((with_reducible refine wlOp (.store 36 (.tmp 4) (.tmp 13)) rfl ?_); refine wpList_storeall rfl 36 (.tmp 4) (.tmp 13) rfl w.heap.size rfl 2 (spAt 0 0) (spAt x y) rfl 36 size_spot RZ.out (fun i _ => spAt_one _ _ i) ?_; replace C := Go.Lib.hid (row_set' (g := w.heap.size) (by omega) C.out (vrow 2 (spAt x y))); replace RZ := Go.Lib.hid (row_set RZ.out (vrow 2 (spAt x y))); replace hB := Go.Lib.hid (Below_setRow hB.out (Nat.le_refl _) (vrow 2 (spAt x y))))
    | ((with_reducible refine wlOp (.store 2 (.tmp 5) (.const (.int .i64 0))) rfl ?_); refine wpList_store1 rfl 2 (.tmp 5) (.const (.int .i64 0)) rfl (w.heap.size + 1) 0 rfl 1 (fun _ => .int .i64 1) (.int .i64 0) rfl 2 size_i64w C.out (by omega) rfl ?_; rw [vrow_over_all]; replace RZ := Go.Lib.hid (row_set' (g := (w.heap.size + 1)) (by omega) RZ.out (vrow 1 fun _ => .int .i64 0)); replace C := Go.Lib.hid (row_set C.out (vrow 1 fun _ => .int .i64 0)); replace hB := Go.Lib.hid (Below_setRow hB.out (show w.heap.size ≤ (w.heap.size + 1) by omega) (vrow 1 fun _ => .int .i64 0))))
  refine leaves_cons (f := 107) (args := #[.pointer (some ⟨(w.heap.size + 1), 0, none⟩)]) (by simp) (by simp [go_sem]) ?_
  refine (idle_sp ⟨(w.heap.size + 1), 0, none⟩ _).mono ?_
  rintro e u' w'' ⟨rfl, rfl, rfl⟩
  exact ⟨_, res_cc Tryd.results58 w.heap.size 2 (spAt x y) 36 _ Tryd.underlying36 rfl size_spot rfl RZ.out rw_i64u (w.heap.size + 1) (.int .i64 0) 2 rfl C.out, rfl, hB.out⟩
set_option maxHeartbeats 2000000 in
theorem unl_sp_catch (b1 b2 b3 : Nat) (ax : Int) (d : Bool) (pr : Int) (e : ErrE) (w : World) (hE : Errs e w)
    (HW0 : ∀ W, Below w.heap.size w W → Calls Tryd.prog 60 #[.pointer (some ⟨b1, 0, none⟩), .pointer (some ⟨b2, 0, none⟩), .pointer (some ⟨b3, 0, none⟩)] W fun e w' => e = .panicked [{ v := .iface 141 (.agg #[.int .i8 ax, .bool d, .int .i8 pr]), recovered := false }] ∧ Below W.heap.size W w') :
    Calls Tryd.prog 58 #[.nilIface, .func (.func 60) #[] #[.pointer (some ⟨b1, 0, none⟩), .pointer (some ⟨b2, 0, none⟩), .pointer (some ⟨b3, 0, none⟩)]] w fun e w' => e = .returned (.tuple #[(.agg (vrow 2 (spAt 0 0))), .int .i64 2]) ∧ Below w.heap.size w w' := by
  have HW := Go.Lib.hid HW0
  clear HW0
  have hmf : ∀ (fn : Fn) (first cap : Array Value) (w : World), (Instr.makeFunc fn first cap).run Tryd.prog w = .ok (.func fn first cap) w := fun _ _ _ _ => rfl
  have zz := zero_spot
  have hB : Hid (Below w.heap.size w ((w.alloc (.cells (vrow 2 (spAt 0 0)) 36)).alloc (.cells (vrow 1 fun _ => .int .i64 0) 2))) := (((Below.refl w.heap.size w).alloc (by simp <;> omega) _).alloc (by simp <;> omega) _)
  have RZ : Hid (((w.alloc (.cells (vrow 2 (spAt 0 0)) 36)).alloc (.cells (vrow 1 fun _ => .int .i64 0) 2)).heap[w.heap.size]? = some (.cells (vrow 2 (spAt 0 0)) 36)) := heap_past _ _ _ _ (by first | omega | (simp <;> omega)) (heap_at _ _ _ (by simp))
  have C : Hid (((w.alloc (.cells (vrow 2 (spAt 0 0)) 36)).alloc (.cells (vrow 1 fun _ => .int .i64 0) 2)).heap[w.heap.size + 1]? = some (.cells (vrow 1 fun _ => .int .i64 0) 2)) := heap_at _ _ _ (by simp)
  go_enter_defers Tryd.func58, Tryd.ntmps58
  go_wp2_with (first
    | go_skip
    | ((with_reducible refine wlOp (.store 2 (.tmp 5) (.const (.int .i64 1))) rfl ?_); refine wpList_store1 rfl 2 (.tmp 5) (.const (.int .i64 1)) rfl (w.heap.size + 1) 0 rfl 1 (fun _ => .int .i64 0) (.int .i64 1) rfl 2 size_i64w C.out (by omega) rfl ?_; rw [vrow_over_all]; replace RZ := Go.Lib.hid (row_set' (g := (w.heap.size + 1)) (by omega) RZ.out (vrow 1 fun _ => .int .i64 1)); replace C := Go.Lib.hid (row_set C.out (vrow 1 fun _ => .int .i64 1)); replace hB := Go.Lib.hid (Below_setRow hB.out (show w.heap.size ≤ (w.heap.size + 1) by omega) (vrow 1 fun _ => .int .i64 1)))
    | (go_at_call 60; (refine (HW.out _ hB.out).mono ?_); rintro o w1 ⟨rfl, hb⟩; replace RZ := Go.Lib.hid (row_next hb RZ.out); replace C := Go.Lib.hid (row_next hb C.out); replace hB := Go.Lib.hid (below_next hB.out hb); clear hb))
  refine leaves_cons (f := 107) (args := #[.pointer (some ⟨(w.heap.size + 1), 0, none⟩)]) (by simp) (by simp [go_sem]) ?_
  refine (catch_sp ax d pr e (w.heap.size + 1) (.int .i64 1) _ (hE.next hB.out) C.out).mono ?_
  rintro o u' w'' ⟨rfl, rfl, w2, hb2, rfl⟩
  replace RZ := Go.Lib.hid (row_set' (g := (w.heap.size + 1)) (by omega) (row_next hb2 RZ.out) (vrow 1 fun _ => .int .i64 2)); replace C := Go.Lib.hid (row_set (row_next hb2 C.out) (vrow 1 fun _ => .int .i64 2)); replace hB := Go.Lib.hid (Below_setRow (below_next hB.out hb2) (show w.heap.size ≤ (w.heap.size + 1) by omega) (vrow 1 fun _ => .int .i64 2))
  exact ⟨_, res_cc Tryd.results58 w.heap.size 2 (spAt 0 0) 36 _ Tryd.underlying36 rfl size_spot rfl RZ.out rw_i64u (w.heap.size + 1) (.int .i64 2) 2 rfl C.out, rfl, hB.out⟩
set_option maxHeartbeats 2000000 in
theorem unl_sp_err (fv : Value) (c : Int) (k : Nat) (e : ErrE) (w : World) (hE : Errs e w) (hc : ∀ w, Errs e w → Calls Tryd.prog 99 #[errP e k] w fun o w' => o = .returned (.int .i64 c) ∧ Below w.heap.size w w') :
    Calls Tryd.prog 58 #[errP e k, fv] w fun o w' => o = .returned (.tuple #[.agg (vrow 2 (spAt 0 0)), .int .i64 c]) ∧ Below w.heap.size w w' := by
  have HC := Go.Lib.hid hc
  clear hc
  have zz := zero_spot
  have E := Go.Lib.hid hE
  have hB : Hid (Below w.heap.size w ((w.alloc (.cells (vrow 2 (spAt 0 0)) 36)).alloc (.cells (vrow 1 fun _ => .int .i64 0) 2))) := (((Below.refl w.heap.size w).alloc (by simp <;> omega) _).alloc (by simp <;> omega) _)
  have RZ : Hid (((w.alloc (.cells (vrow 2 (spAt 0 0)) 36)).alloc (.cells (vrow 1 fun _ => .int .i64 0) 2)).heap[w.heap.size]? = some (.cells (vrow 2 (spAt 0 0)) 36)) := heap_past _ _ _ _ (by first | omega | (simp <;> omega)) (heap_at _ _ _ (by simp))
  have C : Hid (((w.alloc (.cells (vrow 2 (spAt 0 0)) 36)).alloc (.cells (vrow 1 fun _ => .int .i64 0) 2)).heap[w.heap.size + 1]? = some (.cells (vrow 1 fun _ => .int .i64 0) 2)) := heap_at _ _ _ (by simp)
  go_enter_defers Tryd.func58, Tryd.ntmps58
  go_wp2
  refine region_qt 3 (by kernel_rfl) (by kernel_rfl) ?_
  intro W hW
  have hW2 : ((w.alloc (.cells (vrow 2 (spAt 0 0)) 36)).alloc (.cells (vrow 1 fun _ => .int .i64 0) 2)) = W := hW
  rw [hW2] at hB RZ C
  have E' := Go.Lib.hid (hE.next hB.out)
  clear hW hW2
  simp only [List.take_succ_cons, List.take_zero, List.drop_succ_cons, List.drop_zero]
  have RZ' := Go.Lib.hid (cls_row' RZ.out)
  (repeat (first
    | go_big_quiet_skip
    | (refine wpQuiet_loadmid 36 _ rfl (want_n rfl) w.heap.size 0 rfl 2 2 (spAt 0 0) _ rw_spot size_spot RZ'.out (by omega) ?_; simp only [Nat.zero_add]; simp only [Act.put, List.setIfInBounds_toArray, List.set_cons_succ, List.set_cons_zero])
    | go_big_quiet_step ((go_at_call 99; exact cls_call _ (fun w hw => HC.out w (E'.out.next hw))))))
  refine wpQuiet_nil ?_
  intro Wn hb
  replace RZ := Go.Lib.hid (row_next hb RZ.out); replace C := Go.Lib.hid (row_next hb C.out); replace hB := Go.Lib.hid (below_next hB.out hb)
  clear hb RZ' E' E HC
  go_wp2_with (first
    | ((with_reducible refine wlOp (.store 36 (.tmp 4) (.tmp 8)) rfl ?_); refine wpList_storeall rfl 36 (.tmp 4) (.tmp 8) rfl w.heap.size rfl 2 (spAt 0 0) (spAt 0 0) rfl 36 size_spot RZ.out (fun i _ => spAt_one _ _ i) ?_; replace C := Go.Lib.hid (row_set' (g := w.heap.size) (by omega) C.out (vrow 2 (spAt 0 0))); replace RZ := Go.Lib.hid (row_set RZ.out (vrow 2 (spAt 0 0))); replace hB := Go.Lib.hid (Below_setRow hB.out (Nat.le_refl _) (vrow 2 (spAt 0 0))))
    | ((with_reducible refine wlOp (.store 2 (.tmp 5) (.tmp 10)) rfl ?_); refine wpList_store1 rfl 2 (.tmp 5) (.tmp 10) rfl (w.heap.size + 1) 0 rfl 1 (fun _ => .int .i64 0) (.int .i64 c) rfl 2 size_i64w C.out (by omega) rfl ?_; rw [vrow_over_all]; replace RZ := Go.Lib.hid (row_set' (g := (w.heap.size + 1)) (by omega) RZ.out (vrow 1 fun _ => .int .i64 c)); replace C := Go.Lib.hid (row_set C.out (vrow 1 fun _ => .int .i64 c)); replace hB := Go.Lib.hid (Below_setRow hB.out (show w.heap.size ≤ (w.heap.size + 1) by omega) (vrow 1 fun _ => .int .i64 c))))
  exact ⟨_, res_cc Tryd.results58 w.heap.size 2 (spAt 0 0) 36 _ Tryd.underlying36 rfl size_spot rfl RZ.out rw_i64u (w.heap.size + 1) (.int .i64 c) 2 rfl C.out, rfl, hB.out⟩
end Go.Proofs.YthbhckalkkameaaDoor
