import Derived.Defers
import Derived.Recover
import Derived.Deep.RegionHeld3
import Derived.Stop.Asserts
import Derived.Test.YtmcpaangofdmpaaDoorUnlS
namespace Go.Proofs.YtmcpaangofdmpaaDoor
open Go.RowKit
set_option maxRecDepth 100000
set_option linter.unusedVariables false
set_option linter.unusedSimpArgs false
/-- the cells of a pressed sheet and of how much dye has gone over -/
def prA (s : Sh) (m : Int) (i : Nat) : Value := if i < 266 then s.at i else .int .i64 m
theorem prA_one (s : Sh) (m : Int) (i : Nat) : (prA s m i).oneCell' = true := by unfold prA; split; exact Sh.one _ i; rfl
theorem size_prd : (Tryd.prog.info? 84).map (·.size) = some 267 := by kernel_rfl
theorem rw_prd : (Tryd.prog.underlying 84).map (·.isRow) = some true := by kernel_rfl
theorem zero_prd : ∀ w, (zeroValue 84).run Tryd.prog w = .ok (.agg (vrow 267 (prA Sh.zero 0))) w := fun _ => by kernel_rfl
set_option maxHeartbeats 1000000 in
theorem idle_pd (p : Addr) (w : World) : CallsD Tryd.prog 104 #[.pointer (some p)] .returning w fun e u' w' => e = .returned (.tuple #[]) ∧ u' = .returning ∧ w' = w := by
  refine callsD_of_wpS Tryd.func104 rfl fun c₀ cs hu => ?_
  apply wpS_seq
  apply wpS_region
  simp [wpOpsS, go_sem, recoverD, hu, Tryd.ntmps104, Exit.thenS, ta_nil]
  apply wpS_seq
  apply wpS_region
  simp [wpOpsS, go_sem, Exit.thenS]
  refine wpS_cond (t := false) (by simp [Act.eval]) ?_
  simp only [Bool.false_eq_true, if_false]
  refine wpS_of_wp (wp_skip ?_)
  cases c₀
  simp_all [bodyPostS, results, Tryd.results104]
set_option maxHeartbeats 2000000 in
theorem catch_pd (ax : Int) (d : Bool) (pr : Int) (e : ErrE) (p : Nat) (v0 : Value) (w : World) (hE : Errs e w) (hp : w.heap[p]? = some (.cells (vrow 1 fun _ => v0) 2)) : CallsD Tryd.prog 104 #[.pointer (some ⟨p, 0, none⟩)] (.panicking [{ v := .iface 179 (.agg #[.int .i8 ax, .bool d, .int .i8 pr]), recovered := false }]) w fun en u' w' => en = .returned (.tuple #[]) ∧ u' = .panicking [{ v := .iface 179 (.agg #[.int .i8 ax, .bool d, .int .i8 pr]), recovered := true }] ∧ ∃ w1, Below w.heap.size w w1 ∧ w' = w1.setRow p (vrow 1 fun _ => .int .i64 2) := by
  have E := Go.Lib.hid hE
  have C := Go.Lib.hid hp
  have hB := Go.Lib.hid (Below.refl w.heap.size w)
  refine callsD_of_wpS Tryd.func104 rfl fun c₀ cs hu => ?_
  apply wpS_seq
  apply wpS_region
  simp [wpOpsS, go_sem, recoverD, hu, Tryd.ntmps104, Exit.thenS, ta_bf]
  apply wpS_seq
  apply wpS_region
  simp [wpOpsS, go_sem, Exit.thenS]
  refine wpS_cond (t := true) (by simp [Act.eval]) ?_
  simp only [if_true]
  refine wpS_of_wp ?_
  clear hE hp
  have hmr := m_refused (.agg #[.int .i8 ax, .bool d, .int .i8 pr])
  simp only [List.size_toArray, List.length_cons, List.length_nil, Nat.reduceAdd, Nat.reduceSub, Array.replicate_succ, Array.replicate_zero, List.push_toArray, List.append_toArray, List.nil_append, List.cons_append, List.setIfInBounds_toArray, List.set_cons_succ, List.set_cons_zero]
  go_wp2_with (first
    | go_skip
    | (go_at_call 170; (refine (refused_any _ _ _ e _ E.out).mono ?_); rintro o w1 ⟨rfl, hb⟩; replace E := Go.Lib.hid (E.out.next hb); replace C := Go.Lib.hid (row_next hb C.out); replace hB := Go.Lib.hid (below_next hB.out hb); clear hb)
    | (go_at_call 63; (refine (codeOf_2 e _ E.out).mono ?_); rintro o w1 ⟨rfl, hb⟩; replace E := Go.Lib.hid (E.out.next hb); replace C := Go.Lib.hid (row_next hb C.out); replace hB := Go.Lib.hid (below_next hB.out hb); clear hb)
    | ((with_reducible refine wlOp (.store 2 (.tmp 0) (.tmp 11)) rfl ?_); refine wpList_store1 rfl 2 (.tmp 0) (.tmp 11) rfl p 0 rfl 1 (fun _ => v0) (.int .i64 2) rfl 2 size_i64w C.out (by omega) rfl ?_; rw [vrow_over_all]))
  simp [bodyPostS, results, Tryd.results104]
  exact ⟨_, hB.out, rfl⟩
set_option maxHeartbeats 2000000 in
theorem unl_pd_ok (b1 b2 : Nat) (r : Sh) (rm : Int) (w : World) 
    (HW0 : ∀ W, Below w.heap.size w W → Calls Tryd.prog 54 #[.pointer (some ⟨b1, 0, none⟩), .pointer (some ⟨b2, 0, none⟩)] W fun e w' => e = .returned (.agg (vrow 267 (prA r rm))) ∧ Below W.heap.size W w') :
    Calls Tryd.prog 52 #[.nilIface, .func (.func 54) #[] #[.pointer (some ⟨b1, 0, none⟩), .pointer (some ⟨b2, 0, none⟩)]] w fun e w' => e = .returned (.tuple #[(.agg (vrow 267 (prA r rm))), .int .i64 0]) ∧ Below w.heap.size w w' := by
  have HW := Go.Lib.hid HW0
  clear HW0
  have hmf : ∀ (fn : Fn) (first cap : Array Value) (w : World), (Instr.makeFunc fn first cap).run Tryd.prog w = .ok (.func fn first cap) w := fun _ _ _ _ => rfl
  have zz := zero_prd
  have hB : Hid (Below w.heap.size w ((w.alloc (.cells (vrow 267 (prA Sh.zero 0)) 84)).alloc (.cells (vrow 1 fun _ => .int .i64 0) 2))) := (((Below.refl w.heap.size w).alloc (by simp <;> omega) _).alloc (by simp <;> omega) _)
  have RZ : Hid (((w.alloc (.cells (vrow 267 (prA Sh.zero 0)) 84)).alloc (.cells (vrow 1 fun _ => .int .i64 0) 2)).heap[w.heap.size]? = some (.cells (vrow 267 (prA Sh.zero 0)) 84)) := heap_past _ _ _ _ (by first | omega | (simp <;> omega)) (heap_at _ _ _ (by simp))
  have C : Hid (((w.alloc (.cells (vrow 267 (prA Sh.zero 0)) 84)).alloc (.cells (vrow 1 fun _ => .int .i64 0) 2)).heap[w.heap.size + 1]? = some (.cells (vrow 1 fun _ => .int .i64 0) 2)) := heap_at _ _ _ (by simp)
  go_enter_defers Tryd.func52, Tryd.ntmps52
  go_wp2_with (first
    | go_skip
    | ((with_reducible refine wlOp (.store 2 (.tmp 5) (.const (.int .i64 1))) rfl ?_); refine wpList_store1 rfl 2 (.tmp 5) (.const (.int .i64 1)) rfl (w.heap.size + 1) 0 rfl 1 (fun _ => .int .i64 0) (.int .i64 1) rfl 2 size_i64w C.out (by omega) rfl ?_; rw [vrow_over_all]; replace RZ := Go.Lib.hid (row_set' (g := (w.heap.size + 1)) (by omega) RZ.out (vrow 1 fun _ => .int .i64 1)); replace C := Go.Lib.hid (row_set C.out (vrow 1 fun _ => .int .i64 1)); replace hB := Go.Lib.hid (Below_setRow hB.out (show w.heap.size ≤ (w.heap.size + 1) by omega) (vrow 1 fun _ => .int .i64 1)))
    | (go_at_call 54; (refine (HW.out _ hB.out).mono ?_); rintro o w1 ⟨rfl, hb⟩; replace RZ := Go.Lib.hid (row_next hb RZ.out); replace C := Go.Lib.hid (row_next hb C.out); replace hB := Go.Lib.hid (below_next hB.out hb); clear hb)
    | ((with_reducible refine wlOp (.store 84 (.tmp 4) (.tmp 13)) rfl ?_); refine wpList_storeall rfl 84 (.tmp 4) (.tmp 13) rfl w.heap.size rfl 267 (prA Sh.zero 0) (prA r rm) rfl 84 size_prd RZ.out (fun i _ => prA_one _ _ i) ?_; replace C := Go.Lib.hid (row_set' (g := w.heap.size) (by omega) C.out (vrow 267 (prA r rm))); replace RZ := Go.Lib.hid (row_set RZ.out (vrow 267 (prA r rm))); replace hB := Go.Lib.hid (Below_setRow hB.out (Nat.le_refl _) (vrow 267 (prA r rm))))
    | ((with_reducible refine wlOp (.store 2 (.tmp 5) (.const (.int .i64 0))) rfl ?_); refine wpList_store1 rfl 2 (.tmp 5) (.const (.int .i64 0)) rfl (w.heap.size + 1) 0 rfl 1 (fun _ => .int .i64 1) (.int .i64 0) rfl 2 size_i64w C.out (by omega) rfl ?_; rw [vrow_over_all]; replace RZ := Go.Lib.hid (row_set' (g := (w.heap.size + 1)) (by omega) RZ.out (vrow 1 fun _ => .int .i64 0)); replace C := Go.Lib.hid (row_set C.out (vrow 1 fun _ => .int .i64 0)); replace hB := Go.Lib.hid (Below_setRow hB.out (show w.heap.size ≤ (w.heap.size + 1) by omega) (vrow 1 fun _ => .int .i64 0))))
  refine leaves_cons (f := 104) (args := #[.pointer (some ⟨(w.heap.size + 1), 0, none⟩)]) (by simp) (by simp [go_sem]) ?_
  refine (idle_pd ⟨(w.heap.size + 1), 0, none⟩ _).mono ?_
  rintro e u' w'' ⟨rfl, rfl, rfl⟩
  exact ⟨_, res_cc Tryd.results52 w.heap.size 267 (prA r rm) 84 _ Tryd.underlying84 rfl size_prd rfl RZ.out rw_i64u (w.heap.size + 1) (.int .i64 0) 2 rfl C.out, rfl, hB.out⟩
set_option maxHeartbeats 2000000 in
theorem unl_pd_catch (b1 b2 : Nat) (ax : Int) (d : Bool) (pr : Int) (e : ErrE) (w : World) (hE : Errs e w)
    (HW0 : ∀ W, Below w.heap.size w W → Calls Tryd.prog 54 #[.pointer (some ⟨b1, 0, none⟩), .pointer (some ⟨b2, 0, none⟩)] W fun e w' => e = .panicked [{ v := .iface 179 (.agg #[.int .i8 ax, .bool d, .int .i8 pr]), recovered := false }] ∧ Below W.heap.size W w') :
    Calls Tryd.prog 52 #[.nilIface, .func (.func 54) #[] #[.pointer (some ⟨b1, 0, none⟩), .pointer (some ⟨b2, 0, none⟩)]] w fun e w' => e = .returned (.tuple #[(.agg (vrow 267 (prA Sh.zero 0))), .int .i64 2]) ∧ Below w.heap.size w w' := by
  have HW := Go.Lib.hid HW0
  clear HW0
  have hmf : ∀ (fn : Fn) (first cap : Array Value) (w : World), (Instr.makeFunc fn first cap).run Tryd.prog w = .ok (.func fn first cap) w := fun _ _ _ _ => rfl
  have zz := zero_prd
  have hB : Hid (Below w.heap.size w ((w.alloc (.cells (vrow 267 (prA Sh.zero 0)) 84)).alloc (.cells (vrow 1 fun _ => .int .i64 0) 2))) := (((Below.refl w.heap.size w).alloc (by simp <;> omega) _).alloc (by simp <;> omega) _)
  have RZ : Hid (((w.alloc (.cells (vrow 267 (prA Sh.zero 0)) 84)).alloc (.cells (vrow 1 fun _ => .int .i64 0) 2)).heap[w.heap.size]? = some (.cells (vrow 267 (prA Sh.zero 0)) 84)) := heap_past _ _ _ _ (by first | omega | (simp <;> omega)) (heap_at _ _ _ (by simp))
  have C : Hid (((w.alloc (.cells (vrow 267 (prA Sh.zero 0)) 84)).alloc (.cells (vrow 1 fun _ => .int .i64 0) 2)).heap[w.heap.size + 1]? = some (.cells (vrow 1 fun _ => .int .i64 0) 2)) := heap_at _ _ _ (by simp)
  go_enter_defers Tryd.func52, Tryd.ntmps52
  go_wp2_with (first
    | go_skip
    | ((with_reducible refine wlOp (.store 2 (.tmp 5) (.const (.int .i64 1))) rfl ?_); refine wpList_store1 rfl 2 (.tmp 5) (.const (.int .i64 1)) rfl (w.heap.size + 1) 0 rfl 1 (fun _ => .int .i64 0) (.int .i64 1) rfl 2 size_i64w C.out (by omega) rfl ?_; rw [vrow_over_all]; replace RZ := Go.Lib.hid (row_set' (g := (w.heap.size + 1)) (by omega) RZ.out (vrow 1 fun _ => .int .i64 1)); replace C := Go.Lib.hid (row_set C.out (vrow 1 fun _ => .int .i64 1)); replace hB := Go.Lib.hid (Below_setRow hB.out (show w.heap.size ≤ (w.heap.size + 1) by omega) (vrow 1 fun _ => .int .i64 1)))
    | (go_at_call 54; (refine (HW.out _ hB.out).mono ?_); rintro o w1 ⟨rfl, hb⟩; replace RZ := Go.Lib.hid (row_next hb RZ.out); replace C := Go.Lib.hid (row_next hb C.out); replace hB := Go.Lib.hid (below_next hB.out hb); clear hb))
  refine leaves_cons (f := 104) (args := #[.pointer (some ⟨(w.heap.size + 1), 0, none⟩)]) (by simp) (by simp [go_sem]) ?_
  refine (catch_pd ax d pr e (w.heap.size + 1) (.int .i64 1) _ (hE.next hB.out) C.out).mono ?_
  rintro o u' w'' ⟨rfl, rfl, w2, hb2, rfl⟩
  replace RZ := Go.Lib.hid (row_set' (g := (w.heap.size + 1)) (by omega) (row_next hb2 RZ.out) (vrow 1 fun _ => .int .i64 2)); replace C := Go.Lib.hid (row_set (row_next hb2 C.out) (vrow 1 fun _ => .int .i64 2)); replace hB := Go.Lib.hid (Below_setRow (below_next hB.out hb2) (show w.heap.size ≤ (w.heap.size + 1) by omega) (vrow 1 fun _ => .int .i64 2))
  exact ⟨_, res_cc Tryd.results52 w.heap.size 267 (prA Sh.zero 0) 84 _ Tryd.underlying84 rfl size_prd rfl RZ.out rw_i64u (w.heap.size + 1) (.int .i64 2) 2 rfl C.out, rfl, hB.out⟩
set_option maxHeartbeats 2000000 in
theorem unl_pd_err (fv : Value) (c : Int) (k : Nat) (e : ErrE) (w : World) (hE : Errs e w) (hc : ∀ w, Errs e w → Calls Tryd.prog 63 #[errP e k] w fun o w' => o = .returned (.int .i64 c) ∧ Below w.heap.size w w') :
    Calls Tryd.prog 52 #[errP e k, fv] w fun o w' => o = .returned (.tuple #[.agg (vrow 267 (prA Sh.zero 0)), .int .i64 c]) ∧ Below w.heap.size w w' := by
  have HC := Go.Lib.hid hc
  clear hc
  have zz := zero_prd
  have E := Go.Lib.hid hE
  have hB : Hid (Below w.heap.size w ((w.alloc (.cells (vrow 267 (prA Sh.zero 0)) 84)).alloc (.cells (vrow 1 fun _ => .int .i64 0) 2))) := (((Below.refl w.heap.size w).alloc (by simp <;> omega) _).alloc (by simp <;> omega) _)
  have RZ : Hid (((w.alloc (.cells (vrow 267 (prA Sh.zero 0)) 84)).alloc (.cells (vrow 1 fun _ => .int .i64 0) 2)).heap[w.heap.size]? = some (.cells (vrow 267 (prA Sh.zero 0)) 84)) := heap_past _ _ _ _ (by first | omega | (simp <;> omega)) (heap_at _ _ _ (by simp))
  have C : Hid (((w.alloc (.cells (vrow 267 (prA Sh.zero 0)) 84)).alloc (.cells (vrow 1 fun _ => .int .i64 0) 2)).heap[w.heap.size + 1]? = some (.cells (vrow 1 fun _ => .int .i64 0) 2)) := heap_at _ _ _ (by simp)
  go_enter_defers Tryd.func52, Tryd.ntmps52
  go_wp2
  refine region_qt 3 (by kernel_rfl) (by kernel_rfl) ?_
  intro W hW
  have hW2 : ((w.alloc (.cells (vrow 267 (prA Sh.zero 0)) 84)).alloc (.cells (vrow 1 fun _ => .int .i64 0) 2)) = W := hW
  rw [hW2] at hB RZ C
  have E' := Go.Lib.hid (hE.next hB.out)
  clear hW hW2
  simp only [List.take_succ_cons, List.take_zero, List.drop_succ_cons, List.drop_zero]
  have RZ' := Go.Lib.hid (cls_row' RZ.out)
  (repeat (first
    | go_big_quiet_skip
    | (refine wpQuiet_loadmid 84 _ rfl (want_n rfl) w.heap.size 0 rfl 267 267 (prA Sh.zero 0) _ rw_prd size_prd RZ'.out (by omega) ?_; simp only [Nat.zero_add]; simp only [Act.put, List.setIfInBounds_toArray, List.set_cons_succ, List.set_cons_zero])
    | go_big_quiet_step ((go_at_call 63; exact cls_call _ (fun w hw => HC.out w (E'.out.next hw))))))
  refine wpQuiet_nil ?_
  intro Wn hb
  replace RZ := Go.Lib.hid (row_next hb RZ.out); replace C := Go.Lib.hid (row_next hb C.out); replace hB := Go.Lib.hid (below_next hB.out hb)
  clear hb RZ' E' E HC
  go_wp2_with (first
    | ((with_reducible refine wlOp (.store 84 (.tmp 4) (.tmp 8)) rfl ?_); refine wpList_storeall rfl 84 (.tmp 4) (.tmp 8) rfl w.heap.size rfl 267 (prA Sh.zero 0) (prA Sh.zero 0) rfl 84 size_prd RZ.out (fun i _ => prA_one _ _ i) ?_; replace C := Go.Lib.hid (row_set' (g := w.heap.size) (by omega) C.out (vrow 267 (prA Sh.zero 0))); replace RZ := Go.Lib.hid (row_set RZ.out (vrow 267 (prA Sh.zero 0))); replace hB := Go.Lib.hid (Below_setRow hB.out (Nat.le_refl _) (vrow 267 (prA Sh.zero 0))))
    | ((with_reducible refine wlOp (.store 2 (.tmp 5) (.tmp 10)) rfl ?_); refine wpList_store1 rfl 2 (.tmp 5) (.tmp 10) rfl (w.heap.size + 1) 0 rfl 1 (fun _ => .int .i64 0) (.int .i64 c) rfl 2 size_i64w C.out (by omega) rfl ?_; rw [vrow_over_all]; replace RZ := Go.Lib.hid (row_set' (g := (w.heap.size + 1)) (by omega) RZ.out (vrow 1 fun _ => .int .i64 c)); replace C := Go.Lib.hid (row_set C.out (vrow 1 fun _ => .int .i64 c)); replace hB := Go.Lib.hid (Below_setRow hB.out (show w.heap.size ≤ (w.heap.size + 1) by omega) (vrow 1 fun _ => .int .i64 c))))
  exact ⟨_, res_cc Tryd.results52 w.heap.size 267 (prA Sh.zero 0) 84 _ Tryd.underlying84 rfl size_prd rfl RZ.out rw_i64u (w.heap.size + 1) (.int .i64 c) 2 rfl C.out, rfl, hB.out⟩
end Go.Proofs.YtmcpaangofdmpaaDoor
