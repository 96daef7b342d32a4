import Derived.Defers
import Derived.Recover
import Derived.Deep.RegionHeld3
import Derived.Stop.Asserts
import Derived.Test.YtlgeemlbilngaaaDoorUnlS
namespace Go.Proofs.YtlgeemlbilngaaaDoor
open Go.RowKit
set_option maxRecDepth 100000
set_option linter.unusedVariables false
set_option linter.unusedSimpArgs false
set_option maxHeartbeats 1000000 in
theorem idle_b (p : Addr) (w : World) : CallsD Tryd.prog 41 #[.pointer (some p)] .returning w fun e u' w' => e = .returned (.tuple #[]) ∧ u' = .returning ∧ w' = w := by
  refine callsD_of_wpS Tryd.func41 rfl fun c₀ cs hu => ?_
  apply wpS_seq
  apply wpS_region
  simp [wpOpsS, go_sem, recoverD, hu, Tryd.ntmps41, Exit.thenS, ta_nil]
  apply wpS_seq
  apply wpS_region
  simp [wpOpsS, go_sem, Exit.thenS]
  refine wpS_cond (t := false) (by simp [Act.eval]) ?_
  simp only [Bool.false_eq_true, if_false]
  refine wpS_of_wp (wp_skip ?_)
  cases c₀
  simp_all [bodyPostS, results, Tryd.results41]
set_option maxHeartbeats 2000000 in
theorem catch_b (ax : Int) (d : Bool) (pr : Int) (e : ErrE) (p : Nat) (v0 : Value) (w : World) (hE : Errs e w) (hp : w.heap[p]? = some (.cells (vrow 1 fun _ => v0) 2)) : CallsD Tryd.prog 41 #[.pointer (some ⟨p, 0, none⟩)] (.panicking [{ v := .iface 110 (.agg #[.int .i8 ax, .bool d, .int .i8 pr]), recovered := false }]) w fun en u' w' => en = .returned (.tuple #[]) ∧ u' = .panicking [{ v := .iface 110 (.agg #[.int .i8 ax, .bool d, .int .i8 pr]), recovered := true }] ∧ ∃ w1, Below w.heap.size w w1 ∧ w' = w1.setRow p (vrow 1 fun _ => .int .i64 2) := by
  have E := Go.Lib.hid hE
  have C := Go.Lib.hid hp
  have hB := Go.Lib.hid (Below.refl w.heap.size w)
  refine callsD_of_wpS Tryd.func41 rfl fun c₀ cs hu => ?_
  apply wpS_seq
  apply wpS_region
  simp [wpOpsS, go_sem, recoverD, hu, Tryd.ntmps41, Exit.thenS, ta_bf]
  apply wpS_seq
  apply wpS_region
  simp [wpOpsS, go_sem, Exit.thenS]
  refine wpS_cond (t := true) (by simp [Act.eval]) ?_
  simp only [if_true]
  refine wpS_of_wp ?_
  clear hE hp
  have hmr := m_refused (.agg #[.int .i8 ax, .bool d, .int .i8 pr])
  simp only [List.size_toArray, List.length_cons, List.length_nil, Nat.reduceAdd, Nat.reduceSub, Array.replicate_succ, Array.replicate_zero, List.push_toArray, List.append_toArray, List.nil_append, List.cons_append, List.setIfInBounds_toArray, List.set_cons_succ, List.set_cons_zero]
  go_wp2_with (first
    | go_skip
    | (go_at_call 96; (refine (refused_any _ _ _ e _ E.out).mono ?_); rintro o w1 ⟨rfl, hb⟩; replace E := Go.Lib.hid (E.out.next hb); replace C := Go.Lib.hid (row_next hb C.out); replace hB := Go.Lib.hid (below_next hB.out hb); clear hb)
    | (go_at_call 40; (refine (codeOf_2 e _ E.out).mono ?_); rintro o w1 ⟨rfl, hb⟩; replace E := Go.Lib.hid (E.out.next hb); replace C := Go.Lib.hid (row_next hb C.out); replace hB := Go.Lib.hid (below_next hB.out hb); clear hb)
    | ((with_reducible refine wlOp (.store 2 (.tmp 0) (.tmp 11)) rfl ?_); refine wpList_store1 rfl 2 (.tmp 0) (.tmp 11) rfl p 0 rfl 1 (fun _ => v0) (.int .i64 2) rfl 2 size_i64w C.out (by omega) rfl ?_; rw [vrow_over_all]))
  simp [bodyPostS, results, Tryd.results41]
  exact ⟨_, hB.out, rfl⟩
set_option maxHeartbeats 2000000 in
theorem unl_mir_ok (b1 b2 : Nat) (u : Value) (w : World)
    (HW0 : ∀ W, Below w.heap.size w W → Calls Tryd.prog 22 #[.pointer (some ⟨b1, 0, none⟩), .pointer (some ⟨b2, 0, none⟩)] W fun e w' => e = .returned u ∧ Below W.heap.size W w') :
    Calls Tryd.prog 20 #[.nilIface, .func (.func 22) #[] #[.pointer (some ⟨b1, 0, none⟩), .pointer (some ⟨b2, 0, none⟩)]] w fun e w' => e = .returned (.tuple #[u, .int .i64 0]) ∧ Below w.heap.size w w' := by
  have HW := Go.Lib.hid HW0
  clear HW0
  have hmf : ∀ (fn : Fn) (first cap : Array Value) (w : World), (Instr.makeFunc fn first cap).run Tryd.prog w = .ok (.func fn first cap) w := fun _ _ _ _ => rfl
  have hB : Hid (Below w.heap.size w (w.alloc (.cells (vrow 1 fun _ => .int .i64 0) 2))) := ((Below.refl w.heap.size w).alloc (by simp <;> omega) _)
  have C : Hid ((w.alloc (.cells (vrow 1 fun _ => .int .i64 0) 2)).heap[w.heap.size]? = some (.cells (vrow 1 fun _ => .int .i64 0) 2)) := heap_at _ _ _ (by simp)
  go_enter_defers Tryd.func20, Tryd.ntmps20
  go_wp2_with (first
    | go_skip
    | ((with_reducible refine wlOp (.store 2 (.tmp 5) (.const (.int .i64 1))) rfl ?_); refine wpList_store1 rfl 2 (.tmp 5) (.const (.int .i64 1)) rfl w.heap.size 0 rfl 1 (fun _ => .int .i64 0) (.int .i64 1) rfl 2 size_i64w C.out (by omega) rfl ?_; rw [vrow_over_all]; replace C := Go.Lib.hid (row_set C.out (vrow 1 fun _ => .int .i64 1)); replace hB := Go.Lib.hid (Below_setRow hB.out (Nat.le_refl _) (vrow 1 fun _ => .int .i64 1)))
    | (go_at_call 22; (refine (HW.out _ hB.out).mono ?_); rintro o w1 ⟨rfl, hb⟩; replace C := Go.Lib.hid (row_next hb C.out); replace hB := Go.Lib.hid (below_next hB.out hb); clear hb)
    | ((with_reducible refine wlOp (.store 2 (.tmp 5) (.const (.int .i64 0))) rfl ?_); refine wpList_store1 rfl 2 (.tmp 5) (.const (.int .i64 0)) rfl w.heap.size 0 rfl 1 (fun _ => .int .i64 1) (.int .i64 0) rfl 2 size_i64w C.out (by omega) rfl ?_; rw [vrow_over_all]; replace C := Go.Lib.hid (row_set C.out (vrow 1 fun _ => .int .i64 0)); replace hB := Go.Lib.hid (Below_setRow hB.out (Nat.le_refl _) (vrow 1 fun _ => .int .i64 0))))
  refine leaves_cons (f := 41) (args := #[.pointer (some ⟨w.heap.size, 0, none⟩)]) (by simp) (by simp [go_sem]) ?_
  refine (idle_b ⟨w.heap.size, 0, none⟩ _).mono ?_
  rintro e u' w'' ⟨rfl, rfl, rfl⟩
  exact ⟨_, res_tc Tryd.results20 rw_i64u u rfl w.heap.size (.int .i64 0) 2 rfl C.out, rfl, hB.out⟩
set_option maxHeartbeats 2000000 in
theorem unl_mir_catch (b1 b2 : Nat) (ax : Int) (d : Bool) (pr : Int) (e : ErrE) (w : World) (hE : Errs e w)
    (HW0 : ∀ W, Below w.heap.size w W → Calls Tryd.prog 22 #[.pointer (some ⟨b1, 0, none⟩), .pointer (some ⟨b2, 0, none⟩)] W fun e w' => e = .panicked [{ v := .iface 110 (.agg #[.int .i8 ax, .bool d, .int .i8 pr]), recovered := false }] ∧ Below W.heap.size W w') :
    Calls Tryd.prog 20 #[.nilIface, .func (.func 22) #[] #[.pointer (some ⟨b1, 0, none⟩), .pointer (some ⟨b2, 0, none⟩)]] w fun e w' => e = .returned (.tuple #[.bool false, .int .i64 2]) ∧ Below w.heap.size w w' := by
  have HW := Go.Lib.hid HW0
  clear HW0
  have hmf : ∀ (fn : Fn) (first cap : Array Value) (w : World), (Instr.makeFunc fn first cap).run Tryd.prog w = .ok (.func fn first cap) w := fun _ _ _ _ => rfl
  have hB : Hid (Below w.heap.size w (w.alloc (.cells (vrow 1 fun _ => .int .i64 0) 2))) := ((Below.refl w.heap.size w).alloc (by simp <;> omega) _)
  have C : Hid ((w.alloc (.cells (vrow 1 fun _ => .int .i64 0) 2)).heap[w.heap.size]? = some (.cells (vrow 1 fun _ => .int .i64 0) 2)) := heap_at _ _ _ (by simp)
  go_enter_defers Tryd.func20, Tryd.ntmps20
  go_wp2_with (first
    | go_skip
    | ((with_reducible refine wlOp (.store 2 (.tmp 5) (.const (.int .i64 1))) rfl ?_); refine wpList_store1 rfl 2 (.tmp 5) (.const (.int .i64 1)) rfl w.heap.size 0 rfl 1 (fun _ => .int .i64 0) (.int .i64 1) rfl 2 size_i64w C.out (by omega) rfl ?_; rw [vrow_over_all]; replace C := Go.Lib.hid (row_set C.out (vrow 1 fun _ => .int .i64 1)); replace hB := Go.Lib.hid (Below_setRow hB.out (Nat.le_refl _) (vrow 1 fun _ => .int .i64 1)))
    | (go_at_call 22; (refine (HW.out _ hB.out).mono ?_); rintro o w1 ⟨rfl, hb⟩; replace C := Go.Lib.hid (row_next hb C.out); replace hB := Go.Lib.hid (below_next hB.out hb); clear hb))
  refine leaves_cons (f := 41) (args := #[.pointer (some ⟨w.heap.size, 0, none⟩)]) (by simp) (by simp [go_sem]) ?_
  refine (catch_b ax d pr e w.heap.size (.int .i64 1) _ (hE.next hB.out) C.out).mono ?_
  rintro o u' w'' ⟨rfl, rfl, w2, hb2, rfl⟩
  replace C := Go.Lib.hid (row_set (row_next hb2 C.out) (vrow 1 fun _ => .int .i64 2)); replace hB := Go.Lib.hid (Below_setRow (below_next hB.out hb2) (Nat.le_refl _) (vrow 1 fun _ => .int .i64 2))
  exact ⟨_, res_tc Tryd.results20 rw_i64u (.bool false) rfl w.heap.size (.int .i64 2) 2 rfl C.out, rfl, hB.out⟩
set_option maxHeartbeats 2000000 in
theorem unl_cbf_ok (b1 b2 : Nat) (u : Value) (w : World)
    (HW0 : ∀ W, Below w.heap.size w W → Calls Tryd.prog 25 #[.pointer (some ⟨b1, 0, none⟩), .pointer (some ⟨b2, 0, none⟩)] W fun e w' => e = .returned u ∧ Below W.heap.size W w') :
    Calls Tryd.prog 20 #[.nilIface, .func (.func 25) #[] #[.pointer (some ⟨b1, 0, none⟩), .pointer (some ⟨b2, 0, none⟩)]] w fun e w' => e = .returned (.tuple #[u, .int .i64 0]) ∧ Below w.heap.size w w' := by
  have HW := Go.Lib.hid HW0
  clear HW0
  have hmf : ∀ (fn : Fn) (first cap : Array Value) (w : World), (Instr.makeFunc fn first cap).run Tryd.prog w = .ok (.func fn first cap) w := fun _ _ _ _ => rfl
  have hB : Hid (Below w.heap.size w (w.alloc (.cells (vrow 1 fun _ => .int .i64 0) 2))) := ((Below.refl w.heap.size w).alloc (by simp <;> omega) _)
  have C : Hid ((w.alloc (.cells (vrow 1 fun _ => .int .i64 0) 2)).heap[w.heap.size]? = some (.cells (vrow 1 fun _ => .int .i64 0) 2)) := heap_at _ _ _ (by simp)
  go_enter_defers Tryd.func20, Tryd.ntmps20
  go_wp2_with (first
    | go_skip
    | ((with_reducible refine wlOp (.store 2 (.tmp 5) (.const (.int .i64 1))) rfl ?_); refine wpList_store1 rfl 2 (.tmp 5) (.const (.int .i64 1)) rfl w.heap.size 0 rfl 1 (fun _ => .int .i64 0) (.int .i64 1) rfl 2 size_i64w C.out (by omega) rfl ?_; rw [vrow_over_all]; replace C := Go.Lib.hid (row_set C.out (vrow 1 fun _ => .int .i64 1)); replace hB := Go.Lib.hid (Below_setRow hB.out (Nat.le_refl _) (vrow 1 fun _ => .int .i64 1)))
    | (go_at_call 25; (refine (HW.out _ hB.out).mono ?_); rintro o w1 ⟨rfl, hb⟩; replace C := Go.Lib.hid (row_next hb C.out); replace hB := Go.Lib.hid (below_next hB.out hb); clear hb)
    | ((with_reducible refine wlOp (.store 2 (.tmp 5) (.const (.int .i64 0))) rfl ?_); refine wpList_store1 rfl 2 (.tmp 5) (.const (.int .i64 0)) rfl w.heap.size 0 rfl 1 (fun _ => .int .i64 1) (.int .i64 0) rfl 2 size_i64w C.out (by omega) rfl ?_; rw [vrow_over_all]; replace C := Go.Lib.hid (row_set C.out (vrow 1 fun _ => .int .i64 0)); replace hB := Go.Lib.hid (Below_setRow hB.out (Nat.le_refl _) (vrow 1 fun _ => .int .i64 0))))
  refine leaves_cons (f := 41) (args := #[.pointer (some ⟨w.heap.size, 0, none⟩)]) (by simp) (by simp [go_sem]) ?_
  refine (idle_b ⟨w.heap.size, 0, none⟩ _).mono ?_
  rintro e u' w'' ⟨rfl, rfl, rfl⟩
  exact ⟨_, res_tc Tryd.results20 rw_i64u u rfl w.heap.size (.int .i64 0) 2 rfl C.out, rfl, hB.out⟩
set_option maxHeartbeats 2000000 in
theorem unl_cbf_catch (b1 b2 : Nat) (ax : Int) (d : Bool) (pr : Int) (e : ErrE) (w : World) (hE : Errs e w)
    (HW0 : ∀ W, Below w.heap.size w W → Calls Tryd.prog 25 #[.pointer (some ⟨b1, 0, none⟩), .pointer (some ⟨b2, 0, none⟩)] W fun e w' => e = .panicked [{ v := .iface 110 (.agg #[.int .i8 ax, .bool d, .int .i8 pr]), recovered := false }] ∧ Below W.heap.size W w') :
    Calls Tryd.prog 20 #[.nilIface, .func (.func 25) #[] #[.pointer (some ⟨b1, 0, none⟩), .pointer (some ⟨b2, 0, none⟩)]] w fun e w' => e = .returned (.tuple #[.bool false, .int .i64 2]) ∧ Below w.heap.size w w' := by
  have HW := Go.Lib.hid HW0
  clear HW0
  have hmf : ∀ (fn : Fn) (first cap : Array Value) (w : World), (Instr.makeFunc fn first cap).run Tryd.prog w = .ok (.func fn first cap) w := fun _ _ _ _ => rfl
  have hB : Hid (Below w.heap.size w (w.alloc (.cells (vrow 1 fun _ => .int .i64 0) 2))) := ((Below.refl w.heap.size w).alloc (by simp <;> omega) _)
  have C : Hid ((w.alloc (.cells (vrow 1 fun _ => .int .i64 0) 2)).heap[w.heap.size]? = some (.cells (vrow 1 fun _ => .int .i64 0) 2)) := heap_at _ _ _ (by simp)
  go_enter_defers Tryd.func20, Tryd.ntmps20
  go_wp2_with (first
    | go_skip
    | ((with_reducible refine wlOp (.store 2 (.tmp 5) (.const (.int .i64 1))) rfl ?_); refine wpList_store1 rfl 2 (.tmp 5) (.const (.int .i64 1)) rfl w.heap.size 0 rfl 1 (fun _ => .int .i64 0) (.int .i64 1) rfl 2 size_i64w C.out (by omega) rfl ?_; rw [vrow_over_all]; replace C := Go.Lib.hid (row_set C.out (vrow 1 fun _ => .int .i64 1)); replace hB := Go.Lib.hid (Below_setRow hB.out (Nat.le_refl _) (vrow 1 fun _ => .int .i64 1)))
    | (go_at_call 25; (refine (HW.out _ hB.out).mono ?_); rintro o w1 ⟨rfl, hb⟩; replace C := Go.Lib.hid (row_next hb C.out); replace hB := Go.Lib.hid (below_next hB.out hb); clear hb))
  refine leaves_cons (f := 41) (args := #[.pointer (some ⟨w.heap.size, 0, none⟩)]) (by simp) (by simp [go_sem]) ?_
  refine (catch_b ax d pr e w.heap.size (.int .i64 1) _ (hE.next hB.out) C.out).mono ?_
  rintro o u' w'' ⟨rfl, rfl, w2, hb2, rfl⟩
  replace C := Go.Lib.hid (row_set (row_next hb2 C.out) (vrow 1 fun _ => .int .i64 2)); replace hB := Go.Lib.hid (Below_setRow (below_next hB.out hb2) (Nat.le_refl _) (vrow 1 fun _ => .int .i64 2))
  exact ⟨_, res_tc Tryd.results20 rw_i64u (.bool false) rfl w.heap.size (.int .i64 2) 2 rfl C.out, rfl, hB.out⟩
set_option maxHeartbeats 2000000 in
theorem unl_b_err (fv : Value) (c : Int) (k : Nat) (e : ErrE) (w : World) (hE : Errs e w) (hc : ∀ w, Errs e w → Calls Tryd.prog 40 #[errP e k] w fun o w' => o = .returned (.int .i64 c) ∧ Below w.heap.size w w') :
    Calls Tryd.prog 20 #[errP e k, fv] w fun o w' => o = .returned (.tuple #[.bool false, .int .i64 c]) ∧ Below w.heap.size w w' := by
  have HC := Go.Lib.hid hc
  clear hc
  have E := Go.Lib.hid hE
  have hB : Hid (Below w.heap.size w (w.alloc (.cells (vrow 1 fun _ => .int .i64 0) 2))) := ((Below.refl w.heap.size w).alloc (by simp <;> omega) _)
  have C : Hid ((w.alloc (.cells (vrow 1 fun _ => .int .i64 0) 2)).heap[w.heap.size]? = some (.cells (vrow 1 fun _ => .int .i64 0) 2)) := heap_at _ _ _ (by simp)
  go_enter_defers Tryd.func20, Tryd.ntmps20
  go_wp2_with (first
    | go_skip
    | (go_at_call 40; (refine (HC.out _ (E.out.next hB.out)).mono ?_); rintro o w1 ⟨rfl, hb⟩; replace C := Go.Lib.hid (row_next hb C.out); replace hB := Go.Lib.hid (below_next hB.out hb); clear hb)
    | ((with_reducible refine wlOp (.store 2 (.tmp 5) (.tmp 10)) rfl ?_); refine wpList_store1 rfl 2 (.tmp 5) (.tmp 10) rfl w.heap.size 0 rfl 1 (fun _ => .int .i64 0) (.int .i64 c) rfl 2 size_i64w C.out (by omega) rfl ?_; rw [vrow_over_all]; replace C := Go.Lib.hid (row_set C.out (vrow 1 fun _ => .int .i64 c)); replace hB := Go.Lib.hid (Below_setRow hB.out (Nat.le_refl _) (vrow 1 fun _ => .int .i64 c))))
  exact ⟨_, res_tc Tryd.results20 rw_i64u (.bool false) rfl w.heap.size (.int .i64 c) 2 rfl C.out, rfl, hB.out⟩
end Go.Proofs.YtlgeemlbilngaaaDoor
