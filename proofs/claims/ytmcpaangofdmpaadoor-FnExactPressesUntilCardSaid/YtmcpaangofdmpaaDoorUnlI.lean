import Derived.Defers
import Derived.Recover
import Derived.Deep.RegionHeld3
import Derived.Stop.Asserts
import Derived.Test.YtmcpaangofdmpaaDoorUnlS
namespace Go.Proofs.YtmcpaangofdmpaaDoor
open Go.RowKit
set_option maxRecDepth 100000
set_option linter.unusedVariables false
set_option linter.unusedSimpArgs false
set_option maxHeartbeats 1000000 in
theorem idle_i64 (p : Addr) (w : World) : CallsD Tryd.prog 107 #[.pointer (some p)] .returning w fun e u' w' => e = .returned (.tuple #[]) ∧ u' = .returning ∧ w' = w := by
  refine callsD_of_wpS Tryd.func107 rfl fun c₀ cs hu => ?_
  apply wpS_seq
  apply wpS_region
  simp [wpOpsS, go_sem, recoverD, hu, Tryd.ntmps107, Exit.thenS, ta_nil]
  apply wpS_seq
  apply wpS_region
  simp [wpOpsS, go_sem, Exit.thenS]
  refine wpS_cond (t := false) (by simp [Act.eval]) ?_
  simp only [Bool.false_eq_true, if_false]
  refine wpS_of_wp (wp_skip ?_)
  cases c₀
  simp_all [bodyPostS, results, Tryd.results107]
set_option maxHeartbeats 2000000 in
theorem catch_i64 (ax : Int) (d : Bool) (pr : Int) (e : ErrE) (p : Nat) (v0 : Value) (w : World) (hE : Errs e w) (hp : w.heap[p]? = some (.cells (vrow 1 fun _ => v0) 2)) : CallsD Tryd.prog 107 #[.pointer (some ⟨p, 0, none⟩)] (.panicking [{ v := .iface 179 (.agg #[.int .i8 ax, .bool d, .int .i8 pr]), recovered := false }]) w fun en u' w' => en = .returned (.tuple #[]) ∧ u' = .panicking [{ v := .iface 179 (.agg #[.int .i8 ax, .bool d, .int .i8 pr]), recovered := true }] ∧ ∃ w1, Below w.heap.size w w1 ∧ w' = w1.setRow p (vrow 1 fun _ => .int .i64 2) := by
  have E := Go.Lib.hid hE
  have C := Go.Lib.hid hp
  have hB := Go.Lib.hid (Below.refl w.heap.size w)
  refine callsD_of_wpS Tryd.func107 rfl fun c₀ cs hu => ?_
  apply wpS_seq
  apply wpS_region
  simp [wpOpsS, go_sem, recoverD, hu, Tryd.ntmps107, Exit.thenS, ta_bf]
  apply wpS_seq
  apply wpS_region
  simp [wpOpsS, go_sem, Exit.thenS]
  refine wpS_cond (t := true) (by simp [Act.eval]) ?_
  simp only [if_true]
  refine wpS_of_wp ?_
  clear hE hp
  have hmr := m_refused (.agg #[.int .i8 ax, .bool d, .int .i8 pr])
  simp only [List.size_toArray, List.length_cons, List.length_nil, Nat.reduceAdd, Nat.reduceSub, Array.replicate_succ, Array.replicate_zero, List.push_toArray, List.append_toArray, List.nil_append, List.cons_append, List.setIfInBounds_toArray, List.set_cons_succ, List.set_cons_zero]
  go_wp2_with (first
    | go_skip
    | (go_at_call 170; (refine (refused_any _ _ _ e _ E.out).mono ?_); rintro o w1 ⟨rfl, hb⟩; replace E := Go.Lib.hid (E.out.next hb); replace C := Go.Lib.hid (row_next hb C.out); replace hB := Go.Lib.hid (below_next hB.out hb); clear hb)
    | (go_at_call 63; (refine (codeOf_2 e _ E.out).mono ?_); rintro o w1 ⟨rfl, hb⟩; replace E := Go.Lib.hid (E.out.next hb); replace C := Go.Lib.hid (row_next hb C.out); replace hB := Go.Lib.hid (below_next hB.out hb); clear hb)
    | ((with_reducible refine wlOp (.store 2 (.tmp 0) (.tmp 11)) rfl ?_); refine wpList_store1 rfl 2 (.tmp 0) (.tmp 11) rfl p 0 rfl 1 (fun _ => v0) (.int .i64 2) rfl 2 size_i64w C.out (by omega) rfl ?_; rw [vrow_over_all]))
  simp [bodyPostS, results, Tryd.results107]
  exact ⟨_, hB.out, rfl⟩
set_option maxHeartbeats 2000000 in
theorem unl_i64_err (fv : Value) (c : Int) (k : Nat) (e : ErrE) (w : World) (hE : Errs e w) (hc : ∀ w, Errs e w → Calls Tryd.prog 63 #[errP e k] w fun o w' => o = .returned (.int .i64 c) ∧ Below w.heap.size w w') :
    Calls Tryd.prog 57 #[errP e k, fv] w fun o w' => o = .returned (.tuple #[.int .i64 0, .int .i64 c]) ∧ Below w.heap.size w w' := by
  have HC := Go.Lib.hid hc
  clear hc
  have E := Go.Lib.hid hE
  have hB : Hid (Below w.heap.size w (w.alloc (.cells (vrow 1 fun _ => .int .i64 0) 2))) := ((Below.refl w.heap.size w).alloc (by simp <;> omega) _)
  have C : Hid ((w.alloc (.cells (vrow 1 fun _ => .int .i64 0) 2)).heap[w.heap.size]? = some (.cells (vrow 1 fun _ => .int .i64 0) 2)) := heap_at _ _ _ (by simp)
  go_enter_defers Tryd.func57, Tryd.ntmps57
  go_wp2_with (first
    | go_skip
    | (go_at_call 63; (refine (HC.out _ (E.out.next hB.out)).mono ?_); rintro o w1 ⟨rfl, hb⟩; replace C := Go.Lib.hid (row_next hb C.out); replace hB := Go.Lib.hid (below_next hB.out hb); clear hb)
    | ((with_reducible refine wlOp (.store 2 (.tmp 5) (.tmp 10)) rfl ?_); refine wpList_store1 rfl 2 (.tmp 5) (.tmp 10) rfl w.heap.size 0 rfl 1 (fun _ => .int .i64 0) (.int .i64 c) rfl 2 size_i64w C.out (by omega) rfl ?_; rw [vrow_over_all]; replace C := Go.Lib.hid (row_set C.out (vrow 1 fun _ => .int .i64 c)); replace hB := Go.Lib.hid (Below_setRow hB.out (Nat.le_refl _) (vrow 1 fun _ => .int .i64 c))))
  exact ⟨_, res_tc Tryd.results57 rw_i64u (.int .i64 0) rfl w.heap.size (.int .i64 c) 2 rfl C.out, rfl, hB.out⟩
end Go.Proofs.YtmcpaangofdmpaaDoor
