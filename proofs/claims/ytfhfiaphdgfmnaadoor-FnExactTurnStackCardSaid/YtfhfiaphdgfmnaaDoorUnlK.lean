import Derived.Test.YtfhfiaphdgfmnaaDoorUnlD
import Derived.Test.YtfhfiaphdgfmnaaDoorMkR
namespace Go.Proofs.YtfhfiaphdgfmnaaDoor
open Go.RowKit
set_option maxRecDepth 100000
set_option linter.unusedVariables false
set_option linter.unusedSimpArgs false
set_option maxHeartbeats 1000000 in
theorem idle_stk (p : Addr) (w : World) : CallsD Tryd.prog 89 #[.pointer (some p)] .returning w fun e u' w' => e = .returned (.tuple #[]) ∧ u' = .returning ∧ w' = w := by
  refine callsD_of_wpS Tryd.func89 rfl fun c₀ cs hu => ?_
  apply wpS_seq
  apply wpS_region
  simp [wpOpsS, go_sem, recoverD, hu, Tryd.ntmps89, Exit.thenS, ta_nil]
  apply wpS_seq
  apply wpS_region
  simp [wpOpsS, go_sem, Exit.thenS]
  refine wpS_cond (t := false) (by simp [Act.eval]) ?_
  simp only [Bool.false_eq_true, if_false]
  refine wpS_of_wp (wp_skip ?_)
  cases c₀
  simp_all [bodyPostS, results, Tryd.results89]
set_option maxHeartbeats 2000000 in
theorem unl_stk_err (fv : Value) (c : Int) (k : Nat) (e : ErrE) (w : World) (hE : Errs e w) (hc : ∀ w, Errs e w → Calls Tryd.prog 45 #[errP e k] w fun o w' => o = .returned (.int .i64 c) ∧ Below w.heap.size w w') :
    Calls Tryd.prog 54 #[errP e k, fv] w fun o w' => o = .returned (.tuple #[.slice none 0 0, .int .i64 c]) ∧ Below w.heap.size w w' := by
  have HC := Go.Lib.hid hc
  clear hc
  have E := Go.Lib.hid hE
  have hB : Hid (Below w.heap.size w (w.alloc (.cells (vrow 1 fun _ => .int .i64 0) 2))) := ((Below.refl w.heap.size w).alloc (by simp <;> omega) _)
  have C : Hid ((w.alloc (.cells (vrow 1 fun _ => .int .i64 0) 2)).heap[w.heap.size]? = some (.cells (vrow 1 fun _ => .int .i64 0) 2)) := heap_at _ _ _ (by simp)
  go_enter_defers Tryd.func54, Tryd.ntmps54
  go_wp2_with (first
    | go_skip
    | (go_at_call 45; (refine (HC.out _ (E.out.next hB.out)).mono ?_); rintro o w1 ⟨rfl, hb⟩; replace C := Go.Lib.hid (row_next hb C.out); replace hB := Go.Lib.hid (below_next hB.out hb); clear hb)
    | ((with_reducible refine wlOp (.store 2 (.tmp 5) (.tmp 10)) rfl ?_); refine wpList_store1 rfl 2 (.tmp 5) (.tmp 10) rfl w.heap.size 0 rfl 1 (fun _ => .int .i64 0) (.int .i64 c) rfl 2 size_i64w C.out (by omega) rfl ?_; rw [vrow_over_all]; replace C := Go.Lib.hid (row_set C.out (vrow 1 fun _ => .int .i64 c)); replace hB := Go.Lib.hid (Below_setRow hB.out (Nat.le_refl _) (vrow 1 fun _ => .int .i64 c))))
  exact ⟨_, res_tc Tryd.results54 rw_i64u (.slice none 0 0) rfl w.heap.size (.int .i64 c) 2 rfl C.out, rfl, hB.out⟩
set_option maxHeartbeats 2000000 in
theorem unl_stk_ok (n : Nat) (ss : Nat → Sh) (sv : Value) (w : World)
    (HW0 : ∀ W, Below w.heap.size w W → Calls Tryd.prog 56 #[sv] W fun e w' => (∃ v, e = .returned v ∧ PK w' v n ss W.heap.size) ∧ Below W.heap.size W w') :
    Calls Tryd.prog 54 #[.nilIface, .func (.func 56) #[sv] #[]] w fun e w' => (∃ v, e = .returned (.tuple #[v, .int .i64 0]) ∧ PK w' v n ss w.heap.size) ∧ Below w.heap.size w w' := by
  have HW := Go.Lib.hid HW0
  clear HW0
  have hmf : ∀ (fn : Fn) (first cap : Array Value) (w : World), (Instr.makeFunc fn first cap).run Tryd.prog w = .ok (.func fn first cap) w := fun _ _ _ _ => rfl
  have hB : Hid (Below w.heap.size w (w.alloc (.cells (vrow 1 fun _ => .int .i64 0) 2))) := ((Below.refl w.heap.size w).alloc (by simp <;> omega) _)
  have C : Hid ((w.alloc (.cells (vrow 1 fun _ => .int .i64 0) 2)).heap[w.heap.size]? = some (.cells (vrow 1 fun _ => .int .i64 0) 2)) := heap_at _ _ _ (by simp)
  go_enter_defers Tryd.func54, Tryd.ntmps54
  go_wp2_with (first
    | go_skip
    | ((with_reducible refine wlOp (.store 2 (.tmp 5) (.const (.int .i64 1))) rfl ?_); refine wpList_store1 rfl 2 (.tmp 5) (.const (.int .i64 1)) rfl w.heap.size 0 rfl 1 (fun _ => .int .i64 0) (.int .i64 1) rfl 2 size_i64w C.out (by omega) rfl ?_; rw [vrow_over_all]; replace C := Go.Lib.hid (row_set C.out (vrow 1 fun _ => .int .i64 1)); replace hB := Go.Lib.hid (Below_setRow hB.out (Nat.le_refl _) (vrow 1 fun _ => .int .i64 1)))
    | (go_at_call 56; (refine (HW.out _ hB.out).mono ?_); rintro o w1 ⟨⟨v, rfl, hO⟩, hb⟩; have hcb := row_lt C.out; have O := Go.Lib.hid (hO.lo (show w.heap.size + 1 ≤ _ by omega)); clear hO; replace C := Go.Lib.hid (row_next hb C.out); replace hB := Go.Lib.hid (below_next hB.out hb); clear hb)
    | ((with_reducible refine wlOp (.store 2 (.tmp 5) (.const (.int .i64 0))) rfl ?_); refine wpList_store1 rfl 2 (.tmp 5) (.const (.int .i64 0)) rfl w.heap.size 0 rfl 1 (fun _ => .int .i64 1) (.int .i64 0) rfl 2 size_i64w C.out (by omega) rfl ?_; rw [vrow_over_all]; replace O := Go.Lib.hid (O.out.set (show w.heap.size < w.heap.size + 1 by omega) (vrow 1 fun _ => .int .i64 0)); replace C := Go.Lib.hid (row_set C.out (vrow 1 fun _ => .int .i64 0)); replace hB := Go.Lib.hid (Below_setRow hB.out (Nat.le_refl _) (vrow 1 fun _ => .int .i64 0))))
  refine leaves_cons (f := 89) (args := #[.pointer (some ⟨w.heap.size, 0, none⟩)]) (by simp) (by simp [go_sem]) ?_
  refine (idle_stk ⟨w.heap.size, 0, none⟩ _).mono ?_
  rintro e u' w'' ⟨rfl, rfl, rfl⟩
  have O2 := O.out.lo (show w.heap.size ≤ w.heap.size + 1 by omega)
  exact ⟨_, res_tc Tryd.results54 rw_i64u v rfl w.heap.size (.int .i64 0) 2 rfl C.out, ⟨v, rfl, O2⟩, hB.out⟩
end Go.Proofs.YtfhfiaphdgfmnaaDoor
