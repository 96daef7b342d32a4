import Derived.Defers
import Derived.Recover
import Derived.Deep.RegionHeld3
import Derived.Stop.Asserts
import Derived.Test.YtfgcpiipndhllaaDoorUnlS
import Derived.Test.YtfgcpiipndhllaaDoorPairB
import Derived.Test.YtfgcpiipndhllaaDoorPrsQ
namespace Go.Proofs.YtfgcpiipndhllaaDoor
open Go.RowKit
set_option maxRecDepth 100000
set_option linter.unusedVariables false
set_option linter.unusedSimpArgs false
set_option maxHeartbeats 1000000 in
theorem idle_prs (p : Addr) (w : World) : CallsD Tryd.prog 158 #[.pointer (some p)] .returning w fun e u' w' => e = .returned (.tuple #[]) ∧ u' = .returning ∧ w' = w := by
  refine callsD_of_wpS Tryd.func158 rfl fun c₀ cs hu => ?_
  apply wpS_seq
  apply wpS_region
  simp [wpOpsS, go_sem, recoverD, hu, Tryd.ntmps158, Exit.thenS, ta_nil]
  apply wpS_seq
  apply wpS_region
  simp [wpOpsS, go_sem, Exit.thenS]
  refine wpS_cond (t := false) (by simp [Act.eval]) ?_
  simp only [Bool.false_eq_true, if_false]
  refine wpS_of_wp (wp_skip ?_)
  cases c₀
  simp_all [bodyPostS, results, Tryd.results158]
set_option maxHeartbeats 2000000 in
theorem catch_prs (ax : Int) (d : Bool) (pr : Int) (e : ErrE) (p : Nat) (v0 : Value) (w : World) (hE : Errs e w) (hp : w.heap[p]? = some (.cells (vrow 1 fun _ => v0) 2)) : CallsD Tryd.prog 158 #[.pointer (some ⟨p, 0, none⟩)] (.panicking [{ v := .iface 255 (.agg #[.int .i8 ax, .bool d, .int .i8 pr]), recovered := false }]) w fun en u' w' => en = .returned (.tuple #[]) ∧ u' = .panicking [{ v := .iface 255 (.agg #[.int .i8 ax, .bool d, .int .i8 pr]), recovered := true }] ∧ ∃ w1, Below w.heap.size w w1 ∧ w' = w1.setRow p (vrow 1 fun _ => .int .i64 2) := by
  have E := Go.Lib.hid hE
  have C := Go.Lib.hid hp
  have hB := Go.Lib.hid (Below.refl w.heap.size w)
  refine callsD_of_wpS Tryd.func158 rfl fun c₀ cs hu => ?_
  apply wpS_seq
  apply wpS_region
  simp [wpOpsS, go_sem, recoverD, hu, Tryd.ntmps158, Exit.thenS, ta_bf]
  apply wpS_seq
  apply wpS_region
  simp [wpOpsS, go_sem, Exit.thenS]
  refine wpS_cond (t := true) (by simp [Act.eval]) ?_
  simp only [if_true]
  refine wpS_of_wp ?_
  clear hE hp
  have hmr := m_refused (.agg #[.int .i8 ax, .bool d, .int .i8 pr])
  simp only [List.size_toArray, List.length_cons, List.length_nil, Nat.reduceAdd, Nat.reduceSub, Array.replicate_succ, Array.replicate_zero, List.push_toArray, List.append_toArray, List.nil_append, List.cons_append, List.setIfInBounds_toArray, List.set_cons_succ, List.set_cons_zero]
  go_wp2_with (first
    | go_skip
    | (go_at_call 222; (refine (refused_any _ _ _ e _ E.out).mono ?_); rintro o w1 ⟨rfl, hb⟩; replace E := Go.Lib.hid (E.out.next hb); replace C := Go.Lib.hid (row_next hb C.out); replace hB := Go.Lib.hid (below_next hB.out hb); clear hb)
    | (go_at_call 62; (refine (codeOf_2 e _ E.out).mono ?_); rintro o w1 ⟨rfl, hb⟩; replace E := Go.Lib.hid (E.out.next hb); replace C := Go.Lib.hid (row_next hb C.out); replace hB := Go.Lib.hid (below_next hB.out hb); clear hb)
    | ((with_reducible refine wlOp (.store 2 (.tmp 0) (.tmp 11)) rfl ?_); refine wpList_store1 rfl 2 (.tmp 0) (.tmp 11) rfl p 0 rfl 1 (fun _ => v0) (.int .i64 2) rfl 2 size_i64w C.out (by omega) rfl ?_; rw [vrow_over_all]))
  simp [bodyPostS, results, Tryd.results158]
  exact ⟨_, hB.out, rfl⟩
set_option maxHeartbeats 2000000 in
theorem prc_bad (s : Sh) (ax : Int) (d : Bool) (pr : Int) (b1 b2 : Nat) (w : World) (h1 : w.heap[b1]? = some (.cells (vrow 266 s.at) 36)) (h2 : w.heap[b2]? = some (.cells (vrow 3 (foAt ax d pr)) 88)) (hf : s.fit) (hv : (okI s && foldOk s ax d pr) = false) : Calls Tryd.prog 107 #[.pointer (some ⟨b1, 0, none⟩), .pointer (some ⟨b2, 0, none⟩)] w fun e w' => e = .panicked [{ v := .iface 255 (.agg #[.int .i8 ax, .bool d, .int .i8 pr]), recovered := false }] ∧ Below w.heap.size w w' := by
  have HP := Go.Lib.hid fun w => pairs_bad s ax d pr w hf hv
  have P := Go.Lib.hid h1; have F := Go.Lib.hid h2; have hB := Go.Lib.hid (Below.refl w.heap.size w)
  clear h1 h2 hv
  go_enter Tryd.func107, Tryd.ntmps107
  go_wp2_with (first
    | go_skip
    | ((with_reducible refine wlAt 3 rfl ?_); refine wpList_loadall rfl 36 (.tmp 0) rfl b1 rfl 266 s.at 36 _ Tryd.underlying36 rfl size_sheet P.out ?_)
    | ((with_reducible refine wlAt 4 rfl ?_); refine wpList_loadall rfl 88 (.tmp 1) rfl b2 rfl 3 (foAt ax d pr) 88 _ Tryd.underlying88 rfl size_fold F.out ?_)
    | (go_at_call 104; (refine (HP.out _).mono ?_); rintro o w1 ⟨rfl, hb⟩; replace hB := Go.Lib.hid (below_next hB.out hb); clear hb))
  exact ⟨rfl, rfl, hB.out⟩
set_option maxHeartbeats 2000000 in
theorem prc_ok (s : Sh) (ax : Int) (d : Bool) (pr : Int) (a c : Nat) (b1 b2 : Nat) (w : World) (h1 : w.heap[b1]? = some (.cells (vrow 266 s.at) 36)) (h2 : w.heap[b2]? = some (.cells (vrow 3 (foAt ax d pr)) 88)) (hf : s.fit) (hv : (okI s && foldOk s ax d pr) = true) (hax : 1 ≤ ax ∧ ax ≤ 8) (ea : s.wide = a) (ec : s.high = c) (ha : a ≤ 8) (hc : c ≤ 8) : Calls Tryd.prog 107 #[.pointer (some ⟨b1, 0, none⟩), .pointer (some ⟨b2, 0, none⟩)] w fun e w' => (∃ v, e = .returned v ∧ PRO w' v ax d (prsL s a c ax d) w.heap.size) ∧ Below w.heap.size w w' := by
  have HP := Go.Lib.hid fun w => pairs_any s ax d pr a c w hf hv hax ea ec ha hc
  clear ea ec
  have P := Go.Lib.hid h1; have F := Go.Lib.hid h2; have hB := Go.Lib.hid (Below.refl w.heap.size w)
  clear h1 h2 hv
  go_enter Tryd.func107, Tryd.ntmps107
  go_wp2_with (first
    | go_skip
    | ((with_reducible refine wlAt 3 rfl ?_); refine wpList_loadall rfl 36 (.tmp 0) rfl b1 rfl 266 s.at 36 _ Tryd.underlying36 rfl size_sheet P.out ?_)
    | ((with_reducible refine wlAt 4 rfl ?_); refine wpList_loadall rfl 88 (.tmp 1) rfl b2 rfl 3 (foAt ax d pr) 88 _ Tryd.underlying88 rfl size_fold F.out ?_)
    | (go_at_call 104; (refine (HP.out _).mono ?_); rintro o w1 ⟨v, rfl, hO, hb⟩; have hsz := hB.out.size; replace hB := Go.Lib.hid (below_next hB.out hb); have O := Go.Lib.hid ((own_pro hO).mono hsz); clear hb hO))
  go_ret
  exact ⟨⟨v, rfl, O.out⟩, hB.out⟩
set_option maxHeartbeats 2000000 in
theorem unl_prs_ok (b1 b2 : Nat) (ax : Int) (d : Bool) (L : List Sp8) (w : World)
    (HW0 : ∀ W, Below w.heap.size w W → Calls Tryd.prog 107 #[.pointer (some ⟨b1, 0, none⟩), .pointer (some ⟨b2, 0, none⟩)] W fun e w' => (∃ v, e = .returned v ∧ PRO w' v ax d L W.heap.size) ∧ Below W.heap.size W w') :
    Calls Tryd.prog 106 #[.nilIface, .func (.func 107) #[] #[.pointer (some ⟨b1, 0, none⟩), .pointer (some ⟨b2, 0, none⟩)]] w fun e w' => (∃ v, e = .returned (.tuple #[v, .int .i64 0]) ∧ PRO w' v ax d L w.heap.size) ∧ Below w.heap.size w w' := by
  have HW := Go.Lib.hid HW0
  clear HW0
  have hmf : ∀ (fn : Fn) (first cap : Array Value) (w : World), (Instr.makeFunc fn first cap).run Tryd.prog w = .ok (.func fn first cap) w := fun _ _ _ _ => rfl
  have hB : Hid (Below w.heap.size w (w.alloc (.cells (vrow 1 fun _ => .int .i64 0) 2))) := ((Below.refl w.heap.size w).alloc (by simp <;> omega) _)
  have C : Hid ((w.alloc (.cells (vrow 1 fun _ => .int .i64 0) 2)).heap[w.heap.size]? = some (.cells (vrow 1 fun _ => .int .i64 0) 2)) := heap_at _ _ _ (by simp)
  go_enter_defers Tryd.func106, Tryd.ntmps106
  go_wp2_with (first
    | go_skip
    | ((with_reducible refine wlOp (.store 2 (.tmp 5) (.const (.int .i64 1))) rfl ?_); refine wpList_store1 rfl 2 (.tmp 5) (.const (.int .i64 1)) rfl w.heap.size 0 rfl 1 (fun _ => .int .i64 0) (.int .i64 1) rfl 2 size_i64w C.out (by omega) rfl ?_; rw [vrow_over_all]; replace C := Go.Lib.hid (row_set C.out (vrow 1 fun _ => .int .i64 1)); replace hB := Go.Lib.hid (Below_setRow hB.out (Nat.le_refl _) (vrow 1 fun _ => .int .i64 1)))
    | (go_at_call 107; (refine (HW.out _ hB.out).mono ?_); rintro o w1 ⟨⟨v, rfl, hO⟩, hb⟩; have hcb := row_lt C.out; have O := Go.Lib.hid (hO.mono (show w.heap.size + 1 ≤ _ by omega)); clear hO; replace C := Go.Lib.hid (row_next hb C.out); replace hB := Go.Lib.hid (below_next hB.out hb); clear hb)
    | ((with_reducible refine wlOp (.store 2 (.tmp 5) (.const (.int .i64 0))) rfl ?_); refine wpList_store1 rfl 2 (.tmp 5) (.const (.int .i64 0)) rfl w.heap.size 0 rfl 1 (fun _ => .int .i64 1) (.int .i64 0) rfl 2 size_i64w C.out (by omega) rfl ?_; rw [vrow_over_all]; replace O := Go.Lib.hid (O.out.set (show w.heap.size < w.heap.size + 1 by omega) (vrow 1 fun _ => .int .i64 0)); replace C := Go.Lib.hid (row_set C.out (vrow 1 fun _ => .int .i64 0)); replace hB := Go.Lib.hid (Below_setRow hB.out (Nat.le_refl _) (vrow 1 fun _ => .int .i64 0))))
  refine leaves_cons (f := 158) (args := #[.pointer (some ⟨w.heap.size, 0, none⟩)]) (by simp) (by simp [go_sem]) ?_
  refine (idle_prs ⟨w.heap.size, 0, none⟩ _).mono ?_
  rintro e u' w'' ⟨rfl, rfl, rfl⟩
  have O2 := O.out.mono (show w.heap.size ≤ w.heap.size + 1 by omega)
  exact ⟨_, res_tc Tryd.results106 rw_i64u v rfl w.heap.size (.int .i64 0) 2 rfl C.out, ⟨v, rfl, O2⟩, hB.out⟩
set_option maxHeartbeats 2000000 in
theorem unl_prs_catch (b1 b2 : Nat) (ax : Int) (d : Bool) (pr : Int) (e : ErrE) (w : World) (hE : Errs e w)
    (HW0 : ∀ W, Below w.heap.size w W → Calls Tryd.prog 107 #[.pointer (some ⟨b1, 0, none⟩), .pointer (some ⟨b2, 0, none⟩)] W fun e w' => e = .panicked [{ v := .iface 255 (.agg #[.int .i8 ax, .bool d, .int .i8 pr]), recovered := false }] ∧ Below W.heap.size W w') :
    Calls Tryd.prog 106 #[.nilIface, .func (.func 107) #[] #[.pointer (some ⟨b1, 0, none⟩), .pointer (some ⟨b2, 0, none⟩)]] w fun e w' => e = .returned (.tuple #[.slice none 0 0, .int .i64 2]) ∧ Below w.heap.size w w' := by
  have HW := Go.Lib.hid HW0
  clear HW0
  have hmf : ∀ (fn : Fn) (first cap : Array Value) (w : World), (Instr.makeFunc fn first cap).run Tryd.prog w = .ok (.func fn first cap) w := fun _ _ _ _ => rfl
  have hB : Hid (Below w.heap.size w (w.alloc (.cells (vrow 1 fun _ => .int .i64 0) 2))) := ((Below.refl w.heap.size w).alloc (by simp <;> omega) _)
  have C : Hid ((w.alloc (.cells (vrow 1 fun _ => .int .i64 0) 2)).heap[w.heap.size]? = some (.cells (vrow 1 fun _ => .int .i64 0) 2)) := heap_at _ _ _ (by simp)
  go_enter_defers Tryd.func106, Tryd.ntmps106
  go_wp2_with (first
    | go_skip
    | ((with_reducible refine wlOp (.store 2 (.tmp 5) (.const (.int .i64 1))) rfl ?_); refine wpList_store1 rfl 2 (.tmp 5) (.const (.int .i64 1)) rfl w.heap.size 0 rfl 1 (fun _ => .int .i64 0) (.int .i64 1) rfl 2 size_i64w C.out (by omega) rfl ?_; rw [vrow_over_all]; replace C := Go.Lib.hid (row_set C.out (vrow 1 fun _ => .int .i64 1)); replace hB := Go.Lib.hid (Below_setRow hB.out (Nat.le_refl _) (vrow 1 fun _ => .int .i64 1)))
    | (go_at_call 107; (refine (HW.out _ hB.out).mono ?_); rintro o w1 ⟨rfl, hb⟩; replace C := Go.Lib.hid (row_next hb C.out); replace hB := Go.Lib.hid (below_next hB.out hb); clear hb))
  refine leaves_cons (f := 158) (args := #[.pointer (some ⟨w.heap.size, 0, none⟩)]) (by simp) (by simp [go_sem]) ?_
  refine (catch_prs ax d pr e w.heap.size (.int .i64 1) _ (hE.next hB.out) C.out).mono ?_
  rintro o u' w'' ⟨rfl, rfl, w2, hb2, rfl⟩
  replace C := Go.Lib.hid (row_set (row_next hb2 C.out) (vrow 1 fun _ => .int .i64 2)); replace hB := Go.Lib.hid (Below_setRow (below_next hB.out hb2) (Nat.le_refl _) (vrow 1 fun _ => .int .i64 2))
  exact ⟨_, res_tc Tryd.results106 rw_i64u (.slice none 0 0) rfl w.heap.size (.int .i64 2) 2 rfl C.out, rfl, hB.out⟩
set_option maxHeartbeats 2000000 in
theorem unl_prs_err (fv : Value) (c : Int) (k : Nat) (e : ErrE) (w : World) (hE : Errs e w) (hc : ∀ w, Errs e w → Calls Tryd.prog 62 #[errP e k] w fun o w' => o = .returned (.int .i64 c) ∧ Below w.heap.size w w') :
    Calls Tryd.prog 106 #[errP e k, fv] w fun o w' => o = .returned (.tuple #[.slice none 0 0, .int .i64 c]) ∧ Below w.heap.size w w' := by
  have HC := Go.Lib.hid hc
  clear hc
  have E := Go.Lib.hid hE
  have hB : Hid (Below w.heap.size w (w.alloc (.cells (vrow 1 fun _ => .int .i64 0) 2))) := ((Below.refl w.heap.size w).alloc (by simp <;> omega) _)
  have C : Hid ((w.alloc (.cells (vrow 1 fun _ => .int .i64 0) 2)).heap[w.heap.size]? = some (.cells (vrow 1 fun _ => .int .i64 0) 2)) := heap_at _ _ _ (by simp)
  go_enter_defers Tryd.func106, Tryd.ntmps106
  go_wp2_with (first
    | go_skip
    | (go_at_call 62; (refine (HC.out _ (E.out.next hB.out)).mono ?_); rintro o w1 ⟨rfl, hb⟩; replace C := Go.Lib.hid (row_next hb C.out); replace hB := Go.Lib.hid (below_next hB.out hb); clear hb)
    | ((with_reducible refine wlOp (.store 2 (.tmp 5) (.tmp 10)) rfl ?_); refine wpList_store1 rfl 2 (.tmp 5) (.tmp 10) rfl w.heap.size 0 rfl 1 (fun _ => .int .i64 0) (.int .i64 c) rfl 2 size_i64w C.out (by omega) rfl ?_; rw [vrow_over_all]; replace C := Go.Lib.hid (row_set C.out (vrow 1 fun _ => .int .i64 c)); replace hB := Go.Lib.hid (Below_setRow hB.out (Nat.le_refl _) (vrow 1 fun _ => .int .i64 c))))
  exact ⟨_, res_tc Tryd.results106 rw_i64u (.slice none 0 0) rfl w.heap.size (.int .i64 c) 2 rfl C.out, rfl, hB.out⟩
end Go.Proofs.YtfgcpiipndhllaaDoor
