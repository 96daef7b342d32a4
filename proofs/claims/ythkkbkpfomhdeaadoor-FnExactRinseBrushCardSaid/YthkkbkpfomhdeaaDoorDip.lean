import Derived.Test.YthkkbkpfomhdeaaDoorBrOk
import Derived.Test.YthkkbkpfomhdeaaDoorBrSet
import Derived.Test.YthkkbkpfomhdeaaDoorOpenBr
import Derived.Test.YthkkbkpfomhdeaaDoorCodeOf
namespace Go.Proofs.YthkkbkpfomhdeaaDoor
open Go.RowKit
set_option maxRecDepth 100000
set_option linter.unusedVariables false
set_option linter.unusedSimpArgs false
set_option maxHeartbeats 1000000 in
theorem ckBrush_ok (b : Br) (e : ErrE) (w : World) (hE : Errs e w) (hf : b.fit) (ho : b.ok = true) : Calls Tryd.prog 52 #[.agg b.row] w fun o w' => o = .returned .nilIface ∧ Below w.heap.size w w' := by
  have HV0 := fun w => vbrush_any b hf w
  rw [ho] at HV0
  have HV := Go.Lib.hid HV0
  clear HV0 hf ho
  have P : Hid ((w.alloc (.cells (vrow 5 b.at) 27)).heap[w.heap.size]? = some (.cells (vrow 5 b.at) 27)) := heap_at _ _ _ (by simp)
  have hB : Hid (Below w.heap.size w (w.alloc (.cells (vrow 5 b.at) 27))) := ((Below.refl w.heap.size w).alloc (by simp <;> omega) _)
  have E : Hid (Errs e (w.alloc (.cells (vrow 5 b.at) 27))) := hE.alloc _
  go_enter Tryd.func52, Tryd.ntmps52
  go_wp2_with (first
    | go_skip
    | ((with_reducible refine wlAt 3 rfl ?_); refine wpList_loadall rfl 27 (.tmp 1) rfl _ rfl 5 b.at 27 _ Tryd.underlying27 rfl size_br P.out ?_)
    | (go_at_call 50; (refine (HV.out _).mono ?_); rintro o w1 ⟨rfl, hb⟩; replace P := Go.Lib.hid (row_next hb P.out); replace hB := Go.Lib.hid (below_next hB.out hb); replace E := Go.Lib.hid (E.out.next hb); clear hb))
  go_ret
  exact ⟨rfl, hB.out⟩
set_option maxHeartbeats 1000000 in
theorem ckBrush_bad (b : Br) (e : ErrE) (w : World) (hE : Errs e w) (hf : b.fit) (ho : b.ok = false) : Calls Tryd.prog 52 #[.agg b.row] w fun o w' => o = .returned (errP e 1) ∧ Below w.heap.size w w' := by
  have HV0 := fun w => vbrush_any b hf w
  rw [ho] at HV0
  have HV := Go.Lib.hid HV0
  clear HV0 hf ho
  have P : Hid ((w.alloc (.cells (vrow 5 b.at) 27)).heap[w.heap.size]? = some (.cells (vrow 5 b.at) 27)) := heap_at _ _ _ (by simp)
  have hB : Hid (Below w.heap.size w (w.alloc (.cells (vrow 5 b.at) 27))) := ((Below.refl w.heap.size w).alloc (by simp <;> omega) _)
  have E : Hid (Errs e (w.alloc (.cells (vrow 5 b.at) 27))) := hE.alloc _
  go_enter Tryd.func52, Tryd.ntmps52
  go_wp2_with (first
    | go_skip
    | ((with_reducible refine wlAt 3 rfl ?_); refine wpList_loadall rfl 27 (.tmp 1) rfl _ rfl 5 b.at 27 _ Tryd.underlying27 rfl size_br P.out ?_)
    | (go_at_call 50; (refine (HV.out _).mono ?_); rintro o w1 ⟨rfl, hb⟩; replace P := Go.Lib.hid (row_next hb P.out); replace hB := Go.Lib.hid (below_next hB.out hb); replace E := Go.Lib.hid (E.out.next hb); clear hb)
    | ((with_reducible refine wlAt 6 rfl ?_); refine wpList_ld1 90 _ rfl (by first | exact want_n rfl | exact want_g _ _ _ rfl rfl rfl) 1 0 rfl 1 (fun _ => errP e 1) _ rw_err E.out.v1 (by omega) ?_))
  go_ret
  exact ⟨rfl, hB.out⟩
/-- what may be dipped -/
def dipFine (k n m : Int) : Bool := decide (0 ≤ k ∧ k < 3 ∧ 0 ≤ n ∧ n ≤ 900 ∧ 0 ≤ m ∧ m ≤ 200)
set_option maxHeartbeats 1000000 in
theorem ckDip_bad (b : Br) (k n m : Int) (e : ErrE) (w : World) (hE : Errs e w) (hf : b.fit) (ho : b.ok = false) : Calls Tryd.prog 48 #[.agg b.row, .int .i64 k, .int .i64 n, .int .i64 m] w fun o w' => o = .returned (errP e 1) ∧ Below w.heap.size w w' := by
  have HV := Go.Lib.hid fun w hE => ckBrush_bad b e w hE hf ho
  have P : Hid ((w.alloc (.cells (vrow 5 b.at) 27)).heap[w.heap.size]? = some (.cells (vrow 5 b.at) 27)) := heap_at _ _ _ (by simp)
  have hB : Hid (Below w.heap.size w (w.alloc (.cells (vrow 5 b.at) 27))) := ((Below.refl w.heap.size w).alloc (by simp <;> omega) _)
  have E : Hid (Errs e (w.alloc (.cells (vrow 5 b.at) 27))) := hE.alloc _
  go_enter Tryd.func48, Tryd.ntmps48
  go_wp2_with (first | go_skip | ((with_reducible refine wlAt 10 rfl ?_); refine wpList_loadall rfl 27 (.tmp 4) rfl _ rfl 5 b.at 27 _ Tryd.underlying27 rfl size_br P.out ?_) | (go_at_call 52; (refine (HV.out _ E.out).mono ?_); rintro o w1 ⟨rfl, hb⟩; replace P := Go.Lib.hid (row_next hb P.out); replace hB := Go.Lib.hid (below_next hB.out hb); replace E := Go.Lib.hid (E.out.next hb); clear hb) | ((with_reducible refine wlAt 37 rfl ?_); refine wpList_ld1 90 _ rfl (by first | exact want_n rfl | exact want_g _ _ _ rfl rfl rfl) 0 0 rfl 1 (fun _ => errP e 2) _ rw_err E.out.v2 (by omega) ?_))
  go_ret
  exact ⟨rfl, hB.out⟩
set_option maxHeartbeats 1000000 in
theorem ckDip_ok (b : Br) (k n m : Int) (e : ErrE) (w : World) (hE : Errs e w) (hf : b.fit) (ho : b.ok = true) (hF : dipFine k n m = true) : Calls Tryd.prog 48 #[.agg b.row, .int .i64 k, .int .i64 n, .int .i64 m] w fun o w' => o = .returned .nilIface ∧ Below w.heap.size w w' := by
  have HV := Go.Lib.hid fun w hE => ckBrush_ok b e w hE hf ho
  simp only [dipFine, decide_eq_true_eq] at hF
  obtain ⟨h1, h2, h3, h4, h5, h6⟩ := hF
  clear hf ho
  have P : Hid ((w.alloc (.cells (vrow 5 b.at) 27)).heap[w.heap.size]? = some (.cells (vrow 5 b.at) 27)) := heap_at _ _ _ (by simp)
  have hB : Hid (Below w.heap.size w (w.alloc (.cells (vrow 5 b.at) 27))) := ((Below.refl w.heap.size w).alloc (by simp <;> omega) _)
  have E : Hid (Errs e (w.alloc (.cells (vrow 5 b.at) 27))) := hE.alloc _
  go_enter Tryd.func48, Tryd.ntmps48
  go_wp2_with (first | go_skip | ((with_reducible refine wlAt 10 rfl ?_); refine wpList_loadall rfl 27 (.tmp 4) rfl _ rfl 5 b.at 27 _ Tryd.underlying27 rfl size_br P.out ?_) | (go_at_call 52; (refine (HV.out _ E.out).mono ?_); rintro o w1 ⟨rfl, hb⟩; replace P := Go.Lib.hid (row_next hb P.out); replace hB := Go.Lib.hid (below_next hB.out hb); replace E := Go.Lib.hid (E.out.next hb); clear hb) | ((with_reducible refine wlAt 37 rfl ?_); refine wpList_ld1 90 _ rfl (by first | exact want_n rfl | exact want_g _ _ _ rfl rfl rfl) 0 0 rfl 1 (fun _ => errP e 2) _ rw_err E.out.v2 (by omega) ?_))
  go_ret
  exact ⟨rfl, hB.out⟩
set_option maxHeartbeats 4000000 in
theorem ckDip_un (b : Br) (k n m : Int) (e : ErrE) (w : World) (hE : Errs e w) (hf : b.fit) (ho : b.ok = true) (hF : dipFine k n m = false) : Calls Tryd.prog 48 #[.agg b.row, .int .i64 k, .int .i64 n, .int .i64 m] w fun o w' => o = .returned (errP e 2) ∧ Below w.heap.size w w' := by
  have HV := Go.Lib.hid fun w hE => ckBrush_ok b e w hE hf ho
  simp only [dipFine, decide_eq_false_iff_not] at hF
  clear hf ho
  have P : Hid ((w.alloc (.cells (vrow 5 b.at) 27)).heap[w.heap.size]? = some (.cells (vrow 5 b.at) 27)) := heap_at _ _ _ (by simp)
  have hB : Hid (Below w.heap.size w (w.alloc (.cells (vrow 5 b.at) 27))) := ((Below.refl w.heap.size w).alloc (by simp <;> omega) _)
  have E : Hid (Errs e (w.alloc (.cells (vrow 5 b.at) 27))) := hE.alloc _
  have hc : k < 0 ∨ (0 ≤ k ∧ 3 ≤ k) ∨ (0 ≤ k ∧ k < 3 ∧ n < 0) ∨ (0 ≤ k ∧ k < 3 ∧ 0 ≤ n ∧ 900 < n) ∨ (0 ≤ k ∧ k < 3 ∧ 0 ≤ n ∧ n ≤ 900 ∧ m < 0) ∨ (0 ≤ k ∧ k < 3 ∧ 0 ≤ n ∧ n ≤ 900 ∧ 0 ≤ m ∧ 200 < m) := by omega
  clear hF
  rcases hc with h1 | ⟨h1, h2⟩ | ⟨h1, h2, h3⟩ | ⟨h1, h2, h3, h4⟩ | ⟨h1, h2, h3, h4, h5⟩ | ⟨h1, h2, h3, h4, h5, h6⟩
  all_goals
    go_enter Tryd.func48, Tryd.ntmps48
    go_wp2_with (first | go_skip | ((with_reducible refine wlAt 10 rfl ?_); refine wpList_loadall rfl 27 (.tmp 4) rfl _ rfl 5 b.at 27 _ Tryd.underlying27 rfl size_br P.out ?_) | (go_at_call 52; (refine (HV.out _ E.out).mono ?_); rintro o w1 ⟨rfl, hb⟩; replace P := Go.Lib.hid (row_next hb P.out); replace hB := Go.Lib.hid (below_next hB.out hb); replace E := Go.Lib.hid (E.out.next hb); clear hb) | ((with_reducible refine wlAt 37 rfl ?_); refine wpList_ld1 90 _ rfl (by first | exact want_n rfl | exact want_g _ _ _ rfl rfl rfl) 0 0 rfl 1 (fun _ => errP e 2) _ rw_err E.out.v2 (by omega) ?_))
    go_ret
    exact ⟨rfl, hB.out⟩
end Go.Proofs.YthkkbkpfomhdeaaDoor
