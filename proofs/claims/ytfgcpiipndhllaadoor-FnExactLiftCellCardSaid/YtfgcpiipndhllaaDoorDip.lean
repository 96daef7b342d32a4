import Derived.Test.YtfgcpiipndhllaaDoorBrOk
import Derived.Test.YtfgcpiipndhllaaDoorBrSet
import Derived.Test.YtfgcpiipndhllaaDoorOpenBr
import Derived.Test.YtfgcpiipndhllaaDoorCodeOf
namespace Go.Proofs.YtfgcpiipndhllaaDoor
open Go.RowKit
set_option maxRecDepth 100000
set_option linter.unusedVariables false
set_option linter.unusedSimpArgs false
set_option maxHeartbeats 1000000 in
theorem ckBrush_ok (b : Br) (e : ErrE) (w : World) (hE : Errs e w) (hf : b.fit) (ho : b.ok = true) : Calls Tryd.prog 170 #[.agg b.row] w fun o w' => o = .returned .nilIface ∧ Below w.heap.size w w' := by
  have HV0 := fun w => vbrush_any b hf w
  rw [ho] at HV0
  have HV := Go.Lib.hid HV0
  clear HV0 hf ho
  have P : Hid ((w.alloc (.cells (vrow 5 b.at) 49)).heap[w.heap.size]? = some (.cells (vrow 5 b.at) 49)) := heap_at _ _ _ (by simp)
  have hB : Hid (Below w.heap.size w (w.alloc (.cells (vrow 5 b.at) 49))) := ((Below.refl w.heap.size w).alloc (by simp <;> omega) _)
  have E : Hid (Errs e (w.alloc (.cells (vrow 5 b.at) 49))) := hE.alloc _
  go_enter Tryd.func170, Tryd.ntmps170
  go_wp2_with (first
    | go_skip
    | ((with_reducible refine wlAt 3 rfl ?_); refine wpList_loadall rfl 49 (.tmp 1) rfl _ rfl 5 b.at 49 _ Tryd.underlying49 rfl size_br P.out ?_)
    | (go_at_call 190; (refine (HV.out _).mono ?_); rintro o w1 ⟨rfl, hb⟩; replace P := Go.Lib.hid (row_next hb P.out); replace hB := Go.Lib.hid (below_next hB.out hb); replace E := Go.Lib.hid (E.out.next hb); clear hb))
  go_ret
  exact ⟨rfl, hB.out⟩
set_option maxHeartbeats 1000000 in
theorem ckBrush_bad (b : Br) (e : ErrE) (w : World) (hE : Errs e w) (hf : b.fit) (ho : b.ok = false) : Calls Tryd.prog 170 #[.agg b.row] w fun o w' => o = .returned (errP e 1) ∧ Below w.heap.size w w' := by
  have HV0 := fun w => vbrush_any b hf w
  rw [ho] at HV0
  have HV := Go.Lib.hid HV0
  clear HV0 hf ho
  have P : Hid ((w.alloc (.cells (vrow 5 b.at) 49)).heap[w.heap.size]? = some (.cells (vrow 5 b.at) 49)) := heap_at _ _ _ (by simp)
  have hB : Hid (Below w.heap.size w (w.alloc (.cells (vrow 5 b.at) 49))) := ((Below.refl w.heap.size w).alloc (by simp <;> omega) _)
  have E : Hid (Errs e (w.alloc (.cells (vrow 5 b.at) 49))) := hE.alloc _
  go_enter Tryd.func170, Tryd.ntmps170
  go_wp2_with (first
    | go_skip
    | ((with_reducible refine wlAt 3 rfl ?_); refine wpList_loadall rfl 49 (.tmp 1) rfl _ rfl 5 b.at 49 _ Tryd.underlying49 rfl size_br P.out ?_)
    | (go_at_call 190; (refine (HV.out _).mono ?_); rintro o w1 ⟨rfl, hb⟩; replace P := Go.Lib.hid (row_next hb P.out); replace hB := Go.Lib.hid (below_next hB.out hb); replace E := Go.Lib.hid (E.out.next hb); clear hb)
    | ((with_reducible refine wlAt 6 rfl ?_); refine wpList_ld1 107 _ rfl (by first | exact want_n rfl | exact want_g _ _ _ rfl rfl rfl) 0 0 rfl 1 (fun _ => errP e 1) _ rw_err E.out.v1 (by omega) ?_))
  go_ret
  exact ⟨rfl, hB.out⟩
/-- what may be dipped -/
def dipFine (k n m : Int) : Bool := decide (0 ≤ k ∧ k < 3 ∧ 0 ≤ n ∧ n ≤ 900 ∧ 0 ≤ m ∧ m ≤ 200)
end Go.Proofs.YtfgcpiipndhllaaDoor
