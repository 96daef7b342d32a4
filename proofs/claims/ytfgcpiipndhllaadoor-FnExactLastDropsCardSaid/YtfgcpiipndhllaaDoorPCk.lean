import Derived.Test.YtfgcpiipndhllaaDoorPicV
import Derived.Test.YtfgcpiipndhllaaDoorCodeOf
import Derived.Test.YtfgcpiipndhllaaDoorG1
namespace Go.Proofs.YtfgcpiipndhllaaDoor
open Go.RowKit
set_option maxRecDepth 100000
set_option linter.unusedVariables false
set_option linter.unusedSimpArgs false
set_option maxHeartbeats 400000 in
theorem ckPic_ok (p : Pic) (hf : p.fit) (hv : okP p = true) (e : ErrE) (w : World) (hE : Errs e w) : Calls Tryd.prog 98 #[.agg p.row] w fun o w' => o = .returned .nilIface ∧ Below w.heap.size w w' := by
  have HV := Go.Lib.hid fun w => implVP_all p w hf
  rw [hv] at HV
  have hB : Hid (Below w.heap.size w (w.alloc (.cells (vrow 66 p.at) 61))) := ((Below.refl w.heap.size w).alloc (by simp <;> omega) _)
  have P : Hid ((w.alloc (.cells (vrow 66 p.at) 61)).heap[(w.heap.size)]? = some (.cells (vrow 66 p.at) 61)) := heap_at _ _ _ (by simp)
  have E : Hid (Errs e (w.alloc (.cells (vrow 66 p.at) 61))) := hE.alloc _
  go_enter Tryd.func98, Tryd.ntmps98
  go_wp2_with (first
    | go_skip
    | ((with_reducible refine wlAt 3 rfl ?_); refine wpList_ldm 61 _ rfl (by first | exact want_n rfl | exact want_g _ _ _ rfl rfl rfl) (w.heap.size) _ rfl 66 66 p.at _ rw_pic size_pic P.out (by omega) ?_; rw [pic_row])
    | (go_at_call 146; (refine (HV.out _).mono ?_; rintro o w1 ⟨rfl, hb⟩; replace P := Go.Lib.hid (row_next hb P.out); replace hB := Go.Lib.hid (below_next hB.out hb); replace E := Go.Lib.hid (E.out.next hb); clear hb)))
  go_ret
  exact ⟨rfl, hB.out⟩
set_option maxHeartbeats 400000 in
theorem ckPic_bad (p : Pic) (hf : p.fit) (hv : okP p = false) (e : ErrE) (w : World) (hE : Errs e w) : Calls Tryd.prog 98 #[.agg p.row] w fun o w' => o = .returned (errP e 1) ∧ Below w.heap.size w w' := by
  have HV := Go.Lib.hid fun w => implVP_all p w hf
  rw [hv] at HV
  have hB : Hid (Below w.heap.size w (w.alloc (.cells (vrow 66 p.at) 61))) := ((Below.refl w.heap.size w).alloc (by simp <;> omega) _)
  have P : Hid ((w.alloc (.cells (vrow 66 p.at) 61)).heap[(w.heap.size)]? = some (.cells (vrow 66 p.at) 61)) := heap_at _ _ _ (by simp)
  have E : Hid (Errs e (w.alloc (.cells (vrow 66 p.at) 61))) := hE.alloc _
  go_enter Tryd.func98, Tryd.ntmps98
  go_wp2_with (first
    | go_skip
    | ((with_reducible refine wlAt 3 rfl ?_); refine wpList_ldm 61 _ rfl (by first | exact want_n rfl | exact want_g _ _ _ rfl rfl rfl) (w.heap.size) _ rfl 66 66 p.at _ rw_pic size_pic P.out (by omega) ?_; rw [pic_row])
    | ((with_reducible refine wlOp (.load 107 (.global 0)) rfl ?_); refine wpList_ld1 107 _ rfl (by first | exact want_n rfl | exact want_g _ _ _ rfl rfl rfl) 0 0 rfl 1 (fun _ => errP e 1) _ rw_err E.out.v1 (by omega) ?_)
    | (go_at_call 146; (refine (HV.out _).mono ?_; rintro o w1 ⟨rfl, hb⟩; replace P := Go.Lib.hid (row_next hb P.out); replace hB := Go.Lib.hid (below_next hB.out hb); replace E := Go.Lib.hid (E.out.next hb); clear hb)))
  go_ret
  exact ⟨rfl, hB.out⟩
def inkB (n : Int) : Bool := decide (0 ≤ n) && decide (n ≤ 2)
end Go.Proofs.YtfgcpiipndhllaaDoor
