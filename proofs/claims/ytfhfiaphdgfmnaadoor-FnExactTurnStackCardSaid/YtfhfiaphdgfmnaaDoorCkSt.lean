import Derived.Deep.RegionHeld3
import Derived.Test.YtfhfiaphdgfmnaaDoorKA
import Derived.Test.YtfhfiaphdgfmnaaDoorCodeOf
namespace Go.Proofs.YtfhfiaphdgfmnaaDoor
open Go.RowKit
set_option maxRecDepth 100000
set_option linter.unusedVariables false
set_option linter.unusedSimpArgs false
theorem ckSt_bad (ss : Nat → Sh) (D n cp : Nat) (e : ErrE) (w : World) (hE : Errs e w) (hn : n ≤ 1048576) (hf : ∀ i, (ss i).fit) (ho : stOk ss n = false) (h1 : w.heap[D]? = some (.cells (vrow (n * 266) (stF ss)) 39)) : Calls Tryd.prog 55 #[.slice (some ⟨D, 0, none⟩) n cp] w fun o w' => o = .returned (errP e 1) ∧ Below w.heap.size w w' := by
  have HV0 := ivk_any ss D n cp w hn hf h1
  rw [ho] at HV0
  have HV := Go.Lib.hid HV0
  have E := Go.Lib.hid hE
  have hB := Go.Lib.hid (Below.refl w.heap.size w)
  clear HV0 h1 ho hf
  go_enter Tryd.func55, Tryd.ntmps55
  go_wp2_with (first
    | go_skip
    | (refine wpList_ld1 73 _ rfl (by first | exact want_n rfl | exact want_g _ _ _ rfl rfl rfl) 0 0 rfl 1 (fun _ => errP e 1) _ rw_err E.out.v1 (by omega) ?_)
    | (go_at_call 80; (refine HV.out.mono ?_); rintro o w1 ⟨rfl, hb⟩; replace hB := Go.Lib.hid (below_next hB.out hb); replace E := Go.Lib.hid (E.out.next hb); clear hb))
  go_ret
  exact ⟨rfl, hB.out⟩
theorem ckSt_ok (ss : Nat → Sh) (D n cp : Nat) (e : ErrE) (w : World) (hE : Errs e w) (hn : n ≤ 1048576) (hf : ∀ i, (ss i).fit) (ho : stOk ss n = true) (h1 : w.heap[D]? = some (.cells (vrow (n * 266) (stF ss)) 39)) : Calls Tryd.prog 55 #[.slice (some ⟨D, 0, none⟩) n cp] w fun o w' => o = .returned (.nilIface) ∧ Below w.heap.size w w' := by
  have HV0 := ivk_any ss D n cp w hn hf h1
  rw [ho] at HV0
  have HV := Go.Lib.hid HV0
  have E := Go.Lib.hid hE
  have hB := Go.Lib.hid (Below.refl w.heap.size w)
  clear HV0 h1 ho hf
  go_enter Tryd.func55, Tryd.ntmps55
  go_wp2_with (first
    | go_skip
    | (refine wpList_ld1 73 _ rfl (by first | exact want_n rfl | exact want_g _ _ _ rfl rfl rfl) 0 0 rfl 1 (fun _ => errP e 1) _ rw_err E.out.v1 (by omega) ?_)
    | (go_at_call 80; (refine HV.out.mono ?_); rintro o w1 ⟨rfl, hb⟩; replace hB := Go.Lib.hid (below_next hB.out hb); replace E := Go.Lib.hid (E.out.next hb); clear hb))
  go_ret
  exact ⟨rfl, hB.out⟩
end Go.Proofs.YtfhfiaphdgfmnaaDoor
