import Derived.Test.YtianedkknlggmaaPicV
import Derived.Test.YtianedkknlggmaaSamePic
namespace Go.Proofs.Ytianedkknlggmaa
open Go.RowKit
set_option maxRecDepth 100000
set_option linter.unusedVariables false
set_option linter.unusedSimpArgs false
set_option maxHeartbeats 400000 in
theorem specVPic_any (p : Pic) (w : World) (hf : p.fit) : Calls Try.prog 49 #[.agg p.row] w fun e w' => e = .returned (.bool (okP p)) ∧ Below w.heap.size w w' := by
  have hB : Below w.heap.size w (w.alloc (.cells (vrow 66 p.at) 79)) := (Below.refl w.heap.size w).alloc (by simp <;> omega) _
  have HO := Go.Lib.hid (okP_from w p w.heap.size (w.alloc (.cells (vrow 66 p.at) 79)) (heap_at _ _ _ rfl) hf hB)
  clear hB hf
  go_enter Try.func49, Try.ntmps49
  go_wp2_with (go_at_call 86; (refine HO.out.mono ?_; rintro e w1 ⟨rfl, hb⟩; have HB := Go.Lib.hid hb; clear hb))
  go_ret
  exact ⟨rfl, HB.out⟩
set_option maxHeartbeats 400000 in
theorem validP_law (p : Pic) (w : World) (hf : p.fit) : Calls Try.prog 13 #[.agg p.row] w fun e w' => e = .returned (.bool true) ∧ Below w.heap.size w w' := by
  have HT := Go.Lib.hid fun w => toPicture_any p w
  have HS := Go.Lib.hid fun w => specVPic_any p w hf
  have HI := Go.Lib.hid fun w => implVP_all p w hf
  clear hf
  have hB : Hid (Below w.heap.size w (w.alloc (.cells (vrow 66 p.at) 77))) := (Below.refl w.heap.size w).alloc (by simp <;> omega) _
  have P : Hid ((w.alloc (.cells (vrow 66 p.at) 77)).heap[w.heap.size]? = some (.cells (vrow 66 p.at) 77)) := heap_at _ _ _ rfl
  generalize okP p = v at *
  go_enter Try.func13, Try.ntmps13
  go_wp2_with (first
    | (refine wpList_ldm 77 _ rfl (by first | exact want_n rfl | exact want_g _ _ _ rfl rfl rfl) (w.heap.size) _ rfl 66 66 p.at _ rw_lpic size_lpic P.out (by omega) ?_; rw [pic_row])
    | (go_at_call 50; (refine (HT.out _).mono ?_; rintro e w1 ⟨rfl, hb⟩; replace P := Go.Lib.hid (row_next hb P.out); replace hB := Go.Lib.hid (below_next hB.out hb); clear hb))
    | (go_at_call 49; (refine (HS.out _).mono ?_; rintro e w1 ⟨rfl, hb⟩; replace P := Go.Lib.hid (row_next hb P.out); replace hB := Go.Lib.hid (below_next hB.out hb); clear hb))
    | (go_at_call 51; (refine (HI.out _).mono ?_; rintro e w1 ⟨rfl, hb⟩; replace P := Go.Lib.hid (row_next hb P.out); replace hB := Go.Lib.hid (below_next hB.out hb); clear hb)))
  go_ret
  exact ⟨rfl, hB.out⟩
end Go.Proofs.Ytianedkknlggmaa
