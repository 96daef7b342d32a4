import Derived.Deep.RegionHeld3
import Derived.Test.YtgbhchmpeioaiaaDoorRoundsI
namespace Go.Proofs.YtgbhchmpeioaiaaDoor
open Go.RowKit
set_option maxRecDepth 100000
set_option linter.unusedVariables false
set_option linter.unusedSimpArgs false
set_option maxHeartbeats 2000000 in
theorem implOnce_any (s r : Sh) (n v : Int) (e : ErrE) (w : World) (hE : Errs e w) (HR0 : ∀ w, Errs e w → Calls Tryd.prog 39 #[.agg s.row, .int .i64 1] w fun o w' => o = .returned (.tuple #[.agg r.row, .int .i64 n, .int .i64 v]) ∧ Below w.heap.size w w') :
    Calls Tryd.prog 37 #[.agg s.row] w fun o w' => o = .returned (.tuple #[.agg r.row, .int .i64 n, .int .i64 v]) ∧ Below w.heap.size w w' := by
  have HR := Go.Lib.hid HR0
  have zz := zero_sheet
  clear HR0
  have hB : Hid (Below w.heap.size w ((w.alloc (.cells (vrow 266 s.at) 35)).alloc (.cells (vrow 266 Sh.zero.at) 35))) := (((Below.refl w.heap.size w).alloc (by simp <;> omega) _).alloc (by simp <;> omega) _)
  have P : Hid (((w.alloc (.cells (vrow 266 s.at) 35)).alloc (.cells (vrow 266 Sh.zero.at) 35)).heap[(w.heap.size)]? = some (.cells (vrow 266 s.at) 35)) := heap_past _ _ _ _ (by first | omega | (simp <;> omega)) (heap_at _ _ _ (by simp))
  have Z : Hid (((w.alloc (.cells (vrow 266 s.at) 35)).alloc (.cells (vrow 266 Sh.zero.at) 35)).heap[(w.heap.size + 1)]? = some (.cells (vrow 266 Sh.zero.at) 35)) := heap_at _ _ _ (by simp)
  go_enter Tryd.func37, Tryd.ntmps37
  go_wp2_with (first
    | go_skip
    | ((with_reducible refine wlAt 5 rfl ?_); refine wpList_loadall rfl 35 (.tmp 1) rfl _ rfl 266 s.at 35 _ Tryd.underlying35 rfl size_sheet P.out ?_)
    | (go_at_call 39; (refine (HR.out _ (hE.next hB.out)).mono ?_); rintro o w1 ⟨rfl, hb⟩; replace Z := Go.Lib.hid (row_next hb Z.out); replace hB := Go.Lib.hid (below_next hB.out hb); clear hb P)
    | ((with_reducible refine wlOp (.store 35 (.tmp 2) (.tmp 7)) rfl ?_); refine wpList_storeall rfl 35 (.tmp 2) (.tmp 7) rfl (w.heap.size + 1) rfl 266 Sh.zero.at r.at rfl 35 size_sheet Z.out (fun i _ => Sh.one _ i) ?_; replace Z := Go.Lib.hid (row_set Z.out (vrow 266 r.at)); replace hB := Go.Lib.hid (Below_setRow hB.out (show w.heap.size ≤ w.heap.size + 1 by omega) (vrow 266 r.at))))
  exact ret_row3 Tryd.results37 (w.heap.size + 1) 266 r.at 35 _ Tryd.underlying35 rfl size_sheet (.int .i64 n) (.int .i64 v) rfl rfl rfl rfl Z.out ⟨rfl, hB.out⟩
end Go.Proofs.YtgbhchmpeioaiaaDoor
