import Derived.Deep.RegionHeld3
import Derived.Test.YtgbhchmpeioaiaaDoorG1
import Derived.Test.YtgbhchmpeioaiaaDoorEqSheet
import Derived.Test.YtgbhchmpeioaiaaDoorErr
namespace Go.Proofs.YtgbhchmpeioaiaaDoor
open Go.RowKit
set_option maxRecDepth 100000
set_option linter.unusedVariables false
set_option linter.unusedSimpArgs false
set_option maxHeartbeats 8000000 in
theorem cb_walk (s : Sh) (k : Int) (n : Int) (b : Int) (r : Int) (c : Int) (e : ErrE) (w : World) (hE : Errs e w)
    (hS : ∀ w, Calls Tryd.prog 34 #[.agg (vrow 266 s.at), .int .i64 k, .int .i64 n, .int .i64 b] w fun e w' => e = .returned (.tuple #[.int .i64 r, .int .i64 c]) ∧ Below w.heap.size w w')
    (hI : ∀ w, Errs e w → Calls Tryd.prog 35 #[.agg (vrow 266 s.at), .int .i64 k, .int .i64 n, .int .i64 b] w fun e w' => e = .returned (.tuple #[.int .i64 r, .int .i64 c]) ∧ Below w.heap.size w w') : Calls Tryd.prog 9 #[.agg (vrow 266 s.at), .int .i64 k, .int .i64 n, .int .i64 b] w fun o w' => o = .returned (.bool true) ∧ Below w.heap.size w w' := by
  have zz_sheet := zero_sheet
  have HT0 := Go.Lib.hid (fun w => toSheet_any s w)
  have HS := Go.Lib.hid hS; have HI := Go.Lib.hid hI
  clear hS hI
  have hB : Hid (Below w.heap.size w (w.alloc (.cells (vrow 266 s.at) 31))) := ((Below.refl w.heap.size w).alloc (by simp <;> omega) _)
  have P0 : Hid ((w.alloc (.cells (vrow 266 s.at) 31)).heap[w.heap.size]? = some (.cells (vrow 266 s.at) 31)) := heap_at _ _ _ (by simp)
  go_enter Tryd.func9, Tryd.ntmps9
  go_wp2_with (first
    | go_skip
    | ((with_reducible refine wlAt 14 rfl ?_); refine wpList_loadall rfl 31 (.tmp 4) rfl _ rfl 266 s.at 31 _ Tryd.underlying31 rfl size_lsheet P0.out ?_)
    | ((with_reducible refine wlAt 23 rfl ?_); refine wpList_loadall rfl 31 (.tmp 4) rfl _ rfl 266 s.at 31 _ Tryd.underlying31 rfl size_lsheet P0.out ?_)
    | (go_at_call 16; ((with_reducible refine (HT0.out _).mono ?_)); rintro o w1 ⟨rfl, hb⟩; replace P0 := Go.Lib.hid (row_next hb P0.out); replace hB := Go.Lib.hid (below_next hB.out hb); clear hb)
    | (go_at_call 34; refine (HS.out _).mono ?_; rintro o w5 ⟨rfl, hb⟩; replace P0 := Go.Lib.hid (row_next hb P0.out); replace hB := Go.Lib.hid (below_next hB.out hb); clear hb)
    | (go_at_call 35; refine (HI.out _ (hE.next hB.out)).mono ?_; rintro o w7 ⟨rfl, hb⟩; replace P0 := Go.Lib.hid (row_next hb P0.out); replace hB := Go.Lib.hid (below_next hB.out hb); clear hb))
  go_ret
  exact ⟨rfl, hB.out⟩
end Go.Proofs.YtgbhchmpeioaiaaDoor
