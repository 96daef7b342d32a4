import Derived.Deep.RegionHeld3
import Derived.Test.YtmcpaangofdmpaaDoorCodeOf
import Derived.Test.YtmcpaangofdmpaaDoorEqSheet
import Derived.Test.YtmcpaangofdmpaaDoorG1
namespace Go.Proofs.YtmcpaangofdmpaaDoor
open Go.RowKit
set_option maxRecDepth 100000
set_option linter.unusedVariables false
set_option linter.unusedSimpArgs false
set_option maxHeartbeats 8000000 in
theorem unL_walk (s : Sh) (d : Bool) (r : Sh) (c : Int) (e : ErrE) (w : World) (hE : Errs e w)
    (hS : ∀ w, Calls Tryd.prog 31 #[.agg (vrow 266 s.at), .bool d] w fun e w' => e = .returned (.tuple #[.agg (vrow 266 r.at), .int .i64 c]) ∧ Below w.heap.size w w')
    (hI : ∀ w, Errs e w → Calls Tryd.prog 32 #[.agg (vrow 266 s.at), .bool d] w fun e w' => e = .returned (.tuple #[.agg (vrow 266 r.at), .int .i64 c]) ∧ Below w.heap.size w w') : Calls Tryd.prog 8 #[.agg (vrow 266 s.at), .bool d] w fun o w' => o = .returned (.bool true) ∧ Below w.heap.size w w' := by
  have zz_sheet := zero_sheet
  have HT0 := Go.Lib.hid (fun w => toSheet_any s w)
  have HS := Go.Lib.hid hS; have HI := Go.Lib.hid hI
  clear hS hI
  have hB : Hid (Below w.heap.size w (w.alloc (.cells (vrow 266 s.at) 31))) := ((Below.refl w.heap.size w).alloc (by simp <;> omega) _)
  have P0 : Hid ((w.alloc (.cells (vrow 266 s.at) 31)).heap[w.heap.size]? = some (.cells (vrow 266 s.at) 31)) := heap_at _ _ _ (by simp)
  go_enter Tryd.func8, Tryd.ntmps8
  go_wp2_with (first
    | go_skip
    | ((with_reducible refine wlAt 10 rfl ?_); refine wpList_loadall rfl 31 (.tmp 2) rfl _ rfl 266 s.at 31 _ Tryd.underlying31 rfl size_lsheet P0.out ?_)
    | ((with_reducible refine wlAt 17 rfl ?_); refine wpList_loadall rfl 31 (.tmp 2) rfl _ rfl 266 s.at 31 _ Tryd.underlying31 rfl size_lsheet P0.out ?_)
    | (go_at_call 13; ((with_reducible refine (HT0.out _).mono ?_)); rintro o w1 ⟨rfl, hb⟩; replace P0 := Go.Lib.hid (row_next hb P0.out); (try (replace U0 := Go.Lib.hid (row_next hb U0.out))); replace hB := Go.Lib.hid (below_next hB.out hb); clear hb)
    | (go_at_call 31; refine (HS.out _).mono ?_; rintro o w5 ⟨rfl, hb⟩; replace P0 := Go.Lib.hid (row_next hb P0.out); replace hB := Go.Lib.hid (below_next hB.out hb); clear hb)
    | (go_at_call 32; refine (HI.out _ (hE.next hB.out)).mono ?_; rintro o w7 ⟨rfl, hb⟩; replace P0 := Go.Lib.hid (row_next hb P0.out); (try (replace U0 := Go.Lib.hid (row_next hb U0.out))); replace hB := Go.Lib.hid (below_next hB.out hb); clear hb)
    | ((with_reducible refine wlOp (.store 34 (.tmp 5) (.tmp 14)) rfl ?_); have nbP0 := row_lt P0.out; have gb := hB.out.size; replace P0 := Go.Lib.hid (heap_past w5 (.cells (vrow 266 Sh.zero.at) 34) _ _ (row_lt P0.out) P0.out); have U0 := Go.Lib.hid (heap_at w5 (.cells (vrow 266 Sh.zero.at) 34) (w5.heap.size) (by simp)); replace hB := Go.Lib.hid (hB.out.alloc hB.out.size (.cells (vrow 266 Sh.zero.at) 34)); generalize hxb : w5.heap.size = bb at U0 nbP0 gb ⊢; generalize (World.alloc w5 _) = Xb at hB U0 P0 ⊢; clear hxb; refine wpList_storeall rfl 34 (.tmp 5) (.tmp 14) rfl (bb) rfl 266 Sh.zero.at r.at rfl 34 size_sheet U0.out (fun i _ => Sh.one _ i) ?_; replace U0 := Go.Lib.hid (row_set U0.out (vrow 266 r.at)); replace P0 := Go.Lib.hid (row_set' (g := bb) (by omega) P0.out (vrow 266 r.at)); replace hB := Go.Lib.hid (Below_setRow hB.out (g := bb) (by omega) (vrow 266 r.at)))
    | ((with_reducible refine wlOp (.store 34 (.tmp 7) (.tmp 21)) rfl ?_); have ncP0 := row_lt P0.out; have ncU0 := row_lt U0.out; have gc := hB.out.size; replace P0 := Go.Lib.hid (heap_past w7 (.cells (vrow 266 Sh.zero.at) 34) _ _ (row_lt P0.out) P0.out); replace U0 := Go.Lib.hid (heap_past w7 (.cells (vrow 266 Sh.zero.at) 34) _ _ (row_lt U0.out) U0.out); have V0 := Go.Lib.hid (heap_at w7 (.cells (vrow 266 Sh.zero.at) 34) (w7.heap.size) (by simp)); replace hB := Go.Lib.hid (hB.out.alloc hB.out.size (.cells (vrow 266 Sh.zero.at) 34)); generalize hxc : w7.heap.size = bc at V0 ncP0 ncU0 gc ⊢; generalize (World.alloc w7 _) = Xc at hB V0 P0 U0 ⊢; clear hxc; refine wpList_storeall rfl 34 (.tmp 7) (.tmp 21) rfl (bc) rfl 266 Sh.zero.at r.at rfl 34 size_sheet V0.out (fun i _ => Sh.one _ i) ?_; replace V0 := Go.Lib.hid (row_set V0.out (vrow 266 r.at)); replace P0 := Go.Lib.hid (row_set' (g := bc) (by omega) P0.out (vrow 266 r.at)); replace U0 := Go.Lib.hid (row_set' (g := bc) (by omega) U0.out (vrow 266 r.at)); replace hB := Go.Lib.hid (Below_setRow hB.out (g := bc) (by omega) (vrow 266 r.at)))
    | ((with_reducible refine wlAt 23 rfl ?_); refine wpList_loadall rfl 34 (.tmp 7) rfl _ rfl 266 r.at 34 _ Tryd.underlying34 rfl size_sheet V0.out ?_)
    | ((with_reducible refine wlAt 24 rfl ?_); refine wpList_loadall rfl 34 (.tmp 5) rfl _ rfl 266 r.at 34 _ Tryd.underlying34 rfl size_sheet U0.out ?_)
    | (go_at_call 16; (first | (with_reducible refine (eqSheet_any r _).mono ?_)); rintro o w3 ⟨rfl, hb⟩; (try (replace U0 := Go.Lib.hid (row_next hb U0.out))); (try (replace V0 := Go.Lib.hid (row_next hb V0.out))); replace hB := Go.Lib.hid (below_next hB.out hb); clear hb))
  go_ret
  exact ⟨rfl, hB.out⟩
end Go.Proofs.YtmcpaangofdmpaaDoor
