import Derived.Deep.RegionHeld3
import Derived.Test.YtgbhchmpeioaiaaDoorG1
import Derived.Test.YtgbhchmpeioaiaaDoorGu1
import Derived.Test.YtgbhchmpeioaiaaDoorGu2
import Derived.Test.YtgbhchmpeioaiaaDoorIgive
import Derived.Test.YtgbhchmpeioaiaaDoorCodeOf
namespace Go.Proofs.YtgbhchmpeioaiaaDoor
open Go.RowKit
set_option maxRecDepth 100000
set_option linter.unusedVariables false
set_option linter.unusedSimpArgs false
set_option linter.unusedSimpArgs false
set_option maxHeartbeats 2000000 in
theorem implGU_err (s : Sh) (x y u v c : Int) (k : Nat) (e : ErrE) (w : World) (hE : Errs e w) (HCG0 : ∀ w, Errs e w → Calls Tryd.prog 86 #[.agg s.row, .agg #[.int .i8 x, .int .i8 y], .agg #[.int .i8 u, .int .i8 v]] w fun o w' => o = .returned (errP e k) ∧ Below w.heap.size w w') (HCO0 : ∀ w, Errs e w → Calls Tryd.prog 53 #[errP e k] w fun o w' => o = .returned (.int .i64 c) ∧ Below w.heap.size w w') : Calls Tryd.prog 46 #[.agg s.row, .agg #[.int .i8 x, .int .i8 y], .agg #[.int .i8 u, .int .i8 v]] w fun o w' => o = .returned (.tuple #[.agg Sh.zero.row, .int .i64 c]) ∧ Below w.heap.size w w' := by
  simp only [sp_vrow] at HCG0
  have HCG := Go.Lib.hid HCG0; have HCO := Go.Lib.hid HCO0
  clear HCG0 HCO0
  have zz := zero_sheet
  rw [sp_vrow, sp_vrow]
  have hB : Hid (Below w.heap.size w ((((w.alloc (.cells (vrow 266 s.at) 35)).alloc (.cells (vrow 2 (spAt x y)) 40)).alloc (.cells (vrow 2 (spAt u v)) 40)).alloc (.cells (vrow 266 Sh.zero.at) 35))) := (((((Below.refl w.heap.size w).alloc (by simp <;> omega) _).alloc (by simp <;> omega) _).alloc (by simp <;> omega) _).alloc (by simp <;> omega) _)
  have P : Hid (((((w.alloc (.cells (vrow 266 s.at) 35)).alloc (.cells (vrow 2 (spAt x y)) 40)).alloc (.cells (vrow 2 (spAt u v)) 40)).alloc (.cells (vrow 266 Sh.zero.at) 35)).heap[(w.heap.size)]? = some (.cells (vrow 266 s.at) 35)) := heap_past _ _ _ _ (by first | omega | (simp <;> omega)) (heap_past _ _ _ _ (by first | omega | (simp <;> omega)) (heap_past _ _ _ _ (by first | omega | (simp <;> omega)) (heap_at _ _ _ (by simp))))
  have R : Hid (((((w.alloc (.cells (vrow 266 s.at) 35)).alloc (.cells (vrow 2 (spAt x y)) 40)).alloc (.cells (vrow 2 (spAt u v)) 40)).alloc (.cells (vrow 266 Sh.zero.at) 35)).heap[(w.heap.size + 1)]? = some (.cells (vrow 2 (spAt x y)) 40)) := heap_past _ _ _ _ (by first | omega | (simp <;> omega)) (heap_past _ _ _ _ (by first | omega | (simp <;> omega)) (heap_at _ _ _ (by simp)))
  have Q : Hid (((((w.alloc (.cells (vrow 266 s.at) 35)).alloc (.cells (vrow 2 (spAt x y)) 40)).alloc (.cells (vrow 2 (spAt u v)) 40)).alloc (.cells (vrow 266 Sh.zero.at) 35)).heap[(w.heap.size + 1 + 1)]? = some (.cells (vrow 2 (spAt u v)) 40)) := heap_past _ _ _ _ (by first | omega | (simp <;> omega)) (heap_at _ _ _ (by simp))
  have Z : Hid (((((w.alloc (.cells (vrow 266 s.at) 35)).alloc (.cells (vrow 2 (spAt x y)) 40)).alloc (.cells (vrow 2 (spAt u v)) 40)).alloc (.cells (vrow 266 Sh.zero.at) 35)).heap[(w.heap.size + 1 + 1 + 1)]? = some (.cells (vrow 266 Sh.zero.at) 35)) := heap_at _ _ _ (by simp)
  have E : Hid (Errs e ((((w.alloc (.cells (vrow 266 s.at) 35)).alloc (.cells (vrow 2 (spAt x y)) 40)).alloc (.cells (vrow 2 (spAt u v)) 40)).alloc (.cells (vrow 266 Sh.zero.at) 35))) := ((((hE).alloc _).alloc _).alloc _).alloc _
  go_enter Tryd.func46, Tryd.ntmps46
  go_wp2_with (first
    | go_skip
    | (with_reducible refine wlAt 9 rfl ?_; refine wpList_loadall rfl 35 (.tmp 3) rfl (w.heap.size) rfl 266 s.at 35 _ Tryd.underlying35 rfl size_sheet P.out ?_)
    | (with_reducible refine wlAt 10 rfl ?_; refine wpList_loadall rfl 40 (.tmp 4) rfl (w.heap.size + 1) rfl 2 (spAt x y) 40 _ Tryd.underlying40 rfl size_spot R.out ?_)
    | (with_reducible refine wlAt 11 rfl ?_; refine wpList_loadall rfl 40 (.tmp 5) rfl (w.heap.size + 2) rfl 2 (spAt u v) 40 _ Tryd.underlying40 rfl size_spot Q.out ?_)
    | (go_at_call 86; refine (HCG.out _ E.out).mono ?_; rintro o w1 ⟨rfl, hb⟩; replace P := Go.Lib.hid (row_next hb P.out); replace R := Go.Lib.hid (row_next hb R.out); replace Q := Go.Lib.hid (row_next hb Q.out); replace Z := Go.Lib.hid (row_next hb Z.out); replace hB := Go.Lib.hid (below_next hB.out hb); replace E := Go.Lib.hid (E.out.next hb); clear hb)
    | (go_at_call 53; refine (HCO.out _ E.out).mono ?_; rintro o w2 ⟨rfl, hb⟩; replace P := Go.Lib.hid (row_next hb P.out); replace R := Go.Lib.hid (row_next hb R.out); replace Q := Go.Lib.hid (row_next hb Q.out); replace Z := Go.Lib.hid (row_next hb Z.out); replace hB := Go.Lib.hid (below_next hB.out hb); replace E := Go.Lib.hid (E.out.next hb); clear hb)
    | (with_reducible refine wlAt 15 rfl ?_; refine wpList_built rfl 35 [] rfl [] (by rfl) _ built_zero ?_)
    | (with_reducible refine wlOp (.store 35 (.tmp 6) (.tmp 15)) rfl ?_; refine wpList_storeall rfl 35 (.tmp 6) (.tmp 15) rfl (w.heap.size + 3) rfl 266 Sh.zero.at Sh.zero.at rfl 35 size_sheet Z.out (fun i _ => Sh.one _ i) ?_; replace Z := Go.Lib.hid (row_set Z.out (vrow 266 Sh.zero.at)); replace hB := Go.Lib.hid (Below_setRow hB.out (show w.heap.size ≤ w.heap.size + 3 by omega) (vrow 266 Sh.zero.at))))
  exact ret_row2 Tryd.results46 (w.heap.size + 3) 266 Sh.zero.at 35 _ Tryd.underlying35 rfl size_sheet (.int .i64 c) rfl rfl rfl Z.out ⟨rfl, hB.out⟩
set_option maxHeartbeats 2000000 in
theorem implGU_ok (s : Sh) (x y u v : Nat) (e : ErrE) (w : World) (hE : Errs e w) (HCG0 : ∀ w, Errs e w → Calls Tryd.prog 86 #[.agg s.row, .agg #[.int .i8 x, .int .i8 y], .agg #[.int .i8 u, .int .i8 v]] w fun o w' => o = .returned .nilIface ∧ Below w.heap.size w w') (hx : x < 8) (hy : y < 8) (hu : u < 8) (hv : v < 8) (hne : 8 * y + x ≠ 8 * v + u) (hi : InkOk s) (hw : 1 ≤ s.wet (8 * y + x) ∧ s.wet (8 * y + x) ≤ 200) (hw2 : 0 ≤ s.wet (8 * v + u) ∧ s.wet (8 * v + u) ≤ 199) : Calls Tryd.prog 46 #[.agg s.row, .agg #[.int .i8 x, .int .i8 y], .agg #[.int .i8 u, .int .i8 v]] w fun o w' => o = .returned (.tuple #[.agg (giveS s x y u v).row, .int .i64 0]) ∧ Below w.heap.size w w' := by
  simp only [sp_vrow] at HCG0
  have HCG := Go.Lib.hid HCG0
  have HGV := Go.Lib.hid fun w' (hp : w'.heap[w.heap.size]? = some (.cells (vrow 266 s.at) 35)) => igiveC s w.heap.size x y u v w' hp hx hy hu hv hne hi hw hw2
  clear HCG0 hi hw hw2
  have zz := zero_sheet
  rw [sp_vrow, sp_vrow]
  have hB : Hid (Below w.heap.size w ((((w.alloc (.cells (vrow 266 s.at) 35)).alloc (.cells (vrow 2 (spAt x y)) 40)).alloc (.cells (vrow 2 (spAt u v)) 40)).alloc (.cells (vrow 266 Sh.zero.at) 35))) := (((((Below.refl w.heap.size w).alloc (by simp <;> omega) _).alloc (by simp <;> omega) _).alloc (by simp <;> omega) _).alloc (by simp <;> omega) _)
  have P : Hid (((((w.alloc (.cells (vrow 266 s.at) 35)).alloc (.cells (vrow 2 (spAt x y)) 40)).alloc (.cells (vrow 2 (spAt u v)) 40)).alloc (.cells (vrow 266 Sh.zero.at) 35)).heap[(w.heap.size)]? = some (.cells (vrow 266 s.at) 35)) := heap_past _ _ _ _ (by first | omega | (simp <;> omega)) (heap_past _ _ _ _ (by first | omega | (simp <;> omega)) (heap_past _ _ _ _ (by first | omega | (simp <;> omega)) (heap_at _ _ _ (by simp))))
  have R : Hid (((((w.alloc (.cells (vrow 266 s.at) 35)).alloc (.cells (vrow 2 (spAt x y)) 40)).alloc (.cells (vrow 2 (spAt u v)) 40)).alloc (.cells (vrow 266 Sh.zero.at) 35)).heap[(w.heap.size + 1)]? = some (.cells (vrow 2 (spAt x y)) 40)) := heap_past _ _ _ _ (by first | omega | (simp <;> omega)) (heap_past _ _ _ _ (by first | omega | (simp <;> omega)) (heap_at _ _ _ (by simp)))
  have Q : Hid (((((w.alloc (.cells (vrow 266 s.at) 35)).alloc (.cells (vrow 2 (spAt x y)) 40)).alloc (.cells (vrow 2 (spAt u v)) 40)).alloc (.cells (vrow 266 Sh.zero.at) 35)).heap[(w.heap.size + 1 + 1)]? = some (.cells (vrow 2 (spAt u v)) 40)) := heap_past _ _ _ _ (by first | omega | (simp <;> omega)) (heap_at _ _ _ (by simp))
  have Z : Hid (((((w.alloc (.cells (vrow 266 s.at) 35)).alloc (.cells (vrow 2 (spAt x y)) 40)).alloc (.cells (vrow 2 (spAt u v)) 40)).alloc (.cells (vrow 266 Sh.zero.at) 35)).heap[(w.heap.size + 1 + 1 + 1)]? = some (.cells (vrow 266 Sh.zero.at) 35)) := heap_at _ _ _ (by simp)
  have E : Hid (Errs e ((((w.alloc (.cells (vrow 266 s.at) 35)).alloc (.cells (vrow 2 (spAt x y)) 40)).alloc (.cells (vrow 2 (spAt u v)) 40)).alloc (.cells (vrow 266 Sh.zero.at) 35))) := ((((hE).alloc _).alloc _).alloc _).alloc _
  go_enter Tryd.func46, Tryd.ntmps46
  go_wp2_with (first
    | go_skip
    | (with_reducible refine wlAt 9 rfl ?_; refine wpList_loadall rfl 35 (.tmp 3) rfl (w.heap.size) rfl 266 s.at 35 _ Tryd.underlying35 rfl size_sheet P.out ?_)
    | (with_reducible refine wlAt 10 rfl ?_; refine wpList_loadall rfl 40 (.tmp 4) rfl (w.heap.size + 1) rfl 2 (spAt x y) 40 _ Tryd.underlying40 rfl size_spot R.out ?_)
    | (with_reducible refine wlAt 11 rfl ?_; refine wpList_loadall rfl 40 (.tmp 5) rfl (w.heap.size + 2) rfl 2 (spAt u v) 40 _ Tryd.underlying40 rfl size_spot Q.out ?_)
    | (go_at_call 86; refine (HCG.out _ E.out).mono ?_; rintro o w1 ⟨rfl, hb⟩; replace P := Go.Lib.hid (row_next hb P.out); replace R := Go.Lib.hid (row_next hb R.out); replace Q := Go.Lib.hid (row_next hb Q.out); replace Z := Go.Lib.hid (row_next hb Z.out); replace hB := Go.Lib.hid (below_next hB.out hb); replace E := Go.Lib.hid (E.out.next hb); clear hb)
    | (with_reducible refine wlAt 18 rfl ?_; refine wpList_loadall rfl 40 (.tmp 4) rfl (w.heap.size + 1) rfl 2 (spAt x y) 40 _ Tryd.underlying40 rfl size_spot R.out ?_)
    | (with_reducible refine wlAt 19 rfl ?_; refine wpList_loadall rfl 40 (.tmp 5) rfl (w.heap.size + 2) rfl 2 (spAt u v) 40 _ Tryd.underlying40 rfl size_spot Q.out ?_)
    | (go_at_call 87; (refine (HGV.out _ P.out).mono ?_; rintro e w1 ⟨⟨rr, rfl⟩, hg, hP1⟩; have nP := row_lt P.out; have nZ := row_lt Z.out; have hB1 := hB.out.grown hg (by omega) (fun q hq => by cases hq; omega); replace Z := Go.Lib.hid ((hg.block _ nZ (by simp <;> omega)).trans Z.out); replace P := Go.Lib.hid hP1; replace hB := Go.Lib.hid hB1; clear R Q hg hP1 hB1))
    | (with_reducible refine wlAt 21 rfl ?_; refine wpList_loadall rfl 35 (.tmp 3) rfl (w.heap.size) rfl 266 (giveS s x y u v).at 35 _ Tryd.underlying35 rfl size_sheet P.out ?_)
    | (with_reducible refine wlOp (.store 35 (.tmp 6) (.tmp 21)) rfl ?_; refine wpList_storeall rfl 35 (.tmp 6) (.tmp 21) rfl (w.heap.size + 3) rfl 266 Sh.zero.at (giveS s x y u v).at rfl 35 size_sheet Z.out (fun i _ => Sh.one _ i) ?_; replace Z := Go.Lib.hid (row_set Z.out (vrow 266 (giveS s x y u v).at)); replace hB := Go.Lib.hid (Below_setRow hB.out (show w.heap.size ≤ w.heap.size + 3 by omega) (vrow 266 (giveS s x y u v).at))))
  exact ret_row2 Tryd.results46 (w.heap.size + 3) 266 (giveS s x y u v).at 35 _ Tryd.underlying35 rfl size_sheet (.int .i64 0) rfl rfl rfl Z.out ⟨rfl, hB.out⟩
end Go.Proofs.YtgbhchmpeioaiaaDoor
