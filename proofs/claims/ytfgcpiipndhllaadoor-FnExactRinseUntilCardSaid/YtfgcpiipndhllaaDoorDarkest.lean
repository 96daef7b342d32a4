import Derived.Test.YtfgcpiipndhllaaDoorFirstD
import Derived.Test.YtfgcpiipndhllaaDoorG1
namespace Go.Proofs.YtfgcpiipndhllaaDoor
open Go.RowKit
set_option maxRecDepth 100000
set_option linter.unusedVariables false
set_option linter.unusedSimpArgs false
set_option maxHeartbeats 2000000 in
theorem darkest_any (s : Sh) (e : ErrE) (w : World) (hE : Err6 e w) (hf : s.fit) (hv : okI s = true) (a c : Nat) (ea : s.wide = a) (ec : s.high = c) (ha : 1 ≤ a ∧ a ≤ 8) (hc : 1 ≤ c ∧ c ≤ 8) : Calls Tryd.prog 123 #[.agg s.row] w fun o w' => o = .returned (firstRes (errP e 6) (best (darkB s) (cellsL a c))) ∧ Below w.heap.size w w' := by
  have HFi := Go.Lib.hid fun b w hE hs => firstDark s b e w hE hs hf hv (by omega) (by omega) (by omega) (by omega) (fun x y hx hy => by
    obtain ⟨h0, h1, h2, h3⟩ := ok_bounds s hv x y hx hy
    unfold darkB; omega)
  rw [show s.wide.toNat = a by omega, show s.high.toNat = c by omega] at HFi
  clear hv hf ea ec ha hc
  obtain ⟨bp, hbp⟩ : ∃ bp, best (darkB s) (cellsL a c) = bp := ⟨_, rfl⟩
  rw [hbp] at HFi ⊢
  clear hbp
  have zs := zero_spot
  have hB : Hid (Below w.heap.size w ((w.alloc (.cells (vrow 266 s.at) 36)).alloc (.cells (vrow 2 (spAt 0 0)) 33))) := (((Below.refl w.heap.size w).alloc (by simp <;> omega) _).alloc (by simp <;> omega) _)
  have P : Hid (((w.alloc (.cells (vrow 266 s.at) 36)).alloc (.cells (vrow 2 (spAt 0 0)) 33)).heap[(w.heap.size)]? = some (.cells (vrow 266 s.at) 36)) := heap_past _ _ _ _ (by first | omega | (simp <;> omega)) (heap_at _ _ _ (by simp))
  have Z : Hid (((w.alloc (.cells (vrow 266 s.at) 36)).alloc (.cells (vrow 2 (spAt 0 0)) 33)).heap[(w.heap.size + 1)]? = some (.cells (vrow 2 (spAt 0 0)) 33)) := heap_at _ _ _ (by simp)
  have E : Hid (Err6 e ((w.alloc (.cells (vrow 266 s.at) 36)).alloc (.cells (vrow 2 (spAt 0 0)) 33))) := ((hE).alloc _).alloc _
  by_cases h0 : bp.2 = 0
  · have hfr := firstRes_no (ev := errP e 6) h0
    have HR := Go.Lib.hid hfr
    rw [firstRes_no h0]
    clear hfr
    go_enter Tryd.func123, Tryd.ntmps123
    go_wp2_with (first
      | go_skip
      | ((with_reducible refine wlAt 5 rfl ?_); refine wpList_loadall rfl 36 (.tmp 1) rfl _ rfl 266 s.at 36 _ Tryd.underlying36 rfl size_sheet P.out ?_)
      | (go_at_call 118; (refine (HFi.out _ _ E.out P.out).mono ?_; rintro o w2 ⟨rfl, hb⟩; replace Z := Go.Lib.hid (row_next hb Z.out); replace hB := Go.Lib.hid (below_next hB.out hb); clear hb; rw [HR.out]))
      | ((with_reducible refine wlOp (.store 33 (.tmp 2) (.tmp 8)) rfl ?_); refine wpList_storeall rfl 33 (.tmp 2) (.tmp 8) rfl (w.heap.size + 1) rfl 2 (spAt 0 0) (spAt 0 0) rfl 33 size_spot Z.out (fun i _ => spAt_one _ _ i) ?_; replace Z := Go.Lib.hid (row_set Z.out (vrow 2 (spAt 0 0))); replace hB := Go.Lib.hid (Below_setRow hB.out (show w.heap.size ≤ w.heap.size + 1 by omega) (vrow 2 (spAt 0 0)))))
    exact ret_row3 Tryd.results123 (w.heap.size + 1) 2 (spAt 0 0) 33 _ Tryd.underlying33 rfl size_spot (.int .i64 0) (errP e 6) rfl rfl rfl rfl Z.out ⟨rfl, hB.out⟩
  · have hfr := firstRes_yes (ev := errP e 6) h0
    have HR := Go.Lib.hid hfr
    rw [firstRes_yes h0]
    clear hfr
    go_enter Tryd.func123, Tryd.ntmps123
    go_wp2_with (first
      | go_skip
      | ((with_reducible refine wlAt 5 rfl ?_); refine wpList_loadall rfl 36 (.tmp 1) rfl _ rfl 266 s.at 36 _ Tryd.underlying36 rfl size_sheet P.out ?_)
      | (go_at_call 118; (refine (HFi.out _ _ E.out P.out).mono ?_; rintro o w2 ⟨rfl, hb⟩; replace Z := Go.Lib.hid (row_next hb Z.out); replace hB := Go.Lib.hid (below_next hB.out hb); clear hb; rw [HR.out]))
      | ((with_reducible refine wlOp (.store 33 (.tmp 2) (.tmp 8)) rfl ?_); refine wpList_storeall rfl 33 (.tmp 2) (.tmp 8) rfl (w.heap.size + 1) rfl 2 (spAt 0 0) (spAt bp.1.1 bp.1.2) rfl 33 size_spot Z.out (fun i _ => spAt_one _ _ i) ?_; replace Z := Go.Lib.hid (row_set Z.out (vrow 2 (spAt bp.1.1 bp.1.2))); replace hB := Go.Lib.hid (Below_setRow hB.out (show w.heap.size ≤ w.heap.size + 1 by omega) (vrow 2 (spAt bp.1.1 bp.1.2)))))
    exact ret_row3 Tryd.results123 (w.heap.size + 1) 2 (spAt bp.1.1 bp.1.2) 33 _ Tryd.underlying33 rfl size_spot (.int .i64 bp.2) (.nilIface) rfl rfl rfl rfl Z.out ⟨rfl, hB.out⟩
end Go.Proofs.YtfgcpiipndhllaaDoor
