import Derived.Deep.RegionHeld3
import Derived.Test.YtfdjlflnhhiecaaDoorMirS
import Derived.Test.YtfdjlflnhhiecaaDoorArrTur
import Derived.Test.YtfdjlflnhhiecaaDoorEqSheet
import Derived.Test.YtfdjlflnhhiecaaDoorG1
namespace Go.Proofs.YtfdjlflnhhiecaaDoor
open Go.RowKit
set_option maxRecDepth 100000
set_option linter.unusedVariables false
set_option linter.unusedSimpArgs false
set_option linter.unusedSimpArgs false
set_option maxHeartbeats 400000 in
theorem specTur_bad (s : Sh) (w : World) (hf : s.fit) (hv : okI s = false) : Calls Tryd.prog 38 #[.agg s.row] w fun e w' => e = .returned (.tuple #[.agg Sh.zero.row, .int .i64 1]) ∧ Below w.heap.size w w' := by
  have HO0 := fun b w hs => ok_any s b w hs hf
  rw [← ok_eq s hf, hv] at HO0
  have HO := Go.Lib.hid HO0
  clear HO0
  clear hv
  have zz := zero_sheet
  have hB : Hid (Below w.heap.size w ((w.alloc (.cells (vrow 266 s.at) 36)).alloc (.cells (vrow 266 Sh.zero.at) 36))) := (((Below.refl w.heap.size w).alloc (by simp <;> omega) _).alloc (by simp <;> omega) _)
  have P : Hid (((w.alloc (.cells (vrow 266 s.at) 36)).alloc (.cells (vrow 266 Sh.zero.at) 36)).heap[(w.heap.size)]? = some (.cells (vrow 266 s.at) 36)) := heap_past _ _ _ _ (by first | omega | (simp <;> omega)) (heap_at _ _ _ (by simp))
  have Z : Hid (((w.alloc (.cells (vrow 266 s.at) 36)).alloc (.cells (vrow 266 Sh.zero.at) 36)).heap[(w.heap.size + 1)]? = some (.cells (vrow 266 Sh.zero.at) 36)) := heap_at _ _ _ (by simp)
  go_enter Tryd.func38, Tryd.ntmps38
  go_wp2_with (first
    | (refine wpList_built rfl 36 [] rfl [] (by rfl) _ built_zero ?_)
    | (refine wpList_storeall rfl 36 (.tmp 2) (.tmp 6) rfl (w.heap.size + 1) rfl 266 Sh.zero.at Sh.zero.at rfl 36 size_sheet Z.out (fun i _ => Sh.one _ i) ?_; replace Z := Go.Lib.hid (row_set Z.out (vrow 266 Sh.zero.at)); replace hB := Go.Lib.hid (Below_setRow hB.out (show w.heap.size ≤ w.heap.size + 1 by omega) (vrow 266 Sh.zero.at)))
    | (go_at_call 61; (refine (HO.out _ _ P.out).mono ?_; rintro e w1 ⟨rfl, hb⟩; replace P := Go.Lib.hid (row_next hb P.out); replace Z := Go.Lib.hid (row_next hb Z.out); replace hB := Go.Lib.hid (below_next hB.out hb); clear hb )))
  exact ret_row2 Tryd.results38 (w.heap.size + 1) 266 Sh.zero.at 36 _ Tryd.underlying36 rfl size_sheet (.int .i64 1) rfl rfl rfl Z.out ⟨rfl, hB.out⟩
set_option maxHeartbeats 400000 in
theorem specTur_ok (s : Sh) (w : World) (hf : s.fit) (hv : okI s = true) (a c : Nat) (ea : s.wide = a) (ec : s.high = c) (ha : 1 ≤ a ∧ a ≤ 8) (hc : 1 ≤ c ∧ c ≤ 8) : Calls Tryd.prog 38 #[.agg s.row] w fun e w' => e = .returned (.tuple #[.agg (arrS s (fun x y => y) (fun x y => c - 1 - x) (plainSh c a) (pairsL c a)).row, .int .i64 0]) ∧ Below w.heap.size w w' := by
  have HO0 := fun b w hs => ok_any s b w hs hf
  rw [← ok_eq s hf, hv] at HO0
  have HO := Go.Lib.hid HO0
  clear HO0
  have HM := Go.Lib.hid fun b w hs => specTurC s b a c w hs ea ec ha hc
  clear hv ea ec hf
  generalize (arrS s (fun x y => y) (fun x y => c - 1 - x) (plainSh c a) (pairsL c a)) = r at *
  have zz := zero_sheet
  have hB : Hid (Below w.heap.size w ((w.alloc (.cells (vrow 266 s.at) 36)).alloc (.cells (vrow 266 Sh.zero.at) 36))) := (((Below.refl w.heap.size w).alloc (by simp <;> omega) _).alloc (by simp <;> omega) _)
  have P : Hid (((w.alloc (.cells (vrow 266 s.at) 36)).alloc (.cells (vrow 266 Sh.zero.at) 36)).heap[(w.heap.size)]? = some (.cells (vrow 266 s.at) 36)) := heap_past _ _ _ _ (by first | omega | (simp <;> omega)) (heap_at _ _ _ (by simp))
  have Z : Hid (((w.alloc (.cells (vrow 266 s.at) 36)).alloc (.cells (vrow 266 Sh.zero.at) 36)).heap[(w.heap.size + 1)]? = some (.cells (vrow 266 Sh.zero.at) 36)) := heap_at _ _ _ (by simp)
  go_enter Tryd.func38, Tryd.ntmps38
  go_wp2_with (first
    | (refine wpList_storeall rfl 36 (.tmp 2) (.tmp 7) rfl (w.heap.size + 1) rfl 266 Sh.zero.at r.at rfl 36 size_sheet Z.out (fun i _ => Sh.one _ i) ?_; replace Z := Go.Lib.hid (row_set Z.out (vrow 266 r.at)); replace hB := Go.Lib.hid (Below_setRow hB.out (show w.heap.size ≤ w.heap.size + 1 by omega) (vrow 266 r.at)))
    | (go_at_call 61; (refine (HO.out _ _ P.out).mono ?_; rintro e w1 ⟨rfl, hb⟩; replace P := Go.Lib.hid (row_next hb P.out); replace Z := Go.Lib.hid (row_next hb Z.out); replace hB := Go.Lib.hid (below_next hB.out hb); clear hb ))
    | (go_at_call 67; (refine (HM.out _ _ P.out).mono ?_; rintro e w1 ⟨rfl, hb⟩; replace P := Go.Lib.hid (row_next hb P.out); replace Z := Go.Lib.hid (row_next hb Z.out); replace hB := Go.Lib.hid (below_next hB.out hb); clear hb )))
  exact ret_row2 Tryd.results38 (w.heap.size + 1) 266 r.at 36 _ Tryd.underlying36 rfl size_sheet (.int .i64 0) rfl rfl rfl Z.out ⟨rfl, hB.out⟩
set_option maxHeartbeats 400000 in
theorem implTur_bad (s : Sh) (e : ErrE) (w : World) (hE : Errs e w) (hv : okI s = false) (hf : s.fit := by assumption) : Calls Tryd.prog 39 #[.agg s.row] w fun o w' => o = .returned (.tuple #[.agg Sh.zero.row, .int .i64 1]) ∧ Below w.heap.size w w' := by
  have HC := Go.Lib.hid fun w hE => checkSheet_bad s hv e w hE
  clear hv
  have zz := zero_sheet
  have hB : Hid (Below w.heap.size w ((w.alloc (.cells (vrow 266 s.at) 36)).alloc (.cells (vrow 266 Sh.zero.at) 36))) := (((Below.refl w.heap.size w).alloc (by simp <;> omega) _).alloc (by simp <;> omega) _)
  have P : Hid (((w.alloc (.cells (vrow 266 s.at) 36)).alloc (.cells (vrow 266 Sh.zero.at) 36)).heap[(w.heap.size)]? = some (.cells (vrow 266 s.at) 36)) := heap_past _ _ _ _ (by first | omega | (simp <;> omega)) (heap_at _ _ _ (by simp))
  have Z : Hid (((w.alloc (.cells (vrow 266 s.at) 36)).alloc (.cells (vrow 266 Sh.zero.at) 36)).heap[(w.heap.size + 1)]? = some (.cells (vrow 266 Sh.zero.at) 36)) := heap_at _ _ _ (by simp)
  have E : Hid (Errs e ((w.alloc (.cells (vrow 266 s.at) 36)).alloc (.cells (vrow 266 Sh.zero.at) 36))) := ((hE).alloc _).alloc _
  go_enter Tryd.func39, Tryd.ntmps39
  go_wp2_with (first
    | (refine wpList_built rfl 36 [] rfl [] (by rfl) _ built_zero ?_)
    | (refine wpList_loadall rfl 36 (.tmp 1) rfl _ rfl 266 s.at 36 _ Tryd.underlying36 rfl size_sheet P.out ?_)
    | (refine wpList_storeall rfl 36 (.tmp 2) (.tmp 9) rfl (w.heap.size + 1) rfl 266 Sh.zero.at Sh.zero.at rfl 36 size_sheet Z.out (fun i _ => Sh.one _ i) ?_; replace Z := Go.Lib.hid (row_set Z.out (vrow 266 Sh.zero.at)); replace hB := Go.Lib.hid (Below_setRow hB.out (show w.heap.size ≤ w.heap.size + 1 by omega) (vrow 266 Sh.zero.at)))
    | (go_at_call 63; (refine (HC.out _ E.out).mono ?_; rintro e w1 ⟨rfl, hb⟩; replace P := Go.Lib.hid (row_next hb P.out); replace Z := Go.Lib.hid (row_next hb Z.out); replace hB := Go.Lib.hid (below_next hB.out hb); replace E := Go.Lib.hid (E.out.next hb); clear hb ))
    | (go_at_call 47; (refine (codeOf_1 e _ E.out).mono ?_; rintro e w1 ⟨rfl, hb⟩; replace P := Go.Lib.hid (row_next hb P.out); replace Z := Go.Lib.hid (row_next hb Z.out); replace hB := Go.Lib.hid (below_next hB.out hb); replace E := Go.Lib.hid (E.out.next hb); clear hb )))
  exact ret_row2 Tryd.results39 (w.heap.size + 1) 266 Sh.zero.at 36 _ Tryd.underlying36 rfl size_sheet (.int .i64 1) rfl rfl rfl Z.out ⟨rfl, hB.out⟩
set_option maxHeartbeats 1000000 in
theorem implTur_ok (s : Sh) (e : ErrE) (w : World) (hE : Errs e w) (hf : s.fit) (hv : okI s = true) (a c : Nat) (ea : s.wide = a) (ec : s.high = c) (ha : 1 ≤ a ∧ a ≤ 8) (hc : 1 ≤ c ∧ c ≤ 8) : Calls Tryd.prog 39 #[.agg s.row] w fun o w' => o = .returned (.tuple #[.agg (arrI s (fun x y => y) (fun x y => c - 1 - x) (plainSh c a) (pairsL c a)).row, .int .i64 0]) ∧ Below w.heap.size w w' := by
  have HC := Go.Lib.hid fun w hE => checkSheet_ok s hv e w hE
  have HM := Go.Lib.hid fun b w hs => arrTur s b c a (fun x y => y) (fun x y => c - 1 - x) (by omega) (by omega) (fun x y hx hy => ⟨by show y < 8; omega, by show c - 1 - x < 8; omega⟩) w hs (fun x y W hx hy hW => turC b x y s c W hW ec (by omega) (by omega) (by omega))
  clear hv hf
  generalize (arrI s (fun x y => y) (fun x y => c - 1 - x) (plainSh c a) (pairsL c a)) = r at *
  have zz := zero_sheet
  have hB : Hid (Below w.heap.size w ((w.alloc (.cells (vrow 266 s.at) 36)).alloc (.cells (vrow 266 Sh.zero.at) 36))) := (((Below.refl w.heap.size w).alloc (by simp <;> omega) _).alloc (by simp <;> omega) _)
  have P : Hid (((w.alloc (.cells (vrow 266 s.at) 36)).alloc (.cells (vrow 266 Sh.zero.at) 36)).heap[(w.heap.size)]? = some (.cells (vrow 266 s.at) 36)) := heap_past _ _ _ _ (by first | omega | (simp <;> omega)) (heap_at _ _ _ (by simp))
  have Z : Hid (((w.alloc (.cells (vrow 266 s.at) 36)).alloc (.cells (vrow 266 Sh.zero.at) 36)).heap[(w.heap.size + 1)]? = some (.cells (vrow 266 Sh.zero.at) 36)) := heap_at _ _ _ (by simp)
  have E : Hid (Errs e ((w.alloc (.cells (vrow 266 s.at) 36)).alloc (.cells (vrow 266 Sh.zero.at) 36))) := ((hE).alloc _).alloc _
  go_enter Tryd.func39, Tryd.ntmps39
  go_wp2_with (first
    | (refine wpList_loadall rfl 36 (.tmp 1) rfl _ rfl 266 s.at 36 _ Tryd.underlying36 rfl size_sheet P.out ?_)
    | (refine wpList_load1 rfl 22 (.tmp 13) rfl (w.heap.size) 1 rfl 266 s.at _ _ Tryd.underlying22 rfl P.out (by omega) ?_; rw [Sh.at_1, ec])
    | (refine wpList_load1 rfl 22 (.tmp 15) rfl (w.heap.size) 0 rfl 266 s.at _ _ Tryd.underlying22 rfl P.out (by omega) ?_; rw [Sh.at_0, ea])
    | (refine wpList_storeall rfl 36 (.tmp 2) (.tmp 18) rfl (w.heap.size + 1) rfl 266 Sh.zero.at r.at rfl 36 size_sheet Z.out (fun i _ => Sh.one _ i) ?_; replace Z := Go.Lib.hid (row_set Z.out (vrow 266 r.at)); replace hB := Go.Lib.hid (Below_setRow hB.out (show w.heap.size ≤ w.heap.size + 1 by omega) (vrow 266 r.at)))
    | (go_at_call 63; (refine (HC.out _ E.out).mono ?_; rintro e w1 ⟨rfl, hb⟩; replace P := Go.Lib.hid (row_next hb P.out); replace Z := Go.Lib.hid (row_next hb Z.out); replace hB := Go.Lib.hid (below_next hB.out hb); replace E := Go.Lib.hid (E.out.next hb); clear hb ))
    | (go_at_call 68; (refine (HM.out _ _ P.out).mono ?_; rintro e w1 ⟨rfl, hb⟩; replace P := Go.Lib.hid (row_next hb P.out); replace Z := Go.Lib.hid (row_next hb Z.out); replace hB := Go.Lib.hid (below_next hB.out hb); replace E := Go.Lib.hid (E.out.next hb); clear hb )))
  exact ret_row2 Tryd.results39 (w.heap.size + 1) 266 r.at 36 _ Tryd.underlying36 rfl size_sheet (.int .i64 0) rfl rfl rfl Z.out ⟨rfl, hB.out⟩
set_option maxHeartbeats 4000000 in
theorem Tur_walk (s : Sh) (r : Sh) (c : Int) (e : ErrE) (w : World) (hE : Errs e w)
    (hS : ∀ w, Calls Tryd.prog 38 #[.agg s.row] w fun e w' => e = .returned (.tuple #[.agg r.row, .int .i64 c]) ∧ Below w.heap.size w w')
    (hI : ∀ w, Errs e w → Calls Tryd.prog 39 #[.agg s.row] w fun e w' => e = .returned (.tuple #[.agg r.row, .int .i64 c]) ∧ Below w.heap.size w w') : Calls Tryd.prog 13 #[.agg s.row] w fun o w' => o = .returned (.bool true) ∧ Below w.heap.size w w' := by
  have zz := zero_sheet
  have zs := zero_spot
  have HT0 := Go.Lib.hid (fun w => toSheet_any s w)
  have HS := Go.Lib.hid hS; have HI := Go.Lib.hid hI
  clear hS hI
  have hB : Hid (Below w.heap.size w (w.alloc (.cells (vrow 266 s.at) 31))) := ((Below.refl w.heap.size w).alloc (by simp <;> omega) _)
  have P0 : Hid ((w.alloc (.cells (vrow 266 s.at) 31)).heap[(w.heap.size)]? = some (.cells (vrow 266 s.at) 31)) := heap_at _ _ _ (by simp)
  go_enter Tryd.func13, Tryd.ntmps13
  go_wp2_with (first
    | (refine wpList_loadall rfl 31 (.tmp 1) rfl _ rfl 266 s.at 31 _ Tryd.underlying31 rfl size_lsheet P0.out ?_)
    | (go_at_call 16; refine (HT0.out _).mono ?_; rintro o w1 ⟨rfl, hb⟩; replace P0 := Go.Lib.hid (row_next hb P0.out); (try (replace V5 := Go.Lib.hid (row_next hb V5.out))); replace hB := Go.Lib.hid (below_next hB.out hb); clear hb)
    | (go_at_call 38; refine (HS.out _).mono ?_; rintro o w5 ⟨rfl, hb⟩; replace P0 := Go.Lib.hid (row_next hb P0.out); replace hB := Go.Lib.hid (below_next hB.out hb); clear hb)
    | (refine wpList_storeall rfl 36 (.tmp 3) (.tmp 11) rfl _ rfl 266 Sh.zero.at r.at rfl 36 size_sheet (heap_at _ _ _ rfl) (fun i _ => r.one i) ?_; rw [setRow_at _ _ _ _ _ rfl]; replace P0 := Go.Lib.hid (heap_past _ (.cells (vrow 266 r.at) 36) _ _ (row_lt P0.out) P0.out); have V5 := Go.Lib.hid (heap_at w5 (.cells (vrow 266 r.at) 36) _ rfl); replace hB := Go.Lib.hid (hB.out.alloc hB.out.size (.cells (vrow 266 r.at) 36)); generalize hbvV5 : w5.heap.size = bV5 at V5 ⊢; generalize w5.alloc _ = W5 at hB V5 P0 ⊢; clear hbvV5)
    | (go_at_call 39; refine (HI.out _ (hE.next hB.out)).mono ?_; rintro o w7 ⟨rfl, hb⟩; replace P0 := Go.Lib.hid (row_next hb P0.out); (try (replace V5 := Go.Lib.hid (row_next hb V5.out))); replace hB := Go.Lib.hid (below_next hB.out hb); clear hb)
    | (refine wpList_storeall rfl 36 (.tmp 5) (.tmp 17) rfl _ rfl 266 Sh.zero.at r.at rfl 36 size_sheet (heap_at _ _ _ rfl) (fun i _ => r.one i) ?_; rw [setRow_at _ _ _ _ _ rfl]; replace P0 := Go.Lib.hid (heap_past _ (.cells (vrow 266 r.at) 36) _ _ (row_lt P0.out) P0.out); replace V5 := Go.Lib.hid (heap_past _ (.cells (vrow 266 r.at) 36) _ _ (row_lt V5.out) V5.out); have V7 := Go.Lib.hid (heap_at w7 (.cells (vrow 266 r.at) 36) _ rfl); replace hB := Go.Lib.hid (hB.out.alloc hB.out.size (.cells (vrow 266 r.at) 36)); generalize hbvV7 : w7.heap.size = bV7 at V7 ⊢; generalize w7.alloc _ = W7 at hB V7 P0 V5 ⊢; clear hbvV7)
    | (refine wpList_loadall rfl 36 (.tmp 5) rfl _ rfl 266 r.at 36 _ Tryd.underlying36 rfl size_sheet V7.out ?_)
    | (refine wpList_loadall rfl 36 (.tmp 3) rfl _ rfl 266 r.at 36 _ Tryd.underlying36 rfl size_sheet V5.out ?_)
    | (go_at_call 25; refine (eqSheet_any r _).mono ?_; rintro o w3 ⟨rfl, hb⟩; replace hB := Go.Lib.hid (below_next hB.out hb); clear hb))
  go_ret
  exact ⟨rfl, hB.out⟩
theorem Tur_law (s : Sh) (e : ErrE) (w : World) (hE : Errs e w) (hf : s.fit) : Calls Tryd.prog 13 #[.agg s.row] w fun o w' => o = .returned (.bool true) ∧ Below w.heap.size w w' := by
  cases hv : okI s
  · exact Tur_walk s Sh.zero 1 e w hE (fun w => specTur_bad s w hf hv) (fun w hE => implTur_bad s e w hE hv)
  · have hw : 1 ≤ s.wide ∧ s.wide ≤ 8 ∧ 1 ≤ s.high ∧ s.high ≤ 8 := by
      simp only [okI, Bool.and_eq_true, decide_eq_true_eq] at hv
      omega
    obtain ⟨a, ha⟩ : ∃ a : Nat, s.wide = a := ⟨s.wide.toNat, by omega⟩
    obtain ⟨c, hc⟩ : ∃ c : Nat, s.high = c := ⟨s.high.toNat, by omega⟩
    have hS := fun w => specTur_ok s w hf hv a c ha hc (by omega) (by omega)
    have hI := fun w hE => implTur_ok s e w hE hf hv a c ha hc (by omega) (by omega)
    rw [arr_eq' s _ _ c a (by omega) (by omega) _ (fun _ => rfl)] at hI
    exact Tur_walk s _ 0 e w hE hS hI
end Go.Proofs.YtfdjlflnhhiecaaDoor
