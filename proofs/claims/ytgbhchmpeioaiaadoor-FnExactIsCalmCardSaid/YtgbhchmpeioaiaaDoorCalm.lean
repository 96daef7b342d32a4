import Derived.Deep.RegionHeld3
import Derived.Test.YtgbhchmpeioaiaaDoorG1
import Derived.Test.YtgbhchmpeioaiaaDoorIrun
import Derived.Test.YtgbhchmpeioaiaaDoorLrun
import Derived.Test.YtgbhchmpeioaiaaDoorCodeOf
namespace Go.Proofs.YtgbhchmpeioaiaaDoor
open Go.RowKit
set_option maxRecDepth 100000
set_option linter.unusedVariables false
set_option linter.unusedSimpArgs false
set_option maxHeartbeats 1000000 in
theorem specCalm_bad (s : Sh) (w : World) (hf : s.fit) (ho : okI s = false) : Calls Tryd.prog 42 #[.agg s.row] w fun e w' => e = .returned (.tuple #[.bool false, .int .i64 1]) ∧ Below w.heap.size w w' := by
  have HO0 := fun b w hs => ok_any s b w hs hf
  rw [← ok_eq s hf, ho] at HO0
  have HO := Go.Lib.hid HO0
  clear HO0 hf ho
  have hB : Hid (Below w.heap.size w (w.alloc (.cells (vrow 266 s.at) 35))) := ((Below.refl w.heap.size w).alloc (by simp <;> omega) _)
  have P : Hid ((w.alloc (.cells (vrow 266 s.at) 35)).heap[(w.heap.size)]? = some (.cells (vrow 266 s.at) 35)) := heap_at _ _ _ (by simp)
  go_enter Tryd.func42, Tryd.ntmps42
  go_wp2_with (go_at_call 47; (refine (HO.out _ _ P.out).mono ?_; rintro e w1 ⟨rfl, hb⟩; replace P := Go.Lib.hid (row_next hb P.out); replace hB := Go.Lib.hid (below_next hB.out hb); clear hb))
  go_ret2
  exact ⟨rfl, hB.out⟩
set_option maxHeartbeats 2000000 in
theorem specCalm_ok (s : Sh) (a c : Nat) (w : World) (ea : s.wide = a) (ec : s.high = c) (ha : 1 ≤ a ∧ a ≤ 8) (hc : 1 ≤ c ∧ c ≤ 8) (hf : s.fit) (ho : okI s = true) (hi : InkOk s) : Calls Tryd.prog 42 #[.agg s.row] w fun e w' => e = .returned (.tuple #[.bool ((runS s (cellsL a c)).2 == 0), .int .i64 0]) ∧ Below w.heap.size w w' := by
  have HO0 := fun b w hs => ok_any s b w hs hf
  rw [← ok_eq s hf, ho] at HO0
  have HO := Go.Lib.hid HO0
  have HL := Go.Lib.hid fun w => lrun_any s a c w ea ec ha hc ho hi hf
  clear HO0 hf ho hi ea ec ha hc
  generalize runS s (cellsL a c) = TN at *
  obtain ⟨T, n⟩ := TN
  have zz := zero_sheet
  have hB : Hid (Below w.heap.size w (w.alloc (.cells (vrow 266 s.at) 35))) := ((Below.refl w.heap.size w).alloc (by simp <;> omega) _)
  have P : Hid ((w.alloc (.cells (vrow 266 s.at) 35)).heap[(w.heap.size)]? = some (.cells (vrow 266 s.at) 35)) := heap_at _ _ _ (by simp)
  go_enter Tryd.func42, Tryd.ntmps42
  go_wp2_with (first
    | go_skip
    | (go_at_call 47; (refine (HO.out _ _ P.out).mono ?_; rintro e w1 ⟨rfl, hb⟩; replace P := Go.Lib.hid (row_next hb P.out); replace hB := Go.Lib.hid (below_next hB.out hb); clear hb))
    | (with_reducible refine wlAt 9 rfl ?_; refine wpList_loadall rfl 35 (.tmp 1) rfl _ rfl 266 s.at 35 _ Tryd.underlying35 rfl size_sheet P.out ?_)
    | (go_at_call 74; (refine (HL.out _).mono ?_; rintro e w2 ⟨rfl, hb⟩; replace P := Go.Lib.hid (row_next hb P.out); replace hB := Go.Lib.hid (below_next hB.out hb); clear hb))
    | (with_reducible refine wlOp (.store 35 (.tmp 4) (.tmp 11)) rfl ?_; refine wpList_storeall rfl 35 (.tmp 4) (.tmp 11) rfl _ rfl 266 Sh.zero.at T.at rfl 35 size_sheet (heap_at _ _ _ rfl) (fun i _ => Sh.one _ i) ?_; rw [setRow_at _ _ _ _ _ rfl]; replace hB := Go.Lib.hid (hB.out.alloc hB.out.size (.cells (vrow 266 T.at) 35)); generalize w2.alloc _ = w3 at hB ⊢))
  go_ret2
  exact ⟨rfl, hB.out⟩
set_option maxHeartbeats 1000000 in
theorem implCalm_bad (s : Sh) (e : ErrE) (w : World) (hE : Errs e w) (ho : okI s = false) (hf : s.fit := by assumption) : Calls Tryd.prog 43 #[.agg s.row] w fun o w' => o = .returned (.tuple #[.bool false, .int .i64 1]) ∧ Below w.heap.size w w' := by
  have HC := Go.Lib.hid fun w hE => checkSheet_bad s ho e w hE
  have HD := Go.Lib.hid fun w hE => codeOf_1 e w hE
  have hB : Hid (Below w.heap.size w (w.alloc (.cells (vrow 266 s.at) 35))) := ((Below.refl w.heap.size w).alloc (by simp <;> omega) _)
  have P : Hid ((w.alloc (.cells (vrow 266 s.at) 35)).heap[(w.heap.size)]? = some (.cells (vrow 266 s.at) 35)) := heap_at _ _ _ (by simp)
  have E : Hid (Errs e (w.alloc (.cells (vrow 266 s.at) 35))) := hE.alloc _
  go_enter Tryd.func43, Tryd.ntmps43
  go_wp2_with (first
    | go_skip
    | (with_reducible refine wlAt 5 rfl ?_; refine wpList_loadall rfl 35 (.tmp 1) rfl _ rfl 266 s.at 35 _ Tryd.underlying35 rfl size_sheet P.out ?_)
    | (go_at_call 52; (refine (HC.out _ E.out).mono ?_; rintro o w1 ⟨rfl, hb⟩; replace P := Go.Lib.hid (row_next hb P.out); replace hB := Go.Lib.hid (below_next hB.out hb); replace E := Go.Lib.hid (E.out.next hb); clear hb))
    | (go_at_call 53; (refine (HD.out _ E.out).mono ?_; rintro o w2 ⟨rfl, hb⟩; replace P := Go.Lib.hid (row_next hb P.out); replace hB := Go.Lib.hid (below_next hB.out hb); replace E := Go.Lib.hid (E.out.next hb); clear hb)))
  go_ret2
  exact ⟨rfl, hB.out⟩
set_option maxHeartbeats 2000000 in
theorem implCalm_ok (s : Sh) (a c : Nat) (e : ErrE) (w : World) (hE : Errs e w) (ea : s.wide = a) (ec : s.high = c) (ha : 1 ≤ a ∧ a ≤ 8) (hc : 1 ≤ c ∧ c ≤ 8) (hf : s.fit) (ho : okI s = true) (hi : InkOk s) : Calls Tryd.prog 43 #[.agg s.row] w fun o w' => o = .returned (.tuple #[.bool ((runS s (cellsL a c)).2 == 0), .int .i64 0]) ∧ Below w.heap.size w w' := by
  have HC := Go.Lib.hid fun w hE => checkSheet_ok s ho e w hE
  have HG := Go.Lib.hid fun w => ground_any s a c w ea ec ha.2 hc.2 ho
  have hmem : ∀ p ∈ dryL s (cellsL a c), hasB s p.1.1 p.1.2 = true ∧ waxB s p.1.1 p.1.2 = false := fun p hp => by
    obtain ⟨hp1, hp2⟩ := List.mem_filter.1 hp
    have h2 : p.1 ∈ pairsL a c := by rw [← cellsL_val a c (by omega) c (by omega)]; exact List.mem_map_of_mem hp1
    obtain ⟨h3, h4⟩ := pairsL_mem h2
    refine ⟨by unfold hasB; simp; omega, by simpa using hp2⟩
  have HI := Go.Lib.hid fun mt gp gl f f2 w hG ht => irun_any s s (dryL s (cellsL a c)) mt gp gl f f2 w ho hG ht (Gd.start ho hi hf) hmem
  rw [run_filter s (cellsL a c) (s, 0)] at HI
  rw [show (cellsL a c).foldl (cellRun s) (s, 0) = runS s (cellsL a c) from rfl] at HI
  clear hf ho hi ea ec ha hc hmem
  generalize runS s (cellsL a c) = TN at *
  obtain ⟨T, n⟩ := TN
  generalize dryL s (cellsL a c) = L at *
  have hB : Hid (Below w.heap.size w (w.alloc (.cells (vrow 266 s.at) 35))) := ((Below.refl w.heap.size w).alloc (by simp <;> omega) _)
  have P : Hid ((w.alloc (.cells (vrow 266 s.at) 35)).heap[(w.heap.size)]? = some (.cells (vrow 266 s.at) 35)) := heap_at _ _ _ (by simp)
  have E : Hid (Errs e (w.alloc (.cells (vrow 266 s.at) 35))) := hE.alloc _
  go_enter Tryd.func43, Tryd.ntmps43
  go_wp2_with (first
    | go_skip
    | (with_reducible refine wlAt 5 rfl ?_; refine wpList_loadall rfl 35 (.tmp 1) rfl _ rfl 266 s.at 35 _ Tryd.underlying35 rfl size_sheet P.out ?_)
    | (with_reducible refine wlAt 11 rfl ?_; refine wpList_loadall rfl 35 (.tmp 1) rfl _ rfl 266 s.at 35 _ Tryd.underlying35 rfl size_sheet P.out ?_)
    | (go_at_call 52; (refine (HC.out _ E.out).mono ?_; rintro o w1 ⟨rfl, hb⟩; replace P := Go.Lib.hid (row_next hb P.out); replace hB := Go.Lib.hid (below_next hB.out hb); replace E := Go.Lib.hid (E.out.next hb); clear hb))
    | (go_at_call 77; (refine (HG.out _).mono ?_; rintro o w2 ⟨gp, gl, rfl, hGM, hb⟩; replace P := Go.Lib.hid (row_next hb P.out); replace hB := Go.Lib.hid (below_next hB.out hb); clear hb; obtain ⟨f, f2, hGR⟩ := hGM.rows; clear hGM))
    | (go_at_call 80; (refine (HI.out _ _ _ _ _ _ hGR P.out).mono ?_; rintro o w3 ⟨rfl, hgn, hP⟩; replace hB := Go.Lib.hid (hB.out.grown hgn hB.out.size (fun q hq => by cases hq; omega)); clear hgn hP)))
  go_ret2
  exact ⟨rfl, hB.out⟩
set_option maxHeartbeats 2000000 in
theorem Calm_walk (s : Sh) (b : Bool) (c : Int) (e : ErrE) (w : World) (hE : Errs e w) (hS : ∀ w, Calls Tryd.prog 42 #[.agg s.row] w fun e w' => e = .returned (.tuple #[.bool b, .int .i64 c]) ∧ Below w.heap.size w w') (hI : ∀ w, Errs e w → Calls Tryd.prog 43 #[.agg s.row] w fun o w' => o = .returned (.tuple #[.bool b, .int .i64 c]) ∧ Below w.heap.size w w') : Calls Tryd.prog 13 #[.agg s.row] w fun o w' => o = .returned (.bool true) ∧ Below w.heap.size w w' := by
  have HT := Go.Lib.hid fun w => toSheet_any s w
  have HS := Go.Lib.hid hS; have HI := Go.Lib.hid hI
  clear hS hI
  have hB : Hid (Below w.heap.size w (w.alloc (.cells (vrow 266 s.at) 31))) := ((Below.refl w.heap.size w).alloc (by simp <;> omega) _)
  have P : Hid ((w.alloc (.cells (vrow 266 s.at) 31)).heap[(w.heap.size)]? = some (.cells (vrow 266 s.at) 31)) := heap_at _ _ _ (by simp)
  have E : Hid (Errs e (w.alloc (.cells (vrow 266 s.at) 31))) := hE.alloc _
  cases b
  all_goals
    go_enter Tryd.func13, Tryd.ntmps13
    go_wp2_with (first
      | go_skip
      | (with_reducible refine wlAt 8 rfl ?_; refine wpList_loadall rfl 31 (.tmp 1) rfl _ rfl 266 s.at 31 _ Tryd.underlying31 rfl size_lsheet P.out ?_)
      | (with_reducible refine wlAt 14 rfl ?_; refine wpList_loadall rfl 31 (.tmp 1) rfl _ rfl 266 s.at 31 _ Tryd.underlying31 rfl size_lsheet P.out ?_)
      | (go_at_call 16; (refine (HT.out _).mono ?_; rintro o w1 ⟨rfl, hb⟩; replace P := Go.Lib.hid (row_next hb P.out); replace hB := Go.Lib.hid (below_next hB.out hb); replace E := Go.Lib.hid (E.out.next hb); clear hb))
      | (go_at_call 42; (refine (HS.out _).mono ?_; rintro o w2 ⟨rfl, hb⟩; replace P := Go.Lib.hid (row_next hb P.out); replace hB := Go.Lib.hid (below_next hB.out hb); replace E := Go.Lib.hid (E.out.next hb); clear hb))
      | (go_at_call 43; (refine (HI.out _ E.out).mono ?_; rintro o w3 ⟨rfl, hb⟩; replace P := Go.Lib.hid (row_next hb P.out); replace hB := Go.Lib.hid (below_next hB.out hb); replace E := Go.Lib.hid (E.out.next hb); clear hb)))
    go_ret
    exact ⟨rfl, hB.out⟩
theorem Calm_law0 (s : Sh) (e : ErrE) (w : World) (hE : Errs e w) (hf : s.fit) (hi : okI s = true → InkOk s) : Calls Tryd.prog 13 #[.agg s.row] w fun o w' => o = .returned (.bool true) ∧ Below w.heap.size w w' := by
  cases ho : okI s
  · exact Calm_walk s false 1 e w hE (fun w => specCalm_bad s w hf ho) (fun w hE => implCalm_bad s e w hE ho)
  · obtain ⟨⟨h1, h2, h3, h4⟩, _⟩ := (okI_iff s).1 ho
    exact Calm_walk s _ 0 e w hE (fun w => specCalm_ok s s.wide.toNat s.high.toNat w (by omega) (by omega) (by omega) (by omega) hf ho (hi ho)) (fun w hE => implCalm_ok s s.wide.toNat s.high.toNat e w hE (by omega) (by omega) (by omega) (by omega) hf ho (hi ho))
theorem Calm_law (s : Sh) (e : ErrE) (w : World) (hE : Errs e w) (hf : s.fit) : Calls Tryd.prog 13 #[.agg s.row] w fun o w' => o = .returned (.bool true) ∧ Below w.heap.size w w' := by
  rw [← norm_row s]
  exact Calm_law0 s.norm e w hE (norm_fit hf) inkOk_norm
end Go.Proofs.YtgbhchmpeioaiaaDoor
