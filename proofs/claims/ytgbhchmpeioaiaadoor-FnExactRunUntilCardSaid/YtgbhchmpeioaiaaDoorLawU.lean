import Derived.Deep.RegionHeld3
import Derived.Test.YtgbhchmpeioaiaaDoorEqSheet
import Derived.Test.YtgbhchmpeioaiaaDoorG1
import Derived.Test.YtgbhchmpeioaiaaDoorUntil
namespace Go.Proofs.YtgbhchmpeioaiaaDoor
open Go.RowKit
set_option maxRecDepth 100000
set_option linter.unusedVariables false
set_option linter.unusedSimpArgs false
set_option linter.unusedSimpArgs false
theorem untilS_err (s : Sh) (l : List Sp8) : ∀ (f n : Nat) (T : Sh), (untilS s l f n T).2.2 = 0 ∨ untilS s l f n T = (Sh.zero, 0, 7)
  | 0, _, _ => .inr rfl
  | f + 1, n, T => by
    rw [show untilS s l (f + 1) n T = if (l.foldl (cellRun s) (T, 0)).2 = 0 then (T, (n : Int), 0) else if n = 500 then (Sh.zero, 0, 7) else untilS s l f (n + 1) (l.foldl (cellRun s) (T, 0)).1 from rfl]
    by_cases h1 : (l.foldl (cellRun s) (T, 0)).2 = 0
    · rw [if_pos h1]; exact .inl rfl
    rw [if_neg h1]
    by_cases h2 : n = 500
    · rw [if_pos h2]; exact .inr rfl
    rw [if_neg h2]
    exact untilS_err s l f (n + 1) _
set_option maxHeartbeats 2000000 in
theorem specU_bad (s : Sh) (w : World) (hf : s.fit) (ho : okI s = false) : Calls Tryd.prog 40 #[.agg s.row] w fun o w' => o = .returned (.tuple #[.agg Sh.zero.row, .int .i64 0, .int .i64 1]) ∧ Below w.heap.size w w' := by
  have HO0 := fun b w hs => ok_any s b w hs hf
  rw [← ok_eq s hf, ho] at HO0
  have HO := Go.Lib.hid HO0
  clear HO0 hf ho
  have zz := zero_sheet
  have hB : Hid (Below w.heap.size w ((w.alloc (.cells (vrow 266 s.at) 35)).alloc (.cells (vrow 266 Sh.zero.at) 35))) := (((Below.refl w.heap.size w).alloc (by simp <;> omega) _).alloc (by simp <;> omega) _)
  have P : Hid (((w.alloc (.cells (vrow 266 s.at) 35)).alloc (.cells (vrow 266 Sh.zero.at) 35)).heap[(w.heap.size)]? = some (.cells (vrow 266 s.at) 35)) := heap_past _ _ _ _ (by first | omega | (simp <;> omega)) (heap_at _ _ _ (by simp))
  have Z : Hid (((w.alloc (.cells (vrow 266 s.at) 35)).alloc (.cells (vrow 266 Sh.zero.at) 35)).heap[(w.heap.size + 1)]? = some (.cells (vrow 266 Sh.zero.at) 35)) := heap_at _ _ _ (by simp)
  go_enter Tryd.func40, Tryd.ntmps40
  go_wp2_with (first
    | go_skip
    | (go_at_call 47; (refine (HO.out _ _ P.out).mono ?_; rintro e w1 ⟨rfl, hb⟩; replace P := Go.Lib.hid (row_next hb P.out); replace Z := Go.Lib.hid (row_next hb Z.out); replace hB := Go.Lib.hid (below_next hB.out hb); clear hb))
    | (with_reducible refine wlAt 7 rfl ?_; refine wpList_built rfl 35 [] rfl [] (by rfl) _ built_zero ?_)
    | (with_reducible refine wlOp (.store 35 (.tmp 2) (.tmp 7)) rfl ?_; refine wpList_storeall rfl 35 (.tmp 2) (.tmp 7) rfl (w.heap.size + 1) rfl 266 Sh.zero.at Sh.zero.at rfl 35 size_sheet Z.out (fun i _ => Sh.one _ i) ?_; replace Z := Go.Lib.hid (row_set Z.out (vrow 266 Sh.zero.at)); replace hB := Go.Lib.hid (Below_setRow hB.out (show w.heap.size ≤ w.heap.size + 1 by omega) (vrow 266 Sh.zero.at))))
  exact ret_row3 Tryd.results40 (w.heap.size + 1) 266 Sh.zero.at 35 _ Tryd.underlying35 rfl size_sheet (.int .i64 0) (.int .i64 1) rfl rfl rfl rfl Z.out ⟨rfl, hB.out⟩
set_option maxHeartbeats 2000000 in
theorem specU_ok (s : Sh) (a c : Nat) (w : World) (ea : s.wide = a) (ec : s.high = c) (ha : 1 ≤ a ∧ a ≤ 8) (hc : 1 ≤ c ∧ c ≤ 8) (hf : s.fit) (ho : okI s = true) (hi : InkOk s) : Calls Tryd.prog 40 #[.agg s.row] w fun o w' => o = .returned (.tuple #[.agg (untilS s (cellsL a c) 501 0 s).1.row, .int .i64 (untilS s (cellsL a c) 501 0 s).2.1, .int .i64 (untilS s (cellsL a c) 501 0 s).2.2]) ∧ Below w.heap.size w w' := by
  have HO0 := fun b w hs => ok_any s b w hs hf
  rw [← ok_eq s hf, ho] at HO0
  have HO := Go.Lib.hid HO0
  have HU := Go.Lib.hid fun w => luntil_any s a c w ea ec ha hc hf ho hi
  clear HO0 hf ho hi ea ec ha hc
  generalize untilS s (cellsL a c) 501 0 s = R at *
  obtain ⟨T, k, d⟩ := R
  have zz := zero_sheet
  have hB : Hid (Below w.heap.size w ((w.alloc (.cells (vrow 266 s.at) 35)).alloc (.cells (vrow 266 Sh.zero.at) 35))) := (((Below.refl w.heap.size w).alloc (by simp <;> omega) _).alloc (by simp <;> omega) _)
  have P : Hid (((w.alloc (.cells (vrow 266 s.at) 35)).alloc (.cells (vrow 266 Sh.zero.at) 35)).heap[(w.heap.size)]? = some (.cells (vrow 266 s.at) 35)) := heap_past _ _ _ _ (by first | omega | (simp <;> omega)) (heap_at _ _ _ (by simp))
  have Z : Hid (((w.alloc (.cells (vrow 266 s.at) 35)).alloc (.cells (vrow 266 Sh.zero.at) 35)).heap[(w.heap.size + 1)]? = some (.cells (vrow 266 Sh.zero.at) 35)) := heap_at _ _ _ (by simp)
  go_enter Tryd.func40, Tryd.ntmps40
  go_wp2_with (first
    | go_skip
    | (go_at_call 47; (refine (HO.out _ _ P.out).mono ?_; rintro e w1 ⟨rfl, hb⟩; replace P := Go.Lib.hid (row_next hb P.out); replace Z := Go.Lib.hid (row_next hb Z.out); replace hB := Go.Lib.hid (below_next hB.out hb); clear hb))
    | (with_reducible refine wlAt 8 rfl ?_; refine wpList_loadall rfl 35 (.tmp 1) rfl _ rfl 266 s.at 35 _ Tryd.underlying35 rfl size_sheet P.out ?_)
    | (go_at_call 81; (refine (HU.out _).mono ?_; rintro e w2 ⟨rfl, hb⟩; replace P := Go.Lib.hid (row_next hb P.out); replace Z := Go.Lib.hid (row_next hb Z.out); replace hB := Go.Lib.hid (below_next hB.out hb); clear hb))
    | (with_reducible refine wlOp (.store 35 (.tmp 2) (.tmp 10)) rfl ?_; refine wpList_storeall rfl 35 (.tmp 2) (.tmp 10) rfl (w.heap.size + 1) rfl 266 Sh.zero.at T.at rfl 35 size_sheet Z.out (fun i _ => Sh.one _ i) ?_; replace Z := Go.Lib.hid (row_set Z.out (vrow 266 T.at)); replace hB := Go.Lib.hid (Below_setRow hB.out (show w.heap.size ≤ w.heap.size + 1 by omega) (vrow 266 T.at))))
  exact ret_row3 Tryd.results40 (w.heap.size + 1) 266 T.at 35 _ Tryd.underlying35 rfl size_sheet (.int .i64 k) (.int .i64 d) rfl rfl rfl rfl Z.out ⟨rfl, hB.out⟩
set_option maxHeartbeats 2000000 in
theorem implU_bad (s : Sh) (e : ErrE) (w : World) (hE : Errs e w) (ho : okI s = false) (hf : s.fit := by assumption) : Calls Tryd.prog 41 #[.agg s.row] w fun o w' => o = .returned (.tuple #[.agg Sh.zero.row, .int .i64 0, .int .i64 1]) ∧ Below w.heap.size w w' := by
  have HC := Go.Lib.hid fun w hE => checkSheet_bad s ho e w hE
  have HD := Go.Lib.hid fun w hE => codeOf_1 e w hE
  have zz := zero_sheet
  have hB : Hid (Below w.heap.size w ((w.alloc (.cells (vrow 266 s.at) 35)).alloc (.cells (vrow 266 Sh.zero.at) 35))) := (((Below.refl w.heap.size w).alloc (by simp <;> omega) _).alloc (by simp <;> omega) _)
  have P : Hid (((w.alloc (.cells (vrow 266 s.at) 35)).alloc (.cells (vrow 266 Sh.zero.at) 35)).heap[(w.heap.size)]? = some (.cells (vrow 266 s.at) 35)) := heap_past _ _ _ _ (by first | omega | (simp <;> omega)) (heap_at _ _ _ (by simp))
  have Z : Hid (((w.alloc (.cells (vrow 266 s.at) 35)).alloc (.cells (vrow 266 Sh.zero.at) 35)).heap[(w.heap.size + 1)]? = some (.cells (vrow 266 Sh.zero.at) 35)) := heap_at _ _ _ (by simp)
  have E : Hid (Errs e ((w.alloc (.cells (vrow 266 s.at) 35)).alloc (.cells (vrow 266 Sh.zero.at) 35))) := (hE.alloc _).alloc _
  go_enter Tryd.func41, Tryd.ntmps41
  go_wp2_with (first
    | go_skip
    | (with_reducible refine wlAt 8 rfl ?_; refine wpList_loadall rfl 35 (.tmp 1) rfl _ rfl 266 s.at 35 _ Tryd.underlying35 rfl size_sheet P.out ?_)
    | (go_at_call 52; (refine (HC.out _ E.out).mono ?_; rintro o w1 ⟨rfl, hb⟩; replace P := Go.Lib.hid (row_next hb P.out); replace Z := Go.Lib.hid (row_next hb Z.out); replace hB := Go.Lib.hid (below_next hB.out hb); replace E := Go.Lib.hid (E.out.next hb); clear hb))
    | (with_reducible refine wlAt 12 rfl ?_; refine wpList_built rfl 35 [] rfl [] (by rfl) _ built_zero ?_)
    | (go_at_call 53; (refine (HD.out _ E.out).mono ?_; rintro o w2 ⟨rfl, hb⟩; replace P := Go.Lib.hid (row_next hb P.out); replace Z := Go.Lib.hid (row_next hb Z.out); replace hB := Go.Lib.hid (below_next hB.out hb); replace E := Go.Lib.hid (E.out.next hb); clear hb))
    | (with_reducible refine wlOp (.store 35 (.tmp 2) (.tmp 12)) rfl ?_; refine wpList_storeall rfl 35 (.tmp 2) (.tmp 12) rfl (w.heap.size + 1) rfl 266 Sh.zero.at Sh.zero.at rfl 35 size_sheet Z.out (fun i _ => Sh.one _ i) ?_; replace Z := Go.Lib.hid (row_set Z.out (vrow 266 Sh.zero.at)); replace hB := Go.Lib.hid (Below_setRow hB.out (show w.heap.size ≤ w.heap.size + 1 by omega) (vrow 266 Sh.zero.at))))
  exact ret_row3 Tryd.results41 (w.heap.size + 1) 266 Sh.zero.at 35 _ Tryd.underlying35 rfl size_sheet (.int .i64 0) (.int .i64 1) rfl rfl rfl rfl Z.out ⟨rfl, hB.out⟩
set_option maxHeartbeats 2000000 in
theorem implU_ok (s : Sh) (a c : Nat) (e : ErrE) (w : World) (hE : Errs e w) (ea : s.wide = a) (ec : s.high = c) (ha : 1 ≤ a ∧ a ≤ 8) (hc : 1 ≤ c ∧ c ≤ 8) (hf : s.fit) (ho : okI s = true) (hi : InkOk s) : Calls Tryd.prog 41 #[.agg s.row] w fun o w' => o = .returned (.tuple #[.agg (untilS s (cellsL a c) 501 0 s).1.row, .int .i64 (untilS s (cellsL a c) 501 0 s).2.1, .int .i64 (untilS s (cellsL a c) 501 0 s).2.2]) ∧ Below w.heap.size w w' := by
  have HC := Go.Lib.hid fun w hE => checkSheet_ok s ho e w hE
  have HD := Go.Lib.hid fun w hE => codeOf_7 e w hE
  have hr := untilS_err s (cellsL a c) 501 0 s
  have HS0 := fun W (hb : Below w.heap.size w W) ht => settle_any s a c w.heap.size e w W hE hb (Nat.le_refl _) ht ea ec ha hc hf ho hi
  clear hf ho hi ea ec ha hc
  generalize untilS s (cellsL a c) 501 0 s = R at *
  obtain ⟨T, k, d⟩ := R
  change d = 0 ∨ _ at hr
  by_cases hd : d = 0
  · subst hd
    have HS : Hid (∀ W, Below w.heap.size w W → W.heap[w.heap.size]? = some (.cells (vrow 266 s.at) 35) → Calls Tryd.prog 82 #[.pointer (some ⟨w.heap.size, 0, none⟩)] W fun o w' => o = .returned (.tuple #[.int .i64 k, .nilIface]) ∧ w'.heap[w.heap.size]? = some (.cells (vrow 266 T.at) 35) ∧ W.grownBy w' (some w.heap.size)) := Go.Lib.hid fun W hb ht => (HS0 W hb ht).mono fun o w' h => ⟨h.1.trans (by rw [if_pos rfl]), h.2.1 rfl, h.2.2⟩
    clear HS0 hr
    have zz := zero_sheet
    have hB : Hid (Below w.heap.size w ((w.alloc (.cells (vrow 266 s.at) 35)).alloc (.cells (vrow 266 Sh.zero.at) 35))) := (((Below.refl w.heap.size w).alloc (by simp <;> omega) _).alloc (by simp <;> omega) _)
    have P : Hid (((w.alloc (.cells (vrow 266 s.at) 35)).alloc (.cells (vrow 266 Sh.zero.at) 35)).heap[(w.heap.size)]? = some (.cells (vrow 266 s.at) 35)) := heap_past _ _ _ _ (by first | omega | (simp <;> omega)) (heap_at _ _ _ (by simp))
    have Z : Hid (((w.alloc (.cells (vrow 266 s.at) 35)).alloc (.cells (vrow 266 Sh.zero.at) 35)).heap[(w.heap.size + 1)]? = some (.cells (vrow 266 Sh.zero.at) 35)) := heap_at _ _ _ (by simp)
    have E : Hid (Errs e ((w.alloc (.cells (vrow 266 s.at) 35)).alloc (.cells (vrow 266 Sh.zero.at) 35))) := (hE.alloc _).alloc _
    go_enter Tryd.func41, Tryd.ntmps41
    go_wp2_with (first
      | go_skip
      | (with_reducible refine wlAt 8 rfl ?_; refine wpList_loadall rfl 35 (.tmp 1) rfl _ rfl 266 s.at 35 _ Tryd.underlying35 rfl size_sheet P.out ?_)
      | (go_at_call 52; (refine (HC.out _ E.out).mono ?_; rintro o w1 ⟨rfl, hb⟩; replace P := Go.Lib.hid (row_next hb P.out); replace Z := Go.Lib.hid (row_next hb Z.out); replace hB := Go.Lib.hid (below_next hB.out hb); replace E := Go.Lib.hid (E.out.next hb); clear hb))
      | (go_at_call 82; (refine (HS.out _ hB.out P.out).mono ?_; rintro o w3 ⟨rfl, hP, hg⟩; have nP := row_lt P.out; have nZ := row_lt Z.out; replace Z := Go.Lib.hid ((hg.block _ nZ (by simp <;> omega)).trans Z.out); have hB1 := hB.out.grown hg (by omega) (fun q hq => by cases hq; omega); replace hB := Go.Lib.hid hB1; replace P := Go.Lib.hid hP; replace E := Go.Lib.hid (hE.next hB.out); clear hg hB1))
      | (with_reducible refine wlAt 24 rfl ?_; refine wpList_loadall rfl 35 (.tmp 1) rfl _ rfl 266 T.at 35 _ Tryd.underlying35 rfl size_sheet P.out ?_)
      | (with_reducible refine wlOp (.store 35 (.tmp 2) (.tmp 24)) rfl ?_; refine wpList_storeall rfl 35 (.tmp 2) (.tmp 24) rfl (w.heap.size + 1) rfl 266 Sh.zero.at T.at rfl 35 size_sheet Z.out (fun i _ => Sh.one _ i) ?_; replace Z := Go.Lib.hid (row_set Z.out (vrow 266 T.at)); replace hB := Go.Lib.hid (Below_setRow hB.out (show w.heap.size ≤ w.heap.size + 1 by omega) (vrow 266 T.at))))
    exact ret_row3 Tryd.results41 (w.heap.size + 1) 266 T.at 35 _ Tryd.underlying35 rfl size_sheet (.int .i64 k) (.int .i64 0) rfl rfl rfl rfl Z.out ⟨rfl, hB.out⟩
  · rcases hr with hr | hr
    · exact absurd hr hd
    obtain ⟨rfl, h2⟩ := Prod.mk.inj hr
    obtain ⟨rfl, rfl⟩ := Prod.mk.inj h2
    have HS : Hid (∀ W, Below w.heap.size w W → W.heap[w.heap.size]? = some (.cells (vrow 266 s.at) 35) → Calls Tryd.prog 82 #[.pointer (some ⟨w.heap.size, 0, none⟩)] W fun o w' => o = .returned (.tuple #[.int .i64 0, errP e 7]) ∧ W.grownBy w' (some w.heap.size)) := Go.Lib.hid fun W hb ht => (HS0 W hb ht).mono fun o w' h => ⟨h.1.trans (by rw [if_neg hd]), h.2.2⟩
    clear HS0 hr h2 hd
    have zz := zero_sheet
    have hB : Hid (Below w.heap.size w ((w.alloc (.cells (vrow 266 s.at) 35)).alloc (.cells (vrow 266 Sh.zero.at) 35))) := (((Below.refl w.heap.size w).alloc (by simp <;> omega) _).alloc (by simp <;> omega) _)
    have P : Hid (((w.alloc (.cells (vrow 266 s.at) 35)).alloc (.cells (vrow 266 Sh.zero.at) 35)).heap[(w.heap.size)]? = some (.cells (vrow 266 s.at) 35)) := heap_past _ _ _ _ (by first | omega | (simp <;> omega)) (heap_at _ _ _ (by simp))
    have Z : Hid (((w.alloc (.cells (vrow 266 s.at) 35)).alloc (.cells (vrow 266 Sh.zero.at) 35)).heap[(w.heap.size + 1)]? = some (.cells (vrow 266 Sh.zero.at) 35)) := heap_at _ _ _ (by simp)
    have E : Hid (Errs e ((w.alloc (.cells (vrow 266 s.at) 35)).alloc (.cells (vrow 266 Sh.zero.at) 35))) := (hE.alloc _).alloc _
    go_enter Tryd.func41, Tryd.ntmps41
    go_wp2_with (first
      | go_skip
      | (with_reducible refine wlAt 8 rfl ?_; refine wpList_loadall rfl 35 (.tmp 1) rfl _ rfl 266 s.at 35 _ Tryd.underlying35 rfl size_sheet P.out ?_)
      | (go_at_call 52; (refine (HC.out _ E.out).mono ?_; rintro o w1 ⟨rfl, hb⟩; replace P := Go.Lib.hid (row_next hb P.out); replace Z := Go.Lib.hid (row_next hb Z.out); replace hB := Go.Lib.hid (below_next hB.out hb); replace E := Go.Lib.hid (E.out.next hb); clear hb))
      | (go_at_call 82; (refine (HS.out _ hB.out P.out).mono ?_; rintro o w3 ⟨rfl, hg⟩; have nP := row_lt P.out; have nZ := row_lt Z.out; replace Z := Go.Lib.hid ((hg.block _ nZ (by simp <;> omega)).trans Z.out); have hB1 := hB.out.grown hg (by omega) (fun q hq => by cases hq; omega); replace hB := Go.Lib.hid hB1; clear P; replace E := Go.Lib.hid (hE.next hB.out); clear hg hB1))
      | (with_reducible refine wlAt 21 rfl ?_; refine wpList_built rfl 35 [] rfl [] (by rfl) _ built_zero ?_)
      | (go_at_call 53; (refine (HD.out _ E.out).mono ?_; rintro o w2 ⟨rfl, hb⟩; replace Z := Go.Lib.hid (row_next hb Z.out); replace hB := Go.Lib.hid (below_next hB.out hb); replace E := Go.Lib.hid (E.out.next hb); clear hb))
      | (with_reducible refine wlOp (.store 35 (.tmp 2) (.tmp 21)) rfl ?_; refine wpList_storeall rfl 35 (.tmp 2) (.tmp 21) rfl (w.heap.size + 1) rfl 266 Sh.zero.at Sh.zero.at rfl 35 size_sheet Z.out (fun i _ => Sh.one _ i) ?_; replace Z := Go.Lib.hid (row_set Z.out (vrow 266 Sh.zero.at)); replace hB := Go.Lib.hid (Below_setRow hB.out (show w.heap.size ≤ w.heap.size + 1 by omega) (vrow 266 Sh.zero.at))))
    exact ret_row3 Tryd.results41 (w.heap.size + 1) 266 Sh.zero.at 35 _ Tryd.underlying35 rfl size_sheet (.int .i64 0) (.int .i64 7) rfl rfl rfl rfl Z.out ⟨rfl, hB.out⟩
set_option maxHeartbeats 4000000 in
theorem RunU_walk (s : Sh) (r : Sh) (c : Int) (d : Int) (e : ErrE) (w : World) (hE : Errs e w)
    (hS : ∀ w, Calls Tryd.prog 40 #[.agg s.row] w fun e w' => e = .returned (.tuple #[.agg r.row, .int .i64 c, .int .i64 d]) ∧ Below w.heap.size w w')
    (hI : ∀ w, Errs e w → Calls Tryd.prog 41 #[.agg s.row] w fun e w' => e = .returned (.tuple #[.agg r.row, .int .i64 c, .int .i64 d]) ∧ Below w.heap.size w w') : Calls Tryd.prog 12 #[.agg s.row] w fun o w' => o = .returned (.bool true) ∧ Below w.heap.size w w' := by
  have zz := zero_sheet
  have zs := zero_spot
  have HT0 := Go.Lib.hid (fun w => toSheet_any s w)
  have HS := Go.Lib.hid hS; have HI := Go.Lib.hid hI
  clear hS hI
  have hB : Hid (Below w.heap.size w (w.alloc (.cells (vrow 266 s.at) 31))) := ((Below.refl w.heap.size w).alloc (by simp <;> omega) _)
  have P0 : Hid ((w.alloc (.cells (vrow 266 s.at) 31)).heap[(w.heap.size)]? = some (.cells (vrow 266 s.at) 31)) := heap_at _ _ _ (by simp)
  go_enter Tryd.func12, Tryd.ntmps12
  go_wp2_with (first
    | (refine wpList_loadall rfl 31 (.tmp 1) rfl _ rfl 266 s.at 31 _ Tryd.underlying31 rfl size_lsheet P0.out ?_)
    | (go_at_call 16; refine (HT0.out _).mono ?_; rintro o w1 ⟨rfl, hb⟩; replace P0 := Go.Lib.hid (row_next hb P0.out); (try (replace V5 := Go.Lib.hid (row_next hb V5.out))); replace hB := Go.Lib.hid (below_next hB.out hb); clear hb)
    | (go_at_call 40; refine (HS.out _).mono ?_; rintro o w5 ⟨rfl, hb⟩; replace P0 := Go.Lib.hid (row_next hb P0.out); replace hB := Go.Lib.hid (below_next hB.out hb); clear hb)
    | (refine wpList_storeall rfl 35 (.tmp 3) (.tmp 13) rfl _ rfl 266 Sh.zero.at r.at rfl 35 size_sheet (heap_at _ _ _ rfl) (fun i _ => r.one i) ?_; rw [setRow_at _ _ _ _ _ rfl]; replace P0 := Go.Lib.hid (heap_past _ (.cells (vrow 266 r.at) 35) _ _ (row_lt P0.out) P0.out); have V5 := Go.Lib.hid (heap_at w5 (.cells (vrow 266 r.at) 35) _ rfl); replace hB := Go.Lib.hid (hB.out.alloc hB.out.size (.cells (vrow 266 r.at) 35)); generalize hbvV5 : w5.heap.size = bV5 at V5 ⊢; generalize w5.alloc _ = W5 at hB V5 P0 ⊢; clear hbvV5)
    | (go_at_call 41; refine (HI.out _ (hE.next hB.out)).mono ?_; rintro o w7 ⟨rfl, hb⟩; replace P0 := Go.Lib.hid (row_next hb P0.out); (try (replace V5 := Go.Lib.hid (row_next hb V5.out))); replace hB := Go.Lib.hid (below_next hB.out hb); clear hb)
    | (refine wpList_storeall rfl 35 (.tmp 6) (.tmp 20) rfl _ rfl 266 Sh.zero.at r.at rfl 35 size_sheet (heap_at _ _ _ rfl) (fun i _ => r.one i) ?_; rw [setRow_at _ _ _ _ _ rfl]; replace P0 := Go.Lib.hid (heap_past _ (.cells (vrow 266 r.at) 35) _ _ (row_lt P0.out) P0.out); replace V5 := Go.Lib.hid (heap_past _ (.cells (vrow 266 r.at) 35) _ _ (row_lt V5.out) V5.out); have V7 := Go.Lib.hid (heap_at w7 (.cells (vrow 266 r.at) 35) _ rfl); replace hB := Go.Lib.hid (hB.out.alloc hB.out.size (.cells (vrow 266 r.at) 35)); generalize hbvV7 : w7.heap.size = bV7 at V7 ⊢; generalize w7.alloc _ = W7 at hB V7 P0 V5 ⊢; clear hbvV7)
    | (refine wpList_loadall rfl 35 (.tmp 6) rfl _ rfl 266 r.at 35 _ Tryd.underlying35 rfl size_sheet V7.out ?_)
    | (refine wpList_loadall rfl 35 (.tmp 3) rfl _ rfl 266 r.at 35 _ Tryd.underlying35 rfl size_sheet V5.out ?_)
    | (go_at_call 26; refine (eqSheet_any r _).mono ?_; rintro o w3 ⟨rfl, hb⟩; replace hB := Go.Lib.hid (below_next hB.out hb); clear hb))
  go_ret
  exact ⟨rfl, hB.out⟩
theorem RunU_law0 (s : Sh) (e : ErrE) (w : World) (hE : Errs e w) (hf : s.fit) (hi : okI s = true → InkOk s) : Calls Tryd.prog 12 #[.agg s.row] w fun o w' => o = .returned (.bool true) ∧ Below w.heap.size w w' := by
  cases ho : okI s
  · exact RunU_walk s Sh.zero 0 1 e w hE (fun w => specU_bad s w hf ho) (fun w hE => implU_bad s e w hE ho)
  · obtain ⟨⟨h1, h2, h3, h4⟩, _⟩ := (okI_iff s).1 ho
    exact RunU_walk s _ _ _ e w hE (fun w => specU_ok s s.wide.toNat s.high.toNat w (by omega) (by omega) (by omega) (by omega) hf ho (hi ho)) (fun w hE => implU_ok s s.wide.toNat s.high.toNat e w hE (by omega) (by omega) (by omega) (by omega) hf ho (hi ho))
theorem RunU_law (s : Sh) (e : ErrE) (w : World) (hE : Errs e w) (hf : s.fit) : Calls Tryd.prog 12 #[.agg s.row] w fun o w' => o = .returned (.bool true) ∧ Below w.heap.size w w' := by
  rw [← norm_row s]
  exact RunU_law0 s.norm e w hE (norm_fit hf) inkOk_norm
end Go.Proofs.YtgbhchmpeioaiaaDoor
