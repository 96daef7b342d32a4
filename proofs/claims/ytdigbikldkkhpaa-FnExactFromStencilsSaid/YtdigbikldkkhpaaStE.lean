import Derived.Test.YtdigbikldkkhpaaStD
namespace Go.Proofs.Ytdigbikldkkhpaa
open Go.RowKit
set_option maxRecDepth 100000
set_option linter.unusedVariables false
set_option linter.unusedSimpArgs false
theorem rw_x24 : (Try.prog.underlying 23).map (·.isRow) = some true := by kernel_rfl
theorem size_x24 : (Try.prog.info? 23).map (·.size) = some 24 := by kernel_rfl
theorem s24_row (st : Nat → Int) : vrow 24 (fun i => s24 st (0 + i)) = vrow 24 (s24 st) := vrow_ext _ _ _ fun i _ => by rw [Nat.zero_add]
theorem zero_x8S : ∀ w, (zeroValue 22).run Try.prog w = .ok (.agg (vrow 8 (s24 fun _ => 0))) w := fun _ => by kernel_rfl
theorem s24_one (st : Nat → Int) (i : Nat) : (s24 st i).oneCell' = true := rfl
set_option maxHeartbeats 4000000 in
theorem specSt_no (a c : Int) (st : Nat → Int) (w : World) (h : a < 1 ∨ 8 < a ∨ c < 1 ∨ 8 < c) : Calls Try.prog 4 #[.int .i64 a, .int .i64 c, .agg (vrow 24 (s24 st))] w fun o w' => o = .returned (.tuple #[.agg Pic.zero.row, .int .i64 2]) ∧ Below w.heap.size w w' := by
  have HBl : Hid (∀ w, Calls Try.prog 8 #[.int .i64 a, .int .i64 c] w fun e w' => e = .returned (.tuple #[.agg Pic.zero.row, .int .i64 2]) ∧ Below w.heap.size w w') := Go.Lib.hid fun w => by
    by_cases ha : a < 1 ∨ 8 < a
    · exact specBlank_no1 a c w ha
    · exact specBlank_no2 a c w (by omega) (by omega) (by omega)
  have zz := zero_pic
  have G : Hid (((w.alloc (.cells (vrow 24 (s24 st)) 23)).alloc (.cells (vrow 66 Pic.zero.at) 27)).heap[w.heap.size]? = some (.cells (vrow 24 (s24 st)) 23)) := heap_past _ _ _ _ (by simp <;> omega) (heap_at _ _ _ (by simp))
  have Z : Hid (((w.alloc (.cells (vrow 24 (s24 st)) 23)).alloc (.cells (vrow 66 Pic.zero.at) 27)).heap[w.heap.size + 1]? = some (.cells (vrow 66 Pic.zero.at) 27)) := heap_at _ _ _ (by simp)
  have hB : Hid (Below w.heap.size w ((w.alloc (.cells (vrow 24 (s24 st)) 23)).alloc (.cells (vrow 66 Pic.zero.at) 27))) := Go.Lib.hid (((Below.refl w.heap.size w).alloc (by simp <;> omega) _).alloc (by simp <;> omega) _)
  go_enter Try.func4, Try.ntmps4
  go_wp2_with (first
    | go_skip
    | (go_at_call 8; (refine (HBl.out _).mono ?_); rintro o w1 ⟨rfl, hb⟩; replace G := Go.Lib.hid (row_next hb G.out); replace Z := Go.Lib.hid (row_next hb Z.out); replace hB := Go.Lib.hid (below_next hB.out hb); clear hb)
    | ((with_reducible refine wlOp (.store 27 (.tmp 8) (.tmp 17)) rfl ?_); refine wpList_storeall rfl 27 (.tmp 8) (.tmp 17) rfl _ rfl 66 Pic.zero.at (Pic.zero).at rfl 27 size_pic (heap_at _ _ _ rfl) (fun i _ => Pic.one _ i) ?_; rw [setRow_at _ _ _ _ _ rfl]; have V := Go.Lib.hid (heap_at w1 (.cells (vrow 66 (Pic.zero).at) 27) _ rfl); have nG := row_lt G.out; replace G := Go.Lib.hid (heap_past _ (.cells (vrow 66 (Pic.zero).at) 27) _ _ nG G.out); have nZ := row_lt Z.out; replace Z := Go.Lib.hid (heap_past _ (.cells (vrow 66 (Pic.zero).at) 27) _ _ nZ Z.out); replace hB := Go.Lib.hid (hB.out.alloc hB.out.size (.cells (vrow 66 (Pic.zero).at) 27)); generalize w1.heap.size = pb at V nG nZ ⊢; generalize w1.alloc _ = w1' at G Z V hB ⊢)
    | ((with_reducible refine wlAt 21 rfl ?_); refine wpList_built rfl 27 [] rfl [] (by rfl) _ built_zpic ?_)
    | ((with_reducible refine wlOp (.store 27 (.tmp 6) (.tmp 21)) rfl ?_); refine wpList_storeall rfl 27 (.tmp 6) (.tmp 21) rfl (w.heap.size + 1) rfl 66 Pic.zero.at (Pic.zero).at rfl 27 size_pic Z.out (fun i _ => Pic.one _ i) ?_; replace Z := Go.Lib.hid (row_set Z.out (vrow 66 (Pic.zero).at)); replace hB := Go.Lib.hid (Below_setRow hB.out (show w.heap.size ≤ w.heap.size + 1 by omega) (vrow 66 (Pic.zero).at))))
  exact ret_row2 Try.results4 (w.heap.size + 1) 66 (Pic.zero).at 27 _ Try.underlying27 rfl size_pic (.int .i64 2) rfl rfl rfl Z.out ⟨rfl, hB.out⟩
set_option maxHeartbeats 4000000 in
theorem implSt_no (a c : Int) (st : Nat → Int) (w : World) (h : a < 1 ∨ 8 < a ∨ c < 1 ∨ 8 < c) : Calls Try.prog 6 #[.int .i64 a, .int .i64 c, .agg (vrow 24 (s24 st))] w fun o w' => o = .returned (.tuple #[.agg Pic.zero.row, .int .i64 2]) ∧ Below w.heap.size w w' := by
  have HBl := Go.Lib.hid fun w => implBlank_no a c w h
  have zz := zero_pic
  have G : Hid (((w.alloc (.cells (vrow 24 (s24 st)) 23)).alloc (.cells (vrow 66 Pic.zero.at) 27)).heap[w.heap.size]? = some (.cells (vrow 24 (s24 st)) 23)) := heap_past _ _ _ _ (by simp <;> omega) (heap_at _ _ _ (by simp))
  have Z : Hid (((w.alloc (.cells (vrow 24 (s24 st)) 23)).alloc (.cells (vrow 66 Pic.zero.at) 27)).heap[w.heap.size + 1]? = some (.cells (vrow 66 Pic.zero.at) 27)) := heap_at _ _ _ (by simp)
  have hB : Hid (Below w.heap.size w ((w.alloc (.cells (vrow 24 (s24 st)) 23)).alloc (.cells (vrow 66 Pic.zero.at) 27))) := Go.Lib.hid (((Below.refl w.heap.size w).alloc (by simp <;> omega) _).alloc (by simp <;> omega) _)
  go_enter Try.func6, Try.ntmps6
  go_wp2_with (first
    | go_skip
    | (go_at_call 11; (refine (HBl.out _).mono ?_); rintro o w1 ⟨rfl, hb⟩; replace G := Go.Lib.hid (row_next hb G.out); replace Z := Go.Lib.hid (row_next hb Z.out); replace hB := Go.Lib.hid (below_next hB.out hb); clear hb)
    | ((with_reducible refine wlOp (.store 27 (.tmp 8) (.tmp 16)) rfl ?_); refine wpList_storeall rfl 27 (.tmp 8) (.tmp 16) rfl _ rfl 66 Pic.zero.at (Pic.zero).at rfl 27 size_pic (heap_at _ _ _ rfl) (fun i _ => Pic.one _ i) ?_; rw [setRow_at _ _ _ _ _ rfl]; have V := Go.Lib.hid (heap_at w1 (.cells (vrow 66 (Pic.zero).at) 27) _ rfl); have nG := row_lt G.out; replace G := Go.Lib.hid (heap_past _ (.cells (vrow 66 (Pic.zero).at) 27) _ _ nG G.out); have nZ := row_lt Z.out; replace Z := Go.Lib.hid (heap_past _ (.cells (vrow 66 (Pic.zero).at) 27) _ _ nZ Z.out); replace hB := Go.Lib.hid (hB.out.alloc hB.out.size (.cells (vrow 66 (Pic.zero).at) 27)); generalize w1.heap.size = pb at V nG nZ ⊢; generalize w1.alloc _ = w1' at G Z V hB ⊢)
    | ((with_reducible refine wlAt 25 rfl ?_); refine wpList_built rfl 27 [] rfl [] (by rfl) _ built_zpic ?_)
    | ((with_reducible refine wlOp (.store 27 (.tmp 6) (.tmp 25)) rfl ?_); refine wpList_storeall rfl 27 (.tmp 6) (.tmp 25) rfl (w.heap.size + 1) rfl 66 Pic.zero.at (Pic.zero).at rfl 27 size_pic Z.out (fun i _ => Pic.one _ i) ?_; replace Z := Go.Lib.hid (row_set Z.out (vrow 66 (Pic.zero).at)); replace hB := Go.Lib.hid (Below_setRow hB.out (show w.heap.size ≤ w.heap.size + 1 by omega) (vrow 66 (Pic.zero).at))))
  exact ret_row2 Try.results6 (w.heap.size + 1) 66 (Pic.zero).at 27 _ Try.underlying27 rfl size_pic (.int .i64 2) rfl rfl rfl Z.out ⟨rfl, hB.out⟩
set_option maxHeartbeats 4000000 in
theorem implSt_cut (a c : Nat) (st : Nat → Int) (w : World) (ha : 1 ≤ a ∧ a ≤ 8) (hc : 1 ≤ c ∧ c ≤ 8) (HC0 : ∀ w, Calls Try.prog 12 #[.agg (blankPic a c).row, .agg (vrow 24 (s24 st))] w fun e w' => (∃ b, e = .returned (.bool b) ∧ b = true) ∧ Below w.heap.size w w') : Calls Try.prog 6 #[.int .i64 a, .int .i64 c, .agg (vrow 24 (s24 st))] w fun o w' => o = .returned (.tuple #[.agg Pic.zero.row, .int .i64 2]) ∧ Below w.heap.size w w' := by
  have HCB := Go.Lib.hid HC0
  have HBl := Go.Lib.hid fun w => implBlank_yes a c w (by omega) (by omega) (by omega) (by omega)
  have zz := zero_pic
  have G : Hid (((w.alloc (.cells (vrow 24 (s24 st)) 23)).alloc (.cells (vrow 66 Pic.zero.at) 27)).heap[w.heap.size]? = some (.cells (vrow 24 (s24 st)) 23)) := heap_past _ _ _ _ (by simp <;> omega) (heap_at _ _ _ (by simp))
  have Z : Hid (((w.alloc (.cells (vrow 24 (s24 st)) 23)).alloc (.cells (vrow 66 Pic.zero.at) 27)).heap[w.heap.size + 1]? = some (.cells (vrow 66 Pic.zero.at) 27)) := heap_at _ _ _ (by simp)
  have hB : Hid (Below w.heap.size w ((w.alloc (.cells (vrow 24 (s24 st)) 23)).alloc (.cells (vrow 66 Pic.zero.at) 27))) := Go.Lib.hid (((Below.refl w.heap.size w).alloc (by simp <;> omega) _).alloc (by simp <;> omega) _)
  go_enter Try.func6, Try.ntmps6
  go_wp2_with (first
    | go_skip
    | (go_at_call 11; (refine (HBl.out _).mono ?_); rintro o w1 ⟨rfl, hb⟩; replace G := Go.Lib.hid (row_next hb G.out); replace Z := Go.Lib.hid (row_next hb Z.out); replace hB := Go.Lib.hid (below_next hB.out hb); clear hb)
    | ((with_reducible refine wlOp (.store 27 (.tmp 8) (.tmp 16)) rfl ?_); refine wpList_storeall rfl 27 (.tmp 8) (.tmp 16) rfl _ rfl 66 Pic.zero.at (blankPic a c).at rfl 27 size_pic (heap_at _ _ _ rfl) (fun i _ => Pic.one _ i) ?_; rw [setRow_at _ _ _ _ _ rfl]; have V := Go.Lib.hid (heap_at w1 (.cells (vrow 66 (blankPic a c).at) 27) _ rfl); have nG := row_lt G.out; replace G := Go.Lib.hid (heap_past _ (.cells (vrow 66 (blankPic a c).at) 27) _ _ nG G.out); have nZ := row_lt Z.out; replace Z := Go.Lib.hid (heap_past _ (.cells (vrow 66 (blankPic a c).at) 27) _ _ nZ Z.out); replace hB := Go.Lib.hid (hB.out.alloc hB.out.size (.cells (vrow 66 (blankPic a c).at) 27)); generalize w1.heap.size = pb at V nG nZ ⊢; generalize w1.alloc _ = w1' at G Z V hB ⊢)
    | ((with_reducible refine wlAt 21 rfl ?_); refine wpList_ldm 27 _ rfl (by first | exact want_n rfl | exact want_g _ _ _ rfl rfl rfl) pb _ rfl 66 66 (blankPic a c).at _ rw_pic size_pic V.out (by omega) ?_; rw [pic_row])
    | ((with_reducible refine wlAt 22 rfl ?_); refine wpList_ldm 23 _ rfl (by first | exact want_n rfl | exact want_g _ _ _ rfl rfl rfl) w.heap.size _ rfl 24 24 (s24 st) _ rw_x24 size_x24 G.out (by omega) ?_; rw [s24_row])
    | (go_at_call 12; (refine (HCB.out _).mono ?_); rintro o w2 ⟨⟨b, rfl, hbv⟩, hb⟩; obtain rfl := hbv; replace V := Go.Lib.hid (row_next hb V.out); replace G := Go.Lib.hid (row_next hb G.out); replace Z := Go.Lib.hid (row_next hb Z.out); replace hB := Go.Lib.hid (below_next hB.out hb); clear hb)
    | ((with_reducible refine wlAt 25 rfl ?_); refine wpList_built rfl 27 [] rfl [] (by rfl) _ built_zpic ?_)
    | ((with_reducible refine wlOp (.store 27 (.tmp 6) (.tmp 25)) rfl ?_); refine wpList_storeall rfl 27 (.tmp 6) (.tmp 25) rfl (w.heap.size + 1) rfl 66 Pic.zero.at (Pic.zero).at rfl 27 size_pic Z.out (fun i _ => Pic.one _ i) ?_; replace Z := Go.Lib.hid (row_set Z.out (vrow 66 (Pic.zero).at)); replace hB := Go.Lib.hid (Below_setRow hB.out (show w.heap.size ≤ w.heap.size + 1 by omega) (vrow 66 (Pic.zero).at))))
  exact ret_row2 Try.results6 (w.heap.size + 1) 66 (Pic.zero).at 27 _ Try.underlying27 rfl size_pic (.int .i64 2) rfl rfl rfl Z.out ⟨rfl, hB.out⟩
set_option maxHeartbeats 8000000 in
theorem implSt_ok (a c : Nat) (st : Nat → Int) (w : World) (ha : 1 ≤ a ∧ a ≤ 8) (hc : 1 ≤ c ∧ c ≤ 8) (HC0 : ∀ w, Calls Try.prog 12 #[.agg (blankPic a c).row, .agg (vrow 24 (s24 st))] w fun e w' => (∃ b, e = .returned (.bool b) ∧ b = false) ∧ Below w.heap.size w w') : Calls Try.prog 6 #[.int .i64 a, .int .i64 c, .agg (vrow 24 (s24 st))] w fun o w' => o = .returned (.tuple #[.agg (dabA st (blankPic a c) (pairsL a c) 3).row, .int .i64 0]) ∧ Below w.heap.size w w' := by
  have HCB := Go.Lib.hid HC0
  have HBl := Go.Lib.hid fun w => implBlank_yes a c w (by omega) (by omega) (by omega) (by omega)
  have zz := zero_pic
  have z8 := zero_x8S
  have G : Hid (((w.alloc (.cells (vrow 24 (s24 st)) 23)).alloc (.cells (vrow 66 Pic.zero.at) 27)).heap[w.heap.size]? = some (.cells (vrow 24 (s24 st)) 23)) := heap_past _ _ _ _ (by simp <;> omega) (heap_at _ _ _ (by simp))
  have Z : Hid (((w.alloc (.cells (vrow 24 (s24 st)) 23)).alloc (.cells (vrow 66 Pic.zero.at) 27)).heap[w.heap.size + 1]? = some (.cells (vrow 66 Pic.zero.at) 27)) := heap_at _ _ _ (by simp)
  have hB : Hid (Below w.heap.size w ((w.alloc (.cells (vrow 24 (s24 st)) 23)).alloc (.cells (vrow 66 Pic.zero.at) 27))) := Go.Lib.hid (((Below.refl w.heap.size w).alloc (by simp <;> omega) _).alloc (by simp <;> omega) _)
  go_enter Try.func6, Try.ntmps6
  go_wp2_with (first
    | go_skip
    | (go_at_call 11; (refine (HBl.out _).mono ?_); rintro o w1 ⟨rfl, hb⟩; replace G := Go.Lib.hid (row_next hb G.out); replace Z := Go.Lib.hid (row_next hb Z.out); replace hB := Go.Lib.hid (below_next hB.out hb); clear hb)
    | ((with_reducible refine wlOp (.store 27 (.tmp 8) (.tmp 16)) rfl ?_); refine wpList_storeall rfl 27 (.tmp 8) (.tmp 16) rfl _ rfl 66 Pic.zero.at (blankPic a c).at rfl 27 size_pic (heap_at _ _ _ rfl) (fun i _ => Pic.one _ i) ?_; rw [setRow_at _ _ _ _ _ rfl]; have V := Go.Lib.hid (heap_at w1 (.cells (vrow 66 (blankPic a c).at) 27) _ rfl); have nG := row_lt G.out; replace G := Go.Lib.hid (heap_past _ (.cells (vrow 66 (blankPic a c).at) 27) _ _ nG G.out); have nZ := row_lt Z.out; replace Z := Go.Lib.hid (heap_past _ (.cells (vrow 66 (blankPic a c).at) 27) _ _ nZ Z.out); replace hB := Go.Lib.hid (hB.out.alloc hB.out.size (.cells (vrow 66 (blankPic a c).at) 27)); generalize w1.heap.size = pb at V nG nZ ⊢; generalize w1.alloc _ = w1' at G Z V hB ⊢)
    | ((with_reducible refine wlAt 21 rfl ?_); refine wpList_ldm 27 _ rfl (by first | exact want_n rfl | exact want_g _ _ _ rfl rfl rfl) pb _ rfl 66 66 (blankPic a c).at _ rw_pic size_pic V.out (by omega) ?_; rw [pic_row])
    | ((with_reducible refine wlAt 22 rfl ?_); refine wpList_ldm 23 _ rfl (by first | exact want_n rfl | exact want_g _ _ _ rfl rfl rfl) w.heap.size _ rfl 24 24 (s24 st) _ rw_x24 size_x24 G.out (by omega) ?_; rw [s24_row])
    | (go_at_call 12; (refine (HCB.out _).mono ?_); rintro o w2 ⟨⟨b, rfl, hbv⟩, hb⟩; obtain rfl := hbv; replace V := Go.Lib.hid (row_next hb V.out); replace G := Go.Lib.hid (row_next hb G.out); replace Z := Go.Lib.hid (row_next hb Z.out); replace hB := Go.Lib.hid (below_next hB.out hb); clear hb)
    | ((with_reducible refine wlAt 26 rfl ?_); refine wpList_loadall rfl 23 (.tmp 5) rfl w.heap.size rfl 24 (s24 st) 23 _ Try.underlying23 rfl size_x24 G.out ?_))
  have a1 := Z.out; have a2 := V.out; have a3 := hB.out
  clear Z V hB G
  go_loopw [27] (fun iv wr => ∃ k : Nat, k ≤ 3 ∧ iv = .int .i64 k ∧ wr.heap[w.heap.size + 1]? = some (.cells (vrow 66 Pic.zero.at) 27) ∧ wr.heap[pb]? = some (.cells (vrow 66 (dabA st (blankPic a c) (pairsL a c) k).at) 27) ∧ Below w.heap.size w wr) (fun iv _ => 3 - (intOf iv).toNat)
  case atStart => exact ⟨0, by omega, rfl, a1, a2, a3⟩
  case round =>
    clear a1 a2 a3
    obtain ⟨k, hk, rfl, Z, V, hB⟩ := hrel
    by_cases hlt : k < 3
    · have hkI : (k : Int) < 3 := by omega
      have hk0 : (0 : Int) ≤ (k : Int) := by omega
      have hkd : decide ((k : Int) < 3) = true := by simpa using hkI
      have hkw := u8kS k hlt
      have hst : dabA st (blankPic a c) (pairsL a c) (k + 1) = dabK st k (dabA st (blankPic a c) (pairsL a c) k) (pairsL a c) := rfl
      have hwh := dabA_wh st (blankPic a c) (pairsL a c) k
      generalize dabA st (blankPic a c) (pairsL a c) k = pk at *
      have HD0 := fun w => dabbed_any pk (fun y => st (8 * k + y)) ((k : Int) + 1) a c w hwh.1 hwh.2 ha.2 hc.2
      rw [dabG_K, ← hst] at HD0
      have HD := Go.Lib.hid HD0
      have HIX : ∀ w, (Instr.index 23 (.agg (vrow 24 (s24 st))) (.int .i64 (k : Int))).run Try.prog w = .ok (.agg (vrow 8 (s24 fun y => st (8 * k + y)))) w := by
        have h3 : k = 0 ∨ k = 1 ∨ k = 2 := by omega
        rcases h3 with rfl | rfl | rfl <;> exact fun _ => by kernel_rfl
      clear HD0 hst hwh
      replace Z := Go.Lib.hid Z; replace V := Go.Lib.hid V; replace hB := Go.Lib.hid hB
      have FR : vrow 8 (s24 fun y => st (8 * k + y)) = vrow 8 (s24 fun y => st (8 * k + y)) := rfl
      go_wp2_with (first
        | go_skip
        | ((with_reducible refine wlOp (.store 22 (.tmp 11) (.tmp 30)) rfl ?_); refine wpList_storeall rfl 22 (.tmp 11) (.tmp 30) rfl _ rfl 8 (s24 fun _ => 0) (s24 fun y => st (8 * k + y)) rfl 22 size_x8 (heap_at _ _ _ rfl) (fun i _ => s24_one _ i) ?_; rw [setRow_at _ _ _ _ _ rfl]; have X := Go.Lib.hid (heap_at wr (.cells (vrow 8 (s24 fun y => st (8 * k + y))) 22) _ rfl); have nZ := row_lt Z.out; replace Z := Go.Lib.hid (heap_past _ (.cells (vrow 8 (s24 fun y => st (8 * k + y))) 22) _ _ nZ Z.out); have nV := row_lt V.out; replace V := Go.Lib.hid (heap_past _ (.cells (vrow 8 (s24 fun y => st (8 * k + y))) 22) _ _ nV V.out); replace hB := Go.Lib.hid (hB.out.alloc hB.out.size (.cells (vrow 8 (s24 fun y => st (8 * k + y))) 22)); generalize wr.heap.size = xb at X nZ nV ⊢; generalize wr.alloc _ = w4 at Z V X hB ⊢)
        | ((with_reducible refine wlAt 31 rfl ?_); refine wpList_loadall rfl 27 (.tmp 8) rfl pb rfl 66 pk.at 27 _ Try.underlying27 rfl size_pic V.out ?_)
        | ((with_reducible refine wlAt 32 rfl ?_); refine wpList_loadall rfl 22 (.tmp 11) rfl xb rfl 8 (s24 fun y => st (8 * k + y)) 22 _ Try.underlying22 rfl size_x8 X.out ?_)
        | (go_at_call 13; (refine (HD.out _).mono ?_); rintro o w5 ⟨rfl, hb⟩; replace Z := Go.Lib.hid (row_next hb Z.out); replace V := Go.Lib.hid (row_next hb V.out); replace hB := Go.Lib.hid (below_next hB.out hb); clear hb)
        | ((with_reducible refine wlOp (.store 27 (.tmp 8) (.tmp 36)) rfl ?_); refine wpList_storeall rfl 27 (.tmp 8) (.tmp 36) rfl pb rfl 66 pk.at (dabA st (blankPic a c) (pairsL a c) (k + 1)).at rfl 27 size_pic V.out (fun i _ => Pic.one _ i) ?_; replace Z := Go.Lib.hid (row_set' (g := pb) (by omega) Z.out (vrow 66 (dabA st (blankPic a c) (pairsL a c) (k + 1)).at)); replace V := Go.Lib.hid (row_set V.out (vrow 66 (dabA st (blankPic a c) (pairsL a c) (k + 1)).at)); replace hB := Go.Lib.hid (Below_setRow hB.out (show w.heap.size ≤ pb by omega) (vrow 66 (dabA st (blankPic a c) (pairsL a c) (k + 1)).at))))
      go_roundw
      case rel => exact ⟨k + 1, by omega, by go_num, Z.out, V.out, hB.out⟩
      case measure => simp [intOf]; omega
    · obtain rfl : k = 3 := by omega
      have hkd : decide (((3 : Nat) : Int) < 3) = false := by simp
      replace Z := Go.Lib.hid Z; replace V := Go.Lib.hid V; replace hB := Go.Lib.hid hB
      obtain ⟨pk, hpk⟩ : ∃ pk, dabA st (blankPic a c) (pairsL a c) 3 = pk := ⟨_, rfl⟩
      have V0 := V.out
      rw [hpk] at V0
      replace V := Go.Lib.hid V0
      have HPK := Go.Lib.hid hpk
      clear hpk V0
      go_wp2_with (first
        | go_skip
        | ((with_reducible refine wlAt 38 rfl ?_); refine wpList_loadall rfl 27 (.tmp 8) rfl pb rfl 66 pk.at 27 _ Try.underlying27 rfl size_pic V.out ?_)
        | ((with_reducible refine wlOp (.store 27 (.tmp 6) (.tmp 38)) rfl ?_); refine wpList_storeall rfl 27 (.tmp 6) (.tmp 38) rfl (w.heap.size + 1) rfl 66 Pic.zero.at (pk).at rfl 27 size_pic Z.out (fun i _ => Pic.one _ i) ?_; replace Z := Go.Lib.hid (row_set Z.out (vrow 66 (pk).at)); replace hB := Go.Lib.hid (Below_setRow hB.out (show w.heap.size ≤ w.heap.size + 1 by omega) (vrow 66 (pk).at))))
      exact ret_row2 Try.results6 (w.heap.size + 1) 66 (pk).at 27 _ Try.underlying27 rfl size_pic (.int .i64 0) rfl rfl rfl Z.out ⟨by rw [HPK.out], hB.out⟩
end Go.Proofs.Ytdigbikldkkhpaa
