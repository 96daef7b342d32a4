import Derived.Test.YtlhbdiddcbobjaaDoorPSten
namespace Go.Proofs.YtlhbdiddcbobjaaDoor
open Go.RowKit
set_option maxRecDepth 100000
set_option linter.unusedVariables false
set_option linter.unusedSimpArgs false
set_option maxHeartbeats 1000000 in
theorem implSten_err (p : Pic) (n : Int) (k : Int) (hf : p.fit) (h : (okP p = false ∧ k = 1) ∨ (okP p = true ∧ inkB n = false ∧ k = 2)) (e : ErrE) (w : World) (hE : Errs e w) : Calls Tryd.prog 44 #[.agg p.row, .int .i64 n] w fun o w' => o = .returned (.tuple #[.agg (vrow 8 (rowF zrow)), .int .i64 k]) ∧ Below w.heap.size w w' := by
  have zz := pzero_x8
  obtain ⟨v, HC, HD⟩ : ∃ v, Hid (∀ w, Errs e w → Calls Tryd.prog 67 #[.agg p.row, .int .i64 n] w fun o w' => o = .returned (errP e v) ∧ Below w.heap.size w w') ∧ Hid (∀ w, Errs e w → Calls Tryd.prog 51 #[errP e v] w fun o w' => o = .returned (.int .i64 k) ∧ Below w.heap.size w w') := by
    rcases h with ⟨h1, rfl⟩ | ⟨h1, h2, rfl⟩
    · exact ⟨1, Go.Lib.hid fun w hE => ckShown_bad p n hf h1 e w hE, Go.Lib.hid fun w hE => codeOf_1 e w hE⟩
    · exact ⟨2, Go.Lib.hid fun w hE => ckShown_rng p n hf h1 h2 e w hE, Go.Lib.hid fun w hE => codeOf_2 e w hE⟩
  clear h
  have P : Hid (((w.alloc (.cells (vrow 66 p.at) 32)).alloc (.cells (vrow 8 (rowF zrow)) 23)).heap[w.heap.size]? = some (.cells (vrow 66 p.at) 32)) := heap_past _ _ _ _ (by simp <;> omega) (heap_at _ _ _ (by simp))
  have Z : Hid (((w.alloc (.cells (vrow 66 p.at) 32)).alloc (.cells (vrow 8 (rowF zrow)) 23)).heap[w.heap.size + 1]? = some (.cells (vrow 8 (rowF zrow)) 23)) := heap_at _ _ _ (by simp)
  have hB : Hid (Below w.heap.size w ((w.alloc (.cells (vrow 66 p.at) 32)).alloc (.cells (vrow 8 (rowF zrow)) 23))) := (((Below.refl w.heap.size w).alloc (by simp <;> omega) _).alloc (by simp <;> omega) _)
  have E : Hid (Errs e ((w.alloc (.cells (vrow 66 p.at) 32)).alloc (.cells (vrow 8 (rowF zrow)) 23))) := (hE.alloc _).alloc _
  go_enter Tryd.func44, Tryd.ntmps44
  go_wp2_with (first
    | go_skip
    | ((with_reducible refine wlAt 7 rfl ?_); refine wpList_ldm 32 _ rfl (by first | exact want_n rfl | exact want_g _ _ _ rfl rfl rfl) (w.heap.size) _ rfl 66 66 p.at _ rw_pic size_pic P.out (by omega) ?_; rw [pic_row])
    | ((with_reducible refine wlAt 12 rfl ?_); refine wpList_built rfl 23 [] rfl [] (by rfl) _ pbuilt_x8 ?_)
    | ((with_reducible refine wlOp (.store 23 (.tmp 4) (.tmp 12)) rfl ?_); refine wpList_storeall rfl 23 (.tmp 4) (.tmp 12) rfl (w.heap.size + 1) rfl 8 (rowF zrow) (rowF zrow) rfl 23 size_x8 Z.out (fun _ _ => rfl) ?_; replace Z := Go.Lib.hid (row_set Z.out (vrow 8 (rowF zrow))); replace hB := Go.Lib.hid (Below_setRow hB.out (show w.heap.size ≤ w.heap.size + 1 by omega) (vrow 8 (rowF zrow))))
    | (go_at_call 67; (refine (HC.out _ E.out).mono ?_; rintro o w1 ⟨rfl, hb⟩; replace P := Go.Lib.hid (row_next hb P.out); replace Z := Go.Lib.hid (row_next hb Z.out); replace hB := Go.Lib.hid (below_next hB.out hb); replace E := Go.Lib.hid (E.out.next hb); clear hb))
    | (go_at_call 51; (refine (HD.out _ E.out).mono ?_; rintro o w2 ⟨rfl, hb⟩; replace P := Go.Lib.hid (row_next hb P.out); replace Z := Go.Lib.hid (row_next hb Z.out); replace hB := Go.Lib.hid (below_next hB.out hb); replace E := Go.Lib.hid (E.out.next hb); clear hb)))
  exact ret_row2 Tryd.results44 (w.heap.size + 1) 8 (rowF zrow) 23 _ Tryd.underlying23 rfl size_x8 (.int .i64 k) rfl rfl rfl Z.out ⟨rfl, hB.out⟩
set_option maxHeartbeats 1000000 in
theorem implSten_ok (p : Pic) (n : Int) (a c : Nat) (hf : p.fit) (h1 : okP p = true) (h2 : inkB n = true) (ea : p.wide = a) (ec : p.high = c) (ha : 1 ≤ a ∧ a ≤ 8) (hc : 1 ≤ c ∧ c ≤ 8) (e : ErrE) (w : World) (hE : Errs e w) : Calls Tryd.prog 44 #[.agg p.row, .int .i64 n] w fun o w' => o = .returned (.tuple #[.agg (vrow 8 (rowF (stL p (n + 1) (cellsL a c)))), .int .i64 0]) ∧ Below w.heap.size w w' := by
  have zz := pzero_x8
  have HC := Go.Lib.hid fun w hE => ckShown_ok p n hf h1 h2 e w hE
  have HN := Go.Lib.hid fun w => stencil_any p (n + 1) a c w ea ec ha.2 hc.2
  simp only [inkB, Bool.and_eq_true, decide_eq_true_eq] at h2
  obtain ⟨g1, g2⟩ := h2
  generalize stL p (n + 1) (cellsL a c) = M at *
  have P : Hid (((w.alloc (.cells (vrow 66 p.at) 32)).alloc (.cells (vrow 8 (rowF zrow)) 23)).heap[w.heap.size]? = some (.cells (vrow 66 p.at) 32)) := heap_past _ _ _ _ (by simp <;> omega) (heap_at _ _ _ (by simp))
  have Z : Hid (((w.alloc (.cells (vrow 66 p.at) 32)).alloc (.cells (vrow 8 (rowF zrow)) 23)).heap[w.heap.size + 1]? = some (.cells (vrow 8 (rowF zrow)) 23)) := heap_at _ _ _ (by simp)
  have hB : Hid (Below w.heap.size w ((w.alloc (.cells (vrow 66 p.at) 32)).alloc (.cells (vrow 8 (rowF zrow)) 23))) := (((Below.refl w.heap.size w).alloc (by simp <;> omega) _).alloc (by simp <;> omega) _)
  have E : Hid (Errs e ((w.alloc (.cells (vrow 66 p.at) 32)).alloc (.cells (vrow 8 (rowF zrow)) 23))) := (hE.alloc _).alloc _
  go_enter Tryd.func44, Tryd.ntmps44
  go_wp2_with (first
    | go_skip
    | ((first | (with_reducible refine wlAt 7 rfl ?_) | (with_reducible refine wlAt 15 rfl ?_)); refine wpList_ldm 32 _ rfl (by first | exact want_n rfl | exact want_g _ _ _ rfl rfl rfl) (w.heap.size) _ rfl 66 66 p.at _ rw_pic size_pic P.out (by omega) ?_; rw [pic_row])
    | ((with_reducible refine wlOp (.store 23 (.tmp 4) (.tmp 19)) rfl ?_); refine wpList_storeall rfl 23 (.tmp 4) (.tmp 19) rfl (w.heap.size + 1) rfl 8 (rowF zrow) (rowF M) rfl 23 size_x8 Z.out (fun _ _ => rfl) ?_; replace Z := Go.Lib.hid (row_set Z.out (vrow 8 (rowF M))); replace hB := Go.Lib.hid (Below_setRow hB.out (show w.heap.size ≤ w.heap.size + 1 by omega) (vrow 8 (rowF M))))
    | (go_at_call 67; (refine (HC.out _ E.out).mono ?_; rintro o w1 ⟨rfl, hb⟩; replace P := Go.Lib.hid (row_next hb P.out); replace Z := Go.Lib.hid (row_next hb Z.out); replace hB := Go.Lib.hid (below_next hB.out hb); replace E := Go.Lib.hid (E.out.next hb); clear hb))
    | (go_at_call 74; (refine (HN.out _).mono ?_; rintro o w2 ⟨rfl, hb⟩; replace P := Go.Lib.hid (row_next hb P.out); replace Z := Go.Lib.hid (row_next hb Z.out); replace hB := Go.Lib.hid (below_next hB.out hb); replace E := Go.Lib.hid (E.out.next hb); clear hb)))
  exact ret_row2 Tryd.results44 (w.heap.size + 1) 8 (rowF M) 23 _ Tryd.underlying23 rfl size_x8 (.int .i64 0) rfl rfl rfl Z.out ⟨rfl, hB.out⟩
set_option maxHeartbeats 2000000 in
theorem sten_walk (p : Pic) (n k : Int) (g : Nat → Int) (e : ErrE) (w : World) (hE : Errs e w)
    (hS : ∀ w, Calls Tryd.prog 43 #[.agg p.row, .int .i64 n] w fun o w' => o = .returned (.tuple #[.agg (vrow 8 (rowF g)), .int .i64 k]) ∧ Below w.heap.size w w')
    (hI : ∀ w, Errs e w → Calls Tryd.prog 44 #[.agg p.row, .int .i64 n] w fun o w' => o = .returned (.tuple #[.agg (vrow 8 (rowF g)), .int .i64 k]) ∧ Below w.heap.size w w') :
    Calls Tryd.prog 11 #[.agg p.row, .int .i64 n] w fun o w' => o = .returned (.bool true) ∧ Below w.heap.size w w' := by
  have zz := pzero_x8
  have HT := Go.Lib.hid fun w => toPicture_any p w
  have HS := Go.Lib.hid hS
  have HI := Go.Lib.hid hI
  have HQ : Hid (∀ w, Calls Tryd.prog 45 #[.agg (vrow 8 (rowF g)), .agg (vrow 8 (rowF g))] w fun e w' => e = .returned (.bool true) ∧ Below w.heap.size w w') := Go.Lib.hid fun w => eqByteA8_any g w
  clear hS hI
  have hB : Hid (Below w.heap.size w (w.alloc (.cells (vrow 66 p.at) 26))) := (Below.refl w.heap.size w).alloc (by simp <;> omega) _
  have P : Hid ((w.alloc (.cells (vrow 66 p.at) 26)).heap[w.heap.size]? = some (.cells (vrow 66 p.at) 26)) := heap_at _ _ _ rfl
  have E : Hid (Errs e (w.alloc (.cells (vrow 66 p.at) 26))) := hE.alloc _
  go_enter Tryd.func11, Tryd.ntmps11
  go_wp2_with (first
    | go_skip
    | ((first | (with_reducible refine wlAt 10 rfl ?_) | (with_reducible refine wlAt 17 rfl ?_)); refine wpList_ldm 26 _ rfl (by first | exact want_n rfl | exact want_g _ _ _ rfl rfl rfl) (w.heap.size) _ rfl 66 66 p.at _ rw_lpic size_lpic P.out (by omega) ?_; rw [pic_row])
    | ((with_reducible refine wlOp (.store 23 (.tmp 5) (.tmp 14)) rfl ?_); refine wpList_storeall rfl 23 (.tmp 5) (.tmp 14) rfl _ rfl 8 (rowF zrow) (rowF g) rfl 23 size_x8 (heap_at _ _ _ rfl) (fun _ _ => rfl) ?_; rw [setRow_at _ _ _ _ _ rfl]; have S5 := Go.Lib.hid (heap_at w2 (.cells (vrow 8 (rowF g)) 23) _ rfl); replace P := Go.Lib.hid (heap_past w2 (.cells (vrow 8 (rowF g)) 23) _ _ (row_lt P.out) P.out); replace E := Go.Lib.hid (E.out.alloc (.cells (vrow 8 (rowF g)) 23)); replace hB := Go.Lib.hid (hB.out.alloc hB.out.size (.cells (vrow 8 (rowF g)) 23)))
    | ((with_reducible refine wlOp (.store 23 (.tmp 7) (.tmp 21)) rfl ?_); refine wpList_storeall rfl 23 (.tmp 7) (.tmp 21) rfl _ rfl 8 (rowF zrow) (rowF g) rfl 23 size_x8 (heap_at _ _ _ rfl) (fun _ _ => rfl) ?_; rw [setRow_at _ _ _ _ _ rfl]; have S7 := Go.Lib.hid (heap_at w4 (.cells (vrow 8 (rowF g)) 23) _ rfl); replace S5 := Go.Lib.hid (heap_past w4 (.cells (vrow 8 (rowF g)) 23) _ _ (row_lt S5.out) S5.out); replace hB := Go.Lib.hid (hB.out.alloc hB.out.size (.cells (vrow 8 (rowF g)) 23)); clear P E)
    | ((with_reducible refine wlAt 23 rfl ?_); refine wpList_ldm 23 _ rfl (by first | exact want_n rfl | exact want_g _ _ _ rfl rfl rfl) _ _ rfl 8 8 (rowF g) _ rwr_x8 size_x8 S7.out (by omega) ?_; simp only [Nat.zero_add])
    | ((with_reducible refine wlAt 24 rfl ?_); refine wpList_ldm 23 _ rfl (by first | exact want_n rfl | exact want_g _ _ _ rfl rfl rfl) _ _ rfl 8 8 (rowF g) _ rwr_x8 size_x8 S5.out (by omega) ?_; simp only [Nat.zero_add])
    | (go_at_call 13; (refine (HT.out _).mono ?_; rintro o w1 ⟨rfl, hb⟩; replace P := Go.Lib.hid (row_next hb P.out); replace hB := Go.Lib.hid (below_next hB.out hb); replace E := Go.Lib.hid (E.out.next hb); (try (replace S5 := Go.Lib.hid (row_next hb S5.out))); (try (replace S7 := Go.Lib.hid (row_next hb S7.out))); clear hb))
    | (go_at_call 43; (refine (HS.out _).mono ?_; rintro o w2 ⟨rfl, hb⟩; replace P := Go.Lib.hid (row_next hb P.out); replace hB := Go.Lib.hid (below_next hB.out hb); replace E := Go.Lib.hid (E.out.next hb); (try (replace S5 := Go.Lib.hid (row_next hb S5.out))); (try (replace S7 := Go.Lib.hid (row_next hb S7.out))); clear hb))
    | (go_at_call 44; (refine (HI.out _ E.out).mono ?_; rintro o w4 ⟨rfl, hb⟩; replace P := Go.Lib.hid (row_next hb P.out); replace hB := Go.Lib.hid (below_next hB.out hb); replace E := Go.Lib.hid (E.out.next hb); (try (replace S5 := Go.Lib.hid (row_next hb S5.out))); (try (replace S7 := Go.Lib.hid (row_next hb S7.out))); clear hb))
    | (go_at_call 45; (refine (HQ.out _).mono ?_; rintro o w5 ⟨rfl, hb⟩; replace hB := Go.Lib.hid (below_next hB.out hb); clear hb)))
  go_ret
  exact ⟨rfl, hB.out⟩
theorem sten_law (p : Pic) (n : Int) (e : ErrE) (w : World) (hE : Errs e w) (hf : p.fit) : Calls Tryd.prog 11 #[.agg p.row, .int .i64 n] w fun o w' => o = .returned (.bool true) ∧ Below w.heap.size w w' := by
  cases h1 : okP p
  · exact sten_walk p n 1 _ e w hE (fun w => specSten_err p n 1 hf (.inl ⟨h1, rfl⟩) w) (fun w hE => implSten_err p n 1 hf (.inl ⟨h1, rfl⟩) e w hE)
  · cases h2 : inkB n
    · exact sten_walk p n 2 _ e w hE (fun w => specSten_err p n 2 hf (.inr ⟨h1, h2, rfl⟩) w) (fun w hE => implSten_err p n 2 hf (.inr ⟨h1, h2, rfl⟩) e w hE)
    · obtain ⟨a, c, ea, ec, ha, hc⟩ := okP_nat h1
      exact sten_walk p n 0 _ e w hE (fun w => specSten_ok p n a c hf h1 h2 ea ec ha hc w) (fun w hE => implSten_ok p n a c hf h1 h2 ea ec ha hc e w hE)
end Go.Proofs.YtlhbdiddcbobjaaDoor
