import Derived.Test.YtlhbdiddcbobjaaDoorPCk
import Derived.Test.YtlhbdiddcbobjaaDoorPCntI
import Derived.Test.YtlhbdiddcbobjaaDoorSamePic
namespace Go.Proofs.YtlhbdiddcbobjaaDoor
open Go.RowKit
set_option maxRecDepth 100000
set_option linter.unusedVariables false
set_option linter.unusedSimpArgs false
theorem pinkS_any (n : Int) (w : World) : Calls Tryd.prog 65 #[.int .i64 n] w fun e w' => e = .returned (.bool (inkB n)) ∧ Below w.heap.size w w' := by
  have HI : Hid (∀ w, Calls Tryd.prog 75 #[.int .i64 n, .int .i64 0, .int .i64 2] w fun e w' => e = .returned (.bool (inkB n)) ∧ Below w.heap.size w w') := Go.Lib.hid fun w => by
    by_cases h : 0 ≤ n ∧ n ≤ 2
    · rw [show inkB n = true by simp [inkB]; omega]; exact in_yes _ _ _ h.1 h.2 w
    · rw [show inkB n = false by simp [inkB]; omega]; exact in_no _ _ _ (by omega) w
  have hB := Go.Lib.hid (Below.refl w.heap.size w)
  go_enter Tryd.func65, Tryd.ntmps65
  go_wp2_with (first
    | go_skip
    | (go_at_call 75; (refine (HI.out _).mono ?_); rintro o w1 ⟨rfl, hb⟩; replace hB := Go.Lib.hid (below_next hB.out hb); clear hb))
  go_ret
  exact ⟨rfl, hB.out⟩
/-- the picture's size, as natural numbers -/
theorem okP_nat {p : Pic} (h : okP p = true) : ∃ a c : Nat, p.wide = a ∧ p.high = c ∧ (1 ≤ a ∧ a ≤ 8) ∧ (1 ≤ c ∧ c ≤ 8) := by
  obtain ⟨h1, h2, h3, h4⟩ := okP_size h
  exact ⟨p.wide.toNat, p.high.toNat, by omega, by omega, by omega, by omega⟩
theorem okP_ink {p : Pic} (hf : p.fit) (h : okP p = true) (i : Nat) (hi : i < 64) : 0 ≤ p.ink i ∧ p.ink i ≤ 3 := by
  have h1 := okP_place h (x := i % 8) (y := i / 8) (by omega) (by omega)
  simp only [placeP, Bool.and_eq_true, decide_eq_true_eq] at h1
  rw [show 8 * (i / 8) + i % 8 = i by omega] at h1
  exact ⟨(hf.ink i hi).1, h1.1⟩
theorem idx_5f (f : Nat → Value) : (∀ w, (Instr.index 98 (.agg (vrow 5 f)) (.int .i64 1)).run Tryd.prog w = .ok (f 1) w) ∧ (∀ w, (Instr.index 98 (.agg (vrow 5 f)) (.int .i64 2)).run Tryd.prog w = .ok (f 2) w) ∧ (∀ w, (Instr.index 98 (.agg (vrow 5 f)) (.int .i64 3)).run Tryd.prog w = .ok (f 3) w) :=
  ⟨fun _ => by kernel_rfl, fun _ => by kernel_rfl, fun _ => by kernel_rfl⟩
theorem idx_5 {p : Pic} (l : List Sp8) (n : Int) (h : inkB n = true) (w : World) : (Instr.index 98 (.agg (vrow 5 (cntF p l))) (.int .i64 (n + 1))).run Tryd.prog w = .ok (.int .i64 (cnt p (n + 1) l)) w := by
  simp only [inkB, Bool.and_eq_true, decide_eq_true_eq] at h
  obtain ⟨i1, i2, i3⟩ := idx_5f (cntF p l)
  have : n = 0 ∨ n = 1 ∨ n = 2 := by omega
  rcases this with rfl | rfl | rfl
  · exact i1 w
  · exact i2 w
  · exact i3 w
/-- the model's answer where it refuses -/
theorem specCnt_err (p : Pic) (n : Int) (k : Int) (hf : p.fit) (h : (okP p = false ∧ k = 1) ∨ (okP p = true ∧ inkB n = false ∧ k = 2)) (w : World) : Calls Tryd.prog 35 #[.agg p.row, .int .i64 n] w fun e w' => e = .returned (.tuple #[.int .i64 0, .int .i64 k]) ∧ Below w.heap.size w w' := by
  have HO := Go.Lib.hid (okP_from w p w.heap.size (w.alloc (.cells (vrow 66 p.at) 32)) (heap_at _ _ _ rfl) hf ((Below.refl w.heap.size w).alloc (by simp <;> omega) _))
  have HI := Go.Lib.hid fun w => pinkS_any n w
  rcases h with ⟨h1, rfl⟩ | ⟨h1, h2, rfl⟩
  · rw [h1] at HO
    go_enter Tryd.func35, Tryd.ntmps35
    go_wp2_with (go_at_call 46; (refine HO.out.mono ?_; rintro e w1 ⟨rfl, hb⟩; have HB := Go.Lib.hid hb; clear hb))
    go_ret2
    exact ⟨rfl, HB.out⟩
  · rw [h1] at HO; rw [h2] at HI
    go_enter Tryd.func35, Tryd.ntmps35
    go_wp2_with (first
      | (go_at_call 46; (refine HO.out.mono ?_; rintro e w1 ⟨rfl, hb⟩; have HB := Go.Lib.hid hb; clear hb))
      | (go_at_call 65; (refine (HI.out _).mono ?_; rintro e w2 ⟨rfl, hb⟩; replace HB := Go.Lib.hid (below_next HB.out hb); clear hb)))
    go_ret2
    exact ⟨rfl, HB.out⟩
theorem specCnt_ok (p : Pic) (n : Int) (a c : Nat) (hf : p.fit) (h1 : okP p = true) (h2 : inkB n = true) (ea : p.wide = a) (ec : p.high = c) (ha : 1 ≤ a ∧ a ≤ 8) (hc : 1 ≤ c ∧ c ≤ 8) (w : World) : Calls Tryd.prog 35 #[.agg p.row, .int .i64 n] w fun e w' => e = .returned (.tuple #[.int .i64 (cnt p (n + 1) (cellsL a c)), .int .i64 0]) ∧ Below w.heap.size w w' := by
  have HO := Go.Lib.hid fun w' h => okP_from w' p w.heap.size w' h hf (Below.refl _ _)
  rw [h1] at HO
  have HI := Go.Lib.hid fun w => pinkS_any n w
  rw [h2] at HI
  have HC := Go.Lib.hid fun w' hs => lcount_any p w.heap.size a c (n + 1) w' hs ea ec ha hc
  simp only [inkB, Bool.and_eq_true, decide_eq_true_eq] at h2
  obtain ⟨g1, g2⟩ := h2
  have hB : Hid (Below w.heap.size w (w.alloc (.cells (vrow 66 p.at) 32))) := ((Below.refl w.heap.size w).alloc (by simp <;> omega) _)
  have P : Hid ((w.alloc (.cells (vrow 66 p.at) 32)).heap[(w.heap.size)]? = some (.cells (vrow 66 p.at) 32)) := heap_at _ _ _ (by simp)
  go_enter Tryd.func35, Tryd.ntmps35
  go_wp2_with (first
    | (go_at_call 46; (refine (HO.out _ P.out).mono ?_; rintro e w1 ⟨rfl, hb⟩; replace P := Go.Lib.hid (row_next hb P.out); replace hB := Go.Lib.hid (below_next hB.out hb); clear hb))
    | (go_at_call 65; (refine (HI.out _).mono ?_; rintro e w2 ⟨rfl, hb⟩; replace P := Go.Lib.hid (row_next hb P.out); replace hB := Go.Lib.hid (below_next hB.out hb); clear hb))
    | (go_at_call 66; (refine (HC.out _ P.out).mono ?_; rintro e w3 ⟨rfl, hb⟩; replace P := Go.Lib.hid (row_next hb P.out); replace hB := Go.Lib.hid (below_next hB.out hb); clear hb)))
  go_ret2
  exact ⟨rfl, hB.out⟩
theorem implCnt_err (p : Pic) (n : Int) (k : Int) (hf : p.fit) (h : (okP p = false ∧ k = 1) ∨ (okP p = true ∧ inkB n = false ∧ k = 2)) (e : ErrE) (w : World) (hE : Errs e w) : Calls Tryd.prog 36 #[.agg p.row, .int .i64 n] w fun o w' => o = .returned (.tuple #[.int .i64 0, .int .i64 k]) ∧ Below w.heap.size w w' := by
  obtain ⟨v, HC, HD⟩ : ∃ v, Hid (∀ w, Errs e w → Calls Tryd.prog 67 #[.agg p.row, .int .i64 n] w fun o w' => o = .returned (errP e v) ∧ Below w.heap.size w w') ∧ Hid (∀ w, Errs e w → Calls Tryd.prog 51 #[errP e v] w fun o w' => o = .returned (.int .i64 k) ∧ Below w.heap.size w w') := by
    rcases h with ⟨h1, rfl⟩ | ⟨h1, h2, rfl⟩
    · exact ⟨1, Go.Lib.hid fun w hE => ckShown_bad p n hf h1 e w hE, Go.Lib.hid fun w hE => codeOf_1 e w hE⟩
    · exact ⟨2, Go.Lib.hid fun w hE => ckShown_rng p n hf h1 h2 e w hE, Go.Lib.hid fun w hE => codeOf_2 e w hE⟩
  clear h
  have hB : Hid (Below w.heap.size w (w.alloc (.cells (vrow 66 p.at) 32))) := ((Below.refl w.heap.size w).alloc (by simp <;> omega) _)
  have P : Hid ((w.alloc (.cells (vrow 66 p.at) 32)).heap[(w.heap.size)]? = some (.cells (vrow 66 p.at) 32)) := heap_at _ _ _ (by simp)
  have E : Hid (Errs e (w.alloc (.cells (vrow 66 p.at) 32))) := hE.alloc _
  go_enter Tryd.func36, Tryd.ntmps36
  go_wp2_with (first
    | go_skip
    | ((with_reducible refine wlAt 7 rfl ?_); refine wpList_ldm 32 _ rfl (by first | exact want_n rfl | exact want_g _ _ _ rfl rfl rfl) (w.heap.size) _ rfl 66 66 p.at _ rw_pic size_pic P.out (by omega) ?_; rw [pic_row])
    | (go_at_call 67; (refine (HC.out _ E.out).mono ?_; rintro o w1 ⟨rfl, hb⟩; replace P := Go.Lib.hid (row_next hb P.out); replace hB := Go.Lib.hid (below_next hB.out hb); replace E := Go.Lib.hid (E.out.next hb); clear hb))
    | (go_at_call 51; (refine (HD.out _ E.out).mono ?_; rintro o w2 ⟨rfl, hb⟩; replace P := Go.Lib.hid (row_next hb P.out); replace hB := Go.Lib.hid (below_next hB.out hb); replace E := Go.Lib.hid (E.out.next hb); clear hb)))
  go_ret2
  exact ⟨rfl, hB.out⟩
theorem implCnt_ok (p : Pic) (n : Int) (a c : Nat) (hf : p.fit) (h1 : okP p = true) (h2 : inkB n = true) (ea : p.wide = a) (ec : p.high = c) (ha : 1 ≤ a ∧ a ≤ 8) (hc : 1 ≤ c ∧ c ≤ 8) (e : ErrE) (w : World) (hE : Errs e w) : Calls Tryd.prog 36 #[.agg p.row, .int .i64 n] w fun o w' => o = .returned (.tuple #[.int .i64 (cnt p (n + 1) (cellsL a c)), .int .i64 0]) ∧ Below w.heap.size w w' := by
  have HC := Go.Lib.hid fun w hE => ckShown_ok p n hf h1 h2 e w hE
  have HN := Go.Lib.hid fun w => counts_any p a c w ea ec ha.2 hc.2 fun i hi => ⟨(okP_ink hf h1 i hi).1, by have := (okP_ink hf h1 i hi).2; omega⟩
  have hix : ∀ w, (Instr.index 98 (.agg (vrow 5 (cntF p (cellsL a c)))) (.int .i64 (n + 1))).run Tryd.prog w = .ok (.int .i64 (cnt p (n + 1) (cellsL a c))) w := fun w => idx_5 _ n h2 w
  simp only [inkB, Bool.and_eq_true, decide_eq_true_eq] at h2
  obtain ⟨g1, g2⟩ := h2
  have hB : Hid (Below w.heap.size w (w.alloc (.cells (vrow 66 p.at) 32))) := ((Below.refl w.heap.size w).alloc (by simp <;> omega) _)
  have P : Hid ((w.alloc (.cells (vrow 66 p.at) 32)).heap[(w.heap.size)]? = some (.cells (vrow 66 p.at) 32)) := heap_at _ _ _ (by simp)
  have E : Hid (Errs e (w.alloc (.cells (vrow 66 p.at) 32))) := hE.alloc _
  go_enter Tryd.func36, Tryd.ntmps36
  go_wp2_with (first
    | go_skip
    | ((first | (with_reducible refine wlAt 7 rfl ?_) | (with_reducible refine wlAt 14 rfl ?_)); refine wpList_ldm 32 _ rfl (by first | exact want_n rfl | exact want_g _ _ _ rfl rfl rfl) (w.heap.size) _ rfl 66 66 p.at _ rw_pic size_pic P.out (by omega) ?_; rw [pic_row])
    | (go_at_call 67; (refine (HC.out _ E.out).mono ?_; rintro o w1 ⟨rfl, hb⟩; replace P := Go.Lib.hid (row_next hb P.out); replace hB := Go.Lib.hid (below_next hB.out hb); replace E := Go.Lib.hid (E.out.next hb); clear hb))
    | (go_at_call 68; (refine (HN.out _).mono ?_; rintro o w2 ⟨rfl, hb⟩; replace P := Go.Lib.hid (row_next hb P.out); replace hB := Go.Lib.hid (below_next hB.out hb); replace E := Go.Lib.hid (E.out.next hb); clear hb)))
  go_ret2
  exact ⟨rfl, hB.out⟩
theorem cnt_walk (p : Pic) (n r k : Int) (e : ErrE) (w : World) (hE : Errs e w)
    (hS : ∀ w, Calls Tryd.prog 35 #[.agg p.row, .int .i64 n] w fun o w' => o = .returned (.tuple #[.int .i64 r, .int .i64 k]) ∧ Below w.heap.size w w')
    (hI : ∀ w, Errs e w → Calls Tryd.prog 36 #[.agg p.row, .int .i64 n] w fun o w' => o = .returned (.tuple #[.int .i64 r, .int .i64 k]) ∧ Below w.heap.size w w') :
    Calls Tryd.prog 8 #[.agg p.row, .int .i64 n] w fun o w' => o = .returned (.bool true) ∧ Below w.heap.size w w' := by
  have HT := Go.Lib.hid fun w => toPicture_any p w
  have HS := Go.Lib.hid hS
  have HI := Go.Lib.hid hI
  clear hS hI
  have hB : Hid (Below w.heap.size w (w.alloc (.cells (vrow 66 p.at) 26))) := (Below.refl w.heap.size w).alloc (by simp <;> omega) _
  have P : Hid ((w.alloc (.cells (vrow 66 p.at) 26)).heap[w.heap.size]? = some (.cells (vrow 66 p.at) 26)) := heap_at _ _ _ rfl
  have E : Hid (Errs e (w.alloc (.cells (vrow 66 p.at) 26))) := hE.alloc _
  go_enter Tryd.func8, Tryd.ntmps8
  go_wp2_with (first
    | go_skip
    | ((first | (with_reducible refine wlAt 10 rfl ?_) | (with_reducible refine wlAt 17 rfl ?_)); refine wpList_ldm 26 _ rfl (by first | exact want_n rfl | exact want_g _ _ _ rfl rfl rfl) (w.heap.size) _ rfl 66 66 p.at _ rw_lpic size_lpic P.out (by omega) ?_; rw [pic_row])
    | (go_at_call 13; (refine (HT.out _).mono ?_; rintro o w1 ⟨rfl, hb⟩; replace P := Go.Lib.hid (row_next hb P.out); replace hB := Go.Lib.hid (below_next hB.out hb); replace E := Go.Lib.hid (E.out.next hb); clear hb))
    | (go_at_call 35; (refine (HS.out _).mono ?_; rintro o w1 ⟨rfl, hb⟩; replace P := Go.Lib.hid (row_next hb P.out); replace hB := Go.Lib.hid (below_next hB.out hb); replace E := Go.Lib.hid (E.out.next hb); clear hb))
    | (go_at_call 36; (refine (HI.out _ E.out).mono ?_; rintro o w1 ⟨rfl, hb⟩; replace P := Go.Lib.hid (row_next hb P.out); replace hB := Go.Lib.hid (below_next hB.out hb); replace E := Go.Lib.hid (E.out.next hb); clear hb)))
  go_ret
  exact ⟨rfl, hB.out⟩
theorem cnt_law (p : Pic) (n : Int) (e : ErrE) (w : World) (hE : Errs e w) (hf : p.fit) : Calls Tryd.prog 8 #[.agg p.row, .int .i64 n] w fun o w' => o = .returned (.bool true) ∧ Below w.heap.size w w' := by
  cases h1 : okP p
  · exact cnt_walk p n 0 1 e w hE (fun w => specCnt_err p n 1 hf (.inl ⟨h1, rfl⟩) w) (fun w hE => implCnt_err p n 1 hf (.inl ⟨h1, rfl⟩) e w hE)
  · cases h2 : inkB n
    · exact cnt_walk p n 0 2 e w hE (fun w => specCnt_err p n 2 hf (.inr ⟨h1, h2, rfl⟩) w) (fun w hE => implCnt_err p n 2 hf (.inr ⟨h1, h2, rfl⟩) e w hE)
    · obtain ⟨a, c, ea, ec, ha, hc⟩ := okP_nat h1
      exact cnt_walk p n _ 0 e w hE (fun w => specCnt_ok p n a c hf h1 h2 ea ec ha hc w) (fun w hE => implCnt_ok p n a c hf h1 h2 ea ec ha hc e w hE)
end Go.Proofs.YtlhbdiddcbobjaaDoor
