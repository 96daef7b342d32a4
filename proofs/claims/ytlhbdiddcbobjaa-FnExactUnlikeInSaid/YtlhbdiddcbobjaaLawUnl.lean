import Derived.Test.YtlhbdiddcbobjaaPUnI
import Derived.Test.YtlhbdiddcbobjaaPO
import Derived.Test.YtlhbdiddcbobjaaQC
namespace Go.Proofs.Ytlhbdiddcbobjaa
open Go.RowKit
set_option maxRecDepth 100000
set_option linter.unusedVariables false
set_option linter.unusedSimpArgs false
set_option maxRecDepth 100000 in
set_option maxHeartbeats 8000000 in
theorem unl_walk (p : Pic) (q : Pic) (n : Nat) (px py : Nat → Int) (c : Int) (w : World) (hn : n ≤ 1048576)
    (hS : ∀ w, Calls Try.prog 9 #[.agg p.row, .agg q.row] w fun o w' => ∃ v, o = .returned (.tuple #[v, .int .i64 c]) ∧ SlP w' v n px py w'.heap.size ∧ Below w.heap.size w w')
    (hI : ∀ w, Calls Try.prog 11 #[.agg p.row, .agg q.row] w fun o w' => ∃ v, o = .returned (.tuple #[v, .int .i64 c]) ∧ PO w' v n px py w.heap.size ∧ Below w.heap.size w w') :
    Calls Try.prog 4 #[.agg p.row, .agg q.row] w fun o w' => o = .returned (.bool true) ∧ Below w.heap.size w w' := by
  have HT0 := Go.Lib.hid fun w => toPicture_any p w
  have HT1 := Go.Lib.hid fun w => toPicture_any q w
  have HS := Go.Lib.hid hS
  have HI := Go.Lib.hid hI
  have HE := Go.Lib.hid fun v1 v2 L1 L2 w h1 h2 => eqP_any v1 v2 n L1 L2 px py w hn h1 h2
  have HM := Go.Lib.hid fun v B w hB h => markPO v n px py B w hn hB h
  have HH := Go.Lib.hid fun v w h => heldMO v n w hn h
  have hq : decide ((1 : Int) + (n : Int) * 2 < 0) = false := by simp; omega
  clear hS hI
  have E0 : Hid True := Go.Lib.hid trivial
  have G0 : Hid True := Go.Lib.hid trivial
  have hB : Hid (Below w.heap.size w ((w.alloc (.cells (vrow 66 p.at) 31)).alloc (.cells (vrow 66 q.at) 31))) := Go.Lib.hid (((Below.refl w.heap.size w).alloc (by simp <;> omega) _).alloc (by simp <;> omega) _)
  have P0 : Hid (((w.alloc (.cells (vrow 66 p.at) 31)).alloc (.cells (vrow 66 q.at) 31)).heap[w.heap.size]? = some (.cells (vrow 66 p.at) 31)) := (heap_past _ _ _ _ (by simp <;> omega) (heap_at _ _ _ (by simp)))
  have P1 : Hid (((w.alloc (.cells (vrow 66 p.at) 31)).alloc (.cells (vrow 66 q.at) 31)).heap[w.heap.size + 1]? = some (.cells (vrow 66 q.at) 31)) := (heap_at _ _ _ (by simp))
  go_enter Try.func4, Try.ntmps4
  go_wp2
  refine region_qc 4 (by kernel_rfl) (by kernel_rfl) ?_
  intro W hW
  rw [hW] at hB P0 P1
  (try rw [hW] at S5)
  (try rw [hW] at P7)
  (try rw [hW] at M7)
  (try rw [hW] at HX)
  clear hW
  simp only [List.take_succ_cons, List.take_zero, List.drop_succ_cons, List.drop_zero]
  have P0' := Go.Lib.hid (cls_row' P0.out); have P1' := Go.Lib.hid (cls_row' P1.out)
  (refine wpQuiet_loadmid 31 (.tmp 2) rfl (by first | exact want_n rfl | exact want_g _ _ _ rfl rfl rfl) (w.heap.size) _ rfl 66 66 p.at _ rw_lpic size_lpic P0'.out (by omega) ?_; rw [pic_row]; simp only [Act.put, List.setIfInBounds_toArray, List.set_cons_succ, List.set_cons_zero])
  go_big_quiet_step ((go_at_call 10; exact cls_call _ (fun w hw => HT0.out w)))
  (refine wpQuiet_loadmid 31 (.tmp 3) rfl (by first | exact want_n rfl | exact want_g _ _ _ rfl rfl rfl) (w.heap.size + 1) _ rfl 66 66 q.at _ rw_lpic size_lpic P1'.out (by omega) ?_; rw [pic_row]; simp only [Act.put, List.setIfInBounds_toArray, List.set_cons_succ, List.set_cons_zero])
  go_big_quiet_step ((go_at_call 10; exact cls_call _ (fun w hw => HT1.out w)))
  refine wpQuiet_nil ?_
  intro Wn hb
  (try (replace S5 := Go.Lib.hid (S5.out.next hb))); (try (replace P7 := Go.Lib.hid (P7.out.next hb))); (try (replace M7 := Go.Lib.hid (M7.out.next hb))); (try (replace P11 := Go.Lib.hid (P11.out.next hb))); (try (replace HX := Go.Lib.hid (Nat.le_trans HX.out hb.size)))
  replace P0 := Go.Lib.hid (row_next hb P0.out); replace P1 := Go.Lib.hid (row_next hb P1.out); replace hB := Go.Lib.hid (below_next hB.out hb)
  clear hb P0' P1'
  refine wpOp_callV (R := fun u w' => ∃ v, u = .tuple #[v, .int .i64 c] ∧ SlP w' v n px py w'.heap.size ∧ Below Wn.heap.size Wn w') rfl rfl ((HS.out _).mono fun o w' ⟨v, h1, h2⟩ => ⟨_, h1, v, rfl, h2⟩) (by kernel_rfl) ?_
  rintro _ w3 ⟨v5, rfl, hS5, hb⟩
  (try (replace S5 := Go.Lib.hid (S5.out.next hb))); (try (replace P7 := Go.Lib.hid (P7.out.next hb))); (try (replace M7 := Go.Lib.hid (M7.out.next hb))); (try (replace P11 := Go.Lib.hid (P11.out.next hb))); (try (replace HX := Go.Lib.hid (Nat.le_trans HX.out hb.size)))
  replace P0 := Go.Lib.hid (row_next hb P0.out); replace P1 := Go.Lib.hid (row_next hb P1.out); replace hB := Go.Lib.hid (below_next hB.out hb)
  clear hb
  have S5 := Go.Lib.hid hS5
  clear hS5
  simp only [Act.put, List.setIfInBounds_toArray, List.set_cons_succ, List.set_cons_zero]
  repeat still_step
  refine wpStill_nil ?_
  go_wp2_with (first
    | go_skip
    | (go_at_call 12; replace E0 := E0.out; clear E0; (refine (HE.out _ _ _ _ _ P7.out.slp S5.out).mono ?_); rintro o w8 ⟨rfl, hb⟩; (try (replace S5 := Go.Lib.hid (S5.out.next hb))); (try (replace P7 := Go.Lib.hid (P7.out.next hb))); (try (replace M7 := Go.Lib.hid (M7.out.next hb))); (try (replace P11 := Go.Lib.hid (P11.out.next hb))); (try (replace HX := Go.Lib.hid (Nat.le_trans HX.out hb.size))); replace P0 := Go.Lib.hid (row_next hb P0.out); replace P1 := Go.Lib.hid (row_next hb P1.out); replace hB := Go.Lib.hid (below_next hB.out hb); clear hb)
    | (go_at_call 12; (refine (HE.out _ _ _ _ _ P11.out.slp S5.out).mono ?_); rintro o w8 ⟨rfl, hb⟩; (try (replace S5 := Go.Lib.hid (S5.out.next hb))); (try (replace P7 := Go.Lib.hid (P7.out.next hb))); (try (replace M7 := Go.Lib.hid (M7.out.next hb))); (try (replace P11 := Go.Lib.hid (P11.out.next hb))); (try (replace HX := Go.Lib.hid (Nat.le_trans HX.out hb.size))); replace P0 := Go.Lib.hid (row_next hb P0.out); replace P1 := Go.Lib.hid (row_next hb P1.out); replace hB := Go.Lib.hid (below_next hB.out hb); clear hb)
    | (go_at_call 13; (refine (HM.out _ _ _ HX.out P7.out).mono ?_); rintro o w9 ⟨rfl, hM, hb⟩; replace S5 := Go.Lib.hid (S5.out.below hb); replace P0 := Go.Lib.hid (row_below hb (by omega) P0.out); replace P1 := Go.Lib.hid (row_below hb (by omega) P1.out); replace hB := Go.Lib.hid (hB.out.trans (hb.mono (by omega))); replace HX := Go.Lib.hid (Nat.le_trans HX.out hb.size); clear P7 hb; have M7 := Go.Lib.hid hM; clear hM)
    | (go_at_call 14; (refine (HH.out _ _ M7.out).mono ?_); rintro o w10 ⟨rfl, hb⟩; (try (replace S5 := Go.Lib.hid (S5.out.next hb))); (try (replace P7 := Go.Lib.hid (P7.out.next hb))); (try (replace M7 := Go.Lib.hid (M7.out.next hb))); (try (replace P11 := Go.Lib.hid (P11.out.next hb))); (try (replace HX := Go.Lib.hid (Nat.le_trans HX.out hb.size))); replace P0 := Go.Lib.hid (row_next hb P0.out); replace P1 := Go.Lib.hid (row_next hb P1.out); replace hB := Go.Lib.hid (below_next hB.out hb); clear hb))
  refine region_qc 4 (by kernel_rfl) (by kernel_rfl) ?_
  intro W hW
  rw [hW] at hB P0 P1
  (try rw [hW] at S5)
  (try rw [hW] at P7)
  (try rw [hW] at M7)
  (try rw [hW] at HX)
  clear hW
  simp only [List.take_succ_cons, List.take_zero, List.drop_succ_cons, List.drop_zero]
  have P0' := Go.Lib.hid (cls_row' P0.out); have P1' := Go.Lib.hid (cls_row' P1.out)
  (refine wpQuiet_loadmid 31 (.tmp 2) rfl (by first | exact want_n rfl | exact want_g _ _ _ rfl rfl rfl) (w.heap.size) _ rfl 66 66 p.at _ rw_lpic size_lpic P0'.out (by omega) ?_; rw [pic_row]; simp only [Act.put, List.setIfInBounds_toArray, List.set_cons_succ, List.set_cons_zero])
  go_big_quiet_step ((go_at_call 10; exact cls_call _ (fun w hw => HT0.out w)))
  (refine wpQuiet_loadmid 31 (.tmp 3) rfl (by first | exact want_n rfl | exact want_g _ _ _ rfl rfl rfl) (w.heap.size + 1) _ rfl 66 66 q.at _ rw_lpic size_lpic P1'.out (by omega) ?_; rw [pic_row]; simp only [Act.put, List.setIfInBounds_toArray, List.set_cons_succ, List.set_cons_zero])
  go_big_quiet_step ((go_at_call 10; exact cls_call _ (fun w hw => HT1.out w)))
  refine wpQuiet_nil ?_
  intro Wn hb
  (try (replace S5 := Go.Lib.hid (S5.out.next hb))); (try (replace P7 := Go.Lib.hid (P7.out.next hb))); (try (replace M7 := Go.Lib.hid (M7.out.next hb))); (try (replace P11 := Go.Lib.hid (P11.out.next hb))); (try (replace HX := Go.Lib.hid (Nat.le_trans HX.out hb.size)))
  replace P0 := Go.Lib.hid (row_next hb P0.out); replace P1 := Go.Lib.hid (row_next hb P1.out); replace hB := Go.Lib.hid (below_next hB.out hb)
  clear hb P0' P1'
  refine wpOp_callV (R := fun u w' => ∃ v, u = .tuple #[v, .int .i64 c] ∧ PO w' v n px py Wn.heap.size ∧ Below Wn.heap.size Wn w') rfl rfl ((HI.out _).mono fun o w' ⟨v, h1, h2⟩ => ⟨_, h1, v, rfl, h2⟩) (by kernel_rfl) ?_
  have hPB := row_lt P1.out
  rintro _ w6 ⟨v7, rfl, hP7, hb⟩
  have HX := Go.Lib.hid hb.size
  replace S5 := Go.Lib.hid (S5.out.now.next hb)
  replace P0 := Go.Lib.hid (row_next hb P0.out); replace P1 := Go.Lib.hid (row_next hb P1.out); replace hB := Go.Lib.hid (below_next hB.out hb)
  clear hb
  have P7 := Go.Lib.hid hP7
  clear hP7
  generalize Wn.heap.size = B7 at P7 S5 HX hPB ⊢
  simp only [Act.put, List.setIfInBounds_toArray, List.set_cons_succ, List.set_cons_zero]
  repeat still_step
  refine wpStill_nil ?_
  go_wp2_with (first
    | go_skip
    | (go_at_call 12; replace E0 := E0.out; clear E0; (refine (HE.out _ _ _ _ _ P7.out.slp S5.out).mono ?_); rintro o w8 ⟨rfl, hb⟩; (try (replace S5 := Go.Lib.hid (S5.out.next hb))); (try (replace P7 := Go.Lib.hid (P7.out.next hb))); (try (replace M7 := Go.Lib.hid (M7.out.next hb))); (try (replace P11 := Go.Lib.hid (P11.out.next hb))); (try (replace HX := Go.Lib.hid (Nat.le_trans HX.out hb.size))); replace P0 := Go.Lib.hid (row_next hb P0.out); replace P1 := Go.Lib.hid (row_next hb P1.out); replace hB := Go.Lib.hid (below_next hB.out hb); clear hb)
    | (go_at_call 12; (refine (HE.out _ _ _ _ _ P11.out.slp S5.out).mono ?_); rintro o w8 ⟨rfl, hb⟩; (try (replace S5 := Go.Lib.hid (S5.out.next hb))); (try (replace P7 := Go.Lib.hid (P7.out.next hb))); (try (replace M7 := Go.Lib.hid (M7.out.next hb))); (try (replace P11 := Go.Lib.hid (P11.out.next hb))); (try (replace HX := Go.Lib.hid (Nat.le_trans HX.out hb.size))); replace P0 := Go.Lib.hid (row_next hb P0.out); replace P1 := Go.Lib.hid (row_next hb P1.out); replace hB := Go.Lib.hid (below_next hB.out hb); clear hb)
    | (go_at_call 13; (refine (HM.out _ _ _ HX.out P7.out).mono ?_); rintro o w9 ⟨rfl, hM, hb⟩; replace S5 := Go.Lib.hid (S5.out.below hb); replace P0 := Go.Lib.hid (row_below hb (by omega) P0.out); replace P1 := Go.Lib.hid (row_below hb (by omega) P1.out); replace hB := Go.Lib.hid (hB.out.trans (hb.mono (by omega))); replace HX := Go.Lib.hid (Nat.le_trans HX.out hb.size); clear P7 hb; have M7 := Go.Lib.hid hM; clear hM)
    | (go_at_call 14; (refine (HH.out _ _ M7.out).mono ?_); rintro o w10 ⟨rfl, hb⟩; (try (replace S5 := Go.Lib.hid (S5.out.next hb))); (try (replace P7 := Go.Lib.hid (P7.out.next hb))); (try (replace M7 := Go.Lib.hid (M7.out.next hb))); (try (replace P11 := Go.Lib.hid (P11.out.next hb))); (try (replace HX := Go.Lib.hid (Nat.le_trans HX.out hb.size))); replace P0 := Go.Lib.hid (row_next hb P0.out); replace P1 := Go.Lib.hid (row_next hb P1.out); replace hB := Go.Lib.hid (below_next hB.out hb); clear hb))
  refine region_qc 4 (by kernel_rfl) (by kernel_rfl) ?_
  intro W hW
  rw [hW] at hB P0 P1
  (try rw [hW] at S5)
  (try rw [hW] at P7)
  (try rw [hW] at M7)
  (try rw [hW] at HX)
  clear hW
  simp only [List.take_succ_cons, List.take_zero, List.drop_succ_cons, List.drop_zero]
  have P0' := Go.Lib.hid (cls_row' P0.out); have P1' := Go.Lib.hid (cls_row' P1.out)
  (refine wpQuiet_loadmid 31 (.tmp 2) rfl (by first | exact want_n rfl | exact want_g _ _ _ rfl rfl rfl) (w.heap.size) _ rfl 66 66 p.at _ rw_lpic size_lpic P0'.out (by omega) ?_; rw [pic_row]; simp only [Act.put, List.setIfInBounds_toArray, List.set_cons_succ, List.set_cons_zero])
  go_big_quiet_step ((go_at_call 10; exact cls_call _ (fun w hw => HT0.out w)))
  (refine wpQuiet_loadmid 31 (.tmp 3) rfl (by first | exact want_n rfl | exact want_g _ _ _ rfl rfl rfl) (w.heap.size + 1) _ rfl 66 66 q.at _ rw_lpic size_lpic P1'.out (by omega) ?_; rw [pic_row]; simp only [Act.put, List.setIfInBounds_toArray, List.set_cons_succ, List.set_cons_zero])
  go_big_quiet_step ((go_at_call 10; exact cls_call _ (fun w hw => HT1.out w)))
  refine wpQuiet_nil ?_
  intro Wn hb
  (try (replace S5 := Go.Lib.hid (S5.out.next hb))); (try (replace P7 := Go.Lib.hid (P7.out.next hb))); (try (replace M7 := Go.Lib.hid (M7.out.next hb))); (try (replace P11 := Go.Lib.hid (P11.out.next hb))); (try (replace HX := Go.Lib.hid (Nat.le_trans HX.out hb.size)))
  replace P0 := Go.Lib.hid (row_next hb P0.out); replace P1 := Go.Lib.hid (row_next hb P1.out); replace hB := Go.Lib.hid (below_next hB.out hb)
  clear hb P0' P1'
  refine wpOp_callV (R := fun u w' => ∃ v, u = .tuple #[v, .int .i64 c] ∧ PO w' v n px py Wn.heap.size ∧ Below Wn.heap.size Wn w') rfl rfl ((HI.out _).mono fun o w' ⟨v, h1, h2⟩ => ⟨_, h1, v, rfl, h2⟩) (by kernel_rfl) ?_
  rintro _ w7 ⟨v11, rfl, hP11, hb⟩
  (try (replace S5 := Go.Lib.hid (S5.out.next hb))); (try (replace P7 := Go.Lib.hid (P7.out.next hb))); (try (replace M7 := Go.Lib.hid (M7.out.next hb))); (try (replace P11 := Go.Lib.hid (P11.out.next hb))); (try (replace HX := Go.Lib.hid (Nat.le_trans HX.out hb.size)))
  replace P0 := Go.Lib.hid (row_next hb P0.out); replace P1 := Go.Lib.hid (row_next hb P1.out); replace hB := Go.Lib.hid (below_next hB.out hb)
  clear hb
  have P11 := Go.Lib.hid hP11
  clear hP11
  simp only [Act.put, List.setIfInBounds_toArray, List.set_cons_succ, List.set_cons_zero]
  repeat still_step
  refine wpStill_nil ?_
  go_wp2_with (first
    | go_skip
    | (go_at_call 12; replace E0 := E0.out; clear E0; (refine (HE.out _ _ _ _ _ P7.out.slp S5.out).mono ?_); rintro o w8 ⟨rfl, hb⟩; (try (replace S5 := Go.Lib.hid (S5.out.next hb))); (try (replace P7 := Go.Lib.hid (P7.out.next hb))); (try (replace M7 := Go.Lib.hid (M7.out.next hb))); (try (replace P11 := Go.Lib.hid (P11.out.next hb))); (try (replace HX := Go.Lib.hid (Nat.le_trans HX.out hb.size))); replace P0 := Go.Lib.hid (row_next hb P0.out); replace P1 := Go.Lib.hid (row_next hb P1.out); replace hB := Go.Lib.hid (below_next hB.out hb); clear hb)
    | (go_at_call 12; (refine (HE.out _ _ _ _ _ P11.out.slp S5.out).mono ?_); rintro o w8 ⟨rfl, hb⟩; (try (replace S5 := Go.Lib.hid (S5.out.next hb))); (try (replace P7 := Go.Lib.hid (P7.out.next hb))); (try (replace M7 := Go.Lib.hid (M7.out.next hb))); (try (replace P11 := Go.Lib.hid (P11.out.next hb))); (try (replace HX := Go.Lib.hid (Nat.le_trans HX.out hb.size))); replace P0 := Go.Lib.hid (row_next hb P0.out); replace P1 := Go.Lib.hid (row_next hb P1.out); replace hB := Go.Lib.hid (below_next hB.out hb); clear hb)
    | (go_at_call 13; (refine (HM.out _ _ _ HX.out P7.out).mono ?_); rintro o w9 ⟨rfl, hM, hb⟩; replace S5 := Go.Lib.hid (S5.out.below hb); replace P0 := Go.Lib.hid (row_below hb (by omega) P0.out); replace P1 := Go.Lib.hid (row_below hb (by omega) P1.out); replace hB := Go.Lib.hid (hB.out.trans (hb.mono (by omega))); replace HX := Go.Lib.hid (Nat.le_trans HX.out hb.size); clear P7 hb; have M7 := Go.Lib.hid hM; clear hM)
    | (go_at_call 14; (refine (HH.out _ _ M7.out).mono ?_); rintro o w10 ⟨rfl, hb⟩; (try (replace S5 := Go.Lib.hid (S5.out.next hb))); (try (replace P7 := Go.Lib.hid (P7.out.next hb))); (try (replace M7 := Go.Lib.hid (M7.out.next hb))); (try (replace P11 := Go.Lib.hid (P11.out.next hb))); (try (replace HX := Go.Lib.hid (Nat.le_trans HX.out hb.size))); replace P0 := Go.Lib.hid (row_next hb P0.out); replace P1 := Go.Lib.hid (row_next hb P1.out); replace hB := Go.Lib.hid (below_next hB.out hb); clear hb))
  go_ret
  exact ⟨rfl, hB.out⟩
theorem unl_law (p q : Pic) (w : World) (hf : p.fit) (hg : q.fit) : Calls Try.prog 4 #[.agg p.row, .agg q.row] w fun o w' => o = .returned (.bool true) ∧ Below w.heap.size w w' := by
  have po0 : ∀ (W : World) (B : Nat) (px py : Nat → Int), PO W (.slice none 0 0) 0 px py B := fun W B px py => ⟨none, 0, rfl, .inl rfl⟩
  by_cases hb : okP p = false ∨ (okP p = true ∧ okP q = false)
  · exact unl_walk p q 0 (fun _ => 0) (fun _ => 0) 1 w (by omega) (fun w => specUnl_bad p q _ _ w hf hg hb) (fun w => (implUnl_bad p q w hf hg hb).mono fun o w' ⟨h1, h2⟩ => ⟨_, h1, po0 _ _ _ _, h2⟩)
  · have h1 : okP p = true := by cases h : okP p <;> simp_all
    have h2 : okP q = true := by cases h : okP q <;> simp_all
    cases h : ((p.wide == q.wide) && (p.high == q.high))
    · have hd : p.wide ≠ q.wide ∨ (p.wide = q.wide ∧ p.high ≠ q.high) := by
        by_cases hw : p.wide = q.wide
        · exact .inr ⟨hw, fun e => by simp [hw, e] at h⟩
        · exact .inl hw
      exact unl_walk p q 0 (fun _ => 0) (fun _ => 0) 4 w (by omega) (fun w => specUnl_state p q _ _ w hf hg h1 h2 hd) (fun w => (implUnl_state p q w hf hg h1 h2 h).mono fun o w' ⟨h1, h2⟩ => ⟨_, h1, po0 _ _ _ _, h2⟩)
    · obtain ⟨a, c, ea, ec, ha, hc⟩ := okP_natU h1
      have he : p.wide = q.wide ∧ p.high = q.high := by simpa using h
      have hlen : (fl (unl p q) (cellsL a c)).length ≤ 1048576 := by
        refine Nat.le_trans (fl_len _ _) ?_
        rw [cellsL_length]
        exact Nat.le_trans (Nat.mul_le_mul ha.2 hc.2) (by omega)
      exact unl_walk p q _ (lx (fl (unl p q) (cellsL a c))) (ly (fl (unl p q) (cellsL a c))) 0 w hlen
        (fun w => (specUnl_ok p q a c w hf hg h1 h2 he.1 he.2 ea ec ha hc).mono fun o w' ⟨v, g1, g2, g3⟩ => ⟨v, g1, (own_po g2).slp, g3⟩)
        (fun w => (implUnl_ok p q a c w hf hg h1 h2 h ea ec ha.2 hc.2).mono fun o w' ⟨v, g1, g2, g3⟩ => ⟨v, g1, own_po g2, g3⟩)
end Go.Proofs.Ytlhbdiddcbobjaa
