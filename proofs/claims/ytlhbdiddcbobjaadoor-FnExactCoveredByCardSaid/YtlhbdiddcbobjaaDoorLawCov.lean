import Derived.Test.YtlhbdiddcbobjaaDoorCovB
import Derived.Test.YtlhbdiddcbobjaaDoorPO
import Derived.Test.YtlhbdiddcbobjaaDoorQC
namespace Go.Proofs.YtlhbdiddcbobjaaDoor
open Go.RowKit
set_option maxRecDepth 100000
set_option linter.unusedVariables false
set_option linter.unusedSimpArgs false
set_option maxRecDepth 100000 in
set_option maxHeartbeats 8000000 in
theorem cov_walk (p : Pic) (qx qy : Int) (n : Nat) (px py : Nat → Int) (c : Int) (e : ErrE) (w : World) (hE : Errs e w) (hn : n ≤ 1048576)
    (hS : ∀ w, Calls Tryd.prog 12 #[.agg p.row, .agg #[.int .i8 qx, .int .i8 qy]] w fun o w' => ∃ v, o = .returned (.tuple #[v, .int .i64 c]) ∧ SlP w' v n px py w'.heap.size ∧ Below w.heap.size w w')
    (hI : ∀ w, Errs e w → Calls Tryd.prog 15 #[.agg p.row, .agg #[.int .i8 qx, .int .i8 qy]] w fun o w' => ∃ v, o = .returned (.tuple #[v, .int .i64 c]) ∧ PO w' v n px py w.heap.size ∧ Below w.heap.size w w') :
    Calls Tryd.prog 3 #[.agg p.row, .agg #[.int .i8 qx, .int .i8 qy]] w fun o w' => o = .returned (.bool true) ∧ Below w.heap.size w w' := by
  have HT0 := Go.Lib.hid fun w => toPicture_any p w
  have HT1 := Go.Lib.hid fun w => toSpot_any qx qy w
  have HS := Go.Lib.hid hS
  have HI := Go.Lib.hid hI
  have HE := Go.Lib.hid fun v1 v2 L1 L2 w h1 h2 => eqP_any v1 v2 n L1 L2 px py w hn h1 h2
  have HM := Go.Lib.hid fun v B w hB h => markPO v n px py B w hn hB h
  have HH := Go.Lib.hid fun v w h => heldMO v n w hn h
  have hq : decide ((1 : Int) + (n : Int) * 2 < 0) = false := by simp; omega
  clear hS hI
  have E0 : Hid True := Go.Lib.hid trivial
  have G0 : Hid True := Go.Lib.hid trivial
  rw [show (#[.int .i8 qx, .int .i8 qy] : Array Value) = vrow 2 (spAt qx qy) from rfl]
  have hB : Hid (Below w.heap.size w ((w.alloc (.cells (vrow 66 p.at) 26)).alloc (.cells (vrow 2 (spAt qx qy)) 28))) := Go.Lib.hid (((Below.refl w.heap.size w).alloc (by simp <;> omega) _).alloc (by simp <;> omega) _)
  have P0 : Hid (((w.alloc (.cells (vrow 66 p.at) 26)).alloc (.cells (vrow 2 (spAt qx qy)) 28)).heap[w.heap.size]? = some (.cells (vrow 66 p.at) 26)) := (heap_past _ _ _ _ (by simp <;> omega) (heap_at _ _ _ (by simp)))
  have P1 : Hid (((w.alloc (.cells (vrow 66 p.at) 26)).alloc (.cells (vrow 2 (spAt qx qy)) 28)).heap[w.heap.size + 1]? = some (.cells (vrow 2 (spAt qx qy)) 28)) := (heap_at _ _ _ (by simp))
  go_enter Tryd.func3, Tryd.ntmps3
  go_wp2
  refine region_qc 4 (by kernel_rfl) (by kernel_rfl) ?_
  intro W hW
  rw [hW] at hB P0 P1
  (try rw [hW] at S5)
  (try rw [hW] at P7)
  (try rw [hW] at M7)
  (try rw [hW] at HX)
  clear hW
  simp only [List.take_succ_cons, List.take_zero, List.drop_succ_cons, List.drop_zero]
  have P0' := Go.Lib.hid (cls_row' P0.out); have P1' := Go.Lib.hid (cls_row' P1.out)
  (refine wpQuiet_loadmid 26 (.tmp 2) rfl (by first | exact want_n rfl | exact want_g _ _ _ rfl rfl rfl) (w.heap.size) _ rfl 66 66 p.at _ rw_lpic size_lpic P0'.out (by omega) ?_; rw [pic_row]; simp only [Act.put, List.setIfInBounds_toArray, List.set_cons_succ, List.set_cons_zero])
  go_big_quiet_step ((go_at_call 13; exact cls_call _ (fun w hw => HT0.out w)))
  (refine wpQuiet_loadmid 28 (.tmp 3) rfl (by first | exact want_n rfl | exact want_g _ _ _ rfl rfl rfl) (w.heap.size + 1) _ rfl 2 2 (spAt qx qy) _ rw_lspot size_lspot P1'.out (by omega) ?_; rw [sp_row]; simp only [Act.put, List.setIfInBounds_toArray, List.set_cons_succ, List.set_cons_zero])
  go_big_quiet_step ((go_at_call 14; exact cls_call _ (fun w hw => HT1.out w)))
  refine wpQuiet_nil ?_
  intro Wn hb
  (try (replace S5 := Go.Lib.hid (S5.out.next hb))); (try (replace P7 := Go.Lib.hid (P7.out.next hb))); (try (replace M7 := Go.Lib.hid (M7.out.next hb))); (try (replace P11 := Go.Lib.hid (P11.out.next hb))); (try (replace HX := Go.Lib.hid (Nat.le_trans HX.out hb.size)))
  replace P0 := Go.Lib.hid (row_next hb P0.out); replace P1 := Go.Lib.hid (row_next hb P1.out); replace hB := Go.Lib.hid (below_next hB.out hb)
  clear hb P0' P1'
  refine wpOp_callV (R := fun u w' => ∃ v, u = .tuple #[v, .int .i64 c] ∧ SlP w' v n px py w'.heap.size ∧ Below Wn.heap.size Wn w') rfl rfl ((HS.out _).mono fun o w' ⟨v, h1, h2⟩ => ⟨_, h1, v, rfl, h2⟩) (by kernel_rfl) ?_
  rintro _ w3 ⟨v5, rfl, hS5, hb⟩
  (try (replace S5 := Go.Lib.hid (S5.out.next hb))); (try (replace P7 := Go.Lib.hid (P7.out.next hb))); (try (replace M7 := Go.Lib.hid (M7.out.next hb))); (try (replace P11 := Go.Lib.hid (P11.out.next hb))); (try (replace HX := Go.Lib.hid (Nat.le_trans HX.out hb.size)))
  replace P0 := Go.Lib.hid (row_next hb P0.out); replace P1 := Go.Lib.hid (row_next hb P1.out); replace hB := Go.Lib.hid (below_next hB.out hb)
  clear hb
  have S5 := Go.Lib.hid hS5
  clear hS5
  simp only [Act.put, List.setIfInBounds_toArray, List.set_cons_succ, List.set_cons_zero]
  repeat still_step
  refine wpStill_nil ?_
  go_wp2_with (first
    | go_skip
    | (go_at_call 16; replace E0 := E0.out; clear E0; (refine (HE.out _ _ _ _ _ P7.out.slp S5.out).mono ?_); rintro o w8 ⟨rfl, hb⟩; (try (replace S5 := Go.Lib.hid (S5.out.next hb))); (try (replace P7 := Go.Lib.hid (P7.out.next hb))); (try (replace M7 := Go.Lib.hid (M7.out.next hb))); (try (replace P11 := Go.Lib.hid (P11.out.next hb))); (try (replace HX := Go.Lib.hid (Nat.le_trans HX.out hb.size))); replace P0 := Go.Lib.hid (row_next hb P0.out); replace P1 := Go.Lib.hid (row_next hb P1.out); replace hB := Go.Lib.hid (below_next hB.out hb); clear hb)
    | (go_at_call 16; (refine (HE.out _ _ _ _ _ P11.out.slp S5.out).mono ?_); rintro o w8 ⟨rfl, hb⟩; (try (replace S5 := Go.Lib.hid (S5.out.next hb))); (try (replace P7 := Go.Lib.hid (P7.out.next hb))); (try (replace M7 := Go.Lib.hid (M7.out.next hb))); (try (replace P11 := Go.Lib.hid (P11.out.next hb))); (try (replace HX := Go.Lib.hid (Nat.le_trans HX.out hb.size))); replace P0 := Go.Lib.hid (row_next hb P0.out); replace P1 := Go.Lib.hid (row_next hb P1.out); replace hB := Go.Lib.hid (below_next hB.out hb); clear hb)
    | (go_at_call 17; (refine (HM.out _ _ _ HX.out P7.out).mono ?_); rintro o w9 ⟨rfl, hM, hb⟩; replace S5 := Go.Lib.hid (S5.out.below hb); replace P0 := Go.Lib.hid (row_below hb (by omega) P0.out); replace P1 := Go.Lib.hid (row_below hb (by omega) P1.out); replace hB := Go.Lib.hid (hB.out.trans (hb.mono (by omega))); replace HX := Go.Lib.hid (Nat.le_trans HX.out hb.size); clear P7 hb; have M7 := Go.Lib.hid hM; clear hM)
    | (go_at_call 18; (refine (HH.out _ _ M7.out).mono ?_); rintro o w10 ⟨rfl, hb⟩; (try (replace S5 := Go.Lib.hid (S5.out.next hb))); (try (replace P7 := Go.Lib.hid (P7.out.next hb))); (try (replace M7 := Go.Lib.hid (M7.out.next hb))); (try (replace P11 := Go.Lib.hid (P11.out.next hb))); (try (replace HX := Go.Lib.hid (Nat.le_trans HX.out hb.size))); replace P0 := Go.Lib.hid (row_next hb P0.out); replace P1 := Go.Lib.hid (row_next hb P1.out); replace hB := Go.Lib.hid (below_next hB.out hb); clear hb))
  refine region_qc 4 (by kernel_rfl) (by kernel_rfl) ?_
  intro W hW
  rw [hW] at hB P0 P1
  (try rw [hW] at S5)
  (try rw [hW] at P7)
  (try rw [hW] at M7)
  (try rw [hW] at HX)
  clear hW
  simp only [List.take_succ_cons, List.take_zero, List.drop_succ_cons, List.drop_zero]
  have P0' := Go.Lib.hid (cls_row' P0.out); have P1' := Go.Lib.hid (cls_row' P1.out)
  (refine wpQuiet_loadmid 26 (.tmp 2) rfl (by first | exact want_n rfl | exact want_g _ _ _ rfl rfl rfl) (w.heap.size) _ rfl 66 66 p.at _ rw_lpic size_lpic P0'.out (by omega) ?_; rw [pic_row]; simp only [Act.put, List.setIfInBounds_toArray, List.set_cons_succ, List.set_cons_zero])
  go_big_quiet_step ((go_at_call 13; exact cls_call _ (fun w hw => HT0.out w)))
  (refine wpQuiet_loadmid 28 (.tmp 3) rfl (by first | exact want_n rfl | exact want_g _ _ _ rfl rfl rfl) (w.heap.size + 1) _ rfl 2 2 (spAt qx qy) _ rw_lspot size_lspot P1'.out (by omega) ?_; rw [sp_row]; simp only [Act.put, List.setIfInBounds_toArray, List.set_cons_succ, List.set_cons_zero])
  go_big_quiet_step ((go_at_call 14; exact cls_call _ (fun w hw => HT1.out w)))
  refine wpQuiet_nil ?_
  intro Wn hb
  (try (replace S5 := Go.Lib.hid (S5.out.next hb))); (try (replace P7 := Go.Lib.hid (P7.out.next hb))); (try (replace M7 := Go.Lib.hid (M7.out.next hb))); (try (replace P11 := Go.Lib.hid (P11.out.next hb))); (try (replace HX := Go.Lib.hid (Nat.le_trans HX.out hb.size)))
  replace P0 := Go.Lib.hid (row_next hb P0.out); replace P1 := Go.Lib.hid (row_next hb P1.out); replace hB := Go.Lib.hid (below_next hB.out hb)
  clear hb P0' P1'
  refine wpOp_callV (R := fun u w' => ∃ v, u = .tuple #[v, .int .i64 c] ∧ PO w' v n px py Wn.heap.size ∧ Below Wn.heap.size Wn w') rfl rfl ((HI.out _ (hE.next hB.out)).mono fun o w' ⟨v, h1, h2⟩ => ⟨_, h1, v, rfl, h2⟩) (by kernel_rfl) ?_
  have hPB := row_lt P1.out
  rintro _ w6 ⟨v7, rfl, hP7, hb⟩
  have HX := Go.Lib.hid hb.size
  replace S5 := Go.Lib.hid (S5.out.now.next hb)
  replace P0 := Go.Lib.hid (row_next hb P0.out); replace P1 := Go.Lib.hid (row_next hb P1.out); replace hB := Go.Lib.hid (below_next hB.out hb)
  clear hb
  have P7 := Go.Lib.hid hP7
  clear hP7
  generalize Wn.heap.size = B7 at P7 S5 HX hPB ⊢
  simp only [Act.put, List.setIfInBounds_toArray, List.set_cons_succ, List.set_cons_zero]
  repeat still_step
  refine wpStill_nil ?_
  go_wp2_with (first
    | go_skip
    | (go_at_call 16; replace E0 := E0.out; clear E0; (refine (HE.out _ _ _ _ _ P7.out.slp S5.out).mono ?_); rintro o w8 ⟨rfl, hb⟩; (try (replace S5 := Go.Lib.hid (S5.out.next hb))); (try (replace P7 := Go.Lib.hid (P7.out.next hb))); (try (replace M7 := Go.Lib.hid (M7.out.next hb))); (try (replace P11 := Go.Lib.hid (P11.out.next hb))); (try (replace HX := Go.Lib.hid (Nat.le_trans HX.out hb.size))); replace P0 := Go.Lib.hid (row_next hb P0.out); replace P1 := Go.Lib.hid (row_next hb P1.out); replace hB := Go.Lib.hid (below_next hB.out hb); clear hb)
    | (go_at_call 16; (refine (HE.out _ _ _ _ _ P11.out.slp S5.out).mono ?_); rintro o w8 ⟨rfl, hb⟩; (try (replace S5 := Go.Lib.hid (S5.out.next hb))); (try (replace P7 := Go.Lib.hid (P7.out.next hb))); (try (replace M7 := Go.Lib.hid (M7.out.next hb))); (try (replace P11 := Go.Lib.hid (P11.out.next hb))); (try (replace HX := Go.Lib.hid (Nat.le_trans HX.out hb.size))); replace P0 := Go.Lib.hid (row_next hb P0.out); replace P1 := Go.Lib.hid (row_next hb P1.out); replace hB := Go.Lib.hid (below_next hB.out hb); clear hb)
    | (go_at_call 17; (refine (HM.out _ _ _ HX.out P7.out).mono ?_); rintro o w9 ⟨rfl, hM, hb⟩; replace S5 := Go.Lib.hid (S5.out.below hb); replace P0 := Go.Lib.hid (row_below hb (by omega) P0.out); replace P1 := Go.Lib.hid (row_below hb (by omega) P1.out); replace hB := Go.Lib.hid (hB.out.trans (hb.mono (by omega))); replace HX := Go.Lib.hid (Nat.le_trans HX.out hb.size); clear P7 hb; have M7 := Go.Lib.hid hM; clear hM)
    | (go_at_call 18; (refine (HH.out _ _ M7.out).mono ?_); rintro o w10 ⟨rfl, hb⟩; (try (replace S5 := Go.Lib.hid (S5.out.next hb))); (try (replace P7 := Go.Lib.hid (P7.out.next hb))); (try (replace M7 := Go.Lib.hid (M7.out.next hb))); (try (replace P11 := Go.Lib.hid (P11.out.next hb))); (try (replace HX := Go.Lib.hid (Nat.le_trans HX.out hb.size))); replace P0 := Go.Lib.hid (row_next hb P0.out); replace P1 := Go.Lib.hid (row_next hb P1.out); replace hB := Go.Lib.hid (below_next hB.out hb); clear hb))
  refine region_qc 4 (by kernel_rfl) (by kernel_rfl) ?_
  intro W hW
  rw [hW] at hB P0 P1
  (try rw [hW] at S5)
  (try rw [hW] at P7)
  (try rw [hW] at M7)
  (try rw [hW] at HX)
  clear hW
  simp only [List.take_succ_cons, List.take_zero, List.drop_succ_cons, List.drop_zero]
  have P0' := Go.Lib.hid (cls_row' P0.out); have P1' := Go.Lib.hid (cls_row' P1.out)
  (refine wpQuiet_loadmid 26 (.tmp 2) rfl (by first | exact want_n rfl | exact want_g _ _ _ rfl rfl rfl) (w.heap.size) _ rfl 66 66 p.at _ rw_lpic size_lpic P0'.out (by omega) ?_; rw [pic_row]; simp only [Act.put, List.setIfInBounds_toArray, List.set_cons_succ, List.set_cons_zero])
  go_big_quiet_step ((go_at_call 13; exact cls_call _ (fun w hw => HT0.out w)))
  (refine wpQuiet_loadmid 28 (.tmp 3) rfl (by first | exact want_n rfl | exact want_g _ _ _ rfl rfl rfl) (w.heap.size + 1) _ rfl 2 2 (spAt qx qy) _ rw_lspot size_lspot P1'.out (by omega) ?_; rw [sp_row]; simp only [Act.put, List.setIfInBounds_toArray, List.set_cons_succ, List.set_cons_zero])
  go_big_quiet_step ((go_at_call 14; exact cls_call _ (fun w hw => HT1.out w)))
  refine wpQuiet_nil ?_
  intro Wn hb
  (try (replace S5 := Go.Lib.hid (S5.out.next hb))); (try (replace P7 := Go.Lib.hid (P7.out.next hb))); (try (replace M7 := Go.Lib.hid (M7.out.next hb))); (try (replace P11 := Go.Lib.hid (P11.out.next hb))); (try (replace HX := Go.Lib.hid (Nat.le_trans HX.out hb.size)))
  replace P0 := Go.Lib.hid (row_next hb P0.out); replace P1 := Go.Lib.hid (row_next hb P1.out); replace hB := Go.Lib.hid (below_next hB.out hb)
  clear hb P0' P1'
  refine wpOp_callV (R := fun u w' => ∃ v, u = .tuple #[v, .int .i64 c] ∧ PO w' v n px py Wn.heap.size ∧ Below Wn.heap.size Wn w') rfl rfl ((HI.out _ (hE.next hB.out)).mono fun o w' ⟨v, h1, h2⟩ => ⟨_, h1, v, rfl, h2⟩) (by kernel_rfl) ?_
  rintro _ w7 ⟨v11, rfl, hP11, hb⟩
  (try (replace S5 := Go.Lib.hid (S5.out.next hb))); (try (replace P7 := Go.Lib.hid (P7.out.next hb))); (try (replace M7 := Go.Lib.hid (M7.out.next hb))); (try (replace P11 := Go.Lib.hid (P11.out.next hb))); (try (replace HX := Go.Lib.hid (Nat.le_trans HX.out hb.size)))
  replace P0 := Go.Lib.hid (row_next hb P0.out); replace P1 := Go.Lib.hid (row_next hb P1.out); replace hB := Go.Lib.hid (below_next hB.out hb)
  clear hb
  have P11 := Go.Lib.hid hP11
  clear hP11
  simp only [Act.put, List.setIfInBounds_toArray, List.set_cons_succ, List.set_cons_zero]
  repeat still_step
  refine wpStill_nil ?_
  go_wp2_with (first
    | go_skip
    | (go_at_call 16; replace E0 := E0.out; clear E0; (refine (HE.out _ _ _ _ _ P7.out.slp S5.out).mono ?_); rintro o w8 ⟨rfl, hb⟩; (try (replace S5 := Go.Lib.hid (S5.out.next hb))); (try (replace P7 := Go.Lib.hid (P7.out.next hb))); (try (replace M7 := Go.Lib.hid (M7.out.next hb))); (try (replace P11 := Go.Lib.hid (P11.out.next hb))); (try (replace HX := Go.Lib.hid (Nat.le_trans HX.out hb.size))); replace P0 := Go.Lib.hid (row_next hb P0.out); replace P1 := Go.Lib.hid (row_next hb P1.out); replace hB := Go.Lib.hid (below_next hB.out hb); clear hb)
    | (go_at_call 16; (refine (HE.out _ _ _ _ _ P11.out.slp S5.out).mono ?_); rintro o w8 ⟨rfl, hb⟩; (try (replace S5 := Go.Lib.hid (S5.out.next hb))); (try (replace P7 := Go.Lib.hid (P7.out.next hb))); (try (replace M7 := Go.Lib.hid (M7.out.next hb))); (try (replace P11 := Go.Lib.hid (P11.out.next hb))); (try (replace HX := Go.Lib.hid (Nat.le_trans HX.out hb.size))); replace P0 := Go.Lib.hid (row_next hb P0.out); replace P1 := Go.Lib.hid (row_next hb P1.out); replace hB := Go.Lib.hid (below_next hB.out hb); clear hb)
    | (go_at_call 17; (refine (HM.out _ _ _ HX.out P7.out).mono ?_); rintro o w9 ⟨rfl, hM, hb⟩; replace S5 := Go.Lib.hid (S5.out.below hb); replace P0 := Go.Lib.hid (row_below hb (by omega) P0.out); replace P1 := Go.Lib.hid (row_below hb (by omega) P1.out); replace hB := Go.Lib.hid (hB.out.trans (hb.mono (by omega))); replace HX := Go.Lib.hid (Nat.le_trans HX.out hb.size); clear P7 hb; have M7 := Go.Lib.hid hM; clear hM)
    | (go_at_call 18; (refine (HH.out _ _ M7.out).mono ?_); rintro o w10 ⟨rfl, hb⟩; (try (replace S5 := Go.Lib.hid (S5.out.next hb))); (try (replace P7 := Go.Lib.hid (P7.out.next hb))); (try (replace M7 := Go.Lib.hid (M7.out.next hb))); (try (replace P11 := Go.Lib.hid (P11.out.next hb))); (try (replace HX := Go.Lib.hid (Nat.le_trans HX.out hb.size))); replace P0 := Go.Lib.hid (row_next hb P0.out); replace P1 := Go.Lib.hid (row_next hb P1.out); replace hB := Go.Lib.hid (below_next hB.out hb); clear hb))
  go_ret
  exact ⟨rfl, hB.out⟩
theorem cov_law (p : Pic) (x y : Int) (e : ErrE) (w : World) (hE : Errs e w) (hf : p.fit) (hx : -128 ≤ x ∧ x ≤ 127) (hy : -128 ≤ y ∧ y ≤ 127) : Calls Tryd.prog 3 #[.agg p.row, .agg #[.int .i8 x, .int .i8 y]] w fun o w' => o = .returned (.bool true) ∧ Below w.heap.size w w' := by
  have po0 : ∀ (W : World) (B : Nat) (px py : Nat → Int), PO W (.slice none 0 0) 0 px py B := fun W B px py => ⟨none, 0, rfl, .inl rfl⟩
  cases h1 : okP p
  · exact cov_walk p x y 0 (fun _ => 0) (fun _ => 0) 1 e w hE (by omega) (fun w => specCov_err p x y 1 _ _ hf hx hy (.inl ⟨h1, rfl⟩) w) (fun w hE => (implCov_err p x y 1 hf (.inl ⟨h1, rfl⟩) e w hE).mono fun o w' ⟨h1, h2⟩ => ⟨_, h1, po0 _ _ _ _, h2⟩)
  · cases h2 : hasP p x y
    · exact cov_walk p x y 0 (fun _ => 0) (fun _ => 0) 2 e w hE (by omega) (fun w => specCov_err p x y 2 _ _ hf hx hy (.inr ⟨h1, h2, rfl⟩) w) (fun w hE => (implCov_err p x y 2 hf (.inr ⟨h1, h2, rfl⟩) e w hE).mono fun o w' ⟨h1, h2⟩ => ⟨_, h1, po0 _ _ _ _, h2⟩)
    · obtain ⟨a, c, ea, ec, ha, hc⟩ := okP_nat h1
      have hin := h2
      unfold hasP at hin
      rw [ea, ec] at hin
      obtain ⟨g1, g2, g3, g4⟩ := ins_lt hin (by omega) (by omega)
      obtain ⟨i, rfl⟩ : ∃ i : Nat, x = i := ⟨x.toNat, by omega⟩
      obtain ⟨j, rfl⟩ : ∃ j : Nat, y = j := ⟨y.toNat, by omega⟩
      have hlen : (cov a c i j).length ≤ 1048576 := Nat.le_trans (covT_len _ _ _ _ _) (by omega)
      exact cov_walk p i j _ (lx (cov a c i j)) (ly (cov a c i j)) 0 e w hE hlen
        (fun w => (specCov_ok p a c i j hf h1 h2 ea ec ha.2 hc.2 (by omega) (by omega) w).mono fun o w' ⟨v, g1, g2, g3⟩ => ⟨v, g1, (own_po g2).slp, g3⟩)
        (fun w hE => (implCov_ok p a c i j hf h1 h2 ea ec ha.2 hc.2 (by omega) (by omega) e w hE).mono fun o w' ⟨v, g1, g2, g3⟩ => ⟨v, g1, own_po g2, g3⟩)
end Go.Proofs.YtlhbdiddcbobjaaDoor
