import Derived.Test.YtfgcpiipndhllaaDoorFoV
import Derived.Test.YtfgcpiipndhllaaDoorCodeOf
import Derived.Test.YtfgcpiipndhllaaDoorEqSheet
import Derived.Test.YtfgcpiipndhllaaDoorG1
import Derived.Test.YtfgcpiipndhllaaDoorQC
import Derived.Test.YtfgcpiipndhllaaDoorPrsQ
namespace Go.Proofs.YtfgcpiipndhllaaDoor
open Go.RowKit
set_option maxRecDepth 100000
set_option linter.unusedVariables false
set_option linter.unusedSimpArgs false
set_option maxRecDepth 100000 in
set_option maxHeartbeats 8000000 in
theorem prs_walk (s : Sh) (ax : Int) (dd : Bool) (p : Int) (L : List Sp8) (k : Int) (e : ErrE) (w : World) (hE : Errs e w) (hn : L.length ≤ 64)
    (hS : ∀ w, Calls Tryd.prog 48 #[.agg (vrow 266 s.at), .agg (vrow 3 (foAt ax dd p))] w fun o w' => (∃ v, o = .returned (.tuple #[v, .int .i64 k]) ∧ PRO w' v ax dd L w.heap.size) ∧ Below w.heap.size w w')
    (hI : ∀ w, Errs e w → Calls Tryd.prog 49 #[.agg (vrow 266 s.at), .agg (vrow 3 (foAt ax dd p))] w fun o w' => (∃ v, o = .returned (.tuple #[v, .int .i64 k]) ∧ PRO w' v ax dd L w.heap.size) ∧ Below w.heap.size w w') :
    Calls Tryd.prog 12 #[.agg (vrow 266 s.at), .agg (vrow 3 (foAt ax dd p))] w fun o w' => o = .returned (.bool true) ∧ Below w.heap.size w w' := by
  have HT0 := Go.Lib.hid fun w => toSheet_any s w
  have HT1 := Go.Lib.hid fun w => toFold_any ax dd p w
  have HS := Go.Lib.hid hS; have HI := Go.Lib.hid hI
  have HQ := Go.Lib.hid fun v1 v2 B1 B2 w h1 h2 => eqA2S_any v1 v2 ax dd L B1 B2 w hn h1 h2
  clear hS hI
  have E0 : Hid True := Go.Lib.hid trivial
  have P0 : Hid (((w.alloc (.cells (vrow 266 s.at) 31)).alloc (.cells (vrow 3 (foAt ax dd p)) 85)).heap[w.heap.size]? = some (.cells (vrow 266 s.at) 31)) := (heap_past _ _ _ _ (by simp <;> omega) (heap_at _ _ _ (by simp)))
  have P1 : Hid (((w.alloc (.cells (vrow 266 s.at) 31)).alloc (.cells (vrow 3 (foAt ax dd p)) 85)).heap[w.heap.size + 1]? = some (.cells (vrow 3 (foAt ax dd p)) 85)) := (heap_at _ _ _ (by simp))
  have hB : Hid (Below w.heap.size w ((w.alloc (.cells (vrow 266 s.at) 31)).alloc (.cells (vrow 3 (foAt ax dd p)) 85))) := Go.Lib.hid (((Below.refl w.heap.size w).alloc (by simp <;> omega) _).alloc (by simp <;> omega) _)
  go_enter Tryd.func12, Tryd.ntmps12
  go_wp2
  refine region_qc 4 (by kernel_rfl) (by kernel_rfl) ?_
  intro W hW
  rw [hW] at hB P0 P1
  clear hW
  simp only [List.take_succ_cons, List.take_zero, List.drop_succ_cons, List.drop_zero]
  have P0' := Go.Lib.hid (cls_row' P0.out); have P1' := Go.Lib.hid (cls_row' P1.out)
  (refine wpQuiet_loadmid 31 (.tmp 2) rfl (by first | exact want_n rfl | exact want_g _ _ _ rfl rfl rfl) (w.heap.size) _ rfl 266 266 s.at _ rw_lsheet size_lsheet P0'.out (by omega) ?_; rw [sh_row]; simp only [Act.put, List.setIfInBounds_toArray, List.set_cons_succ, List.set_cons_zero])
  go_big_quiet_step ((go_at_call 15; exact cls_call _ (fun w hw => HT0.out w)))
  (refine wpQuiet_loadmid 85 (.tmp 3) rfl (by first | exact want_n rfl | exact want_g _ _ _ rfl rfl rfl) (w.heap.size + 1) _ rfl 3 3 (foAt ax dd p) _ rw_lfold size_lfold P1'.out (by omega) ?_; simp only [Nat.zero_add]; simp only [Act.put, List.setIfInBounds_toArray, List.set_cons_succ, List.set_cons_zero])
  go_big_quiet_step ((go_at_call 46; exact cls_call _ (fun w hw => HT1.out w)))
  refine wpQuiet_nil ?_
  intro Wn hb
  (try (replace S5 := Go.Lib.hid (S5.out.next hb))); (try (replace P7 := Go.Lib.hid (P7.out.next hb))); (try (replace P11 := Go.Lib.hid (P11.out.next hb)))
  replace P0 := Go.Lib.hid (row_next hb P0.out); replace P1 := Go.Lib.hid (row_next hb P1.out); replace hB := Go.Lib.hid (below_next hB.out hb)
  clear hb P0' P1'
  refine wpOp_callV (R := fun u w' => ∃ v, u = .tuple #[v, .int .i64 k] ∧ PRO w' v ax dd L Wn.heap.size ∧ Below Wn.heap.size Wn w') rfl rfl ((HS.out _).mono fun o w' ⟨⟨v, h1, h2⟩, h3⟩ => ⟨_, h1, v, rfl, h2, h3⟩) (by kernel_rfl) ?_
  rintro _ w3 ⟨v0, rfl, hO, hb⟩
  (try (replace S5 := Go.Lib.hid (S5.out.next hb))); (try (replace P7 := Go.Lib.hid (P7.out.next hb))); (try (replace P11 := Go.Lib.hid (P11.out.next hb)))
  replace P0 := Go.Lib.hid (row_next hb P0.out); replace P1 := Go.Lib.hid (row_next hb P1.out); replace hB := Go.Lib.hid (below_next hB.out hb)
  clear hb
  have S5 := Go.Lib.hid hO
  clear hO
  simp only [Act.put, List.setIfInBounds_toArray, List.set_cons_succ, List.set_cons_zero]
  repeat still_step
  refine wpStill_nil ?_
  go_wp2
  refine region_qc 4 (by kernel_rfl) (by kernel_rfl) ?_
  intro W hW
  rw [hW] at hB P0 P1
  rw [hW] at S5
  clear hW
  simp only [List.take_succ_cons, List.take_zero, List.drop_succ_cons, List.drop_zero]
  have P0' := Go.Lib.hid (cls_row' P0.out); have P1' := Go.Lib.hid (cls_row' P1.out)
  (refine wpQuiet_loadmid 31 (.tmp 2) rfl (by first | exact want_n rfl | exact want_g _ _ _ rfl rfl rfl) (w.heap.size) _ rfl 266 266 s.at _ rw_lsheet size_lsheet P0'.out (by omega) ?_; rw [sh_row]; simp only [Act.put, List.setIfInBounds_toArray, List.set_cons_succ, List.set_cons_zero])
  go_big_quiet_step ((go_at_call 15; exact cls_call _ (fun w hw => HT0.out w)))
  (refine wpQuiet_loadmid 85 (.tmp 3) rfl (by first | exact want_n rfl | exact want_g _ _ _ rfl rfl rfl) (w.heap.size + 1) _ rfl 3 3 (foAt ax dd p) _ rw_lfold size_lfold P1'.out (by omega) ?_; simp only [Nat.zero_add]; simp only [Act.put, List.setIfInBounds_toArray, List.set_cons_succ, List.set_cons_zero])
  go_big_quiet_step ((go_at_call 46; exact cls_call _ (fun w hw => HT1.out w)))
  refine wpQuiet_nil ?_
  intro Wn hb
  (try (replace S5 := Go.Lib.hid (S5.out.next hb))); (try (replace P7 := Go.Lib.hid (P7.out.next hb))); (try (replace P11 := Go.Lib.hid (P11.out.next hb)))
  replace P0 := Go.Lib.hid (row_next hb P0.out); replace P1 := Go.Lib.hid (row_next hb P1.out); replace hB := Go.Lib.hid (below_next hB.out hb)
  clear hb P0' P1'
  refine wpOp_callV (R := fun u w' => ∃ v, u = .tuple #[v, .int .i64 k] ∧ PRO w' v ax dd L Wn.heap.size ∧ Below Wn.heap.size Wn w') rfl rfl ((HI.out _ (hE.next hB.out)).mono fun o w' ⟨⟨v, h1, h2⟩, h3⟩ => ⟨_, h1, v, rfl, h2, h3⟩) (by kernel_rfl) ?_
  rintro _ w3 ⟨v1, rfl, hO, hb⟩
  (try (replace S5 := Go.Lib.hid (S5.out.next hb))); (try (replace P7 := Go.Lib.hid (P7.out.next hb))); (try (replace P11 := Go.Lib.hid (P11.out.next hb)))
  replace P0 := Go.Lib.hid (row_next hb P0.out); replace P1 := Go.Lib.hid (row_next hb P1.out); replace hB := Go.Lib.hid (below_next hB.out hb)
  clear hb
  have P7 := Go.Lib.hid hO
  clear hO
  obtain ⟨ao7, c7, rfl, hr7⟩ := P7.out
  simp only [Act.put, List.setIfInBounds_toArray, List.set_cons_succ, List.set_cons_zero]
  repeat still_step
  refine wpStill_nil ?_
  go_wp2_with (first
    | go_skip
    | (go_at_call 50; (first | (replace E0 := E0.out; clear E0; (refine (HQ.out _ _ _ _ _ P7.out S5.out).mono ?_)) | (refine (HQ.out _ _ _ _ _ P11.out S5.out).mono ?_)); rintro o w8 ⟨rfl, hb⟩; (try (replace S5 := Go.Lib.hid (S5.out.next hb))); (try (replace P7 := Go.Lib.hid (P7.out.next hb))); (try (replace P11 := Go.Lib.hid (P11.out.next hb))); replace P0 := Go.Lib.hid (row_next hb P0.out); replace P1 := Go.Lib.hid (row_next hb P1.out); replace hB := Go.Lib.hid (below_next hB.out hb); clear hb)
    | (go_at_call 51; (refine (mark2_any ao7 _ c7 _ _ hn).mono ?_); rintro o w9 ⟨rfl, hb⟩; (try (replace S5 := Go.Lib.hid (S5.out.next hb))); (try (replace P7 := Go.Lib.hid (P7.out.next hb))); (try (replace P11 := Go.Lib.hid (P11.out.next hb))); replace P0 := Go.Lib.hid (row_next hb P0.out); replace P1 := Go.Lib.hid (row_next hb P1.out); replace hB := Go.Lib.hid (below_next hB.out hb); clear hb)
    | (go_at_call 52; (refine (held2_any ao7 _ c7 _ _ hn).mono ?_); rintro o w9 ⟨rfl, hb⟩; (try (replace S5 := Go.Lib.hid (S5.out.next hb))); (try (replace P7 := Go.Lib.hid (P7.out.next hb))); (try (replace P11 := Go.Lib.hid (P11.out.next hb))); replace P0 := Go.Lib.hid (row_next hb P0.out); replace P1 := Go.Lib.hid (row_next hb P1.out); replace hB := Go.Lib.hid (below_next hB.out hb); clear hb))
  refine region_qc 4 (by kernel_rfl) (by kernel_rfl) ?_
  intro W hW
  rw [hW] at hB P0 P1
  rw [hW] at S5
  rw [hW] at P7
  clear hW
  simp only [List.take_succ_cons, List.take_zero, List.drop_succ_cons, List.drop_zero]
  have P0' := Go.Lib.hid (cls_row' P0.out); have P1' := Go.Lib.hid (cls_row' P1.out)
  (refine wpQuiet_loadmid 31 (.tmp 2) rfl (by first | exact want_n rfl | exact want_g _ _ _ rfl rfl rfl) (w.heap.size) _ rfl 266 266 s.at _ rw_lsheet size_lsheet P0'.out (by omega) ?_; rw [sh_row]; simp only [Act.put, List.setIfInBounds_toArray, List.set_cons_succ, List.set_cons_zero])
  go_big_quiet_step ((go_at_call 15; exact cls_call _ (fun w hw => HT0.out w)))
  (refine wpQuiet_loadmid 85 (.tmp 3) rfl (by first | exact want_n rfl | exact want_g _ _ _ rfl rfl rfl) (w.heap.size + 1) _ rfl 3 3 (foAt ax dd p) _ rw_lfold size_lfold P1'.out (by omega) ?_; simp only [Nat.zero_add]; simp only [Act.put, List.setIfInBounds_toArray, List.set_cons_succ, List.set_cons_zero])
  go_big_quiet_step ((go_at_call 46; exact cls_call _ (fun w hw => HT1.out w)))
  refine wpQuiet_nil ?_
  intro Wn hb
  (try (replace S5 := Go.Lib.hid (S5.out.next hb))); (try (replace P7 := Go.Lib.hid (P7.out.next hb))); (try (replace P11 := Go.Lib.hid (P11.out.next hb)))
  replace P0 := Go.Lib.hid (row_next hb P0.out); replace P1 := Go.Lib.hid (row_next hb P1.out); replace hB := Go.Lib.hid (below_next hB.out hb)
  clear hb P0' P1'
  refine wpOp_callV (R := fun u w' => ∃ v, u = .tuple #[v, .int .i64 k] ∧ PRO w' v ax dd L Wn.heap.size ∧ Below Wn.heap.size Wn w') rfl rfl ((HI.out _ (hE.next hB.out)).mono fun o w' ⟨⟨v, h1, h2⟩, h3⟩ => ⟨_, h1, v, rfl, h2, h3⟩) (by kernel_rfl) ?_
  rintro _ w3 ⟨v2, rfl, hO, hb⟩
  (try (replace S5 := Go.Lib.hid (S5.out.next hb))); (try (replace P7 := Go.Lib.hid (P7.out.next hb))); (try (replace P11 := Go.Lib.hid (P11.out.next hb)))
  replace P0 := Go.Lib.hid (row_next hb P0.out); replace P1 := Go.Lib.hid (row_next hb P1.out); replace hB := Go.Lib.hid (below_next hB.out hb)
  clear hb
  have P11 := Go.Lib.hid hO
  clear hO
  simp only [Act.put, List.setIfInBounds_toArray, List.set_cons_succ, List.set_cons_zero]
  repeat still_step
  refine wpStill_nil ?_
  go_wp2_with (first
    | go_skip
    | (go_at_call 50; (first | (replace E0 := E0.out; clear E0; (refine (HQ.out _ _ _ _ _ P7.out S5.out).mono ?_)) | (refine (HQ.out _ _ _ _ _ P11.out S5.out).mono ?_)); rintro o w8 ⟨rfl, hb⟩; (try (replace S5 := Go.Lib.hid (S5.out.next hb))); (try (replace P7 := Go.Lib.hid (P7.out.next hb))); (try (replace P11 := Go.Lib.hid (P11.out.next hb))); replace P0 := Go.Lib.hid (row_next hb P0.out); replace P1 := Go.Lib.hid (row_next hb P1.out); replace hB := Go.Lib.hid (below_next hB.out hb); clear hb)
    | (go_at_call 51; (refine (mark2_any ao7 _ c7 _ _ hn).mono ?_); rintro o w9 ⟨rfl, hb⟩; (try (replace S5 := Go.Lib.hid (S5.out.next hb))); (try (replace P7 := Go.Lib.hid (P7.out.next hb))); (try (replace P11 := Go.Lib.hid (P11.out.next hb))); replace P0 := Go.Lib.hid (row_next hb P0.out); replace P1 := Go.Lib.hid (row_next hb P1.out); replace hB := Go.Lib.hid (below_next hB.out hb); clear hb)
    | (go_at_call 52; (refine (held2_any ao7 _ c7 _ _ hn).mono ?_); rintro o w9 ⟨rfl, hb⟩; (try (replace S5 := Go.Lib.hid (S5.out.next hb))); (try (replace P7 := Go.Lib.hid (P7.out.next hb))); (try (replace P11 := Go.Lib.hid (P11.out.next hb))); replace P0 := Go.Lib.hid (row_next hb P0.out); replace P1 := Go.Lib.hid (row_next hb P1.out); replace hB := Go.Lib.hid (below_next hB.out hb); clear hb))
  go_ret
  exact ⟨rfl, hB.out⟩
end Go.Proofs.YtfgcpiipndhllaaDoor
