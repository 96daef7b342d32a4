import Derived.Test.YtlhbdiddcbobjaaDoorPicV
import Derived.Test.YtlhbdiddcbobjaaDoorCodeOf
import Derived.Test.YtlhbdiddcbobjaaDoorG1
namespace Go.Proofs.YtlhbdiddcbobjaaDoor
open Go.RowKit
set_option maxRecDepth 100000
set_option linter.unusedVariables false
set_option linter.unusedSimpArgs false
set_option maxHeartbeats 400000 in
theorem ckPic_ok (p : Pic) (hf : p.fit) (hv : okP p = true) (e : ErrE) (w : World) (hE : Errs e w) : Calls Tryd.prog 63 #[.agg p.row] w fun o w' => o = .returned .nilIface ∧ Below w.heap.size w w' := by
  have HV := Go.Lib.hid fun w => implVP_all p w hf
  rw [hv] at HV
  have hB : Hid (Below w.heap.size w (w.alloc (.cells (vrow 66 p.at) 32))) := ((Below.refl w.heap.size w).alloc (by simp <;> omega) _)
  have P : Hid ((w.alloc (.cells (vrow 66 p.at) 32)).heap[(w.heap.size)]? = some (.cells (vrow 66 p.at) 32)) := heap_at _ _ _ (by simp)
  have E : Hid (Errs e (w.alloc (.cells (vrow 66 p.at) 32))) := hE.alloc _
  go_enter Tryd.func63, Tryd.ntmps63
  go_wp2_with (first
    | go_skip
    | ((with_reducible refine wlAt 3 rfl ?_); refine wpList_ldm 32 _ rfl (by first | exact want_n rfl | exact want_g _ _ _ rfl rfl rfl) (w.heap.size) _ rfl 66 66 p.at _ rw_pic size_pic P.out (by omega) ?_; rw [pic_row])
    | (go_at_call 89; (refine (HV.out _).mono ?_; rintro o w1 ⟨rfl, hb⟩; replace P := Go.Lib.hid (row_next hb P.out); replace hB := Go.Lib.hid (below_next hB.out hb); replace E := Go.Lib.hid (E.out.next hb); clear hb)))
  go_ret
  exact ⟨rfl, hB.out⟩
set_option maxHeartbeats 400000 in
theorem ckPic_bad (p : Pic) (hf : p.fit) (hv : okP p = false) (e : ErrE) (w : World) (hE : Errs e w) : Calls Tryd.prog 63 #[.agg p.row] w fun o w' => o = .returned (errP e 1) ∧ Below w.heap.size w w' := by
  have HV := Go.Lib.hid fun w => implVP_all p w hf
  rw [hv] at HV
  have hB : Hid (Below w.heap.size w (w.alloc (.cells (vrow 66 p.at) 32))) := ((Below.refl w.heap.size w).alloc (by simp <;> omega) _)
  have P : Hid ((w.alloc (.cells (vrow 66 p.at) 32)).heap[(w.heap.size)]? = some (.cells (vrow 66 p.at) 32)) := heap_at _ _ _ (by simp)
  have E : Hid (Errs e (w.alloc (.cells (vrow 66 p.at) 32))) := hE.alloc _
  go_enter Tryd.func63, Tryd.ntmps63
  go_wp2_with (first
    | go_skip
    | ((with_reducible refine wlAt 3 rfl ?_); refine wpList_ldm 32 _ rfl (by first | exact want_n rfl | exact want_g _ _ _ rfl rfl rfl) (w.heap.size) _ rfl 66 66 p.at _ rw_pic size_pic P.out (by omega) ?_; rw [pic_row])
    | ((with_reducible refine wlOp (.load 79 (.global 1)) rfl ?_); refine wpList_ld1 79 _ rfl (by first | exact want_n rfl | exact want_g _ _ _ rfl rfl rfl) 1 0 rfl 1 (fun _ => errP e 1) _ rw_err E.out.v1 (by omega) ?_)
    | (go_at_call 89; (refine (HV.out _).mono ?_; rintro o w1 ⟨rfl, hb⟩; replace P := Go.Lib.hid (row_next hb P.out); replace hB := Go.Lib.hid (below_next hB.out hb); replace E := Go.Lib.hid (E.out.next hb); clear hb)))
  go_ret
  exact ⟨rfl, hB.out⟩
def inkB (n : Int) : Bool := decide (0 ≤ n) && decide (n ≤ 2)
set_option maxHeartbeats 400000 in
theorem ckShown_bad (p : Pic) (n : Int) (hf : p.fit) (hv : okP p = false) (e : ErrE) (w : World) (hE : Errs e w) : Calls Tryd.prog 67 #[.agg p.row, .int .i64 n] w fun o w' => o = .returned (errP e 1) ∧ Below w.heap.size w w' := by
  have HV := Go.Lib.hid fun w hE => ckPic_bad p hf hv e w hE
  have hB : Hid (Below w.heap.size w (w.alloc (.cells (vrow 66 p.at) 32))) := ((Below.refl w.heap.size w).alloc (by simp <;> omega) _)
  have P : Hid ((w.alloc (.cells (vrow 66 p.at) 32)).heap[(w.heap.size)]? = some (.cells (vrow 66 p.at) 32)) := heap_at _ _ _ (by simp)
  have E : Hid (Errs e (w.alloc (.cells (vrow 66 p.at) 32))) := hE.alloc _
  go_enter Tryd.func67, Tryd.ntmps67
  go_wp2_with (first
    | go_skip
    | ((with_reducible refine wlAt 6 rfl ?_); refine wpList_ldm 32 _ rfl (by first | exact want_n rfl | exact want_g _ _ _ rfl rfl rfl) (w.heap.size) _ rfl 66 66 p.at _ rw_pic size_pic P.out (by omega) ?_; rw [pic_row])
    | (go_at_call 63; (refine (HV.out _ E.out).mono ?_; rintro o w1 ⟨rfl, hb⟩; replace P := Go.Lib.hid (row_next hb P.out); replace hB := Go.Lib.hid (below_next hB.out hb); replace E := Go.Lib.hid (E.out.next hb); clear hb)))
  go_ret
  exact ⟨rfl, hB.out⟩
set_option maxHeartbeats 400000 in
theorem ckShown_ok (p : Pic) (n : Int) (hf : p.fit) (hv : okP p = true) (hn : inkB n = true) (e : ErrE) (w : World) (hE : Errs e w) : Calls Tryd.prog 67 #[.agg p.row, .int .i64 n] w fun o w' => o = .returned .nilIface ∧ Below w.heap.size w w' := by
  have HV := Go.Lib.hid fun w hE => ckPic_ok p hf hv e w hE
  simp only [inkB, Bool.and_eq_true, decide_eq_true_eq] at hn
  have h1 : decide (n < 0) = false := by simp; omega
  have h2 : decide (3 ≤ n) = false := by simp; omega
  have hB : Hid (Below w.heap.size w (w.alloc (.cells (vrow 66 p.at) 32))) := ((Below.refl w.heap.size w).alloc (by simp <;> omega) _)
  have P : Hid ((w.alloc (.cells (vrow 66 p.at) 32)).heap[(w.heap.size)]? = some (.cells (vrow 66 p.at) 32)) := heap_at _ _ _ (by simp)
  have E : Hid (Errs e (w.alloc (.cells (vrow 66 p.at) 32))) := hE.alloc _
  go_enter Tryd.func67, Tryd.ntmps67
  go_wp2_with (first
    | go_skip
    | ((with_reducible refine wlAt 6 rfl ?_); refine wpList_ldm 32 _ rfl (by first | exact want_n rfl | exact want_g _ _ _ rfl rfl rfl) (w.heap.size) _ rfl 66 66 p.at _ rw_pic size_pic P.out (by omega) ?_; rw [pic_row])
    | (go_at_call 63; (refine (HV.out _ E.out).mono ?_; rintro o w1 ⟨rfl, hb⟩; replace P := Go.Lib.hid (row_next hb P.out); replace hB := Go.Lib.hid (below_next hB.out hb); replace E := Go.Lib.hid (E.out.next hb); clear hb)))
  go_ret
  exact ⟨rfl, hB.out⟩
set_option maxHeartbeats 400000 in
theorem ckShown_rng (p : Pic) (n : Int) (hf : p.fit) (hv : okP p = true) (hn : inkB n = false) (e : ErrE) (w : World) (hE : Errs e w) : Calls Tryd.prog 67 #[.agg p.row, .int .i64 n] w fun o w' => o = .returned (errP e 2) ∧ Below w.heap.size w w' := by
  have HV := Go.Lib.hid fun w hE => ckPic_ok p hf hv e w hE
  simp only [inkB, Bool.and_eq_false_iff, decide_eq_false_iff_not] at hn
  have hB : Hid (Below w.heap.size w (w.alloc (.cells (vrow 66 p.at) 32))) := ((Below.refl w.heap.size w).alloc (by simp <;> omega) _)
  have P : Hid ((w.alloc (.cells (vrow 66 p.at) 32)).heap[(w.heap.size)]? = some (.cells (vrow 66 p.at) 32)) := heap_at _ _ _ (by simp)
  have E : Hid (Errs e (w.alloc (.cells (vrow 66 p.at) 32))) := hE.alloc _
  by_cases h0 : n < 0
  · have h1 : decide (n < 0) = true := by simpa using h0
    clear hn h0
    go_enter Tryd.func67, Tryd.ntmps67
    go_wp2_with (first
      | go_skip
      | ((with_reducible refine wlAt 6 rfl ?_); refine wpList_ldm 32 _ rfl (by first | exact want_n rfl | exact want_g _ _ _ rfl rfl rfl) (w.heap.size) _ rfl 66 66 p.at _ rw_pic size_pic P.out (by omega) ?_; rw [pic_row])
      | ((with_reducible refine wlOp (.load 79 (.global 0)) rfl ?_); refine wpList_ld1 79 _ rfl (by first | exact want_n rfl | exact want_g _ _ _ rfl rfl rfl) 0 0 rfl 1 (fun _ => errP e 2) _ rw_err E.out.v2 (by omega) ?_)
      | (go_at_call 63; (refine (HV.out _ E.out).mono ?_; rintro o w1 ⟨rfl, hb⟩; replace P := Go.Lib.hid (row_next hb P.out); replace hB := Go.Lib.hid (below_next hB.out hb); replace E := Go.Lib.hid (E.out.next hb); clear hb)))
    go_ret
    exact ⟨rfl, hB.out⟩
  · have h1 : decide (n < 0) = false := by simpa using h0
    have h2 : decide (3 ≤ n) = true := by simp; omega
    clear hn h0
    go_enter Tryd.func67, Tryd.ntmps67
    go_wp2_with (first
      | go_skip
      | ((with_reducible refine wlAt 6 rfl ?_); refine wpList_ldm 32 _ rfl (by first | exact want_n rfl | exact want_g _ _ _ rfl rfl rfl) (w.heap.size) _ rfl 66 66 p.at _ rw_pic size_pic P.out (by omega) ?_; rw [pic_row])
      | ((with_reducible refine wlOp (.load 79 (.global 0)) rfl ?_); refine wpList_ld1 79 _ rfl (by first | exact want_n rfl | exact want_g _ _ _ rfl rfl rfl) 0 0 rfl 1 (fun _ => errP e 2) _ rw_err E.out.v2 (by omega) ?_)
      | (go_at_call 63; (refine (HV.out _ E.out).mono ?_; rintro o w1 ⟨rfl, hb⟩; replace P := Go.Lib.hid (row_next hb P.out); replace hB := Go.Lib.hid (below_next hB.out hb); replace E := Go.Lib.hid (E.out.next hb); clear hb)))
    go_ret
    exact ⟨rfl, hB.out⟩
end Go.Proofs.YtlhbdiddcbobjaaDoor
