import Derived.Test.YtjoegdcbemkafaaImplV
import Derived.Test.YtjoegdcbemkafaaEqSheet
import Derived.Test.YtjoegdcbemkafaaOpen
namespace Go.Proofs.Ytjoegdcbemkafaa
open Go.RowKit
set_option linter.unusedVariables false
theorem place_eq (s : Sh) (x y : Nat) (hf : s.fit) (hx : x < 8) (hy : y < 8) : placeB s x y = validB s x y := by
  have hw := hf.wet (8 * y + x) (by omega)
  have h0 := hf.dye (24 * y + 3 * x) (by omega)
  have h1 := hf.dye (24 * y + 3 * x + 1) (by omega)
  have h2 := hf.dye (24 * y + 3 * x + 2) (by omega)
  cases e1 : hasB s x y <;> cases e2 : waxB s x y <;> simp only [placeB, validB, cellB, e1, e2, bareB, wOk, dOk, psum, Bool.true_or, Bool.false_or, Bool.not_true, Bool.not_false, Bool.true_and, Bool.false_and, Bool.and_true, Bool.and_false, Bool.or_true, Bool.or_false, if_true, Bool.false_eq_true, if_false, Nat.add_zero]
  all_goals (rw [Bool.eq_iff_iff]; simp only [Bool.and_eq_true, decide_eq_true_eq, beq_iff_eq]; omega)
theorem ok_eq (s : Sh) (hf : s.fit) : okI s = okB s := by
  rw [Bool.eq_iff_iff]
  simp only [okI, okB, Bool.and_eq_true, List.all_eq_true]
  constructor
  · rintro ⟨a, b, h⟩
    refine ⟨a, b, fun i hi => ?_⟩
    have hi' : i < 64 := by simpa using hi
    have := h ⟨(i % 8, i / 8), by omega, by omega⟩ (mem_cells _)
    rw [place_eq s _ _ hf (by omega) (by omega)]
    exact this
  · rintro ⟨a, b, h⟩
    refine ⟨a, b, fun p _ => ?_⟩
    obtain ⟨⟨x, y⟩, hx, hy⟩ := p
    have := h (8 * y + x) (by simp; omega)
    rw [show (8 * y + x) % 8 = x by omega, show (8 * y + x) / 8 = y by omega, place_eq s _ _ hf hx hy] at this
    exact this
theorem wf_i8 {n : Int} (h : (Lit.int .i8 n).wf = true) : -128 ≤ n ∧ n ≤ 127 := by simp [Lit.wf, IntKind.min, IntKind.max, IntKind.bits, IntKind.signed] at h; omega
theorem wf_i16 {n : Int} (h : (Lit.int .i16 n).wf = true) : -32768 ≤ n ∧ n ≤ 32767 := by simp [Lit.wf, IntKind.min, IntKind.max, IntKind.bits, IntKind.signed] at h; omega
theorem wf_u8 {n : Int} (h : (Lit.int .u8 n).wf = true) : 0 ≤ n ∧ n ≤ 255 := by simp [Lit.wf, IntKind.min, IntKind.max, IntKind.bits, IntKind.signed] at h; omega
theorem Sh.wf.fit {s : Sh} (h : s.wf) : s.fit := ⟨wf_i8 h.1, wf_i8 h.2.1, fun i hi => wf_i16 (h.2.2.1 i hi), fun i hi => wf_i16 (h.2.2.2.1 i hi), fun i hi => wf_u8 (h.2.2.2.2 i hi)⟩
theorem rw_lsheet : (Try.prog.underlying 31).map (·.isRow) = some true := by kernel_rfl
set_option maxHeartbeats 400000 in
theorem specV_any (s : Sh) (w : World) (hf : s.fit) : Calls Try.prog 7 #[.agg s.row] w fun e w' => e = .returned (.bool (okI s)) ∧ Below w.heap.size w w' := by
  rw [ok_eq s hf]
  have hB : Hid (Below w.heap.size w (w.alloc (.cells (vrow 266 s.at) 33))) := ((Below.refl w.heap.size w).alloc (by simp <;> omega) _)
  have P : Hid ((w.alloc (.cells (vrow 266 s.at) 33)).heap[(w.heap.size)]? = some (.cells (vrow 266 s.at) 33)) := heap_at _ _ _ (by simp)
  go_enter Try.func7, Try.ntmps7
  go_wp2_with (first
    | (go_at_call 17; (refine (ok_any s _ _ P.out hf).mono ?_; rintro e w1 ⟨rfl, hb⟩; replace P := Go.Lib.hid (row_next hb P.out); replace hB := Go.Lib.hid (below_next hB.out hb); clear hb )))
  go_ret
  exact ⟨rfl, hB.out⟩
set_option maxRecDepth 100000 in
set_option maxHeartbeats 400000 in
theorem validSheet_law (s : Sh) (w : World) (hf : s.fit) : Calls Try.prog 3 #[.agg s.row] w fun e w' => e = .returned (.bool true) ∧ Below w.heap.size w w' := by
  have HS0 := fun w => specV_any s w hf
  have HI0 := fun w => implV_any s w
  have HT := Go.Lib.hid fun w => toSheet_any s w
  have hB : Hid (Below w.heap.size w (w.alloc (.cells (vrow 266 s.at) 31))) := ((Below.refl w.heap.size w).alloc (by simp <;> omega) _)
  have P : Hid ((w.alloc (.cells (vrow 266 s.at) 31)).heap[(w.heap.size)]? = some (.cells (vrow 266 s.at) 31)) := heap_at _ _ _ (by simp)
  cases hv : okI s
  all_goals
    rw [hv] at HS0 HI0
    have HS := Go.Lib.hid HS0
    have HI := Go.Lib.hid HI0
    clear HS0 HI0 hv
    go_enter Try.func3, Try.ntmps3
    go_wp2_with (first
      | (go_at_call 8; (refine (HT.out _).mono ?_; rintro e w1 ⟨rfl, hb⟩; replace P := Go.Lib.hid (row_next hb P.out); replace hB := Go.Lib.hid (below_next hB.out hb); clear hb ))
      | (go_at_call 7; (refine (HS.out _).mono ?_; rintro e w1 ⟨rfl, hb⟩; replace P := Go.Lib.hid (row_next hb P.out); replace hB := Go.Lib.hid (below_next hB.out hb); clear hb ))
      | (go_at_call 9; (refine (HI.out _).mono ?_; rintro e w1 ⟨rfl, hb⟩; replace P := Go.Lib.hid (row_next hb P.out); replace hB := Go.Lib.hid (below_next hB.out hb); clear hb ))
      | (refine list_at 5 rfl ?_; intro W hW; rw [hW] at hB P; clear hW; have P' := Go.Lib.hid (cls_row' P.out); (repeat (first | go_big_quiet_skip | (refine wpQuiet_loadmid 31 _ rfl (by first | exact want_n rfl | exact want_g _ _ _ rfl rfl rfl) (w.heap.size) _ rfl 266 266 s.at _ rw_lsheet size_lsheet P'.out (by omega) ?_; rw [sh_row]; simp only [Act.put, List.setIfInBounds_toArray, List.set_cons_succ, List.set_cons_zero]) | go_big_quiet_step (first | (go_at_call 8; exact cls_call _ (fun w hw => HT.out w)) | (go_at_call 7; exact cls_call _ (fun w hw => HS.out w)) | (go_at_call 9; exact cls_call _ (fun w hw => HI.out w))))); refine wpQuiet_nil ?_; intro Wn hb; replace P := Go.Lib.hid (row_next hb P.out); replace hB := Go.Lib.hid (below_next hB.out hb); clear hb P')
      | (refine list_at 8 rfl ?_; intro W hW; rw [hW] at hB P; clear hW; have P' := Go.Lib.hid (cls_row' P.out); (repeat (first | go_big_quiet_skip | (refine wpQuiet_loadmid 31 _ rfl (by first | exact want_n rfl | exact want_g _ _ _ rfl rfl rfl) (w.heap.size) _ rfl 266 266 s.at _ rw_lsheet size_lsheet P'.out (by omega) ?_; rw [sh_row]; simp only [Act.put, List.setIfInBounds_toArray, List.set_cons_succ, List.set_cons_zero]) | go_big_quiet_step (first | (go_at_call 8; exact cls_call _ (fun w hw => HT.out w)) | (go_at_call 7; exact cls_call _ (fun w hw => HS.out w)) | (go_at_call 9; exact cls_call _ (fun w hw => HI.out w))))); refine wpQuiet_nil ?_; intro Wn hb; replace P := Go.Lib.hid (row_next hb P.out); replace hB := Go.Lib.hid (below_next hB.out hb); clear hb P'))
    go_ret
    exact ⟨rfl, hB.out⟩
end Go.Proofs.Ytjoegdcbemkafaa
