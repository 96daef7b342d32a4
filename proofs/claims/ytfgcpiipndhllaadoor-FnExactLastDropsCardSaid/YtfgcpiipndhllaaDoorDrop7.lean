import Derived.Test.YtfgcpiipndhllaaDoorCov
import Derived.Test.YtfgcpiipndhllaaDoorPCk
namespace Go.Proofs.YtfgcpiipndhllaaDoor
open Go.RowKit
set_option maxRecDepth 100000
set_option linter.unusedVariables false
set_option linter.unusedSimpArgs false
/-- a drop: its cell, its ink -/
def drAt (x y n : Int) : Nat → Value := fun i => if i = 0 then .int .i8 x else if i = 1 then .int .i8 y else .int .u8 n
theorem drAt_one (x y n : Int) (i : Nat) : (drAt x y n i).oneCell' = true := by unfold drAt; split <;> (try split) <;> rfl
theorem dr_row (x y n : Int) : vrow 3 (drAt x y n) = #[.int .i8 x, .int .i8 y, .int .u8 n] := rfl
theorem dr_spot (x y n : Int) : (vrow 2 fun i => drAt x y n (0 + i)) = #[.int .i8 x, .int .i8 y] := rfl
theorem size_dr : (Tryd.prog.info? 66).map (·.size) = some 3 := by kernel_rfl
theorem rw_dr : (Tryd.prog.underlying 66).map (·.isRow) = some true := by kernel_rfl
theorem dr_row0 (x y n : Int) : (vrow 3 fun i => drAt x y n (0 + i)) = vrow 3 (drAt x y n) := vrow_ext _ _ _ fun i _ => by rw [Nat.zero_add]
theorem built_dr (x y : Int) : Tryd.prog.built 66 [(0, .agg #[.int .i8 x, .int .i8 y])] = some (vrow 3 (drAt x y 0)) := by kernel_rfl
/-- there are the cell and the ink of a drop -/
def canB (p : Pic) (x y n : Int) : Bool := hasP p x y && decide (n < 3)
set_option maxHeartbeats 1000000 in
theorem takes_any (p : Pic) (x y n : Int) (w : World) : Calls Tryd.prog 139 #[.agg p.row, .agg (vrow 3 (drAt x y n))] w fun e w' => e = .returned (.bool (canB p x y n)) ∧ Below w.heap.size w w' := by
  have HH := Go.Lib.hid fun w => hasP_any p x y w
  have P : Hid (((w.alloc (.cells (vrow 66 p.at) 61)).alloc (.cells (vrow 3 (drAt x y n)) 66)).heap[w.heap.size]? = some (.cells (vrow 66 p.at) 61)) := heap_past _ _ _ _ (by simp <;> omega) (heap_at _ _ _ (by simp))
  have R : Hid (((w.alloc (.cells (vrow 66 p.at) 61)).alloc (.cells (vrow 3 (drAt x y n)) 66)).heap[w.heap.size + 1]? = some (.cells (vrow 3 (drAt x y n)) 66)) := heap_at _ _ _ (by simp)
  have hB : Hid (Below w.heap.size w ((w.alloc (.cells (vrow 66 p.at) 61)).alloc (.cells (vrow 3 (drAt x y n)) 66))) := (((Below.refl w.heap.size w).alloc (by simp <;> omega) _).alloc (by simp <;> omega) _)
  cases hq : hasP p x y
  · have HC := Go.Lib.hid (show canB p x y n = false by simp [canB, hq])
    rw [hq] at HH
    clear hq
    go_enter Tryd.func139, Tryd.ntmps139
    go_wp2_with (first
      | go_skip
      | ((with_reducible refine wlAt 5 rfl ?_); refine wpList_ldm 61 (.tmp 2) rfl (by first | exact want_n rfl | exact want_g _ _ _ rfl rfl rfl) (w.heap.size) _ rfl 66 66 p.at _ rw_pic size_pic P.out (by omega) ?_; rw [pic_row])
      | ((with_reducible refine wlAt 7 rfl ?_); refine wpList_ldm 33 _ rfl (by first | exact want_n rfl | exact want_g _ _ _ rfl rfl rfl) (w.heap.size + 1) _ rfl 3 2 (drAt x y n) _ rw_spot size_spot R.out (by omega) ?_; rw [dr_spot])
      | (go_at_call 176; (refine (HH.out _).mono ?_; rintro e w1 ⟨rfl, hb⟩; replace P := Go.Lib.hid (row_next hb P.out); replace R := Go.Lib.hid (row_next hb R.out); replace hB := Go.Lib.hid (below_next hB.out hb); clear hb)))
    go_ret
    exact ⟨by rw [HC.out]; rfl, hB.out⟩
  · have HC := Go.Lib.hid (show canB p x y n = decide (n < 3) by simp [canB, hq])
    rw [hq] at HH
    clear hq
    go_enter Tryd.func139, Tryd.ntmps139
    go_wp2_with (first
      | go_skip
      | ((with_reducible refine wlAt 5 rfl ?_); refine wpList_ldm 61 (.tmp 2) rfl (by first | exact want_n rfl | exact want_g _ _ _ rfl rfl rfl) (w.heap.size) _ rfl 66 66 p.at _ rw_pic size_pic P.out (by omega) ?_; rw [pic_row])
      | ((with_reducible refine wlAt 7 rfl ?_); refine wpList_ldm 33 _ rfl (by first | exact want_n rfl | exact want_g _ _ _ rfl rfl rfl) (w.heap.size + 1) _ rfl 3 2 (drAt x y n) _ rw_spot size_spot R.out (by omega) ?_; rw [dr_spot])
      | ((with_reducible refine wlAt 11 rfl ?_); refine wpList_ld1 5 _ rfl (by first | exact want_n rfl | exact want_g _ _ _ rfl rfl rfl) (w.heap.size + 1) 2 rfl 3 (drAt x y n) _ rw_u8 R.out (by omega) ?_; rw [show drAt x y n 2 = .int .u8 n from rfl])
      | (go_at_call 176; (refine (HH.out _).mono ?_; rintro e w1 ⟨rfl, hb⟩; replace P := Go.Lib.hid (row_next hb P.out); replace R := Go.Lib.hid (row_next hb R.out); replace hB := Go.Lib.hid (below_next hB.out hb); clear hb)))
    go_ret
    exact ⟨by rw [HC.out]; rfl, hB.out⟩
set_option maxHeartbeats 1000000 in
theorem ckOn_bad (p : Pic) (x y n : Int) (hf : p.fit) (hv : okP p = false) (e : ErrE) (w : World) (hE : Errs e w) : Calls Tryd.prog 94 #[.agg p.row, .agg (vrow 3 (drAt x y n))] w fun o w' => o = .returned (errP e 1) ∧ Below w.heap.size w w' := by
  have HV := Go.Lib.hid fun w hE => ckPic_bad p hf hv e w hE
  have P : Hid (((w.alloc (.cells (vrow 66 p.at) 61)).alloc (.cells (vrow 3 (drAt x y n)) 66)).heap[w.heap.size]? = some (.cells (vrow 66 p.at) 61)) := heap_past _ _ _ _ (by simp <;> omega) (heap_at _ _ _ (by simp))
  have R : Hid (((w.alloc (.cells (vrow 66 p.at) 61)).alloc (.cells (vrow 3 (drAt x y n)) 66)).heap[w.heap.size + 1]? = some (.cells (vrow 3 (drAt x y n)) 66)) := heap_at _ _ _ (by simp)
  have hB : Hid (Below w.heap.size w ((w.alloc (.cells (vrow 66 p.at) 61)).alloc (.cells (vrow 3 (drAt x y n)) 66))) := (((Below.refl w.heap.size w).alloc (by simp <;> omega) _).alloc (by simp <;> omega) _)
  have E : Hid (Errs e ((w.alloc (.cells (vrow 66 p.at) 61)).alloc (.cells (vrow 3 (drAt x y n)) 66))) := (hE.alloc _).alloc _
  go_enter Tryd.func94, Tryd.ntmps94
  go_wp2_with (first
    | go_skip
    | ((with_reducible refine wlAt 6 rfl ?_); refine wpList_ldm 61 (.tmp 2) rfl (by first | exact want_n rfl | exact want_g _ _ _ rfl rfl rfl) (w.heap.size) _ rfl 66 66 p.at _ rw_pic size_pic P.out (by omega) ?_; rw [pic_row])
    | (go_at_call 98; (refine (HV.out _ E.out).mono ?_; rintro o w1 ⟨rfl, hb⟩; replace P := Go.Lib.hid (row_next hb P.out); replace R := Go.Lib.hid (row_next hb R.out); replace hB := Go.Lib.hid (below_next hB.out hb); replace E := Go.Lib.hid (E.out.next hb); clear hb)))
  go_ret
  exact ⟨rfl, hB.out⟩
set_option maxHeartbeats 1000000 in
theorem ckOn_rng (p : Pic) (x y n : Int) (hf : p.fit) (hv : okP p = true) (hn : canB p x y n = false) (e : ErrE) (w : World) (hE : Errs e w) : Calls Tryd.prog 94 #[.agg p.row, .agg (vrow 3 (drAt x y n))] w fun o w' => o = .returned (errP e 2) ∧ Below w.heap.size w w' := by
  have HV := Go.Lib.hid fun w hE => ckPic_ok p hf hv e w hE
  have HK := Go.Lib.hid fun w => takes_any p x y n w
  rw [hn] at HK
  have P : Hid (((w.alloc (.cells (vrow 66 p.at) 61)).alloc (.cells (vrow 3 (drAt x y n)) 66)).heap[w.heap.size]? = some (.cells (vrow 66 p.at) 61)) := heap_past _ _ _ _ (by simp <;> omega) (heap_at _ _ _ (by simp))
  have R : Hid (((w.alloc (.cells (vrow 66 p.at) 61)).alloc (.cells (vrow 3 (drAt x y n)) 66)).heap[w.heap.size + 1]? = some (.cells (vrow 3 (drAt x y n)) 66)) := heap_at _ _ _ (by simp)
  have hB : Hid (Below w.heap.size w ((w.alloc (.cells (vrow 66 p.at) 61)).alloc (.cells (vrow 3 (drAt x y n)) 66))) := (((Below.refl w.heap.size w).alloc (by simp <;> omega) _).alloc (by simp <;> omega) _)
  have E : Hid (Errs e ((w.alloc (.cells (vrow 66 p.at) 61)).alloc (.cells (vrow 3 (drAt x y n)) 66))) := (hE.alloc _).alloc _
  go_enter Tryd.func94, Tryd.ntmps94
  go_wp2_with (first
    | go_skip
    | ((first | (with_reducible refine wlAt 6 rfl ?_) | (with_reducible refine wlAt 11 rfl ?_)); refine wpList_ldm 61 (.tmp 2) rfl (by first | exact want_n rfl | exact want_g _ _ _ rfl rfl rfl) (w.heap.size) _ rfl 66 66 p.at _ rw_pic size_pic P.out (by omega) ?_; rw [pic_row])
    | ((with_reducible refine wlAt 12 rfl ?_); refine wpList_ldm 66 (.tmp 3) rfl (by first | exact want_n rfl | exact want_g _ _ _ rfl rfl rfl) (w.heap.size + 1) _ rfl 3 3 (drAt x y n) _ rw_dr size_dr R.out (by omega) ?_; rw [dr_row0])
    | ((with_reducible refine wlOp (.load 107 (.global 1)) rfl ?_); refine wpList_ld1 107 _ rfl (by first | exact want_n rfl | exact want_g _ _ _ rfl rfl rfl) 1 0 rfl 1 (fun _ => errP e 2) _ rw_err E.out.v2 (by omega) ?_)
    | (go_at_call 139; (refine (HK.out _).mono ?_; rintro o w1 ⟨rfl, hb⟩; replace P := Go.Lib.hid (row_next hb P.out); replace R := Go.Lib.hid (row_next hb R.out); replace hB := Go.Lib.hid (below_next hB.out hb); replace E := Go.Lib.hid (E.out.next hb); clear hb))
    | (go_at_call 98; (refine (HV.out _ E.out).mono ?_; rintro o w1 ⟨rfl, hb⟩; replace P := Go.Lib.hid (row_next hb P.out); replace R := Go.Lib.hid (row_next hb R.out); replace hB := Go.Lib.hid (below_next hB.out hb); replace E := Go.Lib.hid (E.out.next hb); clear hb)))
  go_ret
  exact ⟨rfl, hB.out⟩
set_option maxHeartbeats 1000000 in
theorem ckOn_ok (p : Pic) (x y n : Int) (hf : p.fit) (hv : okP p = true) (hn : canB p x y n = true) (e : ErrE) (w : World) (hE : Errs e w) : Calls Tryd.prog 94 #[.agg p.row, .agg (vrow 3 (drAt x y n))] w fun o w' => o = .returned .nilIface ∧ Below w.heap.size w w' := by
  have HV := Go.Lib.hid fun w hE => ckPic_ok p hf hv e w hE
  have HK := Go.Lib.hid fun w => takes_any p x y n w
  rw [hn] at HK
  have P : Hid (((w.alloc (.cells (vrow 66 p.at) 61)).alloc (.cells (vrow 3 (drAt x y n)) 66)).heap[w.heap.size]? = some (.cells (vrow 66 p.at) 61)) := heap_past _ _ _ _ (by simp <;> omega) (heap_at _ _ _ (by simp))
  have R : Hid (((w.alloc (.cells (vrow 66 p.at) 61)).alloc (.cells (vrow 3 (drAt x y n)) 66)).heap[w.heap.size + 1]? = some (.cells (vrow 3 (drAt x y n)) 66)) := heap_at _ _ _ (by simp)
  have hB : Hid (Below w.heap.size w ((w.alloc (.cells (vrow 66 p.at) 61)).alloc (.cells (vrow 3 (drAt x y n)) 66))) := (((Below.refl w.heap.size w).alloc (by simp <;> omega) _).alloc (by simp <;> omega) _)
  have E : Hid (Errs e ((w.alloc (.cells (vrow 66 p.at) 61)).alloc (.cells (vrow 3 (drAt x y n)) 66))) := (hE.alloc _).alloc _
  go_enter Tryd.func94, Tryd.ntmps94
  go_wp2_with (first
    | go_skip
    | ((first | (with_reducible refine wlAt 6 rfl ?_) | (with_reducible refine wlAt 11 rfl ?_)); refine wpList_ldm 61 (.tmp 2) rfl (by first | exact want_n rfl | exact want_g _ _ _ rfl rfl rfl) (w.heap.size) _ rfl 66 66 p.at _ rw_pic size_pic P.out (by omega) ?_; rw [pic_row])
    | ((with_reducible refine wlAt 12 rfl ?_); refine wpList_ldm 66 (.tmp 3) rfl (by first | exact want_n rfl | exact want_g _ _ _ rfl rfl rfl) (w.heap.size + 1) _ rfl 3 3 (drAt x y n) _ rw_dr size_dr R.out (by omega) ?_; rw [dr_row0])
    | (go_at_call 139; (refine (HK.out _).mono ?_; rintro o w1 ⟨rfl, hb⟩; replace P := Go.Lib.hid (row_next hb P.out); replace R := Go.Lib.hid (row_next hb R.out); replace hB := Go.Lib.hid (below_next hB.out hb); replace E := Go.Lib.hid (E.out.next hb); clear hb))
    | (go_at_call 98; (refine (HV.out _ E.out).mono ?_; rintro o w1 ⟨rfl, hb⟩; replace P := Go.Lib.hid (row_next hb P.out); replace R := Go.Lib.hid (row_next hb R.out); replace hB := Go.Lib.hid (below_next hB.out hb); replace E := Go.Lib.hid (E.out.next hb); clear hb)))
  go_ret
  exact ⟨rfl, hB.out⟩
end Go.Proofs.YtfgcpiipndhllaaDoor
