import Derived.Test.YtlhbdiddcbobjaaPUnl
import Derived.Test.YtlhbdiddcbobjaaBlank
import Derived.Test.YtlhbdiddcbobjaaChosP
namespace Go.Proofs.Ytlhbdiddcbobjaa
open Go.RowKit
set_option maxRecDepth 100000
set_option linter.unusedVariables false
set_option linter.unusedSimpArgs false
theorem eq_zinks (w : World) : (Op.equalIn 9999 24 (.agg (vrow 64 fun _ => .int .u8 0)) (.agg (vrow 64 fun _ => .int .u8 0))).run Try.prog w = .ok true w := by kernel_rfl
theorem blank_inks (a c : Int) : (vrow 64 fun i => (blankPic a c).at (2 + i)) = vrow 64 fun _ => .int .u8 0 := vrow_ext _ _ _ fun i _ => (blankPic a c).at_ink1 (2 + i) i rfl
theorem eq_blank (a c a' c' : Int) (w : World) : (Op.equalIn 10000 26 (.agg (blankPic a c).row) (.agg (blankPic a' c').row)).run Try.prog w = .ok ((a == a') && (c == c')) w := by
  rw [run_equalIn_struct w 9999 _ _ _ und_pic stood_pic]
  have hl := fields_pic
  have p0 := fun a c w => part_one rw_i8 (n := 66) (f := (blankPic a c).at) (off := 0) (by omega) w
  have p1 := fun a c w => part_one rw_i8 (n := 66) (f := (blankPic a c).at) (off := 1) (by omega) w
  have p2 := fun a c w => part_many rwr_b64 size_b64 cell_b64 (n := 66) (f := (blankPic a c).at) (off := 2) (by omega) w
  simp only [blank_inks, Pic.at_0, Pic.at_1] at p0 p1 p2
  generalize (Try.prog.fieldsOf 26).toList = fs at hl ⊢
  rcases fs with _ | ⟨f1, _ | ⟨f2, _ | ⟨f3, _ | ⟨f4, fs⟩⟩⟩⟩ <;> simp only [List.map_cons, List.map_nil, List.cons.injEq, Prod.mk.injEq, List.nil_eq, reduceCtorEq, and_false, and_true, false_and] at hl
  obtain ⟨⟨e1, e2, e3⟩, ⟨e4, e5, e6⟩, e7, e8, e9⟩ := hl
  simp only [Op.eqFields, e1, e2, e3, e4, e5, e6, e7, e8, e9, Sem.run_bind, p0, p1, p2, Result.andThen_ok]
  cases h1 : (a == a') <;> cases h2 : (c == c') <;> simp_all [run_equalIn_int w 9998 22 .i8 .i8 _ _ Try.underlying22, eq_zinks, blankPic]
set_option maxHeartbeats 1000000 in
theorem blank_any (p : Pic) (w : World) : Calls Try.prog 25 #[.agg p.row] w fun e w' => e = .returned (.agg (blankPic p.wide p.high).row) ∧ Below w.heap.size w w' := by
  have zz := zero_pic
  have P : Hid (((w.alloc (.cells (vrow 66 p.at) 26)).alloc (.cells (vrow 66 Pic.zero.at) 26)).heap[w.heap.size]? = some (.cells (vrow 66 p.at) 26)) := heap_past _ _ _ _ (by simp <;> omega) (heap_at _ _ _ (by simp))
  have Z : Hid (((w.alloc (.cells (vrow 66 p.at) 26)).alloc (.cells (vrow 66 Pic.zero.at) 26)).heap[w.heap.size + 1]? = some (.cells (vrow 66 Pic.zero.at) 26)) := heap_at _ _ _ (by simp)
  have hB : Hid (Below w.heap.size w ((w.alloc (.cells (vrow 66 p.at) 26)).alloc (.cells (vrow 66 Pic.zero.at) 26))) := (((Below.refl w.heap.size w).alloc (by simp <;> omega) _).alloc (by simp <;> omega) _)
  go_enter Try.func25, Try.ntmps25
  go_wp2_with (first
    | ((with_reducible refine wlAt 4 rfl ?_); refine wpList_ld1 22 _ rfl (by first | exact want_n rfl | exact want_g _ _ _ rfl rfl rfl) (w.heap.size) _ rfl 66 p.at _ rw_i8 P.out (by omega) ?_; rw [Pic.at_0])
    | ((with_reducible refine wlAt 6 rfl ?_); refine wpList_ld1 22 _ rfl (by first | exact want_n rfl | exact want_g _ _ _ rfl rfl rfl) (w.heap.size) _ rfl 66 p.at _ rw_i8 P.out (by omega) ?_; rw [Pic.at_1])
    | ((with_reducible refine wlAt 7 rfl ?_); refine wpList_built rfl 26 [(0, .tmp 4), (1, .tmp 6)] rfl [(0, .int .i8 p.wide), (1, .int .i8 p.high)] (by rfl) _ (built_blank p.wide p.high) ?_)
    | ((with_reducible refine wlOp (.store 26 (.tmp 2) (.tmp 7)) rfl ?_); refine wpList_storeall rfl 26 (.tmp 2) (.tmp 7) rfl (w.heap.size + 1) rfl 66 Pic.zero.at (blankPic p.wide p.high).at rfl 26 size_pic Z.out (fun i _ => Pic.one _ i) ?_))
  exact ret_row Try.results25 (w.heap.size + 1) 66 (blankPic p.wide p.high).at 26 _ Try.underlying26 rfl size_pic rfl rfl (row_set Z.out _) ⟨rfl, Below_setRow hB.out (by omega) _⟩
set_option maxHeartbeats 1000000 in
theorem unlC_any (p q : Pic) (b1 b2 : Nat) (x y : Nat) (hx : x < 8) (hy : y < 8) (w : World) (h1 : w.heap[b1]? = some (.cells (vrow 66 p.at) 26)) (h2 : w.heap[b2]? = some (.cells (vrow 66 q.at) 26)) :
    Calls Try.prog 27 #[.agg (vrow 2 (spAt x y)), .pointer (some ⟨b1, 0, none⟩), .pointer (some ⟨b2, 0, none⟩)] w fun e w' => e = .returned (.bool (unl p q x y)) ∧ Below w.heap.size w w' := by
  have HP := Go.Lib.hid fun w => shown_any p x y hx hy w
  have HQ := Go.Lib.hid fun w => shown_any q x y hx hy w
  have n1 := row_lt h1; have n2 := row_lt h2
  have hun : unl p q x y = (p.ink (8 * y + x) != q.ink (8 * y + x)) := rfl
  have R : Hid ((w.alloc (.cells (vrow 2 (spAt x y)) 49)).heap[w.heap.size]? = some (.cells (vrow 2 (spAt x y)) 49)) := heap_at _ _ _ rfl
  have P : Hid ((w.alloc (.cells (vrow 2 (spAt x y)) 49)).heap[b1]? = some (.cells (vrow 66 p.at) 26)) := heap_past _ _ _ _ n1 h1
  have Q : Hid ((w.alloc (.cells (vrow 2 (spAt x y)) 49)).heap[b2]? = some (.cells (vrow 66 q.at) 26)) := heap_past _ _ _ _ n2 h2
  have hB : Hid (Below w.heap.size w (w.alloc (.cells (vrow 2 (spAt x y)) 49))) := (Below.refl w.heap.size w).alloc (by simp <;> omega) _
  go_enter Try.func27, Try.ntmps27
  go_wp2
  refine region_at (by kernel_rfl) (by kernel_rfl) ?_
  intro W hW
  rw [hW] at hB P Q R
  clear hW
  have P' := Go.Lib.hid (cls_row' P.out); have Q' := Go.Lib.hid (cls_row' Q.out); have R' := Go.Lib.hid (cls_row' R.out)
  (refine wpQuiet_loadmid 26 (.tmp 1) rfl (by first | exact want_n rfl | exact want_g _ _ _ rfl rfl rfl) b1 _ rfl 66 66 p.at _ rw_pic size_pic P'.out (by omega) ?_; rw [pic_row]; simp only [Act.put, List.setIfInBounds_toArray, List.set_cons_succ, List.set_cons_zero])
  (refine wpQuiet_loadmid 49 _ rfl (by first | exact want_n rfl | exact want_g _ _ _ rfl rfl rfl) w.heap.size _ rfl 2 2 (spAt x y) _ rw_spot size_spot R'.out (by omega) ?_; rw [sp_row]; simp only [Act.put, List.setIfInBounds_toArray, List.set_cons_succ, List.set_cons_zero])
  go_big_quiet_step ((go_at_call 28; exact cls_call _ (fun w hw => HP.out w)))
  (refine wpQuiet_loadmid 26 (.tmp 2) rfl (by first | exact want_n rfl | exact want_g _ _ _ rfl rfl rfl) b2 _ rfl 66 66 q.at _ rw_pic size_pic Q'.out (by omega) ?_; rw [pic_row]; simp only [Act.put, List.setIfInBounds_toArray, List.set_cons_succ, List.set_cons_zero])
  (refine wpQuiet_loadmid 49 _ rfl (by first | exact want_n rfl | exact want_g _ _ _ rfl rfl rfl) w.heap.size _ rfl 2 2 (spAt x y) _ rw_spot size_spot R'.out (by omega) ?_; rw [sp_row]; simp only [Act.put, List.setIfInBounds_toArray, List.set_cons_succ, List.set_cons_zero])
  go_big_quiet_step ((go_at_call 28; exact cls_call _ (fun w hw => HQ.out w)))
  repeat (go_big_quiet_step (fail))
  refine wpQuiet_nil ?_
  intro W2 hb
  replace hB := Go.Lib.hid (below_next hB.out hb)
  clear hb P' Q' R'
  go_wp2
  go_ret
  exact ⟨by rw [hun]; rfl, hB.out⟩
set_option maxHeartbeats 2000000 in
theorem implUnl_bad (p q : Pic) (w : World) (hf : p.fit) (hg : q.fit) (h : okP p = false ∨ (okP p = true ∧ okP q = false)) : Calls Try.prog 11 #[.agg p.row, .agg q.row] w fun e w' => e = .returned (.tuple #[.slice none 0 0, .int .i64 1]) ∧ Below w.heap.size w w' := by
  have HV := Go.Lib.hid fun w => implVP_all p w hf
  have HU := Go.Lib.hid fun w => implVP_all q w hg
  have F0 : Hid True := Go.Lib.hid trivial
  have P : Hid (((w.alloc (.cells (vrow 66 p.at) 26)).alloc (.cells (vrow 66 q.at) 26)).heap[w.heap.size]? = some (.cells (vrow 66 p.at) 26)) := heap_past _ _ _ _ (by simp <;> omega) (heap_at _ _ _ (by simp))
  have Q : Hid (((w.alloc (.cells (vrow 66 p.at) 26)).alloc (.cells (vrow 66 q.at) 26)).heap[w.heap.size + 1]? = some (.cells (vrow 66 q.at) 26)) := heap_at _ _ _ (by simp)
  have hB : Hid (Below w.heap.size w ((w.alloc (.cells (vrow 66 p.at) 26)).alloc (.cells (vrow 66 q.at) 26))) := (((Below.refl w.heap.size w).alloc (by simp <;> omega) _).alloc (by simp <;> omega) _)
  rcases h with h1 | ⟨h1, h2⟩
  · rw [h1] at HV
    go_enter Try.func11, Try.ntmps11
    go_wp2_with (first
      | go_skip
      | ((with_reducible refine wlAt 6 rfl ?_); refine wpList_ldm 26 (.tmp 2) rfl (by first | exact want_n rfl | exact want_g _ _ _ rfl rfl rfl) (w.heap.size) _ rfl 66 66 p.at _ rw_pic size_pic P.out (by omega) ?_; rw [pic_row])
      | ((with_reducible refine wlAt 10 rfl ?_); refine wpList_ldm 26 (.tmp 3) rfl (by first | exact want_n rfl | exact want_g _ _ _ rfl rfl rfl) (w.heap.size + 1) _ rfl 66 66 q.at _ rw_pic size_pic Q.out (by omega) ?_; rw [pic_row])
      | (go_at_call 24; replace F0 := F0.out; clear F0; (refine (HV.out _).mono ?_; rintro e w1 ⟨rfl, hb⟩; replace P := Go.Lib.hid (row_next hb P.out); replace Q := Go.Lib.hid (row_next hb Q.out); replace hB := Go.Lib.hid (below_next hB.out hb); clear hb))
      | (go_at_call 24; (refine (HU.out _).mono ?_; rintro e w1 ⟨rfl, hb⟩; replace P := Go.Lib.hid (row_next hb P.out); replace Q := Go.Lib.hid (row_next hb Q.out); replace hB := Go.Lib.hid (below_next hB.out hb); clear hb)))
    go_ret2
    exact ⟨rfl, hB.out⟩
  · rw [h1] at HV; rw [h2] at HU
    go_enter Try.func11, Try.ntmps11
    go_wp2_with (first
      | go_skip
      | ((with_reducible refine wlAt 6 rfl ?_); refine wpList_ldm 26 (.tmp 2) rfl (by first | exact want_n rfl | exact want_g _ _ _ rfl rfl rfl) (w.heap.size) _ rfl 66 66 p.at _ rw_pic size_pic P.out (by omega) ?_; rw [pic_row])
      | ((with_reducible refine wlAt 10 rfl ?_); refine wpList_ldm 26 (.tmp 3) rfl (by first | exact want_n rfl | exact want_g _ _ _ rfl rfl rfl) (w.heap.size + 1) _ rfl 66 66 q.at _ rw_pic size_pic Q.out (by omega) ?_; rw [pic_row])
      | (go_at_call 24; replace F0 := F0.out; clear F0; (refine (HV.out _).mono ?_; rintro e w1 ⟨rfl, hb⟩; replace P := Go.Lib.hid (row_next hb P.out); replace Q := Go.Lib.hid (row_next hb Q.out); replace hB := Go.Lib.hid (below_next hB.out hb); clear hb))
      | (go_at_call 24; (refine (HU.out _).mono ?_; rintro e w1 ⟨rfl, hb⟩; replace P := Go.Lib.hid (row_next hb P.out); replace Q := Go.Lib.hid (row_next hb Q.out); replace hB := Go.Lib.hid (below_next hB.out hb); clear hb)))
    go_ret2
    exact ⟨rfl, hB.out⟩
set_option maxHeartbeats 2000000 in
theorem implUnl_state (p q : Pic) (w : World) (hf : p.fit) (hg : q.fit) (h1 : okP p = true) (h2 : okP q = true) (h : ((p.wide == q.wide) && (p.high == q.high)) = false) : Calls Try.prog 11 #[.agg p.row, .agg q.row] w fun e w' => e = .returned (.tuple #[.slice none 0 0, .int .i64 4]) ∧ Below w.heap.size w w' := by
  have HV := Go.Lib.hid fun w => implVP_all p w hf
  have HU := Go.Lib.hid fun w => implVP_all q w hg
  rw [h1] at HV; rw [h2] at HU
  have HBP := Go.Lib.hid fun w => blank_any p w
  have HBQ := Go.Lib.hid fun w => blank_any q w
  have heq := fun w => eq_blank p.wide p.high q.wide q.high w
  rw [h] at heq
  have F0 : Hid True := Go.Lib.hid trivial
  have P : Hid (((w.alloc (.cells (vrow 66 p.at) 26)).alloc (.cells (vrow 66 q.at) 26)).heap[w.heap.size]? = some (.cells (vrow 66 p.at) 26)) := heap_past _ _ _ _ (by simp <;> omega) (heap_at _ _ _ (by simp))
  have Q : Hid (((w.alloc (.cells (vrow 66 p.at) 26)).alloc (.cells (vrow 66 q.at) 26)).heap[w.heap.size + 1]? = some (.cells (vrow 66 q.at) 26)) := heap_at _ _ _ (by simp)
  have hB : Hid (Below w.heap.size w ((w.alloc (.cells (vrow 66 p.at) 26)).alloc (.cells (vrow 66 q.at) 26))) := (((Below.refl w.heap.size w).alloc (by simp <;> omega) _).alloc (by simp <;> omega) _)
  clear h h1 h2
  go_enter Try.func11, Try.ntmps11
  go_wp2_with (first
    | go_skip
    | ((with_reducible refine wlAt 6 rfl ?_); refine wpList_ldm 26 (.tmp 2) rfl (by first | exact want_n rfl | exact want_g _ _ _ rfl rfl rfl) (w.heap.size) _ rfl 66 66 p.at _ rw_pic size_pic P.out (by omega) ?_; rw [pic_row])
    | ((with_reducible refine wlAt 10 rfl ?_); refine wpList_ldm 26 (.tmp 3) rfl (by first | exact want_n rfl | exact want_g _ _ _ rfl rfl rfl) (w.heap.size + 1) _ rfl 66 66 q.at _ rw_pic size_pic Q.out (by omega) ?_; rw [pic_row])
    | (go_at_call 24; replace F0 := F0.out; clear F0; (refine (HV.out _).mono ?_; rintro e w1 ⟨rfl, hb⟩; replace P := Go.Lib.hid (row_next hb P.out); replace Q := Go.Lib.hid (row_next hb Q.out); replace hB := Go.Lib.hid (below_next hB.out hb); clear hb))
    | (go_at_call 24; (refine (HU.out _).mono ?_; rintro e w1 ⟨rfl, hb⟩; replace P := Go.Lib.hid (row_next hb P.out); replace Q := Go.Lib.hid (row_next hb Q.out); replace hB := Go.Lib.hid (below_next hB.out hb); clear hb)))
  (refine region_at (by kernel_rfl) (by kernel_rfl) ?_; intro W hW; rw [hW] at hB P Q; clear hW; have P' := Go.Lib.hid (cls_row' P.out); have Q' := Go.Lib.hid (cls_row' Q.out); (refine wpQuiet_loadmid 26 (.tmp 2) rfl (by first | exact want_n rfl | exact want_g _ _ _ rfl rfl rfl) w.heap.size _ rfl 66 66 p.at _ rw_pic size_pic P'.out (by omega) ?_; rw [pic_row]; simp only [Act.put, List.setIfInBounds_toArray, List.set_cons_succ, List.set_cons_zero]); go_big_quiet_step ((go_at_call 25; exact cls_call _ (fun w hw => HBP.out w))); (refine wpQuiet_loadmid 26 (.tmp 3) rfl (by first | exact want_n rfl | exact want_g _ _ _ rfl rfl rfl) (w.heap.size + 1) _ rfl 66 66 q.at _ rw_pic size_pic Q'.out (by omega) ?_; rw [pic_row]; simp only [Act.put, List.setIfInBounds_toArray, List.set_cons_succ, List.set_cons_zero]); go_big_quiet_step ((go_at_call 25; exact cls_call _ (fun w hw => HBQ.out w))); repeat (go_big_quiet_step (fail)))
  refine wpQuiet_nil ?_
  intro W2 hb
  replace hB := Go.Lib.hid (below_next hB.out hb)
  clear hb P' Q'
  go_wp2
  go_ret2
  exact ⟨rfl, hB.out⟩
set_option maxHeartbeats 2000000 in
theorem implUnl_ok (p q : Pic) (a c : Nat) (w : World) (hf : p.fit) (hg : q.fit) (h1 : okP p = true) (h2 : okP q = true) (h : ((p.wide == q.wide) && (p.high == q.high)) = true) (ea : p.wide = a) (ec : p.high = c) (ha : a ≤ 8) (hc : c ≤ 8) : Calls Try.prog 11 #[.agg p.row, .agg q.row] w fun e w' => ∃ v, e = .returned (.tuple #[v, .int .i64 0]) ∧ w'.ownsRow w.heap.size 49 2 v (fl (unl p q) (cellsL a c)).length (vals (fl (unl p q) (cellsL a c))) ∧ Below w.heap.size w w' := by
  have HV := Go.Lib.hid fun w => implVP_all p w hf
  have HU := Go.Lib.hid fun w => implVP_all q w hg
  rw [h1] at HV; rw [h2] at HU
  have HBP := Go.Lib.hid fun w => blank_any p w
  have HBQ := Go.Lib.hid fun w => blank_any q w
  have heq := fun w => eq_blank p.wide p.high q.wide q.high w
  rw [h] at heq
  have HCH : Hid (∀ W, W.heap[w.heap.size]? = some (.cells (vrow 66 p.at) 26) → W.heap[w.heap.size + 1]? = some (.cells (vrow 66 q.at) 26) → Calls Try.prog 26 #[.agg p.row, .func (.func 27) #[] #[.pointer (some ⟨w.heap.size, 0, none⟩), .pointer (some ⟨w.heap.size + 1, 0, none⟩)]] W fun e w' => ∃ v, e = .returned v ∧ w'.ownsRow W.heap.size 49 2 v (fl (unl p q) (cellsL a c)).length (vals (fl (unl p q) (cellsL a c))) ∧ Below W.heap.size W w') :=
    Go.Lib.hid fun W g1 g2 => chosenP_any p a c (unl p q) 27 #[.pointer (some ⟨w.heap.size, 0, none⟩), .pointer (some ⟨w.heap.size + 1, 0, none⟩)] W ea ec ha hc (fun _ _ => by kernel_rfl) fun x y W' hx hy hb => unlC_any p q w.heap.size (w.heap.size + 1) x y (by omega) (by omega) W' (row_next hb g1) (row_next hb g2)
  have F0 : Hid True := Go.Lib.hid trivial
  have P : Hid (((w.alloc (.cells (vrow 66 p.at) 26)).alloc (.cells (vrow 66 q.at) 26)).heap[w.heap.size]? = some (.cells (vrow 66 p.at) 26)) := heap_past _ _ _ _ (by simp <;> omega) (heap_at _ _ _ (by simp))
  have Q : Hid (((w.alloc (.cells (vrow 66 p.at) 26)).alloc (.cells (vrow 66 q.at) 26)).heap[w.heap.size + 1]? = some (.cells (vrow 66 q.at) 26)) := heap_at _ _ _ (by simp)
  have hB : Hid (Below w.heap.size w ((w.alloc (.cells (vrow 66 p.at) 26)).alloc (.cells (vrow 66 q.at) 26))) := (((Below.refl w.heap.size w).alloc (by simp <;> omega) _).alloc (by simp <;> omega) _)
  clear h h1 h2 ea ec
  go_enter Try.func11, Try.ntmps11
  go_wp2_with (first
    | go_skip
    | ((with_reducible refine wlAt 6 rfl ?_); refine wpList_ldm 26 (.tmp 2) rfl (by first | exact want_n rfl | exact want_g _ _ _ rfl rfl rfl) (w.heap.size) _ rfl 66 66 p.at _ rw_pic size_pic P.out (by omega) ?_; rw [pic_row])
    | ((with_reducible refine wlAt 10 rfl ?_); refine wpList_ldm 26 (.tmp 3) rfl (by first | exact want_n rfl | exact want_g _ _ _ rfl rfl rfl) (w.heap.size + 1) _ rfl 66 66 q.at _ rw_pic size_pic Q.out (by omega) ?_; rw [pic_row])
    | (go_at_call 24; replace F0 := F0.out; clear F0; (refine (HV.out _).mono ?_; rintro e w1 ⟨rfl, hb⟩; replace P := Go.Lib.hid (row_next hb P.out); replace Q := Go.Lib.hid (row_next hb Q.out); replace hB := Go.Lib.hid (below_next hB.out hb); clear hb))
    | (go_at_call 24; (refine (HU.out _).mono ?_; rintro e w1 ⟨rfl, hb⟩; replace P := Go.Lib.hid (row_next hb P.out); replace Q := Go.Lib.hid (row_next hb Q.out); replace hB := Go.Lib.hid (below_next hB.out hb); clear hb)))
  (refine region_at (by kernel_rfl) (by kernel_rfl) ?_; intro W hW; rw [hW] at hB P Q; clear hW; have P' := Go.Lib.hid (cls_row' P.out); have Q' := Go.Lib.hid (cls_row' Q.out); (refine wpQuiet_loadmid 26 (.tmp 2) rfl (by first | exact want_n rfl | exact want_g _ _ _ rfl rfl rfl) w.heap.size _ rfl 66 66 p.at _ rw_pic size_pic P'.out (by omega) ?_; rw [pic_row]; simp only [Act.put, List.setIfInBounds_toArray, List.set_cons_succ, List.set_cons_zero]); go_big_quiet_step ((go_at_call 25; exact cls_call _ (fun w hw => HBP.out w))); (refine wpQuiet_loadmid 26 (.tmp 3) rfl (by first | exact want_n rfl | exact want_g _ _ _ rfl rfl rfl) (w.heap.size + 1) _ rfl 66 66 q.at _ rw_pic size_pic Q'.out (by omega) ?_; rw [pic_row]; simp only [Act.put, List.setIfInBounds_toArray, List.set_cons_succ, List.set_cons_zero]); go_big_quiet_step ((go_at_call 25; exact cls_call _ (fun w hw => HBQ.out w))); repeat (go_big_quiet_step (fail)))
  refine wpQuiet_nil ?_
  intro W2 hb
  replace P := Go.Lib.hid (row_next hb P.out); replace Q := Go.Lib.hid (row_next hb Q.out); replace hB := Go.Lib.hid (below_next hB.out hb)
  clear hb P' Q'
  go_wp2_with (first
    | go_skip
    | ((with_reducible refine wlAt 19 rfl ?_); refine wpList_ldm 26 (.tmp 2) rfl (by first | exact want_n rfl | exact want_g _ _ _ rfl rfl rfl) (w.heap.size) _ rfl 66 66 p.at _ rw_pic size_pic P.out (by omega) ?_; rw [pic_row])
    | (go_at_call 26; (refine (HCH.out _ P.out Q.out).mono ?_; rintro e w3 ⟨v, rfl, hO, hb⟩; have hsz := hB.out.size; replace hB := Go.Lib.hid (below_next hB.out hb); have O := Go.Lib.hid hO; clear hb hO)))
  go_ret2
  exact ⟨v, rfl, own_mono hsz O.out, hB.out⟩
end Go.Proofs.Ytlhbdiddcbobjaa
