import Derived.Test.YtekkfgcgmpapmaaDiffer
namespace Go.Proofs.Ytekkfgcgmpapmaa
open Go.RowKit
set_option maxRecDepth 100000
set_option linter.unusedVariables false
attribute [local go_sem] Oper.semAt_some
theorem rw_i64 : (Try.prog.underlying 2).map (·.isRow) = some false := by kernel_rfl
set_option maxRecDepth 100000 in
set_option maxHeartbeats 3000000 in
theorem implDiffer_ok (a b : Sh) (w : World) (ha : a.fit) (hb : b.fit) (hva : okI a = true) (hvb : okI b = true) (hw : a.wide = b.wide) (hh : a.high = b.high) : Calls Try.prog 16 #[.agg a.row, .agg b.row] w fun e w' => e = .returned (.tuple #[.int .i64 (wsum (dif a b) 64), .int .i64 0]) ∧ Below w.heap.size w w' := by
  have hq := dif_eq a b hva hvb hw hh
  have hdya := fun x y hx hy => (ok_bounds a hva x y hx hy).2
  have hdyb := fun x y hx hy => (ok_bounds b hvb x y hx hy).2
  have hbb := hva
  simp only [okI, Bool.and_eq_true, decide_eq_true_eq] at hbb
  obtain ⟨⟨hb1, hb2⟩, ⟨hb3, hb4⟩, _⟩ := hbb
  obtain ⟨aw, haw⟩ : ∃ n : Nat, a.wide = n := ⟨a.wide.toNat, by omega⟩
  obtain ⟨ah, hah⟩ : ∃ n : Nat, a.high = n := ⟨a.high.toNat, by omega⟩
  rw [show a.wide.toNat = aw by omega, show a.high.toNat = ah by omega] at hq
  have ha8 : aw ≤ 8 := by omega
  have hc8 : ah ≤ 8 := by omega
  have hbw : b.wide = aw := by omega
  have hbh : b.high = ah := by omega
  replace hq := Go.Lib.hid hq; replace hdya := Go.Lib.hid hdya; replace hdyb := Go.Lib.hid hdyb
  clear hb1 hb2 hb3 hb4
  have HA0 := fun w => implV_any a w
  rw [hva] at HA0
  have HV0 := fun w => implV_any b w
  rw [hvb] at HV0
  have HA := Go.Lib.hid HA0; have HV := Go.Lib.hid HV0
  clear HA0 HV0 hva hvb hw hh
  have hB : Hid (Below w.heap.size w ((w.alloc (.cells (vrow 266 a.at) 33)).alloc (.cells (vrow 266 b.at) 33))) := (((Below.refl w.heap.size w).alloc (by simp <;> omega) _).alloc (by simp <;> omega) _)
  have P : Hid (((w.alloc (.cells (vrow 266 a.at) 33)).alloc (.cells (vrow 266 b.at) 33)).heap[(w.heap.size)]? = some (.cells (vrow 266 a.at) 33)) := heap_past _ _ _ _ (by first | omega | (simp <;> omega)) (heap_at _ _ _ (by simp))
  have R : Hid (((w.alloc (.cells (vrow 266 a.at) 33)).alloc (.cells (vrow 266 b.at) 33)).heap[(w.heap.size + 1)]? = some (.cells (vrow 266 b.at) 33)) := heap_at _ _ _ (by simp)
  refine (callsIn_wide (n := 9)).1 ?_
  refine callsIn_of_wp_marks Try.func16 rfl trivial ?_ rfl
  simp only [Try.ntmps16, List.size_toArray, List.length_cons, List.length_nil, Nat.reduceAdd, Nat.reduceSub, Array.replicate_succ, Array.replicate_zero, List.push_toArray, List.append_toArray, List.nil_append, List.cons_append]
  refine wpIn_wide.2 ?_
  go_wp2_with (first
    | (refine wpList_load1 rfl 22 _ rfl w.heap.size _ rfl 266 a.at _ _ Try.underlying22 rfl (heap_past _ _ _ _ (row_lt P.out) P.out) (by omega) ?_; (first | rw [Sh.at_0] | rw [Sh.at_1]); simp only [Act.put, List.setIfInBounds_toArray, List.set_cons_succ, List.set_cons_zero])
    | (go_at_call 21; refine (cells_any _ _ _).mono ?_; rintro e w2 ⟨rfl, rfl⟩)
    | (go_at_call 9; first | (refine (HA.out _).mono ?_; rintro e w1 ⟨rfl, hb⟩; replace P := Go.Lib.hid (row_next hb P.out); replace R := Go.Lib.hid (row_next hb R.out); replace hB := Go.Lib.hid (below_next hB.out hb); clear hb ) | (refine (HV.out _).mono ?_; rintro e w1 ⟨rfl, hb⟩; replace P := Go.Lib.hid (row_next hb P.out); replace R := Go.Lib.hid (row_next hb R.out); replace hB := Go.Lib.hid (below_next hB.out hb); clear hb ))
    | (refine list_at 11 rfl ?_; intro W hW; rw [hW] at hB P R; clear hW; have P' := Go.Lib.hid (cls_row' P.out); have R' := Go.Lib.hid (cls_row' R.out); (repeat (first | go_big_quiet_skip | (refine wpQuiet_load1 22 _ rfl (by first | exact want_n rfl | exact want_g _ _ _ rfl rfl rfl) (w.heap.size) _ rfl 266 a.at _ rw_i8 P'.out (by omega) ?_; (first | rw [Sh.at_0] | rw [Sh.at_1] | rw [Sh.at_dye1 _ _ (3 * (8 * k + j) + i) (by omega) (by omega)]); simp only [Act.put, List.setIfInBounds_toArray, List.set_cons_succ, List.set_cons_zero]) | (refine wpQuiet_loadmid 33 _ rfl (by first | exact want_n rfl | exact want_g _ _ _ rfl rfl rfl) (w.heap.size) _ rfl 266 266 a.at _ rw_sheet size_sheet P'.out (by omega) ?_; rw [sh_row]; simp only [Act.put, List.setIfInBounds_toArray, List.set_cons_succ, List.set_cons_zero]) | (refine wpQuiet_load1 22 _ rfl (by first | exact want_n rfl | exact want_g _ _ _ rfl rfl rfl) (w.heap.size + 1) _ rfl 266 b.at _ rw_i8 R'.out (by omega) ?_; (first | rw [Sh.at_0] | rw [Sh.at_1] | rw [Sh.at_dye1 _ _ (3 * (8 * k + j) + i) (by omega) (by omega)]); simp only [Act.put, List.setIfInBounds_toArray, List.set_cons_succ, List.set_cons_zero]) | (refine wpQuiet_loadmid 33 _ rfl (by first | exact want_n rfl | exact want_g _ _ _ rfl rfl rfl) (w.heap.size + 1) _ rfl 266 266 b.at _ rw_sheet size_sheet R'.out (by omega) ?_; rw [sh_row]; simp only [Act.put, List.setIfInBounds_toArray, List.set_cons_succ, List.set_cons_zero]) | go_big_quiet_step ((go_at_call 9; first | with_reducible exact cls_call _ (fun w hw => HA.out w) | with_reducible exact cls_call _ (fun w hw => HV.out w))))); refine wpQuiet_nil ?_; intro Wn hb; replace P := Go.Lib.hid (row_next hb P.out); replace R := Go.Lib.hid (row_next hb R.out); replace hB := Go.Lib.hid (below_next hB.out hb); clear hb P' R')
    | (refine list_at 20 rfl ?_; intro W hW; rw [hW] at hB P R; clear hW; have P' := Go.Lib.hid (cls_row' P.out); have R' := Go.Lib.hid (cls_row' R.out); (repeat (first | go_big_quiet_skip | (refine wpQuiet_load1 22 _ rfl (by first | exact want_n rfl | exact want_g _ _ _ rfl rfl rfl) (w.heap.size) _ rfl 266 a.at _ rw_i8 P'.out (by omega) ?_; (first | rw [Sh.at_0] | rw [Sh.at_1] | rw [Sh.at_dye1 _ _ (3 * (8 * k + j) + i) (by omega) (by omega)]); simp only [Act.put, List.setIfInBounds_toArray, List.set_cons_succ, List.set_cons_zero]) | (refine wpQuiet_loadmid 33 _ rfl (by first | exact want_n rfl | exact want_g _ _ _ rfl rfl rfl) (w.heap.size) _ rfl 266 266 a.at _ rw_sheet size_sheet P'.out (by omega) ?_; rw [sh_row]; simp only [Act.put, List.setIfInBounds_toArray, List.set_cons_succ, List.set_cons_zero]) | (refine wpQuiet_load1 22 _ rfl (by first | exact want_n rfl | exact want_g _ _ _ rfl rfl rfl) (w.heap.size + 1) _ rfl 266 b.at _ rw_i8 R'.out (by omega) ?_; (first | rw [Sh.at_0] | rw [Sh.at_1] | rw [Sh.at_dye1 _ _ (3 * (8 * k + j) + i) (by omega) (by omega)]); simp only [Act.put, List.setIfInBounds_toArray, List.set_cons_succ, List.set_cons_zero]) | (refine wpQuiet_loadmid 33 _ rfl (by first | exact want_n rfl | exact want_g _ _ _ rfl rfl rfl) (w.heap.size + 1) _ rfl 266 266 b.at _ rw_sheet size_sheet R'.out (by omega) ?_; rw [sh_row]; simp only [Act.put, List.setIfInBounds_toArray, List.set_cons_succ, List.set_cons_zero]) | go_big_quiet_step ((go_at_call 9; first | with_reducible exact cls_call _ (fun w hw => HA.out w) | with_reducible exact cls_call _ (fun w hw => HV.out w))))); refine wpQuiet_nil ?_; intro Wn hb; replace P := Go.Lib.hid (row_next hb P.out); replace R := Go.Lib.hid (row_next hb R.out); replace hB := Go.Lib.hid (below_next hB.out hb); clear hb P' R'))
  have P1 := heap_past Wn (.cells #[.int .i64 0] 2) _ _ (row_lt P.out) P.out
  have R1 := heap_past Wn (.cells #[.int .i64 0] 2) _ _ (row_lt R.out) R.out
  have hB0 := hB.out.alloc hB.out.size (.cells #[.int .i64 0] 2)
  have D1 : (Wn.alloc (.cells #[.int .i64 0] 2)).heap[Wn.heap.size]? = some (.cells (vrow 1 fun _ => .int .i64 (psumL (dif a b) [])) 2) := heap_at _ _ _ rfl
  have hw1 : w.heap.size + 1 < Wn.heap.size := row_lt R.out
  clear P R hB
  generalize hWn : Wn.alloc _ = W1 at P1 R1 hB0 D1 ⊢
  have hws : W1.heap.size = Wn.heap.size + 1 := by rw [← hWn]; simp
  clear hWn
  generalize Wn.heap.size = dd at hw1 D1 hws ⊢
  have c1 := heap_at (W1.alloc (.cells #[.int .i8 aw] 22)) (.cells #[.int .i8 ah] 22) (W1.heap.size + 1) (by simp)
  have c2 := heap_past (W1.alloc (.cells #[.int .i8 aw] 22)) (.cells #[.int .i8 ah] 22) _ W1.heap.size (by simp) (heap_at W1 (.cells #[.int .i8 aw] 22) _ rfl)
  have hB1 : Below W1.heap.size W1 ((W1.alloc (.cells #[.int .i8 aw] 22)).alloc (.cells #[.int .i8 ah] 22)) := ((Below.refl _ _).alloc (Nat.le_refl _) _).alloc (by simp) _
  obtain ⟨W0, hW0⟩ : ∃ W0, (W1.alloc (.cells #[.int .i8 aw] 22)).alloc (.cells #[.int .i8 ah] 22) = W0 := ⟨_, rfl⟩
  rw [hW0] at c1 c2 hB1 ⊢
  clear hW0
  rw [hws] at c1 c2
  have P := row_next hB1 P1; have R := row_next hB1 R1; have D := row_next hB1 D1; have hB := below_next hB0 hB1
  clear P1 R1 D1 hB0 HA HV
  have hs0 := row_lt c1
  refine wp_cells (d := 7) (dd + 1 + 1) (dd + 1) aw ah (by omega) (by omega) rfl c1 c2
    (fun pre W => W.heap[w.heap.size]? = some (.cells (vrow 266 a.at) 33) ∧ W.heap[w.heap.size + 1]? = some (.cells (vrow 266 b.at) 33) ∧ W.heap[dd]? = some (.cells (vrow 1 fun _ => .int .i64 (psumL (dif a b) pre)) 2) ∧ Below w.heap.size w W)
    (fun _ _ _ => False)
    (OwnFrom.and (own_row (by omega)) (OwnFrom.and (own_row (by omega)) (OwnFrom.and (own_rowD (o := fun pre => .cells (vrow 1 fun _ => .int .i64 (psumL (dif a b) pre)) 2) (by omega)) (ownFrom_below (Nat.le_refl _) (by omega)))))
    (fun c => own_pure _)
    ⟨P, R, D, hB⟩ ?assign ?body ?done ?stop
  case assign =>
    intro l x W K hK
    simp only [List.setIfInBounds_toArray, List.set_cons_succ, List.set_cons_zero] at hK ⊢
    have zs := zero_spot
    gi_wp2_with (refine wpListIn_storeall rfl 52 (.tmp 7) (.tmp 36) rfl _ rfl 2 (spAt 0 0) (spAt x.1.1 x.1.2) rfl 52 size_spot (heap_at _ _ _ rfl) (fun i _ => spAt_one _ _ i) ?_; rw [setRow_at _ _ _ _ _ rfl])
    exact hK
  case body =>
    rintro l pre ⟨⟨x, y⟩, hx, hy⟩ Wb W Bx hK hBx S hsz ⟨P, R, D, hB⟩ hlen
    simp only [List.setIfInBounds_toArray, List.set_cons_succ, List.set_cons_zero] at S ⊢
    clear c1 c2 hB1
    have hpl : pre.length ≤ 64 := by
      have : aw * ah ≤ 8 * 8 := Nat.mul_le_mul (by omega) (by omega)
      omega
    replace hx : x < 8 := hx
    replace hy : y < 8 := hy
    obtain ⟨p, hp⟩ : ∃ p : Sp8, p = ⟨(x, y), hx, hy⟩ := ⟨_, rfl⟩
    have hap : psumL (dif a b) (pre ++ [p]) = psumL (dif a b) pre + tri a b (8 * y + x) 3 := (psumL_app (dif a b) pre p).trans (by rw [hp]; rfl)
    rw [← hp]
    clear hp
    have hk1 : KeepsFrom W0.heap.size Wb W := keeps_below hK
    have hk2 : Kp2 (dd + 1 + 1) (dd + 1) Wb W := Kp2.of_lt hK (by omega) (by omega)
    clear hK
    replace S := Go.Lib.hid S; replace P := Go.Lib.hid P; replace R := Go.Lib.hid R; replace D := Go.Lib.hid D; replace hB := Go.Lib.hid hB; replace hk1 := Go.Lib.hid hk1; replace hk2 := Go.Lib.hid hk2; replace hap := Go.Lib.hid hap
    gi_wp2
    (refine region_atI (by kernel_rfl) (by kernel_rfl) ?_; intro W hW; rw [hW] at hB hk2 hk1 P R S D; clear hW; have P' := Go.Lib.hid (cls_row' P.out); have R' := Go.Lib.hid (cls_row' R.out); have S' := Go.Lib.hid (cls_row' S.out); have D' := Go.Lib.hid (cls_row' D.out); (repeat (first | go_big_quiet_skip | (refine wpQuiet_loadmid 26 _ rfl (by first | exact want_n rfl | exact want_g _ _ _ rfl rfl rfl) (w.heap.size) _ rfl 266 3 a.at _ rw_d3 size_d3 P'.out (by omega) ?_; rw [Sh.at_d3 _ _ (24 * y + 3 * x) (by omega) (by omega)]; simp only [Act.put, List.setIfInBounds_toArray, List.set_cons_succ, List.set_cons_zero]) | (refine wpQuiet_load1 23 _ rfl (by first | exact want_n rfl | exact want_g _ _ _ rfl rfl rfl) (w.heap.size + 1) _ rfl 266 b.at _ rw_i16 R'.out (by omega) ?_; (first | rw [Sh.at_0] | rw [Sh.at_1] | rw [Sh.at_dye1 _ _ (24 * y + 3 * x + i) (by omega) (by omega)]); simp only [Act.put, List.setIfInBounds_toArray, List.set_cons_succ, List.set_cons_zero]) | (refine wpQuiet_load1 22 _ rfl (by first | exact want_n rfl | exact want_g _ _ _ rfl rfl rfl) Bx _ rfl 2 (spAt x y) _ rw_i8 S'.out (by omega) ?_; (first | rw [spAt_0] | rw [spAt_1]); simp only [Act.put, List.setIfInBounds_toArray, List.set_cons_succ, List.set_cons_zero]) | go_big_quiet_step (fail))); refine wpQuiet_nil ?_; intro Wn hb; replace P := Go.Lib.hid (row_next hb P.out); replace R := Go.Lib.hid (row_next hb R.out); replace S := Go.Lib.hid (row_next hb S.out); replace D := Go.Lib.hid (row_next hb D.out); replace hB := Go.Lib.hid (below_next hB.out hb); replace hk2 := Go.Lib.hid (Kp2.t hk2.out (Kp2.of_lt hb (by have := hk1.out.size; omega) (by have := hk1.out.size; omega))); replace hk1 := Go.Lib.hid (hk1.out.trans (keeps_below hb)); clear hb P' R' S' D')
    gi_wp2
    gi_loopw [45] (fun z wr => ∃ i : Nat, i ≤ 3 ∧ z = .int .i64 i ∧ KeepsFrom W0.heap.size Wb wr ∧ Kp2 (dd + 1 + 1) (dd + 1) Wb wr ∧ Below w.heap.size w wr ∧ wr.heap[w.heap.size]? = some (.cells (vrow 266 a.at) 33) ∧ wr.heap[w.heap.size + 1]? = some (.cells (vrow 266 b.at) 33) ∧ wr.heap[Bx]? = some (.cells (vrow 2 (spAt x y)) 52) ∧ wr.heap[dd]? = some (.cells (vrow 1 fun _ => .int .i64 (psumL (dif a b) pre + tri a b (8 * y + x) i)) 2)) (fun z _ => 3 - (intOf z).toNat)
    case atStart => exact ⟨0, by omega, rfl, hk1.out, hk2.out, hB.out, P.out, R.out, S.out, by simpa [tri] using D.out⟩
    case round =>
      clear hk1 hk2 hB P R D S
      obtain ⟨i, hi, rfl, hk1, hk2, hB, P, R, S, D⟩ := hrel
      replace S := Go.Lib.hid S; replace P := Go.Lib.hid P; replace R := Go.Lib.hid R; replace D := Go.Lib.hid D; replace hB := Go.Lib.hid hB; replace hk1 := Go.Lib.hid hk1; replace hk2 := Go.Lib.hid hk2
      by_cases hli : i < 3
      · have hix := idx_d3 a x y i hli
        have ga : 0 ≤ a.dye (24 * y + 3 * x + i) ∧ a.dye (24 * y + 3 * x + i) ≤ 1000 := by
          obtain ⟨q0, q1, q2⟩ := hdya.out x y hx hy
          have : i = 0 ∨ i = 1 ∨ i = 2 := by omega
          rcases this with rfl | rfl | rfl <;> assumption
        have gb : 0 ≤ b.dye (24 * y + 3 * x + i) ∧ b.dye (24 * y + 3 * x + i) ≤ 1000 := by
          obtain ⟨q0, q1, q2⟩ := hdyb.out x y hx hy
          have : i = 0 ∨ i = 1 ∨ i = 2 := by omega
          rcases this with rfl | rfl | rfl <;> assumption
        obtain ⟨g1, g2⟩ := ga
        obtain ⟨g3, g4⟩ := gb
        obtain ⟨g5, g6⟩ := pdif_bd a b ha hb pre
        obtain ⟨g7, g8⟩ := tri_bd a b ha hb (8 * y + x) (by omega) i hi
        have had : tri a b (8 * y + x) (i + 1) = tri a b (8 * y + x) i + ad a b (24 * y + 3 * x + i) := by
          show _ + ad a b (3 * (8 * y + x) + i) = _
          rw [show 3 * (8 * y + x) + i = 24 * y + 3 * x + i by omega]
        replace had := Go.Lib.hid had
        have hxI : (x : Int) < 8 := by omega
        have hyI : (y : Int) < 8 := by omega
        have hzI : (i : Int) < 3 := by omega
        gi_wp2
        (refine region_atI (by kernel_rfl) (by kernel_rfl) ?_; intro W hW; rw [hW] at hB hk2 hk1 P R S D; clear hW; have P' := Go.Lib.hid (cls_row' P.out); have R' := Go.Lib.hid (cls_row' R.out); have S' := Go.Lib.hid (cls_row' S.out); have D' := Go.Lib.hid (cls_row' D.out); (repeat (first | go_big_quiet_skip | (refine wpQuiet_loadmid 26 _ rfl (by first | exact want_n rfl | exact want_g _ _ _ rfl rfl rfl) (w.heap.size) _ rfl 266 3 a.at _ rw_d3 size_d3 P'.out (by omega) ?_; rw [Sh.at_d3 _ _ (24 * y + 3 * x) (by omega) (by omega)]; simp only [Act.put, List.setIfInBounds_toArray, List.set_cons_succ, List.set_cons_zero]) | (refine wpQuiet_load1 23 _ rfl (by first | exact want_n rfl | exact want_g _ _ _ rfl rfl rfl) (w.heap.size + 1) _ rfl 266 b.at _ rw_i16 R'.out (by omega) ?_; (first | rw [Sh.at_0] | rw [Sh.at_1] | rw [Sh.at_dye1 _ _ (24 * y + 3 * x + i) (by omega) (by omega)]); simp only [Act.put, List.setIfInBounds_toArray, List.set_cons_succ, List.set_cons_zero]) | (refine wpQuiet_load1 22 _ rfl (by first | exact want_n rfl | exact want_g _ _ _ rfl rfl rfl) Bx _ rfl 2 (spAt x y) _ rw_i8 S'.out (by omega) ?_; (first | rw [spAt_0] | rw [spAt_1]); simp only [Act.put, List.setIfInBounds_toArray, List.set_cons_succ, List.set_cons_zero]) | go_big_quiet_step (fail))); refine wpQuiet_nil ?_; intro Wn hb; replace P := Go.Lib.hid (row_next hb P.out); replace R := Go.Lib.hid (row_next hb R.out); replace S := Go.Lib.hid (row_next hb S.out); replace D := Go.Lib.hid (row_next hb D.out); replace hB := Go.Lib.hid (below_next hB.out hb); replace hk2 := Go.Lib.hid (Kp2.t hk2.out (Kp2.of_lt hb (by have := hk1.out.size; omega) (by have := hk1.out.size; omega))); replace hk1 := Go.Lib.hid (hk1.out.trans (keeps_below hb)); clear hb P' R' S' D')
        rcases Int.lt_trichotomy (a.dye (24 * y + 3 * x + i)) (b.dye (24 * y + 3 * x + i)) with h1 | h1 | h1
        · have h2 : ¬ b.dye (24 * y + 3 * x + i) < a.dye (24 * y + 3 * x + i) := by omega
          have hadv := Go.Lib.hid (show ad a b (24 * y + 3 * x + i) = b.dye (24 * y + 3 * x + i) - a.dye (24 * y + 3 * x + i) by unfold ad; split <;> omega)
          gi_wp2_with (first
            | (refine wpListIn_load1 rfl 2 _ rfl dd _ rfl 1 (fun _ => .int .i64 (psumL (dif a b) pre + tri a b (8 * y + x) i)) _ _ Try.underlying2 rfl D.out (by omega) ?_; simp only [Act.put, List.setIfInBounds_toArray, List.set_cons_succ, List.set_cons_zero])
            | (refine wpListIn_store1 rfl 2 (.tmp 6) (.tmp 68) rfl dd 0 rfl 1 (fun _ => .int .i64 (psumL (dif a b) pre + tri a b (8 * y + x) i)) (.int .i64 (psumL (dif a b) pre + tri a b (8 * y + x) (i + 1))) (by first | (rw [had.out, hadv.out, ← Int.add_assoc]; rfl) | (rw [had.out, hadv.out]; refine congrArg (Value.int .i64) ?_; omega)) 2 size_i64 D.out (by omega) rfl ?_; rw [vrow_over_all]; replace hk1 := Go.Lib.hid (hk1.out.trans (keeps_setRow D.out (vrow 1 fun _ => .int .i64 (psumL (dif a b) pre + tri a b (8 * y + x) (i + 1))))); replace hk2 := Go.Lib.hid (hk2.out.setRow (show dd + 1 + 1 ≠ dd by omega) (show dd + 1 ≠ dd by omega) (vrow 1 fun _ => .int .i64 (psumL (dif a b) pre + tri a b (8 * y + x) (i + 1)))); replace P := Go.Lib.hid (row_set' (show w.heap.size ≠ dd by omega) P.out (vrow 1 fun _ => .int .i64 (psumL (dif a b) pre + tri a b (8 * y + x) (i + 1)))); replace R := Go.Lib.hid (row_set' (show w.heap.size + 1 ≠ dd by omega) R.out (vrow 1 fun _ => .int .i64 (psumL (dif a b) pre + tri a b (8 * y + x) (i + 1)))); replace S := Go.Lib.hid (row_set' (show Bx ≠ dd by omega) S.out (vrow 1 fun _ => .int .i64 (psumL (dif a b) pre + tri a b (8 * y + x) (i + 1)))); replace hB := Go.Lib.hid (Below_setRow hB.out (show w.heap.size ≤ dd by omega) (vrow 1 fun _ => .int .i64 (psumL (dif a b) pre + tri a b (8 * y + x) (i + 1)))); replace D := Go.Lib.hid (row_set D.out (vrow 1 fun _ => .int .i64 (psumL (dif a b) pre + tri a b (8 * y + x) (i + 1))))))
          go_roundw
          case rel => exact ⟨i + 1, by omega, by go_num, hk1.out, hk2.out, hB.out, P.out, R.out, S.out, D.out⟩
          case measure => simp [intOf]; omega
        · have h2 : ¬ b.dye (24 * y + 3 * x + i) < a.dye (24 * y + 3 * x + i) := by omega
          have h3 : ¬ a.dye (24 * y + 3 * x + i) < b.dye (24 * y + 3 * x + i) := by omega
          have hadv := Go.Lib.hid (show ad a b (24 * y + 3 * x + i) = 0 by unfold ad; split <;> omega)
          gi_wp2_with (first
            | (refine wpListIn_load1 rfl 2 _ rfl dd _ rfl 1 (fun _ => .int .i64 (psumL (dif a b) pre + tri a b (8 * y + x) i)) _ _ Try.underlying2 rfl D.out (by omega) ?_; simp only [Act.put, List.setIfInBounds_toArray, List.set_cons_succ, List.set_cons_zero])
            | (refine wpListIn_store1 rfl 2 (.tmp 6) (.tmp 68) rfl dd 0 rfl 1 (fun _ => .int .i64 (psumL (dif a b) pre + tri a b (8 * y + x) i)) (.int .i64 (psumL (dif a b) pre + tri a b (8 * y + x) (i + 1))) (by first | (rw [had.out, hadv.out, ← Int.add_assoc]; rfl) | (rw [had.out, hadv.out]; refine congrArg (Value.int .i64) ?_; omega)) 2 size_i64 D.out (by omega) rfl ?_; rw [vrow_over_all]; replace hk1 := Go.Lib.hid (hk1.out.trans (keeps_setRow D.out (vrow 1 fun _ => .int .i64 (psumL (dif a b) pre + tri a b (8 * y + x) (i + 1))))); replace hk2 := Go.Lib.hid (hk2.out.setRow (show dd + 1 + 1 ≠ dd by omega) (show dd + 1 ≠ dd by omega) (vrow 1 fun _ => .int .i64 (psumL (dif a b) pre + tri a b (8 * y + x) (i + 1)))); replace P := Go.Lib.hid (row_set' (show w.heap.size ≠ dd by omega) P.out (vrow 1 fun _ => .int .i64 (psumL (dif a b) pre + tri a b (8 * y + x) (i + 1)))); replace R := Go.Lib.hid (row_set' (show w.heap.size + 1 ≠ dd by omega) R.out (vrow 1 fun _ => .int .i64 (psumL (dif a b) pre + tri a b (8 * y + x) (i + 1)))); replace S := Go.Lib.hid (row_set' (show Bx ≠ dd by omega) S.out (vrow 1 fun _ => .int .i64 (psumL (dif a b) pre + tri a b (8 * y + x) (i + 1)))); replace hB := Go.Lib.hid (Below_setRow hB.out (show w.heap.size ≤ dd by omega) (vrow 1 fun _ => .int .i64 (psumL (dif a b) pre + tri a b (8 * y + x) (i + 1)))); replace D := Go.Lib.hid (row_set D.out (vrow 1 fun _ => .int .i64 (psumL (dif a b) pre + tri a b (8 * y + x) (i + 1))))))
          go_roundw
          case rel => exact ⟨i + 1, by omega, by go_num, hk1.out, hk2.out, hB.out, P.out, R.out, S.out, D.out⟩
          case measure => simp [intOf]; omega
        · have h2 : ¬ a.dye (24 * y + 3 * x + i) < b.dye (24 * y + 3 * x + i) := by omega
          have hadv := Go.Lib.hid (show ad a b (24 * y + 3 * x + i) = a.dye (24 * y + 3 * x + i) - b.dye (24 * y + 3 * x + i) by unfold ad; split <;> omega)
          gi_wp2_with (first
            | (refine wpListIn_load1 rfl 2 _ rfl dd _ rfl 1 (fun _ => .int .i64 (psumL (dif a b) pre + tri a b (8 * y + x) i)) _ _ Try.underlying2 rfl D.out (by omega) ?_; simp only [Act.put, List.setIfInBounds_toArray, List.set_cons_succ, List.set_cons_zero])
            | (refine wpListIn_store1 rfl 2 (.tmp 6) (.tmp 68) rfl dd 0 rfl 1 (fun _ => .int .i64 (psumL (dif a b) pre + tri a b (8 * y + x) i)) (.int .i64 (psumL (dif a b) pre + tri a b (8 * y + x) (i + 1))) (by first | (rw [had.out, hadv.out, ← Int.add_assoc]; rfl) | (rw [had.out, hadv.out]; refine congrArg (Value.int .i64) ?_; omega)) 2 size_i64 D.out (by omega) rfl ?_; rw [vrow_over_all]; replace hk1 := Go.Lib.hid (hk1.out.trans (keeps_setRow D.out (vrow 1 fun _ => .int .i64 (psumL (dif a b) pre + tri a b (8 * y + x) (i + 1))))); replace hk2 := Go.Lib.hid (hk2.out.setRow (show dd + 1 + 1 ≠ dd by omega) (show dd + 1 ≠ dd by omega) (vrow 1 fun _ => .int .i64 (psumL (dif a b) pre + tri a b (8 * y + x) (i + 1)))); replace P := Go.Lib.hid (row_set' (show w.heap.size ≠ dd by omega) P.out (vrow 1 fun _ => .int .i64 (psumL (dif a b) pre + tri a b (8 * y + x) (i + 1)))); replace R := Go.Lib.hid (row_set' (show w.heap.size + 1 ≠ dd by omega) R.out (vrow 1 fun _ => .int .i64 (psumL (dif a b) pre + tri a b (8 * y + x) (i + 1)))); replace S := Go.Lib.hid (row_set' (show Bx ≠ dd by omega) S.out (vrow 1 fun _ => .int .i64 (psumL (dif a b) pre + tri a b (8 * y + x) (i + 1)))); replace hB := Go.Lib.hid (Below_setRow hB.out (show w.heap.size ≤ dd by omega) (vrow 1 fun _ => .int .i64 (psumL (dif a b) pre + tri a b (8 * y + x) (i + 1)))); replace D := Go.Lib.hid (row_set D.out (vrow 1 fun _ => .int .i64 (psumL (dif a b) pre + tri a b (8 * y + x) (i + 1))))))
          go_roundw
          case rel => exact ⟨i + 1, by omega, by go_num, hk1.out, hk2.out, hB.out, P.out, R.out, S.out, D.out⟩
          case measure => simp [intOf]; omega
      · obtain rfl : i = 3 := by omega
        rw [← hap.out] at D
        gi_wp2
        exact ⟨hk1.out, hk2.out, P.out, R.out, D.out, hB.out⟩
  case done =>
    rintro DD W hDD ⟨P, R, D, hB⟩ hd
    replace hd := Go.Lib.hid hd; replace hB := Go.Lib.hid hB; replace D := Go.Lib.hid D
    go_wp2_with (first
      | (refine wpList_load1 rfl 2 _ rfl dd _ rfl 1 (fun _ => .int .i64 (psumL (dif a b) (cellsL aw ah))) _ _ Try.underlying2 rfl D.out (by omega) ?_; simp only [Act.put, List.setIfInBounds_toArray, List.set_cons_succ, List.set_cons_zero]))
    have hlt := row_lt hd.out
    refine leaveM rfl hd.out (results_tmp2 Try.results16 _ _ _) ?_
    exact ⟨by rw [← hq.out]; rfl, below_put _ hB.out (by omega) hlt⟩
  case stop =>
    rintro D c pre W hD h hd
    exact h.elim
end Go.Proofs.Ytekkfgcgmpapmaa
