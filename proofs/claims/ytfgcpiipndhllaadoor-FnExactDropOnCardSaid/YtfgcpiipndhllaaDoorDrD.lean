import Derived.Test.YtfgcpiipndhllaaDoorDrC
import Derived.Test.YtfgcpiipndhllaaDoorPUnI
namespace Go.Proofs.YtfgcpiipndhllaaDoor
open Go.RowKit
set_option maxRecDepth 100000
set_option linter.unusedVariables false
set_option linter.unusedSimpArgs false
theorem belowG {w A B : World} {b : Nat} (h : Below w.heap.size w A) (g : A.grownBy B (some b)) (hb : w.heap.size ≤ b) : Below w.heap.size w B :=
  h.grown g h.size (fun q hq => by cases hq; exact hb)
set_option maxHeartbeats 2000000 in
theorem specAll_err (p : Pic) (D n : Nat) (px py pn : Nat → Int) (k : Int) (w : World) (hf : p.fit) (hpx : ∀ i, i < n → -128 ≤ px i ∧ px i ≤ 127) (hpy : ∀ i, i < n → -128 ≤ py i ∧ py i ≤ 127) (hpn : ∀ i, i < n → 0 ≤ pn i ∧ pn i ≤ 255) (h : badD p px py pn n k) (hd : w.heap[D]? = some (.cells (vrow (n * 3) (drf px py pn)) 66)) : Calls Tryd.prog 33 #[.agg p.row, .slice (some ⟨D, 0, none⟩) n n] w fun o w' => o = .returned (.tuple #[.agg Pic.zero.row, .int .i64 k]) ∧ Below w.heap.size w w' := by
  have hDl := row_lt hd
  have zz := zero_pic
  have P : Hid (((w.alloc (.cells (vrow 66 p.at) 61)).alloc (.cells (vrow 66 Pic.zero.at) 61)).heap[w.heap.size]? = some (.cells (vrow 66 p.at) 61)) := (heap_past _ _ _ _ (by simp <;> omega) (heap_at _ _ _ (by simp)))
  have Z : Hid (((w.alloc (.cells (vrow 66 p.at) 61)).alloc (.cells (vrow 66 Pic.zero.at) 61)).heap[w.heap.size + 1]? = some (.cells (vrow 66 Pic.zero.at) 61)) := (heap_at _ _ _ (by simp))
  have hB : Hid (Below w.heap.size w ((w.alloc (.cells (vrow 66 p.at) 61)).alloc (.cells (vrow 66 Pic.zero.at) 61))) := Go.Lib.hid (((Below.refl w.heap.size w).alloc (by simp <;> omega) _).alloc (by simp <;> omega) _)
  have R : Hid (((w.alloc (.cells (vrow 66 p.at) 61)).alloc (.cells (vrow 66 Pic.zero.at) 61)).heap[D]? = some (.cells (vrow (n * 3) (drf px py pn)) 66)) := heap_past _ _ _ _ (by simp; omega) (heap_past _ _ _ _ hDl hd)
  clear hd
  have HL : Hid (∀ W, W.heap[w.heap.size]? = some (.cells (vrow 66 p.at) 61) → W.heap[D]? = some (.cells (vrow (n * 3) (drf px py pn)) 66) → Calls Tryd.prog 88 #[.pointer (some ⟨w.heap.size, 0, none⟩), .slice (some ⟨D, 0, none⟩) n n] W fun o w' => W.grownBy w' (some w.heap.size) ∧ o = .returned (.int .i64 k)) := Go.Lib.hid fun W h1 h2 => by
    rcases h with ⟨g1, rfl⟩ | ⟨g1, g2, rfl⟩ | ⟨g1, g2, g3, rfl⟩
    · exact (lall_bad p _ _ n n W h1 hf g1).mono fun o w' ⟨e1, e2⟩ => ⟨grown_next (grown_refl _ _) e2, e1⟩
    · exact (lall_lim p _ _ n n W h1 hf g1 g2).mono fun o w' ⟨e1, e2⟩ => ⟨grown_next (grown_refl _ _) e2, e1⟩
    · obtain ⟨a, c, ea, ec, ha, hc⟩ := okP_nat2 g1
      refine (lall_any p _ D n a c px py pn W h1 h2 (by omega) hf g1 ea ec ha.2 hc.2 g2 hpx hpy hpn).mono ?_
      rintro o w' ⟨e1, ⟨e2, _⟩ | ⟨_, e3⟩⟩
      · rw [g3] at e2; cases e2
      · exact ⟨e1, e3⟩
  have hk : k = 1 ∨ k = 2 ∨ k = 3 := by rcases h with ⟨_, rfl⟩ | ⟨_, _, rfl⟩ | ⟨_, _, _, rfl⟩ <;> simp
  clear h
  rcases hk with rfl | rfl | rfl
  · skip
    go_enter Tryd.func33, Tryd.ntmps33
    go_wp2_with (first
      | go_skip
      | (go_at_call 88; (refine (HL.out _ P.out R.out).mono ?_); rintro o w1 ⟨hg, rfl⟩; replace Z := Go.Lib.hid (grown_row hg Z.out (by simp)); replace hB := Go.Lib.hid (belowG hB.out hg (by omega)); clear hg P R)
      | ((with_reducible refine wlAt 11 rfl ?_); refine wpList_built rfl 61 [] rfl [] (by rfl) _ pbuilt_zero ?_)
      | ((with_reducible refine wlOp (.store 61 (.tmp 4) (.tmp 11)) rfl ?_); refine wpList_storeall rfl 61 (.tmp 4) (.tmp 11) rfl (w.heap.size + 1) rfl 66 Pic.zero.at Pic.zero.at rfl 61 size_pic Z.out (fun i _ => Pic.one _ i) ?_; replace Z := Go.Lib.hid (row_set Z.out (vrow 66 Pic.zero.at)); replace hB := Go.Lib.hid (Below_setRow hB.out (show w.heap.size ≤ w.heap.size + 1 by omega) (vrow 66 Pic.zero.at))))
    exact ret_row2 Tryd.results33 (w.heap.size + 1) 66 Pic.zero.at 61 _ Tryd.underlying61 rfl size_pic (.int .i64 1) rfl rfl rfl Z.out ⟨rfl, hB.out⟩
  · skip
    go_enter Tryd.func33, Tryd.ntmps33
    go_wp2_with (first
      | go_skip
      | (go_at_call 88; (refine (HL.out _ P.out R.out).mono ?_); rintro o w1 ⟨hg, rfl⟩; replace Z := Go.Lib.hid (grown_row hg Z.out (by simp)); replace hB := Go.Lib.hid (belowG hB.out hg (by omega)); clear hg P R)
      | ((with_reducible refine wlAt 11 rfl ?_); refine wpList_built rfl 61 [] rfl [] (by rfl) _ pbuilt_zero ?_)
      | ((with_reducible refine wlOp (.store 61 (.tmp 4) (.tmp 11)) rfl ?_); refine wpList_storeall rfl 61 (.tmp 4) (.tmp 11) rfl (w.heap.size + 1) rfl 66 Pic.zero.at Pic.zero.at rfl 61 size_pic Z.out (fun i _ => Pic.one _ i) ?_; replace Z := Go.Lib.hid (row_set Z.out (vrow 66 Pic.zero.at)); replace hB := Go.Lib.hid (Below_setRow hB.out (show w.heap.size ≤ w.heap.size + 1 by omega) (vrow 66 Pic.zero.at))))
    exact ret_row2 Tryd.results33 (w.heap.size + 1) 66 Pic.zero.at 61 _ Tryd.underlying61 rfl size_pic (.int .i64 2) rfl rfl rfl Z.out ⟨rfl, hB.out⟩
  · skip
    go_enter Tryd.func33, Tryd.ntmps33
    go_wp2_with (first
      | go_skip
      | (go_at_call 88; (refine (HL.out _ P.out R.out).mono ?_); rintro o w1 ⟨hg, rfl⟩; replace Z := Go.Lib.hid (grown_row hg Z.out (by simp)); replace hB := Go.Lib.hid (belowG hB.out hg (by omega)); clear hg P R)
      | ((with_reducible refine wlAt 11 rfl ?_); refine wpList_built rfl 61 [] rfl [] (by rfl) _ pbuilt_zero ?_)
      | ((with_reducible refine wlOp (.store 61 (.tmp 4) (.tmp 11)) rfl ?_); refine wpList_storeall rfl 61 (.tmp 4) (.tmp 11) rfl (w.heap.size + 1) rfl 66 Pic.zero.at Pic.zero.at rfl 61 size_pic Z.out (fun i _ => Pic.one _ i) ?_; replace Z := Go.Lib.hid (row_set Z.out (vrow 66 Pic.zero.at)); replace hB := Go.Lib.hid (Below_setRow hB.out (show w.heap.size ≤ w.heap.size + 1 by omega) (vrow 66 Pic.zero.at))))
    exact ret_row2 Tryd.results33 (w.heap.size + 1) 66 Pic.zero.at 61 _ Tryd.underlying61 rfl size_pic (.int .i64 3) rfl rfl rfl Z.out ⟨rfl, hB.out⟩
set_option maxHeartbeats 2000000 in
theorem specAll_ok (p : Pic) (D n a c : Nat) (px py pn : Nat → Int) (w : World) (hf : p.fit) (hpx : ∀ i, i < n → -128 ≤ px i ∧ px i ≤ 127) (hpy : ∀ i, i < n → -128 ≤ py i ∧ py i ≤ 127) (hpn : ∀ i, i < n → 0 ≤ pn i ∧ pn i ≤ 255) (h1 : okP p = true) (hn : n ≤ 100) (hcan : canA p px py pn n = true) (ea : p.wide = a) (ec : p.high = c) (ha : a ≤ 8) (hc : c ≤ 8) (hd : w.heap[D]? = some (.cells (vrow (n * 3) (drf px py pn)) 66)) : Calls Tryd.prog 33 #[.agg p.row, .slice (some ⟨D, 0, none⟩) n n] w fun o w' => o = .returned (.tuple #[.agg (drpP p a c px py pn n).row, .int .i64 0]) ∧ Below w.heap.size w w' := by
  have hDl := row_lt hd
  have zz := zero_pic
  have P : Hid (((w.alloc (.cells (vrow 66 p.at) 61)).alloc (.cells (vrow 66 Pic.zero.at) 61)).heap[w.heap.size]? = some (.cells (vrow 66 p.at) 61)) := (heap_past _ _ _ _ (by simp <;> omega) (heap_at _ _ _ (by simp)))
  have Z : Hid (((w.alloc (.cells (vrow 66 p.at) 61)).alloc (.cells (vrow 66 Pic.zero.at) 61)).heap[w.heap.size + 1]? = some (.cells (vrow 66 Pic.zero.at) 61)) := (heap_at _ _ _ (by simp))
  have hB : Hid (Below w.heap.size w ((w.alloc (.cells (vrow 66 p.at) 61)).alloc (.cells (vrow 66 Pic.zero.at) 61))) := Go.Lib.hid (((Below.refl w.heap.size w).alloc (by simp <;> omega) _).alloc (by simp <;> omega) _)
  have R : Hid (((w.alloc (.cells (vrow 66 p.at) 61)).alloc (.cells (vrow 66 Pic.zero.at) 61)).heap[D]? = some (.cells (vrow (n * 3) (drf px py pn)) 66)) := heap_past _ _ _ _ (by simp; omega) (heap_past _ _ _ _ hDl hd)
  clear hd
  have HL : Hid (∀ W, W.heap[w.heap.size]? = some (.cells (vrow 66 p.at) 61) → W.heap[D]? = some (.cells (vrow (n * 3) (drf px py pn)) 66) → Calls Tryd.prog 88 #[.pointer (some ⟨w.heap.size, 0, none⟩), .slice (some ⟨D, 0, none⟩) n n] W fun o w' => W.grownBy w' (some w.heap.size) ∧ o = .returned (.int .i64 0) ∧ w'.heap[w.heap.size]? = some (.cells (drpP p a c px py pn n).row 61)) := Go.Lib.hid fun W h2 h3 => by
    refine (lall_any p _ D n a c px py pn W h2 h3 (by omega) hf h1 ea ec ha hc hn hpx hpy hpn).mono ?_
    rintro o w' ⟨e1, ⟨_, e2, e3⟩ | ⟨e2, _⟩⟩
    · exact ⟨e1, e2, e3⟩
    · rw [hcan] at e2; cases e2
  obtain ⟨G, hG⟩ : ∃ G, drpP p a c px py pn n = G := ⟨_, rfl⟩
  rw [hG] at HL ⊢
  clear hG
  go_enter Tryd.func33, Tryd.ntmps33
  go_wp2_with (first
    | go_skip
    | (go_at_call 88; (refine (HL.out _ P.out R.out).mono ?_); rintro o w1 ⟨hg, rfl, hP⟩; replace Z := Go.Lib.hid (grown_row hg Z.out (by simp)); replace hB := Go.Lib.hid (belowG hB.out hg (by omega)); clear hg P R; have P := Go.Lib.hid hP; clear hP)
    | ((with_reducible refine wlAt 13 rfl ?_); refine wpList_ldm 61 (.tmp 2) rfl (by first | exact want_n rfl | exact want_g _ _ _ rfl rfl rfl) (w.heap.size) _ rfl 66 66 G.at _ rw_pic size_pic P.out (by omega) ?_; rw [pic_row])
    | ((with_reducible refine wlOp (.store 61 (.tmp 4) (.tmp 13)) rfl ?_); refine wpList_storeall rfl 61 (.tmp 4) (.tmp 13) rfl (w.heap.size + 1) rfl 66 Pic.zero.at G.at rfl 61 size_pic Z.out (fun i _ => Pic.one _ i) ?_; replace Z := Go.Lib.hid (row_set Z.out (vrow 66 G.at)); replace hB := Go.Lib.hid (Below_setRow hB.out (show w.heap.size ≤ w.heap.size + 1 by omega) (vrow 66 G.at))))
  exact ret_row2 Tryd.results33 (w.heap.size + 1) 66 G.at 61 _ Tryd.underlying61 rfl size_pic (.int .i64 0) rfl rfl rfl Z.out ⟨rfl, hB.out⟩
set_option maxHeartbeats 2000000 in
theorem implAll_err (p : Pic) (D n : Nat) (px py pn : Nat → Int) (k : Int) (hf : p.fit) (h : badD p px py pn n k) (e : ErrE) (w : World) (hE : Errs e w) (hd : w.heap[D]? = some (.cells (vrow (n * 3) (drf px py pn)) 66)) : Calls Tryd.prog 35 #[.agg p.row, .slice (some ⟨D, 0, none⟩) n n] w fun o w' => o = .returned (.tuple #[.agg Pic.zero.row, .int .i64 k]) ∧ Below w.heap.size w w' := by
  have hDl := row_lt hd
  have zz := zero_pic
  have P : Hid (((w.alloc (.cells (vrow 66 p.at) 61)).alloc (.cells (vrow 66 Pic.zero.at) 61)).heap[w.heap.size]? = some (.cells (vrow 66 p.at) 61)) := (heap_past _ _ _ _ (by simp <;> omega) (heap_at _ _ _ (by simp)))
  have Z : Hid (((w.alloc (.cells (vrow 66 p.at) 61)).alloc (.cells (vrow 66 Pic.zero.at) 61)).heap[w.heap.size + 1]? = some (.cells (vrow 66 Pic.zero.at) 61)) := (heap_at _ _ _ (by simp))
  have hB : Hid (Below w.heap.size w ((w.alloc (.cells (vrow 66 p.at) 61)).alloc (.cells (vrow 66 Pic.zero.at) 61))) := Go.Lib.hid (((Below.refl w.heap.size w).alloc (by simp <;> omega) _).alloc (by simp <;> omega) _)
  have E : Hid (Errs e ((w.alloc (.cells (vrow 66 p.at) 61)).alloc (.cells (vrow 66 Pic.zero.at) 61))) := Go.Lib.hid ((hE.alloc _).alloc _)
  have R : Hid (((w.alloc (.cells (vrow 66 p.at) 61)).alloc (.cells (vrow 66 Pic.zero.at) 61)).heap[D]? = some (.cells (vrow (n * 3) (drf px py pn)) 66)) := heap_past _ _ _ _ (by simp; omega) (heap_past _ _ _ _ hDl hd)
  clear hd
  have hk : k = 1 ∨ k = 2 ∨ k = 3 := by rcases h with ⟨_, rfl⟩ | ⟨_, _, rfl⟩ | ⟨_, _, _, rfl⟩ <;> simp
  rcases hk with rfl | rfl | rfl
  · have HC : Hid (∀ W, Errs e W → W.heap[D]? = some (.cells (vrow (n * 3) (drf px py pn)) 66) → Calls Tryd.prog 89 #[.agg p.row, .slice (some ⟨D, 0, none⟩) n n] W fun o w' => o = .returned (errP e 1) ∧ Below W.heap.size W w') := Go.Lib.hid fun W h1 h2 => (ckAll_err p D n px py pn 1 hf h e W h1 h2).mono fun o w' ⟨⟨g, _⟩, g2⟩ => ⟨g, g2⟩
    have HK := Go.Lib.hid fun W h1 => codeOf_1 e W h1
    clear h
    go_enter Tryd.func35, Tryd.ntmps35
    go_wp2_with (first
      | go_skip
      | ((with_reducible refine wlAt 7 rfl ?_); refine wpList_ldm 61 (.tmp 2) rfl (by first | exact want_n rfl | exact want_g _ _ _ rfl rfl rfl) (w.heap.size) _ rfl 66 66 p.at _ rw_pic size_pic P.out (by omega) ?_; rw [pic_row])
      | (go_at_call 89; (refine (HC.out _ E.out R.out).mono ?_); rintro o w1 ⟨rfl, hb⟩; replace P := Go.Lib.hid (row_next hb P.out); replace Z := Go.Lib.hid (row_next hb Z.out); replace R := Go.Lib.hid (row_next hb R.out); replace hB := Go.Lib.hid (below_next hB.out hb); replace E := Go.Lib.hid (E.out.next hb); clear hb)
      | (go_at_call 62; (refine (HK.out _ E.out).mono ?_); rintro o w1 ⟨rfl, hb⟩; replace P := Go.Lib.hid (row_next hb P.out); replace Z := Go.Lib.hid (row_next hb Z.out); replace R := Go.Lib.hid (row_next hb R.out); replace hB := Go.Lib.hid (below_next hB.out hb); replace E := Go.Lib.hid (E.out.next hb); clear hb)
      | ((with_reducible refine wlAt 12 rfl ?_); refine wpList_built rfl 61 [] rfl [] (by rfl) _ pbuilt_zero ?_)
      | ((with_reducible refine wlOp (.store 61 (.tmp 4) (.tmp 12)) rfl ?_); refine wpList_storeall rfl 61 (.tmp 4) (.tmp 12) rfl (w.heap.size + 1) rfl 66 Pic.zero.at Pic.zero.at rfl 61 size_pic Z.out (fun i _ => Pic.one _ i) ?_; replace Z := Go.Lib.hid (row_set Z.out (vrow 66 Pic.zero.at)); replace hB := Go.Lib.hid (Below_setRow hB.out (show w.heap.size ≤ w.heap.size + 1 by omega) (vrow 66 Pic.zero.at))))
    exact ret_row2 Tryd.results35 (w.heap.size + 1) 66 Pic.zero.at 61 _ Tryd.underlying61 rfl size_pic (.int .i64 1) rfl rfl rfl Z.out ⟨rfl, hB.out⟩
  · have HC : Hid (∀ W, Errs e W → W.heap[D]? = some (.cells (vrow (n * 3) (drf px py pn)) 66) → Calls Tryd.prog 89 #[.agg p.row, .slice (some ⟨D, 0, none⟩) n n] W fun o w' => o = .returned (errP e 2) ∧ Below W.heap.size W w') := Go.Lib.hid fun W h1 h2 => (ckAll_err p D n px py pn 2 hf h e W h1 h2).mono fun o w' ⟨⟨g, _⟩, g2⟩ => ⟨g, g2⟩
    have HK := Go.Lib.hid fun W h1 => codeOf_2 e W h1
    clear h
    go_enter Tryd.func35, Tryd.ntmps35
    go_wp2_with (first
      | go_skip
      | ((with_reducible refine wlAt 7 rfl ?_); refine wpList_ldm 61 (.tmp 2) rfl (by first | exact want_n rfl | exact want_g _ _ _ rfl rfl rfl) (w.heap.size) _ rfl 66 66 p.at _ rw_pic size_pic P.out (by omega) ?_; rw [pic_row])
      | (go_at_call 89; (refine (HC.out _ E.out R.out).mono ?_); rintro o w1 ⟨rfl, hb⟩; replace P := Go.Lib.hid (row_next hb P.out); replace Z := Go.Lib.hid (row_next hb Z.out); replace R := Go.Lib.hid (row_next hb R.out); replace hB := Go.Lib.hid (below_next hB.out hb); replace E := Go.Lib.hid (E.out.next hb); clear hb)
      | (go_at_call 62; (refine (HK.out _ E.out).mono ?_); rintro o w1 ⟨rfl, hb⟩; replace P := Go.Lib.hid (row_next hb P.out); replace Z := Go.Lib.hid (row_next hb Z.out); replace R := Go.Lib.hid (row_next hb R.out); replace hB := Go.Lib.hid (below_next hB.out hb); replace E := Go.Lib.hid (E.out.next hb); clear hb)
      | ((with_reducible refine wlAt 12 rfl ?_); refine wpList_built rfl 61 [] rfl [] (by rfl) _ pbuilt_zero ?_)
      | ((with_reducible refine wlOp (.store 61 (.tmp 4) (.tmp 12)) rfl ?_); refine wpList_storeall rfl 61 (.tmp 4) (.tmp 12) rfl (w.heap.size + 1) rfl 66 Pic.zero.at Pic.zero.at rfl 61 size_pic Z.out (fun i _ => Pic.one _ i) ?_; replace Z := Go.Lib.hid (row_set Z.out (vrow 66 Pic.zero.at)); replace hB := Go.Lib.hid (Below_setRow hB.out (show w.heap.size ≤ w.heap.size + 1 by omega) (vrow 66 Pic.zero.at))))
    exact ret_row2 Tryd.results35 (w.heap.size + 1) 66 Pic.zero.at 61 _ Tryd.underlying61 rfl size_pic (.int .i64 2) rfl rfl rfl Z.out ⟨rfl, hB.out⟩
  · have HC : Hid (∀ W, Errs e W → W.heap[D]? = some (.cells (vrow (n * 3) (drf px py pn)) 66) → Calls Tryd.prog 89 #[.agg p.row, .slice (some ⟨D, 0, none⟩) n n] W fun o w' => o = .returned (errP e 3) ∧ Below W.heap.size W w') := Go.Lib.hid fun W h1 h2 => (ckAll_err p D n px py pn 3 hf h e W h1 h2).mono fun o w' ⟨⟨g, _⟩, g2⟩ => ⟨g, g2⟩
    have HK := Go.Lib.hid fun W h1 => codeOf_3 e W h1
    clear h
    go_enter Tryd.func35, Tryd.ntmps35
    go_wp2_with (first
      | go_skip
      | ((with_reducible refine wlAt 7 rfl ?_); refine wpList_ldm 61 (.tmp 2) rfl (by first | exact want_n rfl | exact want_g _ _ _ rfl rfl rfl) (w.heap.size) _ rfl 66 66 p.at _ rw_pic size_pic P.out (by omega) ?_; rw [pic_row])
      | (go_at_call 89; (refine (HC.out _ E.out R.out).mono ?_); rintro o w1 ⟨rfl, hb⟩; replace P := Go.Lib.hid (row_next hb P.out); replace Z := Go.Lib.hid (row_next hb Z.out); replace R := Go.Lib.hid (row_next hb R.out); replace hB := Go.Lib.hid (below_next hB.out hb); replace E := Go.Lib.hid (E.out.next hb); clear hb)
      | (go_at_call 62; (refine (HK.out _ E.out).mono ?_); rintro o w1 ⟨rfl, hb⟩; replace P := Go.Lib.hid (row_next hb P.out); replace Z := Go.Lib.hid (row_next hb Z.out); replace R := Go.Lib.hid (row_next hb R.out); replace hB := Go.Lib.hid (below_next hB.out hb); replace E := Go.Lib.hid (E.out.next hb); clear hb)
      | ((with_reducible refine wlAt 12 rfl ?_); refine wpList_built rfl 61 [] rfl [] (by rfl) _ pbuilt_zero ?_)
      | ((with_reducible refine wlOp (.store 61 (.tmp 4) (.tmp 12)) rfl ?_); refine wpList_storeall rfl 61 (.tmp 4) (.tmp 12) rfl (w.heap.size + 1) rfl 66 Pic.zero.at Pic.zero.at rfl 61 size_pic Z.out (fun i _ => Pic.one _ i) ?_; replace Z := Go.Lib.hid (row_set Z.out (vrow 66 Pic.zero.at)); replace hB := Go.Lib.hid (Below_setRow hB.out (show w.heap.size ≤ w.heap.size + 1 by omega) (vrow 66 Pic.zero.at))))
    exact ret_row2 Tryd.results35 (w.heap.size + 1) 66 Pic.zero.at 61 _ Tryd.underlying61 rfl size_pic (.int .i64 3) rfl rfl rfl Z.out ⟨rfl, hB.out⟩
set_option maxHeartbeats 2000000 in
theorem implAll_ok (p : Pic) (D n a c : Nat) (px py pn : Nat → Int) (hf : p.fit) (hpx : ∀ i, i < n → -128 ≤ px i ∧ px i ≤ 127) (hpy : ∀ i, i < n → -128 ≤ py i ∧ py i ≤ 127) (hpn : ∀ i, i < n → 0 ≤ pn i ∧ pn i ≤ 255) (h1 : okP p = true) (hn : n ≤ 100) (hcan : canA p px py pn n = true) (ea : p.wide = a) (ec : p.high = c) (ha : a ≤ 8) (hc : c ≤ 8) (e : ErrE) (w : World) (hE : Errs e w) (hd : w.heap[D]? = some (.cells (vrow (n * 3) (drf px py pn)) 66)) : Calls Tryd.prog 35 #[.agg p.row, .slice (some ⟨D, 0, none⟩) n n] w fun o w' => o = .returned (.tuple #[.agg (drpP p a c px py pn n).row, .int .i64 0]) ∧ Below w.heap.size w w' := by
  have hDl := row_lt hd
  have zz := zero_pic
  have P : Hid (((w.alloc (.cells (vrow 66 p.at) 61)).alloc (.cells (vrow 66 Pic.zero.at) 61)).heap[w.heap.size]? = some (.cells (vrow 66 p.at) 61)) := (heap_past _ _ _ _ (by simp <;> omega) (heap_at _ _ _ (by simp)))
  have Z : Hid (((w.alloc (.cells (vrow 66 p.at) 61)).alloc (.cells (vrow 66 Pic.zero.at) 61)).heap[w.heap.size + 1]? = some (.cells (vrow 66 Pic.zero.at) 61)) := (heap_at _ _ _ (by simp))
  have hB : Hid (Below w.heap.size w ((w.alloc (.cells (vrow 66 p.at) 61)).alloc (.cells (vrow 66 Pic.zero.at) 61))) := Go.Lib.hid (((Below.refl w.heap.size w).alloc (by simp <;> omega) _).alloc (by simp <;> omega) _)
  have E : Hid (Errs e ((w.alloc (.cells (vrow 66 p.at) 61)).alloc (.cells (vrow 66 Pic.zero.at) 61))) := Go.Lib.hid ((hE.alloc _).alloc _)
  have R : Hid (((w.alloc (.cells (vrow 66 p.at) 61)).alloc (.cells (vrow 66 Pic.zero.at) 61)).heap[D]? = some (.cells (vrow (n * 3) (drf px py pn)) 66)) := heap_past _ _ _ _ (by simp; omega) (heap_past _ _ _ _ hDl hd)
  clear hd
  have HC := Go.Lib.hid fun W hE hd => ckAll_ok p D n px py pn hf h1 hn hcan e W hE hd
  have HD := Go.Lib.hid fun W hd => dropped_any p D n a c px py pn W hd ea ec ha hc hn hpn hcan
  obtain ⟨G, hG⟩ : ∃ G, drpP p a c px py pn n = G := ⟨_, rfl⟩
  rw [hG] at HD ⊢
  clear hG
  go_enter Tryd.func35, Tryd.ntmps35
  go_wp2_with (first
    | go_skip
    | ((with_reducible refine wlAt 7 rfl ?_); refine wpList_ldm 61 (.tmp 2) rfl (by first | exact want_n rfl | exact want_g _ _ _ rfl rfl rfl) (w.heap.size) _ rfl 66 66 p.at _ rw_pic size_pic P.out (by omega) ?_; rw [pic_row])
    | ((with_reducible refine wlAt 15 rfl ?_); refine wpList_ldm 61 (.tmp 2) rfl (by first | exact want_n rfl | exact want_g _ _ _ rfl rfl rfl) (w.heap.size) _ rfl 66 66 p.at _ rw_pic size_pic P.out (by omega) ?_; rw [pic_row])
    | (go_at_call 89; (refine (HC.out _ E.out R.out).mono ?_); rintro o w1 ⟨rfl, hb⟩; replace P := Go.Lib.hid (row_next hb P.out); replace Z := Go.Lib.hid (row_next hb Z.out); replace R := Go.Lib.hid (row_next hb R.out); replace hB := Go.Lib.hid (below_next hB.out hb); replace E := Go.Lib.hid (E.out.next hb); clear hb)
    | (go_at_call 90; (refine (HD.out _ R.out).mono ?_); rintro o w1 ⟨rfl, hb⟩; replace P := Go.Lib.hid (row_next hb P.out); replace Z := Go.Lib.hid (row_next hb Z.out); replace R := Go.Lib.hid (row_next hb R.out); replace hB := Go.Lib.hid (below_next hB.out hb); replace E := Go.Lib.hid (E.out.next hb); clear hb)
    | ((with_reducible refine wlOp (.store 61 (.tmp 4) (.tmp 17)) rfl ?_); refine wpList_storeall rfl 61 (.tmp 4) (.tmp 17) rfl (w.heap.size + 1) rfl 66 Pic.zero.at G.at rfl 61 size_pic Z.out (fun i _ => Pic.one _ i) ?_; replace Z := Go.Lib.hid (row_set Z.out (vrow 66 G.at)); replace hB := Go.Lib.hid (Below_setRow hB.out (show w.heap.size ≤ w.heap.size + 1 by omega) (vrow 66 G.at))))
  exact ret_row2 Tryd.results35 (w.heap.size + 1) 66 G.at 61 _ Tryd.underlying61 rfl size_pic (.int .i64 0) rfl rfl rfl Z.out ⟨rfl, hB.out⟩
theorem dr_lit (x y n : Int) : (#[.int .i8 x, .int .i8 y, .int .u8 n] : Array Value) = vrow (1 * 3) (drf (fun _ => x) (fun _ => y) (fun _ => n)) := rfl
set_option maxHeartbeats 2000000 in
theorem specOn_bad (p : Pic) (x y n : Int) (h1 : okP p = false) (w : World) (hf : p.fit) (hx : -128 ≤ x ∧ x ≤ 127) (hy : -128 ≤ y ∧ y ≤ 127) (hn : 0 ≤ n ∧ n ≤ 255) : Calls Tryd.prog 27 #[.agg p.row, .agg (vrow 3 (drAt x y n))] w fun o w' => o = .returned (.tuple #[.agg Pic.zero.row, .int .i64 1]) ∧ Below w.heap.size w w' := by
  have zz := zero_pic
  have P : Hid ((((w.alloc (.cells (vrow 66 p.at) 61)).alloc (.cells (vrow 3 (drAt x y n)) 66)).alloc (.cells (vrow 66 Pic.zero.at) 61)).heap[w.heap.size]? = some (.cells (vrow 66 p.at) 61)) := (heap_past _ _ _ _ (by simp <;> omega) (heap_past _ _ _ _ (by simp <;> omega) (heap_at _ _ _ (by simp))))
  have R : Hid ((((w.alloc (.cells (vrow 66 p.at) 61)).alloc (.cells (vrow 3 (drAt x y n)) 66)).alloc (.cells (vrow 66 Pic.zero.at) 61)).heap[w.heap.size + 1]? = some (.cells (vrow 3 (drAt x y n)) 66)) := (heap_past _ _ _ _ (by simp <;> omega) (heap_at _ _ _ (by simp)))
  have Z : Hid ((((w.alloc (.cells (vrow 66 p.at) 61)).alloc (.cells (vrow 3 (drAt x y n)) 66)).alloc (.cells (vrow 66 Pic.zero.at) 61)).heap[w.heap.size + 2]? = some (.cells (vrow 66 Pic.zero.at) 61)) := (heap_at _ _ _ (by simp))
  have hB : Hid (Below w.heap.size w (((w.alloc (.cells (vrow 66 p.at) 61)).alloc (.cells (vrow 3 (drAt x y n)) 66)).alloc (.cells (vrow 66 Pic.zero.at) 61))) := Go.Lib.hid ((((Below.refl w.heap.size w).alloc (by simp <;> omega) _).alloc (by simp <;> omega) _).alloc (by simp <;> omega) _)
  have HO := Go.Lib.hid fun w' h => okP_from w' p w.heap.size w' h hf (Below.refl _ _)
  rw [h1] at HO
  go_enter Tryd.func27, Tryd.ntmps27
  go_wp2_with (first
    | go_skip
    | (go_at_call 83; (refine (HO.out _ P.out).mono ?_); rintro o w1 ⟨rfl, hb⟩; replace P := Go.Lib.hid (row_next hb P.out); replace R := Go.Lib.hid (row_next hb R.out); replace Z := Go.Lib.hid (row_next hb Z.out); replace hB := Go.Lib.hid (below_next hB.out hb); clear hb)
    | ((with_reducible refine wlAt 8 rfl ?_); refine wpList_built rfl 61 [] rfl [] (by rfl) _ pbuilt_zero ?_)
    | ((with_reducible refine wlOp (.store 61 (.tmp 4) (.tmp 8)) rfl ?_); refine wpList_storeall rfl 61 (.tmp 4) (.tmp 8) rfl (w.heap.size + 2) rfl 66 Pic.zero.at Pic.zero.at rfl 61 size_pic Z.out (fun i _ => Pic.one _ i) ?_; replace Z := Go.Lib.hid (row_set Z.out (vrow 66 Pic.zero.at)); replace hB := Go.Lib.hid (Below_setRow hB.out (show w.heap.size ≤ w.heap.size + 2 by omega) (vrow 66 Pic.zero.at))))
  exact ret_row2 Tryd.results27 (w.heap.size + 2) 66 Pic.zero.at 61 _ Tryd.underlying61 rfl size_pic (.int .i64 1) rfl rfl rfl Z.out ⟨rfl, hB.out⟩
set_option maxHeartbeats 2000000 in
theorem specOn_rng (p : Pic) (x y n : Int) (h1 : okP p = true) (h2 : canB p x y n = false) (w : World) (hf : p.fit) (hx : -128 ≤ x ∧ x ≤ 127) (hy : -128 ≤ y ∧ y ≤ 127) (hn : 0 ≤ n ∧ n ≤ 255) : Calls Tryd.prog 27 #[.agg p.row, .agg (vrow 3 (drAt x y n))] w fun o w' => o = .returned (.tuple #[.agg Pic.zero.row, .int .i64 2]) ∧ Below w.heap.size w w' := by
  have zz := zero_pic
  have P : Hid ((((w.alloc (.cells (vrow 66 p.at) 61)).alloc (.cells (vrow 3 (drAt x y n)) 66)).alloc (.cells (vrow 66 Pic.zero.at) 61)).heap[w.heap.size]? = some (.cells (vrow 66 p.at) 61)) := (heap_past _ _ _ _ (by simp <;> omega) (heap_past _ _ _ _ (by simp <;> omega) (heap_at _ _ _ (by simp))))
  have R : Hid ((((w.alloc (.cells (vrow 66 p.at) 61)).alloc (.cells (vrow 3 (drAt x y n)) 66)).alloc (.cells (vrow 66 Pic.zero.at) 61)).heap[w.heap.size + 1]? = some (.cells (vrow 3 (drAt x y n)) 66)) := (heap_past _ _ _ _ (by simp <;> omega) (heap_at _ _ _ (by simp)))
  have Z : Hid ((((w.alloc (.cells (vrow 66 p.at) 61)).alloc (.cells (vrow 3 (drAt x y n)) 66)).alloc (.cells (vrow 66 Pic.zero.at) 61)).heap[w.heap.size + 2]? = some (.cells (vrow 66 Pic.zero.at) 61)) := (heap_at _ _ _ (by simp))
  have hB : Hid (Below w.heap.size w (((w.alloc (.cells (vrow 66 p.at) 61)).alloc (.cells (vrow 3 (drAt x y n)) 66)).alloc (.cells (vrow 66 Pic.zero.at) 61))) := Go.Lib.hid ((((Below.refl w.heap.size w).alloc (by simp <;> omega) _).alloc (by simp <;> omega) _).alloc (by simp <;> omega) _)
  have HO := Go.Lib.hid fun w' h => okP_from w' p w.heap.size w' h hf (Below.refl _ _)
  rw [h1] at HO
  have HC := Go.Lib.hid fun w' h => lcan_any p w.heap.size x y n w' h hf hx hy
  rw [h2] at HC
  go_enter Tryd.func27, Tryd.ntmps27
  go_wp2_with (first
    | go_skip
    | ((with_reducible refine wlAt 9 rfl ?_); refine wpList_ldm 66 (.tmp 3) rfl (by first | exact want_n rfl | exact want_g _ _ _ rfl rfl rfl) (w.heap.size + 1) _ rfl 3 3 (drAt x y n) _ rw_dr size_dr R.out (by omega) ?_; rw [dr_row0])
    | ((with_reducible refine wlAt 13 rfl ?_); refine wpList_ldm 66 (.tmp 3) rfl (by first | exact want_n rfl | exact want_g _ _ _ rfl rfl rfl) (w.heap.size + 1) _ rfl 3 3 (drAt x y n) _ rw_dr size_dr R.out (by omega) ?_; rw [dr_row0])
    | (go_at_call 83; (refine (HO.out _ P.out).mono ?_); rintro o w1 ⟨rfl, hb⟩; replace P := Go.Lib.hid (row_next hb P.out); replace R := Go.Lib.hid (row_next hb R.out); replace Z := Go.Lib.hid (row_next hb Z.out); replace hB := Go.Lib.hid (below_next hB.out hb); clear hb)
    | (go_at_call 84; (refine (HC.out _ P.out).mono ?_); rintro o w1 ⟨rfl, hb⟩; replace P := Go.Lib.hid (row_next hb P.out); replace R := Go.Lib.hid (row_next hb R.out); replace Z := Go.Lib.hid (row_next hb Z.out); replace hB := Go.Lib.hid (below_next hB.out hb); clear hb)
    | ((with_reducible refine wlAt 12 rfl ?_); refine wpList_built rfl 61 [] rfl [] (by rfl) _ pbuilt_zero ?_)
    | ((with_reducible refine wlOp (.store 61 (.tmp 4) (.tmp 12)) rfl ?_); refine wpList_storeall rfl 61 (.tmp 4) (.tmp 12) rfl (w.heap.size + 2) rfl 66 Pic.zero.at Pic.zero.at rfl 61 size_pic Z.out (fun i _ => Pic.one _ i) ?_; replace Z := Go.Lib.hid (row_set Z.out (vrow 66 Pic.zero.at)); replace hB := Go.Lib.hid (Below_setRow hB.out (show w.heap.size ≤ w.heap.size + 2 by omega) (vrow 66 Pic.zero.at))))
  exact ret_row2 Tryd.results27 (w.heap.size + 2) 66 Pic.zero.at 61 _ Tryd.underlying61 rfl size_pic (.int .i64 2) rfl rfl rfl Z.out ⟨rfl, hB.out⟩
set_option maxHeartbeats 2000000 in
theorem specOn_ok (p : Pic) (x y n : Int) (a c : Nat) (h1 : okP p = true) (h2 : canB p x y n = true) (ea : p.wide = a) (ec : p.high = c) (ha : a ≤ 8) (hc : c ≤ 8) (w : World) (hf : p.fit) (hx : -128 ≤ x ∧ x ≤ 127) (hy : -128 ≤ y ∧ y ≤ 127) (hn : 0 ≤ n ∧ n ≤ 255) : Calls Tryd.prog 27 #[.agg p.row, .agg (vrow 3 (drAt x y n))] w fun o w' => o = .returned (.tuple #[.agg (drpP p a c (fun _ => x) (fun _ => y) (fun _ => n) 1).row, .int .i64 0]) ∧ Below w.heap.size w w' := by
  have zz := zero_pic
  have P : Hid ((((w.alloc (.cells (vrow 66 p.at) 61)).alloc (.cells (vrow 3 (drAt x y n)) 66)).alloc (.cells (vrow 66 Pic.zero.at) 61)).heap[w.heap.size]? = some (.cells (vrow 66 p.at) 61)) := (heap_past _ _ _ _ (by simp <;> omega) (heap_past _ _ _ _ (by simp <;> omega) (heap_at _ _ _ (by simp))))
  have R : Hid ((((w.alloc (.cells (vrow 66 p.at) 61)).alloc (.cells (vrow 3 (drAt x y n)) 66)).alloc (.cells (vrow 66 Pic.zero.at) 61)).heap[w.heap.size + 1]? = some (.cells (vrow 3 (drAt x y n)) 66)) := (heap_past _ _ _ _ (by simp <;> omega) (heap_at _ _ _ (by simp)))
  have Z : Hid ((((w.alloc (.cells (vrow 66 p.at) 61)).alloc (.cells (vrow 3 (drAt x y n)) 66)).alloc (.cells (vrow 66 Pic.zero.at) 61)).heap[w.heap.size + 2]? = some (.cells (vrow 66 Pic.zero.at) 61)) := (heap_at _ _ _ (by simp))
  have hB : Hid (Below w.heap.size w (((w.alloc (.cells (vrow 66 p.at) 61)).alloc (.cells (vrow 3 (drAt x y n)) 66)).alloc (.cells (vrow 66 Pic.zero.at) 61))) := Go.Lib.hid ((((Below.refl w.heap.size w).alloc (by simp <;> omega) _).alloc (by simp <;> omega) _).alloc (by simp <;> omega) _)
  have HO := Go.Lib.hid fun w' h => okP_from w' p w.heap.size w' h hf (Below.refl _ _)
  rw [h1] at HO
  have HC := Go.Lib.hid fun w' h => lcan_any p w.heap.size x y n w' h hf hx hy
  rw [h2] at HC
  obtain ⟨i, j, m, ex, ey, em, hi, hj, hm⟩ := canB_nat ea ec ha hc hn.1 h2
  have HD := Go.Lib.hid fun w' h => ldrop_any p w.heap.size a c i j m w' h hf ea ec ha hc hi hj hm
  have HG : Hid (drpP p a c (fun _ => x) (fun _ => y) (fun _ => n) 1 = dab p ((m : Int) + 1) (cov a c i j)) := Go.Lib.hid (by show dab p (n + 1) (cov a c x y) = _; rw [ex, ey, em])
  rw [← ex, ← ey, ← em] at HD HG
  clear ex ey em
  obtain ⟨G, hG⟩ : ∃ G, dab p (n + 1) (cov a c x y) = G := ⟨_, rfl⟩
  rw [hG] at HD HG
  rw [HG.out]
  clear hG HG
  go_enter Tryd.func27, Tryd.ntmps27
  go_wp2_with (first
    | go_skip
    | ((with_reducible refine wlAt 9 rfl ?_); refine wpList_ldm 66 (.tmp 3) rfl (by first | exact want_n rfl | exact want_g _ _ _ rfl rfl rfl) (w.heap.size + 1) _ rfl 3 3 (drAt x y n) _ rw_dr size_dr R.out (by omega) ?_; rw [dr_row0])
    | ((with_reducible refine wlAt 13 rfl ?_); refine wpList_ldm 66 (.tmp 3) rfl (by first | exact want_n rfl | exact want_g _ _ _ rfl rfl rfl) (w.heap.size + 1) _ rfl 3 3 (drAt x y n) _ rw_dr size_dr R.out (by omega) ?_; rw [dr_row0])
    | (go_at_call 83; (refine (HO.out _ P.out).mono ?_); rintro o w1 ⟨rfl, hb⟩; replace P := Go.Lib.hid (row_next hb P.out); replace R := Go.Lib.hid (row_next hb R.out); replace Z := Go.Lib.hid (row_next hb Z.out); replace hB := Go.Lib.hid (below_next hB.out hb); clear hb)
    | (go_at_call 84; (refine (HC.out _ P.out).mono ?_); rintro o w1 ⟨rfl, hb⟩; replace P := Go.Lib.hid (row_next hb P.out); replace R := Go.Lib.hid (row_next hb R.out); replace Z := Go.Lib.hid (row_next hb Z.out); replace hB := Go.Lib.hid (below_next hB.out hb); clear hb)
    | (go_at_call 85; (refine (HD.out _ P.out).mono ?_); rintro o w1 ⟨rfl, hP, hg⟩; replace Z := Go.Lib.hid (grown_row hg Z.out (by simp)); replace hB := Go.Lib.hid (belowG hB.out hg (by omega)); clear hg P R; have P := Go.Lib.hid hP; clear hP)
    | ((with_reducible refine wlAt 15 rfl ?_); refine wpList_ldm 61 (.tmp 2) rfl (by first | exact want_n rfl | exact want_g _ _ _ rfl rfl rfl) (w.heap.size) _ rfl 66 66 G.at _ rw_pic size_pic P.out (by omega) ?_; rw [pic_row])
    | ((with_reducible refine wlOp (.store 61 (.tmp 4) (.tmp 15)) rfl ?_); refine wpList_storeall rfl 61 (.tmp 4) (.tmp 15) rfl (w.heap.size + 2) rfl 66 Pic.zero.at G.at rfl 61 size_pic Z.out (fun i _ => Pic.one _ i) ?_; replace Z := Go.Lib.hid (row_set Z.out (vrow 66 G.at)); replace hB := Go.Lib.hid (Below_setRow hB.out (show w.heap.size ≤ w.heap.size + 2 by omega) (vrow 66 G.at))))
  exact ret_row2 Tryd.results27 (w.heap.size + 2) 66 G.at 61 _ Tryd.underlying61 rfl size_pic (.int .i64 0) rfl rfl rfl Z.out ⟨rfl, hB.out⟩
set_option maxHeartbeats 2000000 in
theorem implOn_any (p : Pic) (x y n k : Int) (q : Pic) (e : ErrE) (w : World) (hE : Errs e w) (HI : ∀ D W, Errs e W → W.heap[D]? = some (.cells (vrow (1 * 3) (drf (fun _ => x) (fun _ => y) (fun _ => n))) 66) → Calls Tryd.prog 35 #[.agg p.row, .slice (some ⟨D, 0, none⟩) (1 : Nat) (1 : Nat)] W fun o w' => o = .returned (.tuple #[.agg q.row, .int .i64 k]) ∧ Below W.heap.size W w') : Calls Tryd.prog 30 #[.agg p.row, .agg (vrow 3 (drAt x y n))] w fun o w' => o = .returned (.tuple #[.agg q.row, .int .i64 k]) ∧ Below w.heap.size w w' := by
  have zz := zero_pic
  have P : Hid ((((w.alloc (.cells (vrow 66 p.at) 61)).alloc (.cells (vrow 3 (drAt x y n)) 66)).alloc (.cells (vrow 66 Pic.zero.at) 61)).heap[w.heap.size]? = some (.cells (vrow 66 p.at) 61)) := (heap_past _ _ _ _ (by simp <;> omega) (heap_past _ _ _ _ (by simp <;> omega) (heap_at _ _ _ (by simp))))
  have R : Hid ((((w.alloc (.cells (vrow 66 p.at) 61)).alloc (.cells (vrow 3 (drAt x y n)) 66)).alloc (.cells (vrow 66 Pic.zero.at) 61)).heap[w.heap.size + 1]? = some (.cells (vrow 3 (drAt x y n)) 66)) := (heap_past _ _ _ _ (by simp <;> omega) (heap_at _ _ _ (by simp)))
  have Z : Hid ((((w.alloc (.cells (vrow 66 p.at) 61)).alloc (.cells (vrow 3 (drAt x y n)) 66)).alloc (.cells (vrow 66 Pic.zero.at) 61)).heap[w.heap.size + 2]? = some (.cells (vrow 66 Pic.zero.at) 61)) := (heap_at _ _ _ (by simp))
  have hB : Hid (Below w.heap.size w (((w.alloc (.cells (vrow 66 p.at) 61)).alloc (.cells (vrow 3 (drAt x y n)) 66)).alloc (.cells (vrow 66 Pic.zero.at) 61))) := Go.Lib.hid ((((Below.refl w.heap.size w).alloc (by simp <;> omega) _).alloc (by simp <;> omega) _).alloc (by simp <;> omega) _)
  have E : Hid (Errs e (((w.alloc (.cells (vrow 66 p.at) 61)).alloc (.cells (vrow 3 (drAt x y n)) 66)).alloc (.cells (vrow 66 Pic.zero.at) 61))) := Go.Lib.hid (((hE.alloc _).alloc _).alloc _)
  replace HI := Go.Lib.hid HI
  go_enter Tryd.func30, Tryd.ntmps30
  go_wp2_with (first
    | go_skip
    | ((with_reducible refine wlAt 6 rfl ?_); refine wpList_ldm 61 (.tmp 2) rfl (by first | exact want_n rfl | exact want_g _ _ _ rfl rfl rfl) (w.heap.size) _ rfl 66 66 p.at _ rw_pic size_pic P.out (by omega) ?_; rw [pic_row])
    | ((with_reducible refine wlAt 7 rfl ?_); refine wpList_ldm 66 (.tmp 3) rfl (by first | exact want_n rfl | exact want_g _ _ _ rfl rfl rfl) (w.heap.size + 1) _ rfl 3 3 (drAt x y n) _ rw_dr size_dr R.out (by omega) ?_; rw [dr_row0]; rw [dr_row])
    | (go_at_call 35; (refine (HI.out (w.heap.size + 1 + 1 + 1) _ (E.out.alloc _) (by rw [← dr_lit]; exact heap_at _ _ _ (by simp))).mono ?_); rintro o w1 ⟨rfl, hb⟩; replace Z := Go.Lib.hid (row_next hb (heap_past _ _ _ _ (row_lt Z.out) Z.out)); replace hB := Go.Lib.hid (below_next (hB.out.alloc hB.out.size _) hb); clear hb P R E)
    | ((with_reducible refine wlOp (.store 61 (.tmp 4) (.tmp 10)) rfl ?_); refine wpList_storeall rfl 61 (.tmp 4) (.tmp 10) rfl (w.heap.size + 2) rfl 66 Pic.zero.at q.at rfl 61 size_pic Z.out (fun i _ => Pic.one _ i) ?_; replace Z := Go.Lib.hid (row_set Z.out (vrow 66 q.at)); replace hB := Go.Lib.hid (Below_setRow hB.out (show w.heap.size ≤ w.heap.size + 2 by omega) (vrow 66 q.at))))
  exact ret_row2 Tryd.results30 (w.heap.size + 2) 66 q.at 61 _ Tryd.underlying61 rfl size_pic (.int .i64 k) rfl rfl rfl Z.out ⟨rfl, hB.out⟩
theorem okP_blank (a c : Nat) (ha : 1 ≤ a ∧ a ≤ 8) (hc : 1 ≤ c ∧ c ≤ 8) : okP (blankPic a c) = true :=
  okP_yes _ (sizeB_yes (by show (1 : Int) ≤ a; omega) (by show (a : Int) ≤ 8; omega) (by show (1 : Int) ≤ c; omega) (by show (c : Int) ≤ 8; omega)) fun x y hx hy => by simp [placeP, blankPic]
theorem blank_fit (a c : Nat) (ha : 1 ≤ a ∧ a ≤ 8) (hc : 1 ≤ c ∧ c ≤ 8) : (blankPic a c).fit := ⟨by unfold blankPic; simp only; omega, by unfold blankPic; simp only; omega, fun i _ => by unfold blankPic; simp⟩
end Go.Proofs.YtfgcpiipndhllaaDoor
