import Derived.Test.YtlhbdiddcbobjaaDoorDrop7
import Derived.Test.YtlhbdiddcbobjaaDoorLawCnt
namespace Go.Proofs.YtlhbdiddcbobjaaDoor
open Go.RowKit
set_option maxRecDepth 100000
set_option linter.unusedVariables false
set_option linter.unusedSimpArgs false
theorem canB_0 (p : Pic) (x y : Int) : canB p x y 0 = hasP p x y := by simp [canB]
set_option maxHeartbeats 1000000 in
theorem specCov_err (p : Pic) (x y k : Int) (px py : Nat → Int) (hf : p.fit) (hx : -128 ≤ x ∧ x ≤ 127) (hy : -128 ≤ y ∧ y ≤ 127) (h : (okP p = false ∧ k = 1) ∨ (okP p = true ∧ hasP p x y = false ∧ k = 2)) (w : World) :
    Calls Tryd.prog 12 #[.agg p.row, .agg #[.int .i8 x, .int .i8 y]] w fun e w' => ∃ v, e = .returned (.tuple #[v, .int .i64 k]) ∧ SlP w' v 0 px py w'.heap.size ∧ Below w.heap.size w w' := by
  have HO := Go.Lib.hid fun w' h => okP_from w' p w.heap.size w' h hf (Below.refl _ _)
  have HI := Go.Lib.hid fun w' h => pis_any p w.heap.size x y w' h hf hx hy
  rw [sp_vrow]
  have P : Hid (((w.alloc (.cells (vrow 66 p.at) 32)).alloc (.cells (vrow 2 (spAt x y)) 34)).heap[w.heap.size]? = some (.cells (vrow 66 p.at) 32)) := heap_past _ _ _ _ (by simp <;> omega) (heap_at _ _ _ (by simp))
  have R : Hid (((w.alloc (.cells (vrow 66 p.at) 32)).alloc (.cells (vrow 2 (spAt x y)) 34)).heap[w.heap.size + 1]? = some (.cells (vrow 2 (spAt x y)) 34)) := heap_at _ _ _ (by simp)
  have hB : Hid (Below w.heap.size w ((w.alloc (.cells (vrow 66 p.at) 32)).alloc (.cells (vrow 2 (spAt x y)) 34))) := (((Below.refl w.heap.size w).alloc (by simp <;> omega) _).alloc (by simp <;> omega) _)
  rcases h with ⟨h1, rfl⟩ | ⟨h1, h2, rfl⟩
  · rw [h1] at HO
    go_enter Tryd.func12, Tryd.ntmps12
    go_wp2_with (first
      | go_skip
      | (go_at_call 46; (refine (HO.out _ P.out).mono ?_; rintro e w1 ⟨rfl, hb⟩; replace P := Go.Lib.hid (row_next hb P.out); replace R := Go.Lib.hid (row_next hb R.out); replace hB := Go.Lib.hid (below_next hB.out hb); clear hb)))
    go_ret2
    exact ⟨_, rfl, ⟨_, _, rfl, fun h => absurd h (by omega)⟩, hB.out.alloc hB.out.size _⟩
  · rw [h1] at HO; rw [h2] at HI
    go_enter Tryd.func12, Tryd.ntmps12
    go_wp2_with (first
      | go_skip
      | ((with_reducible refine wlAt 9 rfl ?_); refine wpList_ldm 34 (.tmp 3) rfl (by first | exact want_n rfl | exact want_g _ _ _ rfl rfl rfl) (w.heap.size + 1) _ rfl 2 2 (spAt x y) _ rw_spot size_spot R.out (by omega) ?_; rw [sp_row])
      | (go_at_call 46; (refine (HO.out _ P.out).mono ?_; rintro e w1 ⟨rfl, hb⟩; replace P := Go.Lib.hid (row_next hb P.out); replace R := Go.Lib.hid (row_next hb R.out); replace hB := Go.Lib.hid (below_next hB.out hb); clear hb))
      | (go_at_call 47; (refine (HI.out _ P.out).mono ?_; rintro e w1 ⟨rfl, hb⟩; replace P := Go.Lib.hid (row_next hb P.out); replace R := Go.Lib.hid (row_next hb R.out); replace hB := Go.Lib.hid (below_next hB.out hb); clear hb)))
    go_ret2
    exact ⟨_, rfl, ⟨_, _, rfl, fun h => absurd h (by omega)⟩, hB.out.alloc hB.out.size _⟩
set_option maxHeartbeats 1000000 in
theorem specCov_ok (p : Pic) (a c x y : Nat) (hf : p.fit) (h1 : okP p = true) (h2 : hasP p x y = true) (ea : p.wide = a) (ec : p.high = c) (ha : a ≤ 8) (hc : c ≤ 8) (hx : x < 8) (hy : y < 8) (w : World) :
    Calls Tryd.prog 12 #[.agg p.row, .agg #[.int .i8 x, .int .i8 y]] w fun e w' => ∃ v, e = .returned (.tuple #[v, .int .i64 0]) ∧ w'.ownsRow w.heap.size 34 2 v (cov a c x y).length (vals (cov a c x y)) ∧ Below w.heap.size w w' := by
  have HO := Go.Lib.hid fun w' h => okP_from w' p w.heap.size w' h hf (Below.refl _ _)
  have HI := Go.Lib.hid fun w' h => pis_any p w.heap.size x y w' h hf (by omega) (by omega)
  have HC := Go.Lib.hid fun w' h => lcov_any p w.heap.size a c x y w' h hf ea ec ha hc hx hy
  rw [h1] at HO; rw [h2] at HI
  rw [sp_vrow]
  have P : Hid (((w.alloc (.cells (vrow 66 p.at) 32)).alloc (.cells (vrow 2 (spAt x y)) 34)).heap[w.heap.size]? = some (.cells (vrow 66 p.at) 32)) := heap_past _ _ _ _ (by simp <;> omega) (heap_at _ _ _ (by simp))
  have R : Hid (((w.alloc (.cells (vrow 66 p.at) 32)).alloc (.cells (vrow 2 (spAt x y)) 34)).heap[w.heap.size + 1]? = some (.cells (vrow 2 (spAt x y)) 34)) := heap_at _ _ _ (by simp)
  have hB : Hid (Below w.heap.size w ((w.alloc (.cells (vrow 66 p.at) 32)).alloc (.cells (vrow 2 (spAt x y)) 34))) := (((Below.refl w.heap.size w).alloc (by simp <;> omega) _).alloc (by simp <;> omega) _)
  clear h1 h2 ea ec
  go_enter Tryd.func12, Tryd.ntmps12
  go_wp2_with (first
    | go_skip
    | ((first | (with_reducible refine wlAt 9 rfl ?_) | (with_reducible refine wlAt 13 rfl ?_)); refine wpList_ldm 34 (.tmp 3) rfl (by first | exact want_n rfl | exact want_g _ _ _ rfl rfl rfl) (w.heap.size + 1) _ rfl 2 2 (spAt x y) _ rw_spot size_spot R.out (by omega) ?_; rw [sp_row])
    | (go_at_call 46; (refine (HO.out _ P.out).mono ?_; rintro e w1 ⟨rfl, hb⟩; replace P := Go.Lib.hid (row_next hb P.out); replace R := Go.Lib.hid (row_next hb R.out); replace hB := Go.Lib.hid (below_next hB.out hb); clear hb))
    | (go_at_call 47; (refine (HI.out _ P.out).mono ?_; rintro e w1 ⟨rfl, hb⟩; replace P := Go.Lib.hid (row_next hb P.out); replace R := Go.Lib.hid (row_next hb R.out); replace hB := Go.Lib.hid (below_next hB.out hb); clear hb))
    | (go_at_call 48; (refine (HC.out _ P.out).mono ?_; rintro e w3 ⟨v, rfl, hO, hb⟩; have hsz := hB.out.size; replace hB := Go.Lib.hid (below_next hB.out hb); have O := Go.Lib.hid hO; clear hb hO)))
  go_ret2
  exact ⟨v, rfl, own_mono hsz O.out, hB.out⟩
set_option maxHeartbeats 1000000 in
theorem implCov_err (p : Pic) (x y k : Int) (hf : p.fit) (h : (okP p = false ∧ k = 1) ∨ (okP p = true ∧ hasP p x y = false ∧ k = 2)) (e : ErrE) (w : World) (hE : Errs e w) :
    Calls Tryd.prog 15 #[.agg p.row, .agg #[.int .i8 x, .int .i8 y]] w fun o w' => o = .returned (.tuple #[.slice none 0 0, .int .i64 k]) ∧ Below w.heap.size w w' := by
  obtain ⟨v, HC, HD⟩ : ∃ v, Hid (∀ w, Errs e w → Calls Tryd.prog 50 #[.agg p.row, .agg (vrow 3 (drAt x y 0))] w fun o w' => o = .returned (errP e v) ∧ Below w.heap.size w w') ∧ Hid (∀ w, Errs e w → Calls Tryd.prog 51 #[errP e v] w fun o w' => o = .returned (.int .i64 k) ∧ Below w.heap.size w w') := by
    rcases h with ⟨h1, rfl⟩ | ⟨h1, h2, rfl⟩
    · exact ⟨1, Go.Lib.hid fun w hE => ckOn_bad p x y 0 hf h1 e w hE, Go.Lib.hid fun w hE => codeOf_1 e w hE⟩
    · exact ⟨2, Go.Lib.hid fun w hE => ckOn_rng p x y 0 hf h1 (by rw [canB_0]; exact h2) e w hE, Go.Lib.hid fun w hE => codeOf_2 e w hE⟩
  clear h
  rw [sp_vrow]
  have P : Hid (((w.alloc (.cells (vrow 66 p.at) 32)).alloc (.cells (vrow 2 (spAt x y)) 34)).heap[w.heap.size]? = some (.cells (vrow 66 p.at) 32)) := heap_past _ _ _ _ (by simp <;> omega) (heap_at _ _ _ (by simp))
  have R : Hid (((w.alloc (.cells (vrow 66 p.at) 32)).alloc (.cells (vrow 2 (spAt x y)) 34)).heap[w.heap.size + 1]? = some (.cells (vrow 2 (spAt x y)) 34)) := heap_at _ _ _ (by simp)
  have hB : Hid (Below w.heap.size w ((w.alloc (.cells (vrow 66 p.at) 32)).alloc (.cells (vrow 2 (spAt x y)) 34))) := (((Below.refl w.heap.size w).alloc (by simp <;> omega) _).alloc (by simp <;> omega) _)
  have E : Hid (Errs e ((w.alloc (.cells (vrow 66 p.at) 32)).alloc (.cells (vrow 2 (spAt x y)) 34))) := (hE.alloc _).alloc _
  go_enter Tryd.func15, Tryd.ntmps15
  go_wp2_with (first
    | go_skip
    | ((with_reducible refine wlAt 7 rfl ?_); refine wpList_ldm 32 (.tmp 2) rfl (by first | exact want_n rfl | exact want_g _ _ _ rfl rfl rfl) (w.heap.size) _ rfl 66 66 p.at _ rw_pic size_pic P.out (by omega) ?_; rw [pic_row])
    | ((with_reducible refine wlAt 8 rfl ?_); refine wpList_ldm 34 (.tmp 3) rfl (by first | exact want_n rfl | exact want_g _ _ _ rfl rfl rfl) (w.heap.size + 1) _ rfl 2 2 (spAt x y) _ rw_spot size_spot R.out (by omega) ?_; rw [sp_row])
    | ((with_reducible refine wlAt 9 rfl ?_); refine wpList_built rfl 44 [(0, .tmp 8)] rfl [(0, .agg #[.int .i8 x, .int .i8 y])] (by rfl) _ (built_dr x y) ?_)
    | (go_at_call 50; (refine (HC.out _ E.out).mono ?_; rintro o w1 ⟨rfl, hb⟩; replace P := Go.Lib.hid (row_next hb P.out); replace R := Go.Lib.hid (row_next hb R.out); replace hB := Go.Lib.hid (below_next hB.out hb); replace E := Go.Lib.hid (E.out.next hb); clear hb))
    | (go_at_call 51; (refine (HD.out _ E.out).mono ?_; rintro o w2 ⟨rfl, hb⟩; replace P := Go.Lib.hid (row_next hb P.out); replace R := Go.Lib.hid (row_next hb R.out); replace hB := Go.Lib.hid (below_next hB.out hb); replace E := Go.Lib.hid (E.out.next hb); clear hb)))
  go_ret2
  exact ⟨rfl, hB.out⟩
set_option maxHeartbeats 1000000 in
theorem implCov_ok (p : Pic) (a c x y : Nat) (hf : p.fit) (h1 : okP p = true) (h2 : hasP p x y = true) (ea : p.wide = a) (ec : p.high = c) (ha : a ≤ 8) (hc : c ≤ 8) (hx : x < 8) (hy : y < 8) (e : ErrE) (w : World) (hE : Errs e w) :
    Calls Tryd.prog 15 #[.agg p.row, .agg #[.int .i8 x, .int .i8 y]] w fun o w' => ∃ v, o = .returned (.tuple #[v, .int .i64 0]) ∧ w'.ownsRow w.heap.size 34 2 v (cov a c x y).length (vals (cov a c x y)) ∧ Below w.heap.size w w' := by
  have HK := Go.Lib.hid fun w hE => ckOn_ok p x y 0 hf h1 (by rw [canB_0]; exact h2) e w hE
  have HC := Go.Lib.hid fun w => icov_any p a c x y w ea ec ha hc hx hy
  rw [sp_vrow]
  have P : Hid (((w.alloc (.cells (vrow 66 p.at) 32)).alloc (.cells (vrow 2 (spAt x y)) 34)).heap[w.heap.size]? = some (.cells (vrow 66 p.at) 32)) := heap_past _ _ _ _ (by simp <;> omega) (heap_at _ _ _ (by simp))
  have R : Hid (((w.alloc (.cells (vrow 66 p.at) 32)).alloc (.cells (vrow 2 (spAt x y)) 34)).heap[w.heap.size + 1]? = some (.cells (vrow 2 (spAt x y)) 34)) := heap_at _ _ _ (by simp)
  have hB : Hid (Below w.heap.size w ((w.alloc (.cells (vrow 66 p.at) 32)).alloc (.cells (vrow 2 (spAt x y)) 34))) := (((Below.refl w.heap.size w).alloc (by simp <;> omega) _).alloc (by simp <;> omega) _)
  have E : Hid (Errs e ((w.alloc (.cells (vrow 66 p.at) 32)).alloc (.cells (vrow 2 (spAt x y)) 34))) := (hE.alloc _).alloc _
  clear h1 h2 ea ec
  go_enter Tryd.func15, Tryd.ntmps15
  go_wp2_with (first
    | go_skip
    | ((first | (with_reducible refine wlAt 7 rfl ?_) | (with_reducible refine wlAt 15 rfl ?_)); refine wpList_ldm 32 (.tmp 2) rfl (by first | exact want_n rfl | exact want_g _ _ _ rfl rfl rfl) (w.heap.size) _ rfl 66 66 p.at _ rw_pic size_pic P.out (by omega) ?_; rw [pic_row])
    | ((first | (with_reducible refine wlAt 8 rfl ?_) | (with_reducible refine wlAt 16 rfl ?_)); refine wpList_ldm 34 (.tmp 3) rfl (by first | exact want_n rfl | exact want_g _ _ _ rfl rfl rfl) (w.heap.size + 1) _ rfl 2 2 (spAt x y) _ rw_spot size_spot R.out (by omega) ?_; rw [sp_row])
    | ((with_reducible refine wlAt 9 rfl ?_); refine wpList_built rfl 44 [(0, .tmp 8)] rfl [(0, .agg #[.int .i8 x, .int .i8 y])] (by rfl) _ (built_dr x y) ?_)
    | (go_at_call 50; (refine (HK.out _ E.out).mono ?_; rintro o w1 ⟨rfl, hb⟩; replace P := Go.Lib.hid (row_next hb P.out); replace R := Go.Lib.hid (row_next hb R.out); replace hB := Go.Lib.hid (below_next hB.out hb); replace E := Go.Lib.hid (E.out.next hb); clear hb))
    | (go_at_call 52; (refine (HC.out _).mono ?_; rintro o w3 ⟨v, rfl, hO, hb⟩; have hsz := hB.out.size; replace hB := Go.Lib.hid (below_next hB.out hb); have O := Go.Lib.hid hO; clear hb hO)))
  go_ret2
  exact ⟨v, rfl, own_mono hsz O.out, hB.out⟩
end Go.Proofs.YtlhbdiddcbobjaaDoor
