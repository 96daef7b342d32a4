import Derived.Deep.RegionHeld3
import Derived.Test.YthkkbkpfomhdeaaMixS2
namespace Go.Proofs.Ythkkbkpfomhdeaa
open Go.RowKit
set_option maxRecDepth 100000
set_option linter.unusedVariables false
set_option linter.unusedSimpArgs false
set_option maxHeartbeats 1000000 in
/-- two cells share what they have -/
theorem mix_any (m l : Nat) (i j n n' : Nat) (f g : Nat → Value) (t t' : TypeId) (x y : Int) (w : World) (hx : 0 ≤ x ∧ x ≤ 2000) (hy : 0 ≤ y ∧ y ≤ 2000) (hne : m ≠ l) (hi : i < n) (hj : j < n') (hfi : f i = .int .i16 x) (hgj : g j = .int .i16 y)
    (hm : w.heap[m]? = some (.cells (vrow n f) t)) (hl : w.heap[l]? = some (.cells (vrow n' g) t')) :
    Calls Try.prog 16 #[.pointer (some ⟨m, i, none⟩), .pointer (some ⟨l, j, none⟩)] w fun o w' => o = .returned (.tuple #[]) ∧ ∃ w2, Below w.heap.size w w2 ∧ w' = (((w2.setRow l (vrow n' (over g j 1 fun _ => .int .i16 ((x + y) / 2)))).setRow m (vrow n (over f i 1 fun _ => .int .i16 (x + y - (x + y) / 2))))) := by
  have e2 : (x + y).tdiv 2 = (x + y) / 2 := Int.tdiv_eq_ediv_of_nonneg (by omega)
  have c1 : w.cell? ⟨m, i, none⟩ = some (.int .i16 x) := (cell_row hm hi).trans (by rw [hfi])
  have c2 : w.cell? ⟨l, j, none⟩ = some (.int .i16 y) := (cell_row hl hj).trans (by rw [hgj])
  obtain ⟨hx1, hx2⟩ := hx
  obtain ⟨hy1, hy2⟩ := hy
  have P := Go.Lib.hid hm; have R := Go.Lib.hid hl
  clear hm hl
  go_enter Try.func16, Try.ntmps16
  go_wp2
  go_quiet (fail)
  replace P := Go.Lib.hid (drwN (n := nq) P.out); replace R := Go.Lib.hid (drwN (n := nq) R.out)
  have hB := Go.Lib.hid (below_drewN (Below.refl w.heap.size w) nq)
  clear c1 c2
  generalize World.drewN _ _ = w2 at P R hB ⊢
  go_wp2_with (first
    | go_skip
    | ((with_reducible refine wlOp (.store 22 (.tmp 15) (.tmp 14)) rfl ?_); refine wpList_store1 rfl 22 (.tmp 15) (.tmp 14) rfl _ j rfl n' g (.int .i16 ((x + y) / 2)) rfl t' size_i16 R.out hj rfl ?_; replace P := Go.Lib.hid (row_set' (g := l) hne P.out (vrow n' (over g j 1 fun _ => .int .i16 ((x + y) / 2)))); replace R := Go.Lib.hid (row_set R.out (vrow n' (over g j 1 fun _ => .int .i16 ((x + y) / 2)))))
    | ((with_reducible refine wlAt 20 rfl ?_); refine wpList_load1 rfl 22 (.tmp 19) rfl _ j rfl n' (over g j 1 fun _ => .int .i16 ((x + y) / 2)) t' _ Try.underlying22 rfl R.out hj ?_; rw [show over g j 1 (fun _ => Value.int .i16 ((x + y) / 2)) j = .int .i16 ((x + y) / 2) by simp [over]])
    | ((with_reducible refine wlOp (.store 22 (.tmp 22) (.tmp 21)) rfl ?_); refine wpList_store1 rfl 22 (.tmp 22) (.tmp 21) rfl _ i rfl n f (.int .i16 (x + y - (x + y) / 2)) rfl t size_i16 P.out hi rfl ?_))
  go_end0
  exact ⟨rfl, _, hB.out, rfl⟩
theorem mixC (a b : Br) (m l k : Nat) (w : World) (ba : a.bd) (bb : b.bd) (hne : m ≠ l) (hk : k < 3) (hm : w.heap[m]? = some (.cells (vrow 5 (mixAk a b k).at) 27)) (hl : w.heap[l]? = some (.cells (vrow 5 (mixBk a b k).at) 27)) :
    Calls Try.prog 16 #[.pointer (some ⟨m, k, none⟩), .pointer (some ⟨l, k, none⟩)] w fun o w' => o = .returned (.tuple #[]) ∧ ∃ w2, Below w.heap.size w w2 ∧ w' = (w2.setRow l (vrow 5 (mixBk a b (k + 1)).at)).setRow m (vrow 5 (mixAk a b (k + 1)).at) := by
  have h1 := ba.dye k hk; have h2 := bb.dye k hk
  refine (mix_any m l k k 5 5 _ _ 27 27 (a.dye k) (b.dye k) w (by omega) (by omega) hne (by omega) (by omega) (by rw [Br.at_k _ _ hk, mixAk_dye]) (by rw [Br.at_k _ _ hk, mixBk_dye]) hm hl).mono fun o w' ⟨ho, w2, hb, hw⟩ => ⟨ho, w2, hb, ?_⟩
  rw [hw, show a.dye k + b.dye k - (a.dye k + b.dye k) / 2 = (a.dye k + b.dye k + 1) / 2 by omega, Br.dye_at _ _ hk, Br.dye_at _ _ hk, mixAk_set, mixBk_set]
theorem mixWt (a b : Br) (m l : Nat) (w : World) (ba : a.bd) (bb : b.bd) (hne : m ≠ l) (hm : w.heap[m]? = some (.cells (vrow 5 (mixAk a b 3).at) 27)) (hl : w.heap[l]? = some (.cells (vrow 5 (mixBk a b 3).at) 27)) :
    Calls Try.prog 16 #[.pointer (some ⟨m, 3, none⟩), .pointer (some ⟨l, 3, none⟩)] w fun o w' => o = .returned (.tuple #[]) ∧ ∃ w2, Below w.heap.size w w2 ∧ w' = (w2.setRow l (vrow 5 (mixB a b).at)).setRow m (vrow 5 (mixA a b).at) := by
  have h1 := ba.water; have h2 := bb.water
  refine (mix_any m l 3 3 5 5 _ _ 27 27 a.water b.water w (by omega) (by omega) hne (by omega) (by omega) rfl rfl hm hl).mono fun o w' ⟨ho, w2, hb, hw⟩ => ⟨ho, w2, hb, ?_⟩
  rw [hw, show a.water + b.water - (a.water + b.water) / 2 = (a.water + b.water + 1) / 2 by omega, Br.water_at, Br.water_at, mixA_end, mixB_end]
theorem rw_br0 : (Try.prog.underlying 27).map (·.isRow) = some true := by kernel_rfl
set_option maxHeartbeats 2000000 in
theorem implMix_bad (a b : Br) (w : World) (hfa : a.fit) (hfb : b.fit) (ho : a.ok = false ∨ b.ok = false) : Calls Try.prog 8 #[.agg a.row, .agg b.row] w fun o w' => o = .returned (.tuple #[.agg Br.zero.row, .agg Br.zero.row, .int .i64 1]) ∧ Below w.heap.size w w' := by
  have zz := zero_br
  have P : Hid (((((w.alloc (.cells (vrow 5 a.at) 27)).alloc (.cells (vrow 5 b.at) 27)).alloc (.cells (vrow 5 Br.zero.at) 27)).alloc (.cells (vrow 5 Br.zero.at) 27)).heap[w.heap.size]? = some (.cells (vrow 5 a.at) 27)) := heap_past _ _ _ _ (by simp <;> omega) (heap_past _ _ _ _ (by simp <;> omega) (heap_past _ _ _ _ (by simp <;> omega) (heap_at _ _ _ (by simp))))
  have R : Hid (((((w.alloc (.cells (vrow 5 a.at) 27)).alloc (.cells (vrow 5 b.at) 27)).alloc (.cells (vrow 5 Br.zero.at) 27)).alloc (.cells (vrow 5 Br.zero.at) 27)).heap[w.heap.size + 1]? = some (.cells (vrow 5 b.at) 27)) := heap_past _ _ _ _ (by simp <;> omega) (heap_past _ _ _ _ (by simp <;> omega) (heap_at _ _ _ (by simp)))
  have Z : Hid (((((w.alloc (.cells (vrow 5 a.at) 27)).alloc (.cells (vrow 5 b.at) 27)).alloc (.cells (vrow 5 Br.zero.at) 27)).alloc (.cells (vrow 5 Br.zero.at) 27)).heap[w.heap.size + 2]? = some (.cells (vrow 5 Br.zero.at) 27)) := heap_past _ _ _ _ (by simp <;> omega) (heap_at _ _ _ (by simp))
  have Y : Hid (((((w.alloc (.cells (vrow 5 a.at) 27)).alloc (.cells (vrow 5 b.at) 27)).alloc (.cells (vrow 5 Br.zero.at) 27)).alloc (.cells (vrow 5 Br.zero.at) 27)).heap[w.heap.size + 3]? = some (.cells (vrow 5 Br.zero.at) 27)) := heap_at _ _ _ (by simp)
  have hB : Hid (Below w.heap.size w ((((w.alloc (.cells (vrow 5 a.at) 27)).alloc (.cells (vrow 5 b.at) 27)).alloc (.cells (vrow 5 Br.zero.at) 27)).alloc (.cells (vrow 5 Br.zero.at) 27))) := (((((Below.refl w.heap.size w).alloc (by simp <;> omega) _).alloc (by simp <;> omega) _).alloc (by simp <;> omega) _).alloc (by simp <;> omega) _)
  have HA0 := fun w => vbrush_any a hfa w
  have HO0 := fun w => vbrush_any b hfb w
  cases hoa : a.ok
  · rw [hoa] at HA0
    have HA := Go.Lib.hid HA0
    clear HA0 HO0 ho
    go_enter Try.func8, Try.ntmps8
    go_wp2_with (first | go_skip | ((with_reducible refine wlAt 8 rfl ?_); refine wpList_ldm 27 _ rfl (by first | exact want_n rfl | exact want_g _ _ _ rfl rfl rfl) w.heap.size 0 rfl 5 5 a.at _ rw_br0 size_br P.out (by omega) ?_; rw [vrow_0]) | (go_at_call 13; (with_reducible refine (HA.out _).mono ?_); rintro o w1 ⟨rfl, hb⟩; replace P := Go.Lib.hid (row_next hb P.out); replace R := Go.Lib.hid (row_next hb R.out); replace Z := Go.Lib.hid (row_next hb Z.out); replace Y := Go.Lib.hid (row_next hb Y.out); replace hB := Go.Lib.hid (below_next hB.out hb); clear hb) | ((with_reducible refine wlAt 16 rfl ?_); refine wpList_built rfl 27 [] rfl [] (by rfl) _ built_zbr ?_) | ((with_reducible refine wlAt 17 rfl ?_); refine wpList_built rfl 27 [] rfl [] (by rfl) _ built_zbr ?_) | ((with_reducible refine wlOp (.store 27 (.tmp 4) (.tmp 16)) rfl ?_); refine wpList_storeall rfl 27 (.tmp 4) (.tmp 16) rfl (w.heap.size + 2) rfl 5 Br.zero.at Br.zero.at rfl 27 size_br Z.out (fun i _ => Br.one _ i) ?_; replace Y := Go.Lib.hid (row_set' (g := w.heap.size + 2) (show w.heap.size + 3 ≠ w.heap.size + 2 by omega) Y.out (vrow 5 Br.zero.at)); replace Z := Go.Lib.hid (row_set Z.out (vrow 5 Br.zero.at)); replace hB := Go.Lib.hid (Below_setRow hB.out (show w.heap.size ≤ w.heap.size + 2 by omega) (vrow 5 Br.zero.at))) | ((with_reducible refine wlOp (.store 27 (.tmp 5) (.tmp 17)) rfl ?_); refine wpList_storeall rfl 27 (.tmp 5) (.tmp 17) rfl (w.heap.size + 3) rfl 5 Br.zero.at Br.zero.at rfl 27 size_br Y.out (fun i _ => Br.one _ i) ?_; replace Z := Go.Lib.hid (row_set' (g := w.heap.size + 3) (show w.heap.size + 2 ≠ w.heap.size + 3 by omega) Z.out (vrow 5 Br.zero.at)); replace Y := Go.Lib.hid (row_set Y.out (vrow 5 Br.zero.at)); replace hB := Go.Lib.hid (Below_setRow hB.out (show w.heap.size ≤ w.heap.size + 3 by omega) (vrow 5 Br.zero.at))))
    exact ret_rows2 Try.results8 (w.heap.size + 2) 5 Br.zero.at 27 _ Try.underlying27 rfl size_br (w.heap.size + 3) 5 Br.zero.at 27 _ Try.underlying27 rfl size_br (.int .i64 1) rfl rfl rfl rfl Z.out Y.out ⟨rfl, hB.out⟩
  · have hob : b.ok = false := by rcases ho with h | h; (rw [hoa] at h; cases h); exact h
    rw [hoa] at HA0
    rw [hob] at HO0
    have HA := Go.Lib.hid HA0
    have HO := Go.Lib.hid HO0
    clear HA0 HO0 ho
    go_enter Try.func8, Try.ntmps8
    go_wp2_with (first | go_skip | ((with_reducible refine wlAt 8 rfl ?_); refine wpList_ldm 27 _ rfl (by first | exact want_n rfl | exact want_g _ _ _ rfl rfl rfl) w.heap.size 0 rfl 5 5 a.at _ rw_br0 size_br P.out (by omega) ?_; rw [vrow_0]) | ((with_reducible refine wlAt 12 rfl ?_); refine wpList_ldm 27 _ rfl (by first | exact want_n rfl | exact want_g _ _ _ rfl rfl rfl) (w.heap.size + 1) 0 rfl 5 5 b.at _ rw_br0 size_br R.out (by omega) ?_; rw [vrow_0]) | (go_at_call 13; (with_reducible refine (HA.out _).mono ?_); rintro o w1 ⟨rfl, hb⟩; replace P := Go.Lib.hid (row_next hb P.out); replace R := Go.Lib.hid (row_next hb R.out); replace Z := Go.Lib.hid (row_next hb Z.out); replace Y := Go.Lib.hid (row_next hb Y.out); replace hB := Go.Lib.hid (below_next hB.out hb); clear hb) | (go_at_call 13; (with_reducible refine (HO.out _).mono ?_); rintro o w1 ⟨rfl, hb⟩; replace P := Go.Lib.hid (row_next hb P.out); replace R := Go.Lib.hid (row_next hb R.out); replace Z := Go.Lib.hid (row_next hb Z.out); replace Y := Go.Lib.hid (row_next hb Y.out); replace hB := Go.Lib.hid (below_next hB.out hb); clear hb) | ((with_reducible refine wlAt 16 rfl ?_); refine wpList_built rfl 27 [] rfl [] (by rfl) _ built_zbr ?_) | ((with_reducible refine wlAt 17 rfl ?_); refine wpList_built rfl 27 [] rfl [] (by rfl) _ built_zbr ?_) | ((with_reducible refine wlOp (.store 27 (.tmp 4) (.tmp 16)) rfl ?_); refine wpList_storeall rfl 27 (.tmp 4) (.tmp 16) rfl (w.heap.size + 2) rfl 5 Br.zero.at Br.zero.at rfl 27 size_br Z.out (fun i _ => Br.one _ i) ?_; replace Y := Go.Lib.hid (row_set' (g := w.heap.size + 2) (show w.heap.size + 3 ≠ w.heap.size + 2 by omega) Y.out (vrow 5 Br.zero.at)); replace Z := Go.Lib.hid (row_set Z.out (vrow 5 Br.zero.at)); replace hB := Go.Lib.hid (Below_setRow hB.out (show w.heap.size ≤ w.heap.size + 2 by omega) (vrow 5 Br.zero.at))) | ((with_reducible refine wlOp (.store 27 (.tmp 5) (.tmp 17)) rfl ?_); refine wpList_storeall rfl 27 (.tmp 5) (.tmp 17) rfl (w.heap.size + 3) rfl 5 Br.zero.at Br.zero.at rfl 27 size_br Y.out (fun i _ => Br.one _ i) ?_; replace Z := Go.Lib.hid (row_set' (g := w.heap.size + 3) (show w.heap.size + 2 ≠ w.heap.size + 3 by omega) Z.out (vrow 5 Br.zero.at)); replace Y := Go.Lib.hid (row_set Y.out (vrow 5 Br.zero.at)); replace hB := Go.Lib.hid (Below_setRow hB.out (show w.heap.size ≤ w.heap.size + 3 by omega) (vrow 5 Br.zero.at))))
    exact ret_rows2 Try.results8 (w.heap.size + 2) 5 Br.zero.at 27 _ Try.underlying27 rfl size_br (w.heap.size + 3) 5 Br.zero.at 27 _ Try.underlying27 rfl size_br (.int .i64 1) rfl rfl rfl rfl Z.out Y.out ⟨rfl, hB.out⟩
set_option maxHeartbeats 4000000 in
theorem implMix_ok (a b r q : Br) (c : Int) (hres : MixRes a b r q c) (w : World) (hfa : a.fit) (hfb : b.fit) (hoa : a.ok = true) (hob : b.ok = true) : Calls Try.prog 8 #[.agg a.row, .agg b.row] w fun o w' => o = .returned (.tuple #[.agg r.row, .agg q.row, .int .i64 c]) ∧ Below w.heap.size w w' := by
  have zz := zero_br
  have P : Hid (((((w.alloc (.cells (vrow 5 a.at) 27)).alloc (.cells (vrow 5 b.at) 27)).alloc (.cells (vrow 5 Br.zero.at) 27)).alloc (.cells (vrow 5 Br.zero.at) 27)).heap[w.heap.size]? = some (.cells (vrow 5 a.at) 27)) := heap_past _ _ _ _ (by simp <;> omega) (heap_past _ _ _ _ (by simp <;> omega) (heap_past _ _ _ _ (by simp <;> omega) (heap_at _ _ _ (by simp))))
  have R : Hid (((((w.alloc (.cells (vrow 5 a.at) 27)).alloc (.cells (vrow 5 b.at) 27)).alloc (.cells (vrow 5 Br.zero.at) 27)).alloc (.cells (vrow 5 Br.zero.at) 27)).heap[w.heap.size + 1]? = some (.cells (vrow 5 b.at) 27)) := heap_past _ _ _ _ (by simp <;> omega) (heap_past _ _ _ _ (by simp <;> omega) (heap_at _ _ _ (by simp)))
  have Z : Hid (((((w.alloc (.cells (vrow 5 a.at) 27)).alloc (.cells (vrow 5 b.at) 27)).alloc (.cells (vrow 5 Br.zero.at) 27)).alloc (.cells (vrow 5 Br.zero.at) 27)).heap[w.heap.size + 2]? = some (.cells (vrow 5 Br.zero.at) 27)) := heap_past _ _ _ _ (by simp <;> omega) (heap_at _ _ _ (by simp))
  have Y : Hid (((((w.alloc (.cells (vrow 5 a.at) 27)).alloc (.cells (vrow 5 b.at) 27)).alloc (.cells (vrow 5 Br.zero.at) 27)).alloc (.cells (vrow 5 Br.zero.at) 27)).heap[w.heap.size + 3]? = some (.cells (vrow 5 Br.zero.at) 27)) := heap_at _ _ _ (by simp)
  have hB : Hid (Below w.heap.size w ((((w.alloc (.cells (vrow 5 a.at) 27)).alloc (.cells (vrow 5 b.at) 27)).alloc (.cells (vrow 5 Br.zero.at) 27)).alloc (.cells (vrow 5 Br.zero.at) 27))) := (((((Below.refl w.heap.size w).alloc (by simp <;> omega) _).alloc (by simp <;> omega) _).alloc (by simp <;> omega) _).alloc (by simp <;> omega) _)
  have HA0 := fun w => vbrush_any a hfa w
  have HO0 := fun w => vbrush_any b hfb w
  rw [hoa] at HA0
  rw [hob] at HO0
  have HA := Go.Lib.hid HA0
  have HO := Go.Lib.hid HO0
  have ba := a.ok_bd hoa
  have bb := b.ok_bd hob
  have HMA0 := fun w => vbrush_any (mixA a b) (mixA_fit ba bb hfa) w
  have HMB0 := fun w => vbrush_any (mixB a b) (mixB_fit ba bb hfb) w
  have HXW := Go.Lib.hid fun v hm hl => mixWt a b w.heap.size (w.heap.size + 1) v ba bb (by omega) hm hl
  clear HA0 HO0 hfa hfb hoa hob
  go_enter Try.func8, Try.ntmps8
  go_wp2_with (first | go_skip | ((with_reducible refine wlAt 8 rfl ?_); refine wpList_ldm 27 _ rfl (by first | exact want_n rfl | exact want_g _ _ _ rfl rfl rfl) w.heap.size 0 rfl 5 5 a.at _ rw_br0 size_br P.out (by omega) ?_; rw [vrow_0]) | ((with_reducible refine wlAt 12 rfl ?_); refine wpList_ldm 27 _ rfl (by first | exact want_n rfl | exact want_g _ _ _ rfl rfl rfl) (w.heap.size + 1) 0 rfl 5 5 b.at _ rw_br0 size_br R.out (by omega) ?_; rw [vrow_0]) | (go_at_call 13; (with_reducible refine (HA.out _).mono ?_); rintro o w1 ⟨rfl, hb⟩; replace P := Go.Lib.hid (row_next hb P.out); replace R := Go.Lib.hid (row_next hb R.out); replace Z := Go.Lib.hid (row_next hb Z.out); replace Y := Go.Lib.hid (row_next hb Y.out); replace hB := Go.Lib.hid (below_next hB.out hb); clear hb) | (go_at_call 13; (with_reducible refine (HO.out _).mono ?_); rintro o w1 ⟨rfl, hb⟩; replace P := Go.Lib.hid (row_next hb P.out); replace R := Go.Lib.hid (row_next hb R.out); replace Z := Go.Lib.hid (row_next hb Z.out); replace Y := Go.Lib.hid (row_next hb Y.out); replace hB := Go.Lib.hid (below_next hB.out hb); clear hb))
  go_loopw [18] (fun iv wr => ∃ k : Nat, k ≤ 3 ∧ iv = .int .i64 k ∧ wr.heap[w.heap.size]? = some (.cells (vrow 5 (mixAk a b k).at) 27) ∧ wr.heap[w.heap.size + 1]? = some (.cells (vrow 5 (mixBk a b k).at) 27) ∧ wr.heap[w.heap.size + 2]? = some (.cells (vrow 5 Br.zero.at) 27) ∧ wr.heap[w.heap.size + 3]? = some (.cells (vrow 5 Br.zero.at) 27) ∧ Below w.heap.size w wr) (fun iv _ => 3 - (intOf iv).toNat)
  case atStart => exact ⟨0, by omega, rfl, by rw [mixAk_0]; exact P.out, by rw [mixBk_0]; exact R.out, Z.out, Y.out, hB.out⟩
  case round =>
    clear P R Z Y hB
    obtain ⟨k, hk, rfl, P, R, Z, Y, hB⟩ := hrel
    replace P := Go.Lib.hid P; replace R := Go.Lib.hid R; replace Z := Go.Lib.hid Z; replace Y := Go.Lib.hid Y; replace hB := Go.Lib.hid hB
    by_cases hlt : k < 3
    · have hkI : (k : Int) < 3 := by omega
      have HX := Go.Lib.hid fun v hm hl => mixC a b w.heap.size (w.heap.size + 1) k v ba bb (by omega) hlt hm hl
      clear ba bb HMA0 HMB0 hres
      go_wp2
      refine wp_region_still_tail 6 (by kernel_rfl) (by kernel_rfl) ?_
      simp only [List.take_succ_cons, List.take_zero, List.drop_succ_cons, List.drop_zero]
      repeat still_step
      refine wpStill_nil ?_
      replace P := Go.Lib.hid (drw P.out); replace R := Go.Lib.hid (drw R.out); replace Z := Go.Lib.hid (drw Z.out); replace Y := Go.Lib.hid (drw Y.out); replace hB := Go.Lib.hid hB.out.drew
      change wpList _ _ _ _ _ (World.drew _)
      generalize World.drew _ = W2 at P R Z Y hB ⊢
      go_wp2_with (first
        | go_skip
        | (go_at_call 16; (refine (HX.out _ P.out R.out).mono ?_); rintro o w3 ⟨rfl, w2, hb, rfl⟩; replace P := Go.Lib.hid (row_set (row_set' (g := w.heap.size + 1) (show w.heap.size ≠ w.heap.size + 1 by omega) (row_next hb P.out) (vrow 5 (mixBk a b (k + 1)).at)) (vrow 5 (mixAk a b (k + 1)).at)); replace R := Go.Lib.hid (row_set' (g := w.heap.size) (show w.heap.size + 1 ≠ w.heap.size by omega) (row_set (row_next hb R.out) (vrow 5 (mixBk a b (k + 1)).at)) (vrow 5 (mixAk a b (k + 1)).at)); replace Z := Go.Lib.hid (row_set' (g := w.heap.size) (show w.heap.size + 2 ≠ w.heap.size by omega) (row_set' (g := w.heap.size + 1) (show w.heap.size + 2 ≠ w.heap.size + 1 by omega) (row_next hb Z.out) (vrow 5 (mixBk a b (k + 1)).at)) (vrow 5 (mixAk a b (k + 1)).at)); replace Y := Go.Lib.hid (row_set' (g := w.heap.size) (show w.heap.size + 3 ≠ w.heap.size by omega) (row_set' (g := w.heap.size + 1) (show w.heap.size + 3 ≠ w.heap.size + 1 by omega) (row_next hb Y.out) (vrow 5 (mixBk a b (k + 1)).at)) (vrow 5 (mixAk a b (k + 1)).at)); replace hB := Go.Lib.hid (Below_setRow (Below_setRow (below_next hB.out hb) (show w.heap.size ≤ w.heap.size + 1 by omega) (vrow 5 (mixBk a b (k + 1)).at)) (Nat.le_refl _) (vrow 5 (mixAk a b (k + 1)).at)); clear hb))
      go_roundw
      case rel => exact ⟨k + 1, by omega, by go_num, P.out, R.out, Z.out, Y.out, hB.out⟩
      case measure => simp [intOf]; omega
    · obtain rfl : k = 3 := by omega
      clear ba bb
      cases hma : (mixA a b).ok
      · obtain ⟨_, rfl, rfl, rfl⟩ : _ ∧ r = Br.zero ∧ q = Br.zero ∧ c = 3 := by
          rcases hres with ⟨h1, h2, _⟩ | h
          · simp_all
          · exact h
        rw [hma] at HMA0
        have HMA := Go.Lib.hid HMA0
        clear HMA0 HMB0 hres
        go_wp2_with (first | go_skip | (go_at_call 16; (refine (HXW.out _ P.out R.out).mono ?_); rintro o w3 ⟨rfl, w2, hb, rfl⟩; replace P := Go.Lib.hid (row_set (row_set' (g := w.heap.size + 1) (show w.heap.size ≠ w.heap.size + 1 by omega) (row_next hb P.out) (vrow 5 (mixB a b).at)) (vrow 5 (mixA a b).at)); replace R := Go.Lib.hid (row_set' (g := w.heap.size) (show w.heap.size + 1 ≠ w.heap.size by omega) (row_set (row_next hb R.out) (vrow 5 (mixB a b).at)) (vrow 5 (mixA a b).at)); replace Z := Go.Lib.hid (row_set' (g := w.heap.size) (show w.heap.size + 2 ≠ w.heap.size by omega) (row_set' (g := w.heap.size + 1) (show w.heap.size + 2 ≠ w.heap.size + 1 by omega) (row_next hb Z.out) (vrow 5 (mixB a b).at)) (vrow 5 (mixA a b).at)); replace Y := Go.Lib.hid (row_set' (g := w.heap.size) (show w.heap.size + 3 ≠ w.heap.size by omega) (row_set' (g := w.heap.size + 1) (show w.heap.size + 3 ≠ w.heap.size + 1 by omega) (row_next hb Y.out) (vrow 5 (mixB a b).at)) (vrow 5 (mixA a b).at)); replace hB := Go.Lib.hid (Below_setRow (Below_setRow (below_next hB.out hb) (show w.heap.size ≤ w.heap.size + 1 by omega) (vrow 5 (mixB a b).at)) (Nat.le_refl _) (vrow 5 (mixA a b).at)); clear hb) | ((with_reducible refine wlAt 32 rfl ?_); refine wpList_ldm 27 _ rfl (by first | exact want_n rfl | exact want_g _ _ _ rfl rfl rfl) w.heap.size 0 rfl 5 5 (mixA a b).at _ rw_br0 size_br P.out (by omega) ?_; rw [vrow_0]) | ((with_reducible refine wlAt 36 rfl ?_); refine wpList_ldm 27 _ rfl (by first | exact want_n rfl | exact want_g _ _ _ rfl rfl rfl) (w.heap.size + 1) 0 rfl 5 5 (mixB a b).at _ rw_br0 size_br R.out (by omega) ?_; rw [vrow_0]) | (go_at_call 13; (with_reducible refine (HMA.out _).mono ?_); rintro o w1 ⟨rfl, hb⟩; replace P := Go.Lib.hid (row_next hb P.out); replace R := Go.Lib.hid (row_next hb R.out); replace Z := Go.Lib.hid (row_next hb Z.out); replace Y := Go.Lib.hid (row_next hb Y.out); replace hB := Go.Lib.hid (below_next hB.out hb); clear hb) | ((with_reducible refine wlAt 40 rfl ?_); refine wpList_built rfl 27 [] rfl [] (by rfl) _ built_zbr ?_) | ((with_reducible refine wlAt 41 rfl ?_); refine wpList_built rfl 27 [] rfl [] (by rfl) _ built_zbr ?_) | ((with_reducible refine wlOp (.store 27 (.tmp 4) (.tmp 40)) rfl ?_); refine wpList_storeall rfl 27 (.tmp 4) (.tmp 40) rfl (w.heap.size + 2) rfl 5 Br.zero.at Br.zero.at rfl 27 size_br Z.out (fun i _ => Br.one _ i) ?_; replace Y := Go.Lib.hid (row_set' (g := w.heap.size + 2) (show w.heap.size + 3 ≠ w.heap.size + 2 by omega) Y.out (vrow 5 Br.zero.at)); replace Z := Go.Lib.hid (row_set Z.out (vrow 5 Br.zero.at)); replace hB := Go.Lib.hid (Below_setRow hB.out (show w.heap.size ≤ w.heap.size + 2 by omega) (vrow 5 Br.zero.at))) | ((with_reducible refine wlOp (.store 27 (.tmp 5) (.tmp 41)) rfl ?_); refine wpList_storeall rfl 27 (.tmp 5) (.tmp 41) rfl (w.heap.size + 3) rfl 5 Br.zero.at Br.zero.at rfl 27 size_br Y.out (fun i _ => Br.one _ i) ?_; replace Z := Go.Lib.hid (row_set' (g := w.heap.size + 3) (show w.heap.size + 2 ≠ w.heap.size + 3 by omega) Z.out (vrow 5 Br.zero.at)); replace Y := Go.Lib.hid (row_set Y.out (vrow 5 Br.zero.at)); replace hB := Go.Lib.hid (Below_setRow hB.out (show w.heap.size ≤ w.heap.size + 3 by omega) (vrow 5 Br.zero.at))))
        exact ret_rows2 Try.results8 (w.heap.size + 2) 5 Br.zero.at 27 _ Try.underlying27 rfl size_br (w.heap.size + 3) 5 Br.zero.at 27 _ Try.underlying27 rfl size_br (.int .i64 3) rfl rfl rfl rfl Z.out Y.out ⟨rfl, hB.out⟩
      · rw [hma] at HMA0
        have HMA := Go.Lib.hid HMA0
        clear HMA0
        cases hmb : (mixB a b).ok
        · obtain ⟨_, rfl, rfl, rfl⟩ : _ ∧ r = Br.zero ∧ q = Br.zero ∧ c = 3 := by
            rcases hres with ⟨h1, h2, _⟩ | h
            · simp_all
            · exact h
          rw [hmb] at HMB0
          have HMB := Go.Lib.hid HMB0
          clear HMB0 hres
          go_wp2_with (first | go_skip | (go_at_call 16; (refine (HXW.out _ P.out R.out).mono ?_); rintro o w3 ⟨rfl, w2, hb, rfl⟩; replace P := Go.Lib.hid (row_set (row_set' (g := w.heap.size + 1) (show w.heap.size ≠ w.heap.size + 1 by omega) (row_next hb P.out) (vrow 5 (mixB a b).at)) (vrow 5 (mixA a b).at)); replace R := Go.Lib.hid (row_set' (g := w.heap.size) (show w.heap.size + 1 ≠ w.heap.size by omega) (row_set (row_next hb R.out) (vrow 5 (mixB a b).at)) (vrow 5 (mixA a b).at)); replace Z := Go.Lib.hid (row_set' (g := w.heap.size) (show w.heap.size + 2 ≠ w.heap.size by omega) (row_set' (g := w.heap.size + 1) (show w.heap.size + 2 ≠ w.heap.size + 1 by omega) (row_next hb Z.out) (vrow 5 (mixB a b).at)) (vrow 5 (mixA a b).at)); replace Y := Go.Lib.hid (row_set' (g := w.heap.size) (show w.heap.size + 3 ≠ w.heap.size by omega) (row_set' (g := w.heap.size + 1) (show w.heap.size + 3 ≠ w.heap.size + 1 by omega) (row_next hb Y.out) (vrow 5 (mixB a b).at)) (vrow 5 (mixA a b).at)); replace hB := Go.Lib.hid (Below_setRow (Below_setRow (below_next hB.out hb) (show w.heap.size ≤ w.heap.size + 1 by omega) (vrow 5 (mixB a b).at)) (Nat.le_refl _) (vrow 5 (mixA a b).at)); clear hb) | ((with_reducible refine wlAt 32 rfl ?_); refine wpList_ldm 27 _ rfl (by first | exact want_n rfl | exact want_g _ _ _ rfl rfl rfl) w.heap.size 0 rfl 5 5 (mixA a b).at _ rw_br0 size_br P.out (by omega) ?_; rw [vrow_0]) | ((with_reducible refine wlAt 36 rfl ?_); refine wpList_ldm 27 _ rfl (by first | exact want_n rfl | exact want_g _ _ _ rfl rfl rfl) (w.heap.size + 1) 0 rfl 5 5 (mixB a b).at _ rw_br0 size_br R.out (by omega) ?_; rw [vrow_0]) | (go_at_call 13; (with_reducible refine (HMA.out _).mono ?_); rintro o w1 ⟨rfl, hb⟩; replace P := Go.Lib.hid (row_next hb P.out); replace R := Go.Lib.hid (row_next hb R.out); replace Z := Go.Lib.hid (row_next hb Z.out); replace Y := Go.Lib.hid (row_next hb Y.out); replace hB := Go.Lib.hid (below_next hB.out hb); clear hb) | (go_at_call 13; (with_reducible refine (HMB.out _).mono ?_); rintro o w1 ⟨rfl, hb⟩; replace P := Go.Lib.hid (row_next hb P.out); replace R := Go.Lib.hid (row_next hb R.out); replace Z := Go.Lib.hid (row_next hb Z.out); replace Y := Go.Lib.hid (row_next hb Y.out); replace hB := Go.Lib.hid (below_next hB.out hb); clear hb) | ((with_reducible refine wlAt 40 rfl ?_); refine wpList_built rfl 27 [] rfl [] (by rfl) _ built_zbr ?_) | ((with_reducible refine wlAt 41 rfl ?_); refine wpList_built rfl 27 [] rfl [] (by rfl) _ built_zbr ?_) | ((with_reducible refine wlOp (.store 27 (.tmp 4) (.tmp 40)) rfl ?_); refine wpList_storeall rfl 27 (.tmp 4) (.tmp 40) rfl (w.heap.size + 2) rfl 5 Br.zero.at Br.zero.at rfl 27 size_br Z.out (fun i _ => Br.one _ i) ?_; replace Y := Go.Lib.hid (row_set' (g := w.heap.size + 2) (show w.heap.size + 3 ≠ w.heap.size + 2 by omega) Y.out (vrow 5 Br.zero.at)); replace Z := Go.Lib.hid (row_set Z.out (vrow 5 Br.zero.at)); replace hB := Go.Lib.hid (Below_setRow hB.out (show w.heap.size ≤ w.heap.size + 2 by omega) (vrow 5 Br.zero.at))) | ((with_reducible refine wlOp (.store 27 (.tmp 5) (.tmp 41)) rfl ?_); refine wpList_storeall rfl 27 (.tmp 5) (.tmp 41) rfl (w.heap.size + 3) rfl 5 Br.zero.at Br.zero.at rfl 27 size_br Y.out (fun i _ => Br.one _ i) ?_; replace Z := Go.Lib.hid (row_set' (g := w.heap.size + 3) (show w.heap.size + 2 ≠ w.heap.size + 3 by omega) Z.out (vrow 5 Br.zero.at)); replace Y := Go.Lib.hid (row_set Y.out (vrow 5 Br.zero.at)); replace hB := Go.Lib.hid (Below_setRow hB.out (show w.heap.size ≤ w.heap.size + 3 by omega) (vrow 5 Br.zero.at))))
          exact ret_rows2 Try.results8 (w.heap.size + 2) 5 Br.zero.at 27 _ Try.underlying27 rfl size_br (w.heap.size + 3) 5 Br.zero.at 27 _ Try.underlying27 rfl size_br (.int .i64 3) rfl rfl rfl rfl Z.out Y.out ⟨rfl, hB.out⟩
        · obtain ⟨rfl, rfl, rfl⟩ : r = mixA a b ∧ q = mixB a b ∧ c = 0 := by
            rcases hres with ⟨h1, h2, h⟩ | ⟨h, _⟩
            · exact h
            · simp_all
          rw [hmb] at HMB0
          have HMB := Go.Lib.hid HMB0
          clear HMB0 hres
          go_wp2_with (first | go_skip | (go_at_call 16; (refine (HXW.out _ P.out R.out).mono ?_); rintro o w3 ⟨rfl, w2, hb, rfl⟩; replace P := Go.Lib.hid (row_set (row_set' (g := w.heap.size + 1) (show w.heap.size ≠ w.heap.size + 1 by omega) (row_next hb P.out) (vrow 5 (mixB a b).at)) (vrow 5 (mixA a b).at)); replace R := Go.Lib.hid (row_set' (g := w.heap.size) (show w.heap.size + 1 ≠ w.heap.size by omega) (row_set (row_next hb R.out) (vrow 5 (mixB a b).at)) (vrow 5 (mixA a b).at)); replace Z := Go.Lib.hid (row_set' (g := w.heap.size) (show w.heap.size + 2 ≠ w.heap.size by omega) (row_set' (g := w.heap.size + 1) (show w.heap.size + 2 ≠ w.heap.size + 1 by omega) (row_next hb Z.out) (vrow 5 (mixB a b).at)) (vrow 5 (mixA a b).at)); replace Y := Go.Lib.hid (row_set' (g := w.heap.size) (show w.heap.size + 3 ≠ w.heap.size by omega) (row_set' (g := w.heap.size + 1) (show w.heap.size + 3 ≠ w.heap.size + 1 by omega) (row_next hb Y.out) (vrow 5 (mixB a b).at)) (vrow 5 (mixA a b).at)); replace hB := Go.Lib.hid (Below_setRow (Below_setRow (below_next hB.out hb) (show w.heap.size ≤ w.heap.size + 1 by omega) (vrow 5 (mixB a b).at)) (Nat.le_refl _) (vrow 5 (mixA a b).at)); clear hb) | ((with_reducible refine wlAt 32 rfl ?_); refine wpList_ldm 27 _ rfl (by first | exact want_n rfl | exact want_g _ _ _ rfl rfl rfl) w.heap.size 0 rfl 5 5 (mixA a b).at _ rw_br0 size_br P.out (by omega) ?_; rw [vrow_0]) | ((with_reducible refine wlAt 36 rfl ?_); refine wpList_ldm 27 _ rfl (by first | exact want_n rfl | exact want_g _ _ _ rfl rfl rfl) (w.heap.size + 1) 0 rfl 5 5 (mixB a b).at _ rw_br0 size_br R.out (by omega) ?_; rw [vrow_0]) | (go_at_call 13; (with_reducible refine (HMA.out _).mono ?_); rintro o w1 ⟨rfl, hb⟩; replace P := Go.Lib.hid (row_next hb P.out); replace R := Go.Lib.hid (row_next hb R.out); replace Z := Go.Lib.hid (row_next hb Z.out); replace Y := Go.Lib.hid (row_next hb Y.out); replace hB := Go.Lib.hid (below_next hB.out hb); clear hb) | (go_at_call 13; (with_reducible refine (HMB.out _).mono ?_); rintro o w1 ⟨rfl, hb⟩; replace P := Go.Lib.hid (row_next hb P.out); replace R := Go.Lib.hid (row_next hb R.out); replace Z := Go.Lib.hid (row_next hb Z.out); replace Y := Go.Lib.hid (row_next hb Y.out); replace hB := Go.Lib.hid (below_next hB.out hb); clear hb))
          refine Code.wp_mono (Q := fun e a' W' => e = .normal ∧ a'.tmps.getD 4 undef = .pointer (some ⟨w.heap.size + 2, 0, none⟩) ∧ a'.tmps.getD 5 undef = .pointer (some ⟨w.heap.size + 3, 0, none⟩) ∧ a'.tmps.getD 6 undef = .int .i64 0 ∧ a'.defers = [] ∧ Below w.heap.size w W' ∧ W'.heap[w.heap.size + 2]? = some (.cells (vrow 5 (mixA a b).at) 27) ∧ W'.heap[w.heap.size + 3]? = some (.cells (vrow 5 (mixB a b).at) 27)) ?_ ?_
          rotate_left
          · refine wp_region_held_drew (S := fun W' => Below w.heap.size w W' ∧ W'.heap[w.heap.size]? = some (.cells (vrow 5 (mixA a b).at) 27) ∧ W'.heap[w.heap.size + 1]? = some (.cells (vrow 5 (mixB a b).at) 27)) (by kernel_rfl) ⟨hB.out.drew, P.out, R.out⟩ (fun hH => ?_)
            have V4 := drw Z.out
            have V5 := drw Y.out
            generalize World.drew _ = W at hH V4 V5 ⊢
            refine wpAnyH_take (i := 0) (v := (.agg (vrow 5 (mixA a b).at))) rfl (by kernel_rfl) (by kernel_rfl) (by kernel_rfl) (fun _ _ _ h => by cases h.1) (yields_row (by rfl) 27 _ rfl (w.heap.size) rfl 5 (mixA a b).at 27 _ Try.underlying27 rfl size_br (fun _ h => h.2.1)) hH ?_
            (try simp only [Act.put, List.setIfInBounds_toArray, List.set_cons_succ, List.set_cons_zero])
            refine wpAnyH_take (i := 1) (v := (.agg (vrow 5 (mixB a b).at))) rfl (by kernel_rfl) (by kernel_rfl) (by kernel_rfl) (fun _ _ _ h => by cases h.1) (yields_row (by rfl) 27 _ rfl (w.heap.size + 1) rfl 5 (mixB a b).at 27 _ Try.underlying27 rfl size_br (fun _ h => h.2.2)) hH ?_
            (try simp only [Act.put, List.setIfInBounds_toArray, List.set_cons_succ, List.set_cons_zero])
            refine wpAnyH_ready (rs := [2]) (by kernel_rfl) (by simp) (AllReadyH.cons rfl (fun K hK => ?_) AllReadyH.nil)
            rw [if_pos (by rfl)]
            unfold Oper.wp
            rw [run_storemid 27 (.tmp 4) (.tmp 42) rfl (w.heap.size + 2) 0 rfl 5 5 Br.zero.at (mixA a b).at rfl 27 size_br V4 (by omega) (fun i _ => Br.one _ i), vrow_over_all, Oper.upon_skip]
            replace V4 := row_set V4 (vrow 5 (mixA a b).at)
            replace V5 := row_set' (show w.heap.size + 3 ≠ w.heap.size + 2 by omega) V5 (vrow 5 (mixA a b).at)
            have hH2 : Below w.heap.size w (W.setRow (w.heap.size + 2) (vrow 5 (mixA a b).at)) ∧ (W.setRow (w.heap.size + 2) (vrow 5 (mixA a b).at)).heap[w.heap.size]? = some (.cells (vrow 5 (mixA a b).at) 27) ∧ (W.setRow (w.heap.size + 2) (vrow 5 (mixA a b).at)).heap[w.heap.size + 1]? = some (.cells (vrow 5 (mixB a b).at) 27) := ⟨Below_setRow hH.1 (by omega) _, row_set' (by omega) hH.2.1 _, row_set' (by omega) hH.2.2 _⟩
            refine hK.out _ _ hH2 (fun hH => ?_)
            clear hK K hH2
            (try simp only [Act.put, List.setIfInBounds_toArray, List.set_cons_succ, List.set_cons_zero])
            generalize (W.setRow (w.heap.size + 2) (vrow 5 (mixA a b).at)) = Y0 at hH V4 V5 ⊢
            refine wpAnyH_ready (rs := [3]) (by kernel_rfl) (by simp) (AllReadyH.cons rfl (fun K hK => ?_) AllReadyH.nil)
            rw [if_pos (by rfl)]
            unfold Oper.wp
            rw [run_storemid 27 (.tmp 5) (.tmp 43) rfl (w.heap.size + 3) 0 rfl 5 5 Br.zero.at (mixB a b).at rfl 27 size_br V5 (by omega) (fun i _ => Br.one _ i), vrow_over_all, Oper.upon_skip]
            replace V4 := row_set' (show w.heap.size + 2 ≠ w.heap.size + 3 by omega) V4 (vrow 5 (mixB a b).at)
            replace V5 := row_set V5 (vrow 5 (mixB a b).at)
            have hH2 : Below w.heap.size w (Y0.setRow (w.heap.size + 3) (vrow 5 (mixB a b).at)) ∧ (Y0.setRow (w.heap.size + 3) (vrow 5 (mixB a b).at)).heap[w.heap.size]? = some (.cells (vrow 5 (mixA a b).at) 27) ∧ (Y0.setRow (w.heap.size + 3) (vrow 5 (mixB a b).at)).heap[w.heap.size + 1]? = some (.cells (vrow 5 (mixB a b).at) 27) := ⟨Below_setRow hH.1 (by omega) _, row_set' (by omega) hH.2.1 _, row_set' (by omega) hH.2.2 _⟩
            refine hK.out _ _ hH2 (fun hH => ?_)
            clear hK K hH2
            (try simp only [Act.put, List.setIfInBounds_toArray, List.set_cons_succ, List.set_cons_zero])
            generalize (Y0.setRow (w.heap.size + 3) (vrow 5 (mixB a b).at)) = Y1 at hH V4 V5 ⊢
            refine wpAnyH_take (i := 4) (v := (.int .i64 0)) rfl (by kernel_rfl) (by kernel_rfl) (by kernel_rfl) (fun _ _ _ h => by cases h.1) (.inl ⟨by rfl, fun w _ => by go_simp⟩) hH ?_
            (try simp only [Act.put, List.setIfInBounds_toArray, List.set_cons_succ, List.set_cons_zero])
            refine wpAnyH_done (by kernel_rfl) ?_ _
            exact ⟨rfl, rfl, rfl, rfl, rfl, hH.1, V4, V5⟩
          rintro e1 a1 W1 ⟨rfl, h_4, h_5, h_6, hdf, hB1, V4, V5⟩
          go_wp2
          exact ret_rows2 Try.results8 (w.heap.size + 2) 5 (mixA a b).at 27 _ Try.underlying27 rfl size_br (w.heap.size + 3) 5 (mixB a b).at 27 _ Try.underlying27 rfl size_br (.int .i64 0) h_4 h_5 h_6 hdf V4 V5 ⟨rfl, hB1⟩
end Go.Proofs.Ythkkbkpfomhdeaa
