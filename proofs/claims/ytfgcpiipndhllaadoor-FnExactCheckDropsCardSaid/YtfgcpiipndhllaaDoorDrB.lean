import Derived.Test.YtfgcpiipndhllaaDoorDrA
import Derived.Test.YtfgcpiipndhllaaDoorApN
namespace Go.Proofs.YtfgcpiipndhllaaDoor
open Go.RowKit
set_option maxRecDepth 100000
set_option linter.unusedVariables false
set_option linter.unusedSimpArgs false
attribute [local go_sem] Oper.semAt_some
set_option maxRecDepth 100000 in
set_option maxHeartbeats 4000000 in
theorem with_any (p : Pic) (a c x y : Nat) (v : Int) (w : World) (ea : p.wide = a) (ec : p.high = c) (ha : a ≤ 8) (hc : c ≤ 8) (hx : x < 8) (hy : y < 8) :
    Calls Tryd.prog 140 #[.agg p.row, .agg (vrow 2 (spAt x y)), .int .u8 v] w fun e w' => e = .returned (.agg (dab p v (cov a c x y)).row) ∧ Below w.heap.size w w' := by
  have zz := zero_pic
  have zs := zero_spotP
  have HCV := Go.Lib.hid fun w => icov_any p a c x y w ea ec ha hc hx hy
  have hcl : (cov a c x y).length ≤ 5 := covT_len _ _ _ _ _
  generalize cov a c x y = L at *
  have P : Hid ((((w.alloc (.cells (vrow 66 p.at) 61)).alloc (.cells (vrow 2 (spAt x y)) 33)).alloc (.cells (vrow 66 Pic.zero.at) 61)).heap[w.heap.size]? = some (.cells (vrow 66 p.at) 61)) := (heap_past _ _ _ _ (by simp <;> omega) (heap_past _ _ _ _ (by simp <;> omega) (heap_at _ _ _ (by simp))))
  have R : Hid ((((w.alloc (.cells (vrow 66 p.at) 61)).alloc (.cells (vrow 2 (spAt x y)) 33)).alloc (.cells (vrow 66 Pic.zero.at) 61)).heap[w.heap.size + 1]? = some (.cells (vrow 2 (spAt x y)) 33)) := (heap_past _ _ _ _ (by simp <;> omega) (heap_at _ _ _ (by simp)))
  have Z : Hid ((((w.alloc (.cells (vrow 66 p.at) 61)).alloc (.cells (vrow 2 (spAt x y)) 33)).alloc (.cells (vrow 66 Pic.zero.at) 61)).heap[w.heap.size + 2]? = some (.cells (vrow 66 Pic.zero.at) 61)) := (heap_at _ _ _ (by simp))
  have hB : Hid (Below w.heap.size w (((w.alloc (.cells (vrow 66 p.at) 61)).alloc (.cells (vrow 2 (spAt x y)) 33)).alloc (.cells (vrow 66 Pic.zero.at) 61))) := Go.Lib.hid ((((Below.refl w.heap.size w).alloc (by simp <;> omega) _).alloc (by simp <;> omega) _).alloc (by simp <;> omega) _)
  clear ea ec
  go_enter Tryd.func140, Tryd.ntmps140
  go_wp2_with (first
    | go_skip
    | ((with_reducible refine wlAt 9 rfl ?_); refine wpList_ldm 61 (.tmp 3) rfl (by first | exact want_n rfl | exact want_g _ _ _ rfl rfl rfl) (w.heap.size) _ rfl 66 66 p.at _ rw_pic size_pic P.out (by omega) ?_; rw [pic_row])
    | ((with_reducible refine wlAt 10 rfl ?_); refine wpList_ldm 33 (.tmp 4) rfl (by first | exact want_n rfl | exact want_g _ _ _ rfl rfl rfl) (w.heap.size + 1) _ rfl 2 2 (spAt x y) _ rw_spot size_spot R.out (by omega) ?_; rw [sp_row])
    | (go_at_call 177; (refine (HCV.out _).mono ?_); rintro o w1 ⟨v9, rfl, hO, hb⟩; replace P := Go.Lib.hid (row_next hb P.out); replace R := Go.Lib.hid (row_next hb R.out); replace Z := Go.Lib.hid (row_next hb Z.out); replace hB := Go.Lib.hid (below_next hB.out hb); clear hb; have hO' := own_mono (base' := w.heap.size + 3) (by simp) hO; obtain ⟨ao, cc, rfl, hr⟩ := own_po hO'; clear hO hO'))
  have hw1 := row_lt Z.out
  clear HCV R
  have P0 := P.out; have Z0 := Z.out; have B0 := hB.out
  go_loopw [13] (fun iv wr => ∃ k : Nat, k ≤ L.length ∧ iv = .int .i64 k ∧ wr.heap[w.heap.size]? = some (.cells (dab p v (L.take k)).row 61) ∧ wr.heap[w.heap.size + 2]? = some (.cells (vrow 66 Pic.zero.at) 61) ∧ (∀ g, w.heap.size + 3 ≤ g → ∀ X, w1.heap[g]? = some X → wr.heap[g]? = some X) ∧ w1.heap.size ≤ wr.heap.size ∧ Below w.heap.size w wr) (fun iv _ => L.length - (intOf iv).toNat)
  case atStart => exact ⟨0, by omega, rfl, by simpa [dab] using P0, Z0, fun _ _ _ h => h, Nat.le_refl _, B0⟩
  case round =>
    clear P Z hB P0 Z0 B0
    obtain ⟨k, hk, rfl, P, Z, hG, hsz, hB⟩ := hrel
    by_cases hlt : k < L.length
    · rcases hr with h0 | ⟨g, N, f, rfl, hg3, hN, hrow, hf2⟩
      · omega
      have G := hG g hg3 _ hrow
      have hv := hf2 k hlt
      obtain ⟨⟨⟨i, j⟩, hi8, hj8⟩, hp⟩ : ∃ q, L[k]'hlt = q := ⟨_, rfl⟩
      have hap : dab p v (L.take (k + 1)) = (dab p v (L.take k)).put (8 * j + i) v := by
        rw [List.take_succ_eq_append_getElem hlt, hp, dab_app]
      have fx : (vrow 2 fun z => f (k * 2 + z)) = vrow 2 (spAt i j) := by
        rw [hv]; simp only [lx, ly, hlt, hp, dite_true]
      replace hi8 : i < 8 := hi8
      replace hj8 : j < 8 := hj8
      have HAP := Go.Lib.hid hap; have FX := Go.Lib.hid fx
      clear fx hap hv hf2 hp
      generalize dab p v (L.take k) = D at *
      replace P := Go.Lib.hid P; replace Z := Go.Lib.hid Z; replace G := Go.Lib.hid G; replace hG := Go.Lib.hid hG; replace hB := Go.Lib.hid hB; replace hrow := Go.Lib.hid hrow
      have hkI : (k : Int) < (L.length : Int) := by omega
      have hk0 : (0 : Int) ≤ (k : Int) := by omega
      have hkd : decide ((k : Int) < (L.length : Int)) = true := by simpa using hkI
      have hiI : (i : Int) < 8 := by omega
      have hjI : (j : Int) < 8 := by omega
      have hNb := row_lt G.out
      have lp := row_lt P.out; have lz := row_lt Z.out
      go_wp2_with (first
        | go_skip
        | ((with_reducible refine wlAt 16 rfl ?_); refine wpList_loadmid rfl 33 (.tmp 15) rfl g (k * 2) rfl N 2 f 33 _ Tryd.underlying33 rfl size_spot G.out (by omega) ?_; rw [FX.out])
        | ((with_reducible refine wlOp (.store 33 (.tmp 8) (.tmp 16)) rfl ?_); refine wpList_storeall rfl 33 (.tmp 8) (.tmp 16) rfl _ rfl 2 (spAt 0 0) (spAt i j) rfl 33 size_spot (heap_at _ _ _ rfl) (fun i _ => spAt_oneD _ _ i) ?_; rw [setRow_at _ _ _ _ _ rfl]))
      have X0 : (wr.alloc (.cells (vrow 2 (spAt i j)) 33)).heap[wr.heap.size]? = some (.cells (vrow 2 (spAt i j)) 33) := heap_at _ _ _ rfl
      replace P := Go.Lib.hid (heap_past wr (.cells (vrow 2 (spAt i j)) 33) _ _ lp P.out)
      replace Z := Go.Lib.hid (heap_past wr (.cells (vrow 2 (spAt i j)) 33) _ _ lz Z.out)
      replace hG := Go.Lib.hid (fun (g : Nat) (h : w.heap.size + 3 ≤ g) X (hX : w1.heap[g]? = some X) => heap_past wr (.cells (vrow 2 (spAt i j)) 33) _ _ (row_lt (hG.out g h X hX)) (hG.out g h X hX))
      replace hB := Go.Lib.hid (hB.out.alloc hB.out.size (.cells (vrow 2 (spAt i j)) 33))
      have hsz2 : w1.heap.size ≤ (wr.alloc (.cells (vrow 2 (spAt i j)) 33)).heap.size := by simp; omega
      have X := Go.Lib.hid X0
      clear X0 G lp lz
      generalize (wr.alloc (.cells (vrow 2 (spAt i j)) 33)) = Wx at P Z hG hB hsz2 X ⊢
      have hwx : w.heap.size + 3 ≤ wr.heap.size := by omega
      generalize wr.heap.size = xb at X hwx ⊢
      refine region_qt 8 (by kernel_rfl) (by kernel_rfl) ?_
      intro W hW
      rw [hW] at P Z hG hB X hsz2
      clear hW
      simp only [List.take_succ_cons, List.take_zero, List.drop_succ_cons, List.drop_zero]
      have X' := Go.Lib.hid (cls_row' X.out)
      (repeat (first
        | go_big_quiet_skip
        | (refine wpQuiet_load1 22 _ rfl (want_n rfl) xb 1 rfl 2 (spAt i j) _ rw_i8 X'.out (by omega) ?_; rw [spAt_1]; simp only [Act.put, List.setIfInBounds_toArray, List.set_cons_succ, List.set_cons_zero])
        | (refine wpQuiet_load1 22 _ rfl (want_n rfl) xb 0 rfl 2 (spAt i j) _ rw_i8 X'.out (by omega) ?_; rw [spAt_0]; simp only [Act.put, List.setIfInBounds_toArray, List.set_cons_succ, List.set_cons_zero])
        | go_big_quiet_step (fail)))
      refine wpQuiet_nil ?_
      intro Wn hb
      replace P := Go.Lib.hid (row_next hb P.out); replace Z := Go.Lib.hid (row_next hb Z.out); replace hB := Go.Lib.hid (below_next hB.out hb)
      replace hG := Go.Lib.hid (fun (g : Nat) (h : w.heap.size + 3 ≤ g) X (hX : w1.heap[g]? = some X) => row_next hb (hG.out g h X hX))
      have hsz3 := Nat.le_trans hsz2 hb.size
      clear hb X' X
      refine wpList_store1 rfl 5 (.tmp 24) (.tmp 21) rfl w.heap.size (2 + j * 8 + i) rfl 66 D.at (.int .u8 v) rfl 61 size_u8D P.out (by omega) rfl ?_
      rw [put_row D (8 * j + i) (2 + j * 8 + i) _ (by omega), ← HAP.out]
      have P2 := row_set P.out (dab p v (L.take (k + 1))).row
      have Z2 := row_set' (g := w.heap.size) (by omega) Z.out (dab p v (L.take (k + 1))).row
      have G2 : ∀ g, w.heap.size + 3 ≤ g → ∀ X, w1.heap[g]? = some X → (Wn.setRow w.heap.size (dab p v (L.take (k + 1))).row).heap[g]? = some X := fun g h X hX => row_set' (g := w.heap.size) (by omega) (hG.out g h X hX) _
      have B2 := Below_setRow hB.out (Nat.le_refl _) (dab p v (L.take (k + 1))).row
      have S2 : w1.heap.size ≤ (Wn.setRow w.heap.size (dab p v (L.take (k + 1))).row).heap.size := by simpa using hsz3
      clear P Z hG hB HAP
      generalize World.setRow Wn _ _ = w9 at P2 Z2 G2 B2 S2 ⊢
      go_wp2
      go_roundw
      case rel => exact ⟨k + 1, by omega, by go_num, P2, Z2, G2, S2, B2⟩
      case measure => simp [intOf]; omega
    · obtain rfl : k = L.length := by omega
      rw [List.take_length] at P
      have hkd : decide ((L.length : Int) < (L.length : Int)) = false := by simp
      replace P := Go.Lib.hid P; replace Z := Go.Lib.hid Z; replace hB := Go.Lib.hid hB
      obtain ⟨D, hD⟩ : ∃ D, dab p v L = D := ⟨_, rfl⟩
      rw [hD] at P
      replace hD := Go.Lib.hid hD
      go_wp2_with (first
        | ((with_reducible refine wlAt 26 rfl ?_); refine wpList_ldm 61 (.tmp 3) rfl (by first | exact want_n rfl | exact want_g _ _ _ rfl rfl rfl) (w.heap.size) _ rfl 66 66 D.at _ rw_pic size_pic P.out (by omega) ?_; rw [pic_row])
        | ((with_reducible refine wlOp (.store 61 (.tmp 6) (.tmp 26)) rfl ?_); refine wpList_storeall rfl 61 (.tmp 6) (.tmp 26) rfl (w.heap.size + 2) rfl 66 Pic.zero.at D.at rfl 61 size_pic Z.out (fun i _ => Pic.one _ i) ?_))
      exact ret_row Tryd.results140 (w.heap.size + 2) 66 D.at 61 _ Tryd.underlying61 rfl size_pic rfl rfl (row_set Z.out _) ⟨by rw [hD.out], Below_setRow hB.out (by omega) _⟩
set_option maxRecDepth 100000 in
set_option maxHeartbeats 4000000 in
theorem dropped_any (p : Pic) (D n a c : Nat) (px py pn : Nat → Int) (w : World) (hd : w.heap[D]? = some (.cells (vrow (n * 3) (drf px py pn)) 66)) (ea : p.wide = a) (ec : p.high = c) (ha : a ≤ 8) (hc : c ≤ 8) (hn : n ≤ 100) (hpn : ∀ i, i < n → 0 ≤ pn i ∧ pn i ≤ 255) (hcan : canA p px py pn n = true) :
    Calls Tryd.prog 90 #[.agg p.row, .slice (some ⟨D, 0, none⟩) n n] w fun e w' => e = .returned (.agg (drpP p a c px py pn n).row) ∧ Below w.heap.size w w' := by
  have zz := zero_pic
  have zd := zero_drD
  have hDl := row_lt hd
  have hwx : w.heap.size = w.heap.size := rfl
  have P : Hid (((w.alloc (.cells (vrow 66 p.at) 61)).alloc (.cells (vrow 66 Pic.zero.at) 61)).heap[w.heap.size]? = some (.cells (vrow 66 p.at) 61)) := (heap_past _ _ _ _ (by simp <;> omega) (heap_at _ _ _ (by simp)))
  have Z : Hid (((w.alloc (.cells (vrow 66 p.at) 61)).alloc (.cells (vrow 66 Pic.zero.at) 61)).heap[w.heap.size + 1]? = some (.cells (vrow 66 Pic.zero.at) 61)) := (heap_at _ _ _ (by simp))
  have hB : Hid (Below w.heap.size w ((w.alloc (.cells (vrow 66 p.at) 61)).alloc (.cells (vrow 66 Pic.zero.at) 61))) := Go.Lib.hid (((Below.refl w.heap.size w).alloc (by simp <;> omega) _).alloc (by simp <;> omega) _)
  have R : Hid (((w.alloc (.cells (vrow 66 p.at) 61)).alloc (.cells (vrow 66 Pic.zero.at) 61)).heap[D]? = some (.cells (vrow (n * 3) (drf px py pn)) 66)) := heap_past _ _ _ _ (by simp; omega) (heap_past _ _ _ _ hDl hd)
  clear hd
  go_enter Tryd.func90, Tryd.ntmps90
  go_wp2
  have P0 := P.out; have Z0 := Z.out; have B0 := hB.out; have R0 := R.out
  go_loopw [9] (fun iv wr => ∃ k : Nat, k ≤ n ∧ iv = .int .i64 k ∧ wr.heap[w.heap.size]? = some (.cells (drpP p a c px py pn k).row 61) ∧ wr.heap[w.heap.size + 1]? = some (.cells (vrow 66 Pic.zero.at) 61) ∧ wr.heap[D]? = some (.cells (vrow (n * 3) (drf px py pn)) 66) ∧ Below w.heap.size w wr) (fun iv _ => n - (intOf iv).toNat)
  case atStart => exact ⟨0, by omega, rfl, P0, Z0, R0, B0⟩
  case round =>
    clear P Z hB P0 Z0 B0 R R0
    obtain ⟨k, hk, rfl, P, Z, R, hB⟩ := hrel
    by_cases hlt : k < n
    · obtain ⟨x, y, m, ex, ey, em, hx, hy, hm⟩ := canB_nat ea ec ha hc (hpn k hlt).1 (canA_lt hlt hcan)
      have HP2 := Go.Lib.hid (show drpP p a c px py pn (k + 1) = dab (drpP p a c px py pn k) ((m : Int) + 1) (cov a c x y) by show dab _ _ _ = _; rw [ex, ey, em])
      have HW := Go.Lib.hid fun w => with_any (drpP p a c px py pn k) a c x y ((m : Int) + 1) w ((drpP_wide p a c px py pn k).trans ea) ((drpP_high p a c px py pn k).trans ec) ha hc hx hy
      have FX := Go.Lib.hid (show (vrow 3 fun z => drf px py pn (k * 3 + z)) = vrow 3 (drAt x y m) by rw [drf_three, ex, ey, em])
      generalize drpP p a c px py pn k = G at *
      generalize cov a c x y = L at *
      replace P := Go.Lib.hid P; replace Z := Go.Lib.hid Z; replace R := Go.Lib.hid R; replace hB := Go.Lib.hid hB
      have hkI : (k : Int) < (n : Int) := by omega
      have hk0 : (0 : Int) ≤ (k : Int) := by omega
      have hkd : decide ((k : Int) < (n : Int)) = true := by simpa using hkI
      have hmI : (m : Int) ≤ 2 := by omega
      have hm0 : (0 : Int) ≤ (m : Int) := by omega
      have hu8 : IntKind.u8.wrap ((m : Int) + 1) = (m : Int) + 1 := IntWalk.u8_in _ (by omega)
      have lp := row_lt P.out; have lz := row_lt Z.out; have lr := row_lt R.out
      clear ex ey em
      go_wp2_with (first
        | go_skip
        | ((with_reducible refine wlAt 12 rfl ?_); refine wpList_loadmid rfl 66 (.tmp 11) rfl D (k * 3) rfl (n * 3) 3 (drf px py pn) 66 _ Tryd.underlying66 rfl size_dr R.out (by omega) ?_; rw [FX.out])
        | ((with_reducible refine wlOp (.store 66 (.tmp 6) (.tmp 12)) rfl ?_); refine wpList_storeall rfl 66 (.tmp 6) (.tmp 12) rfl _ rfl 3 (drAt 0 0 0) (drAt x y m) rfl 66 size_dr (heap_at _ _ _ rfl) (fun i _ => drAt_one _ _ _ i) ?_; rw [setRow_at _ _ _ _ _ rfl]; have X := Go.Lib.hid (heap_at wr (.cells (vrow 3 (drAt x y m)) 66) _ rfl); replace P := Go.Lib.hid (heap_past wr (.cells (vrow 3 (drAt x y m)) 66) _ _ lp P.out); replace Z := Go.Lib.hid (heap_past wr (.cells (vrow 3 (drAt x y m)) 66) _ _ lz Z.out); replace R := Go.Lib.hid (heap_past wr (.cells (vrow 3 (drAt x y m)) 66) _ _ lr R.out); replace hB := Go.Lib.hid (hB.out.alloc hB.out.size (.cells (vrow 3 (drAt x y m)) 66)))
        | ((with_reducible refine wlAt 13 rfl ?_); refine wpList_ldm 61 (.tmp 2) rfl (by first | exact want_n rfl | exact want_g _ _ _ rfl rfl rfl) (w.heap.size) _ rfl 66 66 G.at _ rw_pic size_pic P.out (by omega) ?_; rw [pic_row])
        | ((with_reducible refine wlAt 15 rfl ?_); refine wpList_ldm 33 _ rfl (by first | exact want_n rfl | exact want_g _ _ _ rfl rfl rfl) wr.heap.size _ rfl 3 2 (drAt x y m) _ rw_spot size_spot X.out (by omega) ?_; rw [dr_spot])
        | ((with_reducible refine wlAt 17 rfl ?_); refine wpList_ld1 5 _ rfl (by first | exact want_n rfl | exact want_g _ _ _ rfl rfl rfl) wr.heap.size 2 rfl 3 (drAt x y m) _ rw_u8 X.out (by omega) ?_; rw [drAt_2])
        | (go_at_call 140; (try rw [hu8]); (refine (HW.out _).mono ?_); rintro o w1 ⟨rfl, hb⟩; replace P := Go.Lib.hid (row_next hb P.out); replace Z := Go.Lib.hid (row_next hb Z.out); replace R := Go.Lib.hid (row_next hb R.out); replace hB := Go.Lib.hid (below_next hB.out hb); clear hb X)
        | ((with_reducible refine wlOp (.store 61 (.tmp 2) (.tmp 19)) rfl ?_); refine wpList_storeall rfl 61 (.tmp 2) (.tmp 19) rfl w.heap.size rfl 66 G.at (dab G ((m : Int) + 1) L).at rfl 61 size_pic P.out (fun i _ => Pic.one _ i) ?_; rw [← HP2.out]; replace P := Go.Lib.hid (row_set P.out (drpP p a c px py pn (k + 1)).row); replace Z := Go.Lib.hid (row_set' (g := w.heap.size) (by omega) Z.out (drpP p a c px py pn (k + 1)).row); replace R := Go.Lib.hid (row_set' (g := w.heap.size) (by omega) R.out (drpP p a c px py pn (k + 1)).row); replace hB := Go.Lib.hid (Below_setRow hB.out (Nat.le_refl _) (drpP p a c px py pn (k + 1)).row); generalize World.setRow _ _ _ = w9 at P Z R hB ⊢))
      go_roundw
      case rel => exact ⟨k + 1, by omega, by go_num, P.out, Z.out, R.out, hB.out⟩
      case measure => simp [intOf]; omega
    · obtain rfl : k = n := by omega
      have hkd : decide ((k : Int) < (k : Int)) = false := by simp
      replace P := Go.Lib.hid P; replace Z := Go.Lib.hid Z; replace hB := Go.Lib.hid hB
      obtain ⟨G, hD⟩ : ∃ G, drpP p a c px py pn k = G := ⟨_, rfl⟩
      rw [hD] at P
      replace hD := Go.Lib.hid hD
      go_wp2_with (first
        | ((with_reducible refine wlAt 21 rfl ?_); refine wpList_ldm 61 (.tmp 2) rfl (by first | exact want_n rfl | exact want_g _ _ _ rfl rfl rfl) (w.heap.size) _ rfl 66 66 G.at _ rw_pic size_pic P.out (by omega) ?_; rw [pic_row])
        | ((with_reducible refine wlOp (.store 61 (.tmp 4) (.tmp 21)) rfl ?_); refine wpList_storeall rfl 61 (.tmp 4) (.tmp 21) rfl (w.heap.size + 1) rfl 66 Pic.zero.at G.at rfl 61 size_pic Z.out (fun i _ => Pic.one _ i) ?_))
      exact ret_row Tryd.results90 (w.heap.size + 1) 66 G.at 61 _ Tryd.underlying61 rfl size_pic rfl rfl (row_set Z.out _) ⟨by rw [hD.out], Below_setRow hB.out (by omega) _⟩
end Go.Proofs.YtfgcpiipndhllaaDoor
