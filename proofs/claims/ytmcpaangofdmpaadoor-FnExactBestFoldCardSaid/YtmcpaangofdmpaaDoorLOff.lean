import Derived.Test.YtmcpaangofdmpaaDoorPOff
namespace Go.Proofs.YtmcpaangofdmpaaDoor
open Go.RowKit
set_option maxRecDepth 100000
set_option linter.unusedVariables false
set_option linter.unusedSimpArgs false
set_option maxRecDepth 100000 in
set_option maxHeartbeats 8000000 in
theorem loff_any (s : Sh) (b a c : Nat) (ax : Int) (d : Bool) (pr : Int) (w : World) (hs : w.heap[b]? = some (.cells (vrow 266 s.at) 34)) (hf : s.fit) (hv : okI s = true) (hax : 1 ≤ ax ∧ ax ≤ 8) (ea : s.wide = a) (ec : s.high = c) (ha : 1 ≤ a ∧ a ≤ 8) (hc : 1 ≤ c ∧ c ≤ 8) :
    Calls Tryd.prog 56 #[.pointer (some ⟨b, 0, none⟩), .agg (vrow 3 (foAt ax d pr))] w fun e w' => e = .returned (.tuple #[.int .i64 (oS (gq s ax d (prsL s a c ax d)) (prsL s a c ax d).length), .int .i64 (oM (gq s ax d (prsL s a c ax d)) (prsL s a c ax d).length)]) ∧ Below w.heap.size w w' := by
  have zs := zero_spot
  have HL := Go.Lib.hid fun w hs => lpairs_any s b a c ax d pr w hs hf hax ea ec ha hc
  have hbl := row_lt hs
  have P : Hid ((w.alloc (.cells (vrow 3 (foAt ax d pr)) 38)).heap[b]? = some (.cells (vrow 266 s.at) 34)) := heap_past _ _ _ _ hbl hs
  have F : Hid ((w.alloc (.cells (vrow 3 (foAt ax d pr)) 38)).heap[w.heap.size]? = some (.cells (vrow 3 (foAt ax d pr)) 38)) := heap_at _ _ _ rfl
  have hB : Hid (Below w.heap.size w (w.alloc (.cells (vrow 3 (foAt ax d pr)) 38))) := Go.Lib.hid ((Below.refl w.heap.size w).alloc (Nat.le_refl _) _)
  have hin := prsL_in s (a := a) (c := c) (ax := ax) (d := d) ha.2 hc.2
  have hlen := prsL_len s (a := a) (c := c) (ax := ax) (d := d) ha.2 hc.2
  have hGb := fun k m => gq_bd hv ax d (prsL s a c ax d) k m
  have hgq : ∀ k (h : k < (prsL s a c ax d).length), gq s ax d (prsL s a c ax d) k = gapP s ax d ((prsL s a c ax d)[k]'h) := fun k h => by unfold gq; rw [dif_pos h]
  generalize gq s ax d (prsL s a c ax d) = G at *
  generalize prsL s a c ax d = L at *
  clear hs ea ec
  go_enter Tryd.func56, Tryd.ntmps56
  go_wp2_with (first
    | go_skip
    | ((with_reducible refine wlAt 15 rfl ?_); refine wpList_loadall rfl 38 (.tmp 3) rfl w.heap.size rfl 3 (foAt ax d pr) 38 _ Tryd.underlying38 rfl size_fold F.out ?_)
    | (go_at_call 93; (refine (HL.out _ P.out).mono ?_; rintro e w2 ⟨v, rfl, hO, hb⟩; replace P := Go.Lib.hid (row_next hb P.out); have hsb := hb.size; replace hB := Go.Lib.hid (below_next hB.out hb); clear hb F; obtain ⟨ao, cc, rfl, hr⟩ := own_pro hO; clear hO)))
  have P0 := P.out; have B0 := hB.out
  clear P hB HL
  go_loopw [6, 7, 9] (fun sm mo iv wr => ∃ k : Nat, k ≤ L.length ∧ iv = .int .i64 k ∧ sm = .int .i64 (oS G k) ∧ mo = .int .i64 (oM G k) ∧ wr.heap[b]? = some (.cells (vrow 266 s.at) 34) ∧ (∀ (g : Nat) X, w2.heap[g]? = some X → wr.heap[g]? = some X) ∧ Below w.heap.size w wr) (fun _ _ iv _ => L.length - (intOf iv).toNat)
  case atStart => exact ⟨0, by omega, rfl, rfl, rfl, P0, fun _ _ h => h, B0⟩
  case round =>
    clear P0 B0
    obtain ⟨k, hk, rfl, rfl, rfl, P, hKp, hB⟩ := hrel
    by_cases hlt : k < L.length
    · rcases hr with h0 | ⟨g, N, f, rfl, hg, hN, hrow, hf4⟩
      · omega
      have Gr := Go.Lib.hid (hKp g _ hrow)
      obtain ⟨⟨⟨i, j⟩, hi8, hj8⟩, hp⟩ : ∃ p, L[k]'hlt = p := ⟨_, rfl⟩
      have h4 := hf4 k hlt
      have hgk := hgq k hlt
      have hin1 := hin _ (List.getElem_mem hlt)
      rw [hp] at h4 hgk hin1
      obtain ⟨fx0, fx1, fx2, fx3⟩ := p4_lo h4
      simp only at fx0 fx1 fx2 fx3 hin1
      obtain ⟨⟨⟨i2, j2⟩, hi2, hj2⟩, hsg⟩ : ∃ p, sgP ax d ⟨(i, j), hi8, hj8⟩ = p := ⟨_, rfl⟩
      rw [hsg] at hin1
      simp only at hin1
      rw [← hin1.1] at fx2; rw [← hin1.2] at fx3
      have hga : G k = gp (dyA s i j) (dyA s i2 j2) := by rw [hgk]; unfold gapP; rw [hsg]
      replace hi8 : i < 8 := hi8
      replace hj8 : j < 8 := hj8
      replace hi2 : i2 < 8 := hi2
      replace hj2 : j2 < 8 := hj2
      have hR0 : vrow 2 (fun q => f (k * 4 + q)) = vrow 2 (spAt i j) := vrow_ext _ _ _ fun q hq => by
        have hq2 : q = 0 ∨ q = 1 := by omega
        rcases hq2 with rfl | rfl
        · rw [Nat.add_zero, fx0]; rfl
        · rw [fx1]; rfl
      have hR1 : vrow 2 (fun q => f (k * 4 + 2 + q)) = vrow 2 (spAt i2 j2) := vrow_ext _ _ _ fun q hq => by
        have hq2 : q = 0 ∨ q = 1 := by omega
        rcases hq2 with rfl | rfl
        · rw [Nat.add_zero, fx2]; rfl
        · rw [show k * 4 + 2 + 1 = k * 4 + 3 by omega, fx3]; rfl
      have HR0 := Go.Lib.hid hR0; have HR1 := Go.Lib.hid hR1; have HGA := Go.Lib.hid hga
      have hkp2 := Go.Lib.hid hKp
      have hdA := fun m hm => dyA_bd hv hi8 hj8 m hm
      have hdB := fun m hm => dyA_bd hv hi2 hj2 m hm
      have hS0 := oS_bd hGb k; have hM0 := oM_bd hGb k
      have hGk := hGb k
      clear hR0 hR1 fx0 fx1 fx2 fx3 h4 hgk hin1 hsg hp hf4 hrow hga hKp
      have HSk := Go.Lib.hid (show oS G (k + 1) = oS G k + dsum (G k) 3 from rfl)
      have HMk := Go.Lib.hid (show oM G (k + 1) = mk3 (oM G k) (G k) 3 from rfl)
      obtain ⟨S0, hS0e⟩ : ∃ S0, oS G k = S0 := ⟨_, rfl⟩
      obtain ⟨M0, hM0e⟩ : ∃ M0, oM G k = M0 := ⟨_, rfl⟩
      rw [hS0e] at hS0 HSk ⊢; rw [hM0e] at hM0 HMk ⊢
      clear hS0e hM0e
      replace P := Go.Lib.hid P; replace hB := Go.Lib.hid hB
      have hkI : (k : Int) < (L.length : Int) := by omega
      have hk0 : (0 : Int) ≤ (k : Int) := by omega
      have hkd : decide ((k : Int) < (L.length : Int)) = true := by simpa using hkI
      have hgw := row_lt Gr.out
      go_wp2_with (first
        | go_skip
        | ((with_reducible refine wlAt 27 rfl ?_); refine wpList_loadmid rfl 111 (.tmp 26) rfl g (k * 4) rfl N 2 f 130 _ Tryd.underlying111 rfl size_spot Gr.out (by omega) ?_; rw [HR0.out])
        | ((with_reducible refine wlOp (.store 111 (.tmp 10) (.tmp 27)) rfl ?_); refine wpList_storeall rfl 111 (.tmp 10) (.tmp 27) rfl _ rfl 2 (spAt 0 0) (spAt i j) rfl 111 size_spot (heap_at _ _ _ rfl) (fun i _ => spAt_one _ _ i) ?_; rw [setRow_at _ _ _ _ _ rfl]; have X := Go.Lib.hid (heap_at wr (.cells (vrow 2 (spAt i j)) 111) _ rfl); replace P := Go.Lib.hid (heap_past wr (.cells (vrow 2 (spAt i j)) 111) _ _ (row_lt P.out) P.out); replace Gr := Go.Lib.hid (heap_past wr (.cells (vrow 2 (spAt i j)) 111) _ _ (row_lt Gr.out) Gr.out); replace hkp2 := Go.Lib.hid (fun (g : Nat) X (h : w2.heap[g]? = some X) => heap_past wr (.cells (vrow 2 (spAt i j)) 111) _ _ (row_lt (hkp2.out g X h)) (hkp2.out g X h)); replace hB := Go.Lib.hid (hB.out.alloc hB.out.size (.cells (vrow 2 (spAt i j)) 111)); obtain ⟨xb, hxb⟩ : ∃ xb, wr.heap.size = xb := ⟨_, rfl⟩; rw [hxb] at X ⊢; obtain ⟨Wx, hWx⟩ : ∃ Wx, wr.alloc (.cells (vrow 2 (spAt i j)) 111) = Wx := ⟨_, rfl⟩; rw [hWx] at P Gr X hB hkp2 ⊢; clear hxb hWx)
        | ((with_reducible refine wlAt 32 rfl ?_); refine wpList_loadmid rfl 111 (.tmp 31) rfl g (k * 4 + 2) rfl N 2 f 130 _ Tryd.underlying111 rfl size_spot Gr.out (by omega) ?_; rw [HR1.out])
        | ((with_reducible refine wlOp (.store 111 (.tmp 11) (.tmp 32)) rfl ?_); refine wpList_storeall rfl 111 (.tmp 11) (.tmp 32) rfl _ rfl 2 (spAt 0 0) (spAt i2 j2) rfl 111 size_spot (heap_at _ _ _ rfl) (fun i _ => spAt_one _ _ i) ?_; rw [setRow_at _ _ _ _ _ rfl]; have Y := Go.Lib.hid (heap_at Wx (.cells (vrow 2 (spAt i2 j2)) 111) _ rfl); replace P := Go.Lib.hid (heap_past Wx (.cells (vrow 2 (spAt i2 j2)) 111) _ _ (row_lt P.out) P.out); replace Gr := Go.Lib.hid (heap_past Wx (.cells (vrow 2 (spAt i2 j2)) 111) _ _ (row_lt Gr.out) Gr.out); replace X := Go.Lib.hid (heap_past Wx (.cells (vrow 2 (spAt i2 j2)) 111) _ _ (row_lt X.out) X.out); replace hkp2 := Go.Lib.hid (fun (g : Nat) X (h : w2.heap[g]? = some X) => heap_past Wx (.cells (vrow 2 (spAt i2 j2)) 111) _ _ (row_lt (hkp2.out g X h)) (hkp2.out g X h)); replace hB := Go.Lib.hid (hB.out.alloc hB.out.size (.cells (vrow 2 (spAt i2 j2)) 111)); obtain ⟨yb, hyb⟩ : ∃ yb, Wx.heap.size = yb := ⟨_, rfl⟩; rw [hyb] at Y ⊢; obtain ⟨Wy, hWy⟩ : ∃ Wy, Wx.alloc (.cells (vrow 2 (spAt i2 j2)) 111) = Wy := ⟨_, rfl⟩; rw [hWy] at P Gr X Y hB hkp2 ⊢; clear hyb hWy))
      have P1 := P.out; have X1 := X.out; have Y1 := Y.out; have K1 := hkp2.out; have B1 := hB.out
      clear P X Y hkp2 hB Gr HR0 HR1
      go_loopw [6, 7, 12] (fun sm mo jv wz => ∃ m : Nat, m ≤ 3 ∧ jv = .int .i64 m ∧ sm = .int .i64 (S0 + dsum (G k) m) ∧ mo = .int .i64 (mk3 M0 (G k) m) ∧ wz.heap[b]? = some (.cells (vrow 266 s.at) 34) ∧ wz.heap[xb]? = some (.cells (vrow 2 (spAt i j)) 111) ∧ wz.heap[yb]? = some (.cells (vrow 2 (spAt i2 j2)) 111) ∧ (∀ (g : Nat) X, w2.heap[g]? = some X → wz.heap[g]? = some X) ∧ Below w.heap.size w wz) (fun _ _ jv _ => 3 - (intOf jv).toNat)
      case atStart => exact ⟨0, by omega, rfl, by simp [dsum], rfl, P1, X1, Y1, K1, B1⟩
      case round =>
        clear P1 X1 Y1 K1 B1
        obtain ⟨m, hm, rfl, rfl, rfl, P, X, Y, hKp, hB⟩ := hrel
        by_cases hlm : m < 3
        · have hdA1 := hdA m hlm; have hdB1 := hdB m hlm
          have hds := dsum_bd (G k) hGk m (by omega)
          have hmm := mk3_bd hM0 hGk m (by omega)
          have hgm : G k m = (if dyA s i2 j2 m ≤ dyA s i j m then dyA s i j m - dyA s i2 j2 m else dyA s i2 j2 m - dyA s i j m) := by rw [HGA.out]; rfl
          have hgb := hGk m hlm
          have hd1 : dsum (G k) (m + 1) = dsum (G k) m + G k m := rfl
          have hm1 : mk3 M0 (G k) (m + 1) = max (mk3 M0 (G k) m) (G k m) := rfl
          have eA : s.dye (24 * j + 3 * i + m) = dyA s i j m := rfl
          have eB : s.dye (24 * j2 + 3 * i2 + m) = dyA s i2 j2 m := rfl
          have HZ := Go.Lib.hid fun w => lsize_any (dyA s i j m) (dyA s i2 j2 m) (by omega) (by omega) w
          rw [← hgm] at HZ
          have HD1 := Go.Lib.hid hd1; have HM1 := Go.Lib.hid hm1; have EA := Go.Lib.hid eA; have EB := Go.Lib.hid eB
          clear hd1 hm1 eA eB hgm
          generalize dsum (G k) m = S1 at *
          generalize mk3 M0 (G k) m = M1 at *
          generalize G k m = gm at *
          generalize dyA s i j m = vA at *
          generalize dyA s i2 j2 m = vB at *
          have HMX := Go.Lib.hid fun w => lmax_any M1 gm w
          replace P := Go.Lib.hid P; replace X := Go.Lib.hid X; replace Y := Go.Lib.hid Y; replace hKp := Go.Lib.hid hKp; replace hB := Go.Lib.hid hB
          have hmI : (m : Int) < 3 := by omega
          have hm0 : (0 : Int) ≤ (m : Int) := by omega
          have hmd : decide ((m : Int) < 3) = true := by simpa using hmI
          have hiI : (i : Int) < 8 := by omega
          have hjI : (j : Int) < 8 := by omega
          have hi2I : (i2 : Int) < 8 := by omega
          have hj2I : (j2 : Int) < 8 := by omega
          go_wp2
          refine region_at (by kernel_rfl) (by kernel_rfl) ?_
          intro W hW
          rw [hW] at P X Y hKp hB
          clear hW
          have P' := Go.Lib.hid (cls_row' P.out); have X' := Go.Lib.hid (cls_row' X.out); have Y' := Go.Lib.hid (cls_row' Y.out)
          (repeat (first
            | go_big_quiet_skip
            | (refine wpQuiet_load1 22 _ rfl (by first | exact want_n rfl | exact want_g _ _ _ rfl rfl rfl) xb _ rfl 2 (spAt i j) _ rw_i8 X'.out (by omega) ?_; (first | rw [spAt_0] | rw [spAt_1]); simp only [Act.put, List.setIfInBounds_toArray, List.set_cons_succ, List.set_cons_zero])
            | (refine wpQuiet_load1 22 _ rfl (by first | exact want_n rfl | exact want_g _ _ _ rfl rfl rfl) yb _ rfl 2 (spAt i2 j2) _ rw_i8 Y'.out (by omega) ?_; (first | rw [spAt_0] | rw [spAt_1]); simp only [Act.put, List.setIfInBounds_toArray, List.set_cons_succ, List.set_cons_zero])
            | (refine wpQuiet_load1 23 _ rfl (by first | exact want_n rfl | exact want_g _ _ _ rfl rfl rfl) b _ rfl 266 s.at _ rw_i16 P'.out (by omega) ?_; (first | rw [Sh.at_dye1 s _ (24 * j + 3 * i + m) (by omega) (by omega), EA.out] | rw [Sh.at_dye1 s _ (24 * j2 + 3 * i2 + m) (by omega) (by omega), EB.out]); simp only [Act.put, List.setIfInBounds_toArray, List.set_cons_succ, List.set_cons_zero])
            | go_big_quiet_step ((go_at_call 95; exact cls_call _ (fun w hw => HZ.out w)))))
          refine wpQuiet_nil ?_
          intro Wn hb
          replace P := Go.Lib.hid (row_next hb P.out); replace X := Go.Lib.hid (row_next hb X.out); replace Y := Go.Lib.hid (row_next hb Y.out); replace hB := Go.Lib.hid (below_next hB.out hb); replace hKp := Go.Lib.hid (fun (g : Nat) X (h : w2.heap[g]? = some X) => row_next hb (hKp.out g X h))
          clear hb P' X' Y'
          go_wp2_with (first
            | go_skip
            | (go_at_call 106; (refine (HMX.out _).mono ?_); rintro o w5 ⟨rfl, hb⟩; replace P := Go.Lib.hid (row_next hb P.out); replace X := Go.Lib.hid (row_next hb X.out); replace Y := Go.Lib.hid (row_next hb Y.out); replace hB := Go.Lib.hid (below_next hB.out hb); replace hKp := Go.Lib.hid (fun (g : Nat) X (h : w2.heap[g]? = some X) => row_next hb (hKp.out g X h)); clear hb))
          go_roundw
          case rel => exact ⟨m + 1, by omega, by go_num, by rw [HD1.out]; go_num, by rw [HM1.out], P.out, X.out, Y.out, hKp.out, hB.out⟩
          case measure => simp [intOf]; omega
        · obtain rfl : m = 3 := by omega
          have hmd : decide (((3 : Nat) : Int) < 3) = false := by simp
          replace P := Go.Lib.hid P; replace hKp := Go.Lib.hid hKp; replace hB := Go.Lib.hid hB
          go_wp2
          go_roundw
          case rel => exact ⟨k + 1, by omega, by go_num, by rw [HSk.out], by rw [HMk.out], P.out, hKp.out, hB.out⟩
          case measure => simp [intOf]; omega
    · obtain rfl : k = L.length := by omega
      have hkd : decide ((L.length : Int) < (L.length : Int)) = false := by simp
      replace hB := Go.Lib.hid hB
      go_wp2
      go_ret2
      exact ⟨rfl, hB.out⟩
end Go.Proofs.YtmcpaangofdmpaaDoor
