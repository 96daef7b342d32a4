import Derived.Test.YtmcpaangofdmpaaDoorPOff
namespace Go.Proofs.YtmcpaangofdmpaaDoor
open Go.RowKit
set_option maxRecDepth 100000
set_option linter.unusedVariables false
set_option linter.unusedSimpArgs false
theorem size_d3g : (Tryd.prog.info? 26).map (·.size) = some 3 := by kernel_rfl
theorem rw_d3g : (Tryd.prog.underlying 26).map (·.isRow) = some true := by kernel_rfl
theorem dyA_row (s : Sh) (x y : Nat) : (#[.int .i16 (s.dye (24 * y + 3 * x)), .int .i16 (s.dye (24 * y + 3 * x + 1)), .int .i16 (s.dye (24 * y + 3 * x + 2))] : Array Value) = vrow 3 (d3f (dyA s x y)) := rfl
set_option maxHeartbeats 4000000 in
theorem gapsOf_any (s : Sh) (i j i2 j2 : Nat) (w : World) (hv : okI s = true) (hi8 : i < 8) (hj8 : j < 8) (hi2 : i2 < 8) (hj2 : j2 < 8) : Calls Tryd.prog 109 #[.agg s.row, .agg (vrow 4 (p4 i j i2 j2))] w fun e w' => e = .returned (.agg (vrow 3 (d3f (gp (dyA s i j) (dyA s i2 j2))))) ∧ Below w.heap.size w w' := by
  have HG := Go.Lib.hid fun w => gaps_any (dyA s i j) (dyA s i2 j2) (fun m hm => dyA_bd hv hi8 hj8 m hm) (fun m hm => dyA_bd hv hi2 hj2 m hm) w
  have zz := zero_d3
  have EA := Go.Lib.hid (dyA_row s i j); have EB := Go.Lib.hid (dyA_row s i2 j2)
  generalize gp (dyA s i j) (dyA s i2 j2) = G at *
  generalize dyA s i j = dA at *
  generalize dyA s i2 j2 = dB at *
  have P : Hid ((((w.alloc (.cells (vrow 266 s.at) 34)).alloc (.cells (vrow 4 (p4 i j i2 j2)) 130)).alloc (.cells (vrow 3 fun _ => .int .i16 0) 26)).heap[w.heap.size]? = some (.cells (vrow 266 s.at) 34)) := (heap_past _ _ _ _ (by simp <;> omega) (heap_past _ _ _ _ (by simp <;> omega) (heap_at _ _ _ (by simp))))
  have R : Hid ((((w.alloc (.cells (vrow 266 s.at) 34)).alloc (.cells (vrow 4 (p4 i j i2 j2)) 130)).alloc (.cells (vrow 3 fun _ => .int .i16 0) 26)).heap[w.heap.size + 1]? = some (.cells (vrow 4 (p4 i j i2 j2)) 130)) := (heap_past _ _ _ _ (by simp <;> omega) (heap_at _ _ _ (by simp)))
  have Z : Hid ((((w.alloc (.cells (vrow 266 s.at) 34)).alloc (.cells (vrow 4 (p4 i j i2 j2)) 130)).alloc (.cells (vrow 3 fun _ => .int .i16 0) 26)).heap[w.heap.size + 2]? = some (.cells (vrow 3 fun _ => .int .i16 0) 26)) := (heap_at _ _ _ (by simp))
  have hB : Hid (Below w.heap.size w (((w.alloc (.cells (vrow 266 s.at) 34)).alloc (.cells (vrow 4 (p4 i j i2 j2)) 130)).alloc (.cells (vrow 3 fun _ => .int .i16 0) 26))) := Go.Lib.hid ((((Below.refl w.heap.size w).alloc (by simp <;> omega) _).alloc (by simp <;> omega) _).alloc (by simp <;> omega) _)
  have hiI : (i : Int) < 8 := by omega
  have hjI : (j : Int) < 8 := by omega
  have hi2I : (i2 : Int) < 8 := by omega
  have hj2I : (j2 : Int) < 8 := by omega
  go_enter Tryd.func109, Tryd.ntmps109
  go_wp2
  refine region_qt 21 (by kernel_rfl) (by kernel_rfl) ?_
  intro W hW
  rw [hW] at hB P R Z
  clear hW
  simp only [List.take_succ_cons, List.take_zero, List.drop_succ_cons, List.drop_zero]
  have P' := Go.Lib.hid (cls_row' P.out); have R' := Go.Lib.hid (cls_row' R.out)
  (repeat (first
    | go_big_quiet_skip
    | (refine wpQuiet_load1 22 _ rfl (by first | exact want_n rfl | exact want_g _ _ _ rfl rfl rfl) (w.heap.size + 1) _ rfl 4 (p4 i j i2 j2) _ rw_i8 R'.out (by omega) ?_; (first | rw [show p4 (i : Int) (j : Int) (i2 : Int) (j2 : Int) 0 = .int .i8 i from rfl] | rw [show p4 (i : Int) (j : Int) (i2 : Int) (j2 : Int) 1 = .int .i8 j from rfl] | rw [show p4 (i : Int) (j : Int) (i2 : Int) (j2 : Int) 2 = .int .i8 i2 from rfl] | rw [show p4 (i : Int) (j : Int) (i2 : Int) (j2 : Int) 3 = .int .i8 j2 from rfl]); simp only [Act.put, List.setIfInBounds_toArray, List.set_cons_succ, List.set_cons_zero])
    | (refine wpQuiet_loadmid 26 _ rfl (by first | exact want_n rfl | exact want_g _ _ _ rfl rfl rfl) w.heap.size _ rfl 266 3 s.at _ rw_d3g size_d3g P'.out (by omega) ?_; (first | rw [Sh.at_d3 s _ (24 * j + 3 * i) (by omega) (by omega), EA.out] | rw [Sh.at_d3 s _ (24 * j2 + 3 * i2) (by omega) (by omega), EB.out]); simp only [Act.put, List.setIfInBounds_toArray, List.set_cons_succ, List.set_cons_zero])
    | go_big_quiet_step ((go_at_call 134; exact cls_call _ (fun w hw => HG.out w)))))
  refine wpQuiet_nil ?_
  intro Wn hb
  replace Z := Go.Lib.hid (row_next hb Z.out); replace hB := Go.Lib.hid (below_next hB.out hb)
  clear hb P' R' P R
  refine wpList_storeall rfl 26 (.tmp 4) (.tmp 25) rfl (w.heap.size + 2) rfl 3 (fun _ => .int .i16 0) (d3f G) rfl 26 size_d3g Z.out (fun _ _ => rfl) ?_
  go_wp2
  exact ret_row Tryd.results109 (w.heap.size + 2) 3 (d3f G) 26 _ Tryd.underlying26 rfl size_d3g rfl rfl (row_set Z.out _) ⟨rfl, Below_setRow hB.out (by omega) _⟩
set_option maxRecDepth 100000 in
set_option maxHeartbeats 4000000 in
theorem offBy_any (s : Sh) (ax : Int) (d : Bool) (L : List Sp8) (v : Value) (B : Nat) (w : World) (hv : okI s = true) (hin : inP ax d L) (hlen : L.length ≤ 64) (hO : PRO w v ax d L B) : Calls Tryd.prog 66 #[.agg s.row, v] w fun e w' => e = .returned (.int .i64 (oS (gq s ax d L) L.length)) ∧ Below w.heap.size w w' := by
  obtain ⟨ao, cc, rfl, hr⟩ := hO
  have zp := zero_prtP
  have hGb := fun k m => gq_bd hv ax d L k m
  have hgq : ∀ k (h : k < L.length), gq s ax d L k = gapP s ax d (L[k]'h) := fun k h => by unfold gq; rw [dif_pos h]
  generalize gq s ax d L = G at *
  have P : Hid ((w.alloc (.cells (vrow 266 s.at) 34)).heap[w.heap.size]? = some (.cells (vrow 266 s.at) 34)) := (heap_at _ _ _ (by simp))
  have hB : Hid (Below w.heap.size w (w.alloc (.cells (vrow 266 s.at) 34))) := Go.Lib.hid ((Below.refl w.heap.size w).alloc (by simp <;> omega) _)
  have hK0 : ∀ (g : Nat) X, w.heap[g]? = some X → (w.alloc (.cells (vrow 266 s.at) 34)).heap[g]? = some X := fun g X h => heap_past _ _ _ _ (row_lt h) h
  go_enter Tryd.func66, Tryd.ntmps66
  go_wp2
  have P0 := P.out; have B0 := hB.out
  clear P hB
  go_loopw [5, 10] (fun sm iv wr => ∃ k : Nat, k ≤ L.length ∧ iv = .int .i64 k ∧ sm = .int .i64 (oS G k) ∧ wr.heap[w.heap.size]? = some (.cells (vrow 266 s.at) 34) ∧ (∀ (g : Nat) X, w.heap[g]? = some X → wr.heap[g]? = some X) ∧ Below w.heap.size w wr) (fun _ iv _ => L.length - (intOf iv).toNat)
  case atStart => exact ⟨0, by omega, rfl, rfl, P0, hK0, B0⟩
  case round =>
    clear P0 B0 hK0
    obtain ⟨k, hk, rfl, rfl, P, hKp, hB⟩ := hrel
    by_cases hlt : k < L.length
    · rcases hr with h0 | ⟨g, N, f, rfl, hg, hN, hrow, hf4⟩
      · omega
      have Gr := Go.Lib.hid (hKp g _ hrow)
      obtain ⟨⟨⟨i, j⟩, hi8, hj8⟩, hp⟩ : ∃ p, L[k]'hlt = p := ⟨_, rfl⟩
      have h4 := hf4 k hlt
      have hgk := hgq k hlt
      have hin1 := hin _ (List.getElem_mem hlt)
      rw [hp] at h4 hgk hin1
      obtain ⟨⟨⟨i2, j2⟩, hi2, hj2⟩, hsg⟩ : ∃ p, sgP ax d ⟨(i, j), hi8, hj8⟩ = p := ⟨_, rfl⟩
      rw [hsg] at hin1
      simp only at hin1 h4
      rw [← hin1.1, ← hin1.2] at h4
      have hga : G k = gp (dyA s i j) (dyA s i2 j2) := by rw [hgk]; unfold gapP; rw [hsg]
      replace hi8 : i < 8 := hi8
      replace hj8 : j < 8 := hj8
      replace hi2 : i2 < 8 := hi2
      replace hj2 : j2 < 8 := hj2
      have H4 := Go.Lib.hid h4
      have HGO := Go.Lib.hid fun w => gapsOf_any s i j i2 j2 w hv hi8 hj8 hi2 hj2
      rw [← hga] at HGO
      have HDA := Go.Lib.hid fun w => darkness_any (G k) (hGb k) w
      have hS0 := oS_bd hGb k
      have hds := dsum_bd (G k) (hGb k) 3 (by omega)
      have HSk := Go.Lib.hid (show oS G (k + 1) = oS G k + dsum (G k) 3 from rfl)
      clear h4 hgk hin1 hsg hp hf4 hrow hga
      obtain ⟨S0, hS0e⟩ : ∃ S0, oS G k = S0 := ⟨_, rfl⟩
      rw [hS0e] at hS0 HSk ⊢
      clear hS0e
      generalize dsum (G k) 3 = dk at *
      generalize G k = gk at *
      replace P := Go.Lib.hid P; replace hKp := Go.Lib.hid hKp; replace hB := Go.Lib.hid hB
      have hkI : (k : Int) < (L.length : Int) := by omega
      have hk0 : (0 : Int) ≤ (k : Int) := by omega
      have hkd : decide ((k : Int) < (L.length : Int)) = true := by simpa using hkI
      have lp := row_lt P.out
      go_wp2_with (first
        | go_skip
        | ((with_reducible refine wlAt 13 rfl ?_); refine wpList_loadmid rfl 130 (.tmp 12) rfl g (k * 4) rfl N 4 f 130 _ Tryd.underlying130 rfl size_prtP Gr.out (by omega) ?_; rw [H4.out])
        | ((with_reducible refine wlOp (.store 130 (.tmp 7) (.tmp 13)) rfl ?_); refine wpList_storeall rfl 130 (.tmp 7) (.tmp 13) rfl _ rfl 4 (p4 0 0 0 0) (p4 i j i2 j2) rfl 130 size_prtP (heap_at _ _ _ rfl) (fun i _ => p4_one _ _ _ _ i) ?_; rw [setRow_at _ _ _ _ _ rfl]; have R := Go.Lib.hid (heap_at wr (.cells (vrow 4 (p4 i j i2 j2)) 130) _ rfl); replace P := Go.Lib.hid (heap_past wr (.cells (vrow 4 (p4 i j i2 j2)) 130) _ _ lp P.out); replace hKp := Go.Lib.hid (fun (g : Nat) X (h : w.heap[g]? = some X) => heap_past wr (.cells (vrow 4 (p4 i j i2 j2)) 130) _ _ (row_lt (hKp.out g X h)) (hKp.out g X h)); replace hB := Go.Lib.hid (hB.out.alloc hB.out.size (.cells (vrow 4 (p4 i j i2 j2)) 130)); clear Gr)
        | ((with_reducible refine wlAt 15 rfl ?_); refine wpList_loadall rfl 34 (.tmp 2) rfl w.heap.size rfl 266 s.at 34 _ Tryd.underlying34 rfl size_sheet P.out ?_)
        | ((with_reducible refine wlAt 16 rfl ?_); refine wpList_loadall rfl 130 (.tmp 7) rfl wr.heap.size rfl 4 (p4 i j i2 j2) 130 _ Tryd.underlying130 rfl size_prtP R.out ?_)
        | (go_at_call 109; (refine (HGO.out _).mono ?_); rintro o w1 ⟨rfl, hb⟩; replace P := Go.Lib.hid (row_next hb P.out); replace hB := Go.Lib.hid (below_next hB.out hb); replace hKp := Go.Lib.hid (fun (g : Nat) X (h : w.heap[g]? = some X) => row_next hb (hKp.out g X h)); clear hb R)
        | (go_at_call 108; (refine (HDA.out _).mono ?_); rintro o w1 ⟨rfl, hb⟩; replace P := Go.Lib.hid (row_next hb P.out); replace hB := Go.Lib.hid (below_next hB.out hb); replace hKp := Go.Lib.hid (fun (g : Nat) X (h : w.heap[g]? = some X) => row_next hb (hKp.out g X h)); clear hb))
      go_roundw
      case rel => exact ⟨k + 1, by omega, by go_num, by rw [HSk.out], P.out, hKp.out, hB.out⟩
      case measure => simp [intOf]; omega
    · obtain rfl : k = L.length := by omega
      have hkd : decide ((L.length : Int) < (L.length : Int)) = false := by simp
      replace hB := Go.Lib.hid hB
      go_wp2
      go_ret
      exact ⟨rfl, hB.out⟩
end Go.Proofs.YtmcpaangofdmpaaDoor
