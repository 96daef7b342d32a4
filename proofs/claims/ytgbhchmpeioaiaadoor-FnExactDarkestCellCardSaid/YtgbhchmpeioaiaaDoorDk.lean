import Derived.Test.YtgbhchmpeioaiaaDoorFirstD
import Derived.Test.YtgbhchmpeioaiaaDoorSpots
namespace Go.Proofs.YtgbhchmpeioaiaaDoor
open Go.RowKit
set_option maxRecDepth 100000
set_option linter.unusedVariables false
set_option linter.unusedSimpArgs false
/-- the model's answer -/
def specRes (b : (Nat × Nat) × Int) : Value := if b.2 = 0 then .tuple #[.agg (vrow 2 (spAt 0 0)), .int .i64 0, .int .i64 6] else .tuple #[.agg (vrow 2 (spAt b.1.1 b.1.2)), .int .i64 b.2, .int .i64 0]
theorem specRes_no {b : (Nat × Nat) × Int} (h : b.2 = 0) : specRes b = .tuple #[.agg (vrow 2 (spAt 0 0)), .int .i64 0, .int .i64 6] := if_pos h
theorem specRes_yes {b : (Nat × Nat) × Int} (h : ¬ b.2 = 0) : specRes b = .tuple #[.agg (vrow 2 (spAt b.1.1 b.1.2)), .int .i64 b.2, .int .i64 0] := if_neg h
theorem built_zspot : Tryd.prog.built 40 [] = some (vrow 2 (spAt 0 0)) := by kernel_rfl
set_option maxHeartbeats 400000 in
theorem specDk_bad (s : Sh) (w : World) (hf : s.fit) (hv : okI s = false) : Calls Tryd.prog 19 #[.agg s.row] w fun e w' => e = .returned (.tuple #[.agg (vrow 2 (spAt 0 0)), .int .i64 0, .int .i64 1]) ∧ Below w.heap.size w w' := by
  have HO0 := fun b w hs => ok_any s b w hs hf
  rw [← ok_eq s hf, hv] at HO0
  have HO := Go.Lib.hid HO0
  clear HO0 hv
  have zs := zero_spot
  have hB : Hid (Below w.heap.size w ((w.alloc (.cells (vrow 266 s.at) 35)).alloc (.cells (vrow 2 (spAt 0 0)) 40))) := (((Below.refl w.heap.size w).alloc (by simp <;> omega) _).alloc (by simp <;> omega) _)
  have P : Hid (((w.alloc (.cells (vrow 266 s.at) 35)).alloc (.cells (vrow 2 (spAt 0 0)) 40)).heap[(w.heap.size)]? = some (.cells (vrow 266 s.at) 35)) := heap_past _ _ _ _ (by first | omega | (simp <;> omega)) (heap_at _ _ _ (by simp))
  have Z : Hid (((w.alloc (.cells (vrow 266 s.at) 35)).alloc (.cells (vrow 2 (spAt 0 0)) 40)).heap[(w.heap.size + 1)]? = some (.cells (vrow 2 (spAt 0 0)) 40)) := heap_at _ _ _ (by simp)
  go_enter Tryd.func19, Tryd.ntmps19
  go_wp2_with (first
    | (refine wpList_built rfl 40 [] rfl [] (by rfl) _ built_zspot ?_)
    | (refine wpList_storeall rfl 40 (.tmp 2) (.tmp 12) rfl (w.heap.size + 1) rfl 2 (spAt 0 0) (spAt 0 0) rfl 40 size_spot Z.out (fun i _ => spAt_one _ _ i) ?_; replace Z := Go.Lib.hid (row_set Z.out (vrow 2 (spAt 0 0))); replace hB := Go.Lib.hid (Below_setRow hB.out (show w.heap.size ≤ w.heap.size + 1 by omega) (vrow 2 (spAt 0 0))))
    | (go_at_call 47; (refine (HO.out _ _ P.out).mono ?_; rintro e w1 ⟨rfl, hb⟩; replace P := Go.Lib.hid (row_next hb P.out); replace Z := Go.Lib.hid (row_next hb Z.out); replace hB := Go.Lib.hid (below_next hB.out hb); clear hb ))
    | (refine list_at 24 rfl ?_; intro W hW; rw [hW] at hB P Z; clear hW; have P' := Go.Lib.hid (cls_row' P.out); have Z' := Go.Lib.hid (cls_row' Z.out); (repeat (first | go_big_quiet_skip | go_big_quiet_step ((go_at_call 47; exact cls_call _ (fun w hw => HO.out _ w (row_next hw P.out)))))); refine wpQuiet_nil ?_; intro Wn hb; replace P := Go.Lib.hid (row_next hb P.out); replace Z := Go.Lib.hid (row_next hb Z.out); replace hB := Go.Lib.hid (below_next hB.out hb); clear hb P' Z'))
  exact ret_row3 Tryd.results19 (w.heap.size + 1) 2 (spAt 0 0) 40 _ Tryd.underlying40 rfl size_spot (.int .i64 0) (.int .i64 1) rfl rfl rfl rfl Z.out ⟨rfl, hB.out⟩
set_option maxHeartbeats 4000000 in
theorem specDk_ok (s : Sh) (w : World) (hf : s.fit) (hv : okI s = true) (a c : Nat) (ea : s.wide = a) (ec : s.high = c) (ha : 1 ≤ a ∧ a ≤ 8) (hc : 1 ≤ c ∧ c ≤ 8) : Calls Tryd.prog 19 #[.agg s.row] w fun e w' => e = .returned (specRes (best (darkB s) (cellsL a c))) ∧ Below w.heap.size w w' := by
  have HO0 := fun b w hs => ok_any s b w hs hf
  rw [← ok_eq s hf, hv] at HO0
  have HO := Go.Lib.hid HO0
  have HSp := Go.Lib.hid fun b w hs => spots_any s b a c w hs ea ec ha.2 hc.2
  have HD := Go.Lib.hid fun b x y w hs hx hy => ldark_any s b x y w hs hx hy hf
  have BD := Go.Lib.hid (best_bd (darkB s) 4000 (by omega) (fun x y hx hy => by
    obtain ⟨_, h1, h2, h3⟩ := ok_bounds s hv x y hx hy
    unfold darkB; omega))
  have BN := Go.Lib.hid (fun x y (hx : x < 8) (hy : y < 8) => (show 0 ≤ darkB s x y ∧ darkB s x y ≤ 4000 by
    obtain ⟨_, h1, h2, h3⟩ := ok_bounds s hv x y hx hy
    unfold darkB; omega))
  clear HO0 hv
  have zs := zero_spot
  have hn : (cellsL a c).length = a * c := cellsL_length a c
  have hac : 1 ≤ a * c ∧ a * c ≤ 64 := ⟨Nat.mul_le_mul ha.1 hc.1, Nat.mul_le_mul ha.2 hc.2⟩
  rw [← hn] at hac
  generalize cellsL a c = L at *
  clear hn ea ec ha hc
  have hB : Hid (Below w.heap.size w ((w.alloc (.cells (vrow 266 s.at) 35)).alloc (.cells (vrow 2 (spAt 0 0)) 40))) := (((Below.refl w.heap.size w).alloc (by simp <;> omega) _).alloc (by simp <;> omega) _)
  have P : Hid (((w.alloc (.cells (vrow 266 s.at) 35)).alloc (.cells (vrow 2 (spAt 0 0)) 40)).heap[(w.heap.size)]? = some (.cells (vrow 266 s.at) 35)) := heap_past _ _ _ _ (by first | omega | (simp <;> omega)) (heap_at _ _ _ (by simp))
  have Z : Hid (((w.alloc (.cells (vrow 266 s.at) 35)).alloc (.cells (vrow 2 (spAt 0 0)) 40)).heap[(w.heap.size + 1)]? = some (.cells (vrow 2 (spAt 0 0)) 40)) := heap_at _ _ _ (by simp)
  go_enter Tryd.func19, Tryd.ntmps19
  go_wp2_with (first
    | (refine wpList_built rfl 40 [] rfl [] (by rfl) _ built_zspot ?_)
    | (refine wpList_storeall rfl 40 (.tmp 5) (.tmp 13) rfl _ rfl 2 (spAt 0 0) (spAt 0 0) rfl 40 size_spot (heap_at _ _ _ rfl) (fun i _ => spAt_one _ _ i) ?_; rw [setRow_at _ _ _ _ _ rfl]; have n0 := row_lt P.out; have n1 := row_lt Z.out; have V := Go.Lib.hid (heap_at w1 (.cells (vrow 2 (spAt 0 0)) 40) _ rfl); replace P := Go.Lib.hid (heap_past _ (.cells (vrow 2 (spAt 0 0)) 40) _ _ n0 P.out); replace Z := Go.Lib.hid (heap_past _ (.cells (vrow 2 (spAt 0 0)) 40) _ _ n1 Z.out); have hsz := hB.out.size; replace hB := Go.Lib.hid (hB.out.alloc hsz (.cells (vrow 2 (spAt 0 0)) 40)); generalize hbv : w1.heap.size = bv at V n0 n1 hsz ⊢; generalize w1.alloc _ = W1 at P Z V hB ⊢; clear hbv)
    | (go_at_call 55; (refine (HSp.out _ _ P.out).mono ?_; rintro e w2 ⟨v, rfl, hO, hb⟩; have nbv := row_lt V.out; replace P := Go.Lib.hid (row_next hb P.out); replace Z := Go.Lib.hid (row_next hb Z.out); replace V := Go.Lib.hid (row_next hb V.out); replace hB := Go.Lib.hid (below_next hB.out hb)))
    | (go_at_call 47; (refine (HO.out _ _ P.out).mono ?_; rintro e w1 ⟨rfl, hb⟩; replace P := Go.Lib.hid (row_next hb P.out); replace Z := Go.Lib.hid (row_next hb Z.out); replace hB := Go.Lib.hid (below_next hB.out hb); clear hb )))
  have hbg := hb.size
  obtain ⟨g, cap, f, rfl, hg, hcap, hO2, hf2⟩ := hO.row (by omega)
  have O := Go.Lib.hid hO2; have HF := Go.Lib.hid hf2
  clear hO hO2 hf2 hb hbg
  obtain ⟨wo, hwo⟩ : ∃ wo : World, wo = w2 := ⟨_, rfl⟩
  rw [← hwo] at P Z V hB O ⊢
  clear hwo w2
  go_loopw [6, 8] (fun mv iv wr => ∃ k : Nat, k ≤ L.length ∧ iv = .int .i64 k ∧ mv = .int .i64 (best (darkB s) (L.take k)).2 ∧ wr.heap[bv]? = some (.cells (vrow 2 (spAt (best (darkB s) (L.take k)).1.1 (best (darkB s) (L.take k)).1.2)) 40) ∧ wr.heap[g]? = some (.cells (vrow (cap * 2) f) 40) ∧ wr.heap[w.heap.size]? = some (.cells (vrow 266 s.at) 35) ∧ wr.heap[w.heap.size + 1]? = some (.cells (vrow 2 (spAt 0 0)) 40) ∧ Below w.heap.size w wr) (fun _ iv _ => L.length - (intOf iv).toNat)
  case atStart => exact ⟨0, by omega, rfl, rfl, V.out, O.out, P.out, Z.out, hB.out⟩
  case round =>
    clear V O P Z hB
    obtain ⟨k, hk, rfl, rfl, V, O, P, Z, hB⟩ := hrel
    obtain ⟨bd1, bd2⟩ := BD.out (L.take k)
    have hsz2 := hB.size
    by_cases hlt : k < L.length
    · have hf2 := HF.out k hlt
      have htk : L.take (k + 1) = L.take k ++ [L[k]'hlt] := by rw [List.take_succ_eq_append_getElem hlt]
      have hap := best_app (darkB s) (L.take k) (L[k]'hlt)
      rw [← htk] at hap
      clear htk
      obtain ⟨⟨⟨x, y⟩, hx, hy⟩, hp⟩ : ∃ p, L[k]'hlt = p := ⟨_, rfl⟩
      rw [hp] at hf2 hap
      clear hp
      replace hx : x < 8 := hx
      replace hy : y < 8 := hy
      have hR : vrow 2 (fun i => f (k * 2 + i)) = vrow 2 (spAt x y) := vrow_ext _ _ _ fun i hi => by
        have hi2 : i = 0 ∨ i = 1 := by omega
        rcases hi2 with rfl | rfl
        · rw [Nat.add_zero, hf2.1]; rfl
        · rw [hf2.2]; rfl
      have HR := Go.Lib.hid hR; have hap := Go.Lib.hid hap
      clear hf2 hR
      obtain ⟨bn1, bn2⟩ := BN.out x y hx hy
      generalize best (darkB s) (L.take k) = bp at *
      replace P := Go.Lib.hid P; replace O := Go.Lib.hid O; replace Z := Go.Lib.hid Z; replace V := Go.Lib.hid V; replace hB := Go.Lib.hid hB
      have hkI : (k : Int) < (L.length : Int) := by omega
      have hk0 : (0 : Int) ≤ (k : Int) := by omega
      have hkd : decide ((k : Int) < (L.length : Int)) = true := by simpa using hkI
      by_cases hgt : bp.2 < darkB s x y
      · have hdec : decide (bp.2 < darkB s x y) = true := by simpa using hgt
        go_wp2_with (first
          | (refine wpList_loadmid rfl 40 (.tmp 23) rfl g (k * 2) rfl (cap * 2) 2 f 40 _ Tryd.underlying40 rfl size_spot O.out (by omega) ?_; rw [HR.out])
          | (refine wpList_loadmid rfl 40 (.tmp 31) rfl g (k * 2) rfl (cap * 2) 2 f 40 _ Tryd.underlying40 rfl size_spot O.out (by omega) ?_; rw [HR.out])
          | (refine wpList_storeall rfl 40 (.tmp 5) (.tmp 32) rfl bv rfl 2 (spAt bp.1.1 bp.1.2) (spAt x y) rfl 40 size_spot V.out (fun i _ => spAt_one _ _ i) ?_)
          | (go_at_call 56; (refine (HD.out _ x y _ P.out hx hy).mono ?_; rintro e w1 ⟨rfl, hb⟩; replace P := Go.Lib.hid (row_next hb P.out); replace Z := Go.Lib.hid (row_next hb Z.out); replace V := Go.Lib.hid (row_next hb V.out); replace O := Go.Lib.hid (row_next hb O.out); replace hB := Go.Lib.hid (below_next hB.out hb); clear hb )))
        go_roundw
        case rel =>
          have e1 : best (darkB s) (L.take (k + 1)) = ((x, y), darkB s x y) := by rw [hap.out, bestStep, if_pos (by simpa using hgt)]
          exact ⟨k + 1, by omega, by go_num, by rw [e1], by rw [e1]; exact row_set V.out _, row_set' (by omega) O.out _, row_set' (by omega) P.out _, row_set' (by omega) Z.out _, Below_setRow hB.out (by omega) _⟩
        case measure => simp [intOf]; omega
      · have hdec : decide (bp.2 < darkB s x y) = false := by simpa using hgt
        go_wp2_with (first
          | (refine wpList_loadmid rfl 40 (.tmp 23) rfl g (k * 2) rfl (cap * 2) 2 f 40 _ Tryd.underlying40 rfl size_spot O.out (by omega) ?_; rw [HR.out])
          | (go_at_call 56; (refine (HD.out _ x y _ P.out hx hy).mono ?_; rintro e w1 ⟨rfl, hb⟩; replace P := Go.Lib.hid (row_next hb P.out); replace Z := Go.Lib.hid (row_next hb Z.out); replace V := Go.Lib.hid (row_next hb V.out); replace O := Go.Lib.hid (row_next hb O.out); replace hB := Go.Lib.hid (below_next hB.out hb); clear hb )))
        go_roundw
        case rel =>
          have e1 : best (darkB s) (L.take (k + 1)) = bp := by rw [hap.out, bestStep, if_neg (by simpa using hgt)]
          exact ⟨k + 1, by omega, by go_num, by rw [e1], by rw [e1]; exact V.out, O.out, P.out, Z.out, hB.out⟩
        case measure => simp [intOf]; omega
    · obtain rfl : k = L.length := by omega
      rw [List.take_length] at *
      obtain ⟨bp, hbp⟩ : ∃ bp, best (darkB s) L = bp := ⟨_, rfl⟩
      rw [hbp] at V bd1 bd2 ⊢
      have HBP := Go.Lib.hid hbp
      clear hbp
      replace P := Go.Lib.hid P; replace O := Go.Lib.hid O; replace Z := Go.Lib.hid Z; replace V := Go.Lib.hid V; replace hB := Go.Lib.hid hB
      have hkd : decide ((L.length : Int) < (L.length : Int)) = false := by simp
      by_cases h0 : bp.2 = 0
      · have hdec : decide (bp.2 = 0) = true := by simpa using h0
        have hres := specRes_no h0
        have HRES := Go.Lib.hid hres
        clear hres
        go_wp2_with (first
          | (refine wpList_built rfl 40 [] rfl [] (by rfl) _ built_zspot ?_)
          | (refine wpList_storeall rfl 40 (.tmp 2) (.tmp 36) rfl (w.heap.size + 1) rfl 2 (spAt 0 0) (spAt 0 0) rfl 40 size_spot Z.out (fun i _ => spAt_one _ _ i) ?_; replace Z := Go.Lib.hid (row_set Z.out (vrow 2 (spAt 0 0))); replace hB := Go.Lib.hid (Below_setRow hB.out (show w.heap.size ≤ w.heap.size + 1 by omega) (vrow 2 (spAt 0 0)))))
        exact ret_row3 Tryd.results19 (w.heap.size + 1) 2 (spAt 0 0) 40 _ Tryd.underlying40 rfl size_spot (.int .i64 0) (.int .i64 6) rfl rfl rfl rfl Z.out ⟨by rw [HBP.out, HRES.out], hB.out⟩
      · have hdec : decide (bp.2 = 0) = false := by simpa using h0
        have hres := specRes_yes h0
        have HRES := Go.Lib.hid hres
        clear hres
        go_wp2_with (first
          | (refine wpList_loadall rfl 40 (.tmp 5) rfl _ rfl 2 (spAt bp.1.1 bp.1.2) 40 _ Tryd.underlying40 rfl size_spot V.out ?_)
          | (refine wpList_storeall rfl 40 (.tmp 2) (.tmp 37) rfl (w.heap.size + 1) rfl 2 (spAt 0 0) (spAt bp.1.1 bp.1.2) rfl 40 size_spot Z.out (fun i _ => spAt_one _ _ i) ?_; replace Z := Go.Lib.hid (row_set Z.out (vrow 2 (spAt bp.1.1 bp.1.2))); replace hB := Go.Lib.hid (Below_setRow hB.out (show w.heap.size ≤ w.heap.size + 1 by omega) (vrow 2 (spAt bp.1.1 bp.1.2)))))
        exact ret_row3 Tryd.results19 (w.heap.size + 1) 2 (spAt bp.1.1 bp.1.2) 40 _ Tryd.underlying40 rfl size_spot (.int .i64 bp.2) (.int .i64 0) rfl rfl rfl rfl Z.out ⟨by rw [HBP.out, HRES.out], hB.out⟩
end Go.Proofs.YtgbhchmpeioaiaaDoor
