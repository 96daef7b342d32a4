import Derived.Deep.RegionHeld3
import Derived.Test.YtfdjlflnhhiecaaDoorCut1
import Derived.Test.YtfdjlflnhhiecaaDoorCopy
namespace Go.Proofs.YtfdjlflnhhiecaaDoor
open Go.RowKit
set_option maxRecDepth 100000
set_option linter.unusedVariables false
set_option linter.unusedSimpArgs false
set_option linter.unusedSimpArgs false
set_option maxHeartbeats 8000000 in
theorem specCut_ok (s : Sh) (x y a c : Nat) (w : World) (hf : s.fit) (hx : x < 8) (hy : y < 8) (hv : okI s = true) (hh : hasB s x y = true) (hw : 1 ≤ s.wide ∧ s.wide ≤ 8 ∧ 1 ≤ s.high ∧ s.high ≤ 8) (hin : (x : Int) < s.wide ∧ (y : Int) < s.high) (ha : 1 ≤ a ∧ (a : Int) ≤ s.wide - x) (hc : 1 ≤ c ∧ (c : Int) ≤ s.high - y) : Calls Tryd.prog 40 #[.agg s.row, .agg #[.int .i8 x, .int .i8 y], .int .i64 a, .int .i64 c] w fun e w' => e = .returned (.tuple #[.agg (arrS s (fun i j => x + i) (fun i j => y + j) (plainSh a c) (pairsL a c)).row, .int .i64 0]) ∧ Below w.heap.size w w' := by
  obtain ⟨hw1, hw2, hw3, hw4⟩ := hw
  obtain ⟨hi1, hi2⟩ := hin
  obtain ⟨ha1, ha2⟩ := ha
  obtain ⟨hc1, hc2⟩ := hc
  have HN0 := fun w => lin_cut a (s.wide - x) w
  have HM0 := fun w => lin_cut c (s.high - y) w
  rw [show cutB (a : Int) (s.wide - x) = true by simp [cutB]; omega] at HN0
  rw [show cutB (c : Int) (s.high - y) = true by simp [cutB]; omega] at HM0
  have HN := Go.Lib.hid HN0; have HM := Go.Lib.hid HM0
  clear HN0 HM0
  have HA := Go.Lib.hid fun b w hs => asked_ok s b x y w hs hf (by omega) (by omega) hv hh
  have hLn : (cellsL a c).length = a * c := cellsL_length a c
  have hac : 1 ≤ (cellsL a c).length ∧ (cellsL a c).length ≤ 64 := by rw [hLn]; exact ⟨Nat.mul_le_mul ha1 hc1, Nat.mul_le_mul (show a ≤ 8 by omega) (show c ≤ 8 by omega)⟩
  have hval : (cellsL a c).map (·.1) = pairsL a c := cellsL_val a c (by omega) c (by omega)
  have hmem : ∀ p ∈ (cellsL a c), p.1.1 < a ∧ p.1.2 < c := fun p hp => pairsL_mem (by rw [← hval]; exact List.mem_map_of_mem hp)
  have HSp := Go.Lib.hid fun mb w hs => spots_any (plainSh a c) mb a c w hs rfl rfl (by omega) (by omega)
  generalize (cellsL a c) = L at *
  clear hLn hf hv hh
  have zz := zero_sheet
  rw [sp_vrow]
  have hB : Hid (Below w.heap.size w (((w.alloc (.cells (vrow 266 s.at) 36)).alloc (.cells (vrow 2 (spAt x y)) 38)).alloc (.cells (vrow 266 Sh.zero.at) 36))) := ((((Below.refl w.heap.size w).alloc (by simp <;> omega) _).alloc (by simp <;> omega) _).alloc (by simp <;> omega) _)
  have P : Hid ((((w.alloc (.cells (vrow 266 s.at) 36)).alloc (.cells (vrow 2 (spAt x y)) 38)).alloc (.cells (vrow 266 Sh.zero.at) 36)).heap[(w.heap.size)]? = some (.cells (vrow 266 s.at) 36)) := heap_past _ _ _ _ (by first | omega | (simp <;> omega)) (heap_past _ _ _ _ (by first | omega | (simp <;> omega)) (heap_at _ _ _ (by simp)))
  have R : Hid ((((w.alloc (.cells (vrow 266 s.at) 36)).alloc (.cells (vrow 2 (spAt x y)) 38)).alloc (.cells (vrow 266 Sh.zero.at) 36)).heap[(w.heap.size + 1)]? = some (.cells (vrow 2 (spAt x y)) 38)) := heap_past _ _ _ _ (by first | omega | (simp <;> omega)) (heap_at _ _ _ (by simp))
  have Z : Hid ((((w.alloc (.cells (vrow 266 s.at) 36)).alloc (.cells (vrow 2 (spAt x y)) 38)).alloc (.cells (vrow 266 Sh.zero.at) 36)).heap[(w.heap.size + 1 + 1)]? = some (.cells (vrow 266 Sh.zero.at) 36)) := heap_at _ _ _ (by simp)
  go_enter Tryd.func40, Tryd.ntmps40
  go_wp2_with (first
    | (refine wpList_built rfl 36 [(0, .tmp 43), (1, .tmp 45)] rfl [(0, .int .i8 a), (1, .int .i8 c)] (by rfl) _ (built_plain a c) ?_)
    | (refine wpList_storeall rfl 36 (.tmp 12) (.tmp 46) rfl _ rfl 266 Sh.zero.at (plainSh a c).at rfl 36 size_sheet (heap_at _ _ _ rfl) (fun i _ => Sh.one _ i) ?_; rw [setRow_at _ _ _ _ _ rfl]; have V := Go.Lib.hid (heap_at Wn (.cells (vrow 266 (plainSh a c).at) 36) _ rfl); have q1 := row_lt P.out; have q2 := row_lt R.out; have q3 := row_lt Z.out; replace P := Go.Lib.hid (heap_past _ (.cells (vrow 266 (plainSh a c).at) 36) _ _ q1 P.out); replace R := Go.Lib.hid (heap_past _ (.cells (vrow 266 (plainSh a c).at) 36) _ _ q2 R.out); replace Z := Go.Lib.hid (heap_past _ (.cells (vrow 266 (plainSh a c).at) 36) _ _ q3 Z.out); have hsz := hB.out.size; replace hB := Go.Lib.hid (hB.out.alloc hsz (.cells (vrow 266 (plainSh a c).at) 36)); generalize hmb : Wn.heap.size = mb at V q1 q2 q3 hsz ⊢; generalize Wn.alloc _ = W1 at P R Z V hB ⊢; clear hmb)
    | (go_at_call 70; (refine (HSp.out _ _ V.out).mono ?_; rintro e w2 ⟨v, rfl, hO, hb⟩; have ngb := hb.size; have nV := row_lt V.out; replace P := Go.Lib.hid (row_next hb P.out); replace R := Go.Lib.hid (row_next hb R.out); replace Z := Go.Lib.hid (row_next hb Z.out); replace V := Go.Lib.hid (row_next hb V.out); replace hB := Go.Lib.hid (below_next hB.out hb); obtain ⟨g, cap, f, rfl, hg, hcap, hO2, hf2⟩ := hO.row (by omega); have O := Go.Lib.hid hO2; have HF := Go.Lib.hid hf2; clear hO hO2 hf2 hb ngb))
    | (go_at_call 52; first | ((with_reducible refine (HN.out _).mono ?_); rintro e w1 ⟨rfl, hb⟩; replace P := Go.Lib.hid (row_next hb P.out); replace R := Go.Lib.hid (row_next hb R.out); replace Z := Go.Lib.hid (row_next hb Z.out); replace hB := Go.Lib.hid (below_next hB.out hb); clear hb ) | ((with_reducible refine (HM.out _).mono ?_); rintro e w1 ⟨rfl, hb⟩; replace P := Go.Lib.hid (row_next hb P.out); replace R := Go.Lib.hid (row_next hb R.out); replace Z := Go.Lib.hid (row_next hb Z.out); replace hB := Go.Lib.hid (below_next hB.out hb); clear hb ))
    | (go_at_call 42; (refine (HA.out _ _ P.out).mono ?_; rintro e w1 ⟨rfl, hb⟩; replace P := Go.Lib.hid (row_next hb P.out); replace R := Go.Lib.hid (row_next hb R.out); replace Z := Go.Lib.hid (row_next hb Z.out); replace hB := Go.Lib.hid (below_next hB.out hb); clear hb ))
    | (refine list_at 17 rfl ?_; intro W hW; rw [hW] at hB P R Z; clear hW; have P' := Go.Lib.hid (cls_row' P.out); have R' := Go.Lib.hid (cls_row' R.out); have Z' := Go.Lib.hid (cls_row' Z.out); (repeat (first | go_big_quiet_skip | (refine wpQuiet_load1 22 _ rfl (by first | exact want_n rfl | exact want_g _ _ _ rfl rfl rfl) (w.heap.size) _ rfl 266 s.at _ rw_i8 P'.out (by omega) ?_; (first | rw [Sh.at_0] | rw [Sh.at_1]); simp only [Act.put, List.setIfInBounds_toArray, List.set_cons_succ, List.set_cons_zero]) | (refine wpQuiet_load1 22 _ rfl (by first | exact want_n rfl | exact want_g _ _ _ rfl rfl rfl) (w.heap.size + 1) _ rfl 2 (spAt x y) _ rw_i8 R'.out (by omega) ?_; (first | rw [spAt_0] | rw [spAt_1]); simp only [Act.put, List.setIfInBounds_toArray, List.set_cons_succ, List.set_cons_zero]) | (refine wpQuiet_loadmid 38 _ rfl (by first | exact want_n rfl | exact want_g _ _ _ rfl rfl rfl) (w.heap.size + 1) _ rfl 2 2 (spAt x y) _ rw_spot size_spot R'.out (by omega) ?_; rw [sp_row]; simp only [Act.put, List.setIfInBounds_toArray, List.set_cons_succ, List.set_cons_zero]) | go_big_quiet_step (first | (go_at_call 52; first | with_reducible exact cls_call _ (fun w hw => HN.out w) | with_reducible exact cls_call _ (fun w hw => HM.out w)) | (go_at_call 42; exact cls_call _ (fun w hw => HA.out _ w (row_next hw P.out)))))); refine wpQuiet_nil ?_; intro Wn hb; replace P := Go.Lib.hid (row_next hb P.out); replace R := Go.Lib.hid (row_next hb R.out); replace Z := Go.Lib.hid (row_next hb Z.out); replace hB := Go.Lib.hid (below_next hB.out hb); clear hb P' R' Z')
    | (refine list_at 35 rfl ?_; intro W hW; rw [hW] at hB P R Z; clear hW; have P' := Go.Lib.hid (cls_row' P.out); have R' := Go.Lib.hid (cls_row' R.out); have Z' := Go.Lib.hid (cls_row' Z.out); (repeat (first | go_big_quiet_skip | (refine wpQuiet_load1 22 _ rfl (by first | exact want_n rfl | exact want_g _ _ _ rfl rfl rfl) (w.heap.size) _ rfl 266 s.at _ rw_i8 P'.out (by omega) ?_; (first | rw [Sh.at_0] | rw [Sh.at_1]); simp only [Act.put, List.setIfInBounds_toArray, List.set_cons_succ, List.set_cons_zero]) | (refine wpQuiet_load1 22 _ rfl (by first | exact want_n rfl | exact want_g _ _ _ rfl rfl rfl) (w.heap.size + 1) _ rfl 2 (spAt x y) _ rw_i8 R'.out (by omega) ?_; (first | rw [spAt_0] | rw [spAt_1]); simp only [Act.put, List.setIfInBounds_toArray, List.set_cons_succ, List.set_cons_zero]) | (refine wpQuiet_loadmid 38 _ rfl (by first | exact want_n rfl | exact want_g _ _ _ rfl rfl rfl) (w.heap.size + 1) _ rfl 2 2 (spAt x y) _ rw_spot size_spot R'.out (by omega) ?_; rw [sp_row]; simp only [Act.put, List.setIfInBounds_toArray, List.set_cons_succ, List.set_cons_zero]) | go_big_quiet_step (first | (go_at_call 52; first | with_reducible exact cls_call _ (fun w hw => HN.out w) | with_reducible exact cls_call _ (fun w hw => HM.out w)) | (go_at_call 42; exact cls_call _ (fun w hw => HA.out _ w (row_next hw P.out)))))); refine wpQuiet_nil ?_; intro Wn hb; replace P := Go.Lib.hid (row_next hb P.out); replace R := Go.Lib.hid (row_next hb R.out); replace Z := Go.Lib.hid (row_next hb Z.out); replace hB := Go.Lib.hid (below_next hB.out hb); clear hb P' R' Z'))
  obtain ⟨wo, hwo⟩ : ∃ wo : World, wo = w2 := ⟨_, rfl⟩
  rw [← hwo] at P R Z V hB O ⊢
  clear hwo w2
  go_loopw [14] (fun iv wr => ∃ k : Nat, k ≤ L.length ∧ iv = .int .i64 k ∧ wr.heap[mb]? = some (.cells (vrow 266 (arrS s (fun i j => x + i) (fun i j => y + j) (plainSh a c) ((L.take k).map (·.1))).at) 36) ∧ wr.heap[g]? = some (.cells (vrow (cap * 2) f) 38) ∧ wr.heap[w.heap.size]? = some (.cells (vrow 266 s.at) 36) ∧ wr.heap[w.heap.size + 1]? = some (.cells (vrow 2 (spAt x y)) 38) ∧ wr.heap[w.heap.size + 2]? = some (.cells (vrow 266 Sh.zero.at) 36) ∧ Below w.heap.size w wr) (fun iv _ => L.length - (intOf iv).toNat)
  case atStart => exact ⟨0, by omega, rfl, V.out, O.out, P.out, R.out, Z.out, hB.out⟩
  case round =>
    clear V O P R Z hB
    obtain ⟨k, hk, rfl, V, O, P, R, Z, hB⟩ := hrel
    have hsz3 := hB.size
    by_cases hlt : k < L.length
    · have hf2 := HF.out k hlt
      obtain ⟨⟨⟨i, j⟩, hi, hj⟩, hp⟩ : ∃ p, L[k]'hlt = p := ⟨_, rfl⟩
      have hin := hmem _ (List.getElem_mem hlt)
      have hap : arrS s (fun i j => x + i) (fun i j => y + j) (plainSh a c) ((L.take (k + 1)).map (·.1)) = copyS s (arrS s (fun i j => x + i) (fun i j => y + j) (plainSh a c) ((L.take k).map (·.1))) i j (x + i) (y + j) := by
        rw [List.take_succ_eq_append_getElem hlt, hp]
        simp [arrS, List.foldl_append]
      rw [hp] at hf2 hin
      clear hp
      replace hi : i < 8 := hi
      replace hj : j < 8 := hj
      obtain ⟨hia, hjc⟩ : i < a ∧ j < c := hin
      obtain ⟨fx0, fx1⟩ : f (k * 2) = .int .i8 i ∧ f (k * 2 + 1) = .int .i8 j := hf2
      have hR : vrow 2 (fun q => f (k * 2 + q)) = vrow 2 (spAt i j) := vrow_ext _ _ _ fun q hq => by
        have hq2 : q = 0 ∨ q = 1 := by omega
        rcases hq2 with rfl | rfl
        · rw [Nat.add_zero, fx0]; rfl
        · rw [fx1]; rfl
      have HR := Go.Lib.hid hR; have hap := Go.Lib.hid hap; have F0 := Go.Lib.hid fx0; have F1 := Go.Lib.hid fx1
      clear hR fx0 fx1
      generalize (arrS s (fun i j => x + i) (fun i j => y + j) (plainSh a c) ((L.take k).map (·.1))) = T at *
      have hCC := Go.Lib.hid fun w0 (hs : w0.heap[w.heap.size]? = some (.cells (vrow 266 s.at) 36)) (ht : w0.heap[mb]? = some (.cells (vrow 266 T.at) 36)) => copyC s T w.heap.size mb i j (x + i) (y + j) w0 (by omega) hs ht hi hj (by omega) (by omega)
      have hw1i : ((x + i : Nat) : Int) = (x : Int) + i := by omega
      have hw2i : ((y + j : Nat) : Int) = (y : Int) + j := by omega
      rw [hw1i, hw2i] at hCC
      replace P := Go.Lib.hid P; replace R := Go.Lib.hid R; replace O := Go.Lib.hid O; replace Z := Go.Lib.hid Z; replace V := Go.Lib.hid V; replace hB := Go.Lib.hid hB
      have hkI : (k : Int) < (L.length : Int) := by omega
      have hk0 : (0 : Int) ≤ (k : Int) := by omega
      have hkd : decide ((k : Int) < (L.length : Int)) = true := by simpa using hkI
      clear hw1i hw2i
      go_wp2
      refine wp_region_still_tail 21 (by kernel_rfl) (by kernel_rfl) ?_
      simp only [List.take_succ_cons, List.take_zero, List.drop_succ_cons, List.drop_zero, World.drew_eq]
      repeat (first
        | (refine wpStill_loadmid rfl 38 (.tmp 56) rfl g (k * 2) rfl (cap * 2) 2 f 38 _ Tryd.underlying38 rfl size_spot O.out (by omega) ?_; rw [HR.out]; simp only [Act.put, List.setIfInBounds_toArray, List.set_cons_succ, List.set_cons_zero])
        | (refine wpStill_load1 rfl 22 (.tmp 58) rfl (w.heap.size + 1) 0 rfl 2 (spAt x y) _ _ Tryd.underlying22 rfl R.out (by omega) ?_; rw [spAt_0]; simp only [Act.put, List.setIfInBounds_toArray, List.set_cons_succ, List.set_cons_zero])
        | (refine wpStill_load1 rfl 22 (.tmp 63) rfl g (k * 2) rfl (cap * 2) f _ _ Tryd.underlying22 rfl O.out (by omega) ?_; rw [F0.out]; simp only [Act.put, List.setIfInBounds_toArray, List.set_cons_succ, List.set_cons_zero])
        | (refine wpStill_load1 rfl 22 (.tmp 66) rfl (w.heap.size + 1) 1 rfl 2 (spAt x y) _ _ Tryd.underlying22 rfl R.out (by omega) ?_; rw [spAt_1]; simp only [Act.put, List.setIfInBounds_toArray, List.set_cons_succ, List.set_cons_zero])
        | (refine wpStill_load1 rfl 22 (.tmp 71) rfl g (k * 2 + 1) rfl (cap * 2) f _ _ Tryd.underlying22 rfl O.out (by omega) ?_; rw [F1.out]; simp only [Act.put, List.setIfInBounds_toArray, List.set_cons_succ, List.set_cons_zero])
        | still_step
        | (refine wpStill_step (fun K hK => ?_); go_simp; simp only [hkI, hk0, if_true]; go_simp; refine hK _ ?_; clear hK K))
      refine wpStill_nil ?_
      go_wp2_with (first
        | (go_at_call 71; (refine (hCC.out _ (by exact P.out) (by exact V.out)).mono ?_; rintro e w3 ⟨⟨r, rfl⟩, hg3, hM3⟩)))
      have P3 : w3.heap[w.heap.size]? = some (.cells (vrow 266 s.at) 36) := (hg3.block w.heap.size (by have := row_lt P.out; simpa using this) (by simp; omega)).trans P.out
      have R3 : w3.heap[w.heap.size + 1]? = some (.cells (vrow 2 (spAt x y)) 38) := (hg3.block (w.heap.size + 1) (by have := row_lt R.out; simpa using this) (by simp; omega)).trans R.out
      have O3 : w3.heap[g]? = some (.cells (vrow (cap * 2) f) 38) := (hg3.block g (by have := row_lt O.out; simpa using this) (by simp; omega)).trans O.out
      have Z3 : w3.heap[w.heap.size + 2]? = some (.cells (vrow 266 Sh.zero.at) 36) := (hg3.block (w.heap.size + 2) (by have := row_lt Z.out; simpa using this) (by simp; omega)).trans Z.out
      have B3 : Below w.heap.size w w3 := hB.out.drew.grown hg3 (by simpa using hsz3) (fun q hq => by cases hq; omega)
      go_roundw
      case rel => exact ⟨k + 1, by omega, by go_num, by rw [hap.out]; exact hM3, O3, P3, R3, Z3, B3⟩
      case measure => simp [intOf]; omega
    · obtain rfl : k = L.length := by omega
      rw [List.take_length, hval] at V
      have hkd : decide ((L.length : Int) < (L.length : Int)) = false := by simp
      replace O := Go.Lib.hid O; replace Z := Go.Lib.hid Z; replace V := Go.Lib.hid V; replace hB := Go.Lib.hid hB
      clear P R
      go_wp2_with (first
        | (refine wpList_loadall rfl 36 (.tmp 12) rfl _ rfl 266 (arrS s (fun i j => x + i) (fun i j => y + j) (plainSh a c) (pairsL a c)).at 36 _ Tryd.underlying36 rfl size_sheet V.out ?_)
        | (refine wpList_storeall rfl 36 (.tmp 8) (.tmp 76) rfl (w.heap.size + 2) rfl 266 Sh.zero.at (arrS s (fun i j => x + i) (fun i j => y + j) (plainSh a c) (pairsL a c)).at rfl 36 size_sheet Z.out (fun i _ => Sh.one _ i) ?_; replace Z := Go.Lib.hid (row_set Z.out (vrow 266 (arrS s (fun i j => x + i) (fun i j => y + j) (plainSh a c) (pairsL a c)).at)); replace hB := Go.Lib.hid (Below_setRow hB.out (show w.heap.size ≤ w.heap.size + 2 by omega) (vrow 266 (arrS s (fun i j => x + i) (fun i j => y + j) (plainSh a c) (pairsL a c)).at))))
      exact ret_row2 Tryd.results40 (w.heap.size + 2) 266 (arrS s (fun i j => x + i) (fun i j => y + j) (plainSh a c) (pairsL a c)).at 36 _ Tryd.underlying36 rfl size_sheet (.int .i64 0) rfl rfl rfl Z.out ⟨rfl, hB.out⟩
end Go.Proofs.YtfdjlflnhhiecaaDoor
