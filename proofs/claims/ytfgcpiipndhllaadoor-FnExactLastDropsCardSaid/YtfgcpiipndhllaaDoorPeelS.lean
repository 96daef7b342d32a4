import Derived.Test.YtfgcpiipndhllaaDoorPG
import Derived.Test.YtfgcpiipndhllaaDoorOffF
import Derived.Test.YtfgcpiipndhllaaDoorCov
namespace Go.Proofs.YtfgcpiipndhllaaDoor
open Go.RowKit
set_option maxRecDepth 100000
set_option linter.unusedVariables false
set_option linter.unusedSimpArgs false
/-- the picture whose open cells show 4 -/
def comb (p : Pic) (op : Nat → Bool) : Pic := ⟨p.wide, p.high, fun i => if op i then 4 else p.ink i⟩
set_option maxRecDepth 100000 in
set_option maxHeartbeats 4000000 in
theorem lpeels_any (p : Pic) (op : Nat → Bool) (b bo a c x y n : Nat) (w : World) (hs : w.heap[b]? = some (.cells (vrow 66 p.at) 61)) (ho : w.heap[bo]? = some (.cells (vrow 64 (offF op)) 153)) (hf : p.fit) (hk4 : ∀ i, i < 64 → 0 ≤ p.ink i ∧ p.ink i ≤ 3) (ea : p.wide = a) (ec : p.high = c) (ha : a ≤ 8) (hc : c ≤ 8) (hx : x < 8) (hy : y < 8) (hn : n ≤ 2) :
    Calls Tryd.prog 93 #[.pointer (some ⟨b, 0, none⟩), .pointer (some ⟨bo, 0, none⟩), .agg (vrow 3 (drAt x y n))] w fun e w' => e = .returned (.bool (lpP (comb p op) n (cov a c x y))) ∧ Below w.heap.size w w' := by
  have HCV := Go.Lib.hid fun w hs => lcov_any p b a c x y w hs hf ea ec ha hc hx hy
  have hcl : (cov a c x y).length ≤ 5 := covT_len _ _ _ _ _
  generalize cov a c x y = L at *
  have P : Hid ((w.alloc (.cells (vrow 3 (drAt x y n)) 66)).heap[b]? = some (.cells (vrow 66 p.at) 61)) := heap_past _ _ _ _ (row_lt hs) hs
  have O : Hid ((w.alloc (.cells (vrow 3 (drAt x y n)) 66)).heap[bo]? = some (.cells (vrow 64 (offF op)) 153)) := heap_past _ _ _ _ (row_lt ho) ho
  have R : Hid ((w.alloc (.cells (vrow 3 (drAt x y n)) 66)).heap[w.heap.size]? = some (.cells (vrow 3 (drAt x y n)) 66)) := (heap_at _ _ _ (by simp))
  have hB : Hid (Below w.heap.size w (w.alloc (.cells (vrow 3 (drAt x y n)) 66))) := Go.Lib.hid ((Below.refl w.heap.size w).alloc (by simp <;> omega) _)
  clear ea ec hs ho
  go_enter Tryd.func93, Tryd.ntmps93
  go_wp2_with (first
    | go_skip
    | ((with_reducible refine wlAt 12 rfl ?_); refine wpList_ldm 33 _ rfl (by first | exact want_n rfl | exact want_g _ _ _ rfl rfl rfl) w.heap.size _ rfl 3 2 (drAt x y n) _ rw_spot size_spot R.out (by omega) ?_; rw [dr_spot])
    | (go_at_call 136; (refine (HCV.out _ P.out).mono ?_); rintro o w1 ⟨v, rfl, hO, hb⟩; replace P := Go.Lib.hid (row_next hb P.out); replace O := Go.Lib.hid (row_next hb O.out); replace R := Go.Lib.hid (row_next hb R.out); replace hB := Go.Lib.hid (below_next hB.out hb); clear hb; obtain ⟨ao, cc, rfl, hr⟩ := own_po hO; clear hO))
  have P0 := P.out; have R0 := R.out; have O0 := O.out; have B0 := hB.out
  clear P R O hB HCV
  go_loopw [8, 9] (fun fr iv wr => ∃ k : Nat, k ≤ L.length ∧ iv = .int .i64 k ∧ fr = .bool (lpB (comb p op) (L.take k)) ∧ lpA (comb p op) n (L.take k) = true ∧ wr.heap[b]? = some (.cells (vrow 66 p.at) 61) ∧ wr.heap[bo]? = some (.cells (vrow 64 (offF op)) 153) ∧ wr.heap[w.heap.size]? = some (.cells (vrow 3 (drAt x y n)) 66) ∧ (∀ (g : Nat) X, w1.heap[g]? = some X → wr.heap[g]? = some X) ∧ Below w.heap.size w wr) (fun _ iv _ => L.length - (intOf iv).toNat)
  case atStart => exact ⟨0, by omega, rfl, rfl, rfl, P0, O0, R0, fun _ _ h => h, B0⟩
  case round =>
    clear P0 R0 O0 B0
    obtain ⟨k, hk, rfl, rfl, hA, P, O, R, hKp, hB⟩ := hrel
    by_cases hlt : k < L.length
    · rcases hr with h0 | ⟨g, N, f, rfl, hg, hN, hrow, hf2⟩
      · omega
      have G := Go.Lib.hid (hKp g _ hrow)
      have hv := hf2 k hlt
      obtain ⟨⟨⟨i, j⟩, hi8, hj8⟩, hp⟩ : ∃ q, L[k]'hlt = q := ⟨_, rfl⟩
      have hapA := lpA_app (comb p op) n (L.take k) ⟨(i, j), hi8, hj8⟩
      have hapB := lpB_app (comb p op) (L.take k) ⟨(i, j), hi8, hj8⟩
      have htk : L.take (k + 1) = L.take k ++ [⟨(i, j), hi8, hj8⟩] := by rw [List.take_succ_eq_append_getElem hlt, hp]
      rw [← htk] at hapA hapB
      have hik : inkQ (comb p op) ⟨(i, j), hi8, hj8⟩ = if op (8 * j + i) then 4 else p.ink (8 * j + i) := rfl
      rw [hik] at hapA hapB
      rw [hA, Bool.true_and] at hapA
      have hwhole : lpA (comb p op) n (L.take (k + 1)) = false → lpP (comb p op) n L = false := fun h => by
        have hsub : ∀ q ∈ L.take (k + 1), q ∈ L := fun q hq => List.mem_of_mem_take hq
        unfold lpP
        have : lpA (comb p op) n L = false := by
          cases hc2 : lpA (comb p op) n L
          · rfl
          · unfold lpA at hc2 h
            rw [List.all_eq_true] at hc2
            rw [List.all_eq_false] at h
            obtain ⟨q, hq, hq2⟩ := h
            exact absurd (hc2 q (hsub q hq)) hq2
        rw [this, Bool.false_and]
      have fx0 : f (k * 2) = .int .i8 i := by
        have := congrArg (fun q : Array Value => q[0]?) hv
        simpa [vrow, spAt, lx, hlt, hp] using this
      have fx1 : f (k * 2 + 1) = .int .i8 j := by
        have := congrArg (fun q : Array Value => q[1]?) hv
        simpa [vrow, spAt, ly, hlt, hp] using this
      replace hi8 : i < 8 := hi8
      replace hj8 : j < 8 := hj8
      have hvr := hk4 (8 * j + i) (by omega)
      have FX0 := Go.Lib.hid fx0; have FX1 := Go.Lib.hid fx1
      clear fx0 fx1 hv hf2 hp hrow htk hik
      obtain ⟨vk, hvk⟩ : ∃ vk, p.ink (8 * j + i) = vk := ⟨_, rfl⟩
      obtain ⟨ob, hob⟩ : ∃ ob, op (8 * j + i) = ob := ⟨_, rfl⟩
      rw [hvk, hob] at hapA hapB
      rw [hvk] at hvr
      have HV := Go.Lib.hid hvk; have HO := Go.Lib.hid hob
      clear hvk hob
      obtain ⟨B1, hB1⟩ : ∃ B1, lpB (comb p op) (L.take k) = B1 := ⟨_, rfl⟩
      rw [hB1] at hapB ⊢
      clear hB1
      replace P := Go.Lib.hid P; replace R := Go.Lib.hid R; replace O := Go.Lib.hid O; replace hB := Go.Lib.hid hB; replace hKp := Go.Lib.hid hKp
      have hkI : (k : Int) < (L.length : Int) := by omega
      have hk0 : (0 : Int) ≤ (k : Int) := by omega
      have hkd : decide ((k : Int) < (L.length : Int)) = true := by simpa using hkI
      have hiI : (i : Int) < 8 := by omega
      have hjI : (j : Int) < 8 := by omega
      have hnI : (n : Int) ≤ 2 := by omega
      have hu8 : IntKind.u8.wrap ((n : Int) + 1) = (n : Int) + 1 := IntWalk.u8_in _ (by omega)
      cases ob
      · simp only [Bool.false_eq_true, if_false] at hapA hapB
        by_cases hq : vk = (n : Int) + 1
        · have hA2 := Go.Lib.hid (show lpA (comb p op) n (L.take (k + 1)) = true by rw [hapA, decide_eq_true hq]; simp)
          have hB2 := Go.Lib.hid (show lpB (comb p op) (L.take (k + 1)) = true by rw [hapB, decide_eq_false (by omega)]; simp)
          have hqd : (decide (vk = (n : Int) + 1)) = true := by simpa using hq
          clear hapA hapB hwhole hA
          subst hq
          go_wp2
          refine region_at (by kernel_rfl) (by kernel_rfl) ?_
          intro W hW
          rw [hW] at hB P G O R hKp
          clear hW
          have P' := Go.Lib.hid (cls_row' P.out); have G' := Go.Lib.hid (cls_row' G.out); have O' := Go.Lib.hid (cls_row' O.out); have R' := Go.Lib.hid (cls_row' R.out)
          (repeat (first
            | go_big_quiet_skip
            | (refine wpQuiet_load1 5 _ rfl (by first | exact want_n rfl | exact want_g _ _ _ rfl rfl rfl) b _ rfl 66 p.at _ rw_u8 P'.out (by omega) ?_; rw [Pic.at_ink1 _ _ (8 * j + i) (by omega), HV.out]; simp only [Act.put, List.setIfInBounds_toArray, List.set_cons_succ, List.set_cons_zero])
            | (refine wpQuiet_load1 5 _ rfl (by first | exact want_n rfl | exact want_g _ _ _ rfl rfl rfl) w.heap.size 2 rfl 3 (drAt x y n) _ rw_u8 R'.out (by omega) ?_; rw [drAt_2]; simp only [Act.put, List.setIfInBounds_toArray, List.set_cons_succ, List.set_cons_zero])
            | (refine wpQuiet_load1 4 _ rfl (by first | exact want_n rfl | exact want_g _ _ _ rfl rfl rfl) bo _ rfl 64 (offF op) _ rw_bool O'.out (by omega) ?_; rw [offF_at _ _ (8 * j + i) (by omega), HO.out]; simp only [Act.put, List.setIfInBounds_toArray, List.set_cons_succ, List.set_cons_zero])
            | (refine wpQuiet_load1 22 _ rfl (by first | exact want_n rfl | exact want_g _ _ _ rfl rfl rfl) g _ rfl N f _ rw_i8 G'.out (by omega) ?_; (first | rw [FX1.out] | rw [FX0.out]); simp only [Act.put, List.setIfInBounds_toArray, List.set_cons_succ, List.set_cons_zero])
            | go_big_quiet_step (fail)))
          refine wpQuiet_nil ?_
          intro W2 hb
          replace P := Go.Lib.hid (row_next hb P.out); replace G := Go.Lib.hid (row_next hb G.out); replace O := Go.Lib.hid (row_next hb O.out); replace R := Go.Lib.hid (row_next hb R.out); replace hB := Go.Lib.hid (below_next hB.out hb); replace hKp := Go.Lib.hid (fun (g : Nat) X (h : w1.heap[g]? = some X) => row_next hb (hKp.out g X h))
          clear hb P' G' O' R'
          go_wp2
          refine region_at (by kernel_rfl) (by kernel_rfl) ?_
          intro W hW
          rw [hW] at hB P G O R hKp
          clear hW
          have P' := Go.Lib.hid (cls_row' P.out); have G' := Go.Lib.hid (cls_row' G.out); have O' := Go.Lib.hid (cls_row' O.out); have R' := Go.Lib.hid (cls_row' R.out)
          (repeat (first
            | go_big_quiet_skip
            | (refine wpQuiet_load1 5 _ rfl (by first | exact want_n rfl | exact want_g _ _ _ rfl rfl rfl) b _ rfl 66 p.at _ rw_u8 P'.out (by omega) ?_; rw [Pic.at_ink1 _ _ (8 * j + i) (by omega), HV.out]; simp only [Act.put, List.setIfInBounds_toArray, List.set_cons_succ, List.set_cons_zero])
            | (refine wpQuiet_load1 5 _ rfl (by first | exact want_n rfl | exact want_g _ _ _ rfl rfl rfl) w.heap.size 2 rfl 3 (drAt x y n) _ rw_u8 R'.out (by omega) ?_; rw [drAt_2]; simp only [Act.put, List.setIfInBounds_toArray, List.set_cons_succ, List.set_cons_zero])
            | (refine wpQuiet_load1 4 _ rfl (by first | exact want_n rfl | exact want_g _ _ _ rfl rfl rfl) bo _ rfl 64 (offF op) _ rw_bool O'.out (by omega) ?_; rw [offF_at _ _ (8 * j + i) (by omega), HO.out]; simp only [Act.put, List.setIfInBounds_toArray, List.set_cons_succ, List.set_cons_zero])
            | (refine wpQuiet_load1 22 _ rfl (by first | exact want_n rfl | exact want_g _ _ _ rfl rfl rfl) g _ rfl N f _ rw_i8 G'.out (by omega) ?_; (first | rw [FX1.out] | rw [FX0.out]); simp only [Act.put, List.setIfInBounds_toArray, List.set_cons_succ, List.set_cons_zero])
            | go_big_quiet_step (fail)))
          refine wpQuiet_nil ?_
          intro W2 hb
          replace P := Go.Lib.hid (row_next hb P.out); replace G := Go.Lib.hid (row_next hb G.out); replace O := Go.Lib.hid (row_next hb O.out); replace R := Go.Lib.hid (row_next hb R.out); replace hB := Go.Lib.hid (below_next hB.out hb); replace hKp := Go.Lib.hid (fun (g : Nat) X (h : w1.heap[g]? = some X) => row_next hb (hKp.out g X h))
          clear hb P' G' O' R'
          go_wp2
          go_roundw
          case rel => exact ⟨k + 1, by omega, by go_num, by rw [hB2.out], hA2.out, P.out, O.out, R.out, hKp.out, hB.out⟩
          case measure => simp [intOf]; omega
        · have hno := Go.Lib.hid (hwhole (by rw [hapA, decide_eq_false hq, decide_eq_false (by omega)]; rfl))
          have hqd : (decide (vk = (n : Int) + 1)) = false := by simpa using hq
          clear hapA hapB hwhole hA
          go_wp2
          refine region_at (by kernel_rfl) (by kernel_rfl) ?_
          intro W hW
          rw [hW] at hB P G O R hKp
          clear hW
          have P' := Go.Lib.hid (cls_row' P.out); have G' := Go.Lib.hid (cls_row' G.out); have O' := Go.Lib.hid (cls_row' O.out); have R' := Go.Lib.hid (cls_row' R.out)
          (repeat (first
            | go_big_quiet_skip
            | (refine wpQuiet_load1 5 _ rfl (by first | exact want_n rfl | exact want_g _ _ _ rfl rfl rfl) b _ rfl 66 p.at _ rw_u8 P'.out (by omega) ?_; rw [Pic.at_ink1 _ _ (8 * j + i) (by omega), HV.out]; simp only [Act.put, List.setIfInBounds_toArray, List.set_cons_succ, List.set_cons_zero])
            | (refine wpQuiet_load1 5 _ rfl (by first | exact want_n rfl | exact want_g _ _ _ rfl rfl rfl) w.heap.size 2 rfl 3 (drAt x y n) _ rw_u8 R'.out (by omega) ?_; rw [drAt_2]; simp only [Act.put, List.setIfInBounds_toArray, List.set_cons_succ, List.set_cons_zero])
            | (refine wpQuiet_load1 4 _ rfl (by first | exact want_n rfl | exact want_g _ _ _ rfl rfl rfl) bo _ rfl 64 (offF op) _ rw_bool O'.out (by omega) ?_; rw [offF_at _ _ (8 * j + i) (by omega), HO.out]; simp only [Act.put, List.setIfInBounds_toArray, List.set_cons_succ, List.set_cons_zero])
            | (refine wpQuiet_load1 22 _ rfl (by first | exact want_n rfl | exact want_g _ _ _ rfl rfl rfl) g _ rfl N f _ rw_i8 G'.out (by omega) ?_; (first | rw [FX1.out] | rw [FX0.out]); simp only [Act.put, List.setIfInBounds_toArray, List.set_cons_succ, List.set_cons_zero])
            | go_big_quiet_step (fail)))
          refine wpQuiet_nil ?_
          intro W2 hb
          replace P := Go.Lib.hid (row_next hb P.out); replace G := Go.Lib.hid (row_next hb G.out); replace O := Go.Lib.hid (row_next hb O.out); replace R := Go.Lib.hid (row_next hb R.out); replace hB := Go.Lib.hid (below_next hB.out hb); replace hKp := Go.Lib.hid (fun (g : Nat) X (h : w1.heap[g]? = some X) => row_next hb (hKp.out g X h))
          clear hb P' G' O' R'
          go_wp2
          refine region_at (by kernel_rfl) (by kernel_rfl) ?_
          intro W hW
          rw [hW] at hB P G O R hKp
          clear hW
          have P' := Go.Lib.hid (cls_row' P.out); have G' := Go.Lib.hid (cls_row' G.out); have O' := Go.Lib.hid (cls_row' O.out); have R' := Go.Lib.hid (cls_row' R.out)
          (repeat (first
            | go_big_quiet_skip
            | (refine wpQuiet_load1 5 _ rfl (by first | exact want_n rfl | exact want_g _ _ _ rfl rfl rfl) b _ rfl 66 p.at _ rw_u8 P'.out (by omega) ?_; rw [Pic.at_ink1 _ _ (8 * j + i) (by omega), HV.out]; simp only [Act.put, List.setIfInBounds_toArray, List.set_cons_succ, List.set_cons_zero])
            | (refine wpQuiet_load1 5 _ rfl (by first | exact want_n rfl | exact want_g _ _ _ rfl rfl rfl) w.heap.size 2 rfl 3 (drAt x y n) _ rw_u8 R'.out (by omega) ?_; rw [drAt_2]; simp only [Act.put, List.setIfInBounds_toArray, List.set_cons_succ, List.set_cons_zero])
            | (refine wpQuiet_load1 4 _ rfl (by first | exact want_n rfl | exact want_g _ _ _ rfl rfl rfl) bo _ rfl 64 (offF op) _ rw_bool O'.out (by omega) ?_; rw [offF_at _ _ (8 * j + i) (by omega), HO.out]; simp only [Act.put, List.setIfInBounds_toArray, List.set_cons_succ, List.set_cons_zero])
            | (refine wpQuiet_load1 22 _ rfl (by first | exact want_n rfl | exact want_g _ _ _ rfl rfl rfl) g _ rfl N f _ rw_i8 G'.out (by omega) ?_; (first | rw [FX1.out] | rw [FX0.out]); simp only [Act.put, List.setIfInBounds_toArray, List.set_cons_succ, List.set_cons_zero])
            | go_big_quiet_step (fail)))
          refine wpQuiet_nil ?_
          intro W2 hb
          replace P := Go.Lib.hid (row_next hb P.out); replace G := Go.Lib.hid (row_next hb G.out); replace O := Go.Lib.hid (row_next hb O.out); replace R := Go.Lib.hid (row_next hb R.out); replace hB := Go.Lib.hid (below_next hB.out hb); replace hKp := Go.Lib.hid (fun (g : Nat) X (h : w1.heap[g]? = some X) => row_next hb (hKp.out g X h))
          clear hb P' G' O' R'
          go_wp2
          go_ret
          exact ⟨by rw [hno.out]; rfl, hB.out⟩
      · simp only [if_true] at hapA hapB
        have hA2 := Go.Lib.hid (show lpA (comb p op) n (L.take (k + 1)) = true by rw [hapA]; rfl)
        have hB2 := Go.Lib.hid (show lpB (comb p op) (L.take (k + 1)) = B1 by rw [hapB]; simp)
        clear hapA hapB hwhole hA
        go_wp2
        refine region_at (by kernel_rfl) (by kernel_rfl) ?_
        intro W hW
        rw [hW] at hB P G O R hKp
        clear hW
        have P' := Go.Lib.hid (cls_row' P.out); have G' := Go.Lib.hid (cls_row' G.out); have O' := Go.Lib.hid (cls_row' O.out); have R' := Go.Lib.hid (cls_row' R.out)
        (repeat (first
          | go_big_quiet_skip
          | (refine wpQuiet_load1 5 _ rfl (by first | exact want_n rfl | exact want_g _ _ _ rfl rfl rfl) b _ rfl 66 p.at _ rw_u8 P'.out (by omega) ?_; rw [Pic.at_ink1 _ _ (8 * j + i) (by omega), HV.out]; simp only [Act.put, List.setIfInBounds_toArray, List.set_cons_succ, List.set_cons_zero])
          | (refine wpQuiet_load1 5 _ rfl (by first | exact want_n rfl | exact want_g _ _ _ rfl rfl rfl) w.heap.size 2 rfl 3 (drAt x y n) _ rw_u8 R'.out (by omega) ?_; rw [drAt_2]; simp only [Act.put, List.setIfInBounds_toArray, List.set_cons_succ, List.set_cons_zero])
          | (refine wpQuiet_load1 4 _ rfl (by first | exact want_n rfl | exact want_g _ _ _ rfl rfl rfl) bo _ rfl 64 (offF op) _ rw_bool O'.out (by omega) ?_; rw [offF_at _ _ (8 * j + i) (by omega), HO.out]; simp only [Act.put, List.setIfInBounds_toArray, List.set_cons_succ, List.set_cons_zero])
          | (refine wpQuiet_load1 22 _ rfl (by first | exact want_n rfl | exact want_g _ _ _ rfl rfl rfl) g _ rfl N f _ rw_i8 G'.out (by omega) ?_; (first | rw [FX1.out] | rw [FX0.out]); simp only [Act.put, List.setIfInBounds_toArray, List.set_cons_succ, List.set_cons_zero])
          | go_big_quiet_step (fail)))
        refine wpQuiet_nil ?_
        intro W2 hb
        replace P := Go.Lib.hid (row_next hb P.out); replace G := Go.Lib.hid (row_next hb G.out); replace O := Go.Lib.hid (row_next hb O.out); replace R := Go.Lib.hid (row_next hb R.out); replace hB := Go.Lib.hid (below_next hB.out hb); replace hKp := Go.Lib.hid (fun (g : Nat) X (h : w1.heap[g]? = some X) => row_next hb (hKp.out g X h))
        clear hb P' G' O' R'
        go_wp2
        go_roundw
        case rel => exact ⟨k + 1, by omega, by go_num, by rw [hB2.out], hA2.out, P.out, O.out, R.out, hKp.out, hB.out⟩
        case measure => simp [intOf]; omega
    · obtain rfl : k = L.length := by omega
      rw [List.take_length] at hA ⊢
      have HR := Go.Lib.hid (show lpP (comb p op) n L = lpB (comb p op) L by unfold lpP; rw [hA, Bool.true_and])
      have hkd : decide ((L.length : Int) < (L.length : Int)) = false := by simp
      generalize lpB (comb p op) L = B1 at *
      replace hB := Go.Lib.hid hB
      go_wp2
      go_ret
      exact ⟨by rw [HR.out]; rfl, hB.out⟩
end Go.Proofs.YtfgcpiipndhllaaDoor
