import Derived.Test.YtlbafaedmagmfaaDoorPCntI
import Derived.Test.YtlbafaedmagmfaaDoorPicV
namespace Go.Proofs.YtlbafaedmagmfaaDoor
open Go.RowKit
set_option maxRecDepth 100000
set_option linter.unusedVariables false
set_option linter.unusedSimpArgs false
def offF (o : Nat → Bool) : Nat → Value := fun i => .bool (o i)
theorem offF_at (o : Nat → Bool) (k i : Nat) (h : k = i) : offF o k = .bool (o i) := by rw [h]; rfl
/-- how many cells show ink and are not off -/
def lft (p : Pic) (o : Nat → Bool) (l : List Sp8) : Nat := l.countP fun q => decide (0 < p.ink (8 * q.1.2 + q.1.1)) && !o (8 * q.1.2 + q.1.1)
theorem lft_app (p : Pic) (o : Nat → Bool) (l : List Sp8) (q : Sp8) : lft p o (l ++ [q]) = lft p o l + if decide (0 < p.ink (8 * q.1.2 + q.1.1)) && !o (8 * q.1.2 + q.1.1) then 1 else 0 := by
  simp only [lft, List.countP_append, List.countP_cons, List.countP_nil, Nat.zero_add]
theorem lft_le (p : Pic) (o : Nat → Bool) (l : List Sp8) : lft p o l ≤ l.length := List.countP_le_length
set_option maxRecDepth 100000 in
set_option maxHeartbeats 4000000 in
theorem lleft_any (p : Pic) (o : Nat → Bool) (b bo a c : Nat) (w : World) (hs : w.heap[b]? = some (.cells p.row 72)) (ho : w.heap[bo]? = some (.cells (vrow 64 (offF o)) 138)) (ea : p.wide = a) (ec : p.high = c) (ha : 1 ≤ a ∧ a ≤ 8) (hc : 1 ≤ c ∧ c ≤ 8) : Calls Tryd.prog 101 #[.pointer (some ⟨b, 0, none⟩), .pointer (some ⟨bo, 0, none⟩)] w fun e w' => e = .returned (.int .i64 (lft p o (cellsL a c))) ∧ Below w.heap.size w w' := by
  have hLn : (cellsL a c).length = a * c := cellsL_length a c
  have hac : 1 ≤ (cellsL a c).length ∧ (cellsL a c).length ≤ 64 := by rw [hLn]; exact ⟨Nat.mul_le_mul ha.1 hc.1, Nat.mul_le_mul ha.2 hc.2⟩
  have HSp := Go.Lib.hid fun w hs => pspots_any p b a c w hs ea ec ha.2 hc.2
  generalize (cellsL a c) = L at *
  have hbl := row_lt hs
  have P := Go.Lib.hid hs
  have O := Go.Lib.hid ho
  have hB := Go.Lib.hid (Below.refl w.heap.size w)
  clear hLn hs ho ea ec
  go_enter Tryd.func101, Tryd.ntmps101
  go_wp2_with (first
    | go_skip
    | (go_at_call 150; (refine (HSp.out _ P.out).mono ?_; rintro e w2 ⟨v, rfl, hO, hb⟩; replace P := Go.Lib.hid (row_next hb P.out); replace O := Go.Lib.hid (row_next hb O.out); replace hB := Go.Lib.hid (below_next hB.out hb); obtain ⟨g, cap, f, rfl, hg, hcap, hO2, hf2⟩ := hO.row (by omega); have G := Go.Lib.hid hO2; have HF := Go.Lib.hid hf2; clear hO hO2 hf2 hb)))
  have G0 := G.out; have P0 := P.out; have O0 := O.out; have B0 := hB.out
  go_loopw [5, 7] (fun v iv wr => ∃ k : Nat, k ≤ L.length ∧ iv = .int .i64 k ∧ v = .int .i64 (lft p o (L.take k)) ∧ wr.heap[b]? = some (.cells p.row 72) ∧ wr.heap[bo]? = some (.cells (vrow 64 (offF o)) 138) ∧ wr.heap[g]? = some (.cells (vrow (cap * 2) f) 48) ∧ Below w.heap.size w wr) (fun _ iv _ => L.length - (intOf iv).toNat)
  case atStart => exact ⟨0, by omega, rfl, by simp [lft], P0, O0, G0, B0⟩
  case round =>
    clear O P G hB G0 P0 O0 B0
    obtain ⟨k, hk, rfl, rfl, P, O, G, hB⟩ := hrel
    by_cases hlt : k < L.length
    · have hf2 := HF.out k hlt
      obtain ⟨⟨⟨i, j⟩, hi8, hj8⟩, hp⟩ : ∃ q, L[k]'hlt = q := ⟨_, rfl⟩
      have hap : lft p o (L.take (k + 1)) = lft p o (L.take k) + if decide (0 < p.ink (8 * j + i)) && !o (8 * j + i) then 1 else 0 := by
        rw [List.take_succ_eq_append_getElem hlt, hp, lft_app]
      have hle : lft p o (L.take k) ≤ 64 := Nat.le_trans (lft_le _ _ _) (by rw [List.length_take]; omega)
      rw [hp] at hf2
      clear hp
      replace hi8 : i < 8 := hi8
      replace hj8 : j < 8 := hj8
      obtain ⟨fx0, fx1⟩ : f (k * 2) = .int .i8 i ∧ f (k * 2 + 1) = .int .i8 j := hf2
      have HAP := Go.Lib.hid hap; have FX0 := Go.Lib.hid fx0; have FX1 := Go.Lib.hid fx1
      clear fx0 fx1 hap
      generalize lft p o (L.take k) = M at *
      replace P := Go.Lib.hid P; replace O := Go.Lib.hid O; replace G := Go.Lib.hid G; replace hB := Go.Lib.hid hB
      have hkI : (k : Int) < (L.length : Int) := by omega
      have hk0 : (0 : Int) ≤ (k : Int) := by omega
      have hkd : decide ((k : Int) < (L.length : Int)) = true := by simpa using hkI
      have hiI : (i : Int) < 8 := by omega
      have hjI : (j : Int) < 8 := by omega
      obtain ⟨v, hv⟩ : ∃ v, p.ink (8 * j + i) = v := ⟨_, rfl⟩
      obtain ⟨ob, hob⟩ : ∃ ob, o (8 * j + i) = ob := ⟨_, rfl⟩
      have HV := Go.Lib.hid hv
      have HO := Go.Lib.hid hob
      rw [hv, hob] at HAP
      clear hv hob
      cases hq : decide (0 < v)
      · have HAP2 := Go.Lib.hid (show lft p o (L.take (k + 1)) = M by rw [HAP.out, hq]; rfl)
        have hqg : decide (v > 0) = false := hq
        go_wp2
        refine region_at (by kernel_rfl) (by kernel_rfl) ?_
        intro W hW
        rw [hW] at hB P G O
        clear hW
        have P' := Go.Lib.hid (cls_row' P.out); have G' := Go.Lib.hid (cls_row' G.out); have O' := Go.Lib.hid (cls_row' O.out)
        repeat (first
          | go_big_quiet_skip
          | (refine wpQuiet_load1 5 _ rfl (by first | exact want_n rfl | exact want_g _ _ _ rfl rfl rfl) b _ rfl 66 p.at _ rw_u8 P'.out (by omega) ?_; rw [Pic.at_ink1 _ _ (8 * j + i) (by omega), HV.out]; simp only [Act.put, List.setIfInBounds_toArray, List.set_cons_succ, List.set_cons_zero])
          | (refine wpQuiet_load1 4 _ rfl (by first | exact want_n rfl | exact want_g _ _ _ rfl rfl rfl) bo _ rfl 64 (offF o) _ rw_bool O'.out (by omega) ?_; rw [offF_at _ _ (8 * j + i) (by omega), HO.out]; simp only [Act.put, List.setIfInBounds_toArray, List.set_cons_succ, List.set_cons_zero])
          | (refine wpQuiet_load1 22 _ rfl (by first | exact want_n rfl | exact want_g _ _ _ rfl rfl rfl) g _ rfl (cap * 2) f _ rw_i8 G'.out (by omega) ?_; (first | rw [FX1.out] | rw [FX0.out]); simp only [Act.put, List.setIfInBounds_toArray, List.set_cons_succ, List.set_cons_zero])
          | go_big_quiet_step (fail))
        refine wpQuiet_nil ?_
        intro W2 hb
        replace P := Go.Lib.hid (row_next hb P.out); replace G := Go.Lib.hid (row_next hb G.out); replace O := Go.Lib.hid (row_next hb O.out); replace hB := Go.Lib.hid (below_next hB.out hb)
        clear hb P' G' O'
        go_wp2
        go_roundw
        case rel => exact ⟨k + 1, by omega, by go_num, by rw [HAP2.out], P.out, O.out, G.out, hB.out⟩
        case measure => simp [intOf]; omega
      · cases ob
        · have HAP2 := Go.Lib.hid (show lft p o (L.take (k + 1)) = M + 1 by rw [HAP.out, hq]; rfl)
          have hqg : decide (v > 0) = true := hq
          go_wp2
          refine region_at (by kernel_rfl) (by kernel_rfl) ?_
          intro W hW
          rw [hW] at hB P G O
          clear hW
          have P' := Go.Lib.hid (cls_row' P.out); have G' := Go.Lib.hid (cls_row' G.out); have O' := Go.Lib.hid (cls_row' O.out)
          repeat (first
            | go_big_quiet_skip
            | (refine wpQuiet_load1 5 _ rfl (by first | exact want_n rfl | exact want_g _ _ _ rfl rfl rfl) b _ rfl 66 p.at _ rw_u8 P'.out (by omega) ?_; rw [Pic.at_ink1 _ _ (8 * j + i) (by omega), HV.out]; simp only [Act.put, List.setIfInBounds_toArray, List.set_cons_succ, List.set_cons_zero])
            | (refine wpQuiet_load1 4 _ rfl (by first | exact want_n rfl | exact want_g _ _ _ rfl rfl rfl) bo _ rfl 64 (offF o) _ rw_bool O'.out (by omega) ?_; rw [offF_at _ _ (8 * j + i) (by omega), HO.out]; simp only [Act.put, List.setIfInBounds_toArray, List.set_cons_succ, List.set_cons_zero])
            | (refine wpQuiet_load1 22 _ rfl (by first | exact want_n rfl | exact want_g _ _ _ rfl rfl rfl) g _ rfl (cap * 2) f _ rw_i8 G'.out (by omega) ?_; (first | rw [FX1.out] | rw [FX0.out]); simp only [Act.put, List.setIfInBounds_toArray, List.set_cons_succ, List.set_cons_zero])
            | go_big_quiet_step (fail))
          refine wpQuiet_nil ?_
          intro W2 hb
          replace P := Go.Lib.hid (row_next hb P.out); replace G := Go.Lib.hid (row_next hb G.out); replace O := Go.Lib.hid (row_next hb O.out); replace hB := Go.Lib.hid (below_next hB.out hb)
          clear hb P' G' O'
          go_wp2
          go_roundw
          case rel => exact ⟨k + 1, by omega, by go_num, by rw [HAP2.out]; go_num, P.out, O.out, G.out, hB.out⟩
          case measure => simp [intOf]; omega
        · have HAP2 := Go.Lib.hid (show lft p o (L.take (k + 1)) = M by rw [HAP.out, hq]; rfl)
          have hqg : decide (v > 0) = true := hq
          go_wp2
          refine region_at (by kernel_rfl) (by kernel_rfl) ?_
          intro W hW
          rw [hW] at hB P G O
          clear hW
          have P' := Go.Lib.hid (cls_row' P.out); have G' := Go.Lib.hid (cls_row' G.out); have O' := Go.Lib.hid (cls_row' O.out)
          repeat (first
            | go_big_quiet_skip
            | (refine wpQuiet_load1 5 _ rfl (by first | exact want_n rfl | exact want_g _ _ _ rfl rfl rfl) b _ rfl 66 p.at _ rw_u8 P'.out (by omega) ?_; rw [Pic.at_ink1 _ _ (8 * j + i) (by omega), HV.out]; simp only [Act.put, List.setIfInBounds_toArray, List.set_cons_succ, List.set_cons_zero])
            | (refine wpQuiet_load1 4 _ rfl (by first | exact want_n rfl | exact want_g _ _ _ rfl rfl rfl) bo _ rfl 64 (offF o) _ rw_bool O'.out (by omega) ?_; rw [offF_at _ _ (8 * j + i) (by omega), HO.out]; simp only [Act.put, List.setIfInBounds_toArray, List.set_cons_succ, List.set_cons_zero])
            | (refine wpQuiet_load1 22 _ rfl (by first | exact want_n rfl | exact want_g _ _ _ rfl rfl rfl) g _ rfl (cap * 2) f _ rw_i8 G'.out (by omega) ?_; (first | rw [FX1.out] | rw [FX0.out]); simp only [Act.put, List.setIfInBounds_toArray, List.set_cons_succ, List.set_cons_zero])
            | go_big_quiet_step (fail))
          refine wpQuiet_nil ?_
          intro W2 hb
          replace P := Go.Lib.hid (row_next hb P.out); replace G := Go.Lib.hid (row_next hb G.out); replace O := Go.Lib.hid (row_next hb O.out); replace hB := Go.Lib.hid (below_next hB.out hb)
          clear hb P' G' O'
          go_wp2
          go_roundw
          case rel => exact ⟨k + 1, by omega, by go_num, by rw [HAP2.out], P.out, O.out, G.out, hB.out⟩
          case measure => simp [intOf]; omega
    · obtain rfl : k = L.length := by omega
      have HT := Go.Lib.hid (show lft p o (L.take L.length) = lft p o L by rw [List.take_length])
      rw [HT.out]
      have hkd : decide ((L.length : Int) < (L.length : Int)) = false := by simp
      replace hB := Go.Lib.hid hB
      go_wp2
      go_ret
      exact ⟨rfl, hB.out⟩
def mx (x y : Int) : Int := if y < x then x else y
theorem lmax_any (x y : Int) (w : World) : Calls Tryd.prog 102 #[.int .i64 x, .int .i64 y] w fun e w' => e = .returned (.int .i64 (mx x y)) ∧ Below w.heap.size w w' := by
  cases h : decide (y < x)
  · have h2 : decide (x > y) = false := h
    have h3 : ¬ (y < x) := by simpa using h
    unfold mx; rw [if_neg h3]
    go_enter Tryd.func102, Tryd.ntmps102
    go_wp2
    go_ret
    exact ⟨rfl, Below.refl _ _⟩
  · have h2 : decide (x > y) = true := h
    have h3 : y < x := by simpa using h
    unfold mx; rw [if_pos h3]
    go_enter Tryd.func102, Tryd.ntmps102
    go_wp2
    go_ret
    exact ⟨rfl, Below.refl _ _⟩
end Go.Proofs.YtlbafaedmagmfaaDoor
