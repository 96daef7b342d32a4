import Derived.Test.YtlbafaedmagmfaaDoorPSpots
import Derived.Test.YtlbafaedmagmfaaDoorG1
namespace Go.Proofs.YtlbafaedmagmfaaDoor
open Go.RowKit
set_option maxRecDepth 100000
set_option linter.unusedVariables false
set_option linter.unusedSimpArgs false
/-- how many of the cells have a number -/
def cnt (p : Pic) (k : Int) (l : List Sp8) : Nat := l.countP fun q => p.ink (8 * q.1.2 + q.1.1) == k
theorem cnt_app (p : Pic) (k : Int) (l : List Sp8) (q : Sp8) : cnt p k (l ++ [q]) = cnt p k l + if p.ink (8 * q.1.2 + q.1.1) == k then 1 else 0 := by
  simp only [cnt, List.countP_append, List.countP_cons, List.countP_nil, Nat.zero_add]
theorem cnt_le (p : Pic) (k : Int) (l : List Sp8) : cnt p k l ≤ l.length := List.countP_le_length
set_option maxRecDepth 100000 in
set_option maxHeartbeats 4000000 in
theorem lcount_any (p : Pic) (b a c : Nat) (n : Int) (w : World) (hs : w.heap[b]? = some (.cells p.row 72)) (ea : p.wide = a) (ec : p.high = c) (ha : 1 ≤ a ∧ a ≤ 8) (hc : 1 ≤ c ∧ c ≤ 8) : Calls Tryd.prog 151 #[.pointer (some ⟨b, 0, none⟩), .int .u8 n] w fun e w' => e = .returned (.int .i64 (cnt p n (cellsL a c))) ∧ Below w.heap.size w w' := by
  have hLn : (cellsL a c).length = a * c := cellsL_length a c
  have hac : 1 ≤ (cellsL a c).length ∧ (cellsL a c).length ≤ 64 := by rw [hLn]; exact ⟨Nat.mul_le_mul ha.1 hc.1, Nat.mul_le_mul ha.2 hc.2⟩
  have HSp := Go.Lib.hid fun w hs => pspots_any p b a c w hs ea ec ha.2 hc.2
  generalize (cellsL a c) = L at *
  have hbl := row_lt hs
  have P := Go.Lib.hid hs
  have hB := Go.Lib.hid (Below.refl w.heap.size w)
  clear hLn hs ea ec
  go_enter Tryd.func151, Tryd.ntmps151
  go_wp2_with (first
    | go_skip
    | (go_at_call 150; (refine (HSp.out _ P.out).mono ?_; rintro e w2 ⟨v, rfl, hO, hb⟩; replace P := Go.Lib.hid (row_next hb P.out); replace hB := Go.Lib.hid (below_next hB.out hb); obtain ⟨g, cap, f, rfl, hg, hcap, hO2, hf2⟩ := hO.row (by omega); have O := Go.Lib.hid hO2; have HF := Go.Lib.hid hf2; clear hO hO2 hf2 hb)))
  have G0 := O.out; have P0 := P.out; have B0 := hB.out
  go_loopw [5, 7] (fun v iv wr => ∃ k : Nat, k ≤ L.length ∧ iv = .int .i64 k ∧ v = .int .i64 (cnt p n (L.take k)) ∧ wr.heap[b]? = some (.cells p.row 72) ∧ wr.heap[g]? = some (.cells (vrow (cap * 2) f) 48) ∧ Below w.heap.size w wr) (fun _ iv _ => L.length - (intOf iv).toNat)
  case atStart => exact ⟨0, by omega, rfl, by simp [cnt], P0, G0, B0⟩
  case round =>
    clear O P hB G0 P0 B0
    obtain ⟨k, hk, rfl, rfl, P, G, hB⟩ := hrel
    by_cases hlt : k < L.length
    · have hf2 := HF.out k hlt
      obtain ⟨⟨⟨i, j⟩, hi8, hj8⟩, hp⟩ : ∃ q, L[k]'hlt = q := ⟨_, rfl⟩
      have hap : cnt p n (L.take (k + 1)) = cnt p n (L.take k) + if p.ink (8 * j + i) == n then 1 else 0 := by
        rw [List.take_succ_eq_append_getElem hlt, hp, cnt_app]
      have hle : cnt p n (L.take k) ≤ 64 := Nat.le_trans (cnt_le _ _ _) (by rw [List.length_take]; omega)
      rw [hp] at hf2
      clear hp
      replace hi8 : i < 8 := hi8
      replace hj8 : j < 8 := hj8
      obtain ⟨fx0, fx1⟩ : f (k * 2) = .int .i8 i ∧ f (k * 2 + 1) = .int .i8 j := hf2
      have HAP := Go.Lib.hid hap; have FX0 := Go.Lib.hid fx0; have FX1 := Go.Lib.hid fx1
      clear fx0 fx1 hap
      generalize cnt p n (L.take k) = M at *
      replace P := Go.Lib.hid P; replace G := Go.Lib.hid G; replace hB := Go.Lib.hid hB
      have hkI : (k : Int) < (L.length : Int) := by omega
      have hk0 : (0 : Int) ≤ (k : Int) := by omega
      have hkd : decide ((k : Int) < (L.length : Int)) = true := by simpa using hkI
      have hiI : (i : Int) < 8 := by omega
      have hjI : (j : Int) < 8 := by omega
      obtain ⟨v, hv⟩ : ∃ v, p.ink (8 * j + i) = v := ⟨_, rfl⟩
      have HV := Go.Lib.hid hv
      rw [hv] at HAP
      clear hv
      go_wp2
      refine region_at (by kernel_rfl) (by kernel_rfl) ?_
      intro W hW
      rw [hW] at hB P G
      clear hW
      have P' := Go.Lib.hid (cls_row' P.out); have G' := Go.Lib.hid (cls_row' G.out)
      repeat (first
        | go_big_quiet_skip
        | (refine wpQuiet_load1 5 _ rfl (by first | exact want_n rfl | exact want_g _ _ _ rfl rfl rfl) b _ rfl 66 p.at _ rw_u8 P'.out (by omega) ?_; rw [Pic.at_ink1 _ _ (8 * j + i) (by omega), HV.out]; simp only [Act.put, List.setIfInBounds_toArray, List.set_cons_succ, List.set_cons_zero])
        | (refine wpQuiet_load1 22 _ rfl (by first | exact want_n rfl | exact want_g _ _ _ rfl rfl rfl) g _ rfl (cap * 2) f _ rw_i8 G'.out (by omega) ?_; (first | rw [FX1.out] | rw [FX0.out]); simp only [Act.put, List.setIfInBounds_toArray, List.set_cons_succ, List.set_cons_zero])
        | go_big_quiet_step (fail))
      refine wpQuiet_nil ?_
      intro W2 hb
      replace P := Go.Lib.hid (row_next hb P.out); replace G := Go.Lib.hid (row_next hb G.out); replace hB := Go.Lib.hid (below_next hB.out hb)
      clear hb P' G'
      cases hq : (v == n)
      · have HAP2 := Go.Lib.hid (show cnt p n (L.take (k + 1)) = M by rw [HAP.out, hq]; rfl)
        clear hq
        go_wp2
        go_roundw
        case rel => exact ⟨k + 1, by omega, by go_num, by rw [HAP2.out], P.out, G.out, hB.out⟩
        case measure => simp [intOf]; omega
      · have HAP2 := Go.Lib.hid (show cnt p n (L.take (k + 1)) = M + 1 by rw [HAP.out, hq]; rfl)
        clear hq
        go_wp2
        go_roundw
        case rel => exact ⟨k + 1, by omega, by go_num, by rw [HAP2.out]; go_num, P.out, G.out, hB.out⟩
        case measure => simp [intOf]; omega
    · obtain rfl : k = L.length := by omega
      have HT := Go.Lib.hid (show cnt p n (L.take L.length) = cnt p n L by rw [List.take_length])
      rw [HT.out]
      have hkd : decide ((L.length : Int) < (L.length : Int)) = false := by simp
      replace hB := Go.Lib.hid hB
      go_wp2
      go_ret
      exact ⟨rfl, hB.out⟩
end Go.Proofs.YtlbafaedmagmfaaDoor
