import Derived.Test.YtlhbdiddcbobjaaDoorPCk
import Derived.Test.YtlhbdiddcbobjaaDoorPCntI
import Derived.Test.YtlhbdiddcbobjaaDoorWax1
import Derived.Test.YtlhbdiddcbobjaaDoorWax2
import Derived.Test.YtlhbdiddcbobjaaDoorQT
import Derived.Test.YtlhbdiddcbobjaaDoorLawCnt
namespace Go.Proofs.YtlhbdiddcbobjaaDoor
open Go.RowKit
set_option maxRecDepth 100000
set_option linter.unusedVariables false
set_option linter.unusedSimpArgs false
attribute [local go_sem] Oper.semAt_some
/-- a stencil's rows -/
def zrow : Nat → Int := fun _ => 0
def rowF (g : Nat → Int) : Nat → Value := fun i => .int .u8 (g i)
def setSt (g : Nat → Int) (y x : Nat) : Nat → Int := fun j => if j = y then onB (g y) x else g j
def stL (p : Pic) (n : Int) (l : List Sp8) : Nat → Int := l.foldl (fun g q => if p.ink (8 * q.1.2 + q.1.1) == n then setSt g q.1.2 q.1.1 else g) zrow
theorem stL_app (p : Pic) (n : Int) (l : List Sp8) (q : Sp8) : stL p n (l ++ [q]) = if p.ink (8 * q.1.2 + q.1.1) == n then setSt (stL p n l) q.1.2 q.1.1 else stL p n l := by
  unfold stL; rw [List.foldl_append]; rfl
theorem pzero_x8 : ∀ w, (zeroValue 23).run Tryd.prog w = .ok (.agg (vrow 8 (rowF zrow))) w := fun _ => by kernel_rfl
theorem pbuilt_x8 : Tryd.prog.built 23 [] = some (vrow 8 (rowF zrow)) := by kernel_rfl
theorem rowF_set (g : Nat → Int) (y x : Nat) : vrow 8 (over (rowF g) y 1 fun _ => .int .u8 (onB (g y) x)) = vrow 8 (rowF (setSt g y x)) := vrow_ext _ _ _ fun i _ => by
  unfold over rowF setSt
  by_cases h : i = y
  · subst h; rw [if_pos ⟨by omega, by omega⟩, if_pos rfl]
  · rw [if_neg (by omega), if_neg h]
theorem specSten_err (p : Pic) (n : Int) (k : Int) (hf : p.fit) (h : (okP p = false ∧ k = 1) ∨ (okP p = true ∧ inkB n = false ∧ k = 2)) (w : World) : Calls Tryd.prog 43 #[.agg p.row, .int .i64 n] w fun e w' => e = .returned (.tuple #[.agg (vrow 8 (rowF zrow)), .int .i64 k]) ∧ Below w.heap.size w w' := by
  have zz := pzero_x8
  have HO := Go.Lib.hid fun w' h => okP_from w' p w.heap.size w' h hf (Below.refl _ _)
  have HI := Go.Lib.hid fun w => pinkS_any n w
  have P : Hid ((((w.alloc (.cells (vrow 66 p.at) 32)).alloc (.cells (vrow 8 (rowF zrow)) 23)).alloc (.cells (vrow 8 (rowF zrow)) 23)).heap[w.heap.size]? = some (.cells (vrow 66 p.at) 32)) := heap_past _ _ _ _ (by simp <;> omega) (heap_past _ _ _ _ (by simp <;> omega) (heap_at _ _ _ (by simp)))
  have Z : Hid ((((w.alloc (.cells (vrow 66 p.at) 32)).alloc (.cells (vrow 8 (rowF zrow)) 23)).alloc (.cells (vrow 8 (rowF zrow)) 23)).heap[w.heap.size + 1]? = some (.cells (vrow 8 (rowF zrow)) 23)) := heap_past _ _ _ _ (by simp <;> omega) (heap_at _ _ _ (by simp))
  have D : Hid ((((w.alloc (.cells (vrow 66 p.at) 32)).alloc (.cells (vrow 8 (rowF zrow)) 23)).alloc (.cells (vrow 8 (rowF zrow)) 23)).heap[w.heap.size + 1 + 1]? = some (.cells (vrow 8 (rowF zrow)) 23)) := heap_at _ _ _ (by simp)
  have hB : Hid (Below w.heap.size w (((w.alloc (.cells (vrow 66 p.at) 32)).alloc (.cells (vrow 8 (rowF zrow)) 23)).alloc (.cells (vrow 8 (rowF zrow)) 23))) := ((((Below.refl w.heap.size w).alloc (by simp <;> omega) _).alloc (by simp <;> omega) _).alloc (by simp <;> omega) _)
  rcases h with ⟨h1, rfl⟩ | ⟨h1, h2, rfl⟩
  · rw [h1] at HO
    go_enter Tryd.func43, Tryd.ntmps43
    go_wp2_with (first
      | go_skip
      | ((with_reducible refine wlAt 9 rfl ?_); refine wpList_built rfl 23 [] rfl [] (by rfl) _ pbuilt_x8 ?_)
      | ((with_reducible refine wlOp (.store 23 (.tmp 6) (.tmp 9)) rfl ?_); refine wpList_storeall rfl 23 (.tmp 6) (.tmp 9) rfl _ rfl 8 (rowF zrow) (rowF zrow) rfl 23 size_x8 D.out (fun _ _ => rfl) ?_; rw [setRow_at _ _ _ _ _ (by simp)])
      | ((with_reducible refine wlAt 12 rfl ?_); refine wpList_loadall rfl 23 (.tmp 6) rfl _ rfl 8 (rowF zrow) 23 _ Tryd.underlying23 rfl size_x8 D.out ?_)
      | ((with_reducible refine wlOp (.store 23 (.tmp 4) (.tmp 12)) rfl ?_); refine wpList_storeall rfl 23 (.tmp 4) (.tmp 12) rfl (w.heap.size + 1) rfl 8 (rowF zrow) (rowF zrow) rfl 23 size_x8 Z.out (fun _ _ => rfl) ?_; replace Z := Go.Lib.hid (row_set Z.out (vrow 8 (rowF zrow))); replace hB := Go.Lib.hid (Below_setRow hB.out (show w.heap.size ≤ w.heap.size + 1 by omega) (vrow 8 (rowF zrow))))
      | (go_at_call 46; (refine (HO.out _ P.out).mono ?_; rintro e w1 ⟨rfl, hb⟩; replace P := Go.Lib.hid (row_next hb P.out); replace Z := Go.Lib.hid (row_next hb Z.out); replace D := Go.Lib.hid (row_next hb D.out); replace hB := Go.Lib.hid (below_next hB.out hb); clear hb)))
    exact ret_row2 Tryd.results43 (w.heap.size + 1) 8 (rowF zrow) 23 _ Tryd.underlying23 rfl size_x8 (.int .i64 1) rfl rfl rfl Z.out ⟨rfl, hB.out⟩
  · rw [h1] at HO; rw [h2] at HI
    go_enter Tryd.func43, Tryd.ntmps43
    go_wp2_with (first
      | go_skip
      | ((with_reducible refine wlAt 9 rfl ?_); refine wpList_built rfl 23 [] rfl [] (by rfl) _ pbuilt_x8 ?_)
      | ((with_reducible refine wlOp (.store 23 (.tmp 6) (.tmp 9)) rfl ?_); refine wpList_storeall rfl 23 (.tmp 6) (.tmp 9) rfl _ rfl 8 (rowF zrow) (rowF zrow) rfl 23 size_x8 D.out (fun _ _ => rfl) ?_; rw [setRow_at _ _ _ _ _ (by simp)])
      | ((with_reducible refine wlAt 16 rfl ?_); refine wpList_loadall rfl 23 (.tmp 6) rfl _ rfl 8 (rowF zrow) 23 _ Tryd.underlying23 rfl size_x8 D.out ?_)
      | ((with_reducible refine wlOp (.store 23 (.tmp 4) (.tmp 16)) rfl ?_); refine wpList_storeall rfl 23 (.tmp 4) (.tmp 16) rfl (w.heap.size + 1) rfl 8 (rowF zrow) (rowF zrow) rfl 23 size_x8 Z.out (fun _ _ => rfl) ?_; replace Z := Go.Lib.hid (row_set Z.out (vrow 8 (rowF zrow))); replace hB := Go.Lib.hid (Below_setRow hB.out (show w.heap.size ≤ w.heap.size + 1 by omega) (vrow 8 (rowF zrow))))
      | (go_at_call 46; (refine (HO.out _ P.out).mono ?_; rintro e w1 ⟨rfl, hb⟩; replace P := Go.Lib.hid (row_next hb P.out); replace Z := Go.Lib.hid (row_next hb Z.out); replace D := Go.Lib.hid (row_next hb D.out); replace hB := Go.Lib.hid (below_next hB.out hb); clear hb))
      | (go_at_call 65; (refine (HI.out _).mono ?_; rintro e w2 ⟨rfl, hb⟩; replace P := Go.Lib.hid (row_next hb P.out); replace Z := Go.Lib.hid (row_next hb Z.out); replace D := Go.Lib.hid (row_next hb D.out); replace hB := Go.Lib.hid (below_next hB.out hb); clear hb)))
    exact ret_row2 Tryd.results43 (w.heap.size + 1) 8 (rowF zrow) 23 _ Tryd.underlying23 rfl size_x8 (.int .i64 2) rfl rfl rfl Z.out ⟨rfl, hB.out⟩
set_option maxRecDepth 100000 in
set_option maxHeartbeats 8000000 in
theorem specSten_ok (p : Pic) (n : Int) (a c : Nat) (hf : p.fit) (h1 : okP p = true) (h2 : inkB n = true) (ea : p.wide = a) (ec : p.high = c) (ha : 1 ≤ a ∧ a ≤ 8) (hc : 1 ≤ c ∧ c ≤ 8) (w : World) : Calls Tryd.prog 43 #[.agg p.row, .int .i64 n] w fun e w' => e = .returned (.tuple #[.agg (vrow 8 (rowF (stL p (n + 1) (cellsL a c)))), .int .i64 0]) ∧ Below w.heap.size w w' := by
  have zz := pzero_x8
  have HO := Go.Lib.hid fun w' h => okP_from w' p w.heap.size w' h hf (Below.refl _ _)
  have HI := Go.Lib.hid fun w => pinkS_any n w
  have HSp := Go.Lib.hid fun w' hs => pspots_any p w.heap.size a c w' hs ea ec ha.2 hc.2
  have hLn : (cellsL a c).length = a * c := cellsL_length a c
  have hac : 1 ≤ (cellsL a c).length ∧ (cellsL a c).length ≤ 64 := by rw [hLn]; exact ⟨Nat.mul_le_mul ha.1 hc.1, Nat.mul_le_mul ha.2 hc.2⟩
  rw [h1] at HO; rw [h2] at HI
  simp only [inkB, Bool.and_eq_true, decide_eq_true_eq] at h2
  obtain ⟨n1, n2⟩ := h2
  generalize (cellsL a c) = L at *
  clear hLn ea ec h1
  have P : Hid ((((w.alloc (.cells (vrow 66 p.at) 32)).alloc (.cells (vrow 8 (rowF zrow)) 23)).alloc (.cells (vrow 8 (rowF zrow)) 23)).heap[w.heap.size]? = some (.cells (vrow 66 p.at) 32)) := heap_past _ _ _ _ (by simp <;> omega) (heap_past _ _ _ _ (by simp <;> omega) (heap_at _ _ _ (by simp)))
  have Z : Hid ((((w.alloc (.cells (vrow 66 p.at) 32)).alloc (.cells (vrow 8 (rowF zrow)) 23)).alloc (.cells (vrow 8 (rowF zrow)) 23)).heap[w.heap.size + 1]? = some (.cells (vrow 8 (rowF zrow)) 23)) := heap_past _ _ _ _ (by simp <;> omega) (heap_at _ _ _ (by simp))
  have D : Hid ((((w.alloc (.cells (vrow 66 p.at) 32)).alloc (.cells (vrow 8 (rowF zrow)) 23)).alloc (.cells (vrow 8 (rowF zrow)) 23)).heap[w.heap.size + 1 + 1]? = some (.cells (vrow 8 (rowF zrow)) 23)) := heap_at _ _ _ (by simp)
  have hB : Hid (Below w.heap.size w (((w.alloc (.cells (vrow 66 p.at) 32)).alloc (.cells (vrow 8 (rowF zrow)) 23)).alloc (.cells (vrow 8 (rowF zrow)) 23))) := ((((Below.refl w.heap.size w).alloc (by simp <;> omega) _).alloc (by simp <;> omega) _).alloc (by simp <;> omega) _)
  go_enter Tryd.func43, Tryd.ntmps43
  go_wp2_with (first
    | go_skip
    | ((with_reducible refine wlAt 9 rfl ?_); refine wpList_built rfl 23 [] rfl [] (by rfl) _ pbuilt_x8 ?_)
    | ((with_reducible refine wlOp (.store 23 (.tmp 6) (.tmp 9)) rfl ?_); refine wpList_storeall rfl 23 (.tmp 6) (.tmp 9) rfl _ rfl 8 (rowF zrow) (rowF zrow) rfl 23 size_x8 D.out (fun _ _ => rfl) ?_; rw [setRow_at _ _ _ _ _ (by simp)])
    | (go_at_call 46; (refine (HO.out _ P.out).mono ?_; rintro e w1 ⟨rfl, hb⟩; replace P := Go.Lib.hid (row_next hb P.out); replace Z := Go.Lib.hid (row_next hb Z.out); replace D := Go.Lib.hid (row_next hb D.out); replace hB := Go.Lib.hid (below_next hB.out hb); clear hb))
    | (go_at_call 65; (refine (HI.out _).mono ?_; rintro e w2 ⟨rfl, hb⟩; replace P := Go.Lib.hid (row_next hb P.out); replace Z := Go.Lib.hid (row_next hb Z.out); replace D := Go.Lib.hid (row_next hb D.out); replace hB := Go.Lib.hid (below_next hB.out hb); clear hb))
    | (go_at_call 73; (refine (HSp.out _ P.out).mono ?_; rintro e w3 ⟨v, rfl, hO, hb⟩; have hg3 := hB.out.size; have hd3 := row_lt D.out; replace P := Go.Lib.hid (row_next hb P.out); replace Z := Go.Lib.hid (row_next hb Z.out); replace D := Go.Lib.hid (row_next hb D.out); replace hB := Go.Lib.hid (below_next hB.out hb); clear hb; obtain ⟨g, cap, f, rfl, hg, hcap, hO2, hf2⟩ := hO.row (by omega); have O := Go.Lib.hid hO2; have HF := Go.Lib.hid hf2; clear hO hO2 hf2)))
  have P0 := P.out; have Z0 := Z.out; have D0 := D.out; have G0 := O.out; have B0 := hB.out
  have hgd : w.heap.size + 1 + 1 < g := by omega
  go_loopw [8] (fun iv wr => ∃ k : Nat, k ≤ L.length ∧ iv = .int .i64 k ∧ wr.heap[w.heap.size]? = some (.cells (vrow 66 p.at) 32) ∧ wr.heap[w.heap.size + 1]? = some (.cells (vrow 8 (rowF zrow)) 23) ∧ wr.heap[w.heap.size + 1 + 1]? = some (.cells (vrow 8 (rowF (stL p (n + 1) (L.take k)))) 23) ∧ wr.heap[g]? = some (.cells (vrow (cap * 2) f) 34) ∧ Below w.heap.size w wr) (fun iv _ => L.length - (intOf iv).toNat)
  case atStart => exact ⟨0, by omega, rfl, P0, Z0, D0, G0, B0⟩
  case round =>
    clear P Z D O hB P0 Z0 D0 G0 B0
    obtain ⟨k, hk, rfl, P, Z, D, G, hB⟩ := hrel
    by_cases hlt : k < L.length
    · have hf2 := HF.out k hlt
      obtain ⟨⟨⟨i, j⟩, hi8, hj8⟩, hp⟩ : ∃ q, L[k]'hlt = q := ⟨_, rfl⟩
      have hap : stL p (n + 1) (L.take (k + 1)) = if p.ink (8 * j + i) == n + 1 then setSt (stL p (n + 1) (L.take k)) j i else stL p (n + 1) (L.take k) := by
        rw [List.take_succ_eq_append_getElem hlt, hp, stL_app]
      rw [hp] at hf2
      clear hp
      replace hi8 : i < 8 := hi8
      replace hj8 : j < 8 := hj8
      obtain ⟨fx0, fx1⟩ : f (k * 2) = .int .i8 i ∧ f (k * 2 + 1) = .int .i8 j := hf2
      have HAP := Go.Lib.hid hap; have FX0 := Go.Lib.hid fx0; have FX1 := Go.Lib.hid fx1
      clear fx0 fx1 hap
      generalize stL p (n + 1) (L.take k) = M at *
      replace P := Go.Lib.hid P; replace G := Go.Lib.hid G; replace hB := Go.Lib.hid hB; replace Z := Go.Lib.hid Z; replace D := Go.Lib.hid D
      have hkI : (k : Int) < (L.length : Int) := by omega
      have hk0 : (0 : Int) ≤ (k : Int) := by omega
      have hkd : decide ((k : Int) < (L.length : Int)) = true := by simpa using hkI
      have hiI : (i : Int) < 8 := by omega
      have hjI : (j : Int) < 8 := by omega
      obtain ⟨v, hv⟩ : ∃ v, p.ink (8 * j + i) = v := ⟨_, rfl⟩
      have HV := Go.Lib.hid hv
      rw [hv] at HAP
      clear hv
      go_wp2
      refine region_at (by kernel_rfl) (by kernel_rfl) ?_
      intro W hW
      rw [hW] at hB P G Z D
      clear hW
      have P' := Go.Lib.hid (cls_row' P.out); have G' := Go.Lib.hid (cls_row' G.out)
      repeat (first
        | go_big_quiet_skip
        | (refine wpQuiet_load1 5 _ rfl (by first | exact want_n rfl | exact want_g _ _ _ rfl rfl rfl) w.heap.size _ rfl 66 p.at _ rw_u8 P'.out (by omega) ?_; rw [Pic.at_ink1 _ _ (8 * j + i) (by omega), HV.out]; simp only [Act.put, List.setIfInBounds_toArray, List.set_cons_succ, List.set_cons_zero])
        | (refine wpQuiet_load1 22 _ rfl (by first | exact want_n rfl | exact want_g _ _ _ rfl rfl rfl) g _ rfl (cap * 2) f _ rw_i8 G'.out (by omega) ?_; (first | rw [FX1.out] | rw [FX0.out]); simp only [Act.put, List.setIfInBounds_toArray, List.set_cons_succ, List.set_cons_zero])
        | go_big_quiet_step (fail))
      refine wpQuiet_nil ?_
      intro W2 hb
      replace P := Go.Lib.hid (row_next hb P.out); replace G := Go.Lib.hid (row_next hb G.out); replace Z := Go.Lib.hid (row_next hb Z.out); replace D := Go.Lib.hid (row_next hb D.out); replace hB := Go.Lib.hid (below_next hB.out hb)
      clear hb P' G'
      cases hq : (v == n + 1)
      · have HAP2 := Go.Lib.hid (show stL p (n + 1) (L.take (k + 1)) = M by rw [HAP.out, hq]; rfl)
        clear hq
        go_wp2
        go_roundw
        case rel => exact ⟨k + 1, by omega, by go_num, P.out, Z.out, by rw [HAP2.out]; exact D.out, G.out, hB.out⟩
        case measure => simp [intOf]; omega
      · have HAP2 := Go.Lib.hid (show stL p (n + 1) (L.take (k + 1)) = setSt M j i by rw [HAP.out, hq]; rfl)
        clear hq
        go_wp2
        refine wp_region_still_tail 16 (by kernel_rfl) (by kernel_rfl) ?_
        simp only [List.take_succ_cons, List.take_zero, List.drop_succ_cons, List.drop_zero, World.drew_eq]
        repeat (first
          | (refine wpStill_load1 rfl 22 (.tmp 45) rfl g (k * 2 + 1) rfl (cap * 2) f _ _ Tryd.underlying22 rfl G.out (by omega) ?_; rw [FX1.out]; simp only [Act.put, List.setIfInBounds_toArray, List.set_cons_succ, List.set_cons_zero])
          | (refine wpStill_load1 rfl 22 (.tmp 52) rfl g (k * 2) rfl (cap * 2) f _ _ Tryd.underlying22 rfl G.out (by omega) ?_; rw [FX0.out]; simp only [Act.put, List.setIfInBounds_toArray, List.set_cons_succ, List.set_cons_zero])
          | (refine wpStill_load1 rfl 5 (.tmp 47) rfl (w.heap.size + 1 + 1) j rfl 8 (rowF M) _ _ Tryd.underlying5 rfl D.out (by omega) ?_; rw [show rowF M j = .int .u8 (M j) from rfl]; simp only [Act.put, List.setIfInBounds_toArray, List.set_cons_succ, List.set_cons_zero])
          | still_step
          | (refine wpStill_step (fun K hK => ?_); go_simp; simp only [hiI, hjI, hkI, if_true]; go_simp; refine hK _ ?_; clear hK K))
        refine wpStill_nil ?_
        refine wpList_store1 rfl 5 (.tmp 57) (.tmp 56) rfl (w.heap.size + 1 + 1) j rfl 8 (rowF M) (.int .u8 (onB (M j) i)) (by unfold onB; rw [← sh_nat i hi8]; rfl) 23 size_u8 D.out (by omega) rfl ?_
        rw [rowF_set]
        have P2 := row_set' (w := W2.drew) (g := w.heap.size + 1 + 1) (by omega) P.out (vrow 8 (rowF (setSt M j i)))
        have Z2 := row_set' (w := W2.drew) (g := w.heap.size + 1 + 1) (by omega) Z.out (vrow 8 (rowF (setSt M j i)))
        have D2 := row_set (w := W2.drew) D.out (vrow 8 (rowF (setSt M j i)))
        have G2 := row_set' (w := W2.drew) (g := w.heap.size + 1 + 1) (by omega) G.out (vrow 8 (rowF (setSt M j i)))
        have hB2 := Below_setRow hB.out.drew (show w.heap.size ≤ w.heap.size + 1 + 1 by omega) (vrow 8 (rowF (setSt M j i)))
        clear P Z D G hB
        generalize W2.drew.setRow _ _ = W3 at *
        replace P2 := Go.Lib.hid P2; replace Z2 := Go.Lib.hid Z2; replace D2 := Go.Lib.hid D2; replace G2 := Go.Lib.hid G2; replace hB2 := Go.Lib.hid hB2
        go_wp2
        go_roundw
        case rel => exact ⟨k + 1, by omega, by go_num, P2.out, Z2.out, by rw [HAP2.out]; exact D2.out, G2.out, hB2.out⟩
        case measure => simp [intOf]; omega
    · obtain rfl : k = L.length := by omega
      have HT := Go.Lib.hid (show stL p (n + 1) (L.take L.length) = stL p (n + 1) L by rw [List.take_length])
      rw [HT.out] at D
      have hkd : decide ((L.length : Int) < (L.length : Int)) = false := by simp
      replace hB := Go.Lib.hid hB; replace Z := Go.Lib.hid Z; replace D := Go.Lib.hid D
      obtain ⟨M, hM⟩ : ∃ M, stL p (n + 1) L = M := ⟨_, rfl⟩
      rw [hM] at D
      have HM := Go.Lib.hid hM
      clear hM
      go_wp2_with (first
        | go_skip
        | ((with_reducible refine wlAt 58 rfl ?_); refine wpList_loadall rfl 23 (.tmp 6) rfl _ rfl 8 (rowF M) 23 _ Tryd.underlying23 rfl size_x8 D.out ?_)
        | ((with_reducible refine wlOp (.store 23 (.tmp 4) (.tmp 58)) rfl ?_); refine wpList_storeall rfl 23 (.tmp 4) (.tmp 58) rfl (w.heap.size + 1) rfl 8 (rowF zrow) (rowF M) rfl 23 size_x8 Z.out (fun _ _ => rfl) ?_; replace Z := Go.Lib.hid (row_set Z.out (vrow 8 (rowF M))); replace hB := Go.Lib.hid (Below_setRow hB.out (show w.heap.size ≤ w.heap.size + 1 by omega) (vrow 8 (rowF M)))))
      exact ret_row2 Tryd.results43 (w.heap.size + 1) 8 (rowF M) 23 _ Tryd.underlying23 rfl size_x8 (.int .i64 0) rfl rfl rfl Z.out ⟨by rw [HM.out], hB.out⟩
set_option maxRecDepth 100000 in
set_option maxHeartbeats 8000000 in
theorem stencil_any (p : Pic) (n : Int) (a c : Nat) (w : World) (ha : p.wide = a) (hc : p.high = c) (ha8 : a ≤ 8) (hc8 : c ≤ 8) : Calls Tryd.prog 74 #[.agg p.row, .int .u8 n] w fun o w' => o = .returned (.agg (vrow 8 (rowF (stL p n (cellsL a c))))) ∧ Below w.heap.size w w' := by
  have zz := pzero_x8
  have P : Hid (((((w.alloc (.cells (vrow 66 p.at) 32)).alloc (.cells #[.int .u8 n] 5)).alloc (.cells (vrow 8 (rowF zrow)) 23)).alloc (.cells (vrow 8 (rowF zrow)) 23)).heap[w.heap.size]? = some (.cells (vrow 66 p.at) 32)) := heap_past _ _ _ _ (by simp <;> omega) (heap_past _ _ _ _ (by simp <;> omega) (heap_past _ _ _ _ (by simp <;> omega) (heap_at _ _ _ (by simp))))
  have N : Hid (((((w.alloc (.cells (vrow 66 p.at) 32)).alloc (.cells #[.int .u8 n] 5)).alloc (.cells (vrow 8 (rowF zrow)) 23)).alloc (.cells (vrow 8 (rowF zrow)) 23)).heap[w.heap.size + 1]? = some (.cells (vrow 1 fun _ => .int .u8 n) 5)) := heap_past _ _ _ _ (by simp <;> omega) (heap_past _ _ _ _ (by simp <;> omega) (heap_at _ _ _ (by simp)))
  have Z : Hid (((((w.alloc (.cells (vrow 66 p.at) 32)).alloc (.cells #[.int .u8 n] 5)).alloc (.cells (vrow 8 (rowF zrow)) 23)).alloc (.cells (vrow 8 (rowF zrow)) 23)).heap[w.heap.size + 2]? = some (.cells (vrow 8 (rowF zrow)) 23)) := heap_past _ _ _ _ (by simp <;> omega) (heap_at _ _ _ (by simp))
  have D : Hid (((((w.alloc (.cells (vrow 66 p.at) 32)).alloc (.cells #[.int .u8 n] 5)).alloc (.cells (vrow 8 (rowF zrow)) 23)).alloc (.cells (vrow 8 (rowF zrow)) 23)).heap[w.heap.size + 3]? = some (.cells (vrow 8 (rowF zrow)) 23)) := heap_at _ _ _ (by simp)
  have hB : Hid (Below w.heap.size w ((((w.alloc (.cells (vrow 66 p.at) 32)).alloc (.cells #[.int .u8 n] 5)).alloc (.cells (vrow 8 (rowF zrow)) 23)).alloc (.cells (vrow 8 (rowF zrow)) 23))) := (((((Below.refl w.heap.size w).alloc (by simp <;> omega) _).alloc (by simp <;> omega) _).alloc (by simp <;> omega) _).alloc (by simp <;> omega) _)
  refine (callsIn_wide (n := 9)).1 ?_
  refine callsIn_of_wp_marks Tryd.func74 rfl trivial ?_ rfl
  simp only [Tryd.ntmps74, List.size_toArray, List.length_cons, List.length_nil, Nat.reduceAdd, Nat.reduceSub, Array.replicate_succ, Array.replicate_zero, List.push_toArray, List.append_toArray, List.nil_append, List.cons_append]
  refine wpIn_wide.2 ?_
  go_wp2_with (first
    | go_skip
    | ((with_reducible refine wlAt 8 rfl ?_); refine wpList_ld1 22 _ rfl (by first | exact want_n rfl | exact want_g _ _ _ rfl rfl rfl) (w.heap.size) _ rfl 66 p.at _ rw_i8 P.out (by omega) ?_; rw [Pic.at_0, ha]; simp only [Act.put, List.setIfInBounds_toArray, List.set_cons_succ, List.set_cons_zero])
    | ((with_reducible refine wlAt 10 rfl ?_); refine wpList_ld1 22 _ rfl (by first | exact want_n rfl | exact want_g _ _ _ rfl rfl rfl) (w.heap.size) _ rfl 66 p.at _ rw_i8 P.out (by omega) ?_; rw [Pic.at_1, hc]; simp only [Act.put, List.setIfInBounds_toArray, List.set_cons_succ, List.set_cons_zero])
    | (go_at_call 90; refine (cells_any _ _ _).mono ?_; rintro e w2 ⟨rfl, rfl⟩))
  have hws : ((((w.alloc (.cells (vrow 66 p.at) 32)).alloc (.cells #[.int .u8 n] 5)).alloc (.cells (vrow 8 (rowF zrow)) 23)).alloc (.cells (vrow 8 (rowF zrow)) 23)).heap.size = w.heap.size + 4 := by simp only [World.size_alloc]
  generalize hWn : ((((w.alloc (.cells (vrow 66 p.at) 32)).alloc (.cells #[.int .u8 n] 5)).alloc (.cells (vrow 8 (rowF zrow)) 23)).alloc (.cells (vrow 8 (rowF zrow)) 23)) = Wn at hB P N Z D hws ⊢
  clear hWn
  have c1 := heap_at (Wn.alloc (.cells #[.int .i8 a] 22)) (.cells #[.int .i8 c] 22) (Wn.heap.size + 1) (by simp)
  have c2 := heap_past (Wn.alloc (.cells #[.int .i8 a] 22)) (.cells #[.int .i8 c] 22) _ Wn.heap.size (by simp) (heap_at Wn (.cells #[.int .i8 a] 22) _ rfl)
  have hB1 : Below Wn.heap.size Wn ((Wn.alloc (.cells #[.int .i8 a] 22)).alloc (.cells #[.int .i8 c] 22)) := ((Below.refl _ _).alloc (Nat.le_refl _) _).alloc (by simp) _
  obtain ⟨W0, hW0⟩ : ∃ W0, (Wn.alloc (.cells #[.int .i8 a] 22)).alloc (.cells #[.int .i8 c] 22) = W0 := ⟨_, rfl⟩
  rw [hW0] at c1 c2 hB1 ⊢
  clear hW0
  rw [hws] at c1 c2
  try simp only [hws]
  replace P := row_next hB1 P.out; replace N := row_next hB1 N.out; replace Z := row_next hB1 Z.out; replace D := row_next hB1 D.out; replace hB := below_next hB.out hB1
  have hs0 := row_lt c1
  refine wp_cells (d := 6) (w.heap.size + 4 + 1) (w.heap.size + 4) a c ha8 hc8 rfl c1 c2
    (fun pre W => W.heap[w.heap.size]? = some (.cells (vrow 66 p.at) 32) ∧ W.heap[w.heap.size + 1]? = some (.cells (vrow 1 fun _ => .int .u8 n) 5) ∧ W.heap[w.heap.size + 2]? = some (.cells (vrow 8 (rowF zrow)) 23) ∧ W.heap[w.heap.size + 3]? = some (.cells (vrow 8 (rowF (stL p n pre))) 23) ∧ Below w.heap.size w W)
    (fun _ _ _ => False)
    (OwnFrom.and (own_row (by omega)) (OwnFrom.and (own_row (by omega)) (OwnFrom.and (own_row (by omega)) (OwnFrom.and (own_rowD (o := fun pre => .cells (vrow 8 (rowF (stL p n pre))) 23) (by omega)) (ownFrom_below (Nat.le_refl _) (by omega))))))
    (fun c => own_pure _)
    ⟨P, N, Z, D, hB⟩ ?assign ?body ?done ?stop
  case assign =>
    intro l x W K hK
    simp only [List.setIfInBounds_toArray, List.set_cons_succ, List.set_cons_zero] at hK ⊢
    have zs := zero_spotP
    gi_wp2_with (refine wpListIn_storeall rfl 34 (.tmp 6) (.tmp 12) rfl _ rfl 2 (spAt 0 0) (spAt x.1.1 x.1.2) rfl 34 size_spot (heap_at _ _ _ rfl) (fun i _ => spAt_oneP _ _ i) ?_; rw [setRow_at _ _ _ _ _ rfl])
    exact hK
  case body =>
    rintro l pre ⟨⟨x, y⟩, hx, hy⟩ Wb W Bx hK hBx R hsz ⟨P, N, Z, D, hB⟩ hlen
    simp only [List.setIfInBounds_toArray, List.set_cons_succ, List.set_cons_zero] at R ⊢
    clear zz c1 c2 hB1
    replace hx : x < 8 := hx
    replace hy : y < 8 := hy
    have HS0 := fun w => shown_any p x y hx hy w
    have hst : stL p n (pre ++ [⟨(x, y), hx, hy⟩]) = if p.ink (8 * y + x) == n then setSt (stL p n pre) y x else stL p n pre := stL_app p n pre ⟨(x, y), hx, hy⟩
    obtain ⟨v, hv⟩ : ∃ v, p.ink (8 * y + x) = v := ⟨_, rfl⟩
    rw [hv] at HS0 hst
    have HS := Go.Lib.hid HS0
    have HST := Go.Lib.hid hst
    clear hst HS0 hv
    generalize stL p n pre = M at *
    have hyI : (y : Int) < 8 := by omega
    have hxI : (x : Int) < 8 := by omega
    replace R := Go.Lib.hid R; replace P := Go.Lib.hid P; replace N := Go.Lib.hid N; replace Z := Go.Lib.hid Z; replace D := Go.Lib.hid D; replace hB := Go.Lib.hid hB; replace hK := Go.Lib.hid hK
    gi_wp2
    refine region_atI (by kernel_rfl) (by kernel_rfl) ?_
    intro W1 hW
    rw [hW] at hB hK P R N Z D
    clear hW
    have P' := Go.Lib.hid (cls_row' P.out); have R' := Go.Lib.hid (cls_row' R.out); have N' := Go.Lib.hid (cls_row' N.out)
    repeat (first
      | go_big_quiet_skip
      | (refine wpQuiet_loadmid 32 _ rfl (by first | exact want_n rfl | exact want_g _ _ _ rfl rfl rfl) (w.heap.size) _ rfl 66 66 p.at _ rw_pic size_pic P'.out (by omega) ?_; rw [pic_row]; simp only [Act.put, List.setIfInBounds_toArray, List.set_cons_succ, List.set_cons_zero])
      | (refine wpQuiet_loadmid 34 _ rfl (by first | exact want_n rfl | exact want_g _ _ _ rfl rfl rfl) Bx _ rfl 2 2 (spAt x y) _ rw_spot size_spot R'.out (by omega) ?_; rw [sp_row]; simp only [Act.put, List.setIfInBounds_toArray, List.set_cons_succ, List.set_cons_zero])
      | (refine wpQuiet_load1 5 _ rfl (by first | exact want_n rfl | exact want_g _ _ _ rfl rfl rfl) (w.heap.size + 1) _ rfl 1 (fun _ => .int .u8 n) _ rw_u8 N'.out (by omega) ?_; simp only [Act.put, List.setIfInBounds_toArray, List.set_cons_succ, List.set_cons_zero])
      | go_big_quiet_step ((go_at_call 91; exact cls_call _ (fun w hw => HS.out w))))
    refine wpQuiet_nil ?_
    intro W2 hb
    replace P := Go.Lib.hid (row_next hb P.out); replace R := Go.Lib.hid (row_next hb R.out); replace N := Go.Lib.hid (row_next hb N.out); replace Z := Go.Lib.hid (row_next hb Z.out); replace D := Go.Lib.hid (row_next hb D.out); replace hB := Go.Lib.hid (below_next hB.out hb); replace hK := Go.Lib.hid (below_next hK.out hb)
    clear hb P' R' N'
    cases hq : (v == n)
    · have HS2 := Go.Lib.hid (show stL p n (pre ++ [⟨(x, y), hx, hy⟩]) = M by rw [HST.out, hq]; rfl)
      clear hq
      gi_wp2
      exact ⟨keeps_below hK.out, Kp2.of_lt hK.out (by omega) (by omega), P.out, N.out, Z.out, by rw [HS2.out]; exact D.out, hB.out⟩
    · have HS2 := Go.Lib.hid (show stL p n (pre ++ [⟨(x, y), hx, hy⟩]) = setSt M y x by rw [HST.out, hq]; rfl)
      clear hq
      gi_wp2
      refine region_tailI 9 (by kernel_rfl) (by kernel_rfl) (by kernel_rfl) ?_
      simp only [List.take_succ_cons, List.take_zero, List.drop_succ_cons, List.drop_zero, World.drew_eq]
      repeat (first
        | (refine wpStill_load1 rfl 22 (.tmp 18) rfl Bx 1 rfl 2 (spAt x y) _ _ Tryd.underlying22 rfl R.out (by omega) ?_; rw [spAt_1]; simp only [Act.put, List.setIfInBounds_toArray, List.set_cons_succ, List.set_cons_zero])
        | (refine wpStill_load1 rfl 22 (.tmp 22) rfl Bx 0 rfl 2 (spAt x y) _ _ Tryd.underlying22 rfl R.out (by omega) ?_; rw [spAt_0]; simp only [Act.put, List.setIfInBounds_toArray, List.set_cons_succ, List.set_cons_zero])
        | (refine wpStill_load1 rfl 5 (.tmp 20) rfl (w.heap.size + 3) y rfl 8 (rowF M) _ _ Tryd.underlying5 rfl D.out (by omega) ?_; rw [show rowF M y = .int .u8 (M y) from rfl]; simp only [Act.put, List.setIfInBounds_toArray, List.set_cons_succ, List.set_cons_zero])
        | still_step
        | (refine wpStill_step (fun K hK => ?_); go_simp; simp only [hxI, hyI, if_true]; go_simp; refine hK _ ?_; clear hK K))
      refine wpStill_nil ?_
      refine wpList_store1 rfl 5 (.tmp 26) (.tmp 25) rfl (w.heap.size + 3) y rfl 8 (rowF M) (.int .u8 (onB (M y) x)) rfl 23 size_u8 D.out (by omega) rfl ?_
      rw [rowF_set]
      refine ⟨rfl, ?_⟩
      exact ⟨(keeps_below (hK.out.drew)).trans (keeps_setRow (W := W2.drew) D.out _), (Kp2.of_lt hK.out.drew (by omega) (by omega)).setRow (by omega) (by omega) _, row_set' (w := W2.drew) (by omega) P.out _, row_set' (w := W2.drew) (by omega) N.out _, row_set' (w := W2.drew) (by omega) Z.out _, by rw [HS2.out]; exact row_set (w := W2.drew) D.out _, Below_setRow hB.out.drew (by omega) _⟩
  case done =>
    rintro DD W hDD ⟨P, N, Z, D, hB⟩ hd
    replace Z := Go.Lib.hid Z; replace hd := Go.Lib.hid hd; replace hB := Go.Lib.hid hB; replace P := Go.Lib.hid P; replace D := Go.Lib.hid D
    obtain ⟨M, hM⟩ : ∃ M, stL p n (cellsL a c) = M := ⟨_, rfl⟩
    rw [hM] at D
    have HM := Go.Lib.hid hM
    clear hM
    go_wp2_with (first
      | (with_reducible refine wlAt 27 rfl ?_; refine wpList_loadall rfl 23 (.tmp 5) rfl _ rfl 8 (rowF M) 23 _ Tryd.underlying23 rfl size_x8 D.out ?_)
      | ((with_reducible refine wlOp (.store 23 (.tmp 4) (.tmp 27)) rfl ?_); refine wpList_storeall rfl 23 (.tmp 4) (.tmp 27) rfl (w.heap.size + 2) rfl 8 (rowF zrow) (rowF M) rfl 23 size_x8 Z.out (fun i _ => rfl) ?_))
    have hlt := row_lt hd.out
    have Z' := row_set Z.out (vrow 8 (rowF M))
    refine leaveM rfl ((setRow_other _ _ DD _ (by omega)).trans hd.out) (res_rowD Tryd.results74 _ _ (w.heap.size + 2) 8 (rowF M) 23 _ Tryd.underlying23 rfl size_x8 rfl (row_put Z' (by omega))) ?_
    exact ⟨by rw [HM.out], below_put _ (Below_setRow hB.out (show w.heap.size ≤ w.heap.size + 2 by omega) _) (by omega) (by simp; omega)⟩
  case stop =>
    rintro D c pre W hD h hd
    exact h.elim
end Go.Proofs.YtlhbdiddcbobjaaDoor
