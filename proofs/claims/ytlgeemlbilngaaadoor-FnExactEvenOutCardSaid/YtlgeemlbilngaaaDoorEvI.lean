import Derived.Test.YtlgeemlbilngaaaDoorEvM
import Derived.Test.YtlgeemlbilngaaaDoorIOff
import Derived.Test.YtlgeemlbilngaaaDoorQT
namespace Go.Proofs.YtlgeemlbilngaaaDoor
open Go.RowKit
set_option maxRecDepth 100000
set_option linter.unusedVariables false
set_option linter.unusedSimpArgs false
set_option maxRecDepth 100000 in
set_option maxHeartbeats 8000000 in
theorem even_any (s : Sh) (ax : Int) (d : Bool) (L : List Sp8) (v : Value) (B : Nat) (w : World) (hb0 : bdS s) (hin : inP ax d L) (hlen : L.length ≤ 64) (hO : PRO w v ax d L B) : Calls Tryd.prog 30 #[.agg s.row, v] w fun e w' => e = .returned (.agg (evL s ax d L).row) ∧ Below w.heap.size w w' := by
  obtain ⟨ao, cc, rfl, hr⟩ := hO
  have zp := zero_prtP
  have zs := zero_sheet
  have hbd := fun M : List Sp8 => evL_bd hb0 ax d M.length M rfl
  have P : Hid (((w.alloc (.cells (vrow 266 s.at) 36)).alloc (.cells (vrow 266 Sh.zero.at) 36)).heap[w.heap.size]? = some (.cells (vrow 266 s.at) 36)) := (heap_past _ _ _ _ (by simp <;> omega) (heap_at _ _ _ (by simp)))
  have Z : Hid (((w.alloc (.cells (vrow 266 s.at) 36)).alloc (.cells (vrow 266 Sh.zero.at) 36)).heap[w.heap.size + 1]? = some (.cells (vrow 266 Sh.zero.at) 36)) := (heap_at _ _ _ (by simp))
  have hB : Hid (Below w.heap.size w ((w.alloc (.cells (vrow 266 s.at) 36)).alloc (.cells (vrow 266 Sh.zero.at) 36))) := Go.Lib.hid (((Below.refl w.heap.size w).alloc (by simp <;> omega) _).alloc (by simp <;> omega) _)
  go_enter Tryd.func30, Tryd.ntmps30
  go_wp2
  have P0 := P.out; have B0 := hB.out; have Z0 := Z.out
  clear P hB Z
  go_loopw [13] (fun iv wr => ∃ k : Nat, k ≤ L.length ∧ iv = .int .i64 k ∧ wr.heap[w.heap.size]? = some (.cells (vrow 266 (evL s ax d (L.take k)).at) 36) ∧ wr.heap[w.heap.size + 1]? = some (.cells (vrow 266 Sh.zero.at) 36) ∧ Below w.heap.size w wr) (fun iv _ => L.length - (intOf iv).toNat)
  case atStart => exact ⟨0, by omega, rfl, P0, Z0, B0⟩
  case round =>
    clear P0 B0 Z0
    obtain ⟨k, hk, rfl, P, Z, hB⟩ := hrel
    by_cases hlt : k < L.length
    · rcases hr with h0 | ⟨g, N, f, rfl, hg, hN, hrow, hf4⟩
      · omega
      have Gr := Go.Lib.hid (row_below hB (row_lt hrow) hrow)
      obtain ⟨⟨⟨i, j⟩, hi8, hj8⟩, hp⟩ : ∃ p, L[k]'hlt = p := ⟨_, rfl⟩
      have h4 := hf4 k hlt
      have hin1 := hin _ (List.getElem_mem hlt)
      have hap := evL_app s ax d (L.take k) ⟨(i, j), hi8, hj8⟩
      rw [← show L.take (k + 1) = L.take k ++ [⟨(i, j), hi8, hj8⟩] by rw [List.take_succ_eq_append_getElem hlt, hp]] at hap
      rw [hp] at h4 hin1
      obtain ⟨⟨⟨i2, j2⟩, hi2, hj2⟩, hsg⟩ : ∃ p, sgP ax d ⟨(i, j), hi8, hj8⟩ = p := ⟨_, rfl⟩
      rw [hsg] at hin1 hap
      simp only at hin1 h4
      rw [← hin1.1, ← hin1.2] at h4
      have hap2 : evL s ax d (L.take (k + 1)) = evC (evL s ax d (L.take k)) (24 * j + 3 * i) (24 * j2 + 3 * i2) 3 := hap
      have bS := hbd (L.take k)
      replace hi8 : i < 8 := hi8
      replace hj8 : j < 8 := hj8
      replace hi2 : i2 < 8 := hi2
      replace hj2 : j2 < 8 := hj2
      have H4 := Go.Lib.hid h4; have HAP := Go.Lib.hid hap2
      clear h4 hin1 hsg hp hf4 hrow hap hap2 hbd
      generalize evL s ax d (L.take k) = S at *
      replace P := Go.Lib.hid P; replace Z := Go.Lib.hid Z; replace hB := Go.Lib.hid hB
      have hkI : (k : Int) < (L.length : Int) := by omega
      have hk0 : (0 : Int) ≤ (k : Int) := by omega
      have hkd : decide ((k : Int) < (L.length : Int)) = true := by simpa using hkI
      have hiI : (i : Int) < 8 := by omega
      have hjI : (j : Int) < 8 := by omega
      have hi2I : (i2 : Int) < 8 := by omega
      have hj2I : (j2 : Int) < 8 := by omega
      go_wp2_with (first
        | go_skip
        | ((with_reducible refine wlAt 16 rfl ?_); refine wpList_loadmid rfl 63 (.tmp 15) rfl g (k * 4) rfl N 4 f 63 _ Tryd.underlying63 rfl size_prtP Gr.out (by omega) ?_; rw [H4.out])
        | ((with_reducible refine wlOp (.store 63 (.tmp 6) (.tmp 16)) rfl ?_); refine wpList_storeall rfl 63 (.tmp 6) (.tmp 16) rfl _ rfl 4 (p4 0 0 0 0) (p4 i j i2 j2) rfl 63 size_prtP (heap_at _ _ _ rfl) (fun i _ => p4_one _ _ _ _ i) ?_; rw [setRow_at _ _ _ _ _ rfl]; have R := Go.Lib.hid (heap_at wr (.cells (vrow 4 (p4 i j i2 j2)) 63) _ rfl); replace P := Go.Lib.hid (heap_past wr (.cells (vrow 4 (p4 i j i2 j2)) 63) _ _ (row_lt P.out) P.out); replace Z := Go.Lib.hid (heap_past wr (.cells (vrow 4 (p4 i j i2 j2)) 63) _ _ (row_lt Z.out) Z.out); replace hB := Go.Lib.hid (hB.out.alloc hB.out.size (.cells (vrow 4 (p4 i j i2 j2)) 63)); clear Gr))
      refine region_at (by kernel_rfl) (by kernel_rfl) ?_
      intro W hW
      rw [hW] at hB P R Z
      clear hW
      have P' := Go.Lib.hid (cls_row' P.out); have R' := Go.Lib.hid (cls_row' R.out)
      (repeat (first
        | go_big_quiet_skip
        | (refine wpQuiet_load1 22 _ rfl (by first | exact want_n rfl | exact want_g _ _ _ rfl rfl rfl) wr.heap.size _ rfl 4 (p4 i j i2 j2) _ rw_i8 R'.out (by omega) ?_; (first | rw [show p4 (i : Int) (j : Int) (i2 : Int) (j2 : Int) 0 = .int .i8 i from rfl] | rw [show p4 (i : Int) (j : Int) (i2 : Int) (j2 : Int) 1 = .int .i8 j from rfl] | rw [show p4 (i : Int) (j : Int) (i2 : Int) (j2 : Int) 2 = .int .i8 i2 from rfl] | rw [show p4 (i : Int) (j : Int) (i2 : Int) (j2 : Int) 3 = .int .i8 j2 from rfl]); simp only [Act.put, List.setIfInBounds_toArray, List.set_cons_succ, List.set_cons_zero])
        | go_big_quiet_step (fail)))
      refine wpQuiet_nil ?_
      intro Wn hb
      replace P := Go.Lib.hid (row_next hb P.out); replace Z := Go.Lib.hid (row_next hb Z.out); replace hB := Go.Lib.hid (below_next hB.out hb)
      clear hb P' R' R
      go_wp2
      have P1 := P.out; have Z1 := Z.out; have B1 := hB.out
      clear P Z hB
      go_loopw [35] (fun iv wz => ∃ m : Nat, m ≤ 3 ∧ iv = .int .i64 m ∧ wz.heap[w.heap.size]? = some (.cells (vrow 266 (evC S (24 * j + 3 * i) (24 * j2 + 3 * i2) m).at) 36) ∧ wz.heap[w.heap.size + 1]? = some (.cells (vrow 266 Sh.zero.at) 36) ∧ Below w.heap.size w wz) (fun iv _ => 3 - (intOf iv).toNat)
      case atStart => exact ⟨0, by omega, rfl, P1, Z1, B1⟩
      case round =>
        clear P1 Z1 B1
        obtain ⟨m, hm, rfl, P, Z, hB⟩ := hrel
        by_cases hlm : m < 3
        · have bT := evC_bd bS (p := 24 * j + 3 * i) (q := 24 * j2 + 3 * i2) m (by omega) (by omega)
          have hst := Go.Lib.hid (show evC S (24 * j + 3 * i) (24 * j2 + 3 * i2) (m + 1) = evI (evC S (24 * j + 3 * i) (24 * j2 + 3 * i2) m) (24 * j + 3 * i) (24 * j2 + 3 * i2) m from rfl)
          generalize evC S (24 * j + 3 * i) (24 * j2 + 3 * i2) m = T at *
          have bA := bT (24 * j + 3 * i + m) (by omega); have bB := bT (24 * j2 + 3 * i2 + m) (by omega)
          have hev := Go.Lib.hid (show evI T (24 * j + 3 * i) (24 * j2 + 3 * i2) m = (T.ed (24 * j2 + 3 * i2 + m) ((T.dye (24 * j + 3 * i + m) + T.dye (24 * j2 + 3 * i2 + m)).tdiv 2)).ed (24 * j + 3 * i + m) (T.dye (24 * j + 3 * i + m) + T.dye (24 * j2 + 3 * i2 + m) - (T.dye (24 * j + 3 * i + m) + T.dye (24 * j2 + 3 * i2 + m)).tdiv 2) from rfl)
          obtain ⟨vA, hA⟩ : ∃ vA, T.dye (24 * j + 3 * i + m) = vA := ⟨_, rfl⟩
          obtain ⟨vB, hBv⟩ : ∃ vB, T.dye (24 * j2 + 3 * i2 + m) = vB := ⟨_, rfl⟩
          rw [hA] at bA hev; rw [hBv] at bB hev
          have EA := Go.Lib.hid hA; have EB := Go.Lib.hid hBv
          clear hA hBv bT
          have htd := tdiv2 (t := vA + vB) (by omega)
          have hw1 : IntKind.i16.wrap (vA + vB) = vA + vB := IntWalk.i16_in _ (by omega)
          have hw2 : IntKind.i16.wrap ((vA + vB).tdiv 2) = (vA + vB).tdiv 2 := IntWalk.i16_in _ (by omega)
          have hw3 : IntKind.i16.wrap (vA + vB - (vA + vB).tdiv 2) = vA + vB - (vA + vB).tdiv 2 := IntWalk.i16_in _ (by omega)
          have hmI : (m : Int) < 3 := by omega
          have hm0 : (0 : Int) ≤ (m : Int) := by omega
          have hmd : decide ((m : Int) < 3) = true := by simpa using hmI
          replace P := Go.Lib.hid P; replace Z := Go.Lib.hid Z; replace hB := Go.Lib.hid hB
          go_wp2
          refine region_at (by kernel_rfl) (by kernel_rfl) ?_
          intro W hW
          rw [hW] at hB P Z
          clear hW
          have P' := Go.Lib.hid (cls_row' P.out)
          (repeat (first
            | go_big_quiet_skip
            | (refine wpQuiet_load1 23 _ rfl (by first | exact want_n rfl | exact want_g _ _ _ rfl rfl rfl) w.heap.size _ rfl 266 T.at _ rw_i16 P'.out (by omega) ?_; (first | rw [Sh.at_dye1 T _ (24 * j + 3 * i + m) (by omega) (by omega), EA.out] | rw [Sh.at_dye1 T _ (24 * j2 + 3 * i2 + m) (by omega) (by omega), EB.out]); simp only [Act.put, List.setIfInBounds_toArray, List.set_cons_succ, List.set_cons_zero])
            | go_big_quiet_step (fail)))
          refine wpQuiet_nil ?_
          intro W2 hb
          replace P := Go.Lib.hid (row_next hb P.out); replace Z := Go.Lib.hid (row_next hb Z.out); replace hB := Go.Lib.hid (below_next hB.out hb)
          clear hb P'
          go_wp2_with (first
            | go_skip
            | ((with_reducible refine wlOp (.store 23 (.tmp 54) (.tmp 52)) rfl ?_); refine wpList_store1 rfl 23 (.tmp 54) (.tmp 52) rfl w.heap.size _ rfl 266 T.at (.int .i16 ((vA + vB).tdiv 2)) rfl 36 size_i16 P.out (by omega) rfl ?_; rw [Sh.ed_at T _ (24 * j2 + 3 * i2 + m) (by omega) (by omega)]; replace P := Go.Lib.hid (row_set P.out (vrow 266 (T.ed (24 * j2 + 3 * i2 + m) ((vA + vB).tdiv 2)).at)); replace Z := Go.Lib.hid (row_set' (g := w.heap.size) (by omega) Z.out (vrow 266 (T.ed (24 * j2 + 3 * i2 + m) ((vA + vB).tdiv 2)).at)); replace hB := Go.Lib.hid (Below_setRow hB.out (Nat.le_refl _) (vrow 266 (T.ed (24 * j2 + 3 * i2 + m) ((vA + vB).tdiv 2)).at)); obtain ⟨W3, hW3⟩ : ∃ W3, W2.setRow w.heap.size (vrow 266 (T.ed (24 * j2 + 3 * i2 + m) ((vA + vB).tdiv 2)).at) = W3 := ⟨_, rfl⟩; rw [hW3] at P Z hB ⊢; clear hW3))
          have ES := Go.Lib.hid (Sh.ed_self T (24 * j2 + 3 * i2 + m) ((vA + vB).tdiv 2))
          generalize T.ed (24 * j2 + 3 * i2 + m) ((vA + vB).tdiv 2) = T2 at *
          (try simp only [Act.put])
          refine region_qt 11 (by kernel_rfl) (by kernel_rfl) ?_
          intro W hW
          rw [hW] at hB P Z
          clear hW
          simp only [List.take_succ_cons, List.take_zero, List.drop_succ_cons, List.drop_zero]
          have P' := Go.Lib.hid (cls_row' P.out)
          (repeat (first
            | go_big_quiet_skip
            | (refine wpQuiet_load1 23 _ rfl (by first | exact want_n rfl | exact want_g _ _ _ rfl rfl rfl) w.heap.size _ rfl 266 T2.at _ rw_i16 P'.out (by omega) ?_; rw [Sh.at_dye1 T2 _ (24 * j2 + 3 * i2 + m) (by omega) (by omega), ES.out]; simp only [Act.put, List.setIfInBounds_toArray, List.set_cons_succ, List.set_cons_zero])
            | go_big_quiet_step (fail)))
          refine wpQuiet_nil ?_
          intro W5 hb
          replace P := Go.Lib.hid (row_next hb P.out); replace Z := Go.Lib.hid (row_next hb Z.out); replace hB := Go.Lib.hid (below_next hB.out hb)
          clear hb P'
          refine wpList_store1 rfl 23 (.tmp 65) (.tmp 63) rfl w.heap.size _ rfl 266 T2.at (.int .i16 (vA + vB - (vA + vB).tdiv 2)) rfl 36 size_i16 P.out (by omega) rfl ?_
          rw [Sh.ed_at T2 _ (24 * j + 3 * i + m) (by omega) (by omega)]
          have P5 := row_set P.out (vrow 266 (T2.ed (24 * j + 3 * i + m) (vA + vB - (vA + vB).tdiv 2)).at)
          have Z5 := row_set' (g := w.heap.size) (by omega) Z.out (vrow 266 (T2.ed (24 * j + 3 * i + m) (vA + vB - (vA + vB).tdiv 2)).at)
          have B5 := Below_setRow hB.out (Nat.le_refl _) (vrow 266 (T2.ed (24 * j + 3 * i + m) (vA + vB - (vA + vB).tdiv 2)).at)
          go_wp2
          go_roundw
          case rel => exact ⟨m + 1, by omega, by go_num, by rw [hst.out, hev.out]; exact P5, Z5, B5⟩
          case measure => simp [intOf]; omega
        · obtain rfl : m = 3 := by omega
          have hmd : decide (((3 : Nat) : Int) < 3) = false := by simp
          go_wp2
          go_roundw
          case rel => exact ⟨k + 1, by omega, by go_num, by rw [HAP.out]; exact P, Z, hB⟩
          case measure => simp [intOf]; omega
    · obtain rfl : k = L.length := by omega
      rw [List.take_length] at P
      have hkd : decide ((L.length : Int) < (L.length : Int)) = false := by simp
      obtain ⟨S, hS⟩ : ∃ S, evL s ax d L = S := ⟨_, rfl⟩
      rw [hS] at P
      have HS := Go.Lib.hid hS
      clear hS
      replace P := Go.Lib.hid P; replace Z := Go.Lib.hid Z; replace hB := Go.Lib.hid hB
      go_wp2_with (first
        | go_skip
        | ((with_reducible refine wlAt 68 rfl ?_); refine wpList_loadall rfl 36 (.tmp 2) rfl w.heap.size rfl 266 S.at 36 _ Tryd.underlying36 rfl size_sheet P.out ?_)
        | ((with_reducible refine wlOp (.store 36 (.tmp 4) (.tmp 68)) rfl ?_); refine wpList_storeall rfl 36 (.tmp 4) (.tmp 68) rfl (w.heap.size + 1) rfl 266 Sh.zero.at S.at rfl 36 size_sheet Z.out (fun i _ => Sh.one _ i) ?_))
      exact ret_row Tryd.results30 (w.heap.size + 1) 266 S.at 36 _ Tryd.underlying36 rfl size_sheet rfl rfl (row_set Z.out _) ⟨by rw [HS.out], Below_setRow hB.out (by omega) _⟩
end Go.Proofs.YtlgeemlbilngaaaDoor
