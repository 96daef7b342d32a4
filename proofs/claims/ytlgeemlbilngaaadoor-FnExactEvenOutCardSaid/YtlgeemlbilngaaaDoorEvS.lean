import Derived.Test.YtlgeemlbilngaaaDoorEvM
import Derived.Test.YtlgeemlbilngaaaDoorLPairs
import Derived.Test.YtlgeemlbilngaaaDoorQT
namespace Go.Proofs.YtlgeemlbilngaaaDoor
open Go.RowKit
set_option maxRecDepth 100000
set_option linter.unusedVariables false
set_option linter.unusedSimpArgs false
set_option maxHeartbeats 4000000 in
theorem specE_err (s : Sh) (ax : Int) (d : Bool) (p : Int) (w : World) (hf : s.fit) (hax : -128 ≤ ax ∧ ax ≤ 127) (hap : -128 ≤ p ∧ p ≤ 127) (c : Int) (hc : askC (okI s) (foldOk s ax d p) true = c) (h0 : (c != 0) = true) : Calls Tryd.prog 12 #[.agg s.row, .agg #[.int .i8 ax, .bool d, .int .i8 p]] w fun e w' => e = .returned (.tuple #[.agg Sh.zero.row, .int .i64 c]) ∧ Below w.heap.size w w' := by
  have HA := Go.Lib.hid fun W h => asked_any s w.heap.size ax d p true W h hf hax hap
  have e1 : askC (okB s) (foldOk s ax d p) true = c := by rw [← ok_eq s hf]; exact hc
  rw [e1, fo_vrow] at HA
  rw [fo_vrow]
  clear hc e1
  have zz := zero_sheet
  have hB : Hid (Below w.heap.size w (((w.alloc (.cells (vrow 266 s.at) 36)).alloc (.cells (vrow 3 (foAt ax d p)) 38)).alloc (.cells (vrow 266 Sh.zero.at) 36))) := Go.Lib.hid ((((Below.refl w.heap.size w).alloc (by simp <;> omega) _).alloc (by simp <;> omega) _).alloc (by simp <;> omega) _)
  have P : Hid ((((w.alloc (.cells (vrow 266 s.at) 36)).alloc (.cells (vrow 3 (foAt ax d p)) 38)).alloc (.cells (vrow 266 Sh.zero.at) 36)).heap[w.heap.size]? = some (.cells (vrow 266 s.at) 36)) := heap_past _ _ _ _ (by simp <;> omega) (heap_past _ _ _ _ (by simp <;> omega) (heap_at _ _ _ (by simp)))
  have F : Hid ((((w.alloc (.cells (vrow 266 s.at) 36)).alloc (.cells (vrow 3 (foAt ax d p)) 38)).alloc (.cells (vrow 266 Sh.zero.at) 36)).heap[w.heap.size + 1]? = some (.cells (vrow 3 (foAt ax d p)) 38)) := heap_past _ _ _ _ (by simp <;> omega) (heap_at _ _ _ (by simp))
  have Z : Hid ((((w.alloc (.cells (vrow 266 s.at) 36)).alloc (.cells (vrow 3 (foAt ax d p)) 38)).alloc (.cells (vrow 266 Sh.zero.at) 36)).heap[w.heap.size + 2]? = some (.cells (vrow 266 Sh.zero.at) 36)) := heap_at _ _ _ (by simp)
  go_enter Tryd.func12, Tryd.ntmps12
  go_wp2_with (first
    | go_skip
    | ((with_reducible refine wlAt 13 rfl ?_); refine wpList_loadall rfl 38 (.tmp 3) rfl (w.heap.size + 1) rfl 3 (foAt ax d p) 38 _ Tryd.underlying38 rfl size_fold F.out ?_)
    | (go_at_call 15; (refine (HA.out _ P.out).mono ?_); rintro o w1 ⟨rfl, hb⟩; replace P := Go.Lib.hid (row_next hb P.out); replace F := Go.Lib.hid (row_next hb F.out); replace Z := Go.Lib.hid (row_next hb Z.out); replace hB := Go.Lib.hid (below_next hB.out hb); clear hb)
    | ((with_reducible refine wlOp (.store 36 (.tmp 4) (.tmp 17)) rfl ?_); refine wpList_storeall rfl 36 (.tmp 4) (.tmp 17) rfl (w.heap.size + 2) rfl 266 Sh.zero.at Sh.zero.at rfl 36 size_sheet Z.out (fun i _ => Sh.one _ i) ?_; replace Z := Go.Lib.hid (row_set Z.out (vrow 266 Sh.zero.at)); replace hB := Go.Lib.hid (Below_setRow hB.out (show w.heap.size ≤ w.heap.size + 2 by omega) (vrow 266 Sh.zero.at)))
    | fail)
  refine ret_row2 Tryd.results12 (w.heap.size + 2) 266 Sh.zero.at 36 _ Tryd.underlying36 rfl size_sheet (.int .i64 c) rfl rfl rfl Z.out ⟨rfl, hB.out⟩
set_option maxRecDepth 100000 in
set_option maxHeartbeats 16000000 in
theorem specE_ok (s : Sh) (a c : Nat) (ax : Int) (d : Bool) (pr : Int) (w : World) (hf : s.fit) (hb0 : bdS s) (hax : -128 ≤ ax ∧ ax ≤ 127) (hap : -128 ≤ pr ∧ pr ≤ 127) (hc : askC (okI s) (foldOk s ax d pr) true = 0) (hax2 : 1 ≤ ax ∧ ax ≤ 8) (ea : s.wide = a) (ec : s.high = c) (ha : 1 ≤ a ∧ a ≤ 8) (hcc : 1 ≤ c ∧ c ≤ 8) : Calls Tryd.prog 12 #[.agg s.row, .agg #[.int .i8 ax, .bool d, .int .i8 pr]] w fun e w' => e = .returned (.tuple #[.agg (evL s ax d (prsL s a c ax d)).row, .int .i64 0]) ∧ Below w.heap.size w w' := by
  have HA := Go.Lib.hid fun W h => asked_any s w.heap.size ax d pr true W h hf hax hap
  have e1 : askC (okB s) (foldOk s ax d pr) true = 0 := by rw [← ok_eq s hf]; exact hc
  rw [e1, fo_vrow] at HA
  rw [fo_vrow]
  have HL := Go.Lib.hid fun W h => lpairs_any s w.heap.size a c ax d pr W h hf hax2 ea ec ha hcc
  have hin := prsL_in s (a := a) (c := c) (ax := ax) (d := d) ha.2 hcc.2
  have hlen := prsL_len s (a := a) (c := c) (ax := ax) (d := d) ha.2 hcc.2
  have hbd := fun M : List Sp8 => evL_bd hb0 ax d M.length M rfl
  generalize prsL s a c ax d = L at *
  clear hc e1 ea ec
  have zz := zero_sheet
  have zs := zero_spot
  have P : Hid ((((w.alloc (.cells (vrow 266 s.at) 36)).alloc (.cells (vrow 3 (foAt ax d pr)) 38)).alloc (.cells (vrow 266 Sh.zero.at) 36)).heap[w.heap.size]? = some (.cells (vrow 266 s.at) 36)) := (heap_past _ _ _ _ (by simp <;> omega) (heap_past _ _ _ _ (by simp <;> omega) (heap_at _ _ _ (by simp))))
  have F : Hid ((((w.alloc (.cells (vrow 266 s.at) 36)).alloc (.cells (vrow 3 (foAt ax d pr)) 38)).alloc (.cells (vrow 266 Sh.zero.at) 36)).heap[w.heap.size + 1]? = some (.cells (vrow 3 (foAt ax d pr)) 38)) := (heap_past _ _ _ _ (by simp <;> omega) (heap_at _ _ _ (by simp)))
  have Z : Hid ((((w.alloc (.cells (vrow 266 s.at) 36)).alloc (.cells (vrow 3 (foAt ax d pr)) 38)).alloc (.cells (vrow 266 Sh.zero.at) 36)).heap[w.heap.size + 2]? = some (.cells (vrow 266 Sh.zero.at) 36)) := (heap_at _ _ _ (by simp))
  have hB : Hid (Below w.heap.size w (((w.alloc (.cells (vrow 266 s.at) 36)).alloc (.cells (vrow 3 (foAt ax d pr)) 38)).alloc (.cells (vrow 266 Sh.zero.at) 36))) := Go.Lib.hid ((((Below.refl w.heap.size w).alloc (by simp <;> omega) _).alloc (by simp <;> omega) _).alloc (by simp <;> omega) _)
  go_enter Tryd.func12, Tryd.ntmps12
  go_wp2_with (first
    | go_skip
    | ((first | (with_reducible refine wlAt 13 rfl ?_) | (with_reducible refine wlAt 19 rfl ?_)); refine wpList_loadall rfl 38 (.tmp 3) rfl (w.heap.size + 1) rfl 3 (foAt ax d pr) 38 _ Tryd.underlying38 rfl size_fold F.out ?_)
    | (go_at_call 15; (refine (HA.out _ P.out).mono ?_); rintro o w1 ⟨rfl, hb⟩; replace P := Go.Lib.hid (row_next hb P.out); replace F := Go.Lib.hid (row_next hb F.out); replace Z := Go.Lib.hid (row_next hb Z.out); replace hB := Go.Lib.hid (below_next hB.out hb); clear hb)
    | (go_at_call 27; (refine (HL.out _ P.out).mono ?_); rintro o w2 ⟨v, rfl, hO, hb⟩; have hz1 := row_lt Z.out; replace P := Go.Lib.hid (row_next hb P.out); replace F := Go.Lib.hid (row_next hb F.out); replace Z := Go.Lib.hid (row_next hb Z.out); replace hB := Go.Lib.hid (below_next hB.out hb); clear hb; obtain ⟨ao, cc, rfl, hr⟩ := own_pro hO; clear hO))
  have P0 := P.out; have Z0 := Z.out; have B0 := hB.out
  clear P Z hB HA HL F
  go_loopw [8] (fun iv wr => ∃ k : Nat, k ≤ L.length ∧ iv = .int .i64 k ∧ wr.heap[w.heap.size]? = some (.cells (vrow 266 (evL s ax d (L.take k)).at) 36) ∧ wr.heap[w.heap.size + 2]? = some (.cells (vrow 266 Sh.zero.at) 36) ∧ (∀ (g : Nat) X, w.heap.size + 3 ≤ g → w2.heap[g]? = some X → wr.heap[g]? = some X) ∧ Below w.heap.size w wr) (fun iv _ => L.length - (intOf iv).toNat)
  case atStart => exact ⟨0, by omega, rfl, P0, Z0, fun _ _ _ h => h, B0⟩
  case round =>
    clear P0 B0 Z0
    obtain ⟨k, hk, rfl, P, Z, hKp, hB⟩ := hrel
    by_cases hlt : k < L.length
    · rcases hr with h0 | ⟨g, N, f, rfl, hg, hN, hrow, hf4⟩
      · omega
      have Gr := Go.Lib.hid (hKp g _ (by omega) hrow)
      obtain ⟨⟨⟨i, j⟩, hi8, hj8⟩, hp⟩ : ∃ p, L[k]'hlt = p := ⟨_, rfl⟩
      have h4 := hf4 k hlt
      have hin1 := hin _ (List.getElem_mem hlt)
      have hap9 := evL_app s ax d (L.take k) ⟨(i, j), hi8, hj8⟩
      rw [← show L.take (k + 1) = L.take k ++ [⟨(i, j), hi8, hj8⟩] by rw [List.take_succ_eq_append_getElem hlt, hp]] at hap9
      rw [hp] at h4 hin1
      obtain ⟨fx0, fx1, fx2, fx3⟩ := p4_lo h4
      simp only at fx0 fx1 fx2 fx3 hin1
      obtain ⟨⟨⟨i2, j2⟩, hi2, hj2⟩, hsg⟩ : ∃ p, sgP ax d ⟨(i, j), hi8, hj8⟩ = p := ⟨_, rfl⟩
      rw [hsg] at hin1 hap9
      simp only at hin1
      rw [← hin1.1] at fx2; rw [← hin1.2] at fx3
      have hap2 : evL s ax d (L.take (k + 1)) = evC (evL s ax d (L.take k)) (24 * j + 3 * i) (24 * j2 + 3 * i2) 3 := hap9
      have bS := hbd (L.take k)
      replace hi8 : i < 8 := hi8
      replace hj8 : j < 8 := hj8
      replace hi2 : i2 < 8 := hi2
      replace hj2 : j2 < 8 := hj2
      have hR0 : vrow 2 (fun q => f (k * 4 + q)) = vrow 2 (spAt i j) := vrow_ext _ _ _ fun q hq => by
        have hq2 : q = 0 ∨ q = 1 := by omega
        rcases hq2 with rfl | rfl
        · rw [Nat.add_zero, fx0]; rfl
        · rw [fx1]; rfl
      have hR1 : vrow 2 (fun q => f (k * 4 + 2 + q)) = vrow 2 (spAt i2 j2) := vrow_ext _ _ _ fun q hq => by
        have hq2 : q = 0 ∨ q = 1 := by omega
        rcases hq2 with rfl | rfl
        · rw [Nat.add_zero, fx2]; rfl
        · rw [show k * 4 + 2 + 1 = k * 4 + 3 by omega, fx3]; rfl
      have HR0 := Go.Lib.hid hR0; have HR1 := Go.Lib.hid hR1; have HAP := Go.Lib.hid hap2
      replace hKp := Go.Lib.hid hKp
      clear hR0 hR1 fx0 fx1 fx2 fx3 h4 hin1 hsg hp hf4 hrow hap9 hap2 hbd
      generalize evL s ax d (L.take k) = S at *
      replace P := Go.Lib.hid P; replace Z := Go.Lib.hid Z; replace hB := Go.Lib.hid hB
      have hkI : (k : Int) < (L.length : Int) := by omega
      have hk0 : (0 : Int) ≤ (k : Int) := by omega
      have hkd : decide ((k : Int) < (L.length : Int)) = true := by simpa using hkI
      have hiI : (i : Int) < 8 := by omega
      have hjI : (j : Int) < 8 := by omega
      have hi2I : (i2 : Int) < 8 := by omega
      have hj2I : (j2 : Int) < 8 := by omega
      go_wp2_with (first
        | go_skip
        | ((with_reducible refine wlAt 31 rfl ?_); refine wpList_loadmid rfl 62 (.tmp 30) rfl g (k * 4) rfl N 2 f 63 _ Tryd.underlying62 rfl size_spot Gr.out (by omega) ?_; rw [HR0.out])
        | ((with_reducible refine wlOp (.store 62 (.tmp 9) (.tmp 31)) rfl ?_); refine wpList_storeall rfl 62 (.tmp 9) (.tmp 31) rfl _ rfl 2 (spAt 0 0) (spAt i j) rfl 62 size_spot (heap_at _ _ _ rfl) (fun i _ => spAt_one _ _ i) ?_; rw [setRow_at _ _ _ _ _ rfl]; have X := Go.Lib.hid (heap_at wr (.cells (vrow 2 (spAt i j)) 62) _ rfl); have hlxb : w.heap.size + 3 ≤ wr.heap.size := (by have := row_lt Z.out; omega); replace P := Go.Lib.hid (heap_past wr (.cells (vrow 2 (spAt i j)) 62) _ _ (row_lt P.out) P.out); replace Z := Go.Lib.hid (heap_past wr (.cells (vrow 2 (spAt i j)) 62) _ _ (row_lt Z.out) Z.out); replace Gr := Go.Lib.hid (heap_past wr (.cells (vrow 2 (spAt i j)) 62) _ _ (row_lt Gr.out) Gr.out); replace hKp := Go.Lib.hid (fun (g : Nat) X h3 (h : w2.heap[g]? = some X) => heap_past wr (.cells (vrow 2 (spAt i j)) 62) _ _ (row_lt (hKp.out g X h3 h)) (hKp.out g X h3 h)); replace hB := Go.Lib.hid (hB.out.alloc hB.out.size (.cells (vrow 2 (spAt i j)) 62)); obtain ⟨xb, hxb⟩ : ∃ xb, wr.heap.size = xb := ⟨_, rfl⟩; rw [hxb] at X hlxb ⊢; obtain ⟨Wx, hWx⟩ : ∃ Wx, wr.alloc (.cells (vrow 2 (spAt i j)) 62) = Wx := ⟨_, rfl⟩; rw [hWx] at P Z Gr X hB hKp ⊢; clear hxb hWx)
        | ((with_reducible refine wlAt 36 rfl ?_); refine wpList_loadmid rfl 62 (.tmp 35) rfl g (k * 4 + 2) rfl N 2 f 63 _ Tryd.underlying62 rfl size_spot Gr.out (by omega) ?_; rw [HR1.out])
        | ((with_reducible refine wlOp (.store 62 (.tmp 10) (.tmp 36)) rfl ?_); refine wpList_storeall rfl 62 (.tmp 10) (.tmp 36) rfl _ rfl 2 (spAt 0 0) (spAt i2 j2) rfl 62 size_spot (heap_at _ _ _ rfl) (fun i _ => spAt_one _ _ i) ?_; rw [setRow_at _ _ _ _ _ rfl]; have Y := Go.Lib.hid (heap_at Wx (.cells (vrow 2 (spAt i2 j2)) 62) _ rfl); have hlyb : w.heap.size + 3 ≤ Wx.heap.size := (by have := row_lt Z.out; omega); replace P := Go.Lib.hid (heap_past Wx (.cells (vrow 2 (spAt i2 j2)) 62) _ _ (row_lt P.out) P.out); replace Z := Go.Lib.hid (heap_past Wx (.cells (vrow 2 (spAt i2 j2)) 62) _ _ (row_lt Z.out) Z.out); replace X := Go.Lib.hid (heap_past Wx (.cells (vrow 2 (spAt i2 j2)) 62) _ _ (row_lt X.out) X.out); replace hKp := Go.Lib.hid (fun (g : Nat) X h3 (h : w2.heap[g]? = some X) => heap_past Wx (.cells (vrow 2 (spAt i2 j2)) 62) _ _ (row_lt (hKp.out g X h3 h)) (hKp.out g X h3 h)); replace hB := Go.Lib.hid (hB.out.alloc hB.out.size (.cells (vrow 2 (spAt i2 j2)) 62)); obtain ⟨yb, hyb⟩ : ∃ yb, Wx.heap.size = yb := ⟨_, rfl⟩; rw [hyb] at Y hlyb ⊢; obtain ⟨Wy, hWy⟩ : ∃ Wy, Wx.alloc (.cells (vrow 2 (spAt i2 j2)) 62) = Wy := ⟨_, rfl⟩; rw [hWy] at P Z X Y hB hKp ⊢; clear hyb hWy))
      have P1 := P.out; have Z1 := Z.out; have X1 := X.out; have Y1 := Y.out; have K1 := hKp.out; have B1 := hB.out
      clear P Z X Y hKp hB Gr HR0 HR1
      go_loopw [11] (fun iv wz => ∃ m : Nat, m ≤ 3 ∧ iv = .int .i64 m ∧ wz.heap[w.heap.size]? = some (.cells (vrow 266 (evC S (24 * j + 3 * i) (24 * j2 + 3 * i2) m).at) 36) ∧ wz.heap[w.heap.size + 2]? = some (.cells (vrow 266 Sh.zero.at) 36) ∧ wz.heap[xb]? = some (.cells (vrow 2 (spAt i j)) 62) ∧ wz.heap[yb]? = some (.cells (vrow 2 (spAt i2 j2)) 62) ∧ (∀ (g : Nat) X, w.heap.size + 3 ≤ g → w2.heap[g]? = some X → wz.heap[g]? = some X) ∧ Below w.heap.size w wz) (fun iv _ => 3 - (intOf iv).toNat)
      case atStart => exact ⟨0, by omega, rfl, P1, Z1, X1, Y1, K1, B1⟩
      case round =>
        clear P1 Z1 X1 Y1 K1 B1
        obtain ⟨m, hm, rfl, P, Z, X, Y, hKp, hB⟩ := hrel
        by_cases hlm : m < 3
        · have bT := evC_bd bS (p := 24 * j + 3 * i) (q := 24 * j2 + 3 * i2) m (by omega) (by omega)
          have hst := Go.Lib.hid (show evC S (24 * j + 3 * i) (24 * j2 + 3 * i2) (m + 1) = evI (evC S (24 * j + 3 * i) (24 * j2 + 3 * i2) m) (24 * j + 3 * i) (24 * j2 + 3 * i2) m from rfl)
          generalize evC S (24 * j + 3 * i) (24 * j2 + 3 * i2) m = T at *
          have bA := bT (24 * j + 3 * i + m) (by omega); have bB := bT (24 * j2 + 3 * i2 + m) (by omega)
          have hev := Go.Lib.hid (show evI T (24 * j + 3 * i) (24 * j2 + 3 * i2) m = (T.ed (24 * j2 + 3 * i2 + m) ((T.dye (24 * j + 3 * i + m) + T.dye (24 * j2 + 3 * i2 + m)).tdiv 2)).ed (24 * j + 3 * i + m) (T.dye (24 * j + 3 * i + m) + T.dye (24 * j2 + 3 * i2 + m) - (T.dye (24 * j + 3 * i + m) + T.dye (24 * j2 + 3 * i2 + m)).tdiv 2) from rfl)
          obtain ⟨vA, hA⟩ : ∃ vA, T.dye (24 * j + 3 * i + m) = vA := ⟨_, rfl⟩
          obtain ⟨vB, hBv⟩ : ∃ vB, T.dye (24 * j2 + 3 * i2 + m) = vB := ⟨_, rfl⟩
          rw [hA] at bA hev; rw [hBv] at bB hev
          have EA := Go.Lib.hid hA; have EB := Go.Lib.hid hBv
          clear hA hBv bT
          have htd := tdiv2 (t := vA + vB) (by omega)
          have hw1 : IntKind.i16.wrap (vA + vB) = vA + vB := IntWalk.i16_in _ (by omega)
          have hw2 : IntKind.i16.wrap ((vA + vB).tdiv 2) = (vA + vB).tdiv 2 := IntWalk.i16_in _ (by omega)
          have hw3 : IntKind.i16.wrap (vA + vB - (vA + vB).tdiv 2) = vA + vB - (vA + vB).tdiv 2 := IntWalk.i16_in _ (by omega)
          have hmI : (m : Int) < 3 := by omega
          have hm0 : (0 : Int) ≤ (m : Int) := by omega
          have hmd : decide ((m : Int) < 3) = true := by simpa using hmI
          replace P := Go.Lib.hid P; replace Z := Go.Lib.hid Z; replace X := Go.Lib.hid X; replace Y := Go.Lib.hid Y; replace hKp := Go.Lib.hid hKp; replace hB := Go.Lib.hid hB
          go_wp2
          refine region_at (by kernel_rfl) (by kernel_rfl) ?_
          intro W hW
          rw [hW] at hB P Z X Y hKp
          clear hW
          have P' := Go.Lib.hid (cls_row' P.out); have X' := Go.Lib.hid (cls_row' X.out); have Y' := Go.Lib.hid (cls_row' Y.out)
          (repeat (first
            | go_big_quiet_skip
            | (refine wpQuiet_load1 22 _ rfl (by first | exact want_n rfl | exact want_g _ _ _ rfl rfl rfl) xb _ rfl 2 (spAt i j) _ rw_i8 X'.out (by omega) ?_; (first | rw [spAt_0] | rw [spAt_1]); simp only [Act.put, List.setIfInBounds_toArray, List.set_cons_succ, List.set_cons_zero])
            | (refine wpQuiet_load1 22 _ rfl (by first | exact want_n rfl | exact want_g _ _ _ rfl rfl rfl) yb _ rfl 2 (spAt i2 j2) _ rw_i8 Y'.out (by omega) ?_; (first | rw [spAt_0] | rw [spAt_1]); simp only [Act.put, List.setIfInBounds_toArray, List.set_cons_succ, List.set_cons_zero])
            | (refine wpQuiet_load1 23 _ rfl (by first | exact want_n rfl | exact want_g _ _ _ rfl rfl rfl) w.heap.size _ rfl 266 T.at _ rw_i16 P'.out (by omega) ?_; (first | rw [Sh.at_dye1 T _ (24 * j + 3 * i + m) (by omega) (by omega), EA.out] | rw [Sh.at_dye1 T _ (24 * j2 + 3 * i2 + m) (by omega) (by omega), EB.out]); simp only [Act.put, List.setIfInBounds_toArray, List.set_cons_succ, List.set_cons_zero])
            | go_big_quiet_step (fail)))
          refine wpQuiet_nil ?_
          intro W2 hb
          replace P := Go.Lib.hid (row_next hb P.out); replace Z := Go.Lib.hid (row_next hb Z.out); replace X := Go.Lib.hid (row_next hb X.out); replace Y := Go.Lib.hid (row_next hb Y.out); replace hB := Go.Lib.hid (below_next hB.out hb); replace hKp := Go.Lib.hid (fun (g : Nat) X h3 (h : w2.heap[g]? = some X) => row_next hb (hKp.out g X h3 h))
          clear hb P' X' Y'
          go_wp2
          refine region_qt 11 (by kernel_rfl) (by kernel_rfl) ?_
          intro W hW
          rw [hW] at hB P Z X Y hKp
          clear hW
          simp only [List.take_succ_cons, List.take_zero, List.drop_succ_cons, List.drop_zero]
          have P' := Go.Lib.hid (cls_row' P.out); have X' := Go.Lib.hid (cls_row' X.out); have Y' := Go.Lib.hid (cls_row' Y.out)
          (repeat (first
            | go_big_quiet_skip
            | (refine wpQuiet_load1 22 _ rfl (by first | exact want_n rfl | exact want_g _ _ _ rfl rfl rfl) yb _ rfl 2 (spAt i2 j2) _ rw_i8 Y'.out (by omega) ?_; (first | rw [spAt_0] | rw [spAt_1]); simp only [Act.put, List.setIfInBounds_toArray, List.set_cons_succ, List.set_cons_zero])
            | go_big_quiet_step (fail)))
          refine wpQuiet_nil ?_
          intro W3 hb
          replace P := Go.Lib.hid (row_next hb P.out); replace Z := Go.Lib.hid (row_next hb Z.out); replace X := Go.Lib.hid (row_next hb X.out); replace Y := Go.Lib.hid (row_next hb Y.out); replace hB := Go.Lib.hid (below_next hB.out hb); replace hKp := Go.Lib.hid (fun (g : Nat) X h3 (h : w2.heap[g]? = some X) => row_next hb (hKp.out g X h3 h))
          clear hb P' X' Y'
          refine wpList_store1 rfl 23 (.tmp 72) (.tmp 68) rfl w.heap.size _ rfl 266 T.at (.int .i16 ((vA + vB).tdiv 2)) rfl 36 size_i16 P.out (by omega) rfl ?_
          rw [Sh.ed_at T _ (24 * j2 + 3 * i2 + m) (by omega) (by omega)]
          replace P := Go.Lib.hid (row_set P.out (vrow 266 (T.ed (24 * j2 + 3 * i2 + m) ((vA + vB).tdiv 2)).at)); replace Z := Go.Lib.hid (row_set' (g := w.heap.size) (by omega) Z.out (vrow 266 (T.ed (24 * j2 + 3 * i2 + m) ((vA + vB).tdiv 2)).at)); replace X := Go.Lib.hid (row_set' (g := w.heap.size) (by omega) X.out (vrow 266 (T.ed (24 * j2 + 3 * i2 + m) ((vA + vB).tdiv 2)).at)); replace Y := Go.Lib.hid (row_set' (g := w.heap.size) (by omega) Y.out (vrow 266 (T.ed (24 * j2 + 3 * i2 + m) ((vA + vB).tdiv 2)).at)); replace hKp := Go.Lib.hid (fun (g : Nat) X h3 (h : w2.heap[g]? = some X) => row_set' (g := w.heap.size) (by omega) (hKp.out g X h3 h) (vrow 266 (T.ed (24 * j2 + 3 * i2 + m) ((vA + vB).tdiv 2)).at)); replace hB := Go.Lib.hid (Below_setRow hB.out (Nat.le_refl _) (vrow 266 (T.ed (24 * j2 + 3 * i2 + m) ((vA + vB).tdiv 2)).at))
          obtain ⟨W4, hW4⟩ : ∃ W4, W3.setRow w.heap.size (vrow 266 (T.ed (24 * j2 + 3 * i2 + m) ((vA + vB).tdiv 2)).at) = W4 := ⟨_, rfl⟩
          rw [hW4] at P Z X Y hKp hB ⊢
          clear hW4
          go_wp2
          generalize T.ed (24 * j2 + 3 * i2 + m) ((vA + vB).tdiv 2) = T2 at *
          (try simp only [Act.put])
          refine region_qt 13 (by kernel_rfl) (by kernel_rfl) ?_
          intro W hW
          rw [hW] at hB P Z X Y hKp
          clear hW
          simp only [List.take_succ_cons, List.take_zero, List.drop_succ_cons, List.drop_zero]
          have P' := Go.Lib.hid (cls_row' P.out); have X' := Go.Lib.hid (cls_row' X.out); have Y' := Go.Lib.hid (cls_row' Y.out)
          (repeat (first
            | go_big_quiet_skip
            | (refine wpQuiet_load1 22 _ rfl (by first | exact want_n rfl | exact want_g _ _ _ rfl rfl rfl) xb _ rfl 2 (spAt i j) _ rw_i8 X'.out (by omega) ?_; (first | rw [spAt_0] | rw [spAt_1]); simp only [Act.put, List.setIfInBounds_toArray, List.set_cons_succ, List.set_cons_zero])
            | go_big_quiet_step (fail)))
          refine wpQuiet_nil ?_
          intro W5 hb
          replace P := Go.Lib.hid (row_next hb P.out); replace Z := Go.Lib.hid (row_next hb Z.out); replace X := Go.Lib.hid (row_next hb X.out); replace Y := Go.Lib.hid (row_next hb Y.out); replace hB := Go.Lib.hid (below_next hB.out hb); replace hKp := Go.Lib.hid (fun (g : Nat) X h3 (h : w2.heap[g]? = some X) => row_next hb (hKp.out g X h3 h))
          clear hb P' X' Y'
          refine wpList_store1 rfl 23 (.tmp 85) (.tmp 81) rfl w.heap.size _ rfl 266 T2.at (.int .i16 (vA + vB - (vA + vB).tdiv 2)) rfl 36 size_i16 P.out (by omega) rfl ?_
          rw [Sh.ed_at T2 _ (24 * j + 3 * i + m) (by omega) (by omega)]
          replace P := Go.Lib.hid (row_set P.out (vrow 266 (T2.ed (24 * j + 3 * i + m) (vA + vB - (vA + vB).tdiv 2)).at)); replace Z := Go.Lib.hid (row_set' (g := w.heap.size) (by omega) Z.out (vrow 266 (T2.ed (24 * j + 3 * i + m) (vA + vB - (vA + vB).tdiv 2)).at)); replace X := Go.Lib.hid (row_set' (g := w.heap.size) (by omega) X.out (vrow 266 (T2.ed (24 * j + 3 * i + m) (vA + vB - (vA + vB).tdiv 2)).at)); replace Y := Go.Lib.hid (row_set' (g := w.heap.size) (by omega) Y.out (vrow 266 (T2.ed (24 * j + 3 * i + m) (vA + vB - (vA + vB).tdiv 2)).at)); replace hKp := Go.Lib.hid (fun (g : Nat) X h3 (h : w2.heap[g]? = some X) => row_set' (g := w.heap.size) (by omega) (hKp.out g X h3 h) (vrow 266 (T2.ed (24 * j + 3 * i + m) (vA + vB - (vA + vB).tdiv 2)).at)); replace hB := Go.Lib.hid (Below_setRow hB.out (Nat.le_refl _) (vrow 266 (T2.ed (24 * j + 3 * i + m) (vA + vB - (vA + vB).tdiv 2)).at))
          obtain ⟨W6, hW6⟩ : ∃ W6, W5.setRow w.heap.size (vrow 266 (T2.ed (24 * j + 3 * i + m) (vA + vB - (vA + vB).tdiv 2)).at) = W6 := ⟨_, rfl⟩
          rw [hW6] at P Z X Y hKp hB ⊢
          clear hW6
          go_wp2
          go_roundw
          case rel => exact ⟨m + 1, by omega, by go_num, by rw [hst.out, hev.out]; exact P.out, Z.out, X.out, Y.out, hKp.out, hB.out⟩
          case measure => simp [intOf]; omega
        · obtain rfl : m = 3 := by omega
          have hmd : decide (((3 : Nat) : Int) < 3) = false := by simp
          go_wp2
          go_roundw
          case rel => exact ⟨k + 1, by omega, by go_num, by rw [HAP.out]; exact P, Z, hKp, hB⟩
          case measure => simp [intOf]; omega
    · obtain rfl : k = L.length := by omega
      rw [List.take_length] at P
      have hkd : decide ((L.length : Int) < (L.length : Int)) = false := by simp
      obtain ⟨S, hS⟩ : ∃ S, evL s ax d L = S := ⟨_, rfl⟩
      rw [hS] at P
      have HS := Go.Lib.hid hS
      clear hS
      replace P := Go.Lib.hid P; replace Z := Go.Lib.hid Z; replace hB := Go.Lib.hid hB
      go_wp2_with (first
        | go_skip
        | ((with_reducible refine wlAt 86 rfl ?_); refine wpList_loadall rfl 36 (.tmp 2) rfl w.heap.size rfl 266 S.at 36 _ Tryd.underlying36 rfl size_sheet P.out ?_)
        | ((with_reducible refine wlOp (.store 36 (.tmp 4) (.tmp 86)) rfl ?_); refine wpList_storeall rfl 36 (.tmp 4) (.tmp 86) rfl (w.heap.size + 2) rfl 266 Sh.zero.at S.at rfl 36 size_sheet Z.out (fun i _ => Sh.one _ i) ?_; replace Z := Go.Lib.hid (row_set Z.out (vrow 266 S.at)); replace hB := Go.Lib.hid (Below_setRow hB.out (show w.heap.size ≤ w.heap.size + 2 by omega) (vrow 266 S.at))))
      exact ret_row2 Tryd.results12 (w.heap.size + 2) 266 S.at 36 _ Tryd.underlying36 rfl size_sheet (.int .i64 0) rfl rfl rfl Z.out ⟨by rw [HS.out], hB.out⟩
end Go.Proofs.YtlgeemlbilngaaaDoor
