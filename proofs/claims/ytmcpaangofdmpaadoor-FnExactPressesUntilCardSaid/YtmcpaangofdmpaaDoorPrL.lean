import Derived.Test.YtmcpaangofdmpaaDoorPF1
import Derived.Test.YtmcpaangofdmpaaDoorLPairs
import Derived.Test.YtmcpaangofdmpaaDoorQT
import Derived.Test.YtmcpaangofdmpaaDoorLOff
namespace Go.Proofs.YtmcpaangofdmpaaDoor
open Go.RowKit
set_option maxRecDepth 100000
set_option linter.unusedVariables false
set_option linter.unusedSimpArgs false
theorem at_wet1 (s : Sh) (o j : Nat) (ho : o = 2 + j) (hj : j < 64) : s.at o = .int .i16 (s.wet j) := by
  unfold Sh.at; rw [if_neg (by omega), if_neg (by omega), if_pos (by omega), ho, show 2 + j - 2 = j by omega]
theorem size1_any (g : Int) (hg : -1000 ≤ g ∧ g ≤ 1000) (w : World) : Calls Tryd.prog 95 #[.int .i64 g] w fun e w' => e = .returned (.int .i64 (if 0 ≤ g then g else -g)) ∧ Below w.heap.size w w' := by
  have h := lsize_any g 0 (by omega) (by omega) w
  simpa using h
theorem prI_no {pr : Int} {s : Sh} {A B a b : Nat} (h : (0 < goes (s.dye A) (s.dye B) pr ∧ s.wet a = 0) ∨ (goes (s.dye A) (s.dye B) pr < 0 ∧ s.wet b = 0)) : prI pr s A B a b = (s, 0) := by unfold prI; rw [if_pos h]
theorem prI_yes {pr : Int} {s : Sh} {A B a b : Nat} (h : ¬((0 < goes (s.dye A) (s.dye B) pr ∧ s.wet a = 0) ∨ (goes (s.dye A) (s.dye B) pr < 0 ∧ s.wet b = 0))) : prI pr s A B a b = ((s.ed A (s.dye A - goes (s.dye A) (s.dye B) pr)).ed B (s.dye B + goes (s.dye A) (s.dye B) pr), if 0 ≤ goes (s.dye A) (s.dye B) pr then goes (s.dye A) (s.dye B) pr else -(goes (s.dye A) (s.dye B) pr)) := by unfold prI; rw [if_neg h]
theorem grown_tq' {A B C : World} {row : Option Nat} (h : A.grownBy B row) (g : B.grownBy C row) : A.grownBy C row :=
  ⟨g.os.trans h.os, g.tape.trans h.tape, g.output.trans h.output, Nat.le_trans h.size g.size, fun k hk hne => (g.block k (Nat.lt_of_lt_of_le hk h.size) hne).trans (h.block k hk hne)⟩
set_option maxRecDepth 100000 in
set_option maxHeartbeats 16000000 in
theorem lpressed_any (s : Sh) (b a c : Nat) (ax : Int) (d : Bool) (pr : Int) (w : World) (hs : w.heap[b]? = some (.cells (vrow 266 s.at) 34)) (hf : s.fit) (hb0 : bdP s) (hp : 0 ≤ pr ∧ pr ≤ 16) (hax : 1 ≤ ax ∧ ax ≤ 8) (ea : s.wide = a) (ec : s.high = c) (ha : 1 ≤ a ∧ a ≤ 8) (hc : 1 ≤ c ∧ c ≤ 8) : Calls Tryd.prog 43 #[.pointer (some ⟨b, 0, none⟩), .agg (vrow 3 (foAt ax d pr))] w fun e w' => e = .returned (.int .i64 (prL pr ax d s (prsL s a c ax d)).2) ∧ w.grownBy w' (some b) ∧ w'.heap[b]? = some (.cells (vrow 266 (prL pr ax d s (prsL s a c ax d)).1.at) 34) := by
  have HL := Go.Lib.hid fun W h => lpairs_any s b a c ax d pr W h hf hax ea ec ha hc
  have hin := prsL_in s (a := a) (c := c) (ax := ax) (d := d) ha.2 hc.2
  have hlen := prsL_len s (a := a) (c := c) (ax := ax) (d := d) ha.2 hc.2
  have hbd := fun M : List Sp8 => prL_bd (ax := ax) (d := d) hb0 hp M.length M rfl
  generalize prsL s a c ax d = L at *
  clear ea ec
  have zs := zero_spot
  have hbw := row_lt hs
  have P : Hid ((w.alloc (.cells (vrow 3 (foAt ax d pr)) 38)).heap[b]? = some (.cells (vrow 266 s.at) 34)) := heap_past _ _ _ _ hbw hs
  have F : Hid ((w.alloc (.cells (vrow 3 (foAt ax d pr)) 38)).heap[w.heap.size]? = some (.cells (vrow 3 (foAt ax d pr)) 38)) := heap_at _ _ _ rfl
  have G1 : Hid (w.grownBy (w.alloc (.cells (vrow 3 (foAt ax d pr)) 38)) (some b)) := Go.Lib.hid (grown_alloc (grown_refl w _) _)
  clear hs
  go_enter Tryd.func43, Tryd.ntmps43
  go_wp2_with (first
    | go_skip
    | ((with_reducible refine wlAt 14 rfl ?_); refine wpList_loadall rfl 38 (.tmp 3) rfl w.heap.size rfl 3 (foAt ax d pr) 38 _ Tryd.underlying38 rfl size_fold F.out ?_)
    | (go_at_call 93; (refine (HL.out _ P.out).mono ?_); rintro o w2 ⟨v, rfl, hO, hb⟩; have hz1 := row_lt F.out; replace P := Go.Lib.hid (row_next hb P.out); replace F := Go.Lib.hid (row_next hb F.out); replace G1 := Go.Lib.hid (grown_next G1.out hb); clear hb; obtain ⟨ao, cc, rfl, hr⟩ := own_pro hO; clear hO))
  have P0 := P.out; have F0 := F.out
  have hw2 := row_lt F0
  clear P HL F
  go_loopw [5, 7] (fun mv iv wr => ∃ k : Nat, k ≤ L.length ∧ iv = .int .i64 k ∧ mv = .int .i64 (prL pr ax d s (L.take k)).2 ∧ wr.heap[b]? = some (.cells (vrow 266 (prL pr ax d s (L.take k)).1.at) 34) ∧ w2.grownBy wr (some b)) (fun _ iv _ => L.length - (intOf iv).toNat)
  case atStart => exact ⟨0, by omega, rfl, rfl, P0, grown_refl _ _⟩
  case round =>
    clear P0
    obtain ⟨k, hk, rfl, rfl, P, GB⟩ := hrel
    have F := Go.Lib.hid ((GB.block w.heap.size hw2 (by simp; omega)).trans F0)
    by_cases hlt : k < L.length
    · rcases hr with h0 | ⟨g, N, f, rfl, hg, hN, hrow, hf4⟩
      · omega
      have Gr := Go.Lib.hid ((GB.block g (row_lt hrow) (by simp; omega)).trans hrow)
      obtain ⟨⟨⟨i, j⟩, hi8, hj8⟩, hpk⟩ : ∃ p, L[k]'hlt = p := ⟨_, rfl⟩
      have h4 := hf4 k hlt
      have hin1 := hin _ (List.getElem_mem hlt)
      have hap9 := prL_app pr ax d s (L.take k) ⟨(i, j), hi8, hj8⟩
      rw [← show L.take (k + 1) = L.take k ++ [⟨(i, j), hi8, hj8⟩] by rw [List.take_succ_eq_append_getElem hlt, hpk]] at hap9
      rw [hpk] at h4 hin1
      obtain ⟨fx0, fx1, fx2, fx3⟩ := p4_lo h4
      simp only at fx0 fx1 fx2 fx3
      obtain ⟨⟨⟨i2, j2⟩, hi2, hj2⟩, hsg⟩ : ∃ p, sgP ax d ⟨(i, j), hi8, hj8⟩ = p := ⟨_, rfl⟩
      rw [hsg] at hin1 hap9
      have hne : 8 * j + i ≠ 8 * j2 + i2 := inP_ne (p := ⟨(i, j), hi8, hj8⟩) (q := ⟨(i2, j2), hi2, hj2⟩) hin1 hax
      simp only at hin1
      rw [← hin1.1] at fx2; rw [← hin1.2] at fx3
      have hap2 : prL pr ax d s (L.take (k + 1)) = (prW pr (prC pr (prL pr ax d s (L.take k)).1 (24 * j + 3 * i) (24 * j2 + 3 * i2) (8 * j + i) (8 * j2 + i2) 3).1 (8 * j + i) (8 * j2 + i2), (prL pr ax d s (L.take k)).2 + (prC pr (prL pr ax d s (L.take k)).1 (24 * j + 3 * i) (24 * j2 + 3 * i2) (8 * j + i) (8 * j2 + i2) 3).2) := hap9
      have bS := hbd (L.take k)
      replace hi8 : i < 8 := hi8
      replace hj8 : j < 8 := hj8
      replace hi2 : i2 < 8 := hi2
      replace hj2 : j2 < 8 := hj2
      have hR0 : vrow 2 (fun q => f (k * 4 + q)) = vrow 2 (spAt i j) := vrow_ext _ _ _ fun q hq => by
        have hq2 : q = 0 ∨ q = 1 := by omega
        rcases hq2 with rfl | rfl
        · rw [Nat.add_zero, fx0]; rfl
        · rw [fx1]; rfl
      have hR1 : vrow 2 (fun q => f (k * 4 + 2 + q)) = vrow 2 (spAt i2 j2) := vrow_ext _ _ _ fun q hq => by
        have hq2 : q = 0 ∨ q = 1 := by omega
        rcases hq2 with rfl | rfl
        · rw [Nat.add_zero, fx2]; rfl
        · rw [show k * 4 + 2 + 1 = k * 4 + 3 by omega, fx3]; rfl
      have HR0 := Go.Lib.hid hR0; have HR1 := Go.Lib.hid hR1; have HAP := Go.Lib.hid hap2
      have hlk : (L.take k).length = k := by rw [List.length_take]; omega
      rw [hlk] at bS
      clear hR0 hR1 fx0 fx1 fx2 fx3 h4 hin1 hsg hpk hf4 hrow hap9 hap2 hbd hlk F0
      generalize prL pr ax d s (L.take k) = U at *
      obtain ⟨S, mv⟩ := U
      dsimp only at *
      have hbC := fun m h1 h2 => prC_bd (pr := pr) (p := 24 * j + 3 * i) (q := 24 * j2 + 3 * i2) (a := 8 * j + i) (b := 8 * j2 + i2) bS.1 hp m h1 h2
      replace P := Go.Lib.hid P; replace GB := Go.Lib.hid GB
      have hkI : (k : Int) < (L.length : Int) := by omega
      have hk0 : (0 : Int) ≤ (k : Int) := by omega
      have hkd : decide ((k : Int) < (L.length : Int)) = true := by simpa using hkI
      have hiI : (i : Int) < 8 := by omega
      have hjI : (j : Int) < 8 := by omega
      have hi2I : (i2 : Int) < 8 := by omega
      have hj2I : (j2 : Int) < 8 := by omega
      go_wp2_with (first
        | go_skip
        | ((with_reducible refine wlAt 26 rfl ?_); refine wpList_loadmid rfl 111 (.tmp 25) rfl g (k * 4) rfl N 2 f 130 _ Tryd.underlying111 rfl size_spot Gr.out (by omega) ?_; rw [HR0.out])
        | ((with_reducible refine wlOp (.store 111 (.tmp 8) (.tmp 26)) rfl ?_); refine wpList_storeall rfl 111 (.tmp 8) (.tmp 26) rfl _ rfl 2 (spAt 0 0) (spAt i j) rfl 111 size_spot (heap_at _ _ _ rfl) (fun i _ => spAt_one _ _ i) ?_; rw [setRow_at _ _ _ _ _ rfl]; have X := Go.Lib.hid (heap_at wr (.cells (vrow 2 (spAt i j)) 111) _ rfl); have hlxb : w.heap.size < wr.heap.size := row_lt F.out; replace P := Go.Lib.hid (heap_past wr (.cells (vrow 2 (spAt i j)) 111) _ _ (row_lt P.out) P.out); replace F := Go.Lib.hid (heap_past wr (.cells (vrow 2 (spAt i j)) 111) _ _ (row_lt F.out) F.out); replace Gr := Go.Lib.hid (heap_past wr (.cells (vrow 2 (spAt i j)) 111) _ _ (row_lt Gr.out) Gr.out); replace GB := Go.Lib.hid (grown_alloc GB.out (.cells (vrow 2 (spAt i j)) 111)); obtain ⟨xb, hxb⟩ : ∃ xb, wr.heap.size = xb := ⟨_, rfl⟩; rw [hxb] at X hlxb ⊢; obtain ⟨Wx, hWx⟩ : ∃ Wx, wr.alloc (.cells (vrow 2 (spAt i j)) 111) = Wx := ⟨_, rfl⟩; rw [hWx] at P F Gr X GB ⊢; clear hxb hWx)
        | ((with_reducible refine wlAt 31 rfl ?_); refine wpList_loadmid rfl 111 (.tmp 30) rfl g (k * 4 + 2) rfl N 2 f 130 _ Tryd.underlying111 rfl size_spot Gr.out (by omega) ?_; rw [HR1.out])
        | ((with_reducible refine wlOp (.store 111 (.tmp 9) (.tmp 31)) rfl ?_); refine wpList_storeall rfl 111 (.tmp 9) (.tmp 31) rfl _ rfl 2 (spAt 0 0) (spAt i2 j2) rfl 111 size_spot (heap_at _ _ _ rfl) (fun i _ => spAt_one _ _ i) ?_; rw [setRow_at _ _ _ _ _ rfl]; have Y := Go.Lib.hid (heap_at Wx (.cells (vrow 2 (spAt i2 j2)) 111) _ rfl); have hlyb : xb < Wx.heap.size := row_lt X.out; replace P := Go.Lib.hid (heap_past Wx (.cells (vrow 2 (spAt i2 j2)) 111) _ _ (row_lt P.out) P.out); replace F := Go.Lib.hid (heap_past Wx (.cells (vrow 2 (spAt i2 j2)) 111) _ _ (row_lt F.out) F.out); replace Gr := Go.Lib.hid (heap_past Wx (.cells (vrow 2 (spAt i2 j2)) 111) _ _ (row_lt Gr.out) Gr.out); replace X := Go.Lib.hid (heap_past Wx (.cells (vrow 2 (spAt i2 j2)) 111) _ _ (row_lt X.out) X.out); replace GB := Go.Lib.hid (grown_alloc GB.out (.cells (vrow 2 (spAt i2 j2)) 111)); obtain ⟨yb, hyb⟩ : ∃ yb, Wx.heap.size = yb := ⟨_, rfl⟩; rw [hyb] at Y hlyb ⊢; obtain ⟨Wy, hWy⟩ : ∃ Wy, Wx.alloc (.cells (vrow 2 (spAt i2 j2)) 111) = Wy := ⟨_, rfl⟩; rw [hWy] at P F Gr X Y GB ⊢; clear hyb hWy))
      have P1 := P.out; have F1 := F.out; have X1 := X.out; have Y1 := Y.out; have G1' := GB.out
      clear P F X Y GB Gr HR0 HR1
      go_loopw [5, 10] (fun mw iv wz => ∃ m : Nat, m ≤ 3 ∧ iv = .int .i64 m ∧ mw = .int .i64 (mv + (prC pr S (24 * j + 3 * i) (24 * j2 + 3 * i2) (8 * j + i) (8 * j2 + i2) m).2) ∧ wz.heap[b]? = some (.cells (vrow 266 (prC pr S (24 * j + 3 * i) (24 * j2 + 3 * i2) (8 * j + i) (8 * j2 + i2) m).1.at) 34) ∧ wz.heap[w.heap.size]? = some (.cells (vrow 3 (foAt ax d pr)) 38) ∧ wz.heap[xb]? = some (.cells (vrow 2 (spAt i j)) 111) ∧ wz.heap[yb]? = some (.cells (vrow 2 (spAt i2 j2)) 111) ∧ w2.grownBy wz (some b)) (fun _ iv _ => 3 - (intOf iv).toNat)
      case atStart => exact ⟨0, by omega, rfl, by show _ = Value.int .i64 (mv + 0); rw [Int.add_zero], P1, F1, X1, Y1, G1'⟩
      case round =>
        clear P1 F1 X1 Y1 G1'
        obtain ⟨m, hm, rfl, rfl, P, F, X, Y, GB⟩ := hrel
        by_cases hlm : m < 3
        · have bT := hbC m (by omega) (by omega)
          have hst := Go.Lib.hid (show prC pr S (24 * j + 3 * i) (24 * j2 + 3 * i2) (8 * j + i) (8 * j2 + i2) (m + 1) = ((prI pr (prC pr S (24 * j + 3 * i) (24 * j2 + 3 * i2) (8 * j + i) (8 * j2 + i2) m).1 (24 * j + 3 * i + m) (24 * j2 + 3 * i2 + m) (8 * j + i) (8 * j2 + i2)).1, (prC pr S (24 * j + 3 * i) (24 * j2 + 3 * i2) (8 * j + i) (8 * j2 + i2) m).2 + (prI pr (prC pr S (24 * j + 3 * i) (24 * j2 + 3 * i2) (8 * j + i) (8 * j2 + i2) m).1 (24 * j + 3 * i + m) (24 * j2 + 3 * i2 + m) (8 * j + i) (8 * j2 + i2)).2) from rfl)
          clear hbC
          generalize prC pr S (24 * j + 3 * i) (24 * j2 + 3 * i2) (8 * j + i) (8 * j2 + i2) m = U at *
          obtain ⟨T, mt⟩ := U
          dsimp only at *
          have bA := bT.1.1 (24 * j + 3 * i + m) (by omega); have bB := bT.1.1 (24 * j2 + 3 * i2 + m) (by omega)
          have hgb := goes_bd bA bB hp
          have HG := Go.Lib.hid fun w => lgoes_any (T.dye (24 * j + 3 * i + m)) (T.dye (24 * j2 + 3 * i2 + m)) pr w (by omega) (by omega) hp
          have hI1 := prI_no (pr := pr) (s := T) (A := 24 * j + 3 * i + m) (B := 24 * j2 + 3 * i2 + m) (a := 8 * j + i) (b := 8 * j2 + i2)
          have hI2 := prI_yes (pr := pr) (s := T) (A := 24 * j + 3 * i + m) (B := 24 * j2 + 3 * i2 + m) (a := 8 * j + i) (b := 8 * j2 + i2)
          obtain ⟨vA, hA⟩ : ∃ vA, T.dye (24 * j + 3 * i + m) = vA := ⟨_, rfl⟩
          obtain ⟨vB, hBv⟩ : ∃ vB, T.dye (24 * j2 + 3 * i2 + m) = vB := ⟨_, rfl⟩
          obtain ⟨ua, hua⟩ : ∃ u, T.wet (8 * j + i) = u := ⟨_, rfl⟩
          obtain ⟨ub, hub⟩ : ∃ u, T.wet (8 * j2 + i2) = u := ⟨_, rfl⟩
          have EA := Go.Lib.hid hA; have EB := Go.Lib.hid hBv; have FA := Go.Lib.hid hua; have FB := Go.Lib.hid hub
          rw [hA, hBv] at HG hgb hI1 hI2; rw [hA] at bA; rw [hBv] at bB; rw [hua, hub] at hI1 hI2
          clear hA hBv hua hub
          generalize goes vA vB pr = gg at *
          have HZ := Go.Lib.hid fun w => size1_any gg (by omega) w
          have hmb := bT.2
          clear bT
          have hw1 : IntKind.i16.wrap (vA - gg) = vA - gg := IntWalk.i16_in _ (by omega)
          have hw2 : IntKind.i16.wrap (vB + gg) = vB + gg := IntWalk.i16_in _ (by omega)
          have hw3 : IntKind.i64.wrap gg = gg := IntWalk.i64_in _ (by omega)
          have hmI : (m : Int) < 3 := by omega
          have hm0 : (0 : Int) ≤ (m : Int) := by omega
          have hmd : decide ((m : Int) < 3) = true := by simpa using hmI
          replace P := Go.Lib.hid P; replace F := Go.Lib.hid F; replace X := Go.Lib.hid X; replace Y := Go.Lib.hid Y; replace GB := Go.Lib.hid GB
          go_wp2
          (try simp only [Act.put])
          refine region_at (by kernel_rfl) (by kernel_rfl) ?_
          intro W hW
          rw [hW] at P F X Y GB
          clear hW
          have P' := Go.Lib.hid (cls_row' P.out); have F' := Go.Lib.hid (cls_row' F.out); have X' := Go.Lib.hid (cls_row' X.out); have Y' := Go.Lib.hid (cls_row' Y.out)
          (repeat (first
            | go_big_quiet_skip
            | (refine wpQuiet_load1 22 _ rfl (by first | exact want_n rfl | exact want_g _ _ _ rfl rfl rfl) xb _ rfl 2 (spAt i j) _ rw_i8 X'.out (by omega) ?_; (first | rw [spAt_0] | rw [spAt_1]); simp only [Act.put, List.setIfInBounds_toArray, List.set_cons_succ, List.set_cons_zero])
            | (refine wpQuiet_load1 22 _ rfl (by first | exact want_n rfl | exact want_g _ _ _ rfl rfl rfl) yb _ rfl 2 (spAt i2 j2) _ rw_i8 Y'.out (by omega) ?_; (first | rw [spAt_0] | rw [spAt_1]); simp only [Act.put, List.setIfInBounds_toArray, List.set_cons_succ, List.set_cons_zero])
            | (refine wpQuiet_load1 23 _ rfl (by first | exact want_n rfl | exact want_g _ _ _ rfl rfl rfl) b _ rfl 266 T.at _ rw_i16 P'.out (by omega) ?_; (first | (rw [Sh.at_dye1 T _ (24 * j + 3 * i + m) (by omega) (by omega), EA.out]) | (rw [Sh.at_dye1 T _ (24 * j2 + 3 * i2 + m) (by omega) (by omega), EB.out])); simp only [Act.put, List.setIfInBounds_toArray, List.set_cons_succ, List.set_cons_zero])
            | (refine wpQuiet_load1 22 _ rfl (by first | exact want_n rfl | exact want_g _ _ _ rfl rfl rfl) w.heap.size _ rfl 3 (foAt ax d pr) _ rw_i8 F'.out (by omega) ?_; rw [foAt_2]; simp only [Act.put, List.setIfInBounds_toArray, List.set_cons_succ, List.set_cons_zero])
            | go_big_quiet_step ((go_at_call 94; exact cls_call _ (fun w hw => HG.out w)))
            | go_big_quiet_step (fail)))
          refine wpQuiet_nil ?_
          intro W2 hb
          replace P := Go.Lib.hid (row_next hb P.out); replace F := Go.Lib.hid (row_next hb F.out); replace X := Go.Lib.hid (row_next hb X.out); replace Y := Go.Lib.hid (row_next hb Y.out); replace GB := Go.Lib.hid (grown_next GB.out hb)
          clear hb P' F' X' Y'
          go_wp2
          by_cases hp0 : 0 < gg
          · skip
            by_cases hq : ua = 0
            · skip
              have d1 : decide (0 < gg) = true := by simp; omega
              have d2 : decide (gg < 0) = false := by simp; omega
              have e1 : (ua == 0) = true := by simp; omega
              (try simp only [Act.put])
              refine region_at (by kernel_rfl) (by kernel_rfl) ?_
              intro W3 hW
              rw [hW] at P F X Y GB
              clear hW
              have P' := Go.Lib.hid (cls_row' P.out); have F' := Go.Lib.hid (cls_row' F.out); have X' := Go.Lib.hid (cls_row' X.out); have Y' := Go.Lib.hid (cls_row' Y.out)
              (repeat (first
                | go_big_quiet_skip
                | (refine wpQuiet_load1 22 _ rfl (by first | exact want_n rfl | exact want_g _ _ _ rfl rfl rfl) xb _ rfl 2 (spAt i j) _ rw_i8 X'.out (by omega) ?_; (first | rw [spAt_0] | rw [spAt_1]); simp only [Act.put, List.setIfInBounds_toArray, List.set_cons_succ, List.set_cons_zero])
                | (refine wpQuiet_load1 22 _ rfl (by first | exact want_n rfl | exact want_g _ _ _ rfl rfl rfl) yb _ rfl 2 (spAt i2 j2) _ rw_i8 Y'.out (by omega) ?_; (first | rw [spAt_0] | rw [spAt_1]); simp only [Act.put, List.setIfInBounds_toArray, List.set_cons_succ, List.set_cons_zero])
                | (refine wpQuiet_load1 23 _ rfl (by first | exact want_n rfl | exact want_g _ _ _ rfl rfl rfl) b _ rfl 266 T.at _ rw_i16 P'.out (by omega) ?_; (first | (rw [at_wet1 T _ (8 * j + i) (by omega) (by omega), FA.out]) | (rw [at_wet1 T _ (8 * j2 + i2) (by omega) (by omega), FB.out])); simp only [Act.put, List.setIfInBounds_toArray, List.set_cons_succ, List.set_cons_zero])
                | go_big_quiet_step (fail)))
              refine wpQuiet_nil ?_
              intro W4 hb
              replace P := Go.Lib.hid (row_next hb P.out); replace F := Go.Lib.hid (row_next hb F.out); replace X := Go.Lib.hid (row_next hb X.out); replace Y := Go.Lib.hid (row_next hb Y.out); replace GB := Go.Lib.hid (grown_next GB.out hb)
              clear hb P' F' X' Y'
              go_wp2
              have hI := Go.Lib.hid (hI1 (Or.inl ⟨hp0, hq⟩))
              go_roundw
              case rel => exact ⟨m + 1, by omega, by go_num, by rw [hst.out, hI.out]; simp, by rw [hst.out, hI.out]; exact P.out, F.out, X.out, Y.out, GB.out⟩
              case measure => simp [intOf]; omega
            · skip
              obtain ⟨z, hz⟩ : ∃ z, (if 0 ≤ gg then gg else -gg) = z := ⟨_, rfl⟩
              have hz2 : 0 ≤ z ∧ z ≤ 1000 := by rw [← hz]; split <;> omega
              rw [hz] at HZ hI2
              clear hz
              have hwz : IntKind.i64.wrap (mv + mt + z) = mv + mt + z := IntWalk.i64_in _ (by omega)
              have hms : mv + (mt + z) = mv + mt + z := by omega
              have d1 : decide (0 < gg) = true := by simp; omega
              have d2 : decide (gg < 0) = false := by simp; omega
              have e1 : (ua == 0) = false := by simp; omega
              (try simp only [Act.put])
              refine region_at (by kernel_rfl) (by kernel_rfl) ?_
              intro W3 hW
              rw [hW] at P F X Y GB
              clear hW
              have P' := Go.Lib.hid (cls_row' P.out); have F' := Go.Lib.hid (cls_row' F.out); have X' := Go.Lib.hid (cls_row' X.out); have Y' := Go.Lib.hid (cls_row' Y.out)
              (repeat (first
                | go_big_quiet_skip
                | (refine wpQuiet_load1 22 _ rfl (by first | exact want_n rfl | exact want_g _ _ _ rfl rfl rfl) xb _ rfl 2 (spAt i j) _ rw_i8 X'.out (by omega) ?_; (first | rw [spAt_0] | rw [spAt_1]); simp only [Act.put, List.setIfInBounds_toArray, List.set_cons_succ, List.set_cons_zero])
                | (refine wpQuiet_load1 22 _ rfl (by first | exact want_n rfl | exact want_g _ _ _ rfl rfl rfl) yb _ rfl 2 (spAt i2 j2) _ rw_i8 Y'.out (by omega) ?_; (first | rw [spAt_0] | rw [spAt_1]); simp only [Act.put, List.setIfInBounds_toArray, List.set_cons_succ, List.set_cons_zero])
                | (refine wpQuiet_load1 23 _ rfl (by first | exact want_n rfl | exact want_g _ _ _ rfl rfl rfl) b _ rfl 266 T.at _ rw_i16 P'.out (by omega) ?_; (first | (rw [at_wet1 T _ (8 * j + i) (by omega) (by omega), FA.out]) | (rw [at_wet1 T _ (8 * j2 + i2) (by omega) (by omega), FB.out])); simp only [Act.put, List.setIfInBounds_toArray, List.set_cons_succ, List.set_cons_zero])
                | go_big_quiet_step (fail)))
              refine wpQuiet_nil ?_
              intro W4 hb
              replace P := Go.Lib.hid (row_next hb P.out); replace F := Go.Lib.hid (row_next hb F.out); replace X := Go.Lib.hid (row_next hb X.out); replace Y := Go.Lib.hid (row_next hb Y.out); replace GB := Go.Lib.hid (grown_next GB.out hb)
              clear hb P' F' X' Y'
              go_wp2
              have hI := Go.Lib.hid (hI2 (by omega))
              have EB2 := Go.Lib.hid (show (T.ed (24 * j + 3 * i + m) (vA - gg)).dye (24 * j2 + 3 * i2 + m) = vB from by rw [Sh.ed_ne _ _ _ _ (show 24 * j2 + 3 * i2 + m ≠ 24 * j + 3 * i + m by omega)]; exact EB.out)
              (try simp only [Act.put])
              refine region_qt 19 (by kernel_rfl) (by kernel_rfl) ?_
              intro W5 hW
              rw [hW] at P F X Y GB
              clear hW
              simp only [List.take_succ_cons, List.take_zero, List.drop_succ_cons, List.drop_zero]
              have P' := Go.Lib.hid (cls_row' P.out); have F' := Go.Lib.hid (cls_row' F.out); have X' := Go.Lib.hid (cls_row' X.out); have Y' := Go.Lib.hid (cls_row' Y.out)
              (repeat (first
                | go_big_quiet_skip
                | (refine wpQuiet_load1 22 _ rfl (by first | exact want_n rfl | exact want_g _ _ _ rfl rfl rfl) xb _ rfl 2 (spAt i j) _ rw_i8 X'.out (by omega) ?_; (first | rw [spAt_0] | rw [spAt_1]); simp only [Act.put, List.setIfInBounds_toArray, List.set_cons_succ, List.set_cons_zero])
                | (refine wpQuiet_load1 23 _ rfl (by first | exact want_n rfl | exact want_g _ _ _ rfl rfl rfl) b _ rfl 266 T.at _ rw_i16 P'.out (by omega) ?_; (first | (rw [Sh.at_dye1 T _ (24 * j + 3 * i + m) (by omega) (by omega), EA.out]) | (rw [Sh.at_dye1 T _ (24 * j2 + 3 * i2 + m) (by omega) (by omega), EB.out])); simp only [Act.put, List.setIfInBounds_toArray, List.set_cons_succ, List.set_cons_zero])
                | go_big_quiet_step (fail)))
              refine wpQuiet_nil ?_
              intro W6 hb
              replace P := Go.Lib.hid (row_next hb P.out); replace F := Go.Lib.hid (row_next hb F.out); replace X := Go.Lib.hid (row_next hb X.out); replace Y := Go.Lib.hid (row_next hb Y.out); replace GB := Go.Lib.hid (grown_next GB.out hb)
              clear hb P' F' X' Y'
              refine wpList_store1 rfl 23 (.tmp 113) (.tmp 108) rfl b _ rfl 266 T.at (.int .i16 (vA - gg)) rfl 34 size_i16 P.out (by omega) rfl ?_
              rw [Sh.ed_over T _ (24 * j + 3 * i + m) (by omega) (by omega)]
              replace P := Go.Lib.hid (row_set P.out (vrow 266 (T.ed (24 * j + 3 * i + m) (vA - gg)).at)); replace F := Go.Lib.hid (row_set' (g := b) (by omega) F.out (vrow 266 (T.ed (24 * j + 3 * i + m) (vA - gg)).at)); replace X := Go.Lib.hid (row_set' (g := b) (by omega) X.out (vrow 266 (T.ed (24 * j + 3 * i + m) (vA - gg)).at)); replace Y := Go.Lib.hid (row_set' (g := b) (by omega) Y.out (vrow 266 (T.ed (24 * j + 3 * i + m) (vA - gg)).at)); replace GB := Go.Lib.hid (grown_set GB.out (vrow 266 (T.ed (24 * j + 3 * i + m) (vA - gg)).at))
              obtain ⟨W7, hW7⟩ : ∃ W7, W6.setRow b (vrow 266 (T.ed (24 * j + 3 * i + m) (vA - gg)).at) = W7 := ⟨_, rfl⟩
              rw [hW7] at P F X Y GB ⊢
              clear hW7
              go_wp2
              generalize T.ed (24 * j + 3 * i + m) (vA - gg) = T2 at *
              (try simp only [Act.put])
              refine region_qt 19 (by kernel_rfl) (by kernel_rfl) ?_
              intro W8 hW
              rw [hW] at P F X Y GB
              clear hW
              simp only [List.take_succ_cons, List.take_zero, List.drop_succ_cons, List.drop_zero]
              have P' := Go.Lib.hid (cls_row' P.out); have F' := Go.Lib.hid (cls_row' F.out); have X' := Go.Lib.hid (cls_row' X.out); have Y' := Go.Lib.hid (cls_row' Y.out)
              (repeat (first
                | go_big_quiet_skip
                | (refine wpQuiet_load1 22 _ rfl (by first | exact want_n rfl | exact want_g _ _ _ rfl rfl rfl) yb _ rfl 2 (spAt i2 j2) _ rw_i8 Y'.out (by omega) ?_; (first | rw [spAt_0] | rw [spAt_1]); simp only [Act.put, List.setIfInBounds_toArray, List.set_cons_succ, List.set_cons_zero])
                | (refine wpQuiet_load1 23 _ rfl (by first | exact want_n rfl | exact want_g _ _ _ rfl rfl rfl) b _ rfl 266 T2.at _ rw_i16 P'.out (by omega) ?_; (first | (rw [Sh.at_dye1 T2 _ (24 * j2 + 3 * i2 + m) (by omega) (by omega), EB2.out])); simp only [Act.put, List.setIfInBounds_toArray, List.set_cons_succ, List.set_cons_zero])
                | go_big_quiet_step (fail)))
              refine wpQuiet_nil ?_
              intro W9 hb
              replace P := Go.Lib.hid (row_next hb P.out); replace F := Go.Lib.hid (row_next hb F.out); replace X := Go.Lib.hid (row_next hb X.out); replace Y := Go.Lib.hid (row_next hb Y.out); replace GB := Go.Lib.hid (grown_next GB.out hb)
              clear hb P' F' X' Y'
              refine wpList_store1 rfl 23 (.tmp 132) (.tmp 127) rfl b _ rfl 266 T2.at (.int .i16 (vB + gg)) rfl 34 size_i16 P.out (by omega) rfl ?_
              rw [Sh.ed_over T2 _ (24 * j2 + 3 * i2 + m) (by omega) (by omega)]
              replace P := Go.Lib.hid (row_set P.out (vrow 266 (T2.ed (24 * j2 + 3 * i2 + m) (vB + gg)).at)); replace F := Go.Lib.hid (row_set' (g := b) (by omega) F.out (vrow 266 (T2.ed (24 * j2 + 3 * i2 + m) (vB + gg)).at)); replace X := Go.Lib.hid (row_set' (g := b) (by omega) X.out (vrow 266 (T2.ed (24 * j2 + 3 * i2 + m) (vB + gg)).at)); replace Y := Go.Lib.hid (row_set' (g := b) (by omega) Y.out (vrow 266 (T2.ed (24 * j2 + 3 * i2 + m) (vB + gg)).at)); replace GB := Go.Lib.hid (grown_set GB.out (vrow 266 (T2.ed (24 * j2 + 3 * i2 + m) (vB + gg)).at))
              obtain ⟨W10, hW10⟩ : ∃ W10, W9.setRow b (vrow 266 (T2.ed (24 * j2 + 3 * i2 + m) (vB + gg)).at) = W10 := ⟨_, rfl⟩
              rw [hW10] at P F X Y GB ⊢
              clear hW10
              go_wp2_with (first
                | go_skip
                | (go_at_call 95; (refine (HZ.out _).mono ?_); rintro o w1 ⟨rfl, hb⟩; replace P := Go.Lib.hid (row_next hb P.out); replace F := Go.Lib.hid (row_next hb F.out); replace X := Go.Lib.hid (row_next hb X.out); replace Y := Go.Lib.hid (row_next hb Y.out); replace GB := Go.Lib.hid (grown_next GB.out hb); clear hb))
              go_roundw
              case rel => exact ⟨m + 1, by omega, by go_num, by rw [hst.out, hI.out, hms], by rw [hst.out, hI.out]; exact P.out, F.out, X.out, Y.out, GB.out⟩
              case measure => simp [intOf]; omega
          · skip
            by_cases hn0 : gg < 0
            · skip
              by_cases hq : ub = 0
              · skip
                have d1 : decide (0 < gg) = false := by simp; omega
                have d2 : decide (gg < 0) = true := by simp; omega
                have e1 : (ub == 0) = true := by simp; omega
                (try simp only [Act.put])
                refine region_at (by kernel_rfl) (by kernel_rfl) ?_
                intro W3 hW
                rw [hW] at P F X Y GB
                clear hW
                have P' := Go.Lib.hid (cls_row' P.out); have F' := Go.Lib.hid (cls_row' F.out); have X' := Go.Lib.hid (cls_row' X.out); have Y' := Go.Lib.hid (cls_row' Y.out)
                (repeat (first
                  | go_big_quiet_skip
                  | (refine wpQuiet_load1 22 _ rfl (by first | exact want_n rfl | exact want_g _ _ _ rfl rfl rfl) xb _ rfl 2 (spAt i j) _ rw_i8 X'.out (by omega) ?_; (first | rw [spAt_0] | rw [spAt_1]); simp only [Act.put, List.setIfInBounds_toArray, List.set_cons_succ, List.set_cons_zero])
                  | (refine wpQuiet_load1 22 _ rfl (by first | exact want_n rfl | exact want_g _ _ _ rfl rfl rfl) yb _ rfl 2 (spAt i2 j2) _ rw_i8 Y'.out (by omega) ?_; (first | rw [spAt_0] | rw [spAt_1]); simp only [Act.put, List.setIfInBounds_toArray, List.set_cons_succ, List.set_cons_zero])
                  | (refine wpQuiet_load1 23 _ rfl (by first | exact want_n rfl | exact want_g _ _ _ rfl rfl rfl) b _ rfl 266 T.at _ rw_i16 P'.out (by omega) ?_; (first | (rw [at_wet1 T _ (8 * j + i) (by omega) (by omega), FA.out]) | (rw [at_wet1 T _ (8 * j2 + i2) (by omega) (by omega), FB.out])); simp only [Act.put, List.setIfInBounds_toArray, List.set_cons_succ, List.set_cons_zero])
                  | go_big_quiet_step (fail)))
                refine wpQuiet_nil ?_
                intro W4 hb
                replace P := Go.Lib.hid (row_next hb P.out); replace F := Go.Lib.hid (row_next hb F.out); replace X := Go.Lib.hid (row_next hb X.out); replace Y := Go.Lib.hid (row_next hb Y.out); replace GB := Go.Lib.hid (grown_next GB.out hb)
                clear hb P' F' X' Y'
                go_wp2
                have hI := Go.Lib.hid (hI1 (Or.inr ⟨hn0, hq⟩))
                go_roundw
                case rel => exact ⟨m + 1, by omega, by go_num, by rw [hst.out, hI.out]; simp, by rw [hst.out, hI.out]; exact P.out, F.out, X.out, Y.out, GB.out⟩
                case measure => simp [intOf]; omega
              · skip
                obtain ⟨z, hz⟩ : ∃ z, (if 0 ≤ gg then gg else -gg) = z := ⟨_, rfl⟩
                have hz2 : 0 ≤ z ∧ z ≤ 1000 := by rw [← hz]; split <;> omega
                rw [hz] at HZ hI2
                clear hz
                have hwz : IntKind.i64.wrap (mv + mt + z) = mv + mt + z := IntWalk.i64_in _ (by omega)
                have hms : mv + (mt + z) = mv + mt + z := by omega
                have d1 : decide (0 < gg) = false := by simp; omega
                have d2 : decide (gg < 0) = true := by simp; omega
                have e1 : (ub == 0) = false := by simp; omega
                (try simp only [Act.put])
                refine region_at (by kernel_rfl) (by kernel_rfl) ?_
                intro W3 hW
                rw [hW] at P F X Y GB
                clear hW
                have P' := Go.Lib.hid (cls_row' P.out); have F' := Go.Lib.hid (cls_row' F.out); have X' := Go.Lib.hid (cls_row' X.out); have Y' := Go.Lib.hid (cls_row' Y.out)
                (repeat (first
                  | go_big_quiet_skip
                  | (refine wpQuiet_load1 22 _ rfl (by first | exact want_n rfl | exact want_g _ _ _ rfl rfl rfl) xb _ rfl 2 (spAt i j) _ rw_i8 X'.out (by omega) ?_; (first | rw [spAt_0] | rw [spAt_1]); simp only [Act.put, List.setIfInBounds_toArray, List.set_cons_succ, List.set_cons_zero])
                  | (refine wpQuiet_load1 22 _ rfl (by first | exact want_n rfl | exact want_g _ _ _ rfl rfl rfl) yb _ rfl 2 (spAt i2 j2) _ rw_i8 Y'.out (by omega) ?_; (first | rw [spAt_0] | rw [spAt_1]); simp only [Act.put, List.setIfInBounds_toArray, List.set_cons_succ, List.set_cons_zero])
                  | (refine wpQuiet_load1 23 _ rfl (by first | exact want_n rfl | exact want_g _ _ _ rfl rfl rfl) b _ rfl 266 T.at _ rw_i16 P'.out (by omega) ?_; (first | (rw [at_wet1 T _ (8 * j + i) (by omega) (by omega), FA.out]) | (rw [at_wet1 T _ (8 * j2 + i2) (by omega) (by omega), FB.out])); simp only [Act.put, List.setIfInBounds_toArray, List.set_cons_succ, List.set_cons_zero])
                  | go_big_quiet_step (fail)))
                refine wpQuiet_nil ?_
                intro W4 hb
                replace P := Go.Lib.hid (row_next hb P.out); replace F := Go.Lib.hid (row_next hb F.out); replace X := Go.Lib.hid (row_next hb X.out); replace Y := Go.Lib.hid (row_next hb Y.out); replace GB := Go.Lib.hid (grown_next GB.out hb)
                clear hb P' F' X' Y'
                go_wp2
                have hI := Go.Lib.hid (hI2 (by omega))
                have EB2 := Go.Lib.hid (show (T.ed (24 * j + 3 * i + m) (vA - gg)).dye (24 * j2 + 3 * i2 + m) = vB from by rw [Sh.ed_ne _ _ _ _ (show 24 * j2 + 3 * i2 + m ≠ 24 * j + 3 * i + m by omega)]; exact EB.out)
                (try simp only [Act.put])
                refine region_qt 19 (by kernel_rfl) (by kernel_rfl) ?_
                intro W5 hW
                rw [hW] at P F X Y GB
                clear hW
                simp only [List.take_succ_cons, List.take_zero, List.drop_succ_cons, List.drop_zero]
                have P' := Go.Lib.hid (cls_row' P.out); have F' := Go.Lib.hid (cls_row' F.out); have X' := Go.Lib.hid (cls_row' X.out); have Y' := Go.Lib.hid (cls_row' Y.out)
                (repeat (first
                  | go_big_quiet_skip
                  | (refine wpQuiet_load1 22 _ rfl (by first | exact want_n rfl | exact want_g _ _ _ rfl rfl rfl) xb _ rfl 2 (spAt i j) _ rw_i8 X'.out (by omega) ?_; (first | rw [spAt_0] | rw [spAt_1]); simp only [Act.put, List.setIfInBounds_toArray, List.set_cons_succ, List.set_cons_zero])
                  | (refine wpQuiet_load1 23 _ rfl (by first | exact want_n rfl | exact want_g _ _ _ rfl rfl rfl) b _ rfl 266 T.at _ rw_i16 P'.out (by omega) ?_; (first | (rw [Sh.at_dye1 T _ (24 * j + 3 * i + m) (by omega) (by omega), EA.out]) | (rw [Sh.at_dye1 T _ (24 * j2 + 3 * i2 + m) (by omega) (by omega), EB.out])); simp only [Act.put, List.setIfInBounds_toArray, List.set_cons_succ, List.set_cons_zero])
                  | go_big_quiet_step (fail)))
                refine wpQuiet_nil ?_
                intro W6 hb
                replace P := Go.Lib.hid (row_next hb P.out); replace F := Go.Lib.hid (row_next hb F.out); replace X := Go.Lib.hid (row_next hb X.out); replace Y := Go.Lib.hid (row_next hb Y.out); replace GB := Go.Lib.hid (grown_next GB.out hb)
                clear hb P' F' X' Y'
                refine wpList_store1 rfl 23 (.tmp 113) (.tmp 108) rfl b _ rfl 266 T.at (.int .i16 (vA - gg)) rfl 34 size_i16 P.out (by omega) rfl ?_
                rw [Sh.ed_over T _ (24 * j + 3 * i + m) (by omega) (by omega)]
                replace P := Go.Lib.hid (row_set P.out (vrow 266 (T.ed (24 * j + 3 * i + m) (vA - gg)).at)); replace F := Go.Lib.hid (row_set' (g := b) (by omega) F.out (vrow 266 (T.ed (24 * j + 3 * i + m) (vA - gg)).at)); replace X := Go.Lib.hid (row_set' (g := b) (by omega) X.out (vrow 266 (T.ed (24 * j + 3 * i + m) (vA - gg)).at)); replace Y := Go.Lib.hid (row_set' (g := b) (by omega) Y.out (vrow 266 (T.ed (24 * j + 3 * i + m) (vA - gg)).at)); replace GB := Go.Lib.hid (grown_set GB.out (vrow 266 (T.ed (24 * j + 3 * i + m) (vA - gg)).at))
                obtain ⟨W7, hW7⟩ : ∃ W7, W6.setRow b (vrow 266 (T.ed (24 * j + 3 * i + m) (vA - gg)).at) = W7 := ⟨_, rfl⟩
                rw [hW7] at P F X Y GB ⊢
                clear hW7
                go_wp2
                generalize T.ed (24 * j + 3 * i + m) (vA - gg) = T2 at *
                (try simp only [Act.put])
                refine region_qt 19 (by kernel_rfl) (by kernel_rfl) ?_
                intro W8 hW
                rw [hW] at P F X Y GB
                clear hW
                simp only [List.take_succ_cons, List.take_zero, List.drop_succ_cons, List.drop_zero]
                have P' := Go.Lib.hid (cls_row' P.out); have F' := Go.Lib.hid (cls_row' F.out); have X' := Go.Lib.hid (cls_row' X.out); have Y' := Go.Lib.hid (cls_row' Y.out)
                (repeat (first
                  | go_big_quiet_skip
                  | (refine wpQuiet_load1 22 _ rfl (by first | exact want_n rfl | exact want_g _ _ _ rfl rfl rfl) yb _ rfl 2 (spAt i2 j2) _ rw_i8 Y'.out (by omega) ?_; (first | rw [spAt_0] | rw [spAt_1]); simp only [Act.put, List.setIfInBounds_toArray, List.set_cons_succ, List.set_cons_zero])
                  | (refine wpQuiet_load1 23 _ rfl (by first | exact want_n rfl | exact want_g _ _ _ rfl rfl rfl) b _ rfl 266 T2.at _ rw_i16 P'.out (by omega) ?_; (first | (rw [Sh.at_dye1 T2 _ (24 * j2 + 3 * i2 + m) (by omega) (by omega), EB2.out])); simp only [Act.put, List.setIfInBounds_toArray, List.set_cons_succ, List.set_cons_zero])
                  | go_big_quiet_step (fail)))
                refine wpQuiet_nil ?_
                intro W9 hb
                replace P := Go.Lib.hid (row_next hb P.out); replace F := Go.Lib.hid (row_next hb F.out); replace X := Go.Lib.hid (row_next hb X.out); replace Y := Go.Lib.hid (row_next hb Y.out); replace GB := Go.Lib.hid (grown_next GB.out hb)
                clear hb P' F' X' Y'
                refine wpList_store1 rfl 23 (.tmp 132) (.tmp 127) rfl b _ rfl 266 T2.at (.int .i16 (vB + gg)) rfl 34 size_i16 P.out (by omega) rfl ?_
                rw [Sh.ed_over T2 _ (24 * j2 + 3 * i2 + m) (by omega) (by omega)]
                replace P := Go.Lib.hid (row_set P.out (vrow 266 (T2.ed (24 * j2 + 3 * i2 + m) (vB + gg)).at)); replace F := Go.Lib.hid (row_set' (g := b) (by omega) F.out (vrow 266 (T2.ed (24 * j2 + 3 * i2 + m) (vB + gg)).at)); replace X := Go.Lib.hid (row_set' (g := b) (by omega) X.out (vrow 266 (T2.ed (24 * j2 + 3 * i2 + m) (vB + gg)).at)); replace Y := Go.Lib.hid (row_set' (g := b) (by omega) Y.out (vrow 266 (T2.ed (24 * j2 + 3 * i2 + m) (vB + gg)).at)); replace GB := Go.Lib.hid (grown_set GB.out (vrow 266 (T2.ed (24 * j2 + 3 * i2 + m) (vB + gg)).at))
                obtain ⟨W10, hW10⟩ : ∃ W10, W9.setRow b (vrow 266 (T2.ed (24 * j2 + 3 * i2 + m) (vB + gg)).at) = W10 := ⟨_, rfl⟩
                rw [hW10] at P F X Y GB ⊢
                clear hW10
                go_wp2_with (first
                  | go_skip
                  | (go_at_call 95; (refine (HZ.out _).mono ?_); rintro o w1 ⟨rfl, hb⟩; replace P := Go.Lib.hid (row_next hb P.out); replace F := Go.Lib.hid (row_next hb F.out); replace X := Go.Lib.hid (row_next hb X.out); replace Y := Go.Lib.hid (row_next hb Y.out); replace GB := Go.Lib.hid (grown_next GB.out hb); clear hb))
                go_roundw
                case rel => exact ⟨m + 1, by omega, by go_num, by rw [hst.out, hI.out, hms], by rw [hst.out, hI.out]; exact P.out, F.out, X.out, Y.out, GB.out⟩
                case measure => simp [intOf]; omega
            · skip
              obtain ⟨z, hz⟩ : ∃ z, (if 0 ≤ gg then gg else -gg) = z := ⟨_, rfl⟩
              have hz2 : 0 ≤ z ∧ z ≤ 1000 := by rw [← hz]; split <;> omega
              rw [hz] at HZ hI2
              clear hz
              have hwz : IntKind.i64.wrap (mv + mt + z) = mv + mt + z := IntWalk.i64_in _ (by omega)
              have hms : mv + (mt + z) = mv + mt + z := by omega
              have d1 : decide (0 < gg) = false := by simp; omega
              have d2 : decide (gg < 0) = false := by simp; omega
              (try simp only [Act.put])
              refine region_at (by kernel_rfl) (by kernel_rfl) ?_
              intro W3 hW
              rw [hW] at P F X Y GB
              clear hW
              have P' := Go.Lib.hid (cls_row' P.out); have F' := Go.Lib.hid (cls_row' F.out); have X' := Go.Lib.hid (cls_row' X.out); have Y' := Go.Lib.hid (cls_row' Y.out)
              (repeat (first
                | go_big_quiet_skip
                | (refine wpQuiet_load1 22 _ rfl (by first | exact want_n rfl | exact want_g _ _ _ rfl rfl rfl) xb _ rfl 2 (spAt i j) _ rw_i8 X'.out (by omega) ?_; (first | rw [spAt_0] | rw [spAt_1]); simp only [Act.put, List.setIfInBounds_toArray, List.set_cons_succ, List.set_cons_zero])
                | (refine wpQuiet_load1 22 _ rfl (by first | exact want_n rfl | exact want_g _ _ _ rfl rfl rfl) yb _ rfl 2 (spAt i2 j2) _ rw_i8 Y'.out (by omega) ?_; (first | rw [spAt_0] | rw [spAt_1]); simp only [Act.put, List.setIfInBounds_toArray, List.set_cons_succ, List.set_cons_zero])
                | (refine wpQuiet_load1 23 _ rfl (by first | exact want_n rfl | exact want_g _ _ _ rfl rfl rfl) b _ rfl 266 T.at _ rw_i16 P'.out (by omega) ?_; (first | (rw [at_wet1 T _ (8 * j + i) (by omega) (by omega), FA.out]) | (rw [at_wet1 T _ (8 * j2 + i2) (by omega) (by omega), FB.out])); simp only [Act.put, List.setIfInBounds_toArray, List.set_cons_succ, List.set_cons_zero])
                | go_big_quiet_step (fail)))
              refine wpQuiet_nil ?_
              intro W4 hb
              replace P := Go.Lib.hid (row_next hb P.out); replace F := Go.Lib.hid (row_next hb F.out); replace X := Go.Lib.hid (row_next hb X.out); replace Y := Go.Lib.hid (row_next hb Y.out); replace GB := Go.Lib.hid (grown_next GB.out hb)
              clear hb P' F' X' Y'
              go_wp2
              have hI := Go.Lib.hid (hI2 (by omega))
              have EB2 := Go.Lib.hid (show (T.ed (24 * j + 3 * i + m) (vA - gg)).dye (24 * j2 + 3 * i2 + m) = vB from by rw [Sh.ed_ne _ _ _ _ (show 24 * j2 + 3 * i2 + m ≠ 24 * j + 3 * i + m by omega)]; exact EB.out)
              (try simp only [Act.put])
              refine region_qt 19 (by kernel_rfl) (by kernel_rfl) ?_
              intro W5 hW
              rw [hW] at P F X Y GB
              clear hW
              simp only [List.take_succ_cons, List.take_zero, List.drop_succ_cons, List.drop_zero]
              have P' := Go.Lib.hid (cls_row' P.out); have F' := Go.Lib.hid (cls_row' F.out); have X' := Go.Lib.hid (cls_row' X.out); have Y' := Go.Lib.hid (cls_row' Y.out)
              (repeat (first
                | go_big_quiet_skip
                | (refine wpQuiet_load1 22 _ rfl (by first | exact want_n rfl | exact want_g _ _ _ rfl rfl rfl) xb _ rfl 2 (spAt i j) _ rw_i8 X'.out (by omega) ?_; (first | rw [spAt_0] | rw [spAt_1]); simp only [Act.put, List.setIfInBounds_toArray, List.set_cons_succ, List.set_cons_zero])
                | (refine wpQuiet_load1 23 _ rfl (by first | exact want_n rfl | exact want_g _ _ _ rfl rfl rfl) b _ rfl 266 T.at _ rw_i16 P'.out (by omega) ?_; (first | (rw [Sh.at_dye1 T _ (24 * j + 3 * i + m) (by omega) (by omega), EA.out]) | (rw [Sh.at_dye1 T _ (24 * j2 + 3 * i2 + m) (by omega) (by omega), EB.out])); simp only [Act.put, List.setIfInBounds_toArray, List.set_cons_succ, List.set_cons_zero])
                | go_big_quiet_step (fail)))
              refine wpQuiet_nil ?_
              intro W6 hb
              replace P := Go.Lib.hid (row_next hb P.out); replace F := Go.Lib.hid (row_next hb F.out); replace X := Go.Lib.hid (row_next hb X.out); replace Y := Go.Lib.hid (row_next hb Y.out); replace GB := Go.Lib.hid (grown_next GB.out hb)
              clear hb P' F' X' Y'
              refine wpList_store1 rfl 23 (.tmp 113) (.tmp 108) rfl b _ rfl 266 T.at (.int .i16 (vA - gg)) rfl 34 size_i16 P.out (by omega) rfl ?_
              rw [Sh.ed_over T _ (24 * j + 3 * i + m) (by omega) (by omega)]
              replace P := Go.Lib.hid (row_set P.out (vrow 266 (T.ed (24 * j + 3 * i + m) (vA - gg)).at)); replace F := Go.Lib.hid (row_set' (g := b) (by omega) F.out (vrow 266 (T.ed (24 * j + 3 * i + m) (vA - gg)).at)); replace X := Go.Lib.hid (row_set' (g := b) (by omega) X.out (vrow 266 (T.ed (24 * j + 3 * i + m) (vA - gg)).at)); replace Y := Go.Lib.hid (row_set' (g := b) (by omega) Y.out (vrow 266 (T.ed (24 * j + 3 * i + m) (vA - gg)).at)); replace GB := Go.Lib.hid (grown_set GB.out (vrow 266 (T.ed (24 * j + 3 * i + m) (vA - gg)).at))
              obtain ⟨W7, hW7⟩ : ∃ W7, W6.setRow b (vrow 266 (T.ed (24 * j + 3 * i + m) (vA - gg)).at) = W7 := ⟨_, rfl⟩
              rw [hW7] at P F X Y GB ⊢
              clear hW7
              go_wp2
              generalize T.ed (24 * j + 3 * i + m) (vA - gg) = T2 at *
              (try simp only [Act.put])
              refine region_qt 19 (by kernel_rfl) (by kernel_rfl) ?_
              intro W8 hW
              rw [hW] at P F X Y GB
              clear hW
              simp only [List.take_succ_cons, List.take_zero, List.drop_succ_cons, List.drop_zero]
              have P' := Go.Lib.hid (cls_row' P.out); have F' := Go.Lib.hid (cls_row' F.out); have X' := Go.Lib.hid (cls_row' X.out); have Y' := Go.Lib.hid (cls_row' Y.out)
              (repeat (first
                | go_big_quiet_skip
                | (refine wpQuiet_load1 22 _ rfl (by first | exact want_n rfl | exact want_g _ _ _ rfl rfl rfl) yb _ rfl 2 (spAt i2 j2) _ rw_i8 Y'.out (by omega) ?_; (first | rw [spAt_0] | rw [spAt_1]); simp only [Act.put, List.setIfInBounds_toArray, List.set_cons_succ, List.set_cons_zero])
                | (refine wpQuiet_load1 23 _ rfl (by first | exact want_n rfl | exact want_g _ _ _ rfl rfl rfl) b _ rfl 266 T2.at _ rw_i16 P'.out (by omega) ?_; (first | (rw [Sh.at_dye1 T2 _ (24 * j2 + 3 * i2 + m) (by omega) (by omega), EB2.out])); simp only [Act.put, List.setIfInBounds_toArray, List.set_cons_succ, List.set_cons_zero])
                | go_big_quiet_step (fail)))
              refine wpQuiet_nil ?_
              intro W9 hb
              replace P := Go.Lib.hid (row_next hb P.out); replace F := Go.Lib.hid (row_next hb F.out); replace X := Go.Lib.hid (row_next hb X.out); replace Y := Go.Lib.hid (row_next hb Y.out); replace GB := Go.Lib.hid (grown_next GB.out hb)
              clear hb P' F' X' Y'
              refine wpList_store1 rfl 23 (.tmp 132) (.tmp 127) rfl b _ rfl 266 T2.at (.int .i16 (vB + gg)) rfl 34 size_i16 P.out (by omega) rfl ?_
              rw [Sh.ed_over T2 _ (24 * j2 + 3 * i2 + m) (by omega) (by omega)]
              replace P := Go.Lib.hid (row_set P.out (vrow 266 (T2.ed (24 * j2 + 3 * i2 + m) (vB + gg)).at)); replace F := Go.Lib.hid (row_set' (g := b) (by omega) F.out (vrow 266 (T2.ed (24 * j2 + 3 * i2 + m) (vB + gg)).at)); replace X := Go.Lib.hid (row_set' (g := b) (by omega) X.out (vrow 266 (T2.ed (24 * j2 + 3 * i2 + m) (vB + gg)).at)); replace Y := Go.Lib.hid (row_set' (g := b) (by omega) Y.out (vrow 266 (T2.ed (24 * j2 + 3 * i2 + m) (vB + gg)).at)); replace GB := Go.Lib.hid (grown_set GB.out (vrow 266 (T2.ed (24 * j2 + 3 * i2 + m) (vB + gg)).at))
              obtain ⟨W10, hW10⟩ : ∃ W10, W9.setRow b (vrow 266 (T2.ed (24 * j2 + 3 * i2 + m) (vB + gg)).at) = W10 := ⟨_, rfl⟩
              rw [hW10] at P F X Y GB ⊢
              clear hW10
              go_wp2_with (first
                | go_skip
                | (go_at_call 95; (refine (HZ.out _).mono ?_); rintro o w1 ⟨rfl, hb⟩; replace P := Go.Lib.hid (row_next hb P.out); replace F := Go.Lib.hid (row_next hb F.out); replace X := Go.Lib.hid (row_next hb X.out); replace Y := Go.Lib.hid (row_next hb Y.out); replace GB := Go.Lib.hid (grown_next GB.out hb); clear hb))
              go_roundw
              case rel => exact ⟨m + 1, by omega, by go_num, by rw [hst.out, hI.out, hms], by rw [hst.out, hI.out]; exact P.out, F.out, X.out, Y.out, GB.out⟩
              case measure => simp [intOf]; omega
        · obtain rfl : m = 3 := by omega
          have bT := (hbC 3 (by omega) (by omega))
          generalize prC pr S (24 * j + 3 * i) (24 * j2 + 3 * i2) (8 * j + i) (8 * j2 + i2) 3 = U at *
          obtain ⟨T, mt⟩ := U
          dsimp only at *
          have ba := bT.1.2 (8 * j + i) (by omega); have bb := bT.1.2 (8 * j2 + i2) (by omega)
          have hwg := goes_bd ba bb hp
          have HG := Go.Lib.hid fun w => lgoes_any (T.wet (8 * j + i)) (T.wet (8 * j2 + i2)) pr w (by omega) (by omega) hp
          have hpw : prW pr T (8 * j + i) (8 * j2 + i2) = (T.ew (8 * j + i) (T.wet (8 * j + i) - goes (T.wet (8 * j + i)) (T.wet (8 * j2 + i2)) pr)).ew (8 * j2 + i2) (T.wet (8 * j2 + i2) + goes (T.wet (8 * j + i)) (T.wet (8 * j2 + i2)) pr) := rfl
          obtain ⟨ua, hua⟩ : ∃ u, T.wet (8 * j + i) = u := ⟨_, rfl⟩
          obtain ⟨ub, hub⟩ : ∃ u, T.wet (8 * j2 + i2) = u := ⟨_, rfl⟩
          have FA := Go.Lib.hid hua; have FB := Go.Lib.hid hub
          rw [hua, hub] at HG hwg hpw; rw [hua] at ba; rw [hub] at bb
          have HPW := Go.Lib.hid hpw
          clear hua hub hpw hbC
          generalize goes ua ub pr = gg at *
          have FB2 := Go.Lib.hid (show (T.ew (8 * j + i) (ua - gg)).wet (8 * j2 + i2) = ub from by unfold Sh.ew; simp only; rw [if_neg (by omega)]; exact FB.out)
          have hw1 : IntKind.i16.wrap (ua - gg) = ua - gg := IntWalk.i16_in _ (by omega)
          have hw2 : IntKind.i16.wrap (ub + gg) = ub + gg := IntWalk.i16_in _ (by omega)
          have hmd : decide (((3 : Nat) : Int) < 3) = false := by simp
          replace P := Go.Lib.hid P; replace F := Go.Lib.hid F; replace X := Go.Lib.hid X; replace Y := Go.Lib.hid Y; replace GB := Go.Lib.hid GB
          go_wp2
          (try simp only [Act.put])
          refine region_at (by kernel_rfl) (by kernel_rfl) ?_
          intro W hW
          rw [hW] at P F X Y GB
          clear hW
          have P' := Go.Lib.hid (cls_row' P.out); have F' := Go.Lib.hid (cls_row' F.out); have X' := Go.Lib.hid (cls_row' X.out); have Y' := Go.Lib.hid (cls_row' Y.out)
          (repeat (first
            | go_big_quiet_skip
            | (refine wpQuiet_load1 22 _ rfl (by first | exact want_n rfl | exact want_g _ _ _ rfl rfl rfl) xb _ rfl 2 (spAt i j) _ rw_i8 X'.out (by omega) ?_; (first | rw [spAt_0] | rw [spAt_1]); simp only [Act.put, List.setIfInBounds_toArray, List.set_cons_succ, List.set_cons_zero])
            | (refine wpQuiet_load1 22 _ rfl (by first | exact want_n rfl | exact want_g _ _ _ rfl rfl rfl) yb _ rfl 2 (spAt i2 j2) _ rw_i8 Y'.out (by omega) ?_; (first | rw [spAt_0] | rw [spAt_1]); simp only [Act.put, List.setIfInBounds_toArray, List.set_cons_succ, List.set_cons_zero])
            | (refine wpQuiet_load1 23 _ rfl (by first | exact want_n rfl | exact want_g _ _ _ rfl rfl rfl) b _ rfl 266 T.at _ rw_i16 P'.out (by omega) ?_; (first | (rw [at_wet1 T _ (8 * j + i) (by omega) (by omega), FA.out]) | (rw [at_wet1 T _ (8 * j2 + i2) (by omega) (by omega), FB.out])); simp only [Act.put, List.setIfInBounds_toArray, List.set_cons_succ, List.set_cons_zero])
            | (refine wpQuiet_load1 22 _ rfl (by first | exact want_n rfl | exact want_g _ _ _ rfl rfl rfl) w.heap.size _ rfl 3 (foAt ax d pr) _ rw_i8 F'.out (by omega) ?_; rw [foAt_2]; simp only [Act.put, List.setIfInBounds_toArray, List.set_cons_succ, List.set_cons_zero])
            | go_big_quiet_step ((go_at_call 94; exact cls_call _ (fun w hw => HG.out w)))
            | go_big_quiet_step (fail)))
          refine wpQuiet_nil ?_
          intro W2 hb
          replace P := Go.Lib.hid (row_next hb P.out); replace F := Go.Lib.hid (row_next hb F.out); replace X := Go.Lib.hid (row_next hb X.out); replace Y := Go.Lib.hid (row_next hb Y.out); replace GB := Go.Lib.hid (grown_next GB.out hb)
          clear hb P' F' X' Y'
          go_wp2
          (try simp only [Act.put])
          refine region_qt 16 (by kernel_rfl) (by kernel_rfl) ?_
          intro W5 hW
          rw [hW] at P F X Y GB
          clear hW
          simp only [List.take_succ_cons, List.take_zero, List.drop_succ_cons, List.drop_zero]
          have P' := Go.Lib.hid (cls_row' P.out); have F' := Go.Lib.hid (cls_row' F.out); have X' := Go.Lib.hid (cls_row' X.out); have Y' := Go.Lib.hid (cls_row' Y.out)
          (repeat (first
            | go_big_quiet_skip
            | (refine wpQuiet_load1 22 _ rfl (by first | exact want_n rfl | exact want_g _ _ _ rfl rfl rfl) xb _ rfl 2 (spAt i j) _ rw_i8 X'.out (by omega) ?_; (first | rw [spAt_0] | rw [spAt_1]); simp only [Act.put, List.setIfInBounds_toArray, List.set_cons_succ, List.set_cons_zero])
            | (refine wpQuiet_load1 23 _ rfl (by first | exact want_n rfl | exact want_g _ _ _ rfl rfl rfl) b _ rfl 266 T.at _ rw_i16 P'.out (by omega) ?_; (first | (rw [at_wet1 T _ (8 * j + i) (by omega) (by omega), FA.out]) | (rw [at_wet1 T _ (8 * j2 + i2) (by omega) (by omega), FB.out])); simp only [Act.put, List.setIfInBounds_toArray, List.set_cons_succ, List.set_cons_zero])
            | go_big_quiet_step (fail)))
          refine wpQuiet_nil ?_
          intro W6 hb
          replace P := Go.Lib.hid (row_next hb P.out); replace F := Go.Lib.hid (row_next hb F.out); replace X := Go.Lib.hid (row_next hb X.out); replace Y := Go.Lib.hid (row_next hb Y.out); replace GB := Go.Lib.hid (grown_next GB.out hb)
          clear hb P' F' X' Y'
          refine wpList_store1 rfl 23 (.tmp 176) (.tmp 172) rfl b _ rfl 266 T.at (.int .i16 (ua - gg)) rfl 34 size_i16 P.out (by omega) rfl ?_
          rw [Sh.ew_over T _ (8 * j + i) (by omega) (by omega)]
          replace P := Go.Lib.hid (row_set P.out (vrow 266 (T.ew (8 * j + i) (ua - gg)).at)); replace F := Go.Lib.hid (row_set' (g := b) (by omega) F.out (vrow 266 (T.ew (8 * j + i) (ua - gg)).at)); replace X := Go.Lib.hid (row_set' (g := b) (by omega) X.out (vrow 266 (T.ew (8 * j + i) (ua - gg)).at)); replace Y := Go.Lib.hid (row_set' (g := b) (by omega) Y.out (vrow 266 (T.ew (8 * j + i) (ua - gg)).at)); replace GB := Go.Lib.hid (grown_set GB.out (vrow 266 (T.ew (8 * j + i) (ua - gg)).at))
          obtain ⟨W7, hW7⟩ : ∃ W7, W6.setRow b (vrow 266 (T.ew (8 * j + i) (ua - gg)).at) = W7 := ⟨_, rfl⟩
          rw [hW7] at P F X Y GB ⊢
          clear hW7
          go_wp2
          generalize T.ew (8 * j + i) (ua - gg) = T2 at *
          (try simp only [Act.put])
          refine region_qt 16 (by kernel_rfl) (by kernel_rfl) ?_
          intro W8 hW
          rw [hW] at P F X Y GB
          clear hW
          simp only [List.take_succ_cons, List.take_zero, List.drop_succ_cons, List.drop_zero]
          have P' := Go.Lib.hid (cls_row' P.out); have F' := Go.Lib.hid (cls_row' F.out); have X' := Go.Lib.hid (cls_row' X.out); have Y' := Go.Lib.hid (cls_row' Y.out)
          (repeat (first
            | go_big_quiet_skip
            | (refine wpQuiet_load1 22 _ rfl (by first | exact want_n rfl | exact want_g _ _ _ rfl rfl rfl) yb _ rfl 2 (spAt i2 j2) _ rw_i8 Y'.out (by omega) ?_; (first | rw [spAt_0] | rw [spAt_1]); simp only [Act.put, List.setIfInBounds_toArray, List.set_cons_succ, List.set_cons_zero])
            | (refine wpQuiet_load1 23 _ rfl (by first | exact want_n rfl | exact want_g _ _ _ rfl rfl rfl) b _ rfl 266 T2.at _ rw_i16 P'.out (by omega) ?_; (first | (rw [at_wet1 T2 _ (8 * j2 + i2) (by omega) (by omega), FB2.out])); simp only [Act.put, List.setIfInBounds_toArray, List.set_cons_succ, List.set_cons_zero])
            | go_big_quiet_step (fail)))
          refine wpQuiet_nil ?_
          intro W9 hb
          replace P := Go.Lib.hid (row_next hb P.out); replace F := Go.Lib.hid (row_next hb F.out); replace X := Go.Lib.hid (row_next hb X.out); replace Y := Go.Lib.hid (row_next hb Y.out); replace GB := Go.Lib.hid (grown_next GB.out hb)
          clear hb P' F' X' Y'
          refine wpList_store1 rfl 23 (.tmp 192) (.tmp 188) rfl b _ rfl 266 T2.at (.int .i16 (ub + gg)) rfl 34 size_i16 P.out (by omega) rfl ?_
          rw [Sh.ew_over T2 _ (8 * j2 + i2) (by omega) (by omega)]
          replace P := Go.Lib.hid (row_set P.out (vrow 266 (T2.ew (8 * j2 + i2) (ub + gg)).at)); replace F := Go.Lib.hid (row_set' (g := b) (by omega) F.out (vrow 266 (T2.ew (8 * j2 + i2) (ub + gg)).at)); replace X := Go.Lib.hid (row_set' (g := b) (by omega) X.out (vrow 266 (T2.ew (8 * j2 + i2) (ub + gg)).at)); replace Y := Go.Lib.hid (row_set' (g := b) (by omega) Y.out (vrow 266 (T2.ew (8 * j2 + i2) (ub + gg)).at)); replace GB := Go.Lib.hid (grown_set GB.out (vrow 266 (T2.ew (8 * j2 + i2) (ub + gg)).at))
          obtain ⟨W10, hW10⟩ : ∃ W10, W9.setRow b (vrow 266 (T2.ew (8 * j2 + i2) (ub + gg)).at) = W10 := ⟨_, rfl⟩
          rw [hW10] at P F X Y GB ⊢
          clear hW10
          go_wp2
          go_roundw
          case rel => exact ⟨k + 1, by omega, by go_num, by rw [HAP.out], by rw [HAP.out]; dsimp only; rw [HPW.out]; exact P.out, GB.out⟩
          case measure => simp [intOf]; omega
    · obtain rfl : k = L.length := by omega
      have hkd : decide ((L.length : Int) < (L.length : Int)) = false := by simp
      rw [List.take_length] at *
      replace P := Go.Lib.hid P; replace GB := Go.Lib.hid GB
      go_wp2
      go_ret
      exact ⟨rfl, grown_tq' G1.out GB.out, P.out⟩
end Go.Proofs.YtmcpaangofdmpaaDoor
