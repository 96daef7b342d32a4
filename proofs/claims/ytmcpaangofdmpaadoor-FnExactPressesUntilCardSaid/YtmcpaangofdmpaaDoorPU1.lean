import Derived.Test.YtmcpaangofdmpaaDoorIOff
import Derived.Test.YtmcpaangofdmpaaDoorEvM
import Derived.Test.YtmcpaangofdmpaaDoorLOff
import Derived.Test.YtmcpaangofdmpaaDoorPF1
import Derived.Test.YtmcpaangofdmpaaDoorPairI
namespace Go.Proofs.YtmcpaangofdmpaaDoor
open Go.RowKit
set_option linter.unusedVariables false
set_option linter.unusedSimpArgs false
theorem dyB_bd {s : Sh} (hv : bdS s) {x y : Nat} (hx : x < 8) (hy : y < 8) (m : Nat) (hm : m < 3) : 0 ≤ dyA s x y m ∧ dyA s x y m ≤ 1000 := hv _ (by omega)
theorem gapB_bd {s : Sh} (hv : bdS s) (ax : Int) (d : Bool) (p : Sp8) (m : Nat) (hm : m < 3) : 0 ≤ gapP s ax d p m ∧ gapP s ax d p m ≤ 1000 :=
  gp_bd (dyB_bd hv p.2.1 p.2.2 m hm) (dyB_bd hv (sgP ax d p).2.1 (sgP ax d p).2.2 m hm)
theorem gqB_bd {s : Sh} (hv : bdS s) (ax : Int) (d : Bool) (L : List Sp8) (k m : Nat) (hm : m < 3) : 0 ≤ gq s ax d L k m ∧ gq s ax d L k m ≤ 1000 := by
  unfold gq
  split
  · exact gapB_bd hv ax d _ m hm
  · simp
theorem oS_mono {G : Nat → Nat → Int} (h : ∀ k m, m < 3 → 0 ≤ G k m ∧ G k m ≤ 1000) {i j : Nat} (hij : i ≤ j) : oS G i ≤ oS G j := by
  induction j with
  | zero =>
    obtain rfl : i = 0 := by omega
    exact Int.le_refl _
  | succ j ih =>
    by_cases e : i = j + 1
    · rw [e]; exact Int.le_refl _
    · have h1 := ih (by omega)
      have h2 := dsum_bd (G j) (h j) 3 (by omega)
      have h3 : oS G (j + 1) = oS G j + dsum (G j) 3 := rfl
      omega
/-- a fold has been pressed so often -/
def prT (pr ax : Int) (d : Bool) (s : Sh) (L : List Sp8) : Nat → Sh
  | 0 => s
  | j + 1 => (prL pr ax d (prT pr ax d s L j) L).1
theorem prT_kept (pr ax : Int) (d : Bool) (s : Sh) (L : List Sp8) : ∀ j, kept s (prT pr ax d s L j)
  | 0 => kept_refl s
  | j + 1 => kept_tr (prT_kept pr ax d s L j) (prL_kept ..)
theorem prT_bd {pr ax : Int} {d : Bool} {s : Sh} {L : List Sp8} (h : bdP s) (hp : 0 ≤ pr ∧ pr ≤ 16) : ∀ j, bdP (prT pr ax d s L j)
  | 0 => h
  | j + 1 => (prL_bd (prT_bd h hp j) hp L.length L rfl).1
/-- by how much the sheet is off then -/
def ofT (pr ax : Int) (d : Bool) (s : Sh) (L : List Sp8) (j : Nat) : Int := oS (gq (prT pr ax d s L j) ax d L) L.length
theorem ofT_bd {pr ax : Int} {d : Bool} {s : Sh} {L : List Sp8} (h : bdP s) (hp : 0 ≤ pr ∧ pr ≤ 16) (hl : L.length ≤ 64) (j : Nat) : 0 ≤ ofT pr ax d s L j ∧ ofT pr ax d s L j ≤ 192000 := by
  have := oS_bd (fun k m hm => gqB_bd (prT_bd (ax := ax) (d := d) (L := L) h hp j).1 ax d L k m hm) L.length
  unfold ofT; omega
/-- the first time that is not too much -/
theorem first_le (f : Nat → Int) (off : Int) : ∀ N, ∃ n, n ≤ N ∧ (∀ i, i < n → off < f i) ∧ (n < N → f n ≤ off)
  | 0 => ⟨0, Nat.le_refl _, fun i hi => absurd hi (by omega), fun h => absurd h (by omega)⟩
  | N + 1 => by
    obtain ⟨n, h1, h2, h3⟩ := first_le f off N
    by_cases hn : n < N
    · exact ⟨n, by omega, h2, fun _ => h3 hn⟩
    · obtain rfl : n = N := by omega
      by_cases hf : f n ≤ off
      · exact ⟨n, by omega, h2, fun _ => hf⟩
      · refine ⟨n + 1, Nat.le_refl _, fun i hi => ?_, fun h => absurd h (by omega)⟩
        by_cases e : i = n
        · rw [e]; omega
        · exact h2 i (by omega)
set_option maxHeartbeats 4000000 in
theorem gapsB_any (s : Sh) (i j i2 j2 : Nat) (w : World) (hv : bdS s) (hi8 : i < 8) (hj8 : j < 8) (hi2 : i2 < 8) (hj2 : j2 < 8) : Calls Tryd.prog 109 #[.agg s.row, .agg (vrow 4 (p4 i j i2 j2))] w fun e w' => e = .returned (.agg (vrow 3 (d3f (gp (dyA s i j) (dyA s i2 j2))))) ∧ Below w.heap.size w w' := by
  have HG := Go.Lib.hid fun w => gaps_any (dyA s i j) (dyA s i2 j2) (fun m hm => dyB_bd hv hi8 hj8 m hm) (fun m hm => dyB_bd hv hi2 hj2 m hm) w
  have zz := zero_d3
  have EA := Go.Lib.hid (dyA_row s i j); have EB := Go.Lib.hid (dyA_row s i2 j2)
  generalize gp (dyA s i j) (dyA s i2 j2) = G at *
  generalize dyA s i j = dA at *
  generalize dyA s i2 j2 = dB at *
  have P : Hid ((((w.alloc (.cells (vrow 266 s.at) 34)).alloc (.cells (vrow 4 (p4 i j i2 j2)) 130)).alloc (.cells (vrow 3 fun _ => .int .i16 0) 26)).heap[w.heap.size]? = some (.cells (vrow 266 s.at) 34)) := (heap_past _ _ _ _ (by simp <;> omega) (heap_past _ _ _ _ (by simp <;> omega) (heap_at _ _ _ (by simp))))
  have R : Hid ((((w.alloc (.cells (vrow 266 s.at) 34)).alloc (.cells (vrow 4 (p4 i j i2 j2)) 130)).alloc (.cells (vrow 3 fun _ => .int .i16 0) 26)).heap[w.heap.size + 1]? = some (.cells (vrow 4 (p4 i j i2 j2)) 130)) := (heap_past _ _ _ _ (by simp <;> omega) (heap_at _ _ _ (by simp)))
  have Z : Hid ((((w.alloc (.cells (vrow 266 s.at) 34)).alloc (.cells (vrow 4 (p4 i j i2 j2)) 130)).alloc (.cells (vrow 3 fun _ => .int .i16 0) 26)).heap[w.heap.size + 2]? = some (.cells (vrow 3 fun _ => .int .i16 0) 26)) := (heap_at _ _ _ (by simp))
  have hB : Hid (Below w.heap.size w (((w.alloc (.cells (vrow 266 s.at) 34)).alloc (.cells (vrow 4 (p4 i j i2 j2)) 130)).alloc (.cells (vrow 3 fun _ => .int .i16 0) 26))) := Go.Lib.hid ((((Below.refl w.heap.size w).alloc (by simp <;> omega) _).alloc (by simp <;> omega) _).alloc (by simp <;> omega) _)
  have hiI : (i : Int) < 8 := by omega
  have hjI : (j : Int) < 8 := by omega
  have hi2I : (i2 : Int) < 8 := by omega
  have hj2I : (j2 : Int) < 8 := by omega
  go_enter Tryd.func109, Tryd.ntmps109
  go_wp2
  refine region_qt 21 (by kernel_rfl) (by kernel_rfl) ?_
  intro W hW
  rw [hW] at hB P R Z
  clear hW
  simp only [List.take_succ_cons, List.take_zero, List.drop_succ_cons, List.drop_zero]
  have P' := Go.Lib.hid (cls_row' P.out); have R' := Go.Lib.hid (cls_row' R.out)
  (repeat (first
    | go_big_quiet_skip
    | (refine wpQuiet_load1 22 _ rfl (by first | exact want_n rfl | exact want_g _ _ _ rfl rfl rfl) (w.heap.size + 1) _ rfl 4 (p4 i j i2 j2) _ rw_i8 R'.out (by omega) ?_; (first | rw [show p4 (i : Int) (j : Int) (i2 : Int) (j2 : Int) 0 = .int .i8 i from rfl] | rw [show p4 (i : Int) (j : Int) (i2 : Int) (j2 : Int) 1 = .int .i8 j from rfl] | rw [show p4 (i : Int) (j : Int) (i2 : Int) (j2 : Int) 2 = .int .i8 i2 from rfl] | rw [show p4 (i : Int) (j : Int) (i2 : Int) (j2 : Int) 3 = .int .i8 j2 from rfl]); simp only [Act.put, List.setIfInBounds_toArray, List.set_cons_succ, List.set_cons_zero])
    | (refine wpQuiet_loadmid 26 _ rfl (by first | exact want_n rfl | exact want_g _ _ _ rfl rfl rfl) w.heap.size _ rfl 266 3 s.at _ rw_d3g size_d3g P'.out (by omega) ?_; (first | rw [Sh.at_d3 s _ (24 * j + 3 * i) (by omega) (by omega), EA.out] | rw [Sh.at_d3 s _ (24 * j2 + 3 * i2) (by omega) (by omega), EB.out]); simp only [Act.put, List.setIfInBounds_toArray, List.set_cons_succ, List.set_cons_zero])
    | go_big_quiet_step ((go_at_call 134; exact cls_call _ (fun w hw => HG.out w)))))
  refine wpQuiet_nil ?_
  intro Wn hb
  replace Z := Go.Lib.hid (row_next hb Z.out); replace hB := Go.Lib.hid (below_next hB.out hb)
  clear hb P' R' P R
  refine wpList_storeall rfl 26 (.tmp 4) (.tmp 25) rfl (w.heap.size + 2) rfl 3 (fun _ => .int .i16 0) (d3f G) rfl 26 size_d3g Z.out (fun _ _ => rfl) ?_
  go_wp2
  exact ret_row Tryd.results109 (w.heap.size + 2) 3 (d3f G) 26 _ Tryd.underlying26 rfl size_d3g rfl rfl (row_set Z.out _) ⟨rfl, Below_setRow hB.out (by omega) _⟩
set_option maxRecDepth 100000 in
set_option maxHeartbeats 8000000 in
theorem loffB_any (s : Sh) (b a c : Nat) (ax : Int) (d : Bool) (pr : Int) (w : World) (hs : w.heap[b]? = some (.cells (vrow 266 s.at) 34)) (hf : s.fit) (hv : bdS s) (hax : 1 ≤ ax ∧ ax ≤ 8) (ea : s.wide = a) (ec : s.high = c) (ha : 1 ≤ a ∧ a ≤ 8) (hc : 1 ≤ c ∧ c ≤ 8) :
    Calls Tryd.prog 56 #[.pointer (some ⟨b, 0, none⟩), .agg (vrow 3 (foAt ax d pr))] w fun e w' => e = .returned (.tuple #[.int .i64 (oS (gq s ax d (prsL s a c ax d)) (prsL s a c ax d).length), .int .i64 (oM (gq s ax d (prsL s a c ax d)) (prsL s a c ax d).length)]) ∧ Below w.heap.size w w' := by
  have zs := zero_spot
  have HL := Go.Lib.hid fun w hs => lpairs_any s b a c ax d pr w hs hf hax ea ec ha hc
  have hbl := row_lt hs
  have P : Hid ((w.alloc (.cells (vrow 3 (foAt ax d pr)) 38)).heap[b]? = some (.cells (vrow 266 s.at) 34)) := heap_past _ _ _ _ hbl hs
  have F : Hid ((w.alloc (.cells (vrow 3 (foAt ax d pr)) 38)).heap[w.heap.size]? = some (.cells (vrow 3 (foAt ax d pr)) 38)) := heap_at _ _ _ rfl
  have hB : Hid (Below w.heap.size w (w.alloc (.cells (vrow 3 (foAt ax d pr)) 38))) := Go.Lib.hid ((Below.refl w.heap.size w).alloc (Nat.le_refl _) _)
  have hin := prsL_in s (a := a) (c := c) (ax := ax) (d := d) ha.2 hc.2
  have hlen := prsL_len s (a := a) (c := c) (ax := ax) (d := d) ha.2 hc.2
  have hGb := fun k m => gqB_bd hv ax d (prsL s a c ax d) k m
  have hgq : ∀ k (h : k < (prsL s a c ax d).length), gq s ax d (prsL s a c ax d) k = gapP s ax d ((prsL s a c ax d)[k]'h) := fun k h => by unfold gq; rw [dif_pos h]
  generalize gq s ax d (prsL s a c ax d) = G at *
  generalize prsL s a c ax d = L at *
  clear hs ea ec
  go_enter Tryd.func56, Tryd.ntmps56
  go_wp2_with (first
    | go_skip
    | ((with_reducible refine wlAt 15 rfl ?_); refine wpList_loadall rfl 38 (.tmp 3) rfl w.heap.size rfl 3 (foAt ax d pr) 38 _ Tryd.underlying38 rfl size_fold F.out ?_)
    | (go_at_call 93; (refine (HL.out _ P.out).mono ?_; rintro e w2 ⟨v, rfl, hO, hb⟩; replace P := Go.Lib.hid (row_next hb P.out); have hsb := hb.size; replace hB := Go.Lib.hid (below_next hB.out hb); clear hb F; obtain ⟨ao, cc, rfl, hr⟩ := own_pro hO; clear hO)))
  have P0 := P.out; have B0 := hB.out
  clear P hB HL
  go_loopw [6, 7, 9] (fun sm mo iv wr => ∃ k : Nat, k ≤ L.length ∧ iv = .int .i64 k ∧ sm = .int .i64 (oS G k) ∧ mo = .int .i64 (oM G k) ∧ wr.heap[b]? = some (.cells (vrow 266 s.at) 34) ∧ (∀ (g : Nat) X, w2.heap[g]? = some X → wr.heap[g]? = some X) ∧ Below w.heap.size w wr) (fun _ _ iv _ => L.length - (intOf iv).toNat)
  case atStart => exact ⟨0, by omega, rfl, rfl, rfl, P0, fun _ _ h => h, B0⟩
  case round =>
    clear P0 B0
    obtain ⟨k, hk, rfl, rfl, rfl, P, hKp, hB⟩ := hrel
    by_cases hlt : k < L.length
    · rcases hr with h0 | ⟨g, N, f, rfl, hg, hN, hrow, hf4⟩
      · omega
      have Gr := Go.Lib.hid (hKp g _ hrow)
      obtain ⟨⟨⟨i, j⟩, hi8, hj8⟩, hp⟩ : ∃ p, L[k]'hlt = p := ⟨_, rfl⟩
      have h4 := hf4 k hlt
      have hgk := hgq k hlt
      have hin1 := hin _ (List.getElem_mem hlt)
      rw [hp] at h4 hgk hin1
      obtain ⟨fx0, fx1, fx2, fx3⟩ := p4_lo h4
      simp only at fx0 fx1 fx2 fx3 hin1
      obtain ⟨⟨⟨i2, j2⟩, hi2, hj2⟩, hsg⟩ : ∃ p, sgP ax d ⟨(i, j), hi8, hj8⟩ = p := ⟨_, rfl⟩
      rw [hsg] at hin1
      simp only at hin1
      rw [← hin1.1] at fx2; rw [← hin1.2] at fx3
      have hga : G k = gp (dyA s i j) (dyA s i2 j2) := by rw [hgk]; unfold gapP; rw [hsg]
      replace hi8 : i < 8 := hi8
      replace hj8 : j < 8 := hj8
      replace hi2 : i2 < 8 := hi2
      replace hj2 : j2 < 8 := hj2
      have hR0 : vrow 2 (fun q => f (k * 4 + q)) = vrow 2 (spAt i j) := vrow_ext _ _ _ fun q hq => by
        have hq2 : q = 0 ∨ q = 1 := by omega
        rcases hq2 with rfl | rfl
        · rw [Nat.add_zero, fx0]; rfl
        · rw [fx1]; rfl
      have hR1 : vrow 2 (fun q => f (k * 4 + 2 + q)) = vrow 2 (spAt i2 j2) := vrow_ext _ _ _ fun q hq => by
        have hq2 : q = 0 ∨ q = 1 := by omega
        rcases hq2 with rfl | rfl
        · rw [Nat.add_zero, fx2]; rfl
        · rw [show k * 4 + 2 + 1 = k * 4 + 3 by omega, fx3]; rfl
      have HR0 := Go.Lib.hid hR0; have HR1 := Go.Lib.hid hR1; have HGA := Go.Lib.hid hga
      have hkp2 := Go.Lib.hid hKp
      have hdA := fun m hm => dyB_bd hv hi8 hj8 m hm
      have hdB := fun m hm => dyB_bd hv hi2 hj2 m hm
      have hS0 := oS_bd hGb k; have hM0 := oM_bd hGb k
      have hGk := hGb k
      clear hR0 hR1 fx0 fx1 fx2 fx3 h4 hgk hin1 hsg hp hf4 hrow hga hKp
      have HSk := Go.Lib.hid (show oS G (k + 1) = oS G k + dsum (G k) 3 from rfl)
      have HMk := Go.Lib.hid (show oM G (k + 1) = mk3 (oM G k) (G k) 3 from rfl)
      obtain ⟨S0, hS0e⟩ : ∃ S0, oS G k = S0 := ⟨_, rfl⟩
      obtain ⟨M0, hM0e⟩ : ∃ M0, oM G k = M0 := ⟨_, rfl⟩
      rw [hS0e] at hS0 HSk ⊢; rw [hM0e] at hM0 HMk ⊢
      clear hS0e hM0e
      replace P := Go.Lib.hid P; replace hB := Go.Lib.hid hB
      have hkI : (k : Int) < (L.length : Int) := by omega
      have hk0 : (0 : Int) ≤ (k : Int) := by omega
      have hkd : decide ((k : Int) < (L.length : Int)) = true := by simpa using hkI
      have hgw := row_lt Gr.out
      go_wp2_with (first
        | go_skip
        | ((with_reducible refine wlAt 27 rfl ?_); refine wpList_loadmid rfl 111 (.tmp 26) rfl g (k * 4) rfl N 2 f 130 _ Tryd.underlying111 rfl size_spot Gr.out (by omega) ?_; rw [HR0.out])
        | ((with_reducible refine wlOp (.store 111 (.tmp 10) (.tmp 27)) rfl ?_); refine wpList_storeall rfl 111 (.tmp 10) (.tmp 27) rfl _ rfl 2 (spAt 0 0) (spAt i j) rfl 111 size_spot (heap_at _ _ _ rfl) (fun i _ => spAt_one _ _ i) ?_; rw [setRow_at _ _ _ _ _ rfl]; have X := Go.Lib.hid (heap_at wr (.cells (vrow 2 (spAt i j)) 111) _ rfl); replace P := Go.Lib.hid (heap_past wr (.cells (vrow 2 (spAt i j)) 111) _ _ (row_lt P.out) P.out); replace Gr := Go.Lib.hid (heap_past wr (.cells (vrow 2 (spAt i j)) 111) _ _ (row_lt Gr.out) Gr.out); replace hkp2 := Go.Lib.hid (fun (g : Nat) X (h : w2.heap[g]? = some X) => heap_past wr (.cells (vrow 2 (spAt i j)) 111) _ _ (row_lt (hkp2.out g X h)) (hkp2.out g X h)); replace hB := Go.Lib.hid (hB.out.alloc hB.out.size (.cells (vrow 2 (spAt i j)) 111)); obtain ⟨xb, hxb⟩ : ∃ xb, wr.heap.size = xb := ⟨_, rfl⟩; rw [hxb] at X ⊢; obtain ⟨Wx, hWx⟩ : ∃ Wx, wr.alloc (.cells (vrow 2 (spAt i j)) 111) = Wx := ⟨_, rfl⟩; rw [hWx] at P Gr X hB hkp2 ⊢; clear hxb hWx)
        | ((with_reducible refine wlAt 32 rfl ?_); refine wpList_loadmid rfl 111 (.tmp 31) rfl g (k * 4 + 2) rfl N 2 f 130 _ Tryd.underlying111 rfl size_spot Gr.out (by omega) ?_; rw [HR1.out])
        | ((with_reducible refine wlOp (.store 111 (.tmp 11) (.tmp 32)) rfl ?_); refine wpList_storeall rfl 111 (.tmp 11) (.tmp 32) rfl _ rfl 2 (spAt 0 0) (spAt i2 j2) rfl 111 size_spot (heap_at _ _ _ rfl) (fun i _ => spAt_one _ _ i) ?_; rw [setRow_at _ _ _ _ _ rfl]; have Y := Go.Lib.hid (heap_at Wx (.cells (vrow 2 (spAt i2 j2)) 111) _ rfl); replace P := Go.Lib.hid (heap_past Wx (.cells (vrow 2 (spAt i2 j2)) 111) _ _ (row_lt P.out) P.out); replace Gr := Go.Lib.hid (heap_past Wx (.cells (vrow 2 (spAt i2 j2)) 111) _ _ (row_lt Gr.out) Gr.out); replace X := Go.Lib.hid (heap_past Wx (.cells (vrow 2 (spAt i2 j2)) 111) _ _ (row_lt X.out) X.out); replace hkp2 := Go.Lib.hid (fun (g : Nat) X (h : w2.heap[g]? = some X) => heap_past Wx (.cells (vrow 2 (spAt i2 j2)) 111) _ _ (row_lt (hkp2.out g X h)) (hkp2.out g X h)); replace hB := Go.Lib.hid (hB.out.alloc hB.out.size (.cells (vrow 2 (spAt i2 j2)) 111)); obtain ⟨yb, hyb⟩ : ∃ yb, Wx.heap.size = yb := ⟨_, rfl⟩; rw [hyb] at Y ⊢; obtain ⟨Wy, hWy⟩ : ∃ Wy, Wx.alloc (.cells (vrow 2 (spAt i2 j2)) 111) = Wy := ⟨_, rfl⟩; rw [hWy] at P Gr X Y hB hkp2 ⊢; clear hyb hWy))
      have P1 := P.out; have X1 := X.out; have Y1 := Y.out; have K1 := hkp2.out; have B1 := hB.out
      clear P X Y hkp2 hB Gr HR0 HR1
      go_loopw [6, 7, 12] (fun sm mo jv wz => ∃ m : Nat, m ≤ 3 ∧ jv = .int .i64 m ∧ sm = .int .i64 (S0 + dsum (G k) m) ∧ mo = .int .i64 (mk3 M0 (G k) m) ∧ wz.heap[b]? = some (.cells (vrow 266 s.at) 34) ∧ wz.heap[xb]? = some (.cells (vrow 2 (spAt i j)) 111) ∧ wz.heap[yb]? = some (.cells (vrow 2 (spAt i2 j2)) 111) ∧ (∀ (g : Nat) X, w2.heap[g]? = some X → wz.heap[g]? = some X) ∧ Below w.heap.size w wz) (fun _ _ jv _ => 3 - (intOf jv).toNat)
      case atStart => exact ⟨0, by omega, rfl, by simp [dsum], rfl, P1, X1, Y1, K1, B1⟩
      case round =>
        clear P1 X1 Y1 K1 B1
        obtain ⟨m, hm, rfl, rfl, rfl, P, X, Y, hKp, hB⟩ := hrel
        by_cases hlm : m < 3
        · have hdA1 := hdA m hlm; have hdB1 := hdB m hlm
          have hds := dsum_bd (G k) hGk m (by omega)
          have hmm := mk3_bd hM0 hGk m (by omega)
          have hgm : G k m = (if dyA s i2 j2 m ≤ dyA s i j m then dyA s i j m - dyA s i2 j2 m else dyA s i2 j2 m - dyA s i j m) := by rw [HGA.out]; rfl
          have hgb := hGk m hlm
          have hd1 : dsum (G k) (m + 1) = dsum (G k) m + G k m := rfl
          have hm1 : mk3 M0 (G k) (m + 1) = max (mk3 M0 (G k) m) (G k m) := rfl
          have eA : s.dye (24 * j + 3 * i + m) = dyA s i j m := rfl
          have eB : s.dye (24 * j2 + 3 * i2 + m) = dyA s i2 j2 m := rfl
          have HZ := Go.Lib.hid fun w => lsize_any (dyA s i j m) (dyA s i2 j2 m) (by omega) (by omega) w
          rw [← hgm] at HZ
          have HD1 := Go.Lib.hid hd1; have HM1 := Go.Lib.hid hm1; have EA := Go.Lib.hid eA; have EB := Go.Lib.hid eB
          clear hd1 hm1 eA eB hgm
          generalize dsum (G k) m = S1 at *
          generalize mk3 M0 (G k) m = M1 at *
          generalize G k m = gm at *
          generalize dyA s i j m = vA at *
          generalize dyA s i2 j2 m = vB at *
          have HMX := Go.Lib.hid fun w => lmax_any M1 gm w
          replace P := Go.Lib.hid P; replace X := Go.Lib.hid X; replace Y := Go.Lib.hid Y; replace hKp := Go.Lib.hid hKp; replace hB := Go.Lib.hid hB
          have hmI : (m : Int) < 3 := by omega
          have hm0 : (0 : Int) ≤ (m : Int) := by omega
          have hmd : decide ((m : Int) < 3) = true := by simpa using hmI
          have hiI : (i : Int) < 8 := by omega
          have hjI : (j : Int) < 8 := by omega
          have hi2I : (i2 : Int) < 8 := by omega
          have hj2I : (j2 : Int) < 8 := by omega
          go_wp2
          refine region_at (by kernel_rfl) (by kernel_rfl) ?_
          intro W hW
          rw [hW] at P X Y hKp hB
          clear hW
          have P' := Go.Lib.hid (cls_row' P.out); have X' := Go.Lib.hid (cls_row' X.out); have Y' := Go.Lib.hid (cls_row' Y.out)
          (repeat (first
            | go_big_quiet_skip
            | (refine wpQuiet_load1 22 _ rfl (by first | exact want_n rfl | exact want_g _ _ _ rfl rfl rfl) xb _ rfl 2 (spAt i j) _ rw_i8 X'.out (by omega) ?_; (first | rw [spAt_0] | rw [spAt_1]); simp only [Act.put, List.setIfInBounds_toArray, List.set_cons_succ, List.set_cons_zero])
            | (refine wpQuiet_load1 22 _ rfl (by first | exact want_n rfl | exact want_g _ _ _ rfl rfl rfl) yb _ rfl 2 (spAt i2 j2) _ rw_i8 Y'.out (by omega) ?_; (first | rw [spAt_0] | rw [spAt_1]); simp only [Act.put, List.setIfInBounds_toArray, List.set_cons_succ, List.set_cons_zero])
            | (refine wpQuiet_load1 23 _ rfl (by first | exact want_n rfl | exact want_g _ _ _ rfl rfl rfl) b _ rfl 266 s.at _ rw_i16 P'.out (by omega) ?_; (first | rw [Sh.at_dye1 s _ (24 * j + 3 * i + m) (by omega) (by omega), EA.out] | rw [Sh.at_dye1 s _ (24 * j2 + 3 * i2 + m) (by omega) (by omega), EB.out]); simp only [Act.put, List.setIfInBounds_toArray, List.set_cons_succ, List.set_cons_zero])
            | go_big_quiet_step ((go_at_call 95; exact cls_call _ (fun w hw => HZ.out w)))))
          refine wpQuiet_nil ?_
          intro Wn hb
          replace P := Go.Lib.hid (row_next hb P.out); replace X := Go.Lib.hid (row_next hb X.out); replace Y := Go.Lib.hid (row_next hb Y.out); replace hB := Go.Lib.hid (below_next hB.out hb); replace hKp := Go.Lib.hid (fun (g : Nat) X (h : w2.heap[g]? = some X) => row_next hb (hKp.out g X h))
          clear hb P' X' Y'
          go_wp2_with (first
            | go_skip
            | (go_at_call 106; (refine (HMX.out _).mono ?_); rintro o w5 ⟨rfl, hb⟩; replace P := Go.Lib.hid (row_next hb P.out); replace X := Go.Lib.hid (row_next hb X.out); replace Y := Go.Lib.hid (row_next hb Y.out); replace hB := Go.Lib.hid (below_next hB.out hb); replace hKp := Go.Lib.hid (fun (g : Nat) X (h : w2.heap[g]? = some X) => row_next hb (hKp.out g X h)); clear hb))
          go_roundw
          case rel => exact ⟨m + 1, by omega, by go_num, by rw [HD1.out]; go_num, by rw [HM1.out], P.out, X.out, Y.out, hKp.out, hB.out⟩
          case measure => simp [intOf]; omega
        · obtain rfl : m = 3 := by omega
          have hmd : decide (((3 : Nat) : Int) < 3) = false := by simp
          replace P := Go.Lib.hid P; replace hKp := Go.Lib.hid hKp; replace hB := Go.Lib.hid hB
          go_wp2
          go_roundw
          case rel => exact ⟨k + 1, by omega, by go_num, by rw [HSk.out], by rw [HMk.out], P.out, hKp.out, hB.out⟩
          case measure => simp [intOf]; omega
    · obtain rfl : k = L.length := by omega
      have hkd : decide ((L.length : Int) < (L.length : Int)) = false := by simp
      replace hB := Go.Lib.hid hB
      go_wp2
      go_ret2
      exact ⟨rfl, hB.out⟩
end Go.Proofs.YtmcpaangofdmpaaDoor
namespace Go.Proofs.YtmcpaangofdmpaaDoor
open Go.RowKit
set_option maxRecDepth 100000
set_option linter.unusedVariables false
set_option linter.unusedSimpArgs false
theorem mixS_self (s : Sh) : vrow 266 (mixS s s.at) = vrow 266 s.at := vrow_ext _ _ _ fun i _ => by unfold mixS; split <;> rfl
theorem mixS_266 (s : Sh) (f : Nat → Value) : vrow 266 (mixS s f) = vrow 266 s.at := vrow_ext _ _ _ fun i hi => by unfold mixS; rw [if_pos hi]
theorem below_grownP {w X X' : World} {d : Nat} (h : Below w.heap.size w X) (g : X.grownBy X' (some d)) (hd : w.heap.size ≤ d) : Below w.heap.size w X' :=
  ⟨g.os.trans h.os, g.tape.trans h.tape, g.output.trans h.output, Nat.le_trans h.size g.size, fun k hk => (g.block k (Nat.lt_of_lt_of_le hk h.size) (by simp; omega)).trans (h.block k hk)⟩
theorem pressS_any (s : Sh) (sb : Nat) (ax : Int) (d : Bool) (pr : Int) (L : List Sp8) (v : Value) (B : Nat) (w : World) (hs : w.heap[sb]? = some (.cells (vrow 266 s.at) 34)) (hb0 : bdP s) (hp : 0 ≤ pr ∧ pr ≤ 16) (hin : inP ax d L) (hax : 1 ≤ ax ∧ ax ≤ 8) (hlen : L.length ≤ 64) (hO : PRO w v ax d L B) (hsB : sb < B) : Calls Tryd.prog 105 #[.pointer (some ⟨sb, 0, none⟩), v, .int .i8 pr] w fun e w' => e = .returned (.int .i64 (prL pr ax d s L).2) ∧ w.grownBy w' (some sb) ∧ w'.heap[sb]? = some (.cells (vrow 266 (prL pr ax d s L).1.at) 34) := by
  have h := press_any s s.at sb 266 34 ax d pr L v B w (Nat.le_refl _) (by rw [mixS_266]; exact hs) hb0 hp hin hax hlen hO hsB
  rw [mixS_266] at h
  exact h
theorem PRO_grown {w X : World} {v : Value} {ax : Int} {d : Bool} {L : List Sp8} {B r : Nat} (g : w.grownBy X (some r)) (h : PRO w v ax d L B) (hr : r < B) : PRO X v ax d L B := by
  obtain ⟨ao, c, rfl, h0⟩ := h
  refine ⟨ao, c, rfl, h0.imp id ?_⟩
  rintro ⟨q, N, f, h1, h2, h3, h4, h5⟩
  exact ⟨q, N, f, h1, h2, h3, (g.block q (row_lt h4) (by simp; omega)).trans h4, h5⟩
set_option maxRecDepth 100000 in
set_option maxHeartbeats 16000000 in
theorem pu_any (s : Sh) (ax : Int) (d : Bool) (pr off : Int) (a c n : Nat) (w : World) (hf : s.fit) (hv : (okI s && foldOk s ax d pr) = true) (hb0 : bdP s) (hax : 1 ≤ ax ∧ ax ≤ 8) (hp : 0 ≤ pr ∧ pr ≤ 16) (ea : s.wide = a) (ec : s.high = c) (ha : a ≤ 8) (hc : c ≤ 8) (hoff : 0 ≤ off)
    (hn : n ≤ 31) (h1 : ∀ i, i < n → off < ofT pr ax d s (prsL s a c ax d) i) (h2 : n < 31 → ofT pr ax d s (prsL s a c ax d) n ≤ off) : Calls Tryd.prog 60 #[.agg s.row, .agg (vrow 3 (foAt ax d pr)), .int .i64 off] w fun e w' => e = .returned (.int .i64 n) ∧ Below w.heap.size w w' := by
  have HP := Go.Lib.hid fun w => pairs_any s ax d pr a c w hf hv hax ea ec ha hc
  have hin := prsL_in s (a := a) (c := c) (ax := ax) (d := d) ha hc
  have hlen := prsL_len s (a := a) (c := c) (ax := ax) (d := d) ha hc
  generalize prsL s a c ax d = L at *
  clear ea ec hv
  have zp := zero_prtP
  have hbT := fun j => prT_bd (ax := ax) (d := d) (L := L) hb0 hp j
  have P : Hid (((w.alloc (.cells (vrow 266 s.at) 34)).alloc (.cells (vrow 3 (foAt ax d pr)) 38)).heap[w.heap.size]? = some (.cells (vrow 266 s.at) 34)) := (heap_past _ _ _ _ (by simp <;> omega) (heap_at _ _ _ (by simp)))
  have F : Hid (((w.alloc (.cells (vrow 266 s.at) 34)).alloc (.cells (vrow 3 (foAt ax d pr)) 38)).heap[w.heap.size + 1]? = some (.cells (vrow 3 (foAt ax d pr)) 38)) := (heap_at _ _ _ (by simp))
  have hB : Hid (Below w.heap.size w ((w.alloc (.cells (vrow 266 s.at) 34)).alloc (.cells (vrow 3 (foAt ax d pr)) 38))) := Go.Lib.hid (((Below.refl w.heap.size w).alloc (by simp <;> omega) _).alloc (by simp <;> omega) _)
  have hF0 := row_lt F.out
  go_enter Tryd.func60, Tryd.ntmps60
  go_wp2
  refine wp_scope_straight ?_
  refine wp_seq ?_
  go_wp2_with (first
    | go_skip
    | ((with_reducible refine wlAt 12 rfl ?_); refine wpList_loadall rfl 34 (.tmp 3) rfl w.heap.size rfl 266 s.at 34 _ Tryd.underlying34 rfl size_sheet P.out ?_)
    | ((with_reducible refine wlAt 13 rfl ?_); refine wpList_loadall rfl 38 (.tmp 4) rfl (w.heap.size + 1) rfl 3 (foAt ax d pr) 38 _ Tryd.underlying38 rfl size_fold F.out ?_)
    | (go_at_call 67; (refine (HP.out _).mono ?_); rintro o w2 ⟨v, rfl, hO, hb⟩; replace P := Go.Lib.hid (row_next hb P.out); replace F := Go.Lib.hid (row_next hb F.out); replace hB := Go.Lib.hid (below_next hB.out hb); have hPO := own_pro hO; clear hO hb; obtain ⟨B0, hB0⟩ : ∃ z, (((w.alloc (.cells (vrow 266 s.at) 34)).alloc (.cells (vrow 3 (foAt ax d pr)) 38))).heap.size = z := ⟨_, rfl⟩; rw [hB0] at hPO hF0; clear hB0))
  refine wp_label ?_
  go_wp2
  have P0 := P.out; have F0 := F.out; have B1 := hB.out; have hw2 := row_lt F0
  clear P F hB HP
  go_loopw [15] (fun iv wr => ∃ t : Nat, t ≤ n ∧ iv = .int .i64 t ∧ wr.heap[w.heap.size]? = some (.cells (vrow 266 (prT pr ax d s L t).at) 34) ∧ w2.grownBy wr (some w.heap.size)) (fun iv _ => 31 - (intOf iv).toNat)
  case atStart => exact ⟨0, by omega, rfl, P0, grown_refl _ _⟩
  case round =>
    clear P0
    obtain ⟨t, ht, rfl, P, GB⟩ := hrel
    have F := (GB.block (w.heap.size + 1) hw2 (by simp)).trans F0
    by_cases ht31 : t < 31
    · have htI : (t : Int) < 31 := by omega
      have ht0 : (0 : Int) ≤ (t : Int) := by omega
      have htd : decide ((t : Int) < 31) = true := by simpa using htI
      have bT := hbT t
      have hGb := fun k m (hm : m < 3) => gqB_bd bT.1 ax d L k m hm
      have hof : ofT pr ax d s L t = oS (gq (prT pr ax d s L t) ax d L) L.length := rfl
      have hgq : ∀ k (h : k < L.length), gq (prT pr ax d s L t) ax d L k = gapP (prT pr ax d s L t) ax d (L[k]'h) := fun k h => by unfold gq; rw [dif_pos h]
      have hnx : prT pr ax d s L (t + 1) = (prL pr ax d (prT pr ax d s L t) L).1 := rfl
      have ht1 := fun h => h1 t h
      have ht2 : t = n → ofT pr ax d s L t ≤ off := fun h => by have h9 := h2 (by omega); rw [← h] at h9; exact h9
      have HNX := Go.Lib.hid hnx
      have HS0 := fun W v h hO => pressS_any (prT pr ax d s L t) w.heap.size ax d pr L v B0 W h bT hp hin hax hlen hO (by omega)
      generalize prT pr ax d s L t = T at *
      generalize gq T ax d L = G at *
      have HS := Go.Lib.hid HS0
      clear HS0 hnx
      replace P := Go.Lib.hid P; replace F := Go.Lib.hid F; replace GB := Go.Lib.hid GB
      obtain ⟨ao, cc, rfl, hr⟩ := hPO
      go_wp2
      have P1 := P.out; have F1 := F.out; have G1 := GB.out
      clear P F GB
      go_loopw [9, 20] (fun sm iv wz => ∃ k : Nat, k ≤ L.length ∧ iv = .int .i64 k ∧ sm = .int .i64 (oS G k) ∧ oS G k ≤ off ∧ wz.heap[w.heap.size]? = some (.cells (vrow 266 T.at) 34) ∧ wz.heap[w.heap.size + 1]? = some (.cells (vrow 3 (foAt ax d pr)) 38) ∧ w2.grownBy wz (some w.heap.size)) (fun _ iv _ => L.length - (intOf iv).toNat)
      case atStart => exact ⟨0, by omega, rfl, rfl, hoff, P1, F1, G1⟩
      case round =>
        clear P1 F1 G1
        obtain ⟨k, hk, rfl, rfl, hso, P, F, GB⟩ := hrel
        by_cases hlt : k < L.length
        · skip
          rcases hr with h0 | ⟨g, N, f, rfl, hg, hN, hrow, hf4⟩
          · omega
          have Gr := Go.Lib.hid ((GB.block g (row_lt hrow) (by simp; omega)).trans hrow)
          obtain ⟨⟨⟨i, j⟩, hi8, hj8⟩, hpk⟩ : ∃ p, L[k]'hlt = p := ⟨_, rfl⟩
          have h4 := hf4 k hlt
          have hgk := hgq k hlt
          have hin1 := hin _ (List.getElem_mem hlt)
          rw [hpk] at h4 hgk hin1
          obtain ⟨⟨⟨i2, j2⟩, hi2, hj2⟩, hsg⟩ : ∃ p, sgP ax d ⟨(i, j), hi8, hj8⟩ = p := ⟨_, rfl⟩
          rw [hsg] at hin1
          simp only at hin1 h4
          rw [← hin1.1, ← hin1.2] at h4
          have hga : G k = gp (dyA T i j) (dyA T i2 j2) := by rw [hgk]; unfold gapP; rw [hsg]
          replace hi8 : i < 8 := hi8
          replace hj8 : j < 8 := hj8
          replace hi2 : i2 < 8 := hi2
          replace hj2 : j2 < 8 := hj2
          have H4 := Go.Lib.hid h4
          have HGO := Go.Lib.hid fun w => gapsB_any T i j i2 j2 w bT.1 hi8 hj8 hi2 hj2
          rw [← hga] at HGO
          have HDA := Go.Lib.hid fun w => darkness_any (G k) (hGb k) w
          have hS0 := oS_bd hGb k
          have hds := dsum_bd (G k) (hGb k) 3 (by omega)
          have hSk : oS G (k + 1) = oS G k + dsum (G k) 3 := rfl
          have hmn := oS_mono hGb (show k + 1 ≤ L.length by omega)
          have HPO : PRO w2 (.slice (some ⟨g, 0, none⟩) L.length cc) ax d L B0 := ⟨_, _, rfl, .inr ⟨g, N, f, rfl, hg, hN, hrow, hf4⟩⟩
          clear h4 hgk hin1 hsg hpk hga
          rw [hSk] at hmn
          have HSK := Go.Lib.hid hSk
          clear hSk
          generalize oS G k = s0 at *
          generalize dsum (G k) 3 = dk at *
          generalize G k = gk at *
          replace P := Go.Lib.hid P; replace F := Go.Lib.hid F; replace GB := Go.Lib.hid GB
          have hkI : (k : Int) < (L.length : Int) := by omega
          have hk0 : (0 : Int) ≤ (k : Int) := by omega
          have hkd : decide ((k : Int) < (L.length : Int)) = true := by simpa using hkI
          have hws : IntKind.i64.wrap (s0 + dk) = s0 + dk := IntWalk.i64_in _ (by omega)
          have hlf := row_lt F.out
          by_cases hgt : off < s0 + dk
          · have hgd : decide (off < s0 + dk) = true := by simpa using hgt
            have htn : t < n := by
              rcases Nat.lt_or_ge t n with h | h
              · exact h
              · exfalso
                have := ht2 (by omega)
                omega
            go_wp2_with (first
              | go_skip
              | ((with_reducible refine wlAt 23 rfl ?_); refine wpList_loadmid rfl 130 (.tmp 22) rfl g (k * 4) rfl N 4 f 130 _ Tryd.underlying130 rfl size_prtP Gr.out (by omega) ?_; rw [H4.out])
              | ((with_reducible refine wlOp (.store 130 (.tmp 11) (.tmp 23)) rfl ?_); refine wpList_storeall rfl 130 (.tmp 11) (.tmp 23) rfl _ rfl 4 (p4 0 0 0 0) (p4 i j i2 j2) rfl 130 size_prtP (heap_at _ _ _ rfl) (fun i _ => p4_one _ _ _ _ i) ?_; rw [setRow_at _ _ _ _ _ rfl]; have R := Go.Lib.hid (heap_at wr (.cells (vrow 4 (p4 i j i2 j2)) 130) _ rfl); replace P := Go.Lib.hid (heap_past wr (.cells (vrow 4 (p4 i j i2 j2)) 130) _ _ (row_lt P.out) P.out); replace F := Go.Lib.hid (heap_past wr (.cells (vrow 4 (p4 i j i2 j2)) 130) _ _ (row_lt F.out) F.out); replace GB := Go.Lib.hid (grown_alloc GB.out (.cells (vrow 4 (p4 i j i2 j2)) 130)); obtain ⟨rb, hrb⟩ : ∃ z, wr.heap.size = z := ⟨_, rfl⟩; rw [hrb] at R ⊢; generalize World.alloc wr _ = V1 at P F R GB ⊢; clear Gr hrb)
              | ((with_reducible refine wlAt 25 rfl ?_); refine wpList_loadall rfl 34 (.tmp 3) rfl w.heap.size rfl 266 T.at 34 _ Tryd.underlying34 rfl size_sheet P.out ?_)
              | ((with_reducible refine wlAt 26 rfl ?_); refine wpList_loadall rfl 130 (.tmp 11) rfl rb rfl 4 (p4 i j i2 j2) 130 _ Tryd.underlying130 rfl size_prtP R.out ?_)
              | (go_at_call 109; (refine (HGO.out _).mono ?_); rintro o w1 ⟨rfl, hb⟩; replace P := Go.Lib.hid (row_next hb P.out); replace F := Go.Lib.hid (row_next hb F.out); replace GB := Go.Lib.hid (grown_next GB.out hb); clear hb R)
              | (go_at_call 108; (refine (HDA.out _).mono ?_); rintro o w1 ⟨rfl, hb⟩; replace P := Go.Lib.hid (row_next hb P.out); replace F := Go.Lib.hid (row_next hb F.out); replace GB := Go.Lib.hid (grown_next GB.out hb); clear hb)
              | ((with_reducible refine wlAt 35 rfl ?_); refine wpList_ld1 22 _ rfl (by first | exact want_n rfl | exact want_g _ _ _ rfl rfl rfl) (w.heap.size + 1) 2 rfl 3 (foAt ax d pr) _ rw_i8 F.out (by omega) ?_; rw [foAt_2])
              | (go_at_call 105; (refine (HS.out _ _ P.out (PRO_grown GB.out HPO (by omega))).mono ?_); rintro o w5 ⟨rfl, hg1, hP1⟩; replace P := Go.Lib.hid hP1; replace GB := Go.Lib.hid (grown_tr' GB.out hg1); clear hg1 hP1))
            go_roundw
            case rel => exact ⟨t + 1, by omega, by go_num, by rw [HNX.out]; exact P.out, GB.out⟩
            case measure => simp [intOf]; omega
          · have hgd : decide (off < s0 + dk) = false := by simpa using hgt
            go_wp2_with (first
              | go_skip
              | ((with_reducible refine wlAt 23 rfl ?_); refine wpList_loadmid rfl 130 (.tmp 22) rfl g (k * 4) rfl N 4 f 130 _ Tryd.underlying130 rfl size_prtP Gr.out (by omega) ?_; rw [H4.out])
              | ((with_reducible refine wlOp (.store 130 (.tmp 11) (.tmp 23)) rfl ?_); refine wpList_storeall rfl 130 (.tmp 11) (.tmp 23) rfl _ rfl 4 (p4 0 0 0 0) (p4 i j i2 j2) rfl 130 size_prtP (heap_at _ _ _ rfl) (fun i _ => p4_one _ _ _ _ i) ?_; rw [setRow_at _ _ _ _ _ rfl]; have R := Go.Lib.hid (heap_at wr (.cells (vrow 4 (p4 i j i2 j2)) 130) _ rfl); replace P := Go.Lib.hid (heap_past wr (.cells (vrow 4 (p4 i j i2 j2)) 130) _ _ (row_lt P.out) P.out); replace F := Go.Lib.hid (heap_past wr (.cells (vrow 4 (p4 i j i2 j2)) 130) _ _ (row_lt F.out) F.out); replace GB := Go.Lib.hid (grown_alloc GB.out (.cells (vrow 4 (p4 i j i2 j2)) 130)); obtain ⟨rb, hrb⟩ : ∃ z, wr.heap.size = z := ⟨_, rfl⟩; rw [hrb] at R ⊢; generalize World.alloc wr _ = V1 at P F R GB ⊢; clear Gr hrb)
              | ((with_reducible refine wlAt 25 rfl ?_); refine wpList_loadall rfl 34 (.tmp 3) rfl w.heap.size rfl 266 T.at 34 _ Tryd.underlying34 rfl size_sheet P.out ?_)
              | ((with_reducible refine wlAt 26 rfl ?_); refine wpList_loadall rfl 130 (.tmp 11) rfl rb rfl 4 (p4 i j i2 j2) 130 _ Tryd.underlying130 rfl size_prtP R.out ?_)
              | (go_at_call 109; (refine (HGO.out _).mono ?_); rintro o w1 ⟨rfl, hb⟩; replace P := Go.Lib.hid (row_next hb P.out); replace F := Go.Lib.hid (row_next hb F.out); replace GB := Go.Lib.hid (grown_next GB.out hb); clear hb R)
              | (go_at_call 108; (refine (HDA.out _).mono ?_); rintro o w1 ⟨rfl, hb⟩; replace P := Go.Lib.hid (row_next hb P.out); replace F := Go.Lib.hid (row_next hb F.out); replace GB := Go.Lib.hid (grown_next GB.out hb); clear hb))
            go_roundw
            case rel => exact ⟨k + 1, by omega, by go_num, by rw [HSK.out], by rw [HSK.out]; omega, P.out, F.out, GB.out⟩
            case measure => simp [intOf]; omega
        · obtain rfl : k = L.length := by omega
          have hkd : decide ((L.length : Int) < (L.length : Int)) = false := by simp
          have htn : t = n := by
            rcases Nat.lt_or_ge t n with h | h
            · have := ht1 h
              omega
            · omega
          go_wp2
          simp only [Exit.noGoto]
          go_ret
          exact ⟨by rw [htn]; rfl, below_grownP B1 GB (Nat.le_refl _)⟩
    · obtain rfl : t = 31 := by omega
      obtain rfl : n = 31 := by omega
      have htd : decide (((31 : Nat) : Int) < 31) = false := by simp
      go_wp2
      simp only [Exit.noGoto]
      go_ret
      exact ⟨rfl, below_grownP B1 GB (Nat.le_refl _)⟩
end Go.Proofs.YtmcpaangofdmpaaDoor
