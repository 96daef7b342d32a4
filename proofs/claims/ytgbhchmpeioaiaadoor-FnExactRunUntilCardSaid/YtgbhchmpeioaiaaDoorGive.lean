import Derived.Deep.RegionHeld3
import Derived.Test.YtgbhchmpeioaiaaDoorFirstW
import Derived.Test.YtgbhchmpeioaiaaDoorClos
import Derived.Test.YtgbhchmpeioaiaaDoorBeside
import Derived.Test.YtgbhchmpeioaiaaDoorGdB
namespace Go.Proofs.YtgbhchmpeioaiaaDoor
open Go.RowKit
set_option maxRecDepth 100000
set_option linter.unusedVariables false
set_option linter.unusedSimpArgs false
set_option linter.unusedSimpArgs false
theorem drew_row {w : World} {b : Nat} {x : Obj} (h : w.heap[b]? = some x) : w.drew.heap[b]? = some x := h
theorem lmin_any (a b : Int) (w : World) : Calls Tryd.prog 111 #[.int .i64 a, .int .i64 b] w fun e w' => e = .returned (.int .i64 (min a b)) ∧ Below w.heap.size w w' := by
  by_cases h : a < b
  · rw [Int.min_eq_left (by omega)]
    have hd : decide (a < b) = true := by simpa using h
    go_enter Tryd.func111, Tryd.ntmps111
    go_wp2
    go_ret
    exact ⟨rfl, Below.refl _ _⟩
  · rw [Int.min_eq_right (by omega)]
    have hd : decide (a < b) = false := by simpa using h
    go_enter Tryd.func111, Tryd.ntmps111
    go_wp2
    go_ret
    exact ⟨rfl, Below.refl _ _⟩
/-- what goes of an ink -/
def partOf (T : Sh) (x y u v : Nat) (wt : Int) (k : Nat) : Int := min ((T.dye (24 * y + 3 * x + k)).tdiv wt) (1000 - T.dye (24 * v + 3 * u + k))
/-- one ink has gone -/
def giveInk (T : Sh) (x y u v : Nat) (wt : Int) (k : Nat) : Sh := (T.setDye (24 * y + 3 * x + k) (T.dye (24 * y + 3 * x + k) - partOf T x y u v wt k)).setDye (24 * v + 3 * u + k) (T.dye (24 * v + 3 * u + k) + partOf T x y u v wt k)
def giveInks (T : Sh) (x y u v : Nat) (wt : Int) : Nat → Sh
  | 0 => T
  | k + 1 => giveInk (giveInks T x y u v wt k) x y u v wt k
/-- a unit has gone -/
def giveS (T : Sh) (x y u v : Nat) : Sh :=
  let G := giveInks T x y u v (T.wet (8 * y + x)) 3
  (G.setWet (8 * y + x) (T.wet (8 * y + x) - 1)).setWet (8 * v + u) (T.wet (8 * v + u) + 1)
theorem giveInks_wet (T : Sh) (x y u v : Nat) (wt : Int) (i : Nat) : ∀ k, (giveInks T x y u v wt k).wet i = T.wet i
  | 0 => rfl
  | k + 1 => giveInks_wet T x y u v wt i k
theorem part_bd {T : Sh} {x y u v : Nat} {wt : Int} {k : Nat} (h : InkOk T) (hw : 1 ≤ wt) : 0 ≤ partOf T x y u v wt k ∧ partOf T x y u v wt k ≤ T.dye (24 * y + 3 * x + k) ∧ partOf T x y u v wt k ≤ 1000 - T.dye (24 * v + 3 * u + k) ∧ 0 ≤ (T.dye (24 * y + 3 * x + k)).tdiv wt ∧ (T.dye (24 * y + 3 * x + k)).tdiv wt ≤ 1000 := by
  have h1 := h (24 * y + 3 * x + k)
  have h2 := h (24 * v + 3 * u + k)
  have e : (T.dye (24 * y + 3 * x + k)).tdiv wt = T.dye (24 * y + 3 * x + k) / wt := Int.tdiv_eq_ediv_of_nonneg h1.1
  have h3 : 0 ≤ T.dye (24 * y + 3 * x + k) / wt := Int.ediv_nonneg h1.1 (by omega)
  have h4 : T.dye (24 * y + 3 * x + k) / wt ≤ T.dye (24 * y + 3 * x + k) := Int.ediv_le_self _ h1.1
  unfold partOf
  rw [e]
  omega
theorem giveInk_ok {T : Sh} {x y u v : Nat} {wt : Int} {k : Nat} (h : InkOk T) (hw : 1 ≤ wt) : InkOk (giveInk T x y u v wt k) := by
  intro i
  obtain ⟨h1, h2, h3, _⟩ := part_bd (x := x) (y := y) (u := u) (v := v) (k := k) h hw
  have h4 := h (24 * y + 3 * x + k)
  have h5 := h (24 * v + 3 * u + k)
  have h6 := h i
  show 0 ≤ (if i = 24 * v + 3 * u + k then _ else if i = 24 * y + 3 * x + k then _ else T.dye i) ∧ (if i = 24 * v + 3 * u + k then _ else if i = 24 * y + 3 * x + k then _ else T.dye i) ≤ 1000
  by_cases c : i = 24 * v + 3 * u + k
  · rw [if_pos c]; omega
  · rw [if_neg c]
    by_cases c2 : i = 24 * y + 3 * x + k
    · rw [if_pos c2]; omega
    · rw [if_neg c2]; exact h6
theorem giveInks_ok {T : Sh} {x y u v : Nat} {wt : Int} (h : InkOk T) (hw : 1 ≤ wt) : ∀ k, InkOk (giveInks T x y u v wt k)
  | 0 => h
  | k + 1 => giveInk_ok (giveInks_ok h hw k) hw
set_option maxHeartbeats 8000000 in
theorem giveC (T : Sh) (mt x y u v : Nat) (w : World) (ht : w.heap[mt]? = some (.cells (vrow 266 T.at) 35)) (hx : x < 8) (hy : y < 8) (hu : u < 8) (hv : v < 8) (hne : 8 * y + x ≠ 8 * v + u) (hi : InkOk T) (hw : 1 ≤ T.wet (8 * y + x) ∧ T.wet (8 * y + x) ≤ 200) (hw2 : 0 ≤ T.wet (8 * v + u) ∧ T.wet (8 * v + u) ≤ 199) (hfit : T.fit) : Calls Tryd.prog 85 #[.pointer (some ⟨mt, 0, none⟩), .agg (vrow 2 (spAt x y)), .agg (vrow 2 (spAt u v))] w fun e w' => (∃ r, e = .returned r) ∧ w.grownBy w' (some mt) ∧ w'.heap[mt]? = some (.cells (vrow 266 (giveS T x y u v).at) 35) := by
  have hxI : (x : Int) < 8 := by omega
  have hyI : (y : Int) < 8 := by omega
  have huI : (u : Int) < 8 := by omega
  have hvI : (v : Int) < 8 := by omega
  have HW0 := fun w hs => l02Wet_any T mt x y w hs hfit hx hy
  obtain ⟨wt, hwt⟩ : ∃ wt, T.wet (8 * y + x) = wt := ⟨_, rfl⟩
  rw [show wetF T x y = wt from hwt] at HW0
  rw [hwt] at hw
  have HW := Go.Lib.hid HW0
  have HWT := Go.Lib.hid hwt
  clear HW0 hwt hfit
  have hB : Hid (Below w.heap.size w ((w.alloc (.cells (vrow 2 (spAt x y)) 40)).alloc (.cells (vrow 2 (spAt u v)) 40))) := (((Below.refl w.heap.size w).alloc (by simp <;> omega) _).alloc (by simp <;> omega) _)
  have R : Hid (((w.alloc (.cells (vrow 2 (spAt x y)) 40)).alloc (.cells (vrow 2 (spAt u v)) 40)).heap[(w.heap.size)]? = some (.cells (vrow 2 (spAt x y)) 40)) := heap_past _ _ _ _ (by first | omega | (simp <;> omega)) (heap_at _ _ _ (by simp))
  have Q : Hid (((w.alloc (.cells (vrow 2 (spAt x y)) 40)).alloc (.cells (vrow 2 (spAt u v)) 40)).heap[(w.heap.size + 1)]? = some (.cells (vrow 2 (spAt u v)) 40)) := heap_at _ _ _ (by simp)
  have M : Hid (((w.alloc (.cells (vrow 2 (spAt x y)) 40)).alloc (.cells (vrow 2 (spAt u v)) 40)).heap[mt]? = some (.cells (vrow 266 T.at) 35)) := heap_past _ _ _ _ (by first | (have := row_lt ht; omega) | (have := row_lt ht; simp <;> omega)) (heap_past _ _ _ _ (by first | (have := row_lt ht; omega) | (have := row_lt ht; simp <;> omega)) (ht))
  have hG : Hid (w.grownBy ((w.alloc (.cells (vrow 2 (spAt x y)) 40)).alloc (.cells (vrow 2 (spAt u v)) 40)) (some mt)) := Go.Lib.hid (grown_alloc (grown_alloc (grown_refl w _) _) _)
  have hmt := row_lt ht
  clear ht hB
  go_enter Tryd.func85, Tryd.ntmps85
  go_wp2_with (first
    | (go_at_call 58; (refine (HW.out _ M.out).mono ?_; rintro e w1 ⟨rfl, hb⟩; replace R := Go.Lib.hid (row_next hb R.out); replace Q := Go.Lib.hid (row_next hb Q.out); replace M := Go.Lib.hid (row_next hb M.out); replace hG := Go.Lib.hid (grown_next hG.out hb); clear hb ))
    | (refine list_at 10 rfl ?_; intro W hW; rw [hW] at hG R Q M; clear hW; have R' := Go.Lib.hid (cls_row' R.out); have Q' := Go.Lib.hid (cls_row' Q.out); have M' := Go.Lib.hid (cls_row' M.out); (repeat (first | go_big_quiet_skip | (refine wpQuiet_loadmid 40 _ rfl (by first | exact want_n rfl | exact want_g _ _ _ rfl rfl rfl) (w.heap.size) _ rfl 2 2 (spAt x y) _ rw_spot size_spot R'.out (by omega) ?_; rw [sp_row]; simp only [Act.put, List.setIfInBounds_toArray, List.set_cons_succ, List.set_cons_zero]) | go_big_quiet_step ((go_at_call 58; exact cls_call _ (fun w hw => HW.out w (row_next hw M.out)))))); refine wpQuiet_nil ?_; intro Wn hb; replace R := Go.Lib.hid (row_next hb R.out); replace Q := Go.Lib.hid (row_next hb Q.out); replace M := Go.Lib.hid (row_next hb M.out); replace hG := Go.Lib.hid (grown_next hG.out hb); clear hb R' Q' M'))
  obtain ⟨wo, hwo⟩ : ∃ wo : World, wo = Wn := ⟨_, rfl⟩
  rw [← hwo] at R Q M hG ⊢
  clear hwo Wn
  go_loopw [7, 8] (fun kv nv wr => ∃ k : Nat, k ≤ 3 ∧ kv = .int .i64 k ∧ w.grownBy wr (some mt) ∧ wr.heap[mt]? = some (.cells (vrow 266 (giveInks T x y u v wt k).at) 35) ∧ wr.heap[w.heap.size]? = some (.cells (vrow 2 (spAt x y)) 40) ∧ wr.heap[w.heap.size + 1]? = some (.cells (vrow 2 (spAt u v)) 40)) (fun kv _ _ => 3 - (intOf kv).toNat)
  case atStart => exact ⟨0, by omega, rfl, hG.out, M.out, R.out, Q.out⟩
  case round =>
    clear R Q M hG
    obtain ⟨k, hk, rfl, hG, M, R, Q⟩ := hrel
    have hGi := giveInks_ok (x := x) (y := y) (u := u) (v := v) hi hw.1 k
    have hG := Go.Lib.hid hG; have M := Go.Lib.hid M; have R := Go.Lib.hid R; have Q := Go.Lib.hid Q
    by_cases hlt : k < 3
    · have hkd : decide ((k : Int) < 3) = true := by simp; omega
      have hkI : (k : Int) < 3 := by omega
      obtain ⟨p1, p2, p3, p4, p5⟩ := part_bd (x := x) (y := y) (u := u) (v := v) (k := k) hGi hw.1
      have hd1 := hGi (24 * y + 3 * x + k)
      have hd2 := hGi (24 * v + 3 * u + k)
      have hst : giveInks T x y u v wt (k + 1) = giveInk (giveInks T x y u v wt k) x y u v wt k := rfl
      generalize giveInks T x y u v wt k = G at *
      have hpt : partOf G x y u v wt k = min ((G.dye (24 * y + 3 * x + k)).tdiv wt) (1000 - G.dye (24 * v + 3 * u + k)) := rfl
      have hgi : giveInk G x y u v wt k = (G.setDye (24 * y + 3 * x + k) (G.dye (24 * y + 3 * x + k) - partOf G x y u v wt k)).setDye (24 * v + 3 * u + k) (G.dye (24 * v + 3 * u + k) + partOf G x y u v wt k) := rfl
      have hne3 : ∀ z, (G.setDye (24 * y + 3 * x + k) z).dye (24 * v + 3 * u + k) = G.dye (24 * v + 3 * u + k) := fun z => if_neg (by omega)
      rw [hgi] at hst
      clear hgi
      generalize partOf G x y u v wt k = pt at *
      have HST := Go.Lib.hid hst; have HPT := Go.Lib.hid hpt; have HNE := Go.Lib.hid hne3
      clear hst hpt hne3 hGi hi
      have hwz : ¬ wt = 0 := by omega
      generalize hdd : G.dye (24 * y + 3 * x + k) = d at *
      generalize hee : G.dye (24 * v + 3 * u + k) = ee at *
      have HDD := Go.Lib.hid hdd; have HEE := Go.Lib.hid hee
      clear hdd hee
      go_wp2
      refine wp_region_still_tail 15 (by kernel_rfl) (by kernel_rfl) ?_
      simp only [List.take_succ_cons, List.take_zero, List.drop_succ_cons, List.drop_zero, World.drew_eq]
      repeat (first
        | (refine wpStill_load1 rfl 22 (.tmp 17) rfl (w.heap.size) (1) rfl 2 (spAt x y) _ _ Tryd.underlying22 rfl R.out (by omega) ?_; rw [spAt_1]; simp only [Act.put, List.setIfInBounds_toArray, List.set_cons_succ, List.set_cons_zero])
        | (refine wpStill_load1 rfl 22 (.tmp 19) rfl (w.heap.size) (0) rfl 2 (spAt x y) _ _ Tryd.underlying22 rfl R.out (by omega) ?_; rw [spAt_0]; simp only [Act.put, List.setIfInBounds_toArray, List.set_cons_succ, List.set_cons_zero])
        | (refine wpStill_load1 rfl 23 (.tmp 26) rfl (mt) (66 + y * 24 + x * 3 + k) rfl 266 G.at _ _ Tryd.underlying23 rfl M.out (by omega) ?_; rw [Sh.at_dye1 _ _ (24 * y + 3 * x + k) (by omega) (by omega), HDD.out]; simp only [Act.put, List.setIfInBounds_toArray, List.set_cons_succ, List.set_cons_zero])
        | still_step
        | (refine wpStill_step (fun K hK => ?_); go_simp; simp only [hxI, hyI, huI, hvI, hkI, if_true]; go_simp; refine hK _ ?_; clear hK K))
      refine wpStill_nil ?_
      go_wp2
      refine wp_region_still_tail 15 (by kernel_rfl) (by kernel_rfl) ?_
      simp only [List.take_succ_cons, List.take_zero, List.drop_succ_cons, List.drop_zero, World.drew_eq]
      repeat (first
        | (refine wpStill_load1 rfl 22 (.tmp 33) rfl (w.heap.size + 1) (1) rfl 2 (spAt u v) _ _ Tryd.underlying22 rfl Q.out (by omega) ?_; rw [spAt_1]; simp only [Act.put, List.setIfInBounds_toArray, List.set_cons_succ, List.set_cons_zero])
        | (refine wpStill_load1 rfl 22 (.tmp 35) rfl (w.heap.size + 1) (0) rfl 2 (spAt u v) _ _ Tryd.underlying22 rfl Q.out (by omega) ?_; rw [spAt_0]; simp only [Act.put, List.setIfInBounds_toArray, List.set_cons_succ, List.set_cons_zero])
        | (refine wpStill_load1 rfl 23 (.tmp 42) rfl (mt) (66 + v * 24 + u * 3 + k) rfl 266 G.at _ _ Tryd.underlying23 rfl M.out (by omega) ?_; rw [Sh.at_dye1 _ _ (24 * v + 3 * u + k) (by omega) (by omega), HEE.out]; simp only [Act.put, List.setIfInBounds_toArray, List.set_cons_succ, List.set_cons_zero])
        | still_step
        | (refine wpStill_step (fun K hK => ?_); go_simp; simp only [hxI, hyI, huI, hvI, hkI, if_true]; go_simp; refine hK _ ?_; clear hK K))
      refine wpStill_nil ?_
      go_wp2_with (first
        | (go_at_call 111; (refine (lmin_any _ _ _).mono ?_; rintro e w4 ⟨rfl, hb⟩; rw [← HPT.out]; replace R := Go.Lib.hid (row_next hb (drew_row (drew_row R.out))); replace Q := Go.Lib.hid (row_next hb (drew_row (drew_row Q.out))); replace M := Go.Lib.hid (row_next hb (drew_row (drew_row M.out))); replace hG := Go.Lib.hid (grown_next (grown_drew (grown_drew hG.out)) hb); clear hb)))
      refine wp_region_still_tail 20 (by kernel_rfl) (by kernel_rfl) ?_
      simp only [List.take_succ_cons, List.take_zero, List.drop_succ_cons, List.drop_zero, World.drew_eq]
      repeat (first
        | (refine wpStill_load1 rfl 22 (.tmp 48) rfl (w.heap.size) (1) rfl 2 (spAt x y) _ _ Tryd.underlying22 rfl R.out (by omega) ?_; rw [spAt_1]; simp only [Act.put, List.setIfInBounds_toArray, List.set_cons_succ, List.set_cons_zero])
        | (refine wpStill_load1 rfl 22 (.tmp 50) rfl (w.heap.size) (0) rfl 2 (spAt x y) _ _ Tryd.underlying22 rfl R.out (by omega) ?_; rw [spAt_0]; simp only [Act.put, List.setIfInBounds_toArray, List.set_cons_succ, List.set_cons_zero])
        | (refine wpStill_load1 rfl 23 (.tmp 57) rfl (mt) (66 + y * 24 + x * 3 + k) rfl 266 G.at _ _ Tryd.underlying23 rfl M.out (by omega) ?_; rw [Sh.at_dye1 _ _ (24 * y + 3 * x + k) (by omega) (by omega), HDD.out]; simp only [Act.put, List.setIfInBounds_toArray, List.set_cons_succ, List.set_cons_zero])
        | still_step
        | (refine wpStill_step (fun K hK => ?_); go_simp; simp only [hxI, hyI, huI, hvI, hkI, if_true]; go_simp; refine hK _ ?_; clear hK K))
      refine wpStill_nil ?_
      refine wpList_store1 rfl 23 (.tmp 66) (.tmp 61) rfl mt (66 + y * 24 + x * 3 + k) rfl 266 G.at (.int .i16 (d - pt)) (by first | rfl | (show Value.int .i16 (IntKind.i16.wrap (d -  IntKind.i16.wrap pt)) = _; rw [IntWalk.i16_in pt (by omega), IntWalk.i16_in (d - pt) (by omega)])) 35 size_i16 M.out (by omega) rfl ?_
      rw [dye_at G _ (24 * y + 3 * x + k) (by omega) (by omega)]
      have M2 := row_set (w := w4.drew) M.out (vrow 266 (G.setDye (24 * y + 3 * x + k) (d - pt)).at)
      have R2 := row_set' (w := w4.drew) (g := mt) (by omega) R.out (vrow 266 (G.setDye (24 * y + 3 * x + k) (d - pt)).at)
      have Q2 := row_set' (w := w4.drew) (g := mt) (by omega) Q.out (vrow 266 (G.setDye (24 * y + 3 * x + k) (d - pt)).at)
      have hG2 := grown_set (grown_drew hG.out) (vrow 266 (G.setDye (24 * y + 3 * x + k) (d - pt)).at)
      clear R Q M hG
      generalize World.setRow w4.drew _ _ = w5 at R2 Q2 M2 hG2 ⊢
      have R := Go.Lib.hid R2; have Q := Go.Lib.hid Q2; have M := Go.Lib.hid M2; have hG := Go.Lib.hid hG2
      clear R2 Q2 M2 hG2
      go_wp2
      refine wp_region_still_tail 20 (by kernel_rfl) (by kernel_rfl) ?_
      simp only [List.take_succ_cons, List.take_zero, List.drop_succ_cons, List.drop_zero, World.drew_eq]
      repeat (first
        | (refine wpStill_load1 rfl 22 (.tmp 68) rfl (w.heap.size + 1) (1) rfl 2 (spAt u v) _ _ Tryd.underlying22 rfl Q.out (by omega) ?_; rw [spAt_1]; simp only [Act.put, List.setIfInBounds_toArray, List.set_cons_succ, List.set_cons_zero])
        | (refine wpStill_load1 rfl 22 (.tmp 70) rfl (w.heap.size + 1) (0) rfl 2 (spAt u v) _ _ Tryd.underlying22 rfl Q.out (by omega) ?_; rw [spAt_0]; simp only [Act.put, List.setIfInBounds_toArray, List.set_cons_succ, List.set_cons_zero])
        | (refine wpStill_load1 rfl 23 (.tmp 77) rfl (mt) (66 + v * 24 + u * 3 + k) rfl 266 (G.setDye (24 * y + 3 * x + k) (d - pt)).at _ _ Tryd.underlying23 rfl M.out (by omega) ?_; rw [Sh.at_dye1 _ _ (24 * v + 3 * u + k) (by omega) (by omega), HNE.out]; simp only [Act.put, List.setIfInBounds_toArray, List.set_cons_succ, List.set_cons_zero])
        | still_step
        | (refine wpStill_step (fun K hK => ?_); go_simp; simp only [hxI, hyI, huI, hvI, hkI, if_true]; go_simp; refine hK _ ?_; clear hK K))
      refine wpStill_nil ?_
      refine wpList_store1 rfl 23 (.tmp 86) (.tmp 81) rfl mt (66 + v * 24 + u * 3 + k) rfl 266 (G.setDye (24 * y + 3 * x + k) (d - pt)).at (.int .i16 (ee + pt)) (by first | rfl | (show Value.int .i16 (IntKind.i16.wrap (ee +  IntKind.i16.wrap pt)) = _; rw [IntWalk.i16_in pt (by omega), IntWalk.i16_in (ee + pt) (by omega)])) 35 size_i16 M.out (by omega) rfl ?_
      rw [dye_at (G.setDye (24 * y + 3 * x + k) (d - pt)) _ (24 * v + 3 * u + k) (by omega) (by omega)]
      have M2 := row_set (w := w5.drew) M.out (vrow 266 ((G.setDye (24 * y + 3 * x + k) (d - pt)).setDye (24 * v + 3 * u + k) (ee + pt)).at)
      have R2 := row_set' (w := w5.drew) (g := mt) (by omega) R.out (vrow 266 ((G.setDye (24 * y + 3 * x + k) (d - pt)).setDye (24 * v + 3 * u + k) (ee + pt)).at)
      have Q2 := row_set' (w := w5.drew) (g := mt) (by omega) Q.out (vrow 266 ((G.setDye (24 * y + 3 * x + k) (d - pt)).setDye (24 * v + 3 * u + k) (ee + pt)).at)
      have hG2 := grown_set (grown_drew hG.out) (vrow 266 ((G.setDye (24 * y + 3 * x + k) (d - pt)).setDye (24 * v + 3 * u + k) (ee + pt)).at)
      clear R Q M hG
      generalize World.setRow w5.drew _ _ = w6 at R2 Q2 M2 hG2 ⊢
      have R := Go.Lib.hid R2; have Q := Go.Lib.hid Q2; have M := Go.Lib.hid M2; have hG := Go.Lib.hid hG2
      clear R2 Q2 M2 hG2
      go_wp2
      go_roundw
      case rel => exact ⟨k + 1, by omega, by go_num, hG.out, by rw [HST.out]; exact M.out, R.out, Q.out⟩
      case measure => simp [intOf]; omega
    · obtain rfl : k = 3 := by omega
      have hkd : decide (((3 : Nat) : Int) < 3) = false := by simp
      have hwf : (giveInks T x y u v wt 3).wet (8 * y + x) = wt := by rw [giveInks_wet]; exact HWT.out
      have hwt2 : (giveInks T x y u v wt 3).wet (8 * v + u) = T.wet (8 * v + u) := giveInks_wet T x y u v wt _ 3
      have hres : giveS T x y u v = ((giveInks T x y u v wt 3).setWet (8 * y + x) (wt - 1)).setWet (8 * v + u) (T.wet (8 * v + u) + 1) := by unfold giveS; rw [HWT.out]
      generalize giveInks T x y u v wt 3 = G at *
      generalize T.wet (8 * v + u) = w2 at *
      have HRES := Go.Lib.hid hres; have HWF := Go.Lib.hid hwf; have HW2 := Go.Lib.hid hwt2
      have hne3 : ∀ z, (G.setWet (8 * y + x) z).wet (8 * v + u) = w2 := fun z => (if_neg (by omega)).trans hwt2
      have HNE := Go.Lib.hid hne3
      clear hres hwf hwt2 hne3 hGi hi
      have hkI : (0 : Int) < 3 := by omega
      go_wp2
      refine wp_region_still_tail 15 (by kernel_rfl) (by kernel_rfl) ?_
      simp only [List.take_succ_cons, List.take_zero, List.drop_succ_cons, List.drop_zero, World.drew_eq]
      repeat (first
        | (refine wpStill_load1 rfl 22 (.tmp 88) rfl (w.heap.size) (1) rfl 2 (spAt x y) _ _ Tryd.underlying22 rfl R.out (by omega) ?_; rw [spAt_1]; simp only [Act.put, List.setIfInBounds_toArray, List.set_cons_succ, List.set_cons_zero])
        | (refine wpStill_load1 rfl 22 (.tmp 90) rfl (w.heap.size) (0) rfl 2 (spAt x y) _ _ Tryd.underlying22 rfl R.out (by omega) ?_; rw [spAt_0]; simp only [Act.put, List.setIfInBounds_toArray, List.set_cons_succ, List.set_cons_zero])
        | (refine wpStill_load1 rfl 23 (.tmp 95) rfl (mt) (2 + y * 8 + x) rfl 266 G.at _ _ Tryd.underlying23 rfl M.out (by omega) ?_; rw [Sh.at_wet1 _ _ (8 * y + x) (by omega) (by omega), HWF.out]; simp only [Act.put, List.setIfInBounds_toArray, List.set_cons_succ, List.set_cons_zero])
        | still_step
        | (refine wpStill_step (fun K hK => ?_); go_simp; simp only [hxI, hyI, huI, hvI, hkI, if_true]; go_simp; refine hK _ ?_; clear hK K))
      refine wpStill_nil ?_
      refine wpList_store1 rfl 23 (.tmp 101) (.tmp 97) rfl mt (2 + y * 8 + x) rfl 266 G.at (.int .i16 (wt - 1)) (by first | rfl | (show Value.int .i16 (IntKind.i16.wrap (wt - 1)) = _; rw [IntWalk.i16_in (wt - 1) (by omega)])) 35 size_i16 M.out (by omega) rfl ?_
      rw [wet_at G _ (8 * y + x) (by omega) (by omega)]
      have M2 := row_set (w := wr.drew) M.out (vrow 266 (G.setWet (8 * y + x) (wt - 1)).at)
      have R2 := row_set' (w := wr.drew) (g := mt) (by omega) R.out (vrow 266 (G.setWet (8 * y + x) (wt - 1)).at)
      have Q2 := row_set' (w := wr.drew) (g := mt) (by omega) Q.out (vrow 266 (G.setWet (8 * y + x) (wt - 1)).at)
      have hG2 := grown_set (grown_drew hG.out) (vrow 266 (G.setWet (8 * y + x) (wt - 1)).at)
      clear R Q M hG
      generalize World.setRow wr.drew _ _ = w5 at R2 Q2 M2 hG2 ⊢
      have R := Go.Lib.hid R2; have Q := Go.Lib.hid Q2; have M := Go.Lib.hid M2; have hG := Go.Lib.hid hG2
      clear R2 Q2 M2 hG2
      go_wp2
      refine wp_region_still_tail 15 (by kernel_rfl) (by kernel_rfl) ?_
      simp only [List.take_succ_cons, List.take_zero, List.drop_succ_cons, List.drop_zero, World.drew_eq]
      repeat (first
        | (refine wpStill_load1 rfl 22 (.tmp 103) rfl (w.heap.size + 1) (1) rfl 2 (spAt u v) _ _ Tryd.underlying22 rfl Q.out (by omega) ?_; rw [spAt_1]; simp only [Act.put, List.setIfInBounds_toArray, List.set_cons_succ, List.set_cons_zero])
        | (refine wpStill_load1 rfl 22 (.tmp 105) rfl (w.heap.size + 1) (0) rfl 2 (spAt u v) _ _ Tryd.underlying22 rfl Q.out (by omega) ?_; rw [spAt_0]; simp only [Act.put, List.setIfInBounds_toArray, List.set_cons_succ, List.set_cons_zero])
        | (refine wpStill_load1 rfl 23 (.tmp 110) rfl (mt) (2 + v * 8 + u) rfl 266 (G.setWet (8 * y + x) (wt - 1)).at _ _ Tryd.underlying23 rfl M.out (by omega) ?_; rw [Sh.at_wet1 _ _ (8 * v + u) (by omega) (by omega), HNE.out]; simp only [Act.put, List.setIfInBounds_toArray, List.set_cons_succ, List.set_cons_zero])
        | still_step
        | (refine wpStill_step (fun K hK => ?_); go_simp; simp only [hxI, hyI, huI, hvI, hkI, if_true]; go_simp; refine hK _ ?_; clear hK K))
      refine wpStill_nil ?_
      refine wpList_store1 rfl 23 (.tmp 116) (.tmp 112) rfl mt (2 + v * 8 + u) rfl 266 (G.setWet (8 * y + x) (wt - 1)).at (.int .i16 (w2 + 1)) (by first | rfl | (show Value.int .i16 (IntKind.i16.wrap (w2 + 1)) = _; rw [IntWalk.i16_in (w2 + 1) (by omega)])) 35 size_i16 M.out (by omega) rfl ?_
      rw [wet_at _ _ (8 * v + u) (by omega) (by omega)]
      have M2 := row_set (w := w5.drew) M.out (vrow 266 ((G.setWet (8 * y + x) (wt - 1)).setWet (8 * v + u) (w2 + 1)).at)
      have R2 := row_set' (w := w5.drew) (g := mt) (by omega) R.out (vrow 266 ((G.setWet (8 * y + x) (wt - 1)).setWet (8 * v + u) (w2 + 1)).at)
      have Q2 := row_set' (w := w5.drew) (g := mt) (by omega) Q.out (vrow 266 ((G.setWet (8 * y + x) (wt - 1)).setWet (8 * v + u) (w2 + 1)).at)
      have hG2 := grown_set (grown_drew hG.out) (vrow 266 ((G.setWet (8 * y + x) (wt - 1)).setWet (8 * v + u) (w2 + 1)).at)
      clear R Q M hG
      generalize World.setRow w5.drew _ _ = w6 at R2 Q2 M2 hG2 ⊢
      have R := Go.Lib.hid R2; have Q := Go.Lib.hid Q2; have M := Go.Lib.hid M2; have hG := Go.Lib.hid hG2
      clear R2 Q2 M2 hG2
      go_wp2
      go_end0
      exact ⟨⟨_, rfl⟩, hG.out, by rw [HRES.out]; exact M.out⟩
end Go.Proofs.YtgbhchmpeioaiaaDoor
