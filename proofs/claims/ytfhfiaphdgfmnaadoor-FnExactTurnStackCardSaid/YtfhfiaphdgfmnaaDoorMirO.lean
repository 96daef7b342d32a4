import Derived.Deep.RegionHeld3
import Derived.Test.YtfhfiaphdgfmnaaDoorOkO
import Derived.Test.YtfhfiaphdgfmnaaDoorCopy
import Derived.Test.YtfhfiaphdgfmnaaDoorSpots
import Derived.Test.YtfhfiaphdgfmnaaDoorMirS
namespace Go.Proofs.YtfhfiaphdgfmnaaDoor
open Go.RowKit
set_option maxRecDepth 100000
set_option linter.unusedVariables false
set_option linter.unusedSimpArgs false
theorem d3_rowO {F : Nat → Value} {o : Nat} {s : Sh} (h : SubAt F o s) (k i : Nat) (hk : k = o + (66 + i)) (hi : i + 2 < 192) : vrow 3 (fun j => F (k + j)) = vrow 3 (fun j => .int .i16 (s.dye (i + j))) :=
  vrow_ext _ _ _ fun j hj => h.dye _ _ (by omega) (by omega)
set_option maxHeartbeats 2000000 in
theorem spots_anyO (s : Sh) (b oo NN : Nat) (FF : Nat → Value) (hN : oo + 266 ≤ NN) (hF : SubAt FF oo s) (a c : Nat) (w : World) (hs : w.heap[b]? = some (.cells (vrow NN FF) 39)) (ea : s.wide = a) (ec : s.high = c) (ha : a ≤ 8) (hc : c ≤ 8) : Calls Tryd.prog 87 #[.pointer (some ⟨b, oo, none⟩)] w fun e w' => ∃ v, e = .returned v ∧ Owns w' w.heap.size v (cellsL a c) ∧ Below w.heap.size w w' := by
  obtain ⟨i0, hi, hz0, hz1, hz2⟩ := info_parts info_spot
  have hbs := row_lt hs
  go_enter Tryd.func87, Tryd.ntmps87
  go_wp2
  have P0 : (w.alloc (.cells #[] 105)).heap[b]? = some (.cells (vrow NN FF) 39) := heap_past _ _ _ _ hbs hs
  have O0 : (w.alloc (.cells #[] 105)).ownsRow w.heap.size 105 2 (.slice (some ⟨w.heap.size, 0, none⟩) 0 0) 0 [] := World.ownsRow_made w #[] 0 (Nat.le_refl _) (by decide) rfl
  have B0 : Below w.heap.size w (w.alloc (.cells #[] 105)) := (Below.refl _ _).alloc (Nat.le_refl _) _
  generalize hW : w.alloc _ = W0 at P0 O0 B0 ⊢
  clear hW hs
  go_loopw [3, 4] (fun v y wr => ∃ k : Nat, k ≤ c ∧ y = .int .i8 k ∧ wr.ownsRow w.heap.size 105 2 v (cellsL a k).length (vals (cellsL a k)) ∧ Below w.heap.size w wr ∧ wr.heap[b]? = some (.cells (vrow NN FF) 39)) (fun _ y _ => c - (intOf y).toNat)
  case atStart => exact ⟨0, by omega, rfl, O0, B0, P0⟩
  case round =>
    clear P0 O0 B0
    obtain ⟨k, hk, rfl, hO, hB0, hP⟩ := hrel
    have O := Go.Lib.hid hO; have hB := Go.Lib.hid hB0; have P : Hid (wr.heap[b]? = some (.cells (vrow NN FF) 39)) := hP
    clear hO hP hB0
    by_cases hlt : k < c
    · have hdk : decide ((k : Int) < s.high) = true := by rw [ec]; simp; omega
      go_wp2_with (first
        | (refine wpList_load1 rfl 23 _ rfl b _ rfl NN FF _ _ Tryd.underlying23 rfl P.out (by omega) ?_; rw [SubAt.p1 hF _ (by omega)]))
      obtain ⟨wo, hwo⟩ : ∃ wo : World, wo = wr := ⟨_, rfl⟩
      rw [← hwo] at O hB P ⊢
      clear hwo wr
      go_loopw [3, 5] (fun v x wr => ∃ j : Nat, j ≤ a ∧ x = .int .i8 j ∧ wr.ownsRow w.heap.size 105 2 v (cellsL a k ++ rowOf j k).length (vals (cellsL a k ++ rowOf j k)) ∧ Below w.heap.size w wr ∧ wr.heap[b]? = some (.cells (vrow NN FF) 39)) (fun _ x _ => a - (intOf x).toNat)
      case atStart => exact ⟨0, by omega, rfl, by simpa [rowOf] using O.out, hB.out, P.out⟩
      case round =>
        clear O hB P
        obtain ⟨j, hj, rfl, hO, hB0, hP⟩ := hrel
        have O := Go.Lib.hid hO; have hB := Go.Lib.hid hB0; have P : Hid (wr.heap[b]? = some (.cells (vrow NN FF) 39)) := hP
        clear hO hP hB0
        by_cases hlj : j < a
        · have hdj : decide ((j : Int) < s.wide) = true := by rw [ea]; simp; omega
          have hlen : (cellsL a k ++ rowOf j k).length ≤ 64 := by
            have : a * k ≤ 8 * 7 := Nat.mul_le_mul ha (by omega)
            rw [List.length_append, cellsL_length, rowOf_length]; omega
          have hsz := hB.out.size
          go_wp2_with (first
            | (refine wpList_load1 rfl 23 _ rfl b _ rfl NN FF _ _ Tryd.underlying23 rfl P.out (by omega) ?_; rw [SubAt.p0 hF _ (by omega)])
            | (at_builtin; refine wpList_append_own _ rfl (.tmp 23) (.tmp 27) 115 rfl w.heap.size 105 i0 (.agg #[.int .i8 0, .int .i8 0]) 2 2 Tryd.underlying115 hi hz0 hz1 hz2 rfl (by decide) _ _ _ rfl (O.out.alloc _) ⟨wr.heap.size, 0, none⟩ 1 1 [.int .i8 j, .int .i8 k] rfl rfl (World.news_of_block (heap_at _ _ _ rfl)) (by simp [Value.oneCell']) (by simp only [maxLen]; omega) (by omega) (by simp; omega) ?_; intro v' w1 hown' hgrow _))
          have B1 : Below w.heap.size w w1 := (hB.out.alloc hsz _).grown hgrow (by simp; omega) (fun q hq => (O.out.lt q hq).1)
          have P1 : w1.heap[b]? = some (.cells (vrow NN FF) 39) := (hgrow.block b (by have := row_lt P.out; simp; omega) (fun e => by have := (O.out.lt b e.symm).1; omega)).trans (heap_past _ _ _ _ (row_lt P.out) P.out)
          have hs := rowOf_succ j k
          have e1 : vals (cellsL a k ++ rowOf (j + 1) k) = vals (cellsL a k ++ rowOf j k) ++ [.int .i8 j, .int .i8 k] := by
            rw [hs, ← List.append_assoc, vals_app _ [_], vals_one, mk8_x (by omega) (by omega)]
          have e2 : (cellsL a k ++ rowOf (j + 1) k).length = (cellsL a k ++ rowOf j k).length + 1 := by
            rw [hs, ← List.append_assoc, List.length_append]; rfl
          go_roundw
          case rel => exact ⟨j + 1, by omega, by go_num, by rw [e1, e2]; exact hown', B1, P1⟩
          case measure => simp [intOf]; omega
        · obtain rfl : j = a := by omega
          have hdj : decide ((j : Int) < s.wide) = false := by rw [ea]; simp
          go_wp2_with (first
            | (refine wpList_load1 rfl 23 _ rfl b _ rfl NN FF _ _ Tryd.underlying23 rfl P.out (by omega) ?_; rw [SubAt.p0 hF _ (by omega)]))
          go_roundw
          case rel => exact ⟨k + 1, by omega, by go_num, by rw [cellsL_succ]; exact O.out, hB.out, P.out⟩
          case measure => simp [intOf]; omega
    · obtain rfl : k = c := by omega
      have hdk : decide ((k : Int) < s.high) = false := by rw [ec]; simp
      go_wp2_with (first
        | (refine wpList_load1 rfl 23 _ rfl b _ rfl NN FF _ _ Tryd.underlying23 rfl P.out (by omega) ?_; rw [SubAt.p1 hF _ (by omega)]))
      go_ret
      exact ⟨_, rfl, ⟨O.out⟩, hB.out⟩
set_option maxHeartbeats 40000000 in
theorem copyCO (s T : Sh) (ms oo NN : Nat) (FF : Nat → Value) (hN : oo + 266 ≤ NN) (hF : SubAt FF oo s) (mt x y u v : Nat) (w : World) (hne : ms ≠ mt) (hs : w.heap[ms]? = some (.cells (vrow NN FF) 39)) (ht : w.heap[mt]? = some (.cells (vrow 266 T.at) 39)) (hx : x < 8) (hy : y < 8) (hu : u < 8) (hv : v < 8) : Calls Tryd.prog 88 #[.pointer (some ⟨mt, 0, none⟩), .agg (vrow 2 (spAt x y)), .pointer (some ⟨ms, oo, none⟩), .agg (vrow 2 (spAt u v))] w fun e w' => (∃ r, e = .returned r) ∧ w.grownBy w' (some mt) ∧ w'.heap[mt]? = some (.cells (vrow 266 (copyS s T x y u v).at) 39) := by
  have hxI : (x : Int) < 8 := by omega
  have hyI : (y : Int) < 8 := by omega
  have huI : (u : Int) < 8 := by omega
  have hvI : (v : Int) < 8 := by omega
  have HX0 := fun w hs => lwaxed_anyO s ms oo NN FF hN hF u v w hs hu hv
  have hB : Hid (Below w.heap.size w ((w.alloc (.cells (vrow 2 (spAt x y)) 105)).alloc (.cells (vrow 2 (spAt u v)) 105))) := (((Below.refl w.heap.size w).alloc (by simp <;> omega) _).alloc (by simp <;> omega) _)
  have R : Hid (((w.alloc (.cells (vrow 2 (spAt x y)) 105)).alloc (.cells (vrow 2 (spAt u v)) 105)).heap[(w.heap.size)]? = some (.cells (vrow 2 (spAt x y)) 105)) := heap_past _ _ _ _ (by first | omega | (simp <;> omega)) (heap_at _ _ _ (by simp))
  have Q : Hid (((w.alloc (.cells (vrow 2 (spAt x y)) 105)).alloc (.cells (vrow 2 (spAt u v)) 105)).heap[(w.heap.size + 1)]? = some (.cells (vrow 2 (spAt u v)) 105)) := heap_at _ _ _ (by simp)
  have P : Hid (((w.alloc (.cells (vrow 2 (spAt x y)) 105)).alloc (.cells (vrow 2 (spAt u v)) 105)).heap[ms]? = some (.cells (vrow NN FF) 39)) := heap_past _ _ _ _ (by first | (have := row_lt hs; omega) | (have := row_lt hs; simp <;> omega)) (heap_past _ _ _ _ (by first | (have := row_lt hs; omega) | (have := row_lt hs; simp <;> omega)) (hs))
  have M : Hid (((w.alloc (.cells (vrow 2 (spAt x y)) 105)).alloc (.cells (vrow 2 (spAt u v)) 105)).heap[mt]? = some (.cells (vrow 266 T.at) 39)) := heap_past _ _ _ _ (by first | (have := row_lt ht; omega) | (have := row_lt ht; simp <;> omega)) (heap_past _ _ _ _ (by first | (have := row_lt ht; omega) | (have := row_lt ht; simp <;> omega)) (ht))
  have hG : Hid (w.grownBy ((w.alloc (.cells (vrow 2 (spAt x y)) 105)).alloc (.cells (vrow 2 (spAt u v)) 105)) (some mt)) := Go.Lib.hid (grown_alloc (grown_alloc (grown_refl w _) _) _)
  have hms := row_lt hs
  have hmt := row_lt ht
  clear hs ht hB
  go_enter Tryd.func88, Tryd.ntmps88
  go_wp2
  generalize hW1 : (w.alloc _).alloc _ = W1 at R Q P M hG ⊢
  clear hW1
  refine wp_region_still_tail 19 (by kernel_rfl) (by kernel_rfl) ?_
  simp only [List.take_succ_cons, List.take_zero, List.drop_succ_cons, List.drop_zero, World.drew_eq]
  repeat (first
    | (refine wpStill_load1 rfl 23 (.tmp 9) rfl (w.heap.size) (1) rfl 2 (spAt x y) _ _ Tryd.underlying23 rfl R.out (by omega) ?_; rw [spAt_1]; simp only [Act.put, List.setIfInBounds_toArray, List.set_cons_succ, List.set_cons_zero])
    | (refine wpStill_load1 rfl 23 (.tmp 11) rfl (w.heap.size) (0) rfl 2 (spAt x y) _ _ Tryd.underlying23 rfl R.out (by omega) ?_; rw [spAt_0]; simp only [Act.put, List.setIfInBounds_toArray, List.set_cons_succ, List.set_cons_zero])
    | (refine wpStill_load1 rfl 23 (.tmp 14) rfl (w.heap.size + 1) (1) rfl 2 (spAt u v) _ _ Tryd.underlying23 rfl Q.out (by omega) ?_; rw [spAt_1]; simp only [Act.put, List.setIfInBounds_toArray, List.set_cons_succ, List.set_cons_zero])
    | (refine wpStill_load1 rfl 23 (.tmp 16) rfl (w.heap.size + 1) (0) rfl 2 (spAt u v) _ _ Tryd.underlying23 rfl Q.out (by omega) ?_; rw [spAt_0]; simp only [Act.put, List.setIfInBounds_toArray, List.set_cons_succ, List.set_cons_zero])
    | (refine wpStill_load1 rfl 24 (.tmp 21) rfl ms (oo + 2 + v * 8 + u) rfl NN FF _ _ Tryd.underlying24 rfl P.out (by omega) ?_; rw [SubAt.wet hF _ (8 * v + u) (by omega) (by omega)]; simp only [Act.put, List.setIfInBounds_toArray, List.set_cons_succ, List.set_cons_zero])
    | still_step
    | (refine wpStill_step (fun K hK => ?_); go_simp; simp only [hxI, hyI, huI, hvI, if_true]; go_simp; refine hK _ ?_; clear hK K))
  refine wpStill_nil ?_
  refine wpList_store1 rfl 24 (.tmp 26) (.tmp 22) rfl mt (2 + y * 8 + x) rfl 266 T.at (.int .i16 (s.wet (8 * v + u))) rfl 39 size_i16 M.out (by omega) rfl ?_
  rw [wet_at T _ (8 * y + x) (by omega) (by omega)]
  have M2 := row_set (w := W1.drew) M.out (vrow 266 (T.setWet (8 * y + x) (s.wet (8 * v + u))).at)
  have R2 := row_set' (w := W1.drew) (g := mt) (by omega) R.out (vrow 266 (T.setWet (8 * y + x) (s.wet (8 * v + u))).at)
  have Q2 := row_set' (w := W1.drew) (g := mt) (by omega) Q.out (vrow 266 (T.setWet (8 * y + x) (s.wet (8 * v + u))).at)
  have P2 := row_set' (w := W1.drew) (g := mt) (by omega) P.out (vrow 266 (T.setWet (8 * y + x) (s.wet (8 * v + u))).at)
  have hG2 := grown_set (grown_drew hG.out) (vrow 266 (T.setWet (8 * y + x) (s.wet (8 * v + u))).at)
  clear R Q P M hG
  generalize World.setRow W1.drew _ _ = W2 at R2 Q2 P2 M2 hG2 ⊢
  have R := Go.Lib.hid R2; have Q := Go.Lib.hid Q2; have P := Go.Lib.hid P2; have M := Go.Lib.hid M2; have hG := Go.Lib.hid hG2
  clear R2 Q2 P2 M2 hG2
  go_wp2
  refine wp_region_still_tail 19 (by kernel_rfl) (by kernel_rfl) ?_
  simp only [List.take_succ_cons, List.take_zero, List.drop_succ_cons, List.drop_zero, World.drew_eq]
  repeat (first
    | (refine wpStill_load1 rfl 23 (.tmp 28) rfl (w.heap.size) (1) rfl 2 (spAt x y) _ _ Tryd.underlying23 rfl R.out (by omega) ?_; rw [spAt_1]; simp only [Act.put, List.setIfInBounds_toArray, List.set_cons_succ, List.set_cons_zero])
    | (refine wpStill_load1 rfl 23 (.tmp 30) rfl (w.heap.size) (0) rfl 2 (spAt x y) _ _ Tryd.underlying23 rfl R.out (by omega) ?_; rw [spAt_0]; simp only [Act.put, List.setIfInBounds_toArray, List.set_cons_succ, List.set_cons_zero])
    | (refine wpStill_load1 rfl 23 (.tmp 33) rfl (w.heap.size + 1) (1) rfl 2 (spAt u v) _ _ Tryd.underlying23 rfl Q.out (by omega) ?_; rw [spAt_1]; simp only [Act.put, List.setIfInBounds_toArray, List.set_cons_succ, List.set_cons_zero])
    | (refine wpStill_load1 rfl 23 (.tmp 35) rfl (w.heap.size + 1) (0) rfl 2 (spAt u v) _ _ Tryd.underlying23 rfl Q.out (by omega) ?_; rw [spAt_0]; simp only [Act.put, List.setIfInBounds_toArray, List.set_cons_succ, List.set_cons_zero])
    | (refine wpStill_loadmid rfl 27 (.tmp 40) rfl ms (oo + 66 + v * 24 + u * 3) rfl NN 3 FF 39 _ Tryd.underlying27 rfl size_d3 P.out (by omega) ?_; rw [d3_rowO hF _ (24 * v + 3 * u) (by omega) (by omega)]; simp only [Act.put, List.setIfInBounds_toArray, List.set_cons_succ, List.set_cons_zero])
    | still_step
    | (refine wpStill_step (fun K hK => ?_); go_simp; simp only [hxI, hyI, huI, hvI, if_true]; go_simp; refine hK _ ?_; clear hK K))
  refine wpStill_nil ?_
  refine wpList_storemid rfl 27 (.tmp 45) (.tmp 41) rfl mt (66 + y * 24 + x * 3) rfl 266 3 (T.setWet (8 * y + x) (s.wet (8 * v + u))).at (fun i => .int .i16 (s.dye (24 * v + 3 * u + i))) rfl 39 size_d3 M.out (by omega) (fun i _ => rfl) ?_
  rw [dye3_at (T.setWet (8 * y + x) (s.wet (8 * v + u))) _ (24 * y + 3 * x) (by omega) (by omega)]
  have M2 := row_set (w := W2.drew) M.out (vrow 266 ((T.setWet (8 * y + x) (s.wet (8 * v + u))).setDye3 (24 * y + 3 * x) (fun i => s.dye (24 * v + 3 * u + i))).at)
  have R2 := row_set' (w := W2.drew) (g := mt) (by omega) R.out (vrow 266 ((T.setWet (8 * y + x) (s.wet (8 * v + u))).setDye3 (24 * y + 3 * x) (fun i => s.dye (24 * v + 3 * u + i))).at)
  have Q2 := row_set' (w := W2.drew) (g := mt) (by omega) Q.out (vrow 266 ((T.setWet (8 * y + x) (s.wet (8 * v + u))).setDye3 (24 * y + 3 * x) (fun i => s.dye (24 * v + 3 * u + i))).at)
  have P2 := row_set' (w := W2.drew) (g := mt) (by omega) P.out (vrow 266 ((T.setWet (8 * y + x) (s.wet (8 * v + u))).setDye3 (24 * y + 3 * x) (fun i => s.dye (24 * v + 3 * u + i))).at)
  have hG2 := grown_set (grown_drew hG.out) (vrow 266 ((T.setWet (8 * y + x) (s.wet (8 * v + u))).setDye3 (24 * y + 3 * x) (fun i => s.dye (24 * v + 3 * u + i))).at)
  clear R Q P M hG
  generalize World.setRow W2.drew _ _ = W3 at R2 Q2 P2 M2 hG2 ⊢
  have R := Go.Lib.hid R2; have Q := Go.Lib.hid Q2; have P := Go.Lib.hid P2; have M := Go.Lib.hid M2; have hG := Go.Lib.hid hG2
  clear R2 Q2 P2 M2 hG2
  cases hwb : waxB s u v
  · rw [hwb] at HX0
    have HX := Go.Lib.hid HX0
    have HBx := Go.Lib.hid hwb
    clear HX0 hwb
    go_wp2_with (first
      | (go_at_call 76; (refine (HX.out _ P.out).mono ?_; rintro e w1 ⟨rfl, hb⟩; replace R := Go.Lib.hid (row_next hb R.out); replace Q := Go.Lib.hid (row_next hb Q.out); replace P := Go.Lib.hid (row_next hb P.out); replace M := Go.Lib.hid (row_next hb M.out); replace hG := Go.Lib.hid (grown_next hG.out hb); clear hb ))
      | (refine list_at 47 rfl ?_; intro W hW; rw [hW] at hG R Q P M; clear hW; have R' := Go.Lib.hid (cls_row' R.out); have Q' := Go.Lib.hid (cls_row' Q.out); have P' := Go.Lib.hid (cls_row' P.out); have M' := Go.Lib.hid (cls_row' M.out); (repeat (first | go_big_quiet_skip | (refine wpQuiet_loadmid 105 _ rfl (by first | exact want_n rfl | exact want_g _ _ _ rfl rfl rfl) (w.heap.size + 1) _ rfl 2 2 (spAt u v) _ rw_spot size_spot Q'.out (by omega) ?_; rw [sp_row]; simp only [Act.put, List.setIfInBounds_toArray, List.set_cons_succ, List.set_cons_zero]) | go_big_quiet_step ((go_at_call 76; exact cls_call _ (fun w hw => HX.out w (row_next hw P.out)))))); refine wpQuiet_nil ?_; intro Wn hb; replace R := Go.Lib.hid (row_next hb R.out); replace Q := Go.Lib.hid (row_next hb Q.out); replace P := Go.Lib.hid (row_next hb P.out); replace M := Go.Lib.hid (row_next hb M.out); replace hG := Go.Lib.hid (grown_next hG.out hb); clear hb R' Q' P' M'))
    go_end0
    exact ⟨⟨_, rfl⟩, hG.out, by have e : copyS s T x y u v = ((T.setWet (8 * y + x) (s.wet (8 * v + u))).setDye3 (24 * y + 3 * x) (fun i => s.dye (24 * v + 3 * u + i))) := (by unfold copyS; rw [HBx.out, if_neg (by simp)]; exact setWax_self ((T.setWet (8 * y + x) (s.wet (8 * v + u))).setDye3 (24 * y + 3 * x) (fun i => s.dye (24 * v + 3 * u + i))) y); rw [e]; exact M.out⟩
  · rw [hwb] at HX0
    have HX := Go.Lib.hid HX0
    have HBx := Go.Lib.hid hwb
    clear HX0 hwb
    go_wp2_with (first
      | (go_at_call 76; (refine (HX.out _ P.out).mono ?_; rintro e w1 ⟨rfl, hb⟩; replace R := Go.Lib.hid (row_next hb R.out); replace Q := Go.Lib.hid (row_next hb Q.out); replace P := Go.Lib.hid (row_next hb P.out); replace M := Go.Lib.hid (row_next hb M.out); replace hG := Go.Lib.hid (grown_next hG.out hb); clear hb ))
      | (refine list_at 47 rfl ?_; intro W hW; rw [hW] at hG R Q P M; clear hW; have R' := Go.Lib.hid (cls_row' R.out); have Q' := Go.Lib.hid (cls_row' Q.out); have P' := Go.Lib.hid (cls_row' P.out); have M' := Go.Lib.hid (cls_row' M.out); (repeat (first | go_big_quiet_skip | (refine wpQuiet_loadmid 105 _ rfl (by first | exact want_n rfl | exact want_g _ _ _ rfl rfl rfl) (w.heap.size + 1) _ rfl 2 2 (spAt u v) _ rw_spot size_spot Q'.out (by omega) ?_; rw [sp_row]; simp only [Act.put, List.setIfInBounds_toArray, List.set_cons_succ, List.set_cons_zero]) | go_big_quiet_step ((go_at_call 76; exact cls_call _ (fun w hw => HX.out w (row_next hw P.out)))))); refine wpQuiet_nil ?_; intro Wn hb; replace R := Go.Lib.hid (row_next hb R.out); replace Q := Go.Lib.hid (row_next hb Q.out); replace P := Go.Lib.hid (row_next hb P.out); replace M := Go.Lib.hid (row_next hb M.out); replace hG := Go.Lib.hid (grown_next hG.out hb); clear hb R' Q' P' M'))
    refine wp_region_still_tail 15 (by kernel_rfl) (by kernel_rfl) ?_
    simp only [List.take_succ_cons, List.take_zero, List.drop_succ_cons, List.drop_zero, World.drew_eq]
    repeat (first
      | (refine wpStill_load1 rfl 23 (.tmp 50) rfl (w.heap.size) (1) rfl 2 (spAt x y) _ _ Tryd.underlying23 rfl R.out (by omega) ?_; rw [spAt_1]; simp only [Act.put, List.setIfInBounds_toArray, List.set_cons_succ, List.set_cons_zero])
      | (refine wpStill_load1 rfl 23 (.tmp 56) rfl (w.heap.size) (0) rfl 2 (spAt x y) _ _ Tryd.underlying23 rfl R.out (by omega) ?_; rw [spAt_0]; simp only [Act.put, List.setIfInBounds_toArray, List.set_cons_succ, List.set_cons_zero])
      | (refine wpStill_load1 rfl 5 (.tmp 54) rfl mt (258 + y) rfl 266 ((T.setWet (8 * y + x) (s.wet (8 * v + u))).setDye3 (24 * y + 3 * x) (fun i => s.dye (24 * v + 3 * u + i))).at _ _ Tryd.underlying5 rfl M.out (by omega) ?_; rw [Sh.at_wax1 _ _ (by omega)]; simp only [Act.put, List.setIfInBounds_toArray, List.set_cons_succ, List.set_cons_zero])
      | still_step
      | (refine wpStill_step (fun K hK => ?_); go_simp; simp only [hxI, hyI, huI, hvI, if_true]; go_simp; refine hK _ ?_; clear hK K))
    refine wpStill_nil ?_
    refine wpList_store1 rfl 5 (.tmp 63) (.tmp 60) rfl mt (258 + y) rfl 266 ((T.setWet (8 * y + x) (s.wet (8 * v + u))).setDye3 (24 * y + 3 * x) (fun i => s.dye (24 * v + 3 * u + i))).at (.int .u8 (onB (T.wax y) x)) (by show Value.int .u8 _ = _; unfold onB; rw [← sh_nat x hx]; rfl) 39 size_u8 M.out (by omega) rfl ?_
    rw [wax_at _ y hy]
    go_wp2
    go_end0
    have M2 := row_set (w := Wn.drew) M.out (vrow 266 (((T.setWet (8 * y + x) (s.wet (8 * v + u))).setDye3 (24 * y + 3 * x) (fun i => s.dye (24 * v + 3 * u + i))).setWax y (onB (T.wax y) x)).at)
    exact ⟨⟨_, rfl⟩, grown_set (grown_drew hG.out) _, by rw [copyS, HBx.out, if_pos rfl]; exact M2⟩
set_option maxHeartbeats 8000000 in
theorem specMirCO (s : Sh) (b oo NN : Nat) (FF : Nat → Value) (hN : oo + 266 ≤ NN) (hF : SubAt FF oo s) (a c : Nat) (w : World) (hs : w.heap[b]? = some (.cells (vrow NN FF) 39)) (ea : s.wide = a) (ec : s.high = c) (ha : 1 ≤ a ∧ a ≤ 8) (hc : 1 ≤ c ∧ c ≤ 8) : Calls Tryd.prog 53 #[.pointer (some ⟨b, oo, none⟩)] w fun e w' => e = .returned (.agg (arrS s (fun x y => a - 1 - x) (fun x y => y) (plainSh a c) (pairsL a c)).row) ∧ Below w.heap.size w w' := by
  have zz := zero_sheet
  have hbs := row_lt hs
  have hB : Hid (Below w.heap.size w (w.alloc (.cells (vrow 266 Sh.zero.at) 39))) := ((Below.refl w.heap.size w).alloc (by simp <;> omega) _)
  have Z : Hid ((w.alloc (.cells (vrow 266 Sh.zero.at) 39)).heap[(w.heap.size)]? = some (.cells (vrow 266 Sh.zero.at) 39)) := heap_at _ _ _ (by simp)
  have P : Hid ((w.alloc (.cells (vrow 266 Sh.zero.at) 39)).heap[b]? = some (.cells (vrow NN FF) 39)) := heap_past _ _ _ _ (by first | (have := row_lt hs; omega) | (have := row_lt hs; simp <;> omega)) (hs)
  go_enter Tryd.func53, Tryd.ntmps53
  go_wp2
  refine Code.wp_mono (Q := fun ex a' W' => ex = .normal ∧ ∃ mb, w.heap.size < mb ∧ a' = { tmps := #[.pointer (some ⟨b, oo, none⟩), undef, .pointer (some ⟨w.heap.size, 0, none⟩), .pointer (some ⟨mb, 0, none⟩), undef, undef, .pointer (some ⟨b, oo, none⟩), .pointer (some ⟨b, oo, none⟩), .pointer (some ⟨b, oo, none⟩), .int .i8 a, .pointer (some ⟨b, oo, none⟩), .pointer (some ⟨b, oo, none⟩), .pointer (some ⟨b, oo + 1, none⟩), .int .i8 c, .agg (plainSh a c).row, undef, undef, undef, undef, undef, undef, undef, undef, undef, undef, undef, undef, undef, undef, undef, undef, undef, undef, undef, undef, undef, undef, undef, undef, undef, undef, undef, undef, undef, undef, undef, undef], defers := [] } ∧ (Below w.heap.size w W' ∧ W'.heap[b]? = some (.cells (vrow NN FF) 39) ∧ W'.heap[w.heap.size]? = some (.cells (vrow 266 Sh.zero.at) 39)) ∧ W'.heap[mb]? = some (.cells (vrow 266 (plainSh a c).at) 39)) ?_ ?_
  rotate_left
  · have hszx : w.heap.size < (World.drew (w.alloc (.cells (vrow 266 Sh.zero.at) 39))).heap.size := by show w.heap.size < (w.alloc _).heap.size; simp
    refine wp_region_held_drew (S := fun W' => Below w.heap.size w W' ∧ W'.heap[b]? = some (.cells (vrow NN FF) 39) ∧ W'.heap[w.heap.size]? = some (.cells (vrow 266 Sh.zero.at) 39)) (by kernel_rfl) ⟨hB.out.drew, P.out, Z.out⟩ (fun hH => ?_)
    clear hB P Z
    generalize World.drew _ = W4 at hH hszx ⊢
    refine wpAnyH_take (i := 0) (v := (.pointer (some ⟨b, oo, none⟩))) rfl (by kernel_rfl) (by kernel_rfl) (by kernel_rfl) (fun _ _ _ h => by cases h.1) (.inl ⟨by rfl, fun w _ => by go_simp⟩) hH ?_
    (try simp only [Act.put, List.setIfInBounds_toArray, List.set_cons_succ, List.set_cons_zero])
    refine wpAnyH_take (i := 1) (v := (.pointer (some ⟨b, oo, none⟩))) rfl (by kernel_rfl) (by kernel_rfl) (by kernel_rfl) (fun _ _ _ h => by cases h.1) (.inl ⟨by rfl, fun w _ => by go_simp⟩) hH ?_
    (try simp only [Act.put, List.setIfInBounds_toArray, List.set_cons_succ, List.set_cons_zero])
    refine wpAnyH_take (i := 2) (v := (.pointer (some ⟨b, oo, none⟩))) rfl (by kernel_rfl) (by kernel_rfl) (by kernel_rfl) (fun _ _ _ h => by cases h.1) (.inl ⟨by rfl, fun w _ => by go_simp⟩) hH ?_
    (try simp only [Act.put, List.setIfInBounds_toArray, List.set_cons_succ, List.set_cons_zero])
    refine wpAnyH_take (i := 3) (v := (FF oo)) rfl (by kernel_rfl) (by kernel_rfl) (by kernel_rfl) (fun _ _ _ h => by cases h.1) (yields_one (by rfl) 23 _ rfl b oo (by kernel_rfl) NN FF _ _ Tryd.underlying23 rfl (by omega) (fun _ h => h.2.1)) hH ?_
    (try simp only [Act.put, List.setIfInBounds_toArray, List.set_cons_succ, List.set_cons_zero])
    rw [SubAt.p0 hF _ (by omega), ea]
    refine wpAnyH_take (i := 4) (v := (.pointer (some ⟨b, oo, none⟩))) rfl (by kernel_rfl) (by kernel_rfl) (by kernel_rfl) (fun _ _ _ h => by cases h.1) (.inl ⟨by rfl, fun w _ => by go_simp⟩) hH ?_
    (try simp only [Act.put, List.setIfInBounds_toArray, List.set_cons_succ, List.set_cons_zero])
    refine wpAnyH_take (i := 5) (v := (.pointer (some ⟨b, oo, none⟩))) rfl (by kernel_rfl) (by kernel_rfl) (by kernel_rfl) (fun _ _ _ h => by cases h.1) (.inl ⟨by rfl, fun w _ => by go_simp⟩) hH ?_
    (try simp only [Act.put, List.setIfInBounds_toArray, List.set_cons_succ, List.set_cons_zero])
    refine wpAnyH_take (i := 6) (v := (.pointer (some ⟨b, oo + 1, none⟩))) rfl (by kernel_rfl) (by kernel_rfl) (by kernel_rfl) (fun _ _ _ h => by cases h.1) (.inl ⟨by rfl, fun w _ => by go_simp⟩) hH ?_
    (try simp only [Act.put, List.setIfInBounds_toArray, List.set_cons_succ, List.set_cons_zero])
    refine wpAnyH_take (i := 7) (v := (FF (oo + 1))) rfl (by kernel_rfl) (by kernel_rfl) (by kernel_rfl) (fun _ _ _ h => by cases h.1) (yields_one (by rfl) 23 _ rfl b (oo + 1) (by kernel_rfl) NN FF _ _ Tryd.underlying23 rfl (by omega) (fun _ h => h.2.1)) hH ?_
    (try simp only [Act.put, List.setIfInBounds_toArray, List.set_cons_succ, List.set_cons_zero])
    rw [SubAt.p1 hF _ (by omega), ec]
    refine wpAnyH_take (i := 8) (v := (.agg (plainSh a c).row)) rfl (by kernel_rfl) (by kernel_rfl) (by kernel_rfl) (fun _ _ _ h => by cases h.1) (yields_built (by rfl) 39 [(0, .tmp 9), (1, .tmp 13)] rfl [(0, .int .i8 a), (1, .int .i8 c)] (by kernel_rfl) _ (built_plain a c)) hH ?_
    (try simp only [Act.put, List.setIfInBounds_toArray, List.set_cons_succ, List.set_cons_zero])
    refine wpAnyH_ready (rs := [9]) (by kernel_rfl) (by simp) (AllReadyH.cons rfl (fun K hK => ?_) AllReadyH.nil)
    rw [if_pos (by rfl)]
    go_simp
    have V := heap_at W4 (.cells (vrow 266 Sh.zero.at) 39) _ rfl
    replace hH : Below w.heap.size w (W4.alloc (.cells (vrow 266 Sh.zero.at) 39)) ∧ (W4.alloc (.cells (vrow 266 Sh.zero.at) 39)).heap[b]? = some (.cells (vrow NN FF) 39) ∧ (W4.alloc (.cells (vrow 266 Sh.zero.at) 39)).heap[w.heap.size]? = some (.cells (vrow 266 Sh.zero.at) 39) := ⟨hH.1.alloc hH.1.size _, heap_past _ _ _ _ (row_lt hH.2.1) hH.2.1, heap_past _ _ _ _ (row_lt hH.2.2) hH.2.2⟩
    refine hK.out _ _ hH (fun hH => ?_)
    clear hK K
    (try simp only [Act.put, List.setIfInBounds_toArray, List.set_cons_succ, List.set_cons_zero])
    have hmb : w.heap.size < W4.heap.size := hszx
    generalize hb7 : W4.heap.size = mb at V hmb ⊢
    generalize W4.alloc _ = W5 at hH V ⊢
    clear hb7
    refine wpAnyH_ready (rs := [10]) (by kernel_rfl) (by simp) (AllReadyH.cons rfl (fun K hK => ?_) AllReadyH.nil)
    rw [if_pos (by rfl)]
    unfold Oper.wp
    rw [run_storemid 39 (.tmp 3) (.tmp 14) rfl mb 0 (by kernel_rfl) 266 266 Sh.zero.at (plainSh a c).at (by kernel_rfl) 39 size_sheet V (by omega) (fun i _ => Sh.one _ i), vrow_over_all, Oper.upon_skip]
    have V2 := row_set V (vrow 266 (plainSh a c).at)
    have hH2 : Below w.heap.size w (W5.setRow mb (vrow 266 (plainSh a c).at)) ∧ (W5.setRow mb (vrow 266 (plainSh a c).at)).heap[b]? = some (.cells (vrow NN FF) 39) ∧ (W5.setRow mb (vrow 266 (plainSh a c).at)).heap[w.heap.size]? = some (.cells (vrow 266 Sh.zero.at) 39) := ⟨Below_setRow hH.1 (by omega) _, row_set' (by omega) hH.2.1 _, row_set' (by omega) hH.2.2 _⟩
    generalize World.setRow _ _ _ = WS at V2 hH2 ⊢
    refine hK.out _ _ hH2 (fun hH => ?_)
    clear hK K hH2
    (try simp only [Act.put, List.setIfInBounds_toArray, List.set_cons_succ, List.set_cons_zero])
    refine wpAnyH_done (by kernel_rfl) ?_ _
    exact ⟨rfl, mb, hmb, rfl, hH, V2⟩
  · rintro e1 a1 W1 ⟨rfl, mb, hmb, rfl, ⟨hB, P, Z⟩, V⟩
    replace hB := Go.Lib.hid hB; replace P := Go.Lib.hid P; replace Z := Go.Lib.hid Z; replace V := Go.Lib.hid V
    have hZ0 := row_lt V.out
    have hLn : (cellsL a c).length = a * c := cellsL_length a c
    have hac : 1 ≤ (cellsL a c).length ∧ (cellsL a c).length ≤ 64 := by rw [hLn]; exact ⟨Nat.mul_le_mul ha.1 hc.1, Nat.mul_le_mul ha.2 hc.2⟩
    have hval : (cellsL a c).map (·.1) = pairsL a c := cellsL_val a c ha.2 c hc.2
    have hmem : ∀ p ∈ (cellsL a c), p.1.1 < a ∧ p.1.2 < c := fun p hp => pairsL_mem (by rw [← hval]; exact List.mem_map_of_mem hp)
    have HSp := Go.Lib.hid fun w hs => spots_anyO s b oo NN FF hN hF a c w hs ea ec ha.2 hc.2
    generalize (cellsL a c) = L at *
    clear hLn
    go_wp2_with (first
      | (go_at_call 87; (refine (HSp.out _ P.out).mono ?_; rintro e w2 ⟨v, rfl, hO, hb⟩; have ngb := hb.size; have nP := row_lt P.out; have nZ := row_lt Z.out; replace P := Go.Lib.hid (row_next hb P.out); replace Z := Go.Lib.hid (row_next hb Z.out); replace V := Go.Lib.hid (row_next hb V.out); replace hB := Go.Lib.hid (below_next hB.out hb); obtain ⟨g, cap, f, rfl, hg, hcap, hO2, hf2⟩ := hO.row (by omega); have O := Go.Lib.hid hO2; have HF := Go.Lib.hid hf2; clear hO hO2 hf2 hb ngb)))
    obtain ⟨wo, hwo⟩ : ∃ wo : World, wo = w2 := ⟨_, rfl⟩
    rw [← hwo] at P Z V hB O ⊢
    clear hwo w2
    go_loopw [5] (fun iv wr => ∃ k : Nat, k ≤ L.length ∧ iv = .int .i64 k ∧ wr.heap[mb]? = some (.cells (vrow 266 (arrS s (fun x y => a - 1 - x) (fun x y => y) (plainSh a c) ((L.take k).map (·.1))).at) 39) ∧ wr.heap[g]? = some (.cells (vrow (cap * 2) f) 105) ∧ wr.heap[b]? = some (.cells (vrow NN FF) 39) ∧ wr.heap[w.heap.size]? = some (.cells (vrow 266 Sh.zero.at) 39) ∧ Below w.heap.size w wr) (fun iv _ => L.length - (intOf iv).toNat)
    case atStart => exact ⟨0, by omega, rfl, V.out, O.out, P.out, Z.out, hB.out⟩
    case round =>
      clear V O P Z hB
      obtain ⟨k, hk, rfl, V, O, P, Z, hB⟩ := hrel
      have hsz3 := hB.size
      by_cases hlt : k < L.length
      · have hf2 := HF.out k hlt
        obtain ⟨⟨⟨x, y⟩, hx, hy⟩, hp⟩ : ∃ p, L[k]'hlt = p := ⟨_, rfl⟩
        have hin := hmem _ (List.getElem_mem hlt)
        have hap : arrS s (fun x y => a - 1 - x) (fun x y => y) (plainSh a c) ((L.take (k + 1)).map (·.1)) = copyS s (arrS s (fun x y => a - 1 - x) (fun x y => y) (plainSh a c) ((L.take k).map (·.1))) x y (a - 1 - x) (y) := by
          rw [List.take_succ_eq_append_getElem hlt, hp]
          simp [arrS, List.foldl_append]
        rw [hp] at hf2 hin
        clear hp
        replace hx : x < 8 := hx
        replace hy : y < 8 := hy
        obtain ⟨hxa, hyc⟩ : x < a ∧ y < c := hin
        obtain ⟨fx0, fx1⟩ : f (k * 2) = .int .i8 x ∧ f (k * 2 + 1) = .int .i8 y := hf2
        have hR : vrow 2 (fun i => f (k * 2 + i)) = vrow 2 (spAt x y) := vrow_ext _ _ _ fun i hi => by
          have hi2 : i = 0 ∨ i = 1 := by omega
          rcases hi2 with rfl | rfl
          · rw [Nat.add_zero, fx0]; rfl
          · rw [fx1]; rfl
        have HR := Go.Lib.hid hR; have hap := Go.Lib.hid hap; have F0 := Go.Lib.hid fx0; have F1 := Go.Lib.hid fx1
        clear hR fx0 fx1
        generalize (arrS s (fun x y => a - 1 - x) (fun x y => y) (plainSh a c) ((L.take k).map (·.1))) = T at *
        have hc := Go.Lib.hid fun w (hs : w.heap[b]? = some (.cells (vrow NN FF) 39)) (ht : w.heap[mb]? = some (.cells (vrow 266 T.at) 39)) => copyCO s T b oo NN FF hN hF mb x y (a - 1 - x) (y) w (by omega) hs ht hx hy (by omega) (by omega)
        have hwi : ((a - 1 - x : Nat) : Int) = (a : Int) - 1 - x := by omega
        rw [hwi] at hc
        have P : Hid (wr.heap[b]? = some (.cells (vrow NN FF) 39)) := P
        replace O := Go.Lib.hid O; replace Z := Go.Lib.hid Z; replace V := Go.Lib.hid V; replace hB := Go.Lib.hid hB
        have hkI : (k : Int) < (L.length : Int) := by omega
        have hk0 : (0 : Int) ≤ (k : Int) := by omega
        have hkd : decide ((k : Int) < (L.length : Int)) = true := by simpa using hkI
        clear hwi
        go_wp2
        refine wp_region_still_tail 22 (by kernel_rfl) (by kernel_rfl) ?_
        simp only [List.take_succ_cons, List.take_zero, List.drop_succ_cons, List.drop_zero, World.drew_eq]
        repeat (first
          | (refine wpStill_loadmid rfl 105 (.tmp 25) rfl g (k * 2) rfl (cap * 2) 2 f 105 _ Tryd.underlying105 rfl size_spot O.out (by omega) ?_; rw [HR.out]; simp only [Act.put, List.setIfInBounds_toArray, List.set_cons_succ, List.set_cons_zero])
          | (refine wpStill_load1 rfl 23 (.tmp 36) rfl g (k * 2) rfl (cap * 2) f _ _ Tryd.underlying23 rfl O.out (by omega) ?_; rw [F0.out]; simp only [Act.put, List.setIfInBounds_toArray, List.set_cons_succ, List.set_cons_zero])
          | (refine wpStill_load1 rfl 23 (.tmp 42) rfl g (k * 2 + 1) rfl (cap * 2) f _ _ Tryd.underlying23 rfl O.out (by omega) ?_; rw [F1.out]; simp only [Act.put, List.setIfInBounds_toArray, List.set_cons_succ, List.set_cons_zero])
          | (refine wpStill_load1 rfl 23 (.tmp 30) rfl b oo rfl NN FF _ _ Tryd.underlying23 rfl P.out (by omega) ?_; rw [SubAt.p0 hF _ (by omega), ea]; simp only [Act.put, List.setIfInBounds_toArray, List.set_cons_succ, List.set_cons_zero])
          | still_step
          | (refine wpStill_step (fun K hK => ?_); go_simp; simp only [hkI, hk0, if_true]; go_simp; refine hK _ ?_; clear hK K))
        refine wpStill_nil ?_
        go_wp2_with (first
          | (go_at_call 88; (refine (hc.out _ (by exact P.out) (by exact V.out)).mono ?_; rintro e w3 ⟨⟨r, rfl⟩, hg3, hM3⟩))
          )
        have P3 : w3.heap[b]? = some (.cells (vrow NN FF) 39) := (hg3.block b (by have := row_lt P.out; simpa using this) (by simp; omega)).trans P.out
        have O3 : w3.heap[g]? = some (.cells (vrow (cap * 2) f) 105) := (hg3.block g (by have := row_lt O.out; simpa using this) (by simp; omega)).trans O.out
        have Z3 : w3.heap[w.heap.size]? = some (.cells (vrow 266 Sh.zero.at) 39) := (hg3.block w.heap.size (by have := row_lt Z.out; simpa using this) (by simp; omega)).trans Z.out
        have B3 : Below w.heap.size w w3 := hB.out.drew.grown hg3 (by simpa using hsz3) (fun q hq => by cases hq; omega)
        go_roundw
        case rel => exact ⟨k + 1, by omega, by go_num, by rw [hap.out]; exact hM3, O3, P3, Z3, B3⟩
        case measure => simp [intOf]; omega
      · obtain rfl : k = L.length := by omega
        rw [List.take_length, hval] at V
        have hkd : decide ((L.length : Int) < (L.length : Int)) = false := by simp
        replace O := Go.Lib.hid O; replace Z := Go.Lib.hid Z; replace V := Go.Lib.hid V; replace hB := Go.Lib.hid hB
        clear P
        go_wp2_with (first
          | (refine wpList_loadall rfl 39 (.tmp 3) rfl _ rfl 266 (arrS s (fun x y => a - 1 - x) (fun x y => y) (plainSh a c) (pairsL a c)).at 39 _ Tryd.underlying39 rfl size_sheet V.out ?_)
          | (refine wpList_storeall rfl 39 (.tmp 2) (.tmp 46) rfl w.heap.size rfl 266 Sh.zero.at (arrS s (fun x y => a - 1 - x) (fun x y => y) (plainSh a c) (pairsL a c)).at rfl 39 size_sheet Z.out (fun i _ => Sh.one _ i) ?_))
        have Z2 := row_set Z.out (vrow 266 (arrS s (fun x y => a - 1 - x) (fun x y => y) (plainSh a c) (pairsL a c)).at)
        exact ret_row Tryd.results53 w.heap.size 266 (arrS s (fun x y => a - 1 - x) (fun x y => y) (plainSh a c) (pairsL a c)).at 39 _ Tryd.underlying39 rfl size_sheet rfl rfl Z2 ⟨rfl, Below_setRow hB.out (Nat.le_refl _) _⟩
end Go.Proofs.YtfhfiaphdgfmnaaDoor
