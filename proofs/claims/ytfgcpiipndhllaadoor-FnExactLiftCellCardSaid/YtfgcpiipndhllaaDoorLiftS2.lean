import Derived.Deep.RegionHeld3
import Derived.Test.YtfgcpiipndhllaaDoorLiftM
namespace Go.Proofs.YtfgcpiipndhllaaDoor
open Go.RowKit
set_option maxRecDepth 100000
set_option linter.unusedVariables false
set_option linter.unusedSimpArgs false
theorem vrow_00 (x y : Int) : vrow 2 (fun i => spAt x y (0 + i)) = vrow 2 (spAt x y) := rfl
theorem built_zsh : Tryd.prog.built 36 [] = some Sh.zero.row := by kernel_rfl
set_option maxHeartbeats 1000000 in
theorem lask_bad (b : Br) (m n : Nat) (x y : Int) (fi : Bool) (w : World) (hs : w.heap[n]? = some (.cells (vrow 5 b.at) 49)) (hf : b.fit) (ho : b.ok = false) : Calls Tryd.prog 74 #[.pointer (some ⟨m, 0, none⟩), .pointer (some ⟨n, 0, none⟩), .agg (vrow 2 (spAt x y)), .bool fi] w fun o w' => o = .returned (.int .i64 1) ∧ Below w.heap.size w w' := by
  have HO0 := fun n w hs => lok_any b n w hf hs
  rw [ho] at HO0
  have HO := Go.Lib.hid HO0
  clear HO0 hf ho
  have hn := row_lt hs
  have B : Hid ((w.alloc (.cells (vrow 2 (spAt x y)) 33)).heap[n]? = some (.cells (vrow 5 b.at) 49)) := heap_past _ _ _ _ hn hs
  have hB : Hid (Below w.heap.size w (w.alloc (.cells (vrow 2 (spAt x y)) 33))) := ((Below.refl w.heap.size w).alloc (by simp <;> omega) _)
  clear hs
  go_enter Tryd.func74, Tryd.ntmps74
  go_wp2_with (first
    | go_skip
    | (go_at_call 128; (refine (HO.out _ _ B.out).mono ?_); rintro o w1 ⟨rfl, hb⟩; replace hB := Go.Lib.hid (below_next hB.out hb); clear hb))
  go_ret
  exact ⟨rfl, hB.out⟩
set_option maxHeartbeats 1000000 in
theorem lask_next (s : Sh) (b : Br) (m n : Nat) (x y c : Int) (fi : Bool) (w : World) (hm : w.heap[m]? = some (.cells (vrow 266 s.at) 36)) (hs : w.heap[n]? = some (.cells (vrow 5 b.at) 49)) (hf : b.fit) (ho : b.ok = true)
    (HL0 : ∀ w, w.heap[m]? = some (.cells (vrow 266 s.at) 36) → Calls Tryd.prog 129 #[.pointer (some ⟨m, 0, none⟩), .agg (vrow 2 (spAt x y)), .bool fi] w fun o w' => o = .returned (.int .i64 c) ∧ Below w.heap.size w w') :
    Calls Tryd.prog 74 #[.pointer (some ⟨m, 0, none⟩), .pointer (some ⟨n, 0, none⟩), .agg (vrow 2 (spAt x y)), .bool fi] w fun o w' => o = .returned (.int .i64 c) ∧ Below w.heap.size w w' := by
  have HO0 := fun n w hs => lok_any b n w hf hs
  rw [ho] at HO0
  have HO := Go.Lib.hid HO0
  have HL := Go.Lib.hid HL0
  clear HO0 HL0 hf ho
  have hn := row_lt hs
  have hmm := row_lt hm
  have B : Hid ((w.alloc (.cells (vrow 2 (spAt x y)) 33)).heap[n]? = some (.cells (vrow 5 b.at) 49)) := heap_past _ _ _ _ hn hs
  have P : Hid ((w.alloc (.cells (vrow 2 (spAt x y)) 33)).heap[m]? = some (.cells (vrow 266 s.at) 36)) := heap_past _ _ _ _ hmm hm
  have R : Hid ((w.alloc (.cells (vrow 2 (spAt x y)) 33)).heap[w.heap.size]? = some (.cells (vrow 2 (spAt x y)) 33)) := heap_at _ _ _ (by simp)
  have hB : Hid (Below w.heap.size w (w.alloc (.cells (vrow 2 (spAt x y)) 33))) := ((Below.refl w.heap.size w).alloc (by simp <;> omega) _)
  clear hs hm hn hmm
  go_enter Tryd.func74, Tryd.ntmps74
  go_wp2_with (first
    | go_skip
    | (go_at_call 128; (refine (HO.out _ _ B.out).mono ?_); rintro o w1 ⟨rfl, hb⟩; replace P := Go.Lib.hid (row_next hb P.out); replace R := Go.Lib.hid (row_next hb R.out); replace hB := Go.Lib.hid (below_next hB.out hb); clear hb B)
    | ((with_reducible refine wlAt 13 rfl ?_); refine wpList_loadall rfl 33 (.tmp 6) rfl _ rfl 2 (spAt x y) 33 _ Tryd.underlying33 rfl size_spot R.out ?_)
    | (go_at_call 129; (refine (HL.out _ P.out).mono ?_); rintro o w1 ⟨rfl, hb⟩; replace hB := Go.Lib.hid (below_next hB.out hb); clear hb))
  go_ret
  exact ⟨rfl, hB.out⟩
set_option maxHeartbeats 2000000 in
theorem specLift_err (s : Sh) (b : Br) (m : Nat) (x y k c : Int) (fi : Bool) (hc : c = 1 ∨ c = 2) (w : World) (HI0 : ∀ w, Calls Tryd.prog 75 #[.int .i64 k, .int .i64 0, .int .i64 16] w fun o w' => o = .returned (.bool fi) ∧ Below w.heap.size w w')
    (HA0 : ∀ w, w.heap[m]? = some (.cells (vrow 266 s.at) 36) → w.heap[m + 1]? = some (.cells (vrow 5 b.at) 49) → Calls Tryd.prog 74 #[.pointer (some ⟨m, 0, none⟩), .pointer (some ⟨m + 1, 0, none⟩), .agg (vrow 2 (spAt x y)), .bool fi] w fun o w' => o = .returned (.int .i64 c) ∧ Below w.heap.size w w') (hm : m = w.heap.size) :
    Calls Tryd.prog 22 #[.agg s.row, .agg b.row, .agg (vrow 2 (spAt x y)), .int .i64 k] w fun o w' => o = .returned (.tuple #[.agg Sh.zero.row, .agg Br.zero.row, .int .i64 c]) ∧ Below w.heap.size w w' := by
  subst hm
  have zz := zero_br
  have zs := zero_sheet
  have HI := Go.Lib.hid HI0
  have HA := Go.Lib.hid HA0
  clear HI0 HA0
  have P : Hid ((((((w.alloc (.cells (vrow 266 s.at) 36)).alloc (.cells (vrow 5 b.at) 49)).alloc (.cells (vrow 2 (spAt x y)) 33)).alloc (.cells (vrow 266 Sh.zero.at) 36)).alloc (.cells (vrow 5 Br.zero.at) 49)).heap[w.heap.size]? = some (.cells (vrow 266 s.at) 36)) := heap_past _ _ _ _ (by simp <;> omega) (heap_past _ _ _ _ (by simp <;> omega) (heap_past _ _ _ _ (by simp <;> omega) (heap_past _ _ _ _ (by simp <;> omega) (heap_at _ _ _ (by simp)))))
  have R : Hid ((((((w.alloc (.cells (vrow 266 s.at) 36)).alloc (.cells (vrow 5 b.at) 49)).alloc (.cells (vrow 2 (spAt x y)) 33)).alloc (.cells (vrow 266 Sh.zero.at) 36)).alloc (.cells (vrow 5 Br.zero.at) 49)).heap[w.heap.size + 1]? = some (.cells (vrow 5 b.at) 49)) := heap_past _ _ _ _ (by simp <;> omega) (heap_past _ _ _ _ (by simp <;> omega) (heap_past _ _ _ _ (by simp <;> omega) (heap_at _ _ _ (by simp))))
  have T : Hid ((((((w.alloc (.cells (vrow 266 s.at) 36)).alloc (.cells (vrow 5 b.at) 49)).alloc (.cells (vrow 2 (spAt x y)) 33)).alloc (.cells (vrow 266 Sh.zero.at) 36)).alloc (.cells (vrow 5 Br.zero.at) 49)).heap[w.heap.size + 2]? = some (.cells (vrow 2 (spAt x y)) 33)) := heap_past _ _ _ _ (by simp <;> omega) (heap_past _ _ _ _ (by simp <;> omega) (heap_at _ _ _ (by simp)))
  have Z : Hid ((((((w.alloc (.cells (vrow 266 s.at) 36)).alloc (.cells (vrow 5 b.at) 49)).alloc (.cells (vrow 2 (spAt x y)) 33)).alloc (.cells (vrow 266 Sh.zero.at) 36)).alloc (.cells (vrow 5 Br.zero.at) 49)).heap[w.heap.size + 3]? = some (.cells (vrow 266 Sh.zero.at) 36)) := heap_past _ _ _ _ (by simp <;> omega) (heap_at _ _ _ (by simp))
  have Y : Hid ((((((w.alloc (.cells (vrow 266 s.at) 36)).alloc (.cells (vrow 5 b.at) 49)).alloc (.cells (vrow 2 (spAt x y)) 33)).alloc (.cells (vrow 266 Sh.zero.at) 36)).alloc (.cells (vrow 5 Br.zero.at) 49)).heap[w.heap.size + 4]? = some (.cells (vrow 5 Br.zero.at) 49)) := heap_at _ _ _ (by simp)
  have hB : Hid (Below w.heap.size w (((((w.alloc (.cells (vrow 266 s.at) 36)).alloc (.cells (vrow 5 b.at) 49)).alloc (.cells (vrow 2 (spAt x y)) 33)).alloc (.cells (vrow 266 Sh.zero.at) 36)).alloc (.cells (vrow 5 Br.zero.at) 49))) := ((((((Below.refl w.heap.size w).alloc (by simp <;> omega) _).alloc (by simp <;> omega) _).alloc (by simp <;> omega) _).alloc (by simp <;> omega) _).alloc (by simp <;> omega) _)
  rcases hc with rfl | rfl
  all_goals
    go_enter Tryd.func22, Tryd.ntmps22
    go_wp2
    (refine region_at (by kernel_rfl) (by kernel_rfl) ?_; intro W hW; rw [hW] at hB P R T Z Y; clear hW; have P' := Go.Lib.hid (cls_row' P.out); have R' := Go.Lib.hid (cls_row' R.out); have T' := Go.Lib.hid (cls_row' T.out); (repeat (first | go_big_quiet_skip | (refine wpQuiet_loadmid 33 _ rfl (by first | exact want_n rfl | exact want_g _ _ _ rfl rfl rfl) (w.heap.size + 2) _ rfl 2 2 (spAt x y) _ rw_spot size_spot T'.out (by omega) ?_; rw [vrow_00]; simp only [Act.put, List.setIfInBounds_toArray, List.set_cons_succ, List.set_cons_zero]) | go_big_quiet_step (first | (go_at_call 75; exact cls_call _ (fun w hw => HI.out w)) | (go_at_call 74; exact cls_call _ (fun w hw => HA.out w (row_next hw P.out) (row_next hw R.out)))))); refine wpQuiet_nil ?_; intro Wn hb; replace P := Go.Lib.hid (row_next hb P.out); replace R := Go.Lib.hid (row_next hb R.out); replace T := Go.Lib.hid (row_next hb T.out); replace Z := Go.Lib.hid (row_next hb Z.out); replace Y := Go.Lib.hid (row_next hb Y.out); replace hB := Go.Lib.hid (below_next hB.out hb); clear hb P' R' T')
    go_wp2_with (first
      | go_skip
      | ((with_reducible refine wlAt 20 rfl ?_); refine wpList_built rfl 36 [] rfl [] (by rfl) _ built_zsh ?_)
      | ((with_reducible refine wlAt 21 rfl ?_); refine wpList_built rfl 49 [] rfl [] (by rfl) _ built_zbr ?_)
      | ((with_reducible refine wlOp (.store 36 (.tmp 8) (.tmp 20)) rfl ?_); refine wpList_storeall rfl 36 (.tmp 8) (.tmp 20) rfl (w.heap.size + 3) rfl 266 Sh.zero.at Sh.zero.at rfl 36 size_sheet Z.out (fun i _ => Sh.one _ i) ?_; replace Y := Go.Lib.hid (row_set' (g := w.heap.size + 3) (show w.heap.size + 4 ≠ w.heap.size + 3 by omega) Y.out (vrow 266 Sh.zero.at)); replace Z := Go.Lib.hid (row_set Z.out (vrow 266 Sh.zero.at)); replace hB := Go.Lib.hid (Below_setRow hB.out (show w.heap.size ≤ w.heap.size + 3 by omega) (vrow 266 Sh.zero.at)))
      | ((with_reducible refine wlOp (.store 49 (.tmp 9) (.tmp 21)) rfl ?_); refine wpList_storeall rfl 49 (.tmp 9) (.tmp 21) rfl (w.heap.size + 4) rfl 5 Br.zero.at Br.zero.at rfl 49 size_br Y.out (fun i _ => Br.one _ i) ?_; replace Z := Go.Lib.hid (row_set' (g := w.heap.size + 4) (show w.heap.size + 3 ≠ w.heap.size + 4 by omega) Z.out (vrow 5 Br.zero.at)); replace Y := Go.Lib.hid (row_set Y.out (vrow 5 Br.zero.at)); replace hB := Go.Lib.hid (Below_setRow hB.out (show w.heap.size ≤ w.heap.size + 4 by omega) (vrow 5 Br.zero.at))))
    exact ret_rowsL Tryd.results22 (w.heap.size + 3) 266 Sh.zero.at 36 _ Tryd.underlying36 rfl size_sheet (w.heap.size + 4) 5 Br.zero.at 49 _ Tryd.underlying49 rfl size_br (.int .i64 _) rfl rfl rfl rfl Z.out Y.out ⟨rfl, hB.out⟩
set_option maxHeartbeats 8000000 in
theorem specLift_ok (s : Sh) (b : Br) (x y : Nat) (p : Int) (w : World) (hf : s.fit) (hfb : b.fit) (hv : okI s = true) (ho : b.ok = true) (hh : hasB s x y = true) (hx : x < 8) (hy : y < 8) (hp : 0 ≤ p ∧ p ≤ 16) :
    Calls Tryd.prog 22 #[.agg s.row, .agg b.row, .agg (vrow 2 (spAt x y)), .int .i64 p] w fun o w' => o = .returned (.tuple #[.agg (liftH s b (24 * y + 3 * x) p 3).row, .agg (liftB s b (24 * y + 3 * x) p 3).row, .int .i64 0]) ∧ Below w.heap.size w w' := by
  have zz := zero_br
  have zs := zero_sheet
  have HI := Go.Lib.hid fun w => in_yes p 0 16 hp.1 hp.2 w
  have HA := Go.Lib.hid fun v hm hs => lask_next s b w.heap.size (w.heap.size + 1) x y 0 true v hm hs hfb ho fun u hu => asked_ok s w.heap.size x y u hu hf (by omega) (by omega) hv hh
  have HLB := Go.Lib.hid (liftB_lb s b (24 * y + 3 * x) p (b.ok_lb hfb ho) hp (ok_dyes s hv x y hx hy))
  have HV := Go.Lib.hid (ok_dyes s hv x y hx hy)
  have HP := Go.Lib.hid hp
  have hxI : (x : Int) < 8 := by omega
  have hyI : (y : Int) < 8 := by omega
  obtain ⟨hp1, hp2⟩ := hp
  clear hf hfb hv ho hh
  have P : Hid ((((((w.alloc (.cells (vrow 266 s.at) 36)).alloc (.cells (vrow 5 b.at) 49)).alloc (.cells (vrow 2 (spAt x y)) 33)).alloc (.cells (vrow 266 Sh.zero.at) 36)).alloc (.cells (vrow 5 Br.zero.at) 49)).heap[w.heap.size]? = some (.cells (vrow 266 s.at) 36)) := heap_past _ _ _ _ (by simp <;> omega) (heap_past _ _ _ _ (by simp <;> omega) (heap_past _ _ _ _ (by simp <;> omega) (heap_past _ _ _ _ (by simp <;> omega) (heap_at _ _ _ (by simp)))))
  have R : Hid ((((((w.alloc (.cells (vrow 266 s.at) 36)).alloc (.cells (vrow 5 b.at) 49)).alloc (.cells (vrow 2 (spAt x y)) 33)).alloc (.cells (vrow 266 Sh.zero.at) 36)).alloc (.cells (vrow 5 Br.zero.at) 49)).heap[w.heap.size + 1]? = some (.cells (vrow 5 b.at) 49)) := heap_past _ _ _ _ (by simp <;> omega) (heap_past _ _ _ _ (by simp <;> omega) (heap_past _ _ _ _ (by simp <;> omega) (heap_at _ _ _ (by simp))))
  have T : Hid ((((((w.alloc (.cells (vrow 266 s.at) 36)).alloc (.cells (vrow 5 b.at) 49)).alloc (.cells (vrow 2 (spAt x y)) 33)).alloc (.cells (vrow 266 Sh.zero.at) 36)).alloc (.cells (vrow 5 Br.zero.at) 49)).heap[w.heap.size + 2]? = some (.cells (vrow 2 (spAt x y)) 33)) := heap_past _ _ _ _ (by simp <;> omega) (heap_past _ _ _ _ (by simp <;> omega) (heap_at _ _ _ (by simp)))
  have Z : Hid ((((((w.alloc (.cells (vrow 266 s.at) 36)).alloc (.cells (vrow 5 b.at) 49)).alloc (.cells (vrow 2 (spAt x y)) 33)).alloc (.cells (vrow 266 Sh.zero.at) 36)).alloc (.cells (vrow 5 Br.zero.at) 49)).heap[w.heap.size + 3]? = some (.cells (vrow 266 Sh.zero.at) 36)) := heap_past _ _ _ _ (by simp <;> omega) (heap_at _ _ _ (by simp))
  have Y : Hid ((((((w.alloc (.cells (vrow 266 s.at) 36)).alloc (.cells (vrow 5 b.at) 49)).alloc (.cells (vrow 2 (spAt x y)) 33)).alloc (.cells (vrow 266 Sh.zero.at) 36)).alloc (.cells (vrow 5 Br.zero.at) 49)).heap[w.heap.size + 4]? = some (.cells (vrow 5 Br.zero.at) 49)) := heap_at _ _ _ (by simp)
  have hB : Hid (Below w.heap.size w (((((w.alloc (.cells (vrow 266 s.at) 36)).alloc (.cells (vrow 5 b.at) 49)).alloc (.cells (vrow 2 (spAt x y)) 33)).alloc (.cells (vrow 266 Sh.zero.at) 36)).alloc (.cells (vrow 5 Br.zero.at) 49))) := ((((((Below.refl w.heap.size w).alloc (by simp <;> omega) _).alloc (by simp <;> omega) _).alloc (by simp <;> omega) _).alloc (by simp <;> omega) _).alloc (by simp <;> omega) _)
  go_enter Tryd.func22, Tryd.ntmps22
  go_wp2
  (refine region_at (by kernel_rfl) (by kernel_rfl) ?_; intro W hW; rw [hW] at hB P R T Z Y; clear hW; have P' := Go.Lib.hid (cls_row' P.out); have R' := Go.Lib.hid (cls_row' R.out); have T' := Go.Lib.hid (cls_row' T.out); (repeat (first | go_big_quiet_skip | (refine wpQuiet_loadmid 33 _ rfl (by first | exact want_n rfl | exact want_g _ _ _ rfl rfl rfl) (w.heap.size + 2) _ rfl 2 2 (spAt (x : Int) (y : Int)) _ rw_spot size_spot T'.out (by omega) ?_; rw [vrow_00]; simp only [Act.put, List.setIfInBounds_toArray, List.set_cons_succ, List.set_cons_zero]) | go_big_quiet_step (first | (go_at_call 75; exact cls_call _ (fun w hw => HI.out w)) | (go_at_call 74; exact cls_call _ (fun w hw => HA.out w (row_next hw P.out) (row_next hw R.out)))))); refine wpQuiet_nil ?_; intro Wn hb; replace P := Go.Lib.hid (row_next hb P.out); replace R := Go.Lib.hid (row_next hb R.out); replace T := Go.Lib.hid (row_next hb T.out); replace Z := Go.Lib.hid (row_next hb Z.out); replace Y := Go.Lib.hid (row_next hb Y.out); replace hB := Go.Lib.hid (below_next hB.out hb); clear hb P' R' T')
  go_wp2_with (first | go_skip)
  go_loopw [12] (fun iv wr => ∃ k : Nat, k ≤ 3 ∧ iv = .int .i64 k ∧ wr.heap[w.heap.size]? = some (.cells (vrow 266 (liftH s b (24 * y + 3 * x) p k).at) 36) ∧ wr.heap[w.heap.size + 1]? = some (.cells (vrow 5 (liftB s b (24 * y + 3 * x) p k).at) 49) ∧ wr.heap[w.heap.size + 2]? = some (.cells (vrow 2 (spAt x y)) 33) ∧ wr.heap[w.heap.size + 3]? = some (.cells (vrow 266 Sh.zero.at) 36) ∧ wr.heap[w.heap.size + 4]? = some (.cells (vrow 5 Br.zero.at) 49) ∧ Below w.heap.size w wr) (fun iv _ => 3 - (intOf iv).toNat)
  case atStart => exact ⟨0, by omega, rfl, P.out, R.out, T.out, Z.out, Y.out, hB.out⟩
  case round =>
    clear P R T Z Y hB HI HA
    obtain ⟨k, hk, rfl, P, R, T, Z, Y, hB⟩ := hrel
    replace P := Go.Lib.hid P; replace R := Go.Lib.hid R; replace T := Go.Lib.hid T; replace Z := Go.Lib.hid Z; replace Y := Go.Lib.hid Y; replace hB := Go.Lib.hid hB
    by_cases hlt : k < 3
    · have hkI : (k : Int) < 3 := by omega
      have hC := HLB.out k hk
      have hN := liftN_bd hC (HV.out k hlt) HP.out
      have hvb := HV.out k hlt
      have hdd := liftH_dye s b (24 * y + 3 * x) p k k (Nat.le_refl _)
      have hstB : liftB s b (24 * y + 3 * x) p (k + 1) = (liftB s b (24 * y + 3 * x) p k).setDye k ((liftB s b (24 * y + 3 * x) p k).dye k + liftN (liftB s b (24 * y + 3 * x) p k) (s.dye (24 * y + 3 * x + k)) p) := rfl
      have hstH : liftH s b (24 * y + 3 * x) p (k + 1) = (liftH s b (24 * y + 3 * x) p k).put (24 * y + 3 * x + k) (s.dye (24 * y + 3 * x + k) - liftN (liftB s b (24 * y + 3 * x) p k) (s.dye (24 * y + 3 * x + k)) p) := rfl
      obtain ⟨C1, hC1⟩ : ∃ c, c = liftB s b (24 * y + 3 * x) p (k + 1) := ⟨_, rfl⟩
      obtain ⟨G1, hG1⟩ : ∃ c, c = liftH s b (24 * y + 3 * x) p (k + 1) := ⟨_, rfl⟩
      rw [← hC1] at hstB
      rw [← hG1] at hstH
      have HC1 := Go.Lib.hid hC1; have HG1 := Go.Lib.hid hG1
      have HSB := Go.Lib.hid hstB; have HSH := Go.Lib.hid hstH; have HDD0 := Go.Lib.hid hdd
      clear hstB hstH hdd HLB HV HP hC1 hG1
      generalize liftB s b (24 * y + 3 * x) p k = C at *
      generalize liftH s b (24 * y + 3 * x) p k = G at *
      generalize s.dye (24 * y + 3 * x + k) = v at *
      have hn : min (v * p / 16) (900 - C.sum) = liftN C v p := rfl
      generalize liftN C v p = n at *
      have HN := Go.Lib.hid hn
      have HDD := HDD0
      clear hn HDD0
      obtain ⟨m1, m2, n1, n2, n3⟩ := hN
      obtain ⟨v1, v2⟩ := hvb
      obtain ⟨q1, q2⟩ := Br.lb_le hC k hlt
      obtain ⟨u1, u2⟩ := Br.lb_sum hC
      have HCF := Go.Lib.hid hC.fit
      clear hC
      have e1 : (v * p).tdiv 16 = v * p / 16 := Int.tdiv_eq_ediv_of_nonneg m1
      go_wp2
      refine wp_region_still_lit (by kernel_rfl) (by kernel_rfl) ?_
      simp only [World.drew_eq]
      repeat (first
        | (refine wpStill_load1 rfl 22 (.tmp 27) rfl (w.heap.size + 2) 1 rfl 2 (spAt x y) _ _ Tryd.underlying22 rfl T.out (by omega) ?_; rw [spAt_1]; simp only [Act.put, List.setIfInBounds_toArray, List.set_cons_succ, List.set_cons_zero])
        | (refine wpStill_load1 rfl 22 (.tmp 29) rfl (w.heap.size + 2) 0 rfl 2 (spAt x y) _ _ Tryd.underlying22 rfl T.out (by omega) ?_; rw [spAt_0]; simp only [Act.put, List.setIfInBounds_toArray, List.set_cons_succ, List.set_cons_zero])
        | (refine wpStill_load1 rfl 23 (.tmp 35) rfl w.heap.size (66 + y * 24 + x * 3 + k) rfl 266 G.at _ _ Tryd.underlying23 rfl P.out (by omega) ?_; rw [Sh.at_dye1 _ _ (24 * y + 3 * x + k) (by omega) (by omega), HDD.out]; simp only [Act.put, List.setIfInBounds_toArray, List.set_cons_succ, List.set_cons_zero])
        | still_step
        | (refine wpStill_step (fun K hK => ?_); go_simp; simp only [hxI, hyI, hkI, if_true]; go_simp; refine hK _ ?_; clear hK K))
      refine wpStill_nil ?_
      rw [IntWalk.i64_in v (by omega), IntWalk.i64_in (v * p) (by omega), IntWalk.i64_quo (v * p) 16 (by omega)]
      replace P := Go.Lib.hid (drwL P.out); replace R := Go.Lib.hid (drwL R.out); replace T := Go.Lib.hid (drwL T.out); replace Z := Go.Lib.hid (drwL Z.out); replace Y := Go.Lib.hid (drwL Y.out); replace hB := Go.Lib.hid hB.out.drew
      generalize World.drew _ = W2 at P R T Z Y hB ⊢
      go_wp2_with (first
        | go_skip
        | (go_at_call 77; (refine (lload_any C (w.heap.size + 1) _ HCF.out R.out).mono ?_); rintro o w1 ⟨rfl, hb⟩; replace P := Go.Lib.hid (row_next hb P.out); replace R := Go.Lib.hid (row_next hb R.out); replace T := Go.Lib.hid (row_next hb T.out); replace Z := Go.Lib.hid (row_next hb Z.out); replace Y := Go.Lib.hid (row_next hb Y.out); replace hB := Go.Lib.hid (below_next hB.out hb); clear hb)
        | (go_at_call 76; (refine (lminL _ _ _).mono ?_); rintro o w1 ⟨rfl, hb⟩; rw [HN.out]; replace P := Go.Lib.hid (row_next hb P.out); replace R := Go.Lib.hid (row_next hb R.out); replace T := Go.Lib.hid (row_next hb T.out); replace Z := Go.Lib.hid (row_next hb Z.out); replace Y := Go.Lib.hid (row_next hb Y.out); replace hB := Go.Lib.hid (below_next hB.out hb); clear hb))
      refine wp_region_still_tail 17 (by kernel_rfl) (by kernel_rfl) ?_
      simp only [List.take_succ_cons, List.take_zero, List.drop_succ_cons, List.drop_zero, World.drew_eq]
      repeat (first
        | (refine wpStill_load1 rfl 22 (.tmp 45) rfl (w.heap.size + 2) 1 rfl 2 (spAt x y) _ _ Tryd.underlying22 rfl T.out (by omega) ?_; rw [spAt_1]; simp only [Act.put, List.setIfInBounds_toArray, List.set_cons_succ, List.set_cons_zero])
        | (refine wpStill_load1 rfl 22 (.tmp 47) rfl (w.heap.size + 2) 0 rfl 2 (spAt x y) _ _ Tryd.underlying22 rfl T.out (by omega) ?_; rw [spAt_0]; simp only [Act.put, List.setIfInBounds_toArray, List.set_cons_succ, List.set_cons_zero])
        | (refine wpStill_load1 rfl 23 (.tmp 53) rfl w.heap.size (66 + y * 24 + x * 3 + k) rfl 266 G.at _ _ Tryd.underlying23 rfl P.out (by omega) ?_; rw [Sh.at_dye1 _ _ (24 * y + 3 * x + k) (by omega) (by omega), HDD.out]; simp only [Act.put, List.setIfInBounds_toArray, List.set_cons_succ, List.set_cons_zero])
        | still_step
        | (refine wpStill_step (fun K hK => ?_); go_simp; simp only [hxI, hyI, hkI, if_true]; go_simp; refine hK _ ?_; clear hK K))
      refine wpStill_nil ?_
      rw [IntWalk.i16_in n (by omega), IntWalk.i16_in (v - n) (by omega)]
      replace P := Go.Lib.hid (drwL P.out); replace R := Go.Lib.hid (drwL R.out); replace T := Go.Lib.hid (drwL T.out); replace Z := Go.Lib.hid (drwL Z.out); replace Y := Go.Lib.hid (drwL Y.out); replace hB := Go.Lib.hid hB.out.drew
      generalize World.drew _ = W3 at P R T Z Y hB ⊢
      refine wpList_store1 rfl 23 (.tmp 61) (.tmp 57) rfl w.heap.size (66 + y * 24 + x * 3 + k) rfl 266 G.at (.int .i16 (v - n)) (by first | rfl | (show Value.int .i16 (IntKind.i16.wrap (v - n)) = _; rw [IntWalk.i16_in (v - n) (by omega)])) 36 size_i16 P.out (by omega) rfl ?_
      rw [Sh.put_at G _ (24 * y + 3 * x + k) (by omega) (by omega), ← HSH.out]
      replace R := Go.Lib.hid (row_set' (g := w.heap.size) (show w.heap.size + 1 ≠ w.heap.size by omega) R.out (vrow 266 G1.at)); replace T := Go.Lib.hid (row_set' (g := w.heap.size) (show w.heap.size + 2 ≠ w.heap.size by omega) T.out (vrow 266 G1.at)); replace Z := Go.Lib.hid (row_set' (g := w.heap.size) (show w.heap.size + 3 ≠ w.heap.size by omega) Z.out (vrow 266 G1.at)); replace Y := Go.Lib.hid (row_set' (g := w.heap.size) (show w.heap.size + 4 ≠ w.heap.size by omega) Y.out (vrow 266 G1.at)); replace P := Go.Lib.hid (row_set P.out (vrow 266 G1.at)); replace hB := Go.Lib.hid (Below_setRow hB.out (Nat.le_refl _) (vrow 266 G1.at))
      go_wp2_with (first
        | go_skip
        | ((with_reducible refine wlAt 65 rfl ?_); refine wpList_load1 rfl 23 (.tmp 64) rfl _ k rfl 5 C.at 49 _ Tryd.underlying23 rfl R.out (by omega) ?_; rw [Br.at_k _ _ hlt])
        | ((with_reducible refine wlOp (.store 23 (.tmp 70) (.tmp 68)) rfl ?_); refine wpList_store1 rfl 23 (.tmp 70) (.tmp 68) rfl _ k rfl 5 C.at (.int .i16 (C.dye k + n)) rfl 49 size_i16 R.out (by omega) rfl ?_; rw [Br.dye_at _ _ hlt, ← HSB.out]; replace P := Go.Lib.hid (row_set' (g := w.heap.size + 1) (show w.heap.size ≠ w.heap.size + 1 by omega) P.out (vrow 5 C1.at)); replace T := Go.Lib.hid (row_set' (g := w.heap.size + 1) (show w.heap.size + 2 ≠ w.heap.size + 1 by omega) T.out (vrow 5 C1.at)); replace Z := Go.Lib.hid (row_set' (g := w.heap.size + 1) (show w.heap.size + 3 ≠ w.heap.size + 1 by omega) Z.out (vrow 5 C1.at)); replace Y := Go.Lib.hid (row_set' (g := w.heap.size + 1) (show w.heap.size + 4 ≠ w.heap.size + 1 by omega) Y.out (vrow 5 C1.at)); replace R := Go.Lib.hid (row_set R.out (vrow 5 C1.at)); replace hB := Go.Lib.hid (Below_setRow hB.out (g := w.heap.size + 1) (by omega) (vrow 5 C1.at))))
      go_roundw
      case rel => exact ⟨k + 1, by omega, by go_num, by rw [← HG1.out]; exact P.out, by rw [← HC1.out]; exact R.out, T.out, Z.out, Y.out, hB.out⟩
      case measure => simp [intOf]; omega
    · obtain rfl : k = 3 := by omega
      clear HLB HV HP
      go_wp2
      refine Code.wp_mono (Q := fun e a' W' => e = .normal ∧ a'.tmps.getD 8 undef = .pointer (some ⟨w.heap.size + 3, 0, none⟩) ∧ a'.tmps.getD 9 undef = .pointer (some ⟨w.heap.size + 4, 0, none⟩) ∧ a'.tmps.getD 10 undef = .int .i64 0 ∧ a'.defers = [] ∧ Below w.heap.size w W' ∧ W'.heap[w.heap.size + 3]? = some (.cells (vrow 266 (liftH s b (24 * y + 3 * x) p 3).at) 36) ∧ W'.heap[w.heap.size + 4]? = some (.cells (vrow 5 (liftB s b (24 * y + 3 * x) p 3).at) 49)) ?_ ?_
      rotate_left
      · refine wp_region_held_drew (S := fun W' => Below w.heap.size w W' ∧ W'.heap[w.heap.size]? = some (.cells (vrow 266 (liftH s b (24 * y + 3 * x) p 3).at) 36) ∧ W'.heap[w.heap.size + 1]? = some (.cells (vrow 5 (liftB s b (24 * y + 3 * x) p 3).at) 49)) (by kernel_rfl) ⟨hB.out.drew, P.out, R.out⟩ (fun hH => ?_)
        have V8 := drwL Z.out
        have V9 := drwL Y.out
        generalize World.drew _ = W at hH V8 V9 ⊢
        refine wpAnyH_take (i := 0) (v := (.agg (vrow 266 (liftH s b (24 * y + 3 * x) p 3).at))) rfl (by kernel_rfl) (by kernel_rfl) (by kernel_rfl) (fun _ _ _ h => by cases h.1) (yields_row (by rfl) 36 _ rfl (w.heap.size) rfl 266 (liftH s b (24 * y + 3 * x) p 3).at 36 _ Tryd.underlying36 rfl size_sheet (fun _ h => h.2.1)) hH ?_
        (try simp only [Act.put, List.setIfInBounds_toArray, List.set_cons_succ, List.set_cons_zero])
        refine wpAnyH_take (i := 1) (v := (.agg (vrow 5 (liftB s b (24 * y + 3 * x) p 3).at))) rfl (by kernel_rfl) (by kernel_rfl) (by kernel_rfl) (fun _ _ _ h => by cases h.1) (yields_row (by rfl) 49 _ rfl (w.heap.size + 1) rfl 5 (liftB s b (24 * y + 3 * x) p 3).at 49 _ Tryd.underlying49 rfl size_br (fun _ h => h.2.2)) hH ?_
        (try simp only [Act.put, List.setIfInBounds_toArray, List.set_cons_succ, List.set_cons_zero])
        refine wpAnyH_ready (rs := [2]) (by kernel_rfl) (by simp) (AllReadyH.cons rfl (fun K hK => ?_) AllReadyH.nil)
        rw [if_pos (by rfl)]
        unfold Oper.wp
        rw [run_storemid 36 (.tmp 8) (.tmp 71) rfl (w.heap.size + 3) 0 rfl 266 266 Sh.zero.at (liftH s b (24 * y + 3 * x) p 3).at rfl 36 size_sheet V8 (by omega) (fun i _ => Sh.one _ i), vrow_over_all, Oper.upon_skip]
        replace V8 := row_set V8 (vrow 266 (liftH s b (24 * y + 3 * x) p 3).at)
        replace V9 := row_set' (show w.heap.size + 4 ≠ w.heap.size + 3 by omega) V9 (vrow 266 (liftH s b (24 * y + 3 * x) p 3).at)
        have hH2 : Below w.heap.size w (W.setRow (w.heap.size + 3) (vrow 266 (liftH s b (24 * y + 3 * x) p 3).at)) ∧ (W.setRow (w.heap.size + 3) (vrow 266 (liftH s b (24 * y + 3 * x) p 3).at)).heap[w.heap.size]? = some (.cells (vrow 266 (liftH s b (24 * y + 3 * x) p 3).at) 36) ∧ (W.setRow (w.heap.size + 3) (vrow 266 (liftH s b (24 * y + 3 * x) p 3).at)).heap[w.heap.size + 1]? = some (.cells (vrow 5 (liftB s b (24 * y + 3 * x) p 3).at) 49) := ⟨Below_setRow hH.1 (by omega) _, row_set' (by omega) hH.2.1 _, row_set' (by omega) hH.2.2 _⟩
        refine hK.out _ _ hH2 (fun hH => ?_)
        clear hK K hH2
        (try simp only [Act.put, List.setIfInBounds_toArray, List.set_cons_succ, List.set_cons_zero])
        generalize (W.setRow (w.heap.size + 3) (vrow 266 (liftH s b (24 * y + 3 * x) p 3).at)) = Y0 at hH V8 V9 ⊢
        refine wpAnyH_ready (rs := [3]) (by kernel_rfl) (by simp) (AllReadyH.cons rfl (fun K hK => ?_) AllReadyH.nil)
        rw [if_pos (by rfl)]
        unfold Oper.wp
        rw [run_storemid 49 (.tmp 9) (.tmp 72) rfl (w.heap.size + 4) 0 rfl 5 5 Br.zero.at (liftB s b (24 * y + 3 * x) p 3).at rfl 49 size_br V9 (by omega) (fun i _ => Br.one _ i), vrow_over_all, Oper.upon_skip]
        replace V8 := row_set' (show w.heap.size + 3 ≠ w.heap.size + 4 by omega) V8 (vrow 5 (liftB s b (24 * y + 3 * x) p 3).at)
        replace V9 := row_set V9 (vrow 5 (liftB s b (24 * y + 3 * x) p 3).at)
        have hH2 : Below w.heap.size w (Y0.setRow (w.heap.size + 4) (vrow 5 (liftB s b (24 * y + 3 * x) p 3).at)) ∧ (Y0.setRow (w.heap.size + 4) (vrow 5 (liftB s b (24 * y + 3 * x) p 3).at)).heap[w.heap.size]? = some (.cells (vrow 266 (liftH s b (24 * y + 3 * x) p 3).at) 36) ∧ (Y0.setRow (w.heap.size + 4) (vrow 5 (liftB s b (24 * y + 3 * x) p 3).at)).heap[w.heap.size + 1]? = some (.cells (vrow 5 (liftB s b (24 * y + 3 * x) p 3).at) 49) := ⟨Below_setRow hH.1 (by omega) _, row_set' (by omega) hH.2.1 _, row_set' (by omega) hH.2.2 _⟩
        refine hK.out _ _ hH2 (fun hH => ?_)
        clear hK K hH2
        (try simp only [Act.put, List.setIfInBounds_toArray, List.set_cons_succ, List.set_cons_zero])
        generalize (Y0.setRow (w.heap.size + 4) (vrow 5 (liftB s b (24 * y + 3 * x) p 3).at)) = Y1 at hH V8 V9 ⊢
        refine wpAnyH_take (i := 4) (v := (.int .i64 0)) rfl (by kernel_rfl) (by kernel_rfl) (by kernel_rfl) (fun _ _ _ h => by cases h.1) (.inl ⟨by rfl, fun w _ => by go_simp⟩) hH ?_
        (try simp only [Act.put, List.setIfInBounds_toArray, List.set_cons_succ, List.set_cons_zero])
        refine wpAnyH_done (by kernel_rfl) ?_ _
        exact ⟨rfl, rfl, rfl, rfl, rfl, hH.1, V8, V9⟩
      rintro e1 a1 W1 ⟨rfl, h_8, h_9, h_10, hdf, hB1, V8, V9⟩
      go_wp2
      exact ret_rowsL Tryd.results22 (w.heap.size + 3) 266 (liftH s b (24 * y + 3 * x) p 3).at 36 _ Tryd.underlying36 rfl size_sheet (w.heap.size + 4) 5 (liftB s b (24 * y + 3 * x) p 3).at 49 _ Tryd.underlying49 rfl size_br (.int .i64 0) h_8 h_9 h_10 hdf V8 V9 ⟨rfl, hB1⟩
end Go.Proofs.YtfgcpiipndhllaaDoor
