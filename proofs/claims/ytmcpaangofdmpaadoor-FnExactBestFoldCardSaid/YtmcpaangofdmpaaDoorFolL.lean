import Derived.Test.YtmcpaangofdmpaaDoorApN
import Derived.Test.YtmcpaangofdmpaaDoorFdO
import Derived.Test.YtmcpaangofdmpaaDoorCodeOf
import Derived.Test.YtmcpaangofdmpaaDoorOkEq
import Derived.Test.YtmcpaangofdmpaaDoorChos
namespace Go.Proofs.YtmcpaangofdmpaaDoor
open Go.RowKit
set_option maxRecDepth 100000
set_option linter.unusedVariables false
set_option linter.unusedSimpArgs false
/-- the first k folds along one way -/
def folK (d : Bool) (k : Nat) : List (Int × Bool × Int) := (List.range k).map fun (i : Nat) => ((i : Int) + 1, d, 8)
theorem folK_step (d : Bool) (k : Nat) : folK d (k + 1) = folK d k ++ [((k : Int) + 1, d, 8)] := by unfold folK; rw [List.range_succ, List.map_append]; rfl
theorem folK_len (d : Bool) (k : Nat) : (folK d k).length = k := by unfold folK; simp
/-- all folds of a sheet -/
def folA (a c : Nat) : List (Int × Bool × Int) := folK false (a - 1) ++ folK true (c - 1)
theorem built_foF (x : Int) : Tryd.prog.built 38 [(0, .int .i8 x), (2, .int .i8 8)] = some #[.int .i8 x, .bool false, .int .i8 8] := by kernel_rfl
theorem built_foT (x : Int) : Tryd.prog.built 38 [(0, .int .i8 x), (1, .bool true), (2, .int .i8 8)] = some #[.int .i8 x, .bool true, .int .i8 8] := by kernel_rfl
theorem info_foA : (Tryd.prog.info? 38).map (fun i => (i.zero, i.size, i.bytes)) = some (some (.agg #[.int .i8 0, .bool false, .int .i8 0]), 3, 3) := by kernel_rfl
theorem info_partsF {P : Program} {t : TypeId} {z : Value} {n m : Nat} (h : (P.info? t).map (fun i => (i.zero, i.size, i.bytes)) = some (some z, n, m)) : ∃ i, P.info? t = some i ∧ i.zero = some z ∧ i.size = n ∧ i.bytes = m := by
  obtain ⟨i, hi, hzz⟩ := Option.map_eq_some_iff.1 h
  simp only [Prod.mk.injEq] at hzz
  exact ⟨i, hi, hzz.1, hzz.2.1, hzz.2.2⟩
theorem fit_ne (k m : Nat) (h : k < m) : (k : Int) < (m : Int) := by omega
set_option maxRecDepth 100000 in
set_option maxHeartbeats 8000000 in
theorem folds_any (s : Sh) (a c : Nat) (w : World) (ea : s.wide = a) (ec : s.high = c) (ha : 1 ≤ a ∧ a ≤ 8) (hc : 1 ≤ c ∧ c ≤ 8) : Calls Tryd.prog 64 #[.agg s.row] w fun e w' => ∃ v, e = .returned v ∧ w'.ownsRow (w.heap.size + 1) 38 3 v (folA a c).length (fvals (folA a c)) ∧ Below w.heap.size w w' := by
  obtain ⟨i0, hi, hz0, hz1, hz2⟩ := info_partsF info_foA
  have P : Hid ((w.alloc (.cells (vrow 266 s.at) 34)).heap[w.heap.size]? = some (.cells (vrow 266 s.at) 34)) := (heap_at _ _ _ (by simp))
  have hB : Hid (Below w.heap.size w (w.alloc (.cells (vrow 266 s.at) 34))) := Go.Lib.hid ((Below.refl w.heap.size w).alloc (by simp <;> omega) _)
  have O : Hid ((w.alloc (.cells (vrow 266 s.at) 34)).ownsRow (w.heap.size + 1) 38 3 (.slice none 0 0) 0 []) := Go.Lib.hid (World.ownsRow_nil _ _ _ _)
  have hsw : s.at 0 = .int .i8 (a : Int) := by rw [Sh.at_0, ea]
  have hsh : s.at 1 = .int .i8 (c : Int) := by rw [Sh.at_1, ec]
  have HW := Go.Lib.hid hsw; have HH := Go.Lib.hid hsh
  clear hsw hsh ea ec
  have hw8 : IntKind.i8.wrap ((a : Int) - 1) = (a : Int) - 1 := IntWalk.i8_in _ (by omega)
  have hh8 : IntKind.i8.wrap ((c : Int) - 1) = (c : Int) - 1 := IntWalk.i8_in _ (by omega)
  go_enter Tryd.func64, Tryd.ntmps64
  go_wp2_with (first
    | go_skip
    | ((with_reducible refine wlAt 7 rfl ?_); refine wpList_ld1 22 _ rfl (by first | exact want_n rfl | exact want_g _ _ _ rfl rfl rfl) (w.heap.size) 0 rfl 266 s.at _ rw_i8 P.out (by omega) ?_; rw [HW.out]))
  have P0 := P.out; have O0 := O.out; have B0 := hB.out
  clear P O hB
  go_loopw [3, 9] (fun v iv wr => ∃ k : Nat, k ≤ a - 1 ∧ iv = .int .i8 (k : Nat) ∧ wr.ownsRow (w.heap.size + 1) 38 3 v (folK false k).length (fvals (folK false k)) ∧ wr.heap[w.heap.size]? = some (.cells (vrow 266 s.at) 34) ∧ Below w.heap.size w wr) (fun _ iv _ => (a + 2) - (intOf iv).toNat)
  case atStart => exact ⟨0, by omega, by first | rfl | simp, by simpa [folK, fvals] using O0, P0, B0⟩
  case round =>
    clear O0 P0 B0
    obtain ⟨k, hk, rfl, O, P, hB⟩ := hrel
    replace O := Go.Lib.hid O; replace P := Go.Lib.hid P; replace hB := Go.Lib.hid hB
    have hln : (folK false k).length ≤ 20 := by simp [folK_len]; omega
    by_cases hlt : k < a - 1
    · have hkI : (k : Int) < (a : Int) - 1 := by omega
      have hkJ : (k : Int) + 1 < (a : Int) := by omega
      have hk0 : (0 : Int) ≤ (k : Int) := by omega
      have hkd : decide ((k : Int) < (a : Int) - 1) = true := by simpa using hkI
      have hkd2 : decide ((k : Int) + 1 < (a : Int)) = true := by simpa using hkJ
      have hw1 : IntKind.i8.wrap ((k : Int) + 1) = (k : Int) + 1 := IntWalk.i8_in _ (by omega)
      have hw2 : IntKind.i8.wrap ((k : Int) + 1 + 1) = (k : Int) + 1 + 1 := IntWalk.i8_in _ (by omega)
      have hstp := Go.Lib.hid (show folK false (k + 1) = folK false k ++ [((k : Int) + 1, false, 8)] from by first | exact folK_step _ _ | rw [folK_step, List.append_assoc])
      generalize folK false k = Lk at *
      go_wp2_with (first
        | go_skip
        | ((with_reducible refine wlAt 15 rfl ?_); refine wpList_built rfl 38 [(0, .tmp 14), (2, .const (.int .i8 8))] rfl [(0, .int .i8 ((k : Int) + 1)), (2, .int .i8 8)] (by rfl) _ (built_foF _) ?_)
        | (at_builtin; refine wpList_append_ownN rfl (.tmp 12) (.tmp 16) 45 rfl (w.heap.size + 1) 38 i0 (.agg #[.int .i8 0, .bool false, .int .i8 0]) 3 3 Tryd.underlying45 hi hz0 hz1 hz2 rfl (by decide) _ _ _ rfl (O.out.alloc _) ⟨wr.heap.size, 0, none⟩ 1 1 [.int .i8 ((k : Int) + 1), .bool false, .int .i8 8] rfl rfl (World.news_of_block (heap_at _ _ _ rfl)) (by simp [Value.oneCell']) (by simp only [maxLen]; omega) (by omega) (by have := hB.out.size; have := row_lt P.out; simp; omega) ?_; intro v' w5 hown' hgrow hnb))
      have hov := O.out.lt
      have P1 := (hgrow.block (w.heap.size) (by have := row_lt P.out; simp; omega) (fun e => by have := (hov _ e.symm).1; omega)).trans (heap_past _ _ _ _ (row_lt P.out) P.out)
      have B1 : Below w.heap.size w w5 := (hB.out.alloc hB.out.size _).grown hgrow (by have := hB.out.size; simp; omega) (fun q hq => by have := (hov q hq).1; omega)
      go_roundw
      case rel => exact ⟨k + 1, by omega, by go_num, by rw [hstp.out, List.length_append, fvals_app, fvals_one]; exact hown', P1, B1⟩
      case measure => simp [intOf]; omega
    · obtain rfl : k = a - 1 := by omega
      have hkd : decide (((a - 1 : Nat) : Int) < (a : Int) - 1) = false := by simp; omega
      have hkd2 : decide (((a - 1 : Nat) : Int) + 1 < (a : Int)) = false := by simp; omega
      go_wp2_with (first
        | go_skip
        | ((with_reducible refine wlAt 20 rfl ?_); refine wpList_ld1 22 _ rfl (by first | exact want_n rfl | exact want_g _ _ _ rfl rfl rfl) (w.heap.size) 1 rfl 266 s.at _ rw_i8 P.out (by omega) ?_; rw [HH.out]))
      have P0 := P.out; have O0 := O.out; have B0 := hB.out
      clear P O hB
      go_loopw [3, 22] (fun v iv wr => ∃ j : Nat, j ≤ c - 1 ∧ iv = .int .i8 (j : Nat) ∧ wr.ownsRow (w.heap.size + 1) 38 3 v (folK false (a - 1) ++ folK true j).length (fvals (folK false (a - 1) ++ folK true j)) ∧ wr.heap[w.heap.size]? = some (.cells (vrow 266 s.at) 34) ∧ Below w.heap.size w wr) (fun _ iv _ => (c + 2) - (intOf iv).toNat)
      case atStart => exact ⟨0, by omega, by first | rfl | simp, by simpa [folK, fvals] using O0, P0, B0⟩
      case round =>
        clear O0 P0 B0
        obtain ⟨j, hj, rfl, O, P, hB⟩ := hrel
        replace O := Go.Lib.hid O; replace P := Go.Lib.hid P; replace hB := Go.Lib.hid hB
        have hln : (folK false (a - 1) ++ folK true j).length ≤ 20 := by simp [folK_len]; omega
        by_cases hlt : j < c - 1
        · have hkI : (j : Int) < (c : Int) - 1 := by omega
          have hkJ : (j : Int) + 1 < (c : Int) := by omega
          have hk0 : (0 : Int) ≤ (j : Int) := by omega
          have hkd : decide ((j : Int) < (c : Int) - 1) = true := by simpa using hkI
          have hkd2 : decide ((j : Int) + 1 < (c : Int)) = true := by simpa using hkJ
          have hw1 : IntKind.i8.wrap ((j : Int) + 1) = (j : Int) + 1 := IntWalk.i8_in _ (by omega)
          have hw2 : IntKind.i8.wrap ((j : Int) + 1 + 1) = (j : Int) + 1 + 1 := IntWalk.i8_in _ (by omega)
          have hstp := Go.Lib.hid (show folK false (a - 1) ++ folK true (j + 1) = folK false (a - 1) ++ folK true j ++ [((j : Int) + 1, true, 8)] from by first | exact folK_step _ _ | rw [folK_step, List.append_assoc])
          generalize folK false (a - 1) ++ folK true j = Lk at *
          go_wp2_with (first
            | go_skip
            | ((with_reducible refine wlAt 28 rfl ?_); refine wpList_built rfl 38 [(0, .tmp 27), (1, .const (.bool true)), (2, .const (.int .i8 8))] rfl [(0, .int .i8 ((j : Int) + 1)), (1, .bool true), (2, .int .i8 8)] (by rfl) _ (built_foT _) ?_)
            | (at_builtin; refine wpList_append_ownN rfl (.tmp 25) (.tmp 29) 45 rfl (w.heap.size + 1) 38 i0 (.agg #[.int .i8 0, .bool false, .int .i8 0]) 3 3 Tryd.underlying45 hi hz0 hz1 hz2 rfl (by decide) _ _ _ rfl (O.out.alloc _) ⟨wr.heap.size, 0, none⟩ 1 1 [.int .i8 ((j : Int) + 1), .bool true, .int .i8 8] rfl rfl (World.news_of_block (heap_at _ _ _ rfl)) (by simp [Value.oneCell']) (by simp only [maxLen]; omega) (by omega) (by have := hB.out.size; have := row_lt P.out; simp; omega) ?_; intro v' w5 hown' hgrow hnb))
          have hov := O.out.lt
          have P1 := (hgrow.block (w.heap.size) (by have := row_lt P.out; simp; omega) (fun e => by have := (hov _ e.symm).1; omega)).trans (heap_past _ _ _ _ (row_lt P.out) P.out)
          have B1 : Below w.heap.size w w5 := (hB.out.alloc hB.out.size _).grown hgrow (by have := hB.out.size; simp; omega) (fun q hq => by have := (hov q hq).1; omega)
          go_roundw
          case rel => exact ⟨j + 1, by omega, by go_num, by rw [hstp.out, List.length_append, fvals_app, fvals_one]; exact hown', P1, B1⟩
          case measure => simp [intOf]; omega
        · obtain rfl : j = c - 1 := by omega
          have hkd : decide (((c - 1 : Nat) : Int) < (c : Int) - 1) = false := by simp; omega
          have hkd2 : decide (((c - 1 : Nat) : Int) + 1 < (c : Int)) = false := by simp; omega
          go_wp2_with (first
            | go_skip)
          go_ret
          exact ⟨_, rfl, O.out, hB.out⟩
set_option maxRecDepth 100000 in
set_option maxHeartbeats 8000000 in
theorem lfolds_any (s : Sh) (b a c : Nat) (w : World) (hs : w.heap[b]? = some (.cells (vrow 266 s.at) 34)) (ea : s.wide = a) (ec : s.high = c) (ha : 1 ≤ a ∧ a ≤ 8) (hc : 1 ≤ c ∧ c ≤ 8) : Calls Tryd.prog 61 #[.pointer (some ⟨b, 0, none⟩)] w fun e w' => ∃ v, e = .returned v ∧ w'.ownsRow (w.heap.size) 38 3 v (folA a c).length (fvals (folA a c)) ∧ Below w.heap.size w w' := by
  obtain ⟨i0, hi, hz0, hz1, hz2⟩ := info_partsF info_foA
  have hbl := row_lt hs
  have P : Hid ((w.alloc (.cells #[] 38)).heap[b]? = some (.cells (vrow 266 s.at) 34)) := heap_past _ _ _ _ hbl hs
  have hB : Hid (Below w.heap.size w (w.alloc (.cells #[] 38))) := Go.Lib.hid ((Below.refl w.heap.size w).alloc (Nat.le_refl _) _)
  have O : Hid ((w.alloc (.cells #[] 38)).ownsRow w.heap.size 38 3 (.slice (some ⟨w.heap.size, 0, none⟩) 0 0) 0 []) := Go.Lib.hid (World.ownsRow_made (size := 3) (e := 38) w #[] 0 (Nat.le_refl _) (by decide) rfl)
  clear hs
  have hsw : s.at 0 = .int .i8 (a : Int) := by rw [Sh.at_0, ea]
  have hsh : s.at 1 = .int .i8 (c : Int) := by rw [Sh.at_1, ec]
  have HW := Go.Lib.hid hsw; have HH := Go.Lib.hid hsh
  clear hsw hsh ea ec
  go_enter Tryd.func61, Tryd.ntmps61
  go_wp2_with (first
    | go_skip)
  have P0 := P.out; have O0 := O.out; have B0 := hB.out
  clear P O hB
  go_loopw [3, 4] (fun v iv wr => ∃ k : Nat, k ≤ a - 1 ∧ iv = .int .i8 ((k : Int) + 1) ∧ wr.ownsRow (w.heap.size) 38 3 v (folK false k).length (fvals (folK false k)) ∧ wr.heap[b]? = some (.cells (vrow 266 s.at) 34) ∧ Below w.heap.size w wr) (fun _ iv _ => (a + 2) - (intOf iv).toNat)
  case atStart => exact ⟨0, by omega, by first | rfl | simp, by simpa [folK, fvals] using O0, P0, B0⟩
  case round =>
    clear O0 P0 B0
    obtain ⟨k, hk, rfl, O, P, hB⟩ := hrel
    replace O := Go.Lib.hid O; replace P := Go.Lib.hid P; replace hB := Go.Lib.hid hB
    have hln : (folK false k).length ≤ 20 := by simp [folK_len]; omega
    by_cases hlt : k < a - 1
    · have hkI : (k : Int) < (a : Int) - 1 := by omega
      have hkJ : (k : Int) + 1 < (a : Int) := by omega
      have hk0 : (0 : Int) ≤ (k : Int) := by omega
      have hkd : decide ((k : Int) < (a : Int) - 1) = true := by simpa using hkI
      have hkd2 : decide ((k : Int) + 1 < (a : Int)) = true := by simpa using hkJ
      have hw1 : IntKind.i8.wrap ((k : Int) + 1) = (k : Int) + 1 := IntWalk.i8_in _ (by omega)
      have hw2 : IntKind.i8.wrap ((k : Int) + 1 + 1) = (k : Int) + 1 + 1 := IntWalk.i8_in _ (by omega)
      have hstp := Go.Lib.hid (show folK false (k + 1) = folK false k ++ [((k : Int) + 1, false, 8)] from by first | exact folK_step _ _ | rw [folK_step, List.append_assoc])
      generalize folK false k = Lk at *
      go_wp2_with (first
        | go_skip
        | ((with_reducible refine wlAt 11 rfl ?_); refine wpList_ld1 22 _ rfl (by first | exact want_n rfl | exact want_g _ _ _ rfl rfl rfl) (b) 0 rfl 266 s.at _ rw_i8 P.out (by omega) ?_; rw [HW.out])
        | ((with_reducible refine wlAt 17 rfl ?_); refine wpList_built rfl 38 [(0, .tmp 16), (2, .const (.int .i8 8))] rfl [(0, .int .i8 ((k : Int) + 1)), (2, .int .i8 8)] (by rfl) _ (built_foF _) ?_)
        | (at_builtin; refine wpList_append_ownN rfl (.tmp 15) (.tmp 18) 45 rfl (w.heap.size) 38 i0 (.agg #[.int .i8 0, .bool false, .int .i8 0]) 3 3 Tryd.underlying45 hi hz0 hz1 hz2 rfl (by decide) _ _ _ rfl (O.out.alloc _) ⟨wr.heap.size, 0, none⟩ 1 1 [.int .i8 ((k : Int) + 1), .bool false, .int .i8 8] rfl rfl (World.news_of_block (heap_at _ _ _ rfl)) (by simp [Value.oneCell']) (by simp only [maxLen]; omega) (by omega) (by have := hB.out.size; have := row_lt P.out; simp; omega) ?_; intro v' w5 hown' hgrow hnb))
      have hov := O.out.lt
      have P1 := (hgrow.block (b) (by have := row_lt P.out; simp; omega) (fun e => by have := (hov _ e.symm).1; omega)).trans (heap_past _ _ _ _ (row_lt P.out) P.out)
      have B1 : Below w.heap.size w w5 := (hB.out.alloc hB.out.size _).grown hgrow (by have := hB.out.size; simp; omega) (fun q hq => by have := (hov q hq).1; omega)
      go_roundw
      case rel => exact ⟨k + 1, by omega, by go_num, by rw [hstp.out, List.length_append, fvals_app, fvals_one]; exact hown', P1, B1⟩
      case measure => simp [intOf]; omega
    · obtain rfl : k = a - 1 := by omega
      have hkd : decide (((a - 1 : Nat) : Int) < (a : Int) - 1) = false := by simp; omega
      have hkd2 : decide (((a - 1 : Nat) : Int) + 1 < (a : Int)) = false := by simp; omega
      go_wp2_with (first
        | go_skip
        | ((with_reducible refine wlAt 11 rfl ?_); refine wpList_ld1 22 _ rfl (by first | exact want_n rfl | exact want_g _ _ _ rfl rfl rfl) (b) 0 rfl 266 s.at _ rw_i8 P.out (by omega) ?_; rw [HW.out]))
      have P0 := P.out; have O0 := O.out; have B0 := hB.out
      clear P O hB
      go_loopw [3, 5] (fun v iv wr => ∃ j : Nat, j ≤ c - 1 ∧ iv = .int .i8 ((j : Int) + 1) ∧ wr.ownsRow (w.heap.size) 38 3 v (folK false (a - 1) ++ folK true j).length (fvals (folK false (a - 1) ++ folK true j)) ∧ wr.heap[b]? = some (.cells (vrow 266 s.at) 34) ∧ Below w.heap.size w wr) (fun _ iv _ => (c + 2) - (intOf iv).toNat)
      case atStart => exact ⟨0, by omega, by first | rfl | simp, by simpa [folK, fvals] using O0, P0, B0⟩
      case round =>
        clear O0 P0 B0
        obtain ⟨j, hj, rfl, O, P, hB⟩ := hrel
        replace O := Go.Lib.hid O; replace P := Go.Lib.hid P; replace hB := Go.Lib.hid hB
        have hln : (folK false (a - 1) ++ folK true j).length ≤ 20 := by simp [folK_len]; omega
        by_cases hlt : j < c - 1
        · have hkI : (j : Int) < (c : Int) - 1 := by omega
          have hkJ : (j : Int) + 1 < (c : Int) := by omega
          have hk0 : (0 : Int) ≤ (j : Int) := by omega
          have hkd : decide ((j : Int) < (c : Int) - 1) = true := by simpa using hkI
          have hkd2 : decide ((j : Int) + 1 < (c : Int)) = true := by simpa using hkJ
          have hw1 : IntKind.i8.wrap ((j : Int) + 1) = (j : Int) + 1 := IntWalk.i8_in _ (by omega)
          have hw2 : IntKind.i8.wrap ((j : Int) + 1 + 1) = (j : Int) + 1 + 1 := IntWalk.i8_in _ (by omega)
          have hstp := Go.Lib.hid (show folK false (a - 1) ++ folK true (j + 1) = folK false (a - 1) ++ folK true j ++ [((j : Int) + 1, true, 8)] from by first | exact folK_step _ _ | rw [folK_step, List.append_assoc])
          generalize folK false (a - 1) ++ folK true j = Lk at *
          go_wp2_with (first
            | go_skip
            | ((with_reducible refine wlAt 24 rfl ?_); refine wpList_ld1 22 _ rfl (by first | exact want_n rfl | exact want_g _ _ _ rfl rfl rfl) (b) 1 rfl 266 s.at _ rw_i8 P.out (by omega) ?_; rw [HH.out])
            | ((with_reducible refine wlAt 30 rfl ?_); refine wpList_built rfl 38 [(0, .tmp 29), (1, .const (.bool true)), (2, .const (.int .i8 8))] rfl [(0, .int .i8 ((j : Int) + 1)), (1, .bool true), (2, .int .i8 8)] (by rfl) _ (built_foT _) ?_)
            | (at_builtin; refine wpList_append_ownN rfl (.tmp 28) (.tmp 31) 45 rfl (w.heap.size) 38 i0 (.agg #[.int .i8 0, .bool false, .int .i8 0]) 3 3 Tryd.underlying45 hi hz0 hz1 hz2 rfl (by decide) _ _ _ rfl (O.out.alloc _) ⟨wr.heap.size, 0, none⟩ 1 1 [.int .i8 ((j : Int) + 1), .bool true, .int .i8 8] rfl rfl (World.news_of_block (heap_at _ _ _ rfl)) (by simp [Value.oneCell']) (by simp only [maxLen]; omega) (by omega) (by have := hB.out.size; have := row_lt P.out; simp; omega) ?_; intro v' w5 hown' hgrow hnb))
          have hov := O.out.lt
          have P1 := (hgrow.block (b) (by have := row_lt P.out; simp; omega) (fun e => by have := (hov _ e.symm).1; omega)).trans (heap_past _ _ _ _ (row_lt P.out) P.out)
          have B1 : Below w.heap.size w w5 := (hB.out.alloc hB.out.size _).grown hgrow (by have := hB.out.size; simp; omega) (fun q hq => by have := (hov q hq).1; omega)
          go_roundw
          case rel => exact ⟨j + 1, by omega, by go_num, by rw [hstp.out, List.length_append, fvals_app, fvals_one]; exact hown', P1, B1⟩
          case measure => simp [intOf]; omega
        · obtain rfl : j = c - 1 := by omega
          have hkd : decide (((c - 1 : Nat) : Int) < (c : Int) - 1) = false := by simp; omega
          have hkd2 : decide (((c - 1 : Nat) : Int) + 1 < (c : Int)) = false := by simp; omega
          go_wp2_with (first
            | go_skip
            | ((with_reducible refine wlAt 24 rfl ?_); refine wpList_ld1 22 _ rfl (by first | exact want_n rfl | exact want_g _ _ _ rfl rfl rfl) (b) 1 rfl 266 s.at _ rw_i8 P.out (by omega) ?_; rw [HH.out]))
          go_ret
          exact ⟨_, rfl, O.out, hB.out⟩
theorem slf_nil (w : World) (ao : Option Addr) (cp B : Nat) : SlF w (.slice ao 0 cp) [] B := ⟨ao, cp, rfl, fun h => absurd h (by simp)⟩
set_option maxHeartbeats 1000000 in
theorem implFo_bad (s : Sh) (hf : s.fit) (h1 : okI s = false) (e : ErrE) (w : World) (hE : Errs e w) : Calls Tryd.prog 25 #[.agg s.row] w fun o w' => o = .returned (.tuple #[.slice none 0 0, .int .i64 1]) ∧ Below w.heap.size w w' := by
  have HC := Go.Lib.hid fun w hE => checkSheet_bad s h1 e w hE
  have HK := Go.Lib.hid fun w hE => codeOf_1 e w hE
  have P : Hid ((w.alloc (.cells (vrow 266 s.at) 34)).heap[w.heap.size]? = some (.cells (vrow 266 s.at) 34)) := (heap_at _ _ _ (by simp))
  have hB : Hid (Below w.heap.size w (w.alloc (.cells (vrow 266 s.at) 34))) := Go.Lib.hid ((Below.refl w.heap.size w).alloc (by simp <;> omega) _)
  have E : Hid (Errs e (w.alloc (.cells (vrow 266 s.at) 34))) := Go.Lib.hid (hE.alloc _)
  go_enter Tryd.func25, Tryd.ntmps25
  go_wp2_with (first
    | go_skip
    | ((with_reducible refine wlAt 5 rfl ?_); refine wpList_ldm 34 (.tmp 1) rfl (by first | exact want_n rfl | exact want_g _ _ _ rfl rfl rfl) (w.heap.size) _ rfl 266 266 s.at _ rw_sheet size_sheet P.out (by omega) ?_; rw [sh_row])
    | (go_at_call 62; (refine (HC.out _ E.out).mono ?_); rintro o w1 ⟨rfl, hb⟩; replace P := Go.Lib.hid (row_next hb P.out); replace hB := Go.Lib.hid (below_next hB.out hb); replace E := Go.Lib.hid (E.out.next hb); clear hb)
    | (go_at_call 63; (refine (HK.out _ E.out).mono ?_); rintro o w1 ⟨rfl, hb⟩; replace P := Go.Lib.hid (row_next hb P.out); replace hB := Go.Lib.hid (below_next hB.out hb); replace E := Go.Lib.hid (E.out.next hb); clear hb))
  go_ret2
  exact ⟨rfl, hB.out⟩
set_option maxHeartbeats 1000000 in
theorem implFo_ok (s : Sh) (a c : Nat) (hf : s.fit) (h1 : okI s = true) (ea : s.wide = a) (ec : s.high = c) (ha : 1 ≤ a ∧ a ≤ 8) (hc : 1 ≤ c ∧ c ≤ 8) (e : ErrE) (w : World) (hE : Errs e w) : Calls Tryd.prog 25 #[.agg s.row] w fun o w' => ∃ v, o = .returned (.tuple #[v, .int .i64 0]) ∧ w'.ownsRow w.heap.size 38 3 v (folA a c).length (fvals (folA a c)) ∧ Below w.heap.size w w' := by
  have HC := Go.Lib.hid fun w hE => checkSheet_ok s h1 e w hE
  have HL := Go.Lib.hid fun w => folds_any s a c w ea ec ha hc
  generalize folA a c = L at *
  have P : Hid ((w.alloc (.cells (vrow 266 s.at) 34)).heap[w.heap.size]? = some (.cells (vrow 266 s.at) 34)) := (heap_at _ _ _ (by simp))
  have hB : Hid (Below w.heap.size w (w.alloc (.cells (vrow 266 s.at) 34))) := Go.Lib.hid ((Below.refl w.heap.size w).alloc (by simp <;> omega) _)
  have E : Hid (Errs e (w.alloc (.cells (vrow 266 s.at) 34))) := Go.Lib.hid (hE.alloc _)
  go_enter Tryd.func25, Tryd.ntmps25
  go_wp2_with (first
    | go_skip
    | ((with_reducible refine wlAt 5 rfl ?_); refine wpList_ldm 34 (.tmp 1) rfl (by first | exact want_n rfl | exact want_g _ _ _ rfl rfl rfl) (w.heap.size) _ rfl 266 266 s.at _ rw_sheet size_sheet P.out (by omega) ?_; rw [sh_row])
    | ((with_reducible refine wlAt 11 rfl ?_); refine wpList_ldm 34 (.tmp 1) rfl (by first | exact want_n rfl | exact want_g _ _ _ rfl rfl rfl) (w.heap.size) _ rfl 266 266 s.at _ rw_sheet size_sheet P.out (by omega) ?_; rw [sh_row])
    | (go_at_call 62; (refine (HC.out _ E.out).mono ?_); rintro o w1 ⟨rfl, hb⟩; replace P := Go.Lib.hid (row_next hb P.out); replace hB := Go.Lib.hid (below_next hB.out hb); replace E := Go.Lib.hid (E.out.next hb); clear hb)
    | (go_at_call 64; (refine (HL.out _).mono ?_); rintro o w3 ⟨v, rfl, hO, hb⟩; have hbs := hB.out.size; replace hB := Go.Lib.hid (below_next hB.out hb); clear hb))
  go_ret2
  exact ⟨v, rfl, own_mono (by omega) hO, hB.out⟩
set_option maxHeartbeats 1000000 in
theorem specFo_bad (s : Sh) (hf : s.fit) (h1 : okI s = false) (w : World) : Calls Tryd.prog 24 #[.agg s.row] w fun o w' => ∃ v, o = .returned (.tuple #[v, .int .i64 1]) ∧ SlF w' v [] w'.heap.size ∧ Below w.heap.size w w' := by
  have HO := Go.Lib.hid fun W h => ok_any s w.heap.size W h hf
  rw [← ok_eq s hf, h1] at HO
  have P : Hid ((w.alloc (.cells (vrow 266 s.at) 34)).heap[w.heap.size]? = some (.cells (vrow 266 s.at) 34)) := (heap_at _ _ _ (by simp))
  have hB : Hid (Below w.heap.size w (w.alloc (.cells (vrow 266 s.at) 34))) := Go.Lib.hid ((Below.refl w.heap.size w).alloc (by simp <;> omega) _)
  go_enter Tryd.func24, Tryd.ntmps24
  go_wp2_with (first
    | go_skip
    | (go_at_call 50; (refine (HO.out _ P.out).mono ?_); rintro o w1 ⟨rfl, hb⟩; replace P := Go.Lib.hid (row_next hb P.out); replace hB := Go.Lib.hid (below_next hB.out hb); clear hb))
  go_ret2
  exact ⟨_, rfl, slf_nil _ _ _ _, hB.out.alloc hB.out.size _⟩
set_option maxHeartbeats 1000000 in
theorem specFo_ok (s : Sh) (a c : Nat) (hf : s.fit) (h1 : okI s = true) (ea : s.wide = a) (ec : s.high = c) (ha : 1 ≤ a ∧ a ≤ 8) (hc : 1 ≤ c ∧ c ≤ 8) (w : World) : Calls Tryd.prog 24 #[.agg s.row] w fun o w' => ∃ v, o = .returned (.tuple #[v, .int .i64 0]) ∧ SlF w' v (folA a c) w'.heap.size ∧ Below w.heap.size w w' := by
  have HO := Go.Lib.hid fun W h => ok_any s w.heap.size W h hf
  rw [← ok_eq s hf, h1] at HO
  have HN := Go.Lib.hid fun W h => lfolds_any s w.heap.size a c W h ea ec ha hc
  generalize folA a c = L at *
  have P : Hid ((w.alloc (.cells (vrow 266 s.at) 34)).heap[w.heap.size]? = some (.cells (vrow 266 s.at) 34)) := (heap_at _ _ _ (by simp))
  have hB : Hid (Below w.heap.size w (w.alloc (.cells (vrow 266 s.at) 34))) := Go.Lib.hid ((Below.refl w.heap.size w).alloc (by simp <;> omega) _)
  go_enter Tryd.func24, Tryd.ntmps24
  go_wp2_with (first
    | go_skip
    | (go_at_call 50; (refine (HO.out _ P.out).mono ?_); rintro o w1 ⟨rfl, hb⟩; replace P := Go.Lib.hid (row_next hb P.out); replace hB := Go.Lib.hid (below_next hB.out hb); clear hb)
    | (go_at_call 61; (refine (HN.out _ P.out).mono ?_); rintro o w3 ⟨v, rfl, hO, hb⟩; replace hB := Go.Lib.hid (below_next hB.out hb); clear hb))
  go_ret2
  exact ⟨v, rfl, (own_pf hO).slp, hB.out⟩
end Go.Proofs.YtmcpaangofdmpaaDoor
