import Derived.Test.YtdagbddmgeoanaaDoorMxC
import Derived.Test.YtdagbddmgeoanaaDoorG1
namespace Go.Proofs.YtdagbddmgeoanaaDoor
open Go.RowKit
set_option maxRecDepth 100000
set_option linter.unusedVariables false
set_option linter.unusedSimpArgs false
theorem linM_any (n a b : Int) (w : World) : Calls Tryd.prog 8 #[.int .i64 n, .int .i64 a, .int .i64 b] w fun e w' => e = .returned (.bool (decide (a ≤ n) && decide (n ≤ b))) ∧ Below w.heap.size w w' := by
  by_cases h1 : a ≤ n
  · by_cases h2 : n ≤ b
    · have d1 : decide (a ≤ n) = true := by simpa using h1
      have d2 : decide (n ≤ b) = true := by simpa using h2
      rw [d1, d2]
      go_enter Tryd.func8, Tryd.ntmps8
      go_wp2
      go_ret
      exact ⟨rfl, Below.refl _ _⟩
    · have d1 : decide (a ≤ n) = true := by simpa using h1
      have d2 : decide (n ≤ b) = false := by simpa using h2
      rw [d1, d2]
      go_enter Tryd.func8, Tryd.ntmps8
      go_wp2
      go_ret
      exact ⟨rfl, Below.refl _ _⟩
  · have d1 : decide (a ≤ n) = false := by simpa using h1
    rw [d1]
    go_enter Tryd.func8, Tryd.ntmps8
    go_wp2
    go_ret
    exact ⟨rfl, Below.refl _ _⟩
theorem lmaxM_any (a b : Int) (w : World) : Calls Tryd.prog 13 #[.int .i64 a, .int .i64 b] w fun e w' => e = .returned (.int .i64 (max a b)) ∧ Below w.heap.size w w' := by
  by_cases h1 : b < a
  · have d1 : decide (b < a) = true := by simpa using h1
    rw [show max a b = a by omega]
    go_enter Tryd.func13, Tryd.ntmps13
    go_wp2
    go_ret
    exact ⟨rfl, Below.refl _ _⟩
  · have d1 : decide (b < a) = false := by simpa using h1
    rw [show max a b = b by omega]
    go_enter Tryd.func13, Tryd.ntmps13
    go_wp2
    go_ret
    exact ⟨rfl, Below.refl _ _⟩
theorem lsizeM_any (n : Int) (w : World) (h : -1000000 ≤ n ∧ n ≤ 1000000) : Calls Tryd.prog 9 #[.int .i64 n] w fun e w' => e = .returned (.int .i64 (max n (-n))) ∧ Below w.heap.size w w' := by
  have HM := Go.Lib.hid fun w => lmaxM_any n (-n) w
  have hq : IntKind.i64.wrap (-n) = -n := IntWalk.i64_in _ (by omega)
  generalize max n (-n) = z at *
  go_enter Tryd.func9, Tryd.ntmps9
  go_wp2_with (first
    | go_skip
    | (go_at_call 13; (refine (HM.out _).mono ?_); rintro o w1 ⟨rfl, hb⟩))
  go_ret
  exact ⟨rfl, hb⟩
def inR (x : Int) : Bool := decide (0 ≤ x) && decide (x ≤ 1000)
def fnM (v : Nat → Int) (P : Int) : Nat → Bool
  | 0 => decide (1 ≤ P) && decide (P ≤ 30)
  | k + 1 => fnM v P k && inR (v k)
def smM (v : Nat → Int) : Nat → Int
  | 0 => 0
  | k + 1 => if inR (v k) then smM v k + v k else smM v k
theorem smM_bd (v : Nat → Int) : ∀ k, 0 ≤ smM v k ∧ smM v k ≤ 1000 * k
  | 0 => by simp [smM]
  | k + 1 => by
    have h1 := smM_bd v k
    unfold smM inR
    split
    · rename_i h; simp only [Bool.and_eq_true, decide_eq_true_eq] at h; omega
    · omega
theorem fnM_iff (v : Nat → Int) (P : Int) : fnM v P 3 = true ↔ (1 ≤ P ∧ P ≤ 30) ∧ in3 v 1000 := by
  simp only [fnM, inR, Bool.and_eq_true, decide_eq_true_eq]
  constructor
  · intro h
    refine ⟨by omega, fun i hi => ?_⟩
    have : i = 0 ∨ i = 1 ∨ i = 2 := by omega
    rcases this with rfl | rfl | rfl <;> omega
  · intro h
    have h0 := h.2 0 (by omega); have h1 := h.2 1 (by omega); have h2 := h.2 2 (by omega)
    omega
theorem smM_sum {v : Nat → Int} (h : in3 v 1000) : smM v 3 = sumW v := by
  have h0 := h 0 (by omega); have h1 := h 1 (by omega); have h2 := h 2 (by omega)
  simp [smM, inR, sumW, h0, h1, h2]
def bsM (z : Bool) (P : Int) (s : Nat × Nat) : Nat → Int := if z then fun _ => 0 else mxM P s
def lsM (z : Bool) (v : Nat → Int) (P : Int) (s : Nat × Nat) : Int := if z then -1 else oM3 v P s
set_option maxHeartbeats 16000000 in
theorem specM_range (v : Nat → Int) (P : Int) (w : World) (hbad : fnM v P 3 = false) : Calls Tryd.prog 4 #[.agg (vrow 3 (i3 v)), .int .i64 P] w fun o w' => o = .returned (.tuple #[.agg (vrow 3 fun _ => .int .i64 0), .int .i64 0, .int .i64 2]) ∧ Below w.heap.size w w' := by
  have zz := zero_i3
  have HL := Go.Lib.hid fun (n a b : Int) w => linM_any n a b w
  have X : Hid (((w.alloc (.cells (vrow 3 (i3 v)) 22)).alloc (.cells (vrow 3 fun _ => .int .i64 0) 22)).heap[w.heap.size]? = some (.cells (vrow 3 (i3 v)) 22)) := (heap_past _ _ _ _ (by simp <;> omega) (heap_at _ _ _ (by simp)))
  have Z : Hid (((w.alloc (.cells (vrow 3 (i3 v)) 22)).alloc (.cells (vrow 3 fun _ => .int .i64 0) 22)).heap[w.heap.size + 1]? = some (.cells (vrow 3 fun _ => .int .i64 0) 22)) := (heap_at _ _ _ (by simp))
  have hB : Hid (Below w.heap.size w ((w.alloc (.cells (vrow 3 (i3 v)) 22)).alloc (.cells (vrow 3 fun _ => .int .i64 0) 22))) := Go.Lib.hid (((Below.refl w.heap.size w).alloc (by simp <;> omega) _).alloc (by simp <;> omega) _)
  have hf0 : (decide (1 ≤ P) && decide (P ≤ 30)) = fnM v P 0 := rfl
  have HF0 := Go.Lib.hid hf0
  clear hf0
  go_enter Tryd.func4, Tryd.ntmps4
  go_wp2_with (first
    | go_skip
    | (go_at_call 8; (refine (HL.out _ _ _ _).mono ?_); rintro o w1 ⟨rfl, hb⟩; rw [HF0.out]; replace X := Go.Lib.hid (row_next hb X.out); replace Z := Go.Lib.hid (row_next hb Z.out); replace hB := Go.Lib.hid (below_next hB.out hb); clear hb))
  have a1 := X.out; have a2 := Z.out; have a3 := hB.out
  clear X Z hB
  go_loopw [7, 8, 9] (fun fv sv iv wr => ∃ k : Nat, k ≤ 3 ∧ iv = .int .i64 k ∧ fv = .bool (fnM v P k) ∧ sv = .int .i64 (smM v k) ∧ wr.heap[w.heap.size]? = some (.cells (vrow 3 (i3 v)) 22) ∧ wr.heap[w.heap.size + 1]? = some (.cells (vrow 3 fun _ => .int .i64 0) 22) ∧ Below w.heap.size w wr) (fun _ _ iv _ => 3 - (intOf iv).toNat)
  case atStart => exact ⟨0, by omega, rfl, rfl, rfl, a1, a2, a3⟩
  case round =>
    clear a1 a2 a3
    obtain ⟨k, hk, rfl, rfl, rfl, X, Z, hB⟩ := hrel
    replace X := Go.Lib.hid X; replace Z := Go.Lib.hid Z; replace hB := Go.Lib.hid hB
    by_cases hlt : k < 3
    · have hkI : (k : Int) < 3 := by omega
      have hk0 : (0 : Int) ≤ (k : Int) := by omega
      have hkd : decide ((k : Int) < 3) = true := by simpa using hkI
      have hsb := smM_bd v k
      have hf1 : fnM v P (k + 1) = (fnM v P k && inR (v k)) := rfl
      have hs1 : smM v (k + 1) = if inR (v k) then smM v k + v k else smM v k := rfl
      have hir : (decide (0 ≤ v k) && decide (v k ≤ 1000)) = inR (v k) := rfl
      have HI := Go.Lib.hid hir
      have FK := Go.Lib.hid (i3_at v k)
      have hvb : inR (v k) = true → 0 ≤ v k ∧ v k ≤ 1000 := fun h => by simpa [inR] using h
      clear hir
      cases hin : inR (v k)
      · rw [hin] at hf1 hs1 HI
        have Hf1 := Go.Lib.hid hf1; have Hs1 := Go.Lib.hid hs1
        clear hf1 hs1 hvb hin
        generalize fnM v P k = fk at *
        generalize smM v k = sk at *
        generalize v k = vk at *
        go_wp2_with (first
          | go_skip
          | ((with_reducible refine wlAt 24 rfl ?_); refine wpList_ld1 2 _ rfl (by first | exact want_n rfl | exact want_g _ _ _ rfl rfl rfl) w.heap.size _ rfl 3 (i3 v) _ rw_i64M X.out (by omega) ?_; simp only [Nat.zero_add, Nat.mul_one]; rw [FK.out])
          | (go_at_call 8; (refine (HL.out _ _ _ _).mono ?_); rintro o w1 ⟨rfl, hb⟩; rw [HI.out]; replace X := Go.Lib.hid (row_next hb X.out); replace Z := Go.Lib.hid (row_next hb Z.out); replace hB := Go.Lib.hid (below_next hB.out hb); clear hb))
        go_roundw
        case rel => exact ⟨k + 1, by omega, by go_num, by rw [Hf1.out]; simp, by rw [Hs1.out]; rfl, X.out, Z.out, hB.out⟩
        case measure => simp [intOf]; omega
      · have hvb2 := hvb hin
        rw [hin] at hf1 hs1 HI
        have hw1 : IntKind.i64.wrap (smM v k + v k) = smM v k + v k := IntWalk.i64_in _ (by omega)
        have Hf1 := Go.Lib.hid hf1; have Hs1 := Go.Lib.hid hs1
        clear hf1 hs1 hvb hin
        generalize fnM v P k = fk at *
        generalize smM v k = sk at *
        generalize v k = vk at *
        go_wp2_with (first
          | go_skip
          | ((with_reducible refine wlAt 24 rfl ?_); refine wpList_ld1 2 _ rfl (by first | exact want_n rfl | exact want_g _ _ _ rfl rfl rfl) w.heap.size _ rfl 3 (i3 v) _ rw_i64M X.out (by omega) ?_; simp only [Nat.zero_add, Nat.mul_one]; rw [FK.out])
          | ((with_reducible refine wlAt 30 rfl ?_); refine wpList_ld1 2 _ rfl (by first | exact want_n rfl | exact want_g _ _ _ rfl rfl rfl) w.heap.size _ rfl 3 (i3 v) _ rw_i64M X.out (by omega) ?_; simp only [Nat.zero_add, Nat.mul_one]; rw [FK.out])
          | (go_at_call 8; (refine (HL.out _ _ _ _).mono ?_); rintro o w1 ⟨rfl, hb⟩; rw [HI.out]; replace X := Go.Lib.hid (row_next hb X.out); replace Z := Go.Lib.hid (row_next hb Z.out); replace hB := Go.Lib.hid (below_next hB.out hb); clear hb))
        go_roundw
        case rel => exact ⟨k + 1, by omega, by go_num, by rw [Hf1.out]; simp, by rw [Hs1.out]; rfl, X.out, Z.out, hB.out⟩
        case measure => simp [intOf]; omega
    · obtain rfl : k = 3 := by omega
      have hkd : decide (((3 : Nat) : Int) < 3) = false := by simp
      rw [hbad]
      go_wp2_with (first
        | go_skip
        | ((with_reducible refine wlAt 34 rfl ?_); refine wpList_built rfl 22 [] rfl [] (by rfl) _ built_zi3 ?_)
        | ((with_reducible refine wlOp (.store 22 (.tmp 4) (.tmp 34)) rfl ?_); refine wpList_storeall rfl 22 (.tmp 4) (.tmp 34) rfl (w.heap.size + 1) rfl 3 (fun _ => .int .i64 0) (fun _ => .int .i64 0) rfl 22 size_i3 Z.out (fun i _ => rfl) ?_; replace Z := Go.Lib.hid (row_set Z.out (vrow 3 fun _ => .int .i64 0)); replace hB := Go.Lib.hid (Below_setRow hB.out (show w.heap.size ≤ w.heap.size + 1 by omega) (vrow 3 fun _ => .int .i64 0))))
      exact ret_row3 Tryd.results4 (w.heap.size + 1) 3 (fun _ => .int .i64 0) 22 _ Tryd.underlying22 rfl size_i3 _ _ rfl rfl rfl rfl Z.out ⟨rfl, hB.out⟩
set_option maxHeartbeats 16000000 in
theorem specM_state (v : Nat → Int) (P : Int) (w : World) (hbad : fnM v P 3 = true) (hz : smM v 3 = 0) : Calls Tryd.prog 4 #[.agg (vrow 3 (i3 v)), .int .i64 P] w fun o w' => o = .returned (.tuple #[.agg (vrow 3 fun _ => .int .i64 0), .int .i64 0, .int .i64 4]) ∧ Below w.heap.size w w' := by
  have zz := zero_i3
  have HL := Go.Lib.hid fun (n a b : Int) w => linM_any n a b w
  have X : Hid (((w.alloc (.cells (vrow 3 (i3 v)) 22)).alloc (.cells (vrow 3 fun _ => .int .i64 0) 22)).heap[w.heap.size]? = some (.cells (vrow 3 (i3 v)) 22)) := (heap_past _ _ _ _ (by simp <;> omega) (heap_at _ _ _ (by simp)))
  have Z : Hid (((w.alloc (.cells (vrow 3 (i3 v)) 22)).alloc (.cells (vrow 3 fun _ => .int .i64 0) 22)).heap[w.heap.size + 1]? = some (.cells (vrow 3 fun _ => .int .i64 0) 22)) := (heap_at _ _ _ (by simp))
  have hB : Hid (Below w.heap.size w ((w.alloc (.cells (vrow 3 (i3 v)) 22)).alloc (.cells (vrow 3 fun _ => .int .i64 0) 22))) := Go.Lib.hid (((Below.refl w.heap.size w).alloc (by simp <;> omega) _).alloc (by simp <;> omega) _)
  have hf0 : (decide (1 ≤ P) && decide (P ≤ 30)) = fnM v P 0 := rfl
  have HF0 := Go.Lib.hid hf0
  clear hf0
  go_enter Tryd.func4, Tryd.ntmps4
  go_wp2_with (first
    | go_skip
    | (go_at_call 8; (refine (HL.out _ _ _ _).mono ?_); rintro o w1 ⟨rfl, hb⟩; rw [HF0.out]; replace X := Go.Lib.hid (row_next hb X.out); replace Z := Go.Lib.hid (row_next hb Z.out); replace hB := Go.Lib.hid (below_next hB.out hb); clear hb))
  have a1 := X.out; have a2 := Z.out; have a3 := hB.out
  clear X Z hB
  go_loopw [7, 8, 9] (fun fv sv iv wr => ∃ k : Nat, k ≤ 3 ∧ iv = .int .i64 k ∧ fv = .bool (fnM v P k) ∧ sv = .int .i64 (smM v k) ∧ wr.heap[w.heap.size]? = some (.cells (vrow 3 (i3 v)) 22) ∧ wr.heap[w.heap.size + 1]? = some (.cells (vrow 3 fun _ => .int .i64 0) 22) ∧ Below w.heap.size w wr) (fun _ _ iv _ => 3 - (intOf iv).toNat)
  case atStart => exact ⟨0, by omega, rfl, rfl, rfl, a1, a2, a3⟩
  case round =>
    clear a1 a2 a3
    obtain ⟨k, hk, rfl, rfl, rfl, X, Z, hB⟩ := hrel
    replace X := Go.Lib.hid X; replace Z := Go.Lib.hid Z; replace hB := Go.Lib.hid hB
    by_cases hlt : k < 3
    · have hkI : (k : Int) < 3 := by omega
      have hk0 : (0 : Int) ≤ (k : Int) := by omega
      have hkd : decide ((k : Int) < 3) = true := by simpa using hkI
      have hsb := smM_bd v k
      have hf1 : fnM v P (k + 1) = (fnM v P k && inR (v k)) := rfl
      have hs1 : smM v (k + 1) = if inR (v k) then smM v k + v k else smM v k := rfl
      have hir : (decide (0 ≤ v k) && decide (v k ≤ 1000)) = inR (v k) := rfl
      have HI := Go.Lib.hid hir
      have FK := Go.Lib.hid (i3_at v k)
      have hvb : inR (v k) = true → 0 ≤ v k ∧ v k ≤ 1000 := fun h => by simpa [inR] using h
      clear hir
      cases hin : inR (v k)
      · rw [hin] at hf1 hs1 HI
        have Hf1 := Go.Lib.hid hf1; have Hs1 := Go.Lib.hid hs1
        clear hf1 hs1 hvb hin
        generalize fnM v P k = fk at *
        generalize smM v k = sk at *
        generalize v k = vk at *
        go_wp2_with (first
          | go_skip
          | ((with_reducible refine wlAt 24 rfl ?_); refine wpList_ld1 2 _ rfl (by first | exact want_n rfl | exact want_g _ _ _ rfl rfl rfl) w.heap.size _ rfl 3 (i3 v) _ rw_i64M X.out (by omega) ?_; simp only [Nat.zero_add, Nat.mul_one]; rw [FK.out])
          | (go_at_call 8; (refine (HL.out _ _ _ _).mono ?_); rintro o w1 ⟨rfl, hb⟩; rw [HI.out]; replace X := Go.Lib.hid (row_next hb X.out); replace Z := Go.Lib.hid (row_next hb Z.out); replace hB := Go.Lib.hid (below_next hB.out hb); clear hb))
        go_roundw
        case rel => exact ⟨k + 1, by omega, by go_num, by rw [Hf1.out]; simp, by rw [Hs1.out]; rfl, X.out, Z.out, hB.out⟩
        case measure => simp [intOf]; omega
      · have hvb2 := hvb hin
        rw [hin] at hf1 hs1 HI
        have hw1 : IntKind.i64.wrap (smM v k + v k) = smM v k + v k := IntWalk.i64_in _ (by omega)
        have Hf1 := Go.Lib.hid hf1; have Hs1 := Go.Lib.hid hs1
        clear hf1 hs1 hvb hin
        generalize fnM v P k = fk at *
        generalize smM v k = sk at *
        generalize v k = vk at *
        go_wp2_with (first
          | go_skip
          | ((with_reducible refine wlAt 24 rfl ?_); refine wpList_ld1 2 _ rfl (by first | exact want_n rfl | exact want_g _ _ _ rfl rfl rfl) w.heap.size _ rfl 3 (i3 v) _ rw_i64M X.out (by omega) ?_; simp only [Nat.zero_add, Nat.mul_one]; rw [FK.out])
          | ((with_reducible refine wlAt 30 rfl ?_); refine wpList_ld1 2 _ rfl (by first | exact want_n rfl | exact want_g _ _ _ rfl rfl rfl) w.heap.size _ rfl 3 (i3 v) _ rw_i64M X.out (by omega) ?_; simp only [Nat.zero_add, Nat.mul_one]; rw [FK.out])
          | (go_at_call 8; (refine (HL.out _ _ _ _).mono ?_); rintro o w1 ⟨rfl, hb⟩; rw [HI.out]; replace X := Go.Lib.hid (row_next hb X.out); replace Z := Go.Lib.hid (row_next hb Z.out); replace hB := Go.Lib.hid (below_next hB.out hb); clear hb))
        go_roundw
        case rel => exact ⟨k + 1, by omega, by go_num, by rw [Hf1.out]; simp, by rw [Hs1.out]; rfl, X.out, Z.out, hB.out⟩
        case measure => simp [intOf]; omega
    · obtain rfl : k = 3 := by omega
      have hkd : decide (((3 : Nat) : Int) < 3) = false := by simp
      rw [hbad, hz]
      go_wp2_with (first
        | go_skip
        | ((with_reducible refine wlAt 37 rfl ?_); refine wpList_built rfl 22 [] rfl [] (by rfl) _ built_zi3 ?_)
        | ((with_reducible refine wlOp (.store 22 (.tmp 4) (.tmp 37)) rfl ?_); refine wpList_storeall rfl 22 (.tmp 4) (.tmp 37) rfl (w.heap.size + 1) rfl 3 (fun _ => .int .i64 0) (fun _ => .int .i64 0) rfl 22 size_i3 Z.out (fun i _ => rfl) ?_; replace Z := Go.Lib.hid (row_set Z.out (vrow 3 fun _ => .int .i64 0)); replace hB := Go.Lib.hid (Below_setRow hB.out (show w.heap.size ≤ w.heap.size + 1 by omega) (vrow 3 fun _ => .int .i64 0))))
      exact ret_row3 Tryd.results4 (w.heap.size + 1) 3 (fun _ => .int .i64 0) 22 _ Tryd.underlying22 rfl size_i3 _ _ rfl rfl rfl rfl Z.out ⟨rfl, hB.out⟩
set_option maxHeartbeats 16000000 in
theorem specM_ok (v : Nat → Int) (P : Int) (w : World) (n : Nat) (hbad : fnM v P 3 = true) (hnz : smM v 3 ≠ 0) (hPa : P ≤ n) (hPb : (n : Int) ≤ P) : Calls Tryd.prog 4 #[.agg (vrow 3 (i3 v)), .int .i64 P] w fun o w' => o = .returned (.tuple #[.agg (vrow 3 (i3 (mxM P (outM v P n (n + 1))))), .int .i64 (oM3 v P (outM v P n (n + 1))), .int .i64 0]) ∧ Below w.heap.size w w' := by
  have zz := zero_i3
  have HL := Go.Lib.hid fun (n a b : Int) w => linM_any n a b w
  have X : Hid (((w.alloc (.cells (vrow 3 (i3 v)) 22)).alloc (.cells (vrow 3 fun _ => .int .i64 0) 22)).heap[w.heap.size]? = some (.cells (vrow 3 (i3 v)) 22)) := (heap_past _ _ _ _ (by simp <;> omega) (heap_at _ _ _ (by simp)))
  have Z : Hid (((w.alloc (.cells (vrow 3 (i3 v)) 22)).alloc (.cells (vrow 3 fun _ => .int .i64 0) 22)).heap[w.heap.size + 1]? = some (.cells (vrow 3 fun _ => .int .i64 0) 22)) := (heap_at _ _ _ (by simp))
  have hB : Hid (Below w.heap.size w ((w.alloc (.cells (vrow 3 (i3 v)) 22)).alloc (.cells (vrow 3 fun _ => .int .i64 0) 22))) := Go.Lib.hid (((Below.refl w.heap.size w).alloc (by simp <;> omega) _).alloc (by simp <;> omega) _)
  have hf0 : (decide (1 ≤ P) && decide (P ≤ 30)) = fnM v P 0 := rfl
  have HF0 := Go.Lib.hid hf0
  clear hf0
  go_enter Tryd.func4, Tryd.ntmps4
  go_wp2_with (first
    | go_skip
    | (go_at_call 8; (refine (HL.out _ _ _ _).mono ?_); rintro o w1 ⟨rfl, hb⟩; rw [HF0.out]; replace X := Go.Lib.hid (row_next hb X.out); replace Z := Go.Lib.hid (row_next hb Z.out); replace hB := Go.Lib.hid (below_next hB.out hb); clear hb))
  have a1 := X.out; have a2 := Z.out; have a3 := hB.out
  clear X Z hB
  go_loopw [7, 8, 9] (fun fv sv iv wr => ∃ k : Nat, k ≤ 3 ∧ iv = .int .i64 k ∧ fv = .bool (fnM v P k) ∧ sv = .int .i64 (smM v k) ∧ wr.heap[w.heap.size]? = some (.cells (vrow 3 (i3 v)) 22) ∧ wr.heap[w.heap.size + 1]? = some (.cells (vrow 3 fun _ => .int .i64 0) 22) ∧ Below w.heap.size w wr) (fun _ _ iv _ => 3 - (intOf iv).toNat)
  case atStart => exact ⟨0, by omega, rfl, rfl, rfl, a1, a2, a3⟩
  case round =>
    clear a1 a2 a3
    obtain ⟨k, hk, rfl, rfl, rfl, X, Z, hB⟩ := hrel
    replace X := Go.Lib.hid X; replace Z := Go.Lib.hid Z; replace hB := Go.Lib.hid hB
    by_cases hlt : k < 3
    · have hkI : (k : Int) < 3 := by omega
      have hk0 : (0 : Int) ≤ (k : Int) := by omega
      have hkd : decide ((k : Int) < 3) = true := by simpa using hkI
      have hsb := smM_bd v k
      have hf1 : fnM v P (k + 1) = (fnM v P k && inR (v k)) := rfl
      have hs1 : smM v (k + 1) = if inR (v k) then smM v k + v k else smM v k := rfl
      have hir : (decide (0 ≤ v k) && decide (v k ≤ 1000)) = inR (v k) := rfl
      have HI := Go.Lib.hid hir
      have FK := Go.Lib.hid (i3_at v k)
      have hvb : inR (v k) = true → 0 ≤ v k ∧ v k ≤ 1000 := fun h => by simpa [inR] using h
      clear hir
      cases hin : inR (v k)
      · rw [hin] at hf1 hs1 HI
        have Hf1 := Go.Lib.hid hf1; have Hs1 := Go.Lib.hid hs1
        clear hf1 hs1 hvb hin
        generalize fnM v P k = fk at *
        generalize smM v k = sk at *
        generalize v k = vk at *
        go_wp2_with (first
          | go_skip
          | ((with_reducible refine wlAt 24 rfl ?_); refine wpList_ld1 2 _ rfl (by first | exact want_n rfl | exact want_g _ _ _ rfl rfl rfl) w.heap.size _ rfl 3 (i3 v) _ rw_i64M X.out (by omega) ?_; simp only [Nat.zero_add, Nat.mul_one]; rw [FK.out])
          | (go_at_call 8; (refine (HL.out _ _ _ _).mono ?_); rintro o w1 ⟨rfl, hb⟩; rw [HI.out]; replace X := Go.Lib.hid (row_next hb X.out); replace Z := Go.Lib.hid (row_next hb Z.out); replace hB := Go.Lib.hid (below_next hB.out hb); clear hb))
        go_roundw
        case rel => exact ⟨k + 1, by omega, by go_num, by rw [Hf1.out]; simp, by rw [Hs1.out]; rfl, X.out, Z.out, hB.out⟩
        case measure => simp [intOf]; omega
      · have hvb2 := hvb hin
        rw [hin] at hf1 hs1 HI
        have hw1 : IntKind.i64.wrap (smM v k + v k) = smM v k + v k := IntWalk.i64_in _ (by omega)
        have Hf1 := Go.Lib.hid hf1; have Hs1 := Go.Lib.hid hs1
        clear hf1 hs1 hvb hin
        generalize fnM v P k = fk at *
        generalize smM v k = sk at *
        generalize v k = vk at *
        go_wp2_with (first
          | go_skip
          | ((with_reducible refine wlAt 24 rfl ?_); refine wpList_ld1 2 _ rfl (by first | exact want_n rfl | exact want_g _ _ _ rfl rfl rfl) w.heap.size _ rfl 3 (i3 v) _ rw_i64M X.out (by omega) ?_; simp only [Nat.zero_add, Nat.mul_one]; rw [FK.out])
          | ((with_reducible refine wlAt 30 rfl ?_); refine wpList_ld1 2 _ rfl (by first | exact want_n rfl | exact want_g _ _ _ rfl rfl rfl) w.heap.size _ rfl 3 (i3 v) _ rw_i64M X.out (by omega) ?_; simp only [Nat.zero_add, Nat.mul_one]; rw [FK.out])
          | (go_at_call 8; (refine (HL.out _ _ _ _).mono ?_); rintro o w1 ⟨rfl, hb⟩; rw [HI.out]; replace X := Go.Lib.hid (row_next hb X.out); replace Z := Go.Lib.hid (row_next hb Z.out); replace hB := Go.Lib.hid (below_next hB.out hb); clear hb))
        go_roundw
        case rel => exact ⟨k + 1, by omega, by go_num, by rw [Hf1.out]; simp, by rw [Hs1.out]; rfl, X.out, Z.out, hB.out⟩
        case measure => simp [intOf]; omega
    · obtain rfl : k = 3 := by omega
      have hkd : decide (((3 : Nat) : Int) < 3) = false := by simp
      obtain ⟨⟨hP1, hP2⟩, hv⟩ := (fnM_iff v P).1 hbad
      have hnz2 : (smM v 3 == 0) = false := by simpa using hnz
      rw [hbad]
      rw [smM_sum hv] at hnz2 ⊢
      have hSb := sumW_bd hv
      clear hnz
      go_wp2_with (first
        | go_skip
        | ((with_reducible refine wlAt 38 rfl ?_); refine wpList_built rfl 22 [] rfl [] (by rfl) _ built_zi3 ?_)
        | ((with_reducible refine wlOp (.store 22 (.tmp 10) (.tmp 38)) rfl ?_); refine wpList_storeall rfl 22 (.tmp 10) (.tmp 38) rfl _ rfl 3 (fun _ => .int .i64 0) (i3 (bsM true P (0, 0))) rfl 22 size_i3 (heap_at _ _ _ rfl) (fun i _ => i3_one _ i) ?_; rw [setRow_at _ _ _ _ _ rfl]; have V := Go.Lib.hid (heap_at wr (.cells (vrow 3 (i3 (bsM true P (0, 0)))) 22) _ rfl); replace X := Go.Lib.hid (heap_past wr (.cells (vrow 3 (i3 (bsM true P (0, 0)))) 22) _ _ (row_lt X.out) X.out); have qz := row_lt Z.out; replace Z := Go.Lib.hid (heap_past wr (.cells (vrow 3 (i3 (bsM true P (0, 0)))) 22) _ _ qz Z.out); replace hB := Go.Lib.hid (hB.out.alloc hB.out.size (.cells (vrow 3 (i3 (bsM true P (0, 0)))) 22)); obtain ⟨bb, hbb⟩ : ∃ z, wr.heap.size = z := ⟨_, rfl⟩; rw [hbb] at V qz ⊢; generalize World.alloc wr _ = W3 at X Z V hB ⊢; clear hbb))
      have a1 := X.out; have a2 := Z.out; have a3 := V.out; have a4 := hB.out
      clear X Z V hB
      go_loopw [11, 12] (fun lv iv wq => ∃ k : Nat, k ≤ n + 1 ∧ iv = .int .i64 k ∧ lv = .int .i64 (lsM (k == 0) v P (outM v P n k)) ∧ wq.heap[w.heap.size]? = some (.cells (vrow 3 (i3 v)) 22) ∧ wq.heap[w.heap.size + 1]? = some (.cells (vrow 3 fun _ => .int .i64 0) 22) ∧ wq.heap[bb]? = some (.cells (vrow 3 (i3 (bsM (k == 0) P (outM v P n k)))) 22) ∧ Below w.heap.size w wq) (fun _ iv _ => n + 1 - (intOf iv).toNat)
      case atStart => exact ⟨0, by omega, rfl, rfl, a1, a2, a3, a4⟩
      case round =>
        clear a1 a2 a3 a4
        obtain ⟨k, hk, rfl, rfl, X, Z, V, hB⟩ := hrel
        replace X := Go.Lib.hid X; replace Z := Go.Lib.hid Z; replace V := Go.Lib.hid V; replace hB := Go.Lib.hid hB
        by_cases hlt : k < n + 1
        · have hkd : decide ((k : Int) ≤ P) = true := by simp; omega
          have hob := outM_bd (v := v) (P := P) (n := n) k (by omega)
          have hst := Go.Lib.hid (show outM v P n (k + 1) = innM v P k (n - k + 1) (outM v P n k) from rfl)
          have hs00 : k = 0 → outM v P n k = (0, 0) := fun h => by subst h; rfl
          generalize outM v P n k = s0 at *
          go_wp2
          have a1 := X.out; have a2 := Z.out; have a3 := V.out; have a4 := hB.out
          clear X Z V hB
          go_loopw [11, 13] (fun lv iv wq => ∃ j : Nat, j ≤ n - k + 1 ∧ iv = .int .i64 j ∧ lv = .int .i64 (lsM (k == 0 && j == 0) v P (innM v P k j s0)) ∧ wq.heap[w.heap.size]? = some (.cells (vrow 3 (i3 v)) 22) ∧ wq.heap[w.heap.size + 1]? = some (.cells (vrow 3 fun _ => .int .i64 0) 22) ∧ wq.heap[bb]? = some (.cells (vrow 3 (i3 (bsM (k == 0 && j == 0) P (innM v P k j s0)))) 22) ∧ Below w.heap.size w wq) (fun _ iv _ => n - k + 1 - (intOf iv).toNat)
          case atStart => exact ⟨0, by omega, rfl, by simp [innM], a1, a2, by simpa [innM] using a3, a4⟩
          case round =>
            clear a1 a2 a3 a4
            obtain ⟨j, hj, rfl, rfl, X, Z, V, hB⟩ := hrel
            replace X := Go.Lib.hid X; replace Z := Go.Lib.hid Z; replace V := Go.Lib.hid V; replace hB := Go.Lib.hid hB
            have hq0 : IntKind.i64.wrap ((k : Int) + j) = (k : Int) + j := IntWalk.i64_in _ (by omega)
            by_cases hltj : j < n - k + 1
            · have hkd2 : decide ((k : Int) + j ≤ P) = true := by simp; omega
              have hib := innM_bd (v := v) (P := P) (n := n) (a := k) (by omega) j s0 hob (by omega)
              have hst2 := Go.Lib.hid (show innM v P k (j + 1) s0 = kpM v P (innM v P k j s0) (k, j) from rfl)
              have hs1 : k = 0 → j = 0 → innM v P k j s0 = (k, j) := fun h h2 => by subst h2; rw [h]; exact hs00 h
              have hmi := mx_in (show P = n by omega) (by omega) (q := (k, j)) (by show k + j ≤ n; omega)
              have hP : 1 ≤ P ∧ P ≤ 30 := ⟨hP1, hP2⟩
              have hmi1 := mx_in (show P = n by omega) (by omega) hib
              have hob1 : 0 ≤ oM3 v P (innM v P k j s0) := (offK_bd hv hmi1 hP 3 (by omega)).1
              generalize innM v P k j s0 = s1 at *
              have hz1 : ((k + 1) == 0) = false := by simp
              obtain ⟨S, hS⟩ : ∃ z, sumW v = z := ⟨_, rfl⟩
              obtain ⟨x0, e0⟩ : ∃ z, v 0 = z := ⟨_, rfl⟩
              obtain ⟨x1, e1⟩ : ∃ z, v 1 = z := ⟨_, rfl⟩
              obtain ⟨x2, e2⟩ : ∃ z, v 2 = z := ⟨_, rfl⟩
              have b0 : (0 ≤ (k : Int) * S ∧ (k : Int) * S ≤ 90000) ∧ (0 ≤ x0 * P ∧ x0 * P ≤ 30000) := by rw [← hS, ← e0]; exact trm_bd hv hmi hP (k := 0) (by omega)
              have b1 : (0 ≤ (j : Int) * S ∧ (j : Int) * S ≤ 90000) ∧ (0 ≤ x1 * P ∧ x1 * P ≤ 30000) := by rw [← hS, ← e1]; exact trm_bd hv hmi hP (k := 1) (by omega)
              have b2 : (0 ≤ (P - k - j) * S ∧ (P - k - j) * S ≤ 90000) ∧ (0 ≤ x2 * P ∧ x2 * P ≤ 30000) := by rw [← hS, ← e2]; exact trm_bd hv hmi hP (k := 2) (by omega)
              have hof : oM3 v P (k, j) = 0 + max ((k : Int) * S - x0 * P) (-((k : Int) * S - x0 * P)) + max ((j : Int) * S - x1 * P) (-((j : Int) * S - x1 * P)) + max ((P - k - j) * S - x2 * P) (-((P - k - j) * S - x2 * P)) := by rw [← hS, ← e0, ← e1, ← e2]; rfl
              have F0 := Go.Lib.hid (show i3 v 0 = .int .i64 x0 by rw [i3_at, e0]); have F1 := Go.Lib.hid (show i3 v 1 = .int .i64 x1 by rw [i3_at, e1]); have F2 := Go.Lib.hid (show i3 v 2 = .int .i64 x2 by rw [i3_at, e2])
              have q1 : IntKind.i64.wrap ((k : Int) * S) = (k : Int) * S := IntWalk.i64_in _ (by omega)
              have q2 : IntKind.i64.wrap (x0 * P) = x0 * P := IntWalk.i64_in _ (by omega)
              have q3 : IntKind.i64.wrap ((j : Int) * S) = (j : Int) * S := IntWalk.i64_in _ (by omega)
              have q4 : IntKind.i64.wrap (x1 * P) = x1 * P := IntWalk.i64_in _ (by omega)
              have q5 : IntKind.i64.wrap ((P - k - j) * S) = (P - k - j) * S := IntWalk.i64_in _ (by omega)
              have q6 : IntKind.i64.wrap (x2 * P) = x2 * P := IntWalk.i64_in _ (by omega)
              have q7 : IntKind.i64.wrap (P - k) = P - k := IntWalk.i64_in _ (by omega)
              have q8 : IntKind.i64.wrap (P - k - j) = P - k - j := IntWalk.i64_in _ (by omega)
              have t0 : IntKind.i64.wrap ((k : Int) * S - x0 * P) = (k : Int) * S - x0 * P := IntWalk.i64_in _ (by omega)
              have t1 : IntKind.i64.wrap ((j : Int) * S - x1 * P) = (j : Int) * S - x1 * P := IntWalk.i64_in _ (by omega)
              have t2 : IntKind.i64.wrap ((P - k - j) * S - x2 * P) = (P - k - j) * S - x2 * P := IntWalk.i64_in _ (by omega)
              have H0 := Go.Lib.hid fun w => lsizeM_any ((k : Int) * S - x0 * P) w (by omega)
              have H1 := Go.Lib.hid fun w => lsizeM_any ((j : Int) * S - x1 * P) w (by omega)
              have H2 := Go.Lib.hid fun w => lsizeM_any ((P - k - j) * S - x2 * P) w (by omega)
              have m0 : 0 ≤ max ((k : Int) * S - x0 * P) (-((k : Int) * S - x0 * P)) ∧ max ((k : Int) * S - x0 * P) (-((k : Int) * S - x0 * P)) ≤ 90000 := by omega
              have m1 : 0 ≤ max ((j : Int) * S - x1 * P) (-((j : Int) * S - x1 * P)) ∧ max ((j : Int) * S - x1 * P) (-((j : Int) * S - x1 * P)) ≤ 90000 := by omega
              have m2 : 0 ≤ max ((P - k - j) * S - x2 * P) (-((P - k - j) * S - x2 * P)) ∧ max ((P - k - j) * S - x2 * P) (-((P - k - j) * S - x2 * P)) ≤ 90000 := by omega
              rw [hS]
              clear hS e0 e1 e2 b0 b1 b2
              generalize max ((k : Int) * S - x0 * P) (-((k : Int) * S - x0 * P)) = g0 at *
              generalize max ((j : Int) * S - x1 * P) (-((j : Int) * S - x1 * P)) = g1 at *
              generalize max ((P - k - j) * S - x2 * P) (-((P - k - j) * S - x2 * P)) = g2 at *
              have u1 : IntKind.i64.wrap (g0 + g1) = g0 + g1 := IntWalk.i64_in _ (by omega)
              have u2 : IntKind.i64.wrap (g0 + g1 + g2) = oM3 v P (k, j) := by rw [hof, IntWalk.i64_in _ (by omega)]; omega
              have hmd := Go.Lib.hid (show tri (k : Int) (j : Int) (P - k - j) = mxM P (k, j) from rfl)
              clear hof
              have hz3 : (k == 0 && (j + 1) == 0) = false := by simp
              by_cases hkj : k = 0 ∧ j = 0
              · have hzz : (k == 0 && j == 0) = true := by simp [hkj.1, hkj.2]
                have e9 : kpM v P s1 (k, j) = (k, j) := by rw [hs1 hkj.1 hkj.2]; unfold kpM; split <;> rfl
                rw [hzz] at V
                rw [hzz]
                have eL : lsM true v P s1 = -1 := rfl
                rw [eL]
                clear hkj hzz eL hs1 hs00
                go_wp2
                refine region_at (by kernel_rfl) (by kernel_rfl) ?_
                intro W hW
                rw [hW] at hB X Z V
                clear hW
                have X' := Go.Lib.hid (cls_row' X.out)
                (repeat (first
                  | go_big_quiet_skip
                  | (refine wpQuiet_load1 2 _ rfl (by first | exact want_n rfl | exact want_g _ _ _ rfl rfl rfl) w.heap.size 0 rfl 3 (i3 v) _ rw_i64M X'.out (by omega) ?_; rw [F0.out]; simp only [Act.put, List.setIfInBounds_toArray, List.set_cons_succ, List.set_cons_zero])
                  | (refine wpQuiet_load1 2 _ rfl (by first | exact want_n rfl | exact want_g _ _ _ rfl rfl rfl) w.heap.size 1 rfl 3 (i3 v) _ rw_i64M X'.out (by omega) ?_; rw [F1.out]; simp only [Act.put, List.setIfInBounds_toArray, List.set_cons_succ, List.set_cons_zero])
                  | (refine wpQuiet_load1 2 _ rfl (by first | exact want_n rfl | exact want_g _ _ _ rfl rfl rfl) w.heap.size 2 rfl 3 (i3 v) _ rw_i64M X'.out (by omega) ?_; rw [F2.out]; simp only [Act.put, List.setIfInBounds_toArray, List.set_cons_succ, List.set_cons_zero])
                  | go_big_quiet_step ((go_at_call 9; first | exact cls_call _ (fun w hw => H0.out w) | exact cls_call _ (fun w hw => H1.out w) | exact cls_call _ (fun w hw => H2.out w)))))
                refine wpQuiet_nil ?_
                intro W2 hb
                replace X := Go.Lib.hid (row_next hb X.out); replace Z := Go.Lib.hid (row_next hb Z.out); replace V := Go.Lib.hid (row_next hb V.out); replace hB := Go.Lib.hid (below_next hB.out hb)
                clear hb X'
                go_wp2_with (first
                  | go_skip
                  | ((with_reducible refine wlAt 95 rfl ?_); refine wpList_built rfl 22 [(0, .tmp 92), (1, .tmp 93), (2, .tmp 94)] rfl [(0, .int .i64 k), (1, .int .i64 j), (2, .int .i64 (P - k - j))] (by rfl) _ (built_tri k j (P - k - j)) ?_; rw [hmd.out])
                  | ((with_reducible refine wlOp (.store 22 (.tmp 10) (.tmp 95)) rfl ?_); refine wpList_storeall rfl 22 (.tmp 10) (.tmp 95) rfl bb rfl 3 (i3 (bsM true P s1)) (i3 (mxM P (k, j))) rfl 22 size_i3 V.out (fun i _ => i3_one _ i) ?_; replace V := Go.Lib.hid (row_set V.out (vrow 3 (i3 (mxM P (k, j))))); replace X := Go.Lib.hid (row_set' (g := bb) (by omega) X.out (vrow 3 (i3 (mxM P (k, j))))); replace Z := Go.Lib.hid (row_set' (g := bb) (by omega) Z.out (vrow 3 (i3 (mxM P (k, j))))); replace hB := Go.Lib.hid (Below_setRow hB.out (show w.heap.size ≤ bb by omega) (vrow 3 (i3 (mxM P (k, j)))))))
                go_roundw
                case rel => exact ⟨j + 1, by omega, by go_num, by rw [hz3, hst2.out, e9]; rfl, X.out, Z.out, by rw [hz3, hst2.out, e9]; exact V.out, hB.out⟩
                case measure => simp [intOf]; omega
              · have hzz : (k == 0 && j == 0) = false := by
                  rw [Bool.and_eq_false_iff]
                  by_cases h : k = 0
                  · right; simp; omega
                  · left; simpa using h
                rw [hzz] at V
                rw [hzz]
                have eL : lsM false v P s1 = oM3 v P s1 := rfl
                rw [eL]
                have dL : decide (oM3 v P s1 < 0) = false := by simp; omega
                clear hkj hzz eL hs1 hs00
                by_cases hd : oM3 v P (k, j) < oM3 v P s1
                · have e9 : kpM v P s1 (k, j) = (k, j) := if_pos hd
                  have dd : decide (oM3 v P (k, j) < oM3 v P s1) = true := decide_eq_true hd
                  clear hd
                  go_wp2
                  refine region_at (by kernel_rfl) (by kernel_rfl) ?_
                  intro W hW
                  rw [hW] at hB X Z V
                  clear hW
                  have X' := Go.Lib.hid (cls_row' X.out)
                  (repeat (first
                    | go_big_quiet_skip
                    | (refine wpQuiet_load1 2 _ rfl (by first | exact want_n rfl | exact want_g _ _ _ rfl rfl rfl) w.heap.size 0 rfl 3 (i3 v) _ rw_i64M X'.out (by omega) ?_; rw [F0.out]; simp only [Act.put, List.setIfInBounds_toArray, List.set_cons_succ, List.set_cons_zero])
                    | (refine wpQuiet_load1 2 _ rfl (by first | exact want_n rfl | exact want_g _ _ _ rfl rfl rfl) w.heap.size 1 rfl 3 (i3 v) _ rw_i64M X'.out (by omega) ?_; rw [F1.out]; simp only [Act.put, List.setIfInBounds_toArray, List.set_cons_succ, List.set_cons_zero])
                    | (refine wpQuiet_load1 2 _ rfl (by first | exact want_n rfl | exact want_g _ _ _ rfl rfl rfl) w.heap.size 2 rfl 3 (i3 v) _ rw_i64M X'.out (by omega) ?_; rw [F2.out]; simp only [Act.put, List.setIfInBounds_toArray, List.set_cons_succ, List.set_cons_zero])
                    | go_big_quiet_step ((go_at_call 9; first | exact cls_call _ (fun w hw => H0.out w) | exact cls_call _ (fun w hw => H1.out w) | exact cls_call _ (fun w hw => H2.out w)))))
                  refine wpQuiet_nil ?_
                  intro W2 hb
                  replace X := Go.Lib.hid (row_next hb X.out); replace Z := Go.Lib.hid (row_next hb Z.out); replace V := Go.Lib.hid (row_next hb V.out); replace hB := Go.Lib.hid (below_next hB.out hb)
                  clear hb X'
                  go_wp2_with (first
                    | go_skip
                    | ((with_reducible refine wlAt 95 rfl ?_); refine wpList_built rfl 22 [(0, .tmp 92), (1, .tmp 93), (2, .tmp 94)] rfl [(0, .int .i64 k), (1, .int .i64 j), (2, .int .i64 (P - k - j))] (by rfl) _ (built_tri k j (P - k - j)) ?_; rw [hmd.out])
                    | ((with_reducible refine wlOp (.store 22 (.tmp 10) (.tmp 95)) rfl ?_); refine wpList_storeall rfl 22 (.tmp 10) (.tmp 95) rfl bb rfl 3 (i3 (bsM false P s1)) (i3 (mxM P (k, j))) rfl 22 size_i3 V.out (fun i _ => i3_one _ i) ?_; replace V := Go.Lib.hid (row_set V.out (vrow 3 (i3 (mxM P (k, j))))); replace X := Go.Lib.hid (row_set' (g := bb) (by omega) X.out (vrow 3 (i3 (mxM P (k, j))))); replace Z := Go.Lib.hid (row_set' (g := bb) (by omega) Z.out (vrow 3 (i3 (mxM P (k, j))))); replace hB := Go.Lib.hid (Below_setRow hB.out (show w.heap.size ≤ bb by omega) (vrow 3 (i3 (mxM P (k, j)))))))
                  go_roundw
                  case rel => exact ⟨j + 1, by omega, by go_num, by rw [hz3, hst2.out, e9]; rfl, X.out, Z.out, by rw [hz3, hst2.out, e9]; exact V.out, hB.out⟩
                  case measure => simp [intOf]; omega
                · have e9 : kpM v P s1 (k, j) = s1 := if_neg hd
                  have dd : decide (oM3 v P (k, j) < oM3 v P s1) = false := decide_eq_false hd
                  clear hd
                  go_wp2
                  refine region_at (by kernel_rfl) (by kernel_rfl) ?_
                  intro W hW
                  rw [hW] at hB X Z V
                  clear hW
                  have X' := Go.Lib.hid (cls_row' X.out)
                  (repeat (first
                    | go_big_quiet_skip
                    | (refine wpQuiet_load1 2 _ rfl (by first | exact want_n rfl | exact want_g _ _ _ rfl rfl rfl) w.heap.size 0 rfl 3 (i3 v) _ rw_i64M X'.out (by omega) ?_; rw [F0.out]; simp only [Act.put, List.setIfInBounds_toArray, List.set_cons_succ, List.set_cons_zero])
                    | (refine wpQuiet_load1 2 _ rfl (by first | exact want_n rfl | exact want_g _ _ _ rfl rfl rfl) w.heap.size 1 rfl 3 (i3 v) _ rw_i64M X'.out (by omega) ?_; rw [F1.out]; simp only [Act.put, List.setIfInBounds_toArray, List.set_cons_succ, List.set_cons_zero])
                    | (refine wpQuiet_load1 2 _ rfl (by first | exact want_n rfl | exact want_g _ _ _ rfl rfl rfl) w.heap.size 2 rfl 3 (i3 v) _ rw_i64M X'.out (by omega) ?_; rw [F2.out]; simp only [Act.put, List.setIfInBounds_toArray, List.set_cons_succ, List.set_cons_zero])
                    | go_big_quiet_step ((go_at_call 9; first | exact cls_call _ (fun w hw => H0.out w) | exact cls_call _ (fun w hw => H1.out w) | exact cls_call _ (fun w hw => H2.out w)))))
                  refine wpQuiet_nil ?_
                  intro W2 hb
                  replace X := Go.Lib.hid (row_next hb X.out); replace Z := Go.Lib.hid (row_next hb Z.out); replace V := Go.Lib.hid (row_next hb V.out); replace hB := Go.Lib.hid (below_next hB.out hb)
                  clear hb X'
                  go_wp2_with (first | go_skip | fail)
                  go_roundw
                  case rel => exact ⟨j + 1, by omega, by go_num, by rw [hz3, hst2.out, e9]; rfl, X.out, Z.out, by rw [hz3, hst2.out, e9]; exact V.out, hB.out⟩
                  case measure => simp [intOf]; omega
            · obtain rfl : j = n - k + 1 := by omega
              have hkd2 : decide ((k : Int) + (n - k + 1 : Nat) ≤ P) = false := by simp; omega
              have hzz : (k == 0 && (n - k + 1) == 0) = false := by simp
              rw [hzz] at V
              rw [hzz]
              go_wp2
              go_roundw
              case rel => exact ⟨k + 1, by omega, by go_num, by rw [hst.out]; rfl, X.out, Z.out, by rw [hst.out]; exact V.out, hB.out⟩
              case measure => simp [intOf]; omega
        · obtain rfl : k = n + 1 := by omega
          have hkd : decide (((n + 1 : Nat) : Int) ≤ P) = false := by simp; omega
          have hz1 : ((n + 1) == 0) = false := by simp
          rw [hz1] at V
          rw [hz1]
          have eV : bsM false P (outM v P n (n + 1)) = mxM P (outM v P n (n + 1)) := rfl
          have eL : lsM false v P (outM v P n (n + 1)) = oM3 v P (outM v P n (n + 1)) := rfl
          rw [eV] at V
          rw [eL]
          clear eV eL
          obtain ⟨s9, h9⟩ : ∃ z, outM v P n (n + 1) = z := ⟨_, rfl⟩
          rw [h9] at V ⊢
          replace h9 := Go.Lib.hid h9
          go_wp2_with (first
            | go_skip
            | ((with_reducible refine wlAt 97 rfl ?_); refine wpList_loadall rfl 22 (.tmp 10) rfl bb rfl 3 (i3 (mxM P s9)) 22 _ Tryd.underlying22 rfl size_i3 V.out ?_)
            | ((with_reducible refine wlOp (.store 22 (.tmp 4) (.tmp 97)) rfl ?_); refine wpList_storeall rfl 22 (.tmp 4) (.tmp 97) rfl (w.heap.size + 1) rfl 3 (fun _ => .int .i64 0) (i3 (mxM P s9)) rfl 22 size_i3 Z.out (fun i _ => i3_one _ i) ?_; replace Z := Go.Lib.hid (row_set Z.out (vrow 3 (i3 (mxM P s9)))); replace hB := Go.Lib.hid (Below_setRow hB.out (show w.heap.size ≤ w.heap.size + 1 by omega) (vrow 3 (i3 (mxM P s9))))))
          exact ret_row3 Tryd.results4 (w.heap.size + 1) 3 (i3 (mxM P s9)) 22 _ Tryd.underlying22 rfl size_i3 (.int .i64 (oM3 v P s9)) (.int .i64 0) rfl rfl rfl rfl Z.out ⟨by rw [h9.out], hB.out⟩
end Go.Proofs.YtdagbddmgeoanaaDoor
