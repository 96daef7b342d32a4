import Derived.StillTail
import Derived.StillTailTactics
import Derived.Deep.RegionHeld3
import Derived.Test.YtmcpaangofdmpaaDoorFoV
import Derived.Test.YtmcpaangofdmpaaDoorPathE
import Derived.Test.YtmcpaangofdmpaaDoorSlPs
namespace Go.Proofs.YtmcpaangofdmpaaDoor
open Go.RowKit
set_option maxRecDepth 100000
set_option linter.unusedVariables false
set_option linter.unusedSimpArgs false
theorem rw_blF : (Tryd.prog.underlying 4).map (·.isRow) = some false := by kernel_rfl
set_option maxHeartbeats 1000000 in
theorem eqFo_any (ax : Int) (d : Bool) (p : Int) (w : World) : Calls Tryd.prog 30 #[.agg (vrow 3 (foAt ax d p)), .agg (vrow 3 (foAt ax d p))] w fun e w' => e = .returned (.bool true) ∧ Below w.heap.size w w' := by
  have P : Hid (((w.alloc (.cells (vrow 3 (foAt ax d p)) 38)).alloc (.cells (vrow 3 (foAt ax d p)) 38)).heap[w.heap.size]? = some (.cells (vrow 3 (foAt ax d p)) 38)) := (heap_past _ _ _ _ (by simp <;> omega) (heap_at _ _ _ (by simp)))
  have R : Hid (((w.alloc (.cells (vrow 3 (foAt ax d p)) 38)).alloc (.cells (vrow 3 (foAt ax d p)) 38)).heap[w.heap.size + 1]? = some (.cells (vrow 3 (foAt ax d p)) 38)) := (heap_at _ _ _ (by simp))
  have hB : Hid (Below w.heap.size w ((w.alloc (.cells (vrow 3 (foAt ax d p)) 38)).alloc (.cells (vrow 3 (foAt ax d p)) 38))) := Go.Lib.hid (((Below.refl w.heap.size w).alloc (by simp <;> omega) _).alloc (by simp <;> omega) _)
  have hdd : (d != d) = false := by simp
  go_enter Tryd.func30, Tryd.ntmps30
  go_wp2_with (first
    | go_skip
    | ((with_reducible refine wlAt 6 rfl ?_); refine wpList_ld1 22 _ rfl (by first | exact want_n rfl | exact want_g _ _ _ rfl rfl rfl) (w.heap.size) 0 rfl 3 (foAt ax d p) _ rw_i8 P.out (by omega) ?_; rw [foAt_0])
    | ((with_reducible refine wlAt 8 rfl ?_); refine wpList_ld1 22 _ rfl (by first | exact want_n rfl | exact want_g _ _ _ rfl rfl rfl) (w.heap.size + 1) 0 rfl 3 (foAt ax d p) _ rw_i8 R.out (by omega) ?_; rw [foAt_0])
    | ((with_reducible refine wlAt 11 rfl ?_); refine wpList_ld1 4 _ rfl (by first | exact want_n rfl | exact want_g _ _ _ rfl rfl rfl) (w.heap.size) 1 rfl 3 (foAt ax d p) _ rw_blF P.out (by omega) ?_; rw [foAt_1])
    | ((with_reducible refine wlAt 13 rfl ?_); refine wpList_ld1 4 _ rfl (by first | exact want_n rfl | exact want_g _ _ _ rfl rfl rfl) (w.heap.size + 1) 1 rfl 3 (foAt ax d p) _ rw_blF R.out (by omega) ?_; rw [foAt_1])
    | ((with_reducible refine wlAt 16 rfl ?_); refine wpList_ld1 22 _ rfl (by first | exact want_n rfl | exact want_g _ _ _ rfl rfl rfl) (w.heap.size) 2 rfl 3 (foAt ax d p) _ rw_i8 P.out (by omega) ?_; rw [foAt_2])
    | ((with_reducible refine wlAt 18 rfl ?_); refine wpList_ld1 22 _ rfl (by first | exact want_n rfl | exact want_g _ _ _ rfl rfl rfl) (w.heap.size + 1) 2 rfl 3 (foAt ax d p) _ rw_i8 R.out (by omega) ?_; rw [foAt_2]))
  go_ret
  exact ⟨rfl, hB.out⟩
/-- folds as values -/
def fvals (l : List (Int × Bool × Int)) : List Value := l.flatMap fun t => [.int .i8 t.1, .bool t.2.1, .int .i8 t.2.2]
theorem fvals_app (l m : List (Int × Bool × Int)) : fvals (l ++ m) = fvals l ++ fvals m := by simp [fvals]
theorem fvals_one (t : Int × Bool × Int) : fvals [t] = [.int .i8 t.1, .bool t.2.1, .int .i8 t.2.2] := by simp [fvals]
theorem fvals_get (l : List (Int × Bool × Int)) (i : Nat) (hi : i < l.length) : (fvals l)[i * 3]? = some (.int .i8 (l[i]'hi).1) ∧ (fvals l)[i * 3 + 1]? = some (.bool (l[i]'hi).2.1) ∧ (fvals l)[i * 3 + 2]? = some (.int .i8 (l[i]'hi).2.2) := by
  induction l generalizing i with
  | nil => simp at hi
  | cons t l ih =>
    cases i with
    | zero => simp [fvals]
    | succ i =>
      have := ih i (by simpa using hi)
      simp only [fvals, List.flatMap_cons] at *
      rw [show (i + 1) * 3 = i * 3 + 3 by omega]
      simpa [List.getElem?_cons_succ, Nat.add_right_comm] using this
theorem row_fo3 (f : Nat → Value) (o : Nat) (u : Int) (v : Bool) (m : Int) (h0 : f o = .int .i8 u) (h1 : f (o + 1) = .bool v) (h2 : f (o + 2) = .int .i8 m) : vrow 3 (fun i => f (o + i)) = vrow 3 (foAt u v m) := vrow_ext 3 (fun i => f (o + i)) (foAt u v m) fun i hi => by
  have : i = 0 ∨ i = 1 ∨ i = 2 := by omega
  rcases this with rfl | rfl | rfl
  · exact h0
  · exact h1
  · exact h2
/-- the first c cells of a row of folds are marked, from k -/
def mkF (f : Nat → Value) (k : Int) (c i : Nat) : Value := if i < c then (if i % 3 = 1 then .bool ((k + i) % 3 == 0) else .int .i8 (IntKind.i8.wrap (k + i))) else f i
theorem mkF_0 (f : Nat → Value) (k : Int) (N : Nat) : vrow N (mkF f k 0) = vrow N f := vrow_ext _ _ _ fun i _ => by unfold mkF; rw [if_neg (by omega)]
theorem mkF_atA (f : Nat → Value) (k : Int) (c i : Nat) (h : i < c) (h3 : i % 3 ≠ 1) : mkF f k c i = .int .i8 (IntKind.i8.wrap (k + i)) := by unfold mkF; rw [if_pos h, if_neg h3]
theorem mkF_atB (f : Nat → Value) (k : Int) (c i : Nat) (h : i < c) (h3 : i % 3 = 1) : mkF f k c i = .bool ((k + i) % 3 == 0) := by unfold mkF; rw [if_pos h, if_pos h3]
theorem mkF_stepA (f : Nat → Value) (k z : Int) (N c : Nat) (hz : z = k + c) (h3 : c % 3 ≠ 1) : vrow N (over (mkF f k c) c 1 fun _ => .int .i8 (IntKind.i8.wrap z)) = vrow N (mkF f k (c + 1)) := vrow_ext _ _ _ fun i _ => by
  unfold over
  by_cases h : i = c
  · rw [if_pos (by omega), h, mkF_atA f k (c + 1) c (by omega) h3, hz]
  · rw [if_neg (by omega)]
    unfold mkF
    by_cases h2 : i < c
    · rw [if_pos h2, if_pos (show i < c + 1 by omega)]
    · rw [if_neg h2, if_neg (show ¬ i < c + 1 by omega)]
theorem mkF_stepB (f : Nat → Value) (k z : Int) (N c : Nat) (hz : z = k + c) (h3 : c % 3 = 1) : vrow N (over (mkF f k c) c 1 fun _ => .bool (z % 3 == 0)) = vrow N (mkF f k (c + 1)) := vrow_ext _ _ _ fun i _ => by
  unfold over
  by_cases h : i = c
  · rw [if_pos (by omega), h, mkF_atB f k (c + 1) c (by omega) h3, hz]
  · rw [if_neg (by omega)]
    unfold mkF
    by_cases h2 : i < c
    · rw [if_pos h2, if_pos (show i < c + 1 by omega)]
    · rw [if_neg h2, if_neg (show ¬ i < c + 1 by omega)]
theorem size_blF : (Tryd.prog.info? 4).map (·.size) = some 1 := by kernel_rfl
set_option maxHeartbeats 2000000 in
theorem markF_any (D n cap N : Nat) (f : Nat → Value) (k : Int) (w : World) (hn : n ≤ 1048576) (hN : n * 3 ≤ N) (hk : 0 ≤ k ∧ k ≤ 1048576) (h1 : w.heap[D]? = some (.cells (vrow N f) 38)) : Calls Tryd.prog 26 #[.slice (some ⟨D, 0, none⟩) n cap, .int .i64 k] w fun e w' => e = .returned (.int .i64 (k + n * 3)) ∧ w' = w.setRow D (vrow N (mkF f k (n * 3))) := by
  have R := Go.Lib.hid h1
  have hD := row_lt h1
  have E : Hid (w = w.setRow D (vrow N (mkF f k 0))) := Go.Lib.hid (by rw [mkF_0]; exact (setRow_selfK h1).symm)
  clear h1
  go_enter Tryd.func26, Tryd.ntmps26
  go_wp2
  go_loopw [1, 5] (fun kv iv wr => ∃ j : Nat, j ≤ n ∧ iv = .int .i64 j ∧ kv = .int .i64 (k + j * 3) ∧ wr = w.setRow D (vrow N (mkF f k (j * 3)))) (fun _ iv _ => n - (intOf iv).toNat)
  case atStart => exact ⟨0, by omega, rfl, by simp, E.out⟩
  case round =>
    obtain ⟨j, hj, rfl, rfl, rfl⟩ := hrel
    have R2 := Go.Lib.hid (row_set R.out (vrow N (mkF f k (j * 3))))
    by_cases hlt : j < n
    · have hkI : (j : Int) < n := by omega
      have hnl : (n : Int) ≤ 1048576 := by omega
      have hw : ∀ m : Int, 0 ≤ m → m ≤ 4500000 → IntKind.i64.wrap m = m := fun m h1 h2 => IntWalk.i64_in m (by omega)
      go_wp2_with (first
        | go_skip
        | ((with_reducible refine wlOp (.store 22 (.tmp 17) (.tmp 15)) rfl ?_); refine wpList_store1 rfl 22 (.tmp 17) (.tmp 15) rfl D (j * 3) rfl N (mkF f k (j * 3)) (.int .i8 (IntKind.i8.wrap (k + j * 3))) rfl 38 size_i8 R2.out (by omega) rfl ?_; rw [setRow_twiceK, mkF_stepA f k (k + j * 3) N (j * 3) (by omega) (by omega)]; replace R2 := Go.Lib.hid (row_set R.out (vrow N (mkF f k (j * 3 + 1)))))
        | ((with_reducible refine wlOp (.store 4 (.tmp 26) (.tmp 24)) rfl ?_); refine wpList_store1 rfl 4 (.tmp 26) (.tmp 24) rfl D (j * 3 + 1) rfl N (mkF f k (j * 3 + 1)) (.bool ((k + j * 3 + 1) % 3 == 0)) rfl 38 size_blF R2.out (by omega) rfl ?_; rw [setRow_twiceK, mkF_stepB f k (k + j * 3 + 1) N (j * 3 + 1) (by omega) (by omega)]; replace R2 := Go.Lib.hid (row_set R.out (vrow N (mkF f k (j * 3 + 1 + 1)))))
        | ((with_reducible refine wlOp (.store 22 (.tmp 34) (.tmp 32)) rfl ?_); refine wpList_store1 rfl 22 (.tmp 34) (.tmp 32) rfl D (j * 3 + 2) rfl N (mkF f k (j * 3 + 2)) (.int .i8 (IntKind.i8.wrap (k + j * 3 + 1 + 1))) rfl 38 size_i8 R2.out (by omega) rfl ?_; rw [setRow_twiceK, mkF_stepA f k (k + j * 3 + 1 + 1) N (j * 3 + 2) (by omega) (by omega)]; replace R2 := Go.Lib.hid (row_set R.out (vrow N (mkF f k (j * 3 + 2 + 1))))))
      go_roundw
      case rel => exact ⟨j + 1, by omega, by go_num, by go_num, by rw [show (j + 1) * 3 = j * 3 + 2 + 1 by omega]⟩
      case measure => simp [intOf]; omega
    · obtain rfl : j = n := by omega
      have hd : decide ((j : Int) < (j : Int)) = false := by simp
      go_wp2
      go_ret
      exact ⟨rfl, rfl⟩
set_option maxHeartbeats 2000000 in
theorem heldF_any (D n cap N : Nat) (f : Nat → Value) (k : Int) (w : World) (hn : n ≤ 1048576) (hN : n * 3 ≤ N) (hk : 0 ≤ k ∧ k ≤ 1048576) (h1 : w.heap[D]? = some (.cells (vrow N (mkF f k (n * 3))) 38)) : Calls Tryd.prog 27 #[.slice (some ⟨D, 0, none⟩) n cap, .int .i64 k] w fun e w' => e = .returned (.int .i64 (k + n * 3)) ∧ Below w.heap.size w w' := by
  have R := Go.Lib.hid h1
  clear h1
  go_enter Tryd.func27, Tryd.ntmps27
  go_wp2
  go_loopw [1, 5] (fun kv iv wr => ∃ j : Nat, j ≤ n ∧ iv = .int .i64 j ∧ kv = .int .i64 (k + j * 3) ∧ wr = w) (fun _ iv _ => n - (intOf iv).toNat)
  case atStart => exact ⟨0, by omega, rfl, by simp, rfl⟩
  case round =>
    obtain ⟨j, hj, rfl, rfl, rfl⟩ := hrel
    by_cases hlt : j < n
    · have hkI : (j : Int) < n := by omega
      have hnl : (n : Int) ≤ 1048576 := by omega
      have hw : ∀ m : Int, 0 ≤ m → m ≤ 4500000 → IntKind.i64.wrap m = m := fun m h1 h2 => IntWalk.i64_in m (by omega)
      go_wp2_with (first
        | go_skip
        | ((with_reducible refine wlAt 16 rfl ?_); refine wpList_load1 rfl 22 (.tmp 15) rfl D (j * 3) rfl N (mkF f k (n * 3)) _ _ Tryd.underlying22 rfl R.out (by omega) ?_; rw [mkF_atA f k (n * 3) (j * 3) (by omega) (by omega), show k + ((j * 3 : Nat) : Int) = k + j * 3 by omega])
        | ((with_reducible refine wlAt 26 rfl ?_); refine wpList_load1 rfl 4 (.tmp 25) rfl D (j * 3 + 1) rfl N (mkF f k (n * 3)) _ _ Tryd.underlying4 rfl R.out (by omega) ?_; rw [mkF_atB f k (n * 3) (j * 3 + 1) (by omega) (by omega), show k + ((j * 3 + 1 : Nat) : Int) = k + j * 3 + 1 by omega])
        | ((with_reducible refine wlAt 37 rfl ?_); refine wpList_load1 rfl 22 (.tmp 36) rfl D (j * 3 + 2) rfl N (mkF f k (n * 3)) _ _ Tryd.underlying22 rfl R.out (by omega) ?_; rw [mkF_atA f k (n * 3) (j * 3 + 2) (by omega) (by omega), show k + ((j * 3 + 2 : Nat) : Int) = k + j * 3 + 1 + 1 by omega]))
      go_roundw
      case rel => exact ⟨j + 1, by omega, by go_num, by go_num, by first | rfl | trivial⟩
      case measure => simp [intOf]; omega
    · obtain rfl : j = n := by omega
      have hd : decide ((j : Int) < (j : Int)) = false := by simp
      go_wp2
      go_ret
      exact ⟨rfl, Below.refl _ _⟩
/-- a row of folds -/
def rowF (f : Nat → Value) (L : List (Int × Bool × Int)) : Prop := ∀ k (h : k < L.length), vrow 3 (fun j => f (k * 3 + j)) = vrow 3 (foAt (L[k]'h).1 (L[k]'h).2.1 (L[k]'h).2.2)
/-- a slice of folds, that lies below B -/
def SlF (w : World) (v : Value) (L : List (Int × Bool × Int)) (B : Nat) : Prop := ∃ ao c, v = .slice ao L.length c ∧ (0 < L.length → ∃ D N f, ao = some ⟨D, 0, none⟩ ∧ D < B ∧ L.length * 3 ≤ N ∧ w.heap[D]? = some (.cells (vrow N f) 38) ∧ rowF f L)
theorem SlF.next {w w' : World} {v : Value} {L : List (Int × Bool × Int)} {B : Nat} (h : SlF w v L B) (hb : Below w.heap.size w w') : SlF w' v L B := by
  obtain ⟨ao, c, rfl, hr⟩ := h
  refine ⟨ao, c, rfl, fun hn => ?_⟩
  obtain ⟨D, N, f, h1, h2, h3, h4, h5⟩ := hr hn
  exact ⟨D, N, f, h1, h2, h3, row_next hb h4, h5⟩
theorem SlF.now {w : World} {v : Value} {L : List (Int × Bool × Int)} {B : Nat} (h : SlF w v L B) : SlF w v L w.heap.size := by
  obtain ⟨ao, c, rfl, hr⟩ := h
  refine ⟨ao, c, rfl, fun hn => ?_⟩
  obtain ⟨D, N, f, h1, h2, h3, h4, h5⟩ := hr hn
  exact ⟨D, N, f, h1, row_lt h4, h3, h4, h5⟩
theorem SlF.below {w w' : World} {v : Value} {L : List (Int × Bool × Int)} {B : Nat} (h : SlF w v L B) (hb : Below B w w') : SlF w' v L B := by
  obtain ⟨ao, c, rfl, hr⟩ := h
  refine ⟨ao, c, rfl, fun hn => ?_⟩
  obtain ⟨D, N, f, h1, h2, h3, h4, h5⟩ := hr hn
  exact ⟨D, N, f, h1, h2, h3, row_below hb h2 h4, h5⟩
set_option maxHeartbeats 2000000 in
theorem eqF0_any (a1 a2 : Option Addr) (c1 c2 : Nat) (w : World) : Calls Tryd.prog 21 #[.slice a1 0 c1, .slice a2 0 c2] w fun e w' => e = .returned (.bool true) ∧ Below w.heap.size w w' := by
  go_enter Tryd.func21, Tryd.ntmps21
  go_wp2
  go_loopw [5] (fun iv wr => iv = .int .i64 0 ∧ Below w.heap.size w wr) (fun _ _ => 0)
  case atStart => exact ⟨rfl, Below.refl _ _⟩
  case round =>
    obtain ⟨rfl, hB⟩ := hrel
    go_wp2
    go_ret
    exact ⟨rfl, hB⟩
set_option maxHeartbeats 2000000 in
theorem eqFN_any (L : List (Int × Bool × Int)) (D1 D2 n c1 c2 N1 N2 : Nat) (f1 f2 : Nat → Value) (w : World) (hl : L.length = n) (hn : n ≤ 1048576) (hN1 : n * 3 ≤ N1) (hN2 : n * 3 ≤ N2) (hf1 : rowF f1 L) (hf2 : rowF f2 L) (h1 : w.heap[D1]? = some (.cells (vrow N1 f1) 38)) (h2 : w.heap[D2]? = some (.cells (vrow N2 f2) 38)) : Calls Tryd.prog 21 #[.slice (some ⟨D1, 0, none⟩) n c1, .slice (some ⟨D2, 0, none⟩) n c2] w fun e w' => e = .returned (.bool true) ∧ Below w.heap.size w w' := by
  have R1 := Go.Lib.hid h1
  have R2 := Go.Lib.hid h2
  have hB := Go.Lib.hid (Below.refl w.heap.size w)
  have HF1 := Go.Lib.hid fun k (h : k < n) => hf1 k (by omega)
  have HF2 := Go.Lib.hid fun k (h : k < n) => hf2 k (by omega)
  clear h1 h2 hf1 hf2
  go_enter Tryd.func21, Tryd.ntmps21
  go_wp2
  go_loopw [5] (fun iv wr => ∃ k : Nat, k ≤ n ∧ iv = .int .i64 k ∧ wr.heap[D1]? = some (.cells (vrow N1 f1) 38) ∧ wr.heap[D2]? = some (.cells (vrow N2 f2) 38) ∧ Below w.heap.size w wr) (fun iv _ => n - (intOf iv).toNat)
  case atStart => exact ⟨0, by omega, rfl, R1.out, R2.out, hB.out⟩
  case round =>
    clear R1 R2 hB
    obtain ⟨k, hk, rfl, R1, R2, hB⟩ := hrel
    replace R1 := Go.Lib.hid R1; replace R2 := Go.Lib.hid R2; replace hB := Go.Lib.hid hB
    by_cases hlt : k < n
    · have hkI : (k : Int) < (n : Int) := by omega
      have hnl : (n : Int) ≤ 1048576 := by omega
      have hsz := hB.out.size
      go_wp2
      refine wp_region_still_tail 8 (by kernel_rfl) (by kernel_rfl) ?_
      simp only [List.take_succ_cons, List.take_zero, List.drop_succ_cons, List.drop_zero, World.drew_eq]
      repeat (first
        | (refine wpStill_loadmid rfl 38 (.tmp 19) rfl D1 (k * 3) rfl N1 3 f1 38 _ Tryd.underlying38 rfl size_fold R1.out (by omega) ?_; rw [HF1.out k hlt]; (try simp only [Act.put, List.setIfInBounds_toArray, List.set_cons_succ, List.set_cons_zero]))
        | (refine wpStill_loadmid rfl 38 (.tmp 23) rfl D2 (k * 3) rfl N2 3 f2 38 _ Tryd.underlying38 rfl size_fold R2.out (by omega) ?_; rw [HF2.out k hlt]; (try simp only [Act.put, List.setIfInBounds_toArray, List.set_cons_succ, List.set_cons_zero]))
        | still_step)
      refine wpStill_nil ?_
      replace R1 := Go.Lib.hid (drwP R1.out); replace R2 := Go.Lib.hid (drwP R2.out); replace hB := Go.Lib.hid (hB.out.drew)
      generalize World.drew _ = W2 at R1 R2 hB ⊢
      go_wp2_with (first
        | go_skip
        | (go_at_call 30; (refine (eqFo_any _ _ _ _).mono ?_); rintro o w1 ⟨rfl, hb⟩; replace R1 := Go.Lib.hid (row_next hb R1.out); replace R2 := Go.Lib.hid (row_next hb R2.out); replace hB := Go.Lib.hid (below_next hB.out hb); clear hb))
      go_roundw
      case rel => exact ⟨k + 1, by omega, by go_num, R1.out, R2.out, hB.out⟩
      case measure => simp [intOf]; omega
    · obtain rfl : k = n := by omega
      have hd : decide ((k : Int) < (k : Int)) = false := by simp
      go_wp2
      go_ret
      exact ⟨rfl, hB.out⟩
theorem eqF_any (v1 v2 : Value) (L : List (Int × Bool × Int)) (B1 B2 : Nat) (w : World) (hn : L.length ≤ 1048576) (h1 : SlF w v1 L B1) (h2 : SlF w v2 L B2) : Calls Tryd.prog 21 #[v1, v2] w fun e w' => e = .returned (.bool true) ∧ Below w.heap.size w w' := by
  obtain ⟨a1, c1, rfl, g1⟩ := h1
  obtain ⟨a2, c2, rfl, g2⟩ := h2
  rcases Nat.eq_zero_or_pos L.length with h0 | hp
  · rw [h0]; exact eqF0_any a1 a2 c1 c2 w
  · obtain ⟨D1, N1, f1, rfl, _, hN1, hr1, hf1⟩ := g1 hp
    obtain ⟨D2, N2, f2, rfl, _, hN2, hr2, hf2⟩ := g2 hp
    exact eqFN_any L D1 D2 L.length c1 c2 N1 N2 f1 f2 w rfl hn hN1 hN2 hf1 hf2 hr1 hr2
/-- the program's slice: of its own from B on -/
def PF (w : World) (v : Value) (L : List (Int × Bool × Int)) (B : Nat) : Prop := ∃ ao c, v = .slice ao L.length c ∧ (L.length = 0 ∨ ∃ g N f, ao = some ⟨g, 0, none⟩ ∧ B ≤ g ∧ L.length * 3 ≤ N ∧ w.heap[g]? = some (.cells (vrow N f) 38) ∧ rowF f L)
theorem PF.next {w w' : World} {v : Value} {L : List (Int × Bool × Int)} {B : Nat} (h : PF w v L B) (hb : Below w.heap.size w w') : PF w' v L B := by
  obtain ⟨ao, c, rfl, hr⟩ := h
  refine ⟨ao, c, rfl, hr.imp id ?_⟩
  rintro ⟨g, N, f, h1, h2, h3, h4, h5⟩
  exact ⟨g, N, f, h1, h2, h3, row_next hb h4, h5⟩
theorem PF.slp {w : World} {v : Value} {L : List (Int × Bool × Int)} {B : Nat} (h : PF w v L B) : SlF w v L w.heap.size := by
  obtain ⟨ao, c, rfl, hr⟩ := h
  refine ⟨ao, c, rfl, fun hn => ?_⟩
  rcases hr with h0 | ⟨g, N, f, h1, h2, h3, h4, h5⟩
  · omega
  · exact ⟨g, N, f, h1, row_lt h4, h3, h4, h5⟩
theorem own_pf {W : World} {base : Nat} {v : Value} {L : List (Int × Bool × Int)} (h : W.ownsRow base 38 3 v L.length (fvals L)) : PF W v L base := by
  rcases h.2 with ⟨rfl, h0⟩ | ⟨g, cap, cur, rfl, hg, _, _, _, _, _⟩
  · refine ⟨none, 0, ?_, .inl h0⟩
    rw [h0]
  · obtain ⟨f, h1, h2, h3⟩ := own_row_ofB h
    refine ⟨_, _, rfl, .inr ⟨g, cap * 3, f, rfl, hg, by omega, h1, fun k hk => ?_⟩⟩
    obtain ⟨d0, d1, d2⟩ := fvals_get L k hk
    exact row_fo3 f (k * 3) _ _ _ (h3 _ _ (by omega) d0) (h3 _ _ (by omega) d1) (h3 _ _ (by omega) d2)
def MF (w : World) (v : Value) (n : Nat) : Prop := ∃ ao c, v = .slice ao n c ∧ (n = 0 ∨ ∃ g N f, ao = some ⟨g, 0, none⟩ ∧ n * 3 ≤ N ∧ w.heap[g]? = some (.cells (vrow N (mkF f 1 (n * 3))) 38))
theorem MF.next {w w' : World} {v : Value} {n : Nat} (h : MF w v n) (hb : Below w.heap.size w w') : MF w' v n := by
  obtain ⟨ao, c, rfl, hr⟩ := h
  refine ⟨ao, c, rfl, hr.imp id ?_⟩
  rintro ⟨g, N, f, h1, h3, h4⟩
  exact ⟨g, N, f, h1, h3, row_next hb h4⟩
set_option maxHeartbeats 2000000 in
theorem markF0_any (ao : Option Addr) (c : Nat) (k : Int) (w : World) : Calls Tryd.prog 26 #[.slice ao 0 c, .int .i64 k] w fun e w' => e = .returned (.int .i64 k) ∧ Below w.heap.size w w' := by
  go_enter Tryd.func26, Tryd.ntmps26
  go_wp2
  go_loopw [1, 5] (fun kv iv wr => kv = .int .i64 k ∧ iv = .int .i64 0 ∧ Below w.heap.size w wr) (fun _ _ _ => 0)
  case atStart => exact ⟨rfl, rfl, Below.refl _ _⟩
  case round =>
    obtain ⟨rfl, rfl, hB⟩ := hrel
    go_wp2
    go_ret
    exact ⟨rfl, hB⟩
set_option maxHeartbeats 2000000 in
theorem heldF0_any (ao : Option Addr) (c : Nat) (k : Int) (w : World) : Calls Tryd.prog 27 #[.slice ao 0 c, .int .i64 k] w fun e w' => e = .returned (.int .i64 k) ∧ Below w.heap.size w w' := by
  go_enter Tryd.func27, Tryd.ntmps27
  go_wp2
  go_loopw [1, 5] (fun kv iv wr => kv = .int .i64 k ∧ iv = .int .i64 0 ∧ Below w.heap.size w wr) (fun _ _ _ => 0)
  case atStart => exact ⟨rfl, rfl, Below.refl _ _⟩
  case round =>
    obtain ⟨rfl, rfl, hB⟩ := hrel
    go_wp2
    go_ret
    exact ⟨rfl, hB⟩
theorem markPF (v : Value) (L : List (Int × Bool × Int)) (B : Nat) (w : World) (hn : L.length ≤ 1048576) (hB : B ≤ w.heap.size) (h : PF w v L B) : Calls Tryd.prog 26 #[v, .int .i64 1] w fun e w' => e = .returned (.int .i64 (1 + (L.length : Int) * 3)) ∧ MF w' v L.length ∧ Below B w w' := by
  obtain ⟨ao, c, rfl, hr⟩ := h
  rcases hr with h0 | ⟨g, N, f, rfl, hg, hN, hr, _⟩
  · rw [h0]
    refine (markF0_any ao c 1 w).mono ?_
    rintro e w' ⟨rfl, hb⟩
    exact ⟨by simp, ⟨ao, c, rfl, .inl rfl⟩, hb.mono hB⟩
  · refine (markF_any g L.length c N f 1 w hn hN ⟨by omega, by omega⟩ hr).mono ?_
    rintro e w' ⟨rfl, rfl⟩
    exact ⟨rfl, ⟨_, _, rfl, .inr ⟨g, N, f, rfl, hN, row_set hr _⟩⟩, Below_setRow (Below.refl _ _) hg _⟩
theorem heldMF (v : Value) (n : Nat) (w : World) (hn : n ≤ 1048576) (h : MF w v n) : Calls Tryd.prog 27 #[v, .int .i64 1] w fun e w' => e = .returned (.int .i64 (1 + (n : Int) * 3)) ∧ Below w.heap.size w w' := by
  obtain ⟨ao, c, rfl, hr⟩ := h
  rcases hr with rfl | ⟨g, N, f, rfl, hN, hr⟩
  · refine (heldF0_any ao c 1 w).mono ?_
    rintro e w' ⟨rfl, hb⟩
    exact ⟨by simp, hb⟩
  · exact heldF_any g n c N f 1 w hn hN ⟨by omega, by omega⟩ hr
end Go.Proofs.YtmcpaangofdmpaaDoor
